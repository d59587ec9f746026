import PyProof.Rows.All
import Wide.All
import OpenK.AllK
import Wide.FinOn
import Lean
import PyProof.EqAt
import PyProof.EqKinds
import PyProof.TupleCall
import PyProof.NeKinds
import PySem.Challenge.RW_tankbalance_k22_day_refused
set_option Elab.async false
set_option linter.all false
set_option maxRecDepth 100000
set_option maxHeartbeats 40000000
open PySem.W renaming Frag->Gs,nsIn->GJ,findIn->GQ,mroIn->Hq,mg_of->Hu,mg_none_of->Hw,keepIn->HC,fnOf->HJ,kitOne->HN,kia_one->HQ,excIn->HV,emptyDict->Ib,instObj->IB,plainGet->IT,hasDictIn->J4,codeIn->J9,makesIn->Jj,plainOver->Jn,specialIn->Jo,kitCls->Jv,exmOne->Jw,looks_findIn->Jy,takesIn->JJ,nd_pure->JN,methodCall_KW->Kk,hideAll_none->Kq,isFn->Ku,hideAll_get->KD,plainGet_of->KG,lookIn->KI,callWith_K->KN,methodObj->L6,takerIn->LK,OpenLaw->LP,cellsFrom_some->LS,typeIn->M5,looks_mroIn->ME,of_hideAll->ML,kitx_list->N4,kitx_dict->N5,handedIn->Nf,hideAll->Nq,kitMeta->NF,WalkO->NP,Looks->NQ,clsIn->NR
open PySem renaming Value->Gu,Str->Gv,Addr->Gw,Shared->Gx,starEach->Gy,wpAny_bind->Gz,Spec->GC,Expr->GD,mainGlobals->GG,wpAny_pure->GH,wpAny->GI,model->GN,Program->GP,eval->GW,Heap->GY,World->G_,boot_len->Ha,backTo->Hb,Around->Hd,Obj->Hi,Stmt->Hl,bootBuiltins->Ho,Pos->Hr,attributeBase->Hx,swapsWith->HA,NameKind->HD,wpAny_holding->HH,keywordEach->HM,FuncData->HX,assignEach->HY,Keyword->Ii,behindInMarks->Ij,sizeLine_eq->Ik,backToKw->Iq,compareOp->Ir,Env->Iz,wpAny_mono->IC,binaryOp->ID,wpAny_truthy_bool->IJ,foldedSetIterable->IK,Scope->IP,call_meets->IX,wpAny_Call_Name_kw->IY,bindArgs->J0,holding->J8,mem_of_lookup->Je,wpAny_pyIter_list->Jm,cLine->Jp,sliceBounds->JH,wpAny_passesOwn->JI,Tok->JP,getMethod->JQ,codeAny_mono->JR,tupleKind_room_in1->JV,standAt->J_,codeAny->K0,getItem->K1,wpAny_newObj_type->K6,assign->Kb,wpAny_standAt->Ke,wpAny_call_entry->Kg,Sem->Kj,plainObj_wpAny_Assign_Attribute->Ko,wpAny_execs_nil->Kt,IsPart->Kw,codeAny_call_builtin->Ky,unbindBehindTheSuite->Kz,callWith->KJ,seqIndex?->KO,wpAny_newList->L0,wpAny_call->Ld,valueAt->Li,callerA->Lj,Builtin->Lk,GenState->Ll,noFill_tuple_add->Lp,wpAny_typeOf->Lr,wpAny_comprehension_free->Lv,wpAny_check_ga_own->LA,wpAny_callSpecial?_slot->LD,tupleKind->LI,letOwnedTupleGo->LJ,atKey->LO,wpAny_field->LV,subscripted->LW,wpAny_Call_method_late->LZ,wpAny_isTrue_Compare1->M4,BindsTo->M6,fitsIndex_both->M7,argBest->Mb,CmpOp->Mj,bindL->Ml,bindC->Mm,seq_tuple_add->Mv,Within->MJ,wpAny_pyIter_tuple->MN,Result->MO,concat_meets->MT,seqIndex_neg->MV,noteFrame->MX,scanBound->MZ,Model->N2,relabel->N3,wpAny_sequenceKey->N7,slot_list_getitem->N8,seqIndex_of->Nc,builtinsNs->Nr,isTrue->Nt,wpAny_Name->Nu,typeIs_int->Nw,call->Ny,wpAny_rule->NA,spliced->NG,setItem->NH
open List renaming length_map->GA,size_toArray->GB,mem_cons->GK,map_cons->GL,mem_cons_self->GO,mem_singleton->GS,mem_cons_of_mem->GU,getElem?_eq_some_iff->GV,length_cons->GX,getElem?_map->Hg,mem_append_right->Hk,getElem?_eq_getElem->Hm,length_append->Hn,replicate->Hs,range->Hy,map_append->HB,mem_append_left->HE,mem_append->HP,pairwise_cons->HR,lookup_cons->HS,any_eq_true->HU,mem_range->HW,any_cons->I0,map_map->Ia,length_range->Ic,append_nil->Ig,mem_of_getElem?->Im,getElem?_cons_zero->Io,getElem?_cons_succ->Ip,replicate_succ->Iv,length_pos_iff->Iw,getD_eq_getElem?_getD->Iy,getElem?_append_left->IA,length_nil->IF,mem_map->IH,pairwise_map->IM,getElem?_replicate->IQ,getElem_of_mem->IS,not_mem_nil->IV,nodup_cons->I_,all_cons->J3,flatten_cons->J5,map_nil->Jb,filterMap_cons->Jd,mem_filter->Ji,find?_cons->Jk,getElem?_set->Jq,nodup_append->Jr,length_singleton->Js,toArray->Ju,getElem_mem->JB,getElem?_append->JC,getElem?_append_right->JD,lookup->JG,pairwise_iff_getElem->JL,drop_eq_getElem_cons->JM,eraseIdx_cons_succ->K5,reverse_cons->K7,append_assoc->K8,length_take->Kf,all_eq_true->Kh,length_replicate->Kl,length_filter_le->Kn,eraseIdxIfInBounds_toArray->Kp,getElem?_set_ne->Ks,map_congr_left->KH,mem_filterMap->KL,any_eq_false->L7,take_sublist->L8,getElem_inj->Lm,length_drop->Lq,filter_cons->LC,length_eq_zero_iff->LF,of_mem_zip->LL,length_set->LM,nil_append->LN,getElem?_set_self->LQ,length->LU,take_of_length_le->L_,dropLast_eq_take->M8,getElem?_toArray->Mc,min?_eq_some_iff->Md,max?_eq_some_iff->Mf,foldl->Mn,length_dropLast->Mp,mem_iff_getElem->Mq,zip->Mt,nodup_iff_count->Mu,getElem?_range->MD,filter_sublist->MF,getElem_map->Nh,nodup_range->Ni,countP_cons->Nj,drop_length->Nl,ext_getElem->Nn,isEmpty_map->Np,foldl_cons->Nx,count_cons->NB,idxOf_cons->NC,drop_zero->NK,nodup_nil->NM
open PySem.Heap renaming get?_push_of_some->GF,lt_size->GR,get?_push_size->He,size_push->IU,get?_none_of_le->Kr,SameBut->Ln,get?_update_other->LY
open Nat renaming le_refl->GZ,lt_of_lt_of_le->Hf,ne_of_lt->Hj,le_trans->Ht,lt_irrefl->H_,zero_le->Il,lt_succ_of_lt->IL,lt_succ_self->Jz,lt_of_le_of_lt->KP,add_sub_cancel->KQ,le_succ_of_le->Lc,le_of_eq->Lo,le_of_not_lt->Ls,zero_add->Lx,le_succ->LR,le_of_lt->MM,eq_zero_or_pos->N1,lt_trichotomy->N9
open Bool renaming false_ne_true->H9,false_eq_true->HF,and_eq_true->HZ,eq_iff_iff->IZ,or_eq_true->KA,not_true->L5,not_false->Mg,false_or->Mx,true_or->MW,and_false->NI,or_false->NO
open PySem.Value renaming ref->Hc,none->HL,type->J6,int->Jh,builtin->JE,str->Ki,bool->Mh,float->Na,isStrOf->NN,isInt->NW,bytes->NX
open Or renaming inr->Hh,inl->Hv
open Option.some renaming inj->HG,injEq->Lb
open PySem.F renaming plainAttrs_list->HI,slot_list_count->Jf,args_tuple_add_2->JS,slot_list_append->JW,type_list_append->JX,entry_tuple_add->K4,slot_tuple_add->Kc,args_list_count_2->Lf,entry_list_count->Ly,slot_tuple_count->LB,slot_list_index->LG,type_list_count->LH,slot_list_pop->M9,type_list_pop->Ma
open PyProof.Rows renaming slot_tuple_getitem->HK,envOfC->IE,callWith_type1->Jx,AllBare->JZ,step_dedup->K2,callWith_builtin1->Kv,tupleItemsOf_->KZ,IntsAre->Lh,subscriptTail_builtinR->LX,IsTup->Mi,subscriptTail->Mw,listUpdate_at->MA,entry_tuple_getitem->MB,args_tuple_getitem->MU,boot_range->Nb,seqEpoch_at->Nd,firstMet->Nk,Subscript_->Nv,sortedHeap->Nz
open PySem.NameKind renaming free->I9,cell->Mz
open False renaming elim->Ie
open PySem.Obj renaming mapSeq->Ih
open Array renaming length_toList->Iu,getElem?_toList->Km,getD_eq_getD_getElem?->KR,getElem?_eq_some_iff->L1,perm_iff_toList_perm->L3,getD->Mr,append_assoc->MK,map->MY,toList->NT
open Option renaming map_some->IG,isSome_map->L9,bind_some->Lu,bind->M1,getD_none->Ng,none->NZ
open Ne renaming symm->II
open True renaming intro->IW
open PySem.Builtin.Slice renaming slicePlaces->J7,sliceAdjust->JK,sliceApplied->KW
open PySem.Builtin.Tuple renaming tupleExact->Ja,tupleItemsOf->KY,tupleIsExact->L4
open PySem.Builtin.List renaming listTooLong->Jc,listFitsIndex->K_
open Int renaming eq_ofNat_of_zero_le->Jg,emod_nonneg->JO,emod_lt_of_pos->JY,natAbs->KC,lt_trans->Lw
open PySem.Calls renaming callWith_builtin->Jl,evalArgs_plain->JA,Name_function_global->KU,call_function_entry->Le,spliced_cons->MS,spliced_nil->N6
open List.Perm renaming refl->Jt,nil_eq->Nm,cons->NJ
open Sum renaming inl->JF,inr->Lg
open PySem.Str renaming ofString->JT,empty->MP
open PySem.SeqAt.EqAt renaming bool_bool->JU,int_int->Kd,int_str->MH,str_int->MI
open PySem.Builtin.Range renaming rangeSize->K3
open PySem.Builtin.Getset_descriptor renaming descrGet->K9,descrCheckInstance->M0,descrNameAndClass->M3,descrGetter->MG
open PySem.PassesOwn renaming leaving->Ka
open ForInStep renaming yield->Kx
open PySem.Paired renaming length->KS,snoc->NY
open List.Pairwise renaming nil->La
open PySem.SeqAt renaming list_countAt->Lz
open PySem.Walks renaming list->Ms
open PySem.Around renaming under->MQ
open PySem.Code renaming isFrame->MR,quiet_builtin->M_
open PySem.W.KF renaming slot_gs->N0
open PySem.Builtin.ObjectAttr renaming takesStores->ND,bindTo->NS,find->NV
open PySem.Builtin.Frozenset renaming updateFrom->NL
open PySem.Data renaming seq->NU
open PySem.Heap.IsSliceOf renaming new->N_
local macro_rules | `(tactic| omega) => `(tactic| lia)
noncomputable section
namespace L2
open PySem PySem.Spec PyProof.Rows
abbrev bD:=Sum Int Gv
def mY:bD->Gu->Bool
 | .inl k,v=>NW k v
 | .inr x,v=>NN x v
def EQ (w:G_):bD->Int
 | .inl k=>hashInt k
 | .inr x=>hashStr w x
theorem bM:∀{k:bD} {v:Gu},mY k v=true->(∃i t,k=JF i/\v=Jh i t)\/(∃x t,k=Lg x/\v=Ki x t)
 | .inl i,v,h=>by
  obtain⟨t,e⟩:=Value.isInt_shape (k:=i) (v:=v) h
  exact .inl ⟨i,t,rfl,e⟩
 | .inr x,v,h=>by
  obtain⟨t,e⟩:=Value.isStrOf_shape (x:=x) (v:=v) h
  exact .inr ⟨x,t,rfl,e⟩
theorem vc (i:Int) (t:JP):mY (.inl i) (.int i t)=true:=by simp[mY,NW]
theorem ve (x:Gv) (t:JP):mY (.inr x) (.str x t)=true:=by simp[mY,NN]
theorem B7 (a b:Int):decide ((JF a:bD)=JF b)=(a==b):=by
 by_cases e:a=b
 ·subst e;simp
 ·have h:¬(JF a:bD)=JF b:=λq=>e (Sum.inl.inj q)
  rw[decide_eq_false h]
  exact(beq_eq_false_iff_ne.mpr e).symm
theorem B8 (a b:Gv):decide ((Lg a:bD)=Lg b)=decide (a=b):=by
 by_cases e:a=b
 ·subst e;simp
 ·have h:¬(Lg a:bD)=Lg b:=λq=>e (Sum.inr.inj q)
  rw[decide_eq_false h,decide_eq_false e]
theorem B9 (a:Int) (b:Gv):decide ((JF a:bD)=Lg b)=false:=decide_eq_false (λq=>nomatch q)
theorem Bb (a:Gv) (b:Int):decide ((Lg a:bD)=JF b)=false:=decide_eq_false (λq=>nomatch q)
def cu (prog:GP) (w:G_):PySem.KeyKind prog w bD where
 is:=mY
 hash:=EQ w
 inj:=λv a b ha hb=>by
  rcases bM ha with ⟨i,t,rfl,rfl⟩|⟨x,t,rfl,rfl⟩
  ·rcases bM hb with ⟨j,u,rfl,e⟩|⟨y,u,rfl,e⟩
   ·injection e with e1 _;rw[e1]
   ·exact nomatch e
  ·rcases bM hb with ⟨j,u,rfl,e⟩|⟨y,u,rfl,e⟩
   ·exact nomatch e
   ·injection e with e1 _;rw[e1]
 byValue:=λk v h=>by
  rcases bM h with ⟨i,t,rfl,rfl⟩|⟨x,t,rfl,rfl⟩<;>rfl
 pyHash:=λhv h=>by
  rcases bM hv with ⟨i,t,rfl,rfl⟩|⟨x,t,rfl,rfl⟩
  ·exact wpAny_pyHash_int h
  ·exact wpAny_pyHash_str h
 eqBool:=λhu hv h=>by
  rcases bM hu with ⟨i,t,rfl,rfl⟩|⟨x,t,rfl,rfl⟩
  ·rcases bM hv with ⟨j,u,rfl,rfl⟩|⟨y,u,rfl,rfl⟩
   ·rw[B7]at h;exact wpAny_eqBool_int h
   ·rw[B9]at h;exact MH i t y u _ _ _ _ h
  ·rcases bM hv with ⟨j,u,rfl,rfl⟩|⟨y,u,rfl,rfl⟩
   ·rw[Bb]at h;exact MI x t j u _ _ _ _ h
   ·rw[B8]at h;exact wpAny_eqBool_str h
 «strs»:=λk x t v h=>by
  rcases bM h with ⟨i,u,rfl,e⟩|⟨y,u,rfl,e⟩
  ·exact nomatch e
  ·injection e with e1 _
   subst e1
   cases v<;>rfl
theorem qV (prog:GP) (w:G_) (i:Int) (t:JP):(cu prog w).is (.inl i) (.int i t)=true:=vc i t
theorem qW (prog:GP) (w:G_) (x:Gv) (t:JP):(cu prog w).is (.inr x) (.str x t)=true:=ve x t
end L2
namespace L2
open PySem PySem.Spec PyProof.Rows
inductive V where
 |non|bl (b:Bool)|int (i:Int)|str (x:Gv)|byt (b:Array UInt8)|flt (b:UInt64)|ref (a:Gw)|ty (n:String)
 deriving DecidableEq
def b6:V->Gu->Prop
 | .non,u=>u=HL
 | .bl b,u=>u=Mh b
 | .int i,u=>∃t,u=Jh i t
 | .str x,u=>∃t,u=Ki x t
 | .byt b,u=>∃t,u=NX b t
 | .flt b,u=>∃t,u=Na b t
 | .ref a,u=>u=Hc a
 | .ty n,u=>u=J6 n
abbrev aL:List V->List Gu->Prop:=Paired b6
theorem aL.length {xs:List V} {us:List Gu} (r:aL xs us):xs.length=us.length:=KS r
theorem aL.get:∀{xs:List V} {us:List Gu} {i:Nat} {x:V},aL xs us->xs[i]? =some x->∃u,us[i]? =some u/\b6 x u
 |_,_,_,_, .nil,e=>by simp at e
 |_,_,0,_, .cons r _,e=>by simp at e;subst e;exact⟨_,rfl,r⟩
 |_,_,i+1,x, .cons _ t,e=>by
  obtain⟨u,h1,h2⟩:=aL.get (i:=i) (x:=x) t (by simpa using e)
  exact⟨u,by simpa using h1,h2⟩
theorem aL.set {x:V} {u:Gu} (r:b6 x u):∀{xs:List V} {us:List Gu} (i:Nat),aL xs us->aL (xs.set i x) (us.set i u)
 |_,_,_, .nil=> .nil
 |_,_,0, .cons _ t=> .cons r t
 |_,_,i+1, .cons q t=> .cons q (aL.set r i t)
theorem aL.append:∀{xs ys:List V} {us ws:List Gu},aL xs us->aL ys ws->aL (xs++ys) (us++ws)
 |_,_,_,_, .nil,s=>s
 |_,_,_,_, .cons r t,s=> .cons r (aL.append t s)
theorem aL.take:∀{xs:List V} {us:List Gu} (n:Nat),aL xs us->aL (xs.take n) (us.take n)
 |_,_,0,_=> .nil
 |_,_,_+1, .nil=> .nil
 |_,_,n+1, .cons r t=> .cons r (aL.take n t)
theorem aL.drop:∀{xs:List V} {us:List Gu} (n:Nat),aL xs us->aL (xs.drop n) (us.drop n)
 |_,_,0,r=>r
 |_,_,_+1, .nil=> .nil
 |_,_,n+1, .cons _ t=>aL.drop n t
def iE:Option V->Option Gu->Prop
 |some v,some u=>b6 v u
 |none,none=>True
 |_,_=>False
def KV {κ:Type}:List (κ×V)->List (κ×Gu)->Prop:=Paired λ(p:κ×V) (q:κ×Gu)=>p.1=q.1/\b6 p.2 q.2
def kV:bD->V
 | .inl i=> .int i
 | .inr x=> .str x
inductive HO where
 |lst (xs:List V)
 |tup (xs:List V)
 |dK (kvs:List (bD×V))|dT (kvs:List (List bD×V))
 |set (S:Int->Bool) (n:Nat)
 |ins (C dx:Gw) (fs:List (Gv×V))
 |own (x:Gw)
 |xd (fs:List (Gv×V))
 |met (f x:Gw)
 |rng (lo hi:Int)
 |frz (o:Hi) (u:HO)
 |tbl (ps:Array Gu)
 |ext (φ:GY->Prop)
abbrev Hp:=Gw->Option HO
def b9 (H:Hp) (a:Gw) (o:HO):Hp:=λb=>if b=a then some o else H b
theorem au {H:Hp} {a:Gw} {o:HO}:b9 H a o a=some o:=by unfold b9;rw[if_pos rfl]
theorem ao {H:Hp} {a b:Gw} {o:HO} (h:b≠a):b9 H a o b=H b:=by unfold b9;rw[if_neg h]
theorem De {H:Hp} {a b:Gw} {o u:HO} (h:H a=some o) (h':H b=some u) (d:o≠u):a≠b:=by
 intro e;subst e;rw[h]at h';exact d (HG h')
theorem c6 {H:Hp} {a b:Gw} {o:HO} (h:H a=some o) (h':H b=none):a≠b:=by
 intro e;subst e;rw[h]at h';cases h'
def gD (h:GY) (a:Gw) (O2:Array Gu):Prop:=∃o,h.get? a=some o/\o.cls= .type "tuple"/\∃n,o.data= .seq O2 n/\o.dict=none
theorem gD.tup {h:GY} {a:Gw} {O2:Array Gu} (x:gD h a O2):Mi h a O2:=let ⟨o,ho,hc,n,hd,_⟩:=x;⟨o,ho,hc,n,hd⟩
theorem gD.lt {h:GY} {a:Gw} {O2:Array Gu} (x:gD h a O2):a<h.objs.size:=x.tup.lt
theorem gD.new (h:GY) (O2:Array Gu):gD (h.push {cls:= .type "tuple",data:= .seq O2}) h.objs.size O2:=⟨_,He _ rfl,rfl,_,rfl,rfl⟩
section
variable (P:GP) (w:G_)
def bp (H:Hp) (h:GY) (a:Gw):HO->Prop
 | .lst xs=>xs.length<=sizeLine/\∃(its:List Gu) (n:Nat),aL xs its/\h.get? a=some {cls:= .type "list",data:= .seq its.toArray n}
 | .tup xs=>xs.length<=sizeLine/\∃its:List Gu,aL xs its/\gD h a its.toArray
 | .dK kvs=>kvs.length<=sizeLine/\(a==sysModules)=false/\∃vs,KV kvs vs/\h.DictOf (cu P w) a vs
 | .dT kvs=>kvs.length<=sizeLine/\(a==sysModules)=false/\∃xs:List (List bD×Gw×Gu),
   Paired (λ(p:List bD×V) (q:List bD×Gw×Gu)=>p.1=q.1/\H q.2.1=some (.tup (p.1.map kV))/\b6 p.2 q.2.2) kvs xs/\
   ∃o es ep,h.get? a=some o/\o.ExactDict/\o.data= .dict es ep/\es.toList=xs.map (entryOfKey (LI (cu P w)))/\(xs.map (·.1)).Nodup
 | .set S n=>h.SetOf (intKind P w) a S n
 | .ins C dx fs=>H dx=some (.own a)/\fs.length<=1000/\dx≠a/\h.get? a=some (IB C dx)/\
   ∃mA,h.Ns1 dx mA/\(∀f,iE (fs.lookup f) (mA f))/\MJ mA (fs.map (·.1))
 | .own _=>∃o,h.get? a=some o
 | .xd fs=>∃mA,h.Ns1 a mA/\∀f,iE (fs.lookup f) (mA f)
 | .rng lo hi=>∃t u v,h.get? a=some {cls:= .type "range",data:= .fields #[.int lo t, .int hi u, .int 1 v]}
 | .frz o u=>h.get? a=some o/\bp H h a u
 | .tbl ps=>h.get? a=some {cls:= .none,data:= .fields ps}
 | .met f x=>h.get? a=some (L6 (.ref f) (.ref x))
 | .ext φ=>φ h/\(∃o,h.get? a=some o)/\∀h1 h2:GY,φ h1->(∀o,h1.get? a=some o->h2.get? a=some o)->φ h2
def iK (H:Hp) (h:GY):Prop:=∀a o,H a=some o->bp P w H h a o
end
section
variable {P:GP} {w:G_} {H H':Hp} {h h':GY} {a:Gw} {o:HO}
theorem bp.lt (x:bp P w H h a o):a<h.objs.size:=by
 cases o with
 |lst xs=>obtain⟨_,_,_,_,e⟩:=x;exact GR e
 |tup xs=>obtain⟨_,_,_,p⟩:=x;exact p.lt
 |dK kvs=>obtain⟨_,_,_,_,o,_,_,e,_⟩:=x;exact GR e
 |dT kvs=>obtain⟨_,_,_,_,o,_,_,e,_⟩:=x;exact GR e
 |set S n=>obtain⟨o,_,_,_,e,_⟩:=x;exact GR e
 |ins C dx fs=>obtain⟨_,_,_,e,_⟩:=x;exact GR e
 |own y=>obtain⟨_,e⟩:=x;exact GR e
 |xd fs=>obtain⟨_,⟨_,_,_,e,_⟩,_⟩:=x;exact GR e
 |rng lo hi=>obtain⟨_,_,_,e⟩:=x;exact GR e
 |frz ob u=>obtain⟨e,_⟩:=x;exact GR e
 |tbl ps=>exact GR (show h.get? a=some _ from x)
 |met f y=>exact GR (show h.get? a=some _ from x)
 |ext φ=>obtain⟨_,⟨_,e⟩,_⟩:=x;exact GR e
theorem Paired.mapP {α β:Type} {F G:α->β->Prop}:∀{l₁:List α} {l₂:List β},Paired F l₁ l₂->(∀a b,F a b->G a b)->Paired G l₁ l₂
 |_,_, .nil,_=> .nil
 |_,_, .cons r t,f=> .cons (f _ _ r) (Paired.mapP t f)
theorem bp.stay (x:bp P w H h a o) (k:∀b u,(b=a\/H b=some (.own a))->h.get? b=some u->h'.get? b=some u)
  (ho:∀b,H b=some (.own a)->H' b=some (.own a)) (ht:∀b xs,H b=some (.tup xs)->H' b=some (.tup xs)):bp P w H' h' a o:=by
 induction o with
 |lst xs=>obtain⟨z,its,n,r,e⟩:=x;exact⟨z,its,n,r,k _ _ (.inl rfl) e⟩
 |tup xs=>obtain⟨z,its,r,ob,e,c⟩:=x;exact⟨z,its,r,ob,k _ _ (.inl rfl) e,c⟩
 |dK kvs=>obtain⟨z,y,vs,r,ob,es,ep,e,c⟩:=x;exact⟨z,y,vs,r,ob,es,ep,k _ _ (.inl rfl) e,c⟩
 |dT kvs=>
  obtain⟨z,y,xs,r,ob,es,ep,e,c⟩:=x
  exact⟨z,y,xs,Paired.mapP r λp q z=>⟨z.1,ht _ _ z.2.1,z.2.2⟩,ob,es,ep,k _ _ (.inl rfl) e,c⟩
 |set S n=>obtain⟨ob,es,ep,t,e,c⟩:=x;exact⟨ob,es,ep,t,k _ _ (.inl rfl) e,c⟩
 |ins C dx fs=>
  obtain⟨d,z,ne,e,mA,⟨od,es,ep,e2,c⟩,r⟩:=x
  exact⟨ho _ d,z,ne,k _ _ (.inl rfl) e,mA,⟨od,es,ep,k _ _ (.inr d) e2,c⟩,r⟩
 |own y=>obtain⟨ob,e⟩:=x;exact⟨ob,k _ _ (.inl rfl) e⟩
 |xd fs=>obtain⟨mA,⟨od,es,ep,e,c⟩,r⟩:=x;exact⟨mA,⟨od,es,ep,k _ _ (.inl rfl) e,c⟩,r⟩
 |rng lo hi=>obtain⟨t,u,v,e⟩:=x;exact⟨t,u,v,k _ _ (.inl rfl) e⟩
 |frz ob u ih=>obtain⟨e,q⟩:=x;exact⟨k _ _ (.inl rfl) e,ih q⟩
 |tbl ps=>
  have e:h.get? a=some {cls:= .none,data:= .fields ps}:=x
  show h'.get? a=some {cls:= .none,data:= .fields ps}
  exact k a _ (.inl rfl) e
 |met f y=>
  have e:h.get? a=some (L6 (.ref f) (.ref y)):=x
  show h'.get? a=some (L6 (.ref f) (.ref y))
  exact k a _ (.inl rfl) e
 |ext φ=>obtain⟨p,⟨o,e⟩,st⟩:=x;exact⟨st _ _ p λo q=>k _ _ (.inl rfl) q,⟨o,k _ _ (.inl rfl) e⟩,st⟩
theorem iK.lt (x:iK P w H h) (e:H a=some o):a<h.objs.size:=(x a o e).lt
theorem iK.fresh (x:iK P w H h) (e:h.objs.size<=a):H a=none:=by
 cases q:H a with
 |none=>rfl
 |some u=>exact absurd (Hf (x.lt q) e) (H_ _)
theorem iK.kept (x:iK P w H h) (k:∀b u,h.get? b=some u->h'.get? b=some u):iK P w H h':=λa o e=>
 (x a o e).stay (λb u _ q=>k b u q) (λ_ q=>q) λ_ _ q=>q
theorem iK.laid (x:iK P w H h) (k:∀b u,h.get? b=some u->h'.get? b=some u) (hp:h.objs.size<=a) (new:bp P w (b9 H a o) h' a o):iK P w (b9 H a o) h':=λb u e=>by
 have hn:=x.fresh hp
 by_cases hb:b=a
 ·subst hb;rw[au]at e;cases e;exact new
 ·rw[ao hb]at e
  exact(x b u e).stay (λc v _ q=>k c v q) (λc q=>by rw[ao (c6 q hn)];exact q) λc xs q=>by rw[ao (c6 q hn)];exact q
end
def Rd (H:Hp) (a:Gw) (u:HO):Prop:=H a=some u\/∃o,H a=some (.frz o u)
theorem Rd.of {H:Hp} {a:Gw} {u:HO} (h:H a=some u):Rd H a u:= .inl h
theorem Rd.ok {P:GP} {w:G_} {H:Hp} {h:GY} {a:Gw} {u:HO} (r:Rd H a u) (x:iK P w H h):bp P w H h a u:=by
 rcases r with r|⟨o,r⟩
 ·exact x a u r
 ·obtain⟨_,q⟩:=x a _ r
  exact q
def Df:Option HO->Prop
 |some (.lst _)=>True
 |some (.dK _)=>True
 |some (.dT _)=>True
 |some (.set _ _)=>True
 |some (.ins _ _ _)=>True
 |some (.ext _)=>True
 |_=>False
section
variable {P:GP} {w:G_} {H:Hp} {h h':GY} {x e:Gw} {o':HO}
theorem iK.write (ok:iK P w H h) (mu:Df (H x)) (he:e=x\/H e=some (.own x)) (k:∀b u,b≠e->h.get? b=some u->h'.get? b=some u) (Tc:∃u,h'.get? e=some u)
  (new:bp P w (b9 H x o') h' x o'):iK P w (b9 H x o') h':=λb u q=>by
 have Tn:∀c y,H c=some (.own y)->c≠x:=λc y r z=>by subst z;rw[r]at mu;exact mu
 have Ur:∀c xs,H c=some (.tup xs)->c≠x:=λc xs r z=>by subst z;rw[r]at mu;exact mu
 by_cases hb:b=x
 ·subst hb;rw[au]at q;cases q;exact new
 ·rw[ao hb]at q
  by_cases Sx:b=e
  ·have q':H b=some (.own x):=by
    rcases he with z|z
    ·exact absurd (Sx.trans z) hb
    ·rw[Sx];exact z
   rw[q]at q';cases q'
   obtain⟨v,hv⟩:=Tc
   exact⟨v,by rw[Sx];exact hv⟩
  ·refine(ok b u q).stay (λc v hc r=>k c v ?_ r) (λc r=>by rw[ao (Tn c b r)];exact r) λc xs r=>by rw[ao (Ur c xs r)];exact r
   rcases hc with rfl|hc
   ·exact Sx
   ·rintro rfl
    rcases he with z|z
    ·exact Tn c b hc z
    ·rw[hc]at z;cases z;exact hb rfl
end
structure Un (fs ex:List Gw) (H H':Hp) (h h':GY):Prop where
 keep:∀b o,h.get? b=some o->H b=none->b∉fs->b∉ex->h'.get? b=some o
 slot:∀b o,h.get? b=some o->H b=none->b∈fs->b∉ex->∃sl,h'.get? b=some {o with slots:=sl}
 free:∀b o,h.get? b=some o->H b=none->b∉ex->H' b=none
 there:∀b o,h.get? b=some o->b∉ex->∃o',h'.get? b=some o'
 tups:∀b xs,H b=some (.tup xs)->H' b=some (.tup xs)
 frzs:∀b o u,H b=some (.frz o u)->H' b=some (.frz o u)
 tbls:∀b ps,H b=some (.tbl ps)->∃more,H' b=some (.tbl (ps++more))
section
variable {fs QR ex XX:List Gw} {H H1 H2:Hp} {h h1 h2 h':GY} {a x e:Gw} {o:HO}
theorem Un.any (u:Un fs ex H H1 h h1) {b:Gw} {ob:Hi} (q:h.get? b=some ob) (n:H b=none) (hx:b∉ex):∃sl,h1.get? b=some {ob with slots:=sl}:=by
 by_cases hb:b∈fs
 ·exact u.slot b ob q n hb hx
 ·exact⟨ob.slots,u.keep b ob q n hb hx⟩
theorem Un.trans (a:Un fs ex H H1 h h1) (b:Un fs ex H1 H2 h1 h2):Un fs ex H H2 h h2 where
 keep:=λc ob q n hc hx=>b.keep c ob (a.keep c ob q n hc hx) (a.free c ob q n hx) hc hx
 slot:=λc ob q n hc hx=>by
  obtain⟨sl,e1⟩:=a.slot c ob q n hc hx
  obtain⟨Si,e2⟩:=b.slot c _ e1 (a.free c ob q n hx) hc hx
  exact⟨Si,e2⟩
 free:=λc ob q n hx=>by
  obtain⟨o',e1⟩:=a.there c ob q hx
  exact b.free c o' e1 (a.free c ob q n hx) hx
 there:=λc ob q hx=>by
  obtain⟨o',e1⟩:=a.there c ob q hx
  exact b.there c o' e1 hx
 tups:=λc xs q=>b.tups c xs (a.tups c xs q)
 frzs:=λc ob xs q=>b.frzs c ob xs (a.frzs c ob xs q)
 tbls:=λc ps q=>by
  obtain⟨m1,e1⟩:=a.tbls c ps q
  obtain⟨m2,e2⟩:=b.tbls c _ e1
  exact⟨m1++m2,by rw[e2,MK]⟩
theorem Un.kept (k:∀b u,h.get? b=some u->h'.get? b=some u):Un fs ex H H h h':=
 ⟨λb ob q _ _ _=>k b ob q,λb ob q _ _ _=>⟨ob.slots,k b ob q⟩,λ_ _ _ n _=>n,λb ob q _=>⟨ob,k b ob q⟩,λ_ _ q=>q,λ_ _ _ q=>q,λ_ ps q=>⟨#[],by rw[q];simp⟩⟩
theorem Un.refl:Un fs ex H H h h:=Un.kept λ_ _ q=>q
theorem Un.laid (k:∀b u,h.get? b=some u->h'.get? b=some u) (hp:h.objs.size<=a) (hn:H a=none):Un fs ex H (b9 H a o) h h' where
 keep:=λb u q _ _ _=>k b u q
 slot:=λb u q _ _ _=>⟨u.slots,k b u q⟩
 free:=λb u q n _=>by rw[ao (Hj (Hf (GR q) hp))];exact n
 there:=λb u q _=>⟨u,k b u q⟩
 tups:=λb xs q=>by rw[ao (c6 q hn)];exact q
 frzs:=λb u xs q=>by rw[ao (c6 q hn)];exact q
 tbls:=λb ps q=>⟨#[],by rw[ao (c6 q hn),q];simp⟩
theorem Un.write (mu:Df (H x)) (he:e=x\/H e=some (.own x)) (k:∀b u,b≠e->h.get? b=some u->h'.get? b=some u) (Tc:∃u,h'.get? e=some u):Un fs ex H (b9 H x o) h h':=by
 have hx:∀b,H b=none->b≠x:=λb n z=>by subst z;rw[n]at mu;exact mu
 have hb:∀b,H b=none->b≠e:=λb n z=>by
  subst z
  rcases he with r|r
  ·exact hx b n r
  ·rw[n]at r;cases r
 have hm:∀b u,H b=some u->¬Df (some u)->b≠x:=λb u q nm z=>by subst z;rw[q]at mu;exact nm mu
 refine⟨λb u q n _ _=>k b u (hb b n) q,λb u q n _ _=>⟨u.slots,k b u (hb b n) q⟩,λb u q n _=>by rw[ao (hx b n)];exact n,λb u q _=> ?_,
  λb xs q=>by rw[ao (hm b _ q λz=>z)];exact q,λb u xs q=>by rw[ao (hm b _ q λz=>z)];exact q,λb ps q=>⟨#[],by rw[ao (hm b _ q λz=>z),q];simp⟩⟩
 by_cases Sx:b=e
 ·subst Sx;exact Tc
 ·exact⟨u,k b u Sx q⟩
end
def Ex (h:GY) (H:Hp):List Gw:=(Hy h.objs.size).filter λa=>(H a).isSome
def pQ (h:GY) (H:Hp):GY:=Nq h (Ex h H)
theorem vf (h:GY) (H:Hp):(pQ h H).objs.size=h.objs.size:=PySem.W.hideAll_size _ _
theorem wK {h:GY} {H:Hp} {b:Gw} {o:Hi} (e:h.get? b=some o) (n:H b=none):(pQ h H).get? b=some o:=
 KD _ e λhm=>by
  have q:(H b).isSome=true:=(Ji.mp hm).2
  rw[n]at q;simp at q
theorem yS {h:GY} {H:Hp} {b:Gw} {o:Hi} (e:(pQ h H).get? b=some o):h.get? b=some o/\H b=none:=by
 have e':h.get? b=some o:=ML (Ex h H) e
 refine⟨e',?_⟩
 cases q:H b with
 |none=>rfl
 |some x=>
  have hm:b∈Ex h H:=Ji.mpr ⟨HW.mpr (GR e'),by simp[q]⟩
  have z:(pQ h H).get? b=none:=Kq (Ex h H) hm
  rw[z]at e;cases e
def yT (g h:GY) (L:Gw):List (Gw×Hi):=(Hy h.objs.size).filterMap λa=>if a=L\/(g.get? a).isSome=true then none else (h.get? a).map λo=>(a,o)
def rest (g h:GY) (L d:Gw):List (Gw×Hi):=(yT g h L).filter λp=>decide (p.1≠d)
end L2
namespace L2
open PySem PySem.Spec PyProof.Rows
structure Mod (K:Gs) (mg:Gv->Option Gu) (base:GY):Prop where
 kin:K.In base
 glob:base.Ns GG mg
 blt:∃mb,base.Ns Nr mb/\∀x:Gv,x≠"__name__"->mb x=Ho x
 nolimit:base.NoLimit
structure Cx where
 prog:GP
 w:G_
 K:Gs
 mg:Gv->Option Gu
 base:GY
 A:Hd
 N:List Gv
 s₀:Gx
 H₀:Hp
 env:Iz
 outer:List Iz
 stack:List Iz
 ex:List Gw
 fn:Gv->Bool
 calm:Bool
 pn:List (Gw×Hi)
 xe:Gu->Gx->Prop
def mK (l:List Iz):List Gw:=l.filterMap (·.frame)
abbrev Cx.fs (X:Cx):List Gw:=mK X.outer
def ke (sc:IP) (x:Gv):Prop:=sc.names.lookup x=some .local\/sc.names.lookup x=some .cell\/sc.names.lookup x=some .free
def wH (sc:IP) (x:Gv):Prop:=sc.names.lookup x=some .local\/sc.names.lookup x=some .cell
def ER (env:Iz) (h:GY) (m:Gv->Option Gu) (x:Gv) (u:Gu):Prop:=
 (env.kindOf x=some .local/\m x=some u)\/((env.kindOf x=some .cell\/env.kindOf x=some .free)/\∃c,env.cells.lookup x=some c/\h.IsCell c (some u))
structure Cx.Ok (X:Cx):Prop where
 mod:Mod X.K X.mg X.base
 kind:X.env.scope.kind= .function
 glob:X.env.globals=GG
 blt:X.env.builtins=Nr
 above:X.s₀.heap.objs.size<=X.env.locals
 inj:∀x y c,X.env.cells.lookup x=some c->X.env.cells.lookup y=some c->x=y
 has:∀x,(X.env.kindOf x=some .cell\/X.env.kindOf x=some .free)->∃c,X.env.cells.lookup x=some c
 cab:∀x c,X.fn x=true->X.env.cells.lookup x=some c->X.s₀.heap.objs.size<=c
 hd:X.calm=true->X.A.handled=none
 frames:X.A.frames=some X.stack
 stk:X.stack=X.outer\/(X.stack=X.env::X.outer/\X.env.frame=some X.env.locals)
 exf:∀b∈X.ex,b≠X.env.locals/\∀x c,X.env.cells.lookup x=some c->c≠b
 bs:∀b o,X.base.get? b=some o->X.s₀.heap.get? b=some o/\X.H₀ b=none
 bsz:X.base.objs.size<=X.s₀.heap.objs.size
 noex:∀b o,X.base.get? b=some o->b∉X.ex
 exfs:∀b∈X.ex,b∉X.fs
 funs:X.s₀.heap.FunFrames X.base X.outer
 frf:∀b∈X.fs,X.H₀ b=none
structure aB (X:Cx) (O0:List (Gw×Hi)) (σ:List (Option V)) (H:Hp) (s:Gx):Prop where
 ok:X.Ok
 os:s.os=X.s₀.os
 bare:JZ s.gens
 base:Un X.fs X.ex X.H₀ H X.s₀.heap s.heap
 loc:∃m,s.heap.Ns X.env.locals m/\∀(i:Nat) (x:Gv) (v:V),X.N[i]? =some x->σ[i]? =some (some v)->ke X.env.scope x->∃u,b6 v u/\ER X.env s.heap m x u
 cell:∀x c,X.env.cells.lookup x=some c->∃v,s.heap.IsCell c v
 free:H X.env.locals=none
 freeC:∀x c,X.env.cells.lookup x=some c->H c=none
 pin:∀p∈X.pn++O0,s.heap.get? p.1=some p.2/\H p.1=none/\p.1≠X.env.locals/\p.1∉X.fs/\∀v,p.2.data≠ .cell v
 hok:iK X.prog X.w H s.heap
 len:σ.length=X.N.length
section
variable {X:Cx} {O0:List (Gw×Hi)} {σ:List (Option V)} {H H':Hp} {s:Gx} {h':GY}
theorem Cx.Ok.nofr (ok:X.Ok) {b:Gw} {o:Hi} (e:X.base.get? b=some o):b∉X.fs:=λhb=>by
 have:=(ok.funs.mem hb).1
 rw[e]at this;cases this
theorem aB.bs (I:aB X O0 σ H s):∀b o,X.base.get? b=some o->s.heap.get? b=some o/\H b=none:=λb o e=>
 ⟨I.base.keep b o (I.ok.bs b o e).1 (I.ok.bs b o e).2 (I.ok.nofr e) (I.ok.noex b o e),I.base.free b o (I.ok.bs b o e).1 (I.ok.bs b o e).2 (I.ok.noex b o e)⟩
theorem aB.bk (I:aB X O0 σ H s):∀b o,X.base.get? b=some o->s.heap.get? b=some o:=λb o e=>(I.bs b o e).1
theorem aB.mod (I:aB X O0 σ H s):Mod X.K X.mg X.base:=I.ok.mod
theorem aB.kIn (I:aB X O0 σ H s):X.K.In s.heap:=I.ok.mod.kin.keeps I.bk
theorem aB.fr (I:aB X O0 σ H s):∃m,Fr X.base X.env.locals s.heap m:=
 let ⟨m,hn,_⟩:=I.loc
 ⟨m,hn,I.bk,Ht I.ok.bsz I.ok.above⟩
theorem aB.lt (I:aB X O0 σ H s):X.env.locals<s.heap.objs.size:=let ⟨_,hn,_⟩:=I.loc;hn.lt
theorem aB.sz (I:aB X O0 σ H s):X.s₀.heap.objs.size<=s.heap.objs.size:=Ht I.ok.above (MM I.lt)
theorem aB.nofs (I:aB X O0 σ H s) {a:Gw} (h:s.heap.objs.size<=a):a∉X.fs:=λhb=>by
 obtain⟨_,o,ho,_⟩:=I.ok.funs.mem hb
 exact absurd (Hf (GR ho) (Ht I.sz h)) (H_ _)
theorem aB.cne (I:aB X O0 σ H s):∀x c,X.env.cells.lookup x=some c->c≠X.env.locals:=λx c e z=>by
 obtain⟨v,o,ho,hd⟩:=I.cell x c e
 obtain⟨m,⟨o',es,ep,S1,To,_⟩,_⟩:=I.loc
 rw[z,S1]at ho;cases ho;rw[To]at hd;cases hd
theorem aB.funs (I:aB X O0 σ H s):s.heap.FunFrames X.base X.outer:=by
 have all:∀(l:List Iz),(∀b∈mK l,b∈X.fs)->X.s₀.heap.FunFrames X.base l->s.heap.FunFrames X.base l:=by
  intro l
  induction l with
  |nil=>intro _ _;trivial
  |cons env r ih=>
   intro hs hl
   obtain⟨hk,⟨L,o,hf,hn,ho,hd⟩,hr⟩:=hl
   have hL:L∈X.fs:=hs L (by unfold mK;rw[Jd,hf];exact GO)
   obtain⟨sl,e⟩:=I.base.slot L o ho (I.ok.frf L hL) hL λz=>I.ok.exfs L z hL
   exact⟨hk,⟨L,_,hf,hn,e,hd⟩,ih (λb hb=>hs b (by unfold mK;rw[Jd,hf];exact GU _ hb)) hr⟩
 exact all X.outer (λ_ hb=>hb) I.ok.funs
theorem aB.stack (I:aB X O0 σ H s):s.heap.FunFrames X.base X.stack:=by
 rcases I.ok.stk with e|⟨e,hf⟩
 ·rw[e];exact I.funs
 ·rw[e]
  obtain⟨m,hn,_⟩:=I.loc
  refine .cons (by rw[I.ok.kind];decide) hf hn ?_ I.funs
  exact Kr (Ht I.ok.bsz I.ok.above)
theorem aB.stkSub (I:aB X O0 σ H s):∀b∈mK X.stack,b∈X.env.locals::X.fs:=λb hb=>by
 rcases I.ok.stk with e|⟨e,hf⟩
 ·rw[e]at hb;exact GU _ hb
 ·rw[e]at hb
  unfold mK at hb
  rw[Jd,hf]at hb
  exact hb
theorem aB.stkFree (I:aB X O0 σ H s):∀b∈mK X.stack,H b=none:=λb hb=>by
 rcases GK.mp (I.stkSub b hb)with e|hb
 ·rw[e];exact I.free
 ·obtain⟨_,o,ho,_⟩:=I.ok.funs.mem hb
  exact I.base.free b o ho (I.ok.frf b hb) λz=>I.ok.exfs b z hb
theorem aB.step {g':Array Ll} {t':Nat} {d':Drawn} {ch:List Gw} (I:aB X O0 σ H s)
  (RN:∀b∈ch,(b∈X.ex\/X.s₀.heap.get? b=none)/\b≠X.env.locals/\(∀x c,X.env.cells.lookup x=some c->c≠b)/\∀p∈X.pn++O0,p.1≠b)
  (keep:∀b o,b≠X.env.locals->b∉X.fs->b∉ch->s.heap.get? b=some o->H b=none->h'.get? b=some o)
  (slot:∀b o,b≠X.env.locals->b∈X.fs->b∉ch->s.heap.get? b=some o->H b=none->∃sl,h'.get? b=some {o with slots:=sl}) (free:∀b o,b∉ch->s.heap.get? b=some o->H b=none->H' b=none)
  (there:∀b o,b∉ch->s.heap.get? b=some o->∃o',h'.get? b=some o')
  (tups:∀b xs,H b=some (.tup xs)->H' b=some (.tup xs)) (frzs:∀b o u,H b=some (.frz o u)->H' b=some (.frz o u)) (tbls:∀b ps,H b=some (.tbl ps)->∃more,H' b=some (.tbl (ps++more)))
  (ns:∀m,s.heap.Ns X.env.locals m->h'.Ns X.env.locals m) (hok:iK X.prog X.w H' h') (hg:JZ g'):
  aB X O0 σ H' {s with heap:=h',gens:=g',drawn:=d',toks:=t'}:=by
 have Sj:∀b o,X.s₀.heap.get? b=some o->b≠X.env.locals:=λb o e=>Hj (Hf (GR e) I.ok.above)
 have neC:∀b o,X.s₀.heap.get? b=some o->b∉X.ex->b∉ch:=λb o e hx hb=>by
  rcases(RN b hb).1 with z|z
  ·exact hx z
  ·rw[e]at z;cases z
 have Sk:∀x c,X.env.cells.lookup x=some c->∀v,s.heap.IsCell c v->h'.IsCell c v:=λx c e v ⟨o,ho,hd⟩=>by
  have Tp:c∉ch:=λz=>(RN c z).2.2.1 x c e rfl
  by_cases hc:c∈X.fs
  ·obtain⟨sl,q⟩:=slot c o (I.cne x c e) hc Tp ho (I.freeC x c e)
   exact⟨_,q,hd⟩
  ·exact⟨o,keep c o (I.cne x c e) hc Tp ho (I.freeC x c e),hd⟩
 refine⟨I.ok,I.os,hg,⟨λb o e n hb hx=> ?_,λb o e n hb hx=> ?_,λb o e n hx=> ?_,λb o e hx=> ?_,λb xs e=>tups b xs (I.base.tups b xs e),λb o xs e=>frzs b o xs (I.base.frzs b o xs e),λb ps e=> ?_⟩,?_,λx c e=> ?_,?_,λx c e=> ?_,λp hp=> ?_,hok,I.len⟩
 ·exact keep b o (Sj b o e) hb (neC b o e hx) (I.base.keep b o e n hb hx) (I.base.free b o e n hx)
 ·obtain⟨sl,e1⟩:=I.base.slot b o e n hb hx
  obtain⟨Si,e2⟩:=slot b _ (Sj b o e) hb (neC b o e hx) e1 (I.base.free b o e n hx)
  exact⟨Si,e2⟩
 ·obtain⟨o',e1⟩:=I.base.there b o e hx
  exact free b o' (neC b o e hx) e1 (I.base.free b o e n hx)
 ·obtain⟨o',e1⟩:=I.base.there b o e hx
  exact there b o' (neC b o e hx) e1
 ·obtain⟨m1,e1⟩:=I.base.tbls b ps e
  obtain⟨m2,e2⟩:=tbls b _ e1
  exact⟨m1++m2,by rw[e2,MK]⟩
 ·obtain⟨m,hn,hl⟩:=I.loc
  refine⟨m,ns m hn,λi x v e1 e2 e3=> ?_⟩
  obtain⟨u,r,l⟩:=hl i x v e1 e2 e3
  refine⟨u,r,?_⟩
  rcases l with l|⟨k,c,e,z⟩
  ·exact .inl l
  ·exact .inr ⟨k,c,e,Sk x c e _ z⟩
 ·obtain⟨v,z⟩:=I.cell x c e
  exact⟨v,Sk x c e v z⟩
 ·obtain⟨m,⟨o,_,_,ho,_⟩,_⟩:=I.loc
  exact free _ o (λz=>(RN _ z).2.1 rfl) ho I.free
 ·obtain⟨v,o,ho,hd⟩:=I.cell x c e
  exact free c o (λz=>(RN c z).2.2.1 x c e rfl) ho (I.freeC x c e)
 ·obtain⟨e,n,ne,nf,d⟩:=I.pin p hp
  have Tp:p.1∉ch:=λz=>(RN p.1 z).2.2.2 p hp rfl
  exact⟨keep p.1 p.2 ne nf Tp e n,free p.1 p.2 Tp e n,ne,nf,d⟩
theorem aB.un {t':Nat} (I:aB X O0 σ H s) (u:Un X.fs [] H H' s.heap h') (hok:iK X.prog X.w H' h'):aB X O0 σ H' {s with heap:=h',toks:=t'}:=by
 obtain⟨m,⟨o,es,ep,ho,r⟩,_⟩:=id I.loc
 obtain⟨sl,hL⟩:=u.any ho I.free (by simp)
 exact I.step (g':=s.gens) (d':=s.drawn) (ch:=[]) (λ_ z=>nomatch z) (λb o _ hb _ e n=>u.keep b o e n hb (by simp)) (λb o _ hb _ e n=>u.slot b o e n hb (by simp)) (λb o _ e n=>u.free b o e n (by simp)) (λb o _ e=>u.there b o e (by simp)) u.tups u.frzs u.tbls (λm' hm=>by
  obtain⟨o',Us,Ut,S1,r'⟩:=hm
  rw[ho]at S1;cases S1
  exact⟨_,Us,Ut,hL,r'⟩) hok I.bare
theorem aB.call {g':Array Ll} {t':Nat} {d':Drawn} {ch:List Gw} (I:aB X O0 σ H s) (u:Un (mK X.stack) ch H H' s.heap h') (hok:iK X.prog X.w H' h') (hg:JZ g')
  (RN:∀b∈ch,(b∈X.ex\/X.s₀.heap.objs.size<=b)/\b≠X.env.locals/\(∀x c,X.env.cells.lookup x=some c->c≠b)/\∀p∈X.pn++O0,p.1≠b):
  aB X O0 σ H' {s with heap:=h',gens:=g',drawn:=d',toks:=t'}:=by
 obtain⟨m,⟨o,es,ep,ho,r⟩,_⟩:=id I.loc
 obtain⟨sl,hL⟩:=u.any ho I.free λz=>(RN _ z).2.1 rfl
 exact I.step (ch:=ch) (λb hb=>⟨(RN b hb).1.imp id Kr,(RN b hb).2⟩) (λb o hL hb hc e n=>u.keep b o e n (λz=>(GK.mp (I.stkSub b z)).elim hL hb) hc) (λb o _ _ hc e n=>u.any e n hc) (λb o hc e n=>u.free b o e n hc) (λb o hc e=>u.there b o e hc) u.tups u.frzs u.tbls (λm' hm=>by
  obtain⟨o',Us,Ut,S1,r'⟩:=hm
  rw[ho]at S1;cases S1
  exact⟨_,Us,Ut,hL,r'⟩) hok hg
theorem aB.turned {t':Nat} {it:Gw} (I:aB X O0 σ H s) (k:∀b o,b≠it->s.heap.get? b=some o->h'.get? b=some o) (hn:H it=none) (hL:it≠X.env.locals)
  (h1:it∈X.ex\/X.s₀.heap.objs.size<=it) (h2:∀x c,X.env.cells.lookup x=some c->c≠it) (h3:∀p∈X.pn++O0,p.1≠it):aB X O0 σ H {s with heap:=h',toks:=t'}:=by
 have Vv:∀b u,H b=some u->b≠it:=λb u e z=>by rw[z,hn]at e;cases e
 refine I.step (g':=s.gens) (d':=s.drawn) (ch:=[it]) (λb hb=> ?_) (λb o _ _ hc e _=>k b o (λz=>hc (by simp[z])) e) (λb o _ _ hc e _=>⟨o.slots,k b o (λz=>hc (by simp[z])) e⟩) (λ_ _ _ _ n=>n)
  (λb o hc e=>⟨o,k b o (λz=>hc (by simp[z])) e⟩) (λ_ _ e=>e) (λ_ _ _ e=>e) (λb ps e=>⟨#[],by rw[e];simp⟩) (λm hm=> ?_) (λb u e=> ?_) I.bare
 ·have e:b=it:=by simpa using hb
  subst e
  exact⟨h1.imp id Kr,hL,h2,h3⟩
 ·obtain⟨o,es,ep,ho,r⟩:=hm
  exact⟨o,es,ep,k _ o (II hL) ho,r⟩
 ·refine(I.hok b u e).stay (λc v hc q=>k c v ?_ q) (λ_ q=>q) λ_ _ q=>q
  rcases hc with z|z
  ·rw[z];exact Vv b u e
  ·exact Vv c _ z
theorem aB.tok (I:aB X O0 σ H s) (t:Nat):aB X O0 σ H {s with toks:=t}:=I.un (h':=s.heap) (t':=t) Un.refl I.hok
theorem aB.kept {t':Nat} (I:aB X O0 σ H s) (k:∀b u,s.heap.get? b=some u->h'.get? b=some u):aB X O0 σ H {s with heap:=h',toks:=t'}:=I.un (Un.kept k) (I.hok.kept k)
theorem aB.laid {a:Gw} {o:HO} {t':Nat} (I:aB X O0 σ H s) (k:∀b u,s.heap.get? b=some u->h'.get? b=some u) (hp:s.heap.objs.size<=a) (new:bp X.prog X.w (b9 H a o) h' a o):
  aB X O0 σ (b9 H a o) {s with heap:=h',toks:=t'}:=I.un (Un.laid k hp (I.hok.fresh hp)) (I.hok.laid k hp new)
theorem aB.write {x e:Gw} {o:HO} {t':Nat} (I:aB X O0 σ H s) (mu:Df (H x)) (he:e=x\/H e=some (.own x)) (k:∀b u,b≠e->s.heap.get? b=some u->h'.get? b=some u) (Tc:∃u,h'.get? e=some u)
  (new:bp X.prog X.w (b9 H x o) h' x o):aB X O0 σ (b9 H x o) {s with heap:=h',toks:=t'}:=I.un (Un.write mu he k Tc) (I.hok.write mu he k Tc new)
theorem aB.pins_of {PJ:List (Gw×Hi)} (I:aB X O0 σ H s) (h:∀p∈PJ,s.heap.get? p.1=some p.2/\H p.1=none/\p.1≠X.env.locals/\p.1∉X.fs/\∀v,p.2.data≠ .cell v):aB X PJ σ H s:=
 ⟨I.ok,I.os,I.bare,I.base,I.loc,I.cell,I.free,I.freeC,λp hp=>(HP.mp hp).elim (λz=>I.pin p (HE _ z)) (h p),I.hok,I.len⟩
theorem mZ {N:List Gv} (hN:N.Nodup) {i j:Nat} {x:Gv} (a:N[i]? =some x) (b:N[j]? =some x):i=j:=by
 obtain⟨h1,e1⟩:=GV.mp a
 obtain⟨h2,e2⟩:=GV.mp b
 exact(Lm hN).mp (e1.trans e2.symm)
theorem vg {M:N2} {A:Hd} {E:Gu->Gx->Prop} {i:Nat} {x:Gv} {v:V} {u:Gu} {Q:Unit->Gx->Prop} (I:aB X O0 σ H s) (hN:X.N.Nodup) (hi:X.N[i]? =some x) (hx:wH X.env.scope x) (r:b6 v u)
  (h:∀s',aB X O0 (σ.set i (some v)) H s'->(∃a,Ln a s.heap s'.heap/\(a=X.env.locals\/X.env.cells.lookup x=some a))->Q () s') (hf:X.fn x=true\/X.env.scope.names.lookup x=some .local:=by first|exact .inl rfl|exact .inr rfl|assumption):GI M A (storeName X.env x u) Q E s:=by
 obtain⟨m,hn,hl⟩:=id I.loc
 have Uu:(X.env.scope.kind== .class||(X.env.scope.kind== .module&&X.env.locals != X.env.globals))=false:=by rw[I.ok.kind];rfl
 have Vw:i<σ.length:=by rw[I.len];exact(GV.mp hi).1
 have cne:=I.cne
 have Rn:∀{a:Gw} {h':GY},(∃o,s.heap.get? a=some o/\H a=none)->Ln a s.heap h'->iK X.prog X.w H h':=λ{a h'} ha hs b ob e=>by
  obtain⟨_,_,Sl⟩:=ha
  refine(I.hok b ob e).stay (λc w' hc q=>(hs.2 c ?_).trans q) (λ_ q=>q) λ_ _ q=>q
  rintro rfl
  rcases hc with rfl|hc
  ·rw[Sl]at e;cases e
  ·rw[Sl]at hc;cases hc
 rcases hx with hk|hk
 ·refine wpAny_storeName_local hk hn (λh' Uv hs=> ?_) Uu
  obtain⟨oL,_,_,Sb,_⟩:=id hn
  refine h _ ⟨I.ok,I.os,I.bare,⟨λb o e n hb hx=> ?_,λb o e n hb hx=> ?_,I.base.free,λb o e hx=> ?_,I.base.tups,I.base.frzs,I.base.tbls⟩,⟨_,Uv,λj y v' e1 e2 e3=> ?_⟩,λy c e=> ?_,I.free,I.freeC,λp hp=> ?_,Rn ⟨oL,Sb,I.free⟩ hs,by simpa using I.len⟩ ⟨_,hs, .inl rfl⟩
  ·exact(hs.2 b (Hj (Hf (GR e) I.ok.above))).trans (I.base.keep b o e n hb hx)
  ·obtain⟨sl,e1⟩:=I.base.slot b o e n hb hx
   exact⟨sl,(hs.2 b (Hj (Hf (GR e) I.ok.above))).trans e1⟩
  ·obtain⟨o',e1⟩:=I.base.there b o e hx
   exact⟨o',(hs.2 b (Hj (Hf (GR e) I.ok.above))).trans e1⟩
  ·by_cases hj:j=i
   ·subst hj
    rw[hi]at e1;cases e1
    rw[LQ Vw]at e2
    cases e2
    exact⟨u,r, .inl ⟨hk,by simp⟩⟩
   ·rw[Ks (II hj)]at e2
    obtain⟨u',r',q⟩:=hl j y v' e1 e2 e3
    refine⟨u',r',?_⟩
    rcases q with ⟨k,e⟩|⟨k,c,e,z⟩
    ·refine .inl ⟨k,?_⟩
     have:y≠x:=λe=>hj (mZ hN e1 (e▸hi))
     simp[this,e]
    ·exact .inr ⟨k,c,e,z.sameBut hs (cne y c e)⟩
  ·obtain⟨w',z⟩:=I.cell y c e
   exact⟨w',z.sameBut hs (cne y c e)⟩
  ·obtain⟨e,n,ne,nf,d⟩:=I.pin p hp
   exact⟨(hs.2 p.1 ne).trans e,n,ne,nf,d⟩
 ·have Uw:X.fn x=true:=by
   rcases hf with z|z
   ·exact z
   ·rw[z]at hk;cases hk
  obtain⟨c,hc⟩:=I.ok.has x (.inl hk)
  obtain⟨w',z⟩:=I.cell x c hc
  refine wpAny_storeName_cell I.ok.kind hk hc z (λh' Vx hs=> ?_)
  obtain⟨oc,Vy,Ux⟩:=id z
  refine h {s with heap:=h'} ⟨I.ok,I.os,I.bare,⟨λb o e n hb hx=> ?_,λb o e n hb hx=> ?_,I.base.free,λb o e hx=> ?_,I.base.tups,I.base.frzs,I.base.tbls⟩,⟨m,hn.sameBut hs (II (cne x c hc)),λj y v' e1 e2 e3=> ?_⟩,λy c' e=> ?_,I.free,I.freeC,λp hp=> ?_,Rn ⟨oc,Vy,I.freeC x c hc⟩ hs,by simpa using I.len⟩ ⟨c,hs, .inr hc⟩
  ·exact(hs.2 b (Hj (Hf (GR e) (I.ok.cab x c Uw hc)))).trans (I.base.keep b o e n hb hx)
  ·obtain⟨sl,e1⟩:=I.base.slot b o e n hb hx
   exact⟨sl,(hs.2 b (Hj (Hf (GR e) (I.ok.cab x c Uw hc)))).trans e1⟩
  ·obtain⟨o',e1⟩:=I.base.there b o e hx
   exact⟨o',(hs.2 b (Hj (Hf (GR e) (I.ok.cab x c Uw hc)))).trans e1⟩
  ·by_cases hj:j=i
   ·subst hj
    rw[hi]at e1;cases e1
    rw[LQ Vw]at e2
    cases e2
    exact⟨u,r, .inr ⟨.inl hk,c,hc,Vx⟩⟩
   ·rw[Ks (II hj)]at e2
    obtain⟨u',r',q⟩:=hl j y v' e1 e2 e3
    refine⟨u',r',?_⟩
    rcases q with q|⟨k,c',e,z'⟩
    ·exact .inl q
    ·refine .inr ⟨k,c',e,z'.sameBut hs ?_⟩
     rintro rfl
     exact hj (mZ hN e1 (I.ok.inj _ _ _ e hc▸hi))
  ·by_cases Td:c'=c
   ·subst Td;exact⟨_,Vx⟩
   ·obtain⟨w2,z2⟩:=I.cell y c' e
    exact⟨w2,z2.sameBut hs Td⟩
  ·obtain⟨e,n,ne,nf,d⟩:=I.pin p hp
   refine⟨(hs.2 p.1 ?_).trans e,n,ne,nf,d⟩
   intro q
   rw[q,Vy]at e
   have q':oc=p.2:=HG e
   exact d w' (by rw[<-q'];exact Ux)
theorem m_ {M:N2} {A:Hd} {E:Gu->Gx->Prop} {i:Nat} {x:Gv} {v:V} {u:Gu} {Q:Unit->Gx->Prop} (I:aB X O0 σ H s) (hN:X.N.Nodup) (hi:X.N[i]? =some x) (hx:wH X.env.scope x) (r:b6 v u)
  (h:∀s',aB X O0 (σ.set i (some v)) H s'->Q () s') (hf:X.fn x=true\/X.env.scope.names.lookup x=some .local:=by first|exact .inl rfl|exact .inr rfl|assumption):GI M A (storeName X.env x u) Q E s:=
 vg I hN hi hx r (λs' I' _=>h s' I') hf
theorem aB.call' {s':Gx} {ch:List Gw} (I:aB X O0 σ H s) (ho:s'.os=s.os) (u:Un (mK X.stack) ch H H' s.heap s'.heap) (hok:iK X.prog X.w H' s'.heap) (hg:JZ s'.gens)
  (RN:∀b∈ch,(b∈X.ex\/X.s₀.heap.objs.size<=b)/\b≠X.env.locals/\(∀x c,X.env.cells.lookup x=some c->c≠b)/\∀p∈X.pn++O0,p.1≠b):aB X O0 σ H' s':=by
 obtain⟨h',g',d',t',o'⟩:=s'
 have e:o'=s.os:=ho
 subst e
 exact I.call (g':=g') (t':=t') (d':=d') u hok hg RN
end
abbrev XK:=Gu->Option Gw->Hp->Prop
abbrev St:=List (Option V)
abbrev VK:=V->Hp->Prop
abbrev TE:=St->Hp->VK->Prop
abbrev TT:=St->Hp->(Bool->Hp->Prop)->Prop
abbrev TA:=St->Hp->(List V->Hp->Prop)->Prop
structure kZ where
 nx:St->Hp->Prop
 rt:VK
 bk:St->Hp->Prop:=λ_ _=>False
 ct:St->Hp->Prop:=λ_ _=>False
abbrev TS:=kZ->St->Hp->Prop
def EP (X:Cx) (O0:List (Gw×Hi)) (σ:St) (Q:VK) (u:Gu) (s':Gx):Prop:=∃v H',aB X O0 σ H' s'/\b6 v u/\Q v H'
def TP (X:Cx) (O0:List (Gw×Hi)) (σ:St) (Q:Bool->Hp->Prop) (b:Bool) (s':Gx):Prop:=∃H',aB X O0 σ H' s'/\Q b H'
def AP (X:Cx) (O0:List (Gw×Hi)) (σ:St) (Q:List V->Hp->Prop) (us:List Gu) (s':Gx):Prop:=∃vs H',aB X O0 σ H' s'/\aL vs us/\Q vs H'
def SP (X:Cx) (O0:List (Gw×Hi)) (D:kZ) (f:Flow) (s':Gx):Prop:=
 match f with
 | .next=>∃σ' H',aB X O0 σ' H' s'/\D.nx σ' H'
 | .brk=>∃σ' H',aB X O0 σ' H' s'/\D.bk σ' H'
 | .cont=>∃σ' H',aB X O0 σ' H' s'/\D.ct σ' H'
 | .ret u=>∃v σ' H',aB X O0 σ' H' s'/\b6 v u/\D.rt v H'
def PE (X:Cx) (e:GD) (t:TE):Prop:=
 ∀(O0:List (Gw×Hi)) (s:Gx) (σ:St) (H:Hp) (Q:VK),aB X O0 σ H s->t σ H Q->GI (GN X.prog X.w) X.A (GW e X.env) (EP X O0 σ Q) X.xe s
def PT (X:Cx) (e:GD) (t:TT):Prop:=
 ∀(O0:List (Gw×Hi)) (s:Gx) (σ:St) (H:Hp) (Q:Bool->Hp->Prop),aB X O0 σ H s->t σ H Q->GI (GN X.prog X.w) X.A (Nt e X.env (GW e X.env)) (TP X O0 σ Q) X.xe s
def PW (X:Cx) (e:GD) (t:TT):Prop:=
 ∀(Qd:Kj Gu) (O0:List (Gw×Hi)) (s:Gx) (σ:St) (H:Hp) (Q:Bool->Hp->Prop),aB X O0 σ H s->t σ H Q->GI (GN X.prog X.w) X.A (Nt e X.env Qd) (TP X O0 σ Q) X.xe s
theorem PW.pt {X:Cx} {e:GD} {t:TT} (h:PW X e t):PT X e t:=h _
def PA (X:Cx) (es:List GD) (t:TA):Prop:=
 ∀(pos:Hr) (O0:List (Gw×Hi)) (s:Gx) (σ:St) (H:Hp) (Q:List V->Hp->Prop),aB X O0 σ H s->t σ H Q->GI (GN X.prog X.w) X.A (NG (Hb pos (Gy es X.env))) (AP X O0 σ Q) X.xe s
def PS (X:Cx) (st:Hl) (t:TS):Prop:=
 ∀(O0:List (Gw×Hi)) (s:Gx) (σ:St) (H:Hp) (D:kZ),aB X O0 σ H s->t D σ H->GI (GN X.prog X.w) X.A (exec st X.env) (SP X O0 D) X.xe s
def oR (X:Cx) (st:List Hl) (t:TS):Prop:=
 ∀(O0:List (Gw×Hi)) (s:Gx) (σ:St) (H:Hp) (D:kZ),aB X O0 σ H s->t D σ H->GI (GN X.prog X.w) X.A (execs st X.env) (SP X O0 D) X.xe s
theorem bW {α:Type} {t:Kj α} {Q Q':α->Gx->Prop} {M:N2} {A:Hd} {E:Gu->Gx->Prop} {s:Gx} (h:GI M A t Q E s) (hQ:∀a s,Q a s->Q' a s):GI M A t Q' E s:=IC h hQ λ_ _ x=>x
end L2
namespace L2
open PySem PySem.Spec PyProof.Rows
section
variable {X:Cx}
def wL (i:Nat):TE:=λσ H Q=>∃v,σ[i]? =some (some v)/\Q v H
def tC (v:V):TE:=λ_ H Q=>Q v H
theorem Bc {i:Nat} {x:Gv} {pos:Hr} (hN:X.N[i]? =some x) (hv:ke X.env.scope x) (hd:(x==("__debug__":Gv))=false:=by decide) (P2:(x==("__classdict__":Gv))=false:=by decide):PE X (.Name x pos) (wL i):=by
 intro O0 s σ H Q I h
 obtain⟨v,e,h⟩:=h
 obtain⟨m,hn,hl⟩:=I.loc
 obtain⟨u,r,l⟩:=hl i x v hN e hv
 have Qe:EP X O0 σ Q u s:=⟨v,H,I,r,h⟩
 rcases l with ⟨hk,hm⟩|⟨hk,c,hc,Ro⟩
 ·exact Nu (wpAny_loadName_local I.ok.kind hk hn hm Qe) hd
 ·rcases hk with hk|hk
  ·exact Nu (wpAny_loadName_cell I.ok.kind hk hc Ro Qe) hd
  ·exact Nu (wpAny_loadName_free I.ok.kind hk hc Ro Qe P2) hd
theorem Bd {i j pos}:PE X (.Constant (.int i) j pos) (tC (.int i)):=λ_ _ _ H _ I h=>wpAny_Constant_int ⟨.int i,H,I.tok _,⟨_,rfl⟩,h⟩
theorem Dg {b j pos}:PE X (.Constant (.bool b) j pos) (tC (.bl b)):=λ_ _ _ H _ I h=>Constant_bool ⟨.bl b,H,I,rfl,h⟩
theorem Be {j pos}:PE X (.Constant .none j pos) (tC .non):=λ_ _ _ H _ I h=>Constant_none ⟨.non,H,I,rfl,h⟩
theorem Bf {x j pos}:PE X (.Constant (.str x) j pos) (tC (.str x)):=λ_ _ _ H _ I h=>Calls.Constant_str ⟨.str x,H,I.tok _,⟨_,rfl⟩,h⟩
def Gl (X:Cx) (x:Gv):Prop:=X.env.kindOf x=some .globalImplicit
theorem kg {E:Gu->Gx->Prop} {O0:List (Gw×Hi)} {s:Gx} {σ:St} {H:Hp} {x:Gv} {u:Gu} {pos:Hr} {Q:Gu->Gx->Prop} (I:aB X O0 σ H s) (hg:Gl X x) (hm:X.mg x=some u) (h:Q u s)
  (hd:(x==("__debug__":Gv))=false:=by decide):GI (GN X.prog X.w) X.A (GW (.Name x pos) X.env) Q E s:=
 KU I.ok.kind hg (Calls.loadGlobal_global (by rw[I.ok.glob];exact I.mod.glob.keeps I.bk) hm h) hd
theorem k_ {E:Gu->Gx->Prop} {O0:List (Gw×Hi)} {s:Gx} {σ:St} {H:Hp} {x:Gv} {u:Gu} {pos:Hr} {Q:Gu->Gx->Prop} (I:aB X O0 σ H s) (hg:Gl X x) (hm:X.mg x=none) (hv:Ho x=some u) (h:Q u s)
  (hn:x≠"__name__":=by decide) (hd:(x==("__debug__":Gv))=false:=by decide):GI (GN X.prog X.w) X.A (GW (.Name x pos) X.env) Q E s:=by
 obtain⟨mb,h1,h2⟩:=I.mod.blt
 exact KU I.ok.kind hg (Calls.loadGlobal_builtin (by rw[I.ok.glob];exact I.mod.glob.keeps I.bk) hm (by rw[I.ok.blt];exact h1.keeps I.bk) ((h2 x hn).trans hv) h) hd
theorem uf {x:Gv} {v:V} {u:Gu} {pos:Hr} (hg:Gl X x) (hm:X.mg x=some u) (r:b6 v u) (hd:(x==("__debug__":Gv))=false:=by decide):PE X (.Name x pos) (tC v):=
 λ_ _ _ H _ I h=>kg I hg hm ⟨v,H,I,r,h⟩ hd
theorem ug {x:Gv} {v:V} {u:Gu} {pos:Hr} (hg:Gl X x) (hm:X.mg x=none) (hv:Ho x=some u) (r:b6 v u) (hn:x≠"__name__":=by decide) (hd:(x==("__debug__":Gv))=false:=by decide):PE X (.Name x pos) (tC v):=
 λ_ _ _ H _ I h=>k_ I hg hm hv ⟨v,H,I,r,h⟩ hn hd
variable {a b:GD} {ta tb:TE} {pos:Hr}
def PC (X:Cx) (op:Mj) (a b:GD) (t:TE):Prop:=
 ∀(O0:List (Gw×Hi)) (s:Gx) (σ:St) (H:Hp) (Q:VK),aB X O0 σ H s->t σ H Q->
  GI (GN X.prog X.w) X.A (GW a X.env) (λv s₁=>GI (GN X.prog X.w) X.A (GW b X.env) (λu s₂=>GI (GN X.prog X.w) X.A (Ir op v u) (EP X O0 σ Q) X.xe s₂) X.xe s₁) X.xe s
def tB (t:TE):TT:=λσ H Q=>t σ H λx H1=>∃c,x= .bl c/\Q c H1
theorem wM {op:Mj} {t:TE} (h:PC X op a b t) (h1:Ij op b=false:=by first|exact nobehind _ (by decide) (by decide)|rfl):PE X (.Compare a [op] [b] pos) t:=λO0 s σ H Q I hw=>wpAny_Compare1 (h O0 s σ H Q I hw) h1
theorem Bg {op:Mj} {t:TE} (h:PC X op a b t) (h1:Ij op b=false:=by first|exact nobehind _ (by decide) (by decide)|rfl):PT X (.Compare a [op] [b] pos) (tB t):=by
 intro O0 s σ H Q I hw
 refine M4 (bW (h O0 s σ H _ I hw) λv s1 h1=>bW h1 λu s2 h2=>bW h2 λc s3 z_=> ?_) h1
 obtain⟨x,H1,I1,r1,q1⟩:=z_
 obtain⟨d,rfl,q⟩:=q1
 cases r1
 exact IJ ⟨H1,I1,q⟩
variable {tA tB':TT} {rest:List GD}
def ES (t u:TT):TT:=λσ H Q=>t σ H λc H1=>if c=true then u σ H1 Q else Q false H1
def G7 (t u:TT):TT:=λσ H Q=>t σ H λc H1=>if c=true then Q true H1 else u σ H1 Q
def ET (t:TT):TT:=λσ H Q=>t σ H λc H1=>Q (!c) H1
theorem yU (ha:PT X a tA):PW X (.BoolOp .And [a] pos) tA:=by
 intro wh O0 s σ H Q I h
 refine isTrue_and (bW (ha O0 s σ H Q I h) λc s1 e=> ?_)
 cases c with
 |true=>exact isTrue_and_nil e
 |false=>exact e
theorem Bh (ha:PT X a tA):PW X (.BoolOp .Or [a] pos) tA:=by
 intro wh O0 s σ H Q I h
 refine isTrue_or (bW (ha O0 s σ H Q I h) λc s1 e=> ?_)
 cases c with
 |false=>exact isTrue_or_nil e
 |true=>exact e
theorem Bi (ha:PT X a tA) (hb:PW X (.BoolOp .And (b::rest) pos) tB'):PW X (.BoolOp .And (a::b::rest) pos) (ES tA tB'):=by
 intro wh O0 s σ H Q I h
 refine isTrue_and (bW (ha O0 s σ H _ I h) λc s1 z_=> ?_)
 obtain⟨H1,I1,q1⟩:=z_
 cases c with
 |true=>exact hb wh O0 s1 σ H1 Q I1 q1
 |false=>exact⟨H1,I1,q1⟩
theorem Dh (ha:PT X a tA) (hb:PW X (.BoolOp .Or (b::rest) pos) tB'):PW X (.BoolOp .Or (a::b::rest) pos) (G7 tA tB'):=by
 intro wh O0 s σ H Q I h
 refine isTrue_or (bW (ha O0 s σ H _ I h) λc s1 z_=> ?_)
 obtain⟨H1,I1,q1⟩:=z_
 cases c with
 |true=>exact⟨H1,I1,q1⟩
 |false=>exact hb wh O0 s1 σ H1 Q I1 q1
theorem Bj (ha:PT X a tA):PT X (.UnaryOp .Not a pos) (ET tA):=by
 intro O0 s σ H Q I h
 exact isTrue_not (ha O0 s σ H (λc H1=>Q (!c) H1) I h)
def Di (ta tb:TE):TE:=λσ H Q=>ta σ H λx H1=>∃c,x= .bl c/\if c=true then tb σ H1 Q else Q (.bl false) H1
def EU (ta tb:TE):TE:=λσ H Q=>ta σ H λx H1=>∃c,x= .bl c/\if c=true then Q (.bl true) H1 else tb σ H1 Q
def Dj (ta:TE):TE:=λσ H Q=>ta σ H λx H1=>∃c,x= .bl c/\Q (.bl (!c)) H1
theorem Bk {op} {t:TE} (h:PE X a t):PE X (.BoolOp op [a] pos) t:=λO0 s σ H Q I hw=>BoolOp_one (h O0 s σ H Q I hw)
theorem Bm (ha:PE X a ta) (hb:PE X (.BoolOp .And (b::rest) pos) tb):PE X (.BoolOp .And (a::b::rest) pos) (Di ta tb):=by
 intro O0 s σ H Q I h
 refine BoolOp_and (bW (ha O0 s σ H _ I h) λv s1 z_=> ?_)
 obtain⟨x,H1,I1,r1,q1⟩:=z_
 obtain⟨c,rfl,q1⟩:=q1
 cases r1
 refine IJ ?_
 cases c with
 |true=>exact hb O0 s1 σ H1 Q I1 q1
 |false=>exact⟨.bl false,H1,I1,rfl,q1⟩
theorem Dk (ha:PE X a ta) (hb:PE X (.BoolOp .Or (b::rest) pos) tb):PE X (.BoolOp .Or (a::b::rest) pos) (EU ta tb):=by
 intro O0 s σ H Q I h
 refine BoolOp_or (bW (ha O0 s σ H _ I h) λv s1 z_=> ?_)
 obtain⟨x,H1,I1,r1,q1⟩:=z_
 obtain⟨c,rfl,q1⟩:=q1
 cases r1
 refine IJ ?_
 cases c with
 |false=>exact hb O0 s1 σ H1 Q I1 q1
 |true=>exact⟨.bl true,H1,I1,rfl,q1⟩
theorem Bo (ha:PE X a ta):PE X (.UnaryOp .Not a pos) (Dj ta):=by
 intro O0 s σ H Q I h
 refine UnaryOp_ (bW (ha O0 s σ H _ I h) λv s1 z_=> ?_)
 obtain⟨x,H1,I1,r1,q1⟩:=z_
 obtain⟨c,rfl,q1⟩:=q1
 cases r1
 exact not_of (IJ ⟨.bl (!c),H1,I1,rfl,q1⟩)
end
end L2
namespace L2
open PySem PySem.Spec PyProof.Rows
def c9 (K:Gs) (H:Hp) (a:Gw) (xs:List V):Prop:=
 Rd H a (.lst xs)\/
  ∃(o:Hi) (its:Array Gu) (n:Nat),K.lookup a=some o/\o.cls= .type "list"/\o.dict=none/\o.data= .seq its n/\its.size<=sizeLine/\aL xs its.toList
def fE (K:Gs) (H:Hp) (a:Gw) (xs:List V):Prop:=
 Rd H a (.tup xs)\/
  ∃(o:Hi) (its:Array Gu) (n:Nat),K.lookup a=some o/\o.cls= .type "tuple"/\o.data= .seq its n/\its.size<=sizeLine/\aL xs its.toList
def EV:Gu->Option V
 | .none=>some .non
 | .bool b=>some (.bl b)
 | .int i _=>some (.int i)
 | .str x _=>some (.str x)
 | .bytes b _=>some (.byt b)
 | .float b _=>some (.flt b)
 | .ref a=>some (.ref a)
 | .type n=>some (.ty n)
 |_=>none
theorem b6.abs {x:V} {u:Gu} (r:b6 x u):EV u=some x:=by
 cases x with
 |non=>cases r;rfl
 |bl _=>cases r;rfl
 |int _=>obtain⟨t,rfl⟩:=r;rfl
 |str _=>obtain⟨t,rfl⟩:=r;rfl
 |byt _=>obtain⟨t,rfl⟩:=r;rfl
 |flt _=>obtain⟨t,rfl⟩:=r;rfl
 |ref _=>cases r;rfl
 |ty _=>cases r;rfl
theorem b6.inj {x y:V} {u:Gu} (r:b6 x u) (q:b6 y u):x=y:=HG (r.abs.symm.trans q.abs)
theorem aL.inj:∀{xs ys:List V} {us:List Gu},aL xs us->aL ys us->xs=ys
 |_,_,_, .nil, .nil=>rfl
 |_,_,_, .cons r t, .cons r' t'=>by rw[r.inj r',aL.inj t t']
section
variable {X:Cx} {O0:List (Gw×Hi)} {σ:St} {H:Hp} {s:Gx} {a:Gw} {xs ys:List V}
theorem c9.of {K:Gs} (h:H a=some (.lst xs)):c9 K H a xs:= .inl (.inl h)
theorem fE.of {K:Gs} (h:H a=some (.tup xs)):fE K H a xs:= .inl (.inl h)
theorem aB.list (I:aB X O0 σ H s) (h:c9 X.K H a xs):∃its:List Gu,aL xs its/\PlainL s.heap a its.toArray/\xs.length<=sizeLine:=by
 rcases h with h|⟨o,its,n,hk,hc,hd,hs,hz,r⟩
 ·obtain⟨z,its,n,r,e⟩:=h.ok I.hok
  exact⟨its,r,⟨_,n,e,rfl,rfl,rfl⟩,z⟩
 ·refine⟨its.toList,r,⟨o,n,I.kIn a o hk,hc,hd,by simpa using hs⟩,?_⟩
  have e:=r.length
  simp only[Iu]at e
  omega
theorem aB.tuple (I:aB X O0 σ H s) (h:fE X.K H a xs):∃its:List Gu,aL xs its/\Mi s.heap a its.toArray/\xs.length<=sizeLine:=by
 rcases h with h|⟨o,its,n,hk,hc,hs,hz,r⟩
 ·obtain⟨z,its,r,p⟩:=h.ok I.hok
  exact⟨its,r,p.tup,z⟩
 ·refine⟨its.toList,r,⟨o,I.kIn a o hk,hc,n,by simpa using hs⟩,?_⟩
  have e:=r.length
  simp only[Iu]at e
  omega
theorem aB.list_inj (I:aB X O0 σ H s) (h:c9 X.K H a xs) (h':c9 X.K H a ys):xs=ys:=by
 obtain⟨its,r,⟨o,n,e,_,_,d⟩,_⟩:=I.list h
 obtain⟨its',r',⟨o',n',e',_,_,d'⟩,_⟩:=I.list h'
 rw[e]at e';cases e'
 rw[d]at d'
 injection d' with d1 _
 have:its=its':=by simpa using congrArg NT d1
 subst this
 exact r.inj r'
theorem aB.tuple_inj (I:aB X O0 σ H s) (h:fE X.K H a xs) (h':fE X.K H a ys):xs=ys:=by
 obtain⟨its,r,⟨o,e,_,n,d⟩,_⟩:=I.tuple h
 obtain⟨its',r',⟨o',e',_,n',d'⟩,_⟩:=I.tuple h'
 rw[e]at e';cases e'
 rw[d]at d'
 injection d' with d1 _
 have:its=its':=by simpa using congrArg NT d1
 subst this
 exact r.inj r'
end
abbrev Cx.wish (X:Cx) (E:Gu->Gx->Prop):Cx:={X with xe:=E}
abbrev Cx.nox (X:Cx):Cx:=X.wish λ_ _=>False
theorem Cx.Ok.wish {X:Cx} (ok:X.Ok) (E:Gu->Gx->Prop):(X.wish E).Ok:=
 ⟨ok.mod,ok.kind,ok.glob,ok.blt,ok.above,ok.inj,ok.has,ok.cab,ok.hd,ok.frames,ok.stk,ok.exf,ok.bs,ok.bsz,ok.noex,ok.exfs,ok.funs,ok.frf⟩
theorem Cx.Ok.unwish {X:Cx} {E:Gu->Gx->Prop} (ok:(X.wish E).Ok):X.Ok:=
 ⟨ok.mod,ok.kind,ok.glob,ok.blt,ok.above,ok.inj,ok.has,ok.cab,ok.hd,ok.frames,ok.stk,ok.exf,ok.bs,ok.bsz,ok.noex,ok.exfs,ok.funs,ok.frf⟩
section
variable {X:Cx} {O0:List (Gw×Hi)} {σ:St} {H:Hp} {s:Gx} {E:Gu->Gx->Prop}
theorem aB.wish (I:aB X O0 σ H s) (E:Gu->Gx->Prop):aB (X.wish E) O0 σ H s:=⟨I.ok.wish E,I.os,I.bare,I.base,I.loc,I.cell,I.free,I.freeC,I.pin,I.hok,I.len⟩
theorem aB.unwish (I:aB (X.wish E) O0 σ H s):aB X O0 σ H s:=⟨I.ok.unwish,I.os,I.bare,I.base,I.loc,I.cell,I.free,I.freeC,I.pin,I.hok,I.len⟩
theorem SP.unwish {D:kZ} {f:Flow} {s':Gx} (h:SP (X.wish E) O0 D f s'):SP X O0 D f s':=by
 cases f with
 |next=>obtain⟨σ',H',I,q⟩:=h;exact⟨σ',H',I.unwish,q⟩
 |brk=>obtain⟨σ',H',I,q⟩:=h;exact⟨σ',H',I.unwish,q⟩
 |cont=>obtain⟨σ',H',I,q⟩:=h;exact⟨σ',H',I.unwish,q⟩
 |ret u=>obtain⟨v,σ',H',I,r,q⟩:=h;exact⟨v,σ',H',I.unwish,r,q⟩
theorem PE.nox {e:GD} {t:TE} (h:PE X.nox e t):PE X e t:=λO0 s σ H Q I hw=>
 IC (h O0 s σ H Q (I.wish _) hw) (λ_ _ ⟨v,H',I',r,q⟩=>⟨v,H',I'.unwish,r,q⟩) λ_ _ z=>Ie z
theorem PT.nox {e:GD} {t:TT} (h:PT X.nox e t):PT X e t:=λO0 s σ H Q I hw=>
 IC (h O0 s σ H Q (I.wish _) hw) (λ_ _ ⟨H',I',q⟩=>⟨H',I'.unwish,q⟩) λ_ _ z=>Ie z
theorem oR.nox {st:List Hl} {t:TS} (h:oR X.nox st t):oR X st t:=λO0 s σ H D I hw=>
 IC (h O0 s σ H D (I.wish _) hw) (λ_ _ q=>q.unwish) λ_ _ z=>Ie z
end
section
variable {X:Cx} {st:Hl} {rest:List Hl} {t u:TS} {e:GD} {te:TE} {pos:Hr}
def Dl:TS:=λD σ H=>D.nx σ H
def EW (t u:TS):TS:=λD σ H=>t {D with nx:=u D} σ H
theorem yV:oR X [] Dl:=λ_ _ σ H _ I h=>Kt ⟨σ,H,I,h⟩
theorem wN (h1:PS X st t) (h2:oR X rest u):oR X (st::rest) (EW t u):=by
 intro O0 s σ H D I h
 refine wpAny_execs_cons (bW (h1 O0 s σ H {D with nx:=u D} I h) λf s1 q=> ?_)
 cases f with
 |next=>
  obtain⟨σ',H',I',q⟩:=q
  exact h2 O0 s1 σ' H' D I' q
 |ret v=>exact q
 |brk=>exact q
 |cont=>exact q
theorem yW (h1:PS X st t):oR X [st] t:=by
 intro O0 s σ H D I h
 refine wpAny_execs_cons (bW (h1 O0 s σ H D I h) λf s1 q=> ?_)
 cases f with
 |next=>exact Kt q
 |ret v=>exact q
 |brk=>exact q
 |cont=>exact q
theorem aB.quiet {O0:List (Gw×Hi)} {σ:St} {H:Hp} {s:Gx} (I:aB X O0 σ H s):interactive X.env=false:=by simp[interactive,I.ok.kind]
def Dm (te:TE):TS:=λD σ H=>te σ H λ_ H1=>D.nx σ H1
theorem gl (he:PE X e te) (hs:HA e none pos.line X.env=pure false:=by rfl):PS X (.Expr e pos) (Dm te):=by
 intro O0 s σ H D I h
 exact wpAny_Expr_any (bW (he O0 s σ H _ I h) λv s1 ⟨x,H1,I1,r1,q1⟩=>⟨σ,H1,I1,q1⟩) I.quiet hs
def EX (te:TE):TS:=λD σ H=>te σ H D.rt
theorem sy (he:PE X e te):PS X (.Return (some e) pos) (EX te):=by
 intro O0 s σ H D I h
 exact wpAny_Return_some (bW (he O0 s σ H _ I h) λv s1 ⟨x,H1,I1,r1,q1⟩=>⟨x,σ,H1,I1,r1,q1⟩)
def EY (c:TT) (t u:TS):TS:=λD σ H=>c σ H λb H1=>if b=true then t D σ H1 else u D σ H1
theorem Dn {c:GD} {a b:List Hl} {tc:TT} (hc:PT X c tc) (ha:oR X a t) (hb:oR X b u):PS X (.If c a b pos) (EY tc t u):=by
 intro O0 s σ H D I h
 refine wpAny_If (bW (hc O0 s σ H _ I h) λd s1 z_=> ?_)
 obtain⟨H1,I1,q1⟩:=z_
 cases d with
 |true=>exact ha O0 s1 σ H1 D I1 q1
 |false=>exact hb O0 s1 σ H1 D I1 q1
end
abbrev TG:=V->St->Hp->(St->Hp->Prop)->Prop
abbrev wO:=List V->St->Hp->(St->Hp->Prop)->Prop
def PG (X:Cx) (Sy:GD) (t:TG):Prop:=
 ∀(O0:List (Gw×Hi)) (s:Gx) (σ:St) (H:Hp) (v:V) (u:Gu) (Q:St->Hp->Prop),aB X O0 σ H s->b6 v u->t v σ H Q->
  GI (GN X.prog X.w) X.A (Kb Sy X.env u) (λ_ s'=>∃σ' H',aB X O0 σ' H' s'/\Q σ' H') X.xe s
def wQ (X:Cx) (ts:List GD) (t:wO):Prop:=
 ∀(O0:List (Gw×Hi)) (s:Gx) (σ:St) (H:Hp) (vs:List V) (us:List Gu) (Q:St->Hp->Prop),aB X O0 σ H s->aL vs us->t vs σ H Q->
  GI (GN X.prog X.w) X.A (assignInOrder ((HY ts X.env).map (·.2)) us) (λ_ s'=>∃σ' H',aB X O0 σ' H' s'/\Q σ' H') X.xe s
abbrev Bp:=V->V->V->Hp->(Hp->Prop)->Prop
def Dp (X:Cx) (t:Bp):Prop:=
 ∀(O0:List (Gw×Hi)) (s:Gx) (σ:St) (H:Hp) (o i v:V) (ov iv u:Gu) (Q:Hp->Prop),aB X O0 σ H s->b6 o ov->b6 i iv->b6 v u->t o i v H Q->
  GI (GN X.prog X.w) X.A (NH ov iv u) (λ_ s'=>∃H',aB X O0 σ H' s'/\Q H') X.xe s
section
variable {X:Cx} {pos:Hr}
def AF (i:Nat):TG:=λv σ H Q=>Q (σ.set i (some v)) H
theorem uh {i:Nat} {x:Gv} (hN:X.N.Nodup) (hi:X.N[i]? =some x) (hx:wH X.env.scope x) (hf:X.fn x=true\/X.env.scope.names.lookup x=some .local:=by first|exact .inl rfl|exact .inr rfl|assumption):PG X (.Name x pos) (AF i):=by
 intro O0 s σ H v u Q I r h
 exact wpAny_assign_Name (m_ I hN hi hx r (λs' I'=>⟨_,H,I',h⟩) hf)
def EZ:wO:=λvs σ H Q=>vs=[]/\Q σ H
def Dq (t:TG) (u:wO):wO:=λvs σ H Q=>∃v r,vs=v::r/\t v σ H λσ' H'=>u r σ' H' Q
theorem yX:wQ X [] EZ:=by
 intro O0 s σ H vs us Q I r h
 obtain⟨e,h⟩:=h
 subst e
 cases r
 exact assignInOrder_nil ⟨σ,H,I,h⟩
theorem wR {e:GD} {es:List GD} {t:TG} {u:wO} (h1:PG X e t) (h2:wQ X es u)
  (hs:(HY (e::es) X.env).map (·.2)=Kb e X.env::(HY es X.env).map (·.2):=by rfl):wQ X (e::es) (Dq t u):=by
 intro O0 s σ H vs us Q I r h
 obtain⟨v,vr,e1,h⟩:=h
 subst e1
 cases r with
 |cons r rr=>
  rw[hs]
  refine assignInOrder_cons (bW (h1 O0 s σ H _ _ _ I r h) λ_ s1 z_=> ?_)
  obtain⟨σ1,H1,I1,q1⟩:=z_
  exact h2 O0 s1 σ1 H1 _ _ Q I1 rr q1
def E_ (K:Gs) (n:Nat) (t:wO):TG:=λv σ H Q=>∃a xs,v= .ref a/\fE K H a xs/\xs.length=n/\t xs σ H Q
theorem Bq {es:List GD} {k:Nat} {t:wO} {n:Nat} (hc:X.calm=true) (h:wQ X es t)
  (hn:(HY es X.env).length=n:=by rfl) (QD:(HY es X.env).findIdx? (·.1)=none:=by rfl):PG X (.Tuple es k pos) (E_ X.K n t):=by
 intro O0 s σ H v u Q I r hw
 obtain⟨a,xs,e1,hq,hl,hw⟩:=hw
 subst e1
 cases r
 obtain⟨its,rv,ht,hz⟩:=I.tuple hq
 refine assign_Tuple_tuple (I.ok.hd hc) ht (by simp[hn,<-hl,rv.length]) QD λh' hx=> ?_
 have I1:aB X O0 σ H {s with heap:=h'}:=I.kept (t':=s.toks) λb o e=>hx b o (Hj (GR e)) e
 exact h O0 _ σ H xs _ Q I1 (by simpa using rv) hw
def F7 (to ti:TE) (t:Bp):TG:=λv σ H Q=>to σ H λo H1=>ti σ H1 λi H2=>t o i v H2 λH3=>Q σ H3
theorem Br {o i:GD} {to ti:TE} {t:Bp} (ho:PE X o to) (hi:PE X i ti) (hs:Dp X t)
  (ha:∀v,Kb (.Subscript o i pos) X.env v=(do
   let ov<-J8 [v] (GW o X.env)
   let iv<-J8 [v,ov] (GW i X.env)
   J_ pos
   J8 [v,ov,iv] (NH ov iv v)
   release [v,ov,iv] []):=by intro _;rfl):PG X (.Subscript o i pos) (F7 to ti t):=by
 intro O0 s σ H v u Q I r h
 rw[ha]
 refine Gz (HH (bW (ho O0 s σ H _ I h) λov s1 z_=> ?_))
 obtain⟨x,H1,I1,r1,q1⟩:=z_
 refine Gz (HH (bW (hi O0 s1 σ H1 _ I1 q1) λiv s2 z_=> ?_))
 obtain⟨y,H2,I2,r2,q2⟩:=z_
 refine Gz (Ke (Gz (HH (bW (hs O0 s2 σ H2 x y v ov iv u _ I2 r1 r2 r q2) λ_ s3 z_=> ?_))))
 obtain⟨H3,I3,q3⟩:=z_
 exact wpAny_release ⟨σ,H3,I3,q3⟩
def Dr (te:TE) (g:TG):TS:=λD σ H=>te σ H λx H1=>g x σ H1 D.nx
theorem Bs {tg e:GD} {te:TE} {g:TG} (he:PE X e te) (hg:PG X tg g) (hs:swapsWithSole [tg] e pos.line X.env=pure false:=by rfl) (hw:swappedStores [tg] e X.env=pure none:=by rfl)
  (h1:(HY [tg] X.env).map (·.2)=[Kb tg X.env]:=by rfl):PS X (.Assign [tg] e pos) (Dr te g):=by
 intro O0 s σ H D I h
 refine wpAny_Assign_stores (bW (he O0 s σ H _ I h) λv s1 z_=> ?_) hs hw
 obtain⟨x,H1,I1,r1,q1⟩:=z_
 rw[h1]
 exact bW (hg O0 s1 σ H1 x v _ I1 r1 q1) λ_ s2 q=>q
theorem l6 {i:Nat} {x:Gv} {e:GD} {te:TE} {Oh:Hr} (hN:X.N.Nodup) (hi:X.N[i]? =some x) (hx:wH X.env.scope x) (he:PE X e te) (hs:HA e (some (.Name x Oh)) pos.line X.env=pure false:=by rfl) (hf:X.fn x=true\/X.env.scope.names.lookup x=some .local:=by first|exact .inl rfl|exact .inr rfl|assumption):
  PS X (.Assign [.Name x Oh] e pos) (Dr te (AF i)):=by
 intro O0 s σ H D I h
 refine wpAny_Assign_Name (bW (he O0 s σ H _ I h) λv s1 z_=> ?_) hs
 obtain⟨y,H1,I1,r1,q1⟩:=z_
 exact m_ I1 hN hi hx r1 (λs2 I2=>⟨_,H1,I2,q1⟩) hf
end
section
variable {X:Cx} {pos:Hr}
end
structure It where
 go:Nat->Hp->Prop
 yld:Nat->Hp->V->Hp->Prop
 stop:Nat->Hp->Prop
def kh (X:Cx) (O0:List (Gw×Hi)) (H:Hp) (b:Gw):Prop:=
 H b=none/\b≠X.env.locals/\b∉X.fs/\(b∈X.ex\/X.s₀.heap.objs.size<=b)/\(∀x c,X.env.cells.lookup x=some c->c≠b)/\∀p∈X.pn++O0,p.1≠b
theorem aB.fpOk {X:Cx} {O0:List (Gw×Hi)} {σ:St} {H H':Hp} {s:Gx} {b:Gw} (I:aB X O0 σ H s) (hb:s.heap.objs.size<=b) (hn:H' b=none):kh X O0 H' b:=by
 refine⟨hn,Nat.ne_of_gt (Hf I.lt hb),I.nofs hb, .inr (Ht I.sz hb),λx c e z=> ?_,λp hp z=> ?_⟩
 ·obtain⟨v,q⟩:=I.cell x c e
  exact absurd (Hf q.lt (by rw[z];exact hb)) (H_ _)
 ·exact absurd (Hf (GR (I.pin p hp).1) (by rw[z];exact hb)) (H_ _)
structure vh (P:GP) (w:G_) (K:Gs) (tg:GD) (J:It) (fp:List Gw) (it:Gw) (tn:Nat->GY->Prop):Prop where
 mem:it∈fp
 obj:∀i h,tn i h->∀b∈fp,∃o,h.get? b=some o/\∀v,o.data≠ .cell v
 keep:∀i h h',tn i h->(∀b∈fp,∀o,h.get? b=some o->h'.get? b=some o)->tn i h'
 item:∀(X:Cx),X.prog=P->X.w=w->X.K=K->X.calm=true->∀(i:Nat) (O0:List (Gw×Hi)) (s:Gx) (σ:St) (H:Hp) (E:Gu->Gx->Prop),aB X O0 σ H s->(∀b∈fp,kh X O0 H b)->tn i s.heap->J.go i H->
  GI (GN P w) X.A (pyNext (.ref it)) (λr s1=>∃u,r=some u/\
   GI (GN P w) X.A (LJ tg (.ref it) u) (λ_ s2=>∃x H',aB X O0 σ H' s2/\b6 x u/\J.yld i H x H'/\tn (i+1) s2.heap/\∀b∈fp,H' b=none) E s1) E s
 done:∀(X:Cx),X.prog=P->X.w=w->X.K=K->X.calm=true->∀(i:Nat) (O0:List (Gw×Hi)) (s:Gx) (σ:St) (H:Hp) (E:Gu->Gx->Prop),aB X O0 σ H s->(∀b∈fp,kh X O0 H b)->tn i s.heap->J.stop i H->
  GI (GN P w) X.A (pyNext (.ref it)) (λr s1=>r=none/\aB X O0 σ H s1) E s
 self:∀(A:Hd) (i:Nat) (s:Gx) (Q:Gu->Gx->Prop) (E:Gu->Gx->Prop),tn i s.heap->Q (.ref it) s->GI (GN P w) A (pyIter (.ref it)) Q E s
abbrev TI:=St->Hp->(It->Hp->Prop)->Prop
def FL (X:Cx) (O0:List (Gw×Hi)) (σ:St) (tg:GD) (R:It->Hp->Prop) (Ug:Gu) (s2:Gx):Prop:=
 ∃(it:Gw) (fp:List Gw) (tn:Nat->GY->Prop) (J:It) (H':Hp),Ug= .ref it/\aB X O0 σ H' s2/\vh X.prog X.w X.K tg J fp it tn/\tn 0 s2.heap/\(∀b∈fp,kh X O0 H' b)/\R J H'
def PI (X:Cx) (tg Oj:GD) (wi:TI):Prop:=
 ∀(O0:List (Gw×Hi)) (s:Gx) (σ:St) (H:Hp) (R:It->Hp->Prop),aB X O0 σ H s->wi σ H R->
  GI (GN X.prog X.w) X.A (GW Oj X.env) (λv s1=>GI (GN X.prog X.w) X.A (pyIter v) (FL X O0 σ tg R) X.xe s1) X.xe s
theorem wU {M:N2} {A:Hd} {E:Gu->Gx->Prop} {s:Gx} {tg:GD} {it:Gw} {u:Gu} {o:Hi} {n:String} {vs:Array Gu} {Q:Unit->Gx->Prop} (ho:s.heap.get? it=some o) (hc:o.cls= .type n) (hd:o.data= .fields vs)
  (hn:["enumerate","zip","dict_itemiterator","dict_reverseitemiterator","odict_iterator","itertools.zip_longest","itertools.pairwise"].contains n=false) (hQ:Q () s):GI M A (LJ tg (.ref it) u) Q E s:=by
 unfold LJ
 cases tg<;>first
  |exact GH hQ
  |(cases u<;>first
    |exact GH hQ
    |(refine Gz (wpAny_load ho ?_)
      rw[hc,hd]
      show GI M A (if (["enumerate","zip","dict_itemiterator","dict_reverseitemiterator","odict_iterator","itertools.zip_longest","itertools.pairwise"].contains n&&vs[0]? ==some (rawInt _))=true then _ else _) Q E s
      rw[if_neg (by intro h;rw[hn,Bool.false_and]at h;cases h)]
      exact GH hQ))
def Ey (K:Gs) (a:Gw):It:=
 ⟨λi H=>∃xs x,c9 K H a xs/\xs[i]? =some x,λi H x H'=>H'=H/\∀xs,c9 K H a xs->xs[i]? =some x,λi H=>∃xs,c9 K H a xs/\xs.length<=i⟩
def F8 (K:Gs) (a:Gw):It:=
 ⟨λi H=>∃xs x,fE K H a xs/\xs[i]? =some x,λi H x H'=>H'=H/\∀xs,fE K H a xs->xs[i]? =some x,λi H=>∃xs,fE K H a xs/\xs.length<=i⟩
def Ez (lo:Int) (n:Nat):It:=⟨λi _=>i<n,λi H x H'=>H'=H/\x= .int (lo+i),λi _=>n<=i⟩
theorem vi {P:GP} {w:G_} {K:Gs} {tg:GD} (a it:Gw):vh P w K tg (Ey K a) [it] it (λi h=>h.IsListIter it a i)where
 mem:=by simp
 obj:=λi h st b hb=>by
  have e:b=it:=by simpa using hb
  subst e
  obtain⟨o,e,c,d⟩:=st
  exact⟨o,e,λv z=>by rw[d]at z;cases z⟩
 keep:=λi h h' st k=>st.at λo e=>k it (by simp) o e
 item:=by
  intro X hP hw hK hc i O0 s σ H E I hf st hg
  subst hP hw hK
  obtain⟨xs,x,hq,hx⟩:=hg
  obtain⟨its,rv,p,hz⟩:=I.list hq
  obtain⟨u,hu,ru⟩:=rv.get hx
  obtain⟨f0,f1,f2,f3,f4,f5⟩:=hf it (by simp)
  refine wpAny_pyNext_list_item st p.isList (x:=u) (by simpa using hu) λh' Rb sb=> ?_
  have I1:aB X O0 σ H {s with heap:=h'}:=I.turned (t':=s.toks) (λb o hb e=>(sb.2 b hb).trans e) f0 f1 f3 f4 f5
  obtain⟨o,e,c,d⟩:=id Rb
  exact⟨u,rfl,wU (s:={s with heap:=h'}) e c d (by decide) ⟨x,H,I1,ru,⟨rfl,λys hy=>by rw[I.list_inj hy hq];exact hx⟩,Rb,λb hb=>(hf b hb).1⟩⟩
 done:=by
  intro X hP hw hK hc i O0 s σ H E I hf st hg
  subst hP hw hK
  obtain⟨xs,hq,hx⟩:=hg
  obtain⟨its,rv,p,hz⟩:=I.list hq
  obtain⟨f0,f1,f2,f3,f4,f5⟩:=hf it (by simp)
  have hl:=rv.length
  exact wpAny_pyNext_list_end (I.ok.hd hc) st p.isList (by simp;omega) λh' eb=>⟨rfl,I.turned (t':=s.toks) (λb o hb e=>eb b o hb e) f0 f1 f3 f4 f5⟩
 self:=λ_ _ _ _ _ st h=>wpAny_pyIter_listiter st h
theorem sA {P:GP} {w:G_} {K:Gs} {tg:GD} (a it:Gw):vh P w K tg (F8 K a) [it] it (λi h=>h.IsTupleIter it a i)where
 mem:=by simp
 obj:=λi h st b hb=>by
  have e:b=it:=by simpa using hb
  subst e
  obtain⟨o,e,c,d⟩:=st
  exact⟨o,e,λv z=>by rw[d]at z;cases z⟩
 keep:=λi h h' st k=>st.at λo e=>k it (by simp) o e
 item:=by
  intro X hP hw hK hc i O0 s σ H E I hf st hg
  subst hP hw hK
  obtain⟨xs,x,hq,hx⟩:=hg
  obtain⟨its,rv,p,hz⟩:=I.tuple hq
  obtain⟨u,hu,ru⟩:=rv.get hx
  obtain⟨f0,f1,f2,f3,f4,f5⟩:=hf it (by simp)
  refine wpAny_pyNext_tuple_item st (show s.heap.IsTuple a its.toArray from p) (x:=u) (by simpa using hu) λh' Rb sb=> ?_
  have I1:aB X O0 σ H {s with heap:=h'}:=I.turned (t':=s.toks) (λb o hb e=>(sb.2 b hb).trans e) f0 f1 f3 f4 f5
  obtain⟨o,e,c,d⟩:=id Rb
  exact⟨u,rfl,wU (s:={s with heap:=h'}) e c d (by decide) ⟨x,H,I1,ru,⟨rfl,λys hy=>by rw[I.tuple_inj hy hq];exact hx⟩,Rb,λb hb=>(hf b hb).1⟩⟩
 done:=by
  intro X hP hw hK hc i O0 s σ H E I hf st hg
  subst hP hw hK
  obtain⟨xs,hq,hx⟩:=hg
  obtain⟨its,rv,p,hz⟩:=I.tuple hq
  obtain⟨f0,f1,f2,f3,f4,f5⟩:=hf it (by simp)
  have hl:=rv.length
  exact wpAny_pyNext_tuple_end (I.ok.hd hc) st (show s.heap.IsTuple a its.toArray from p) (by simp;omega) λh' eb=>⟨rfl,I.turned (t':=s.toks) (λb o hb e=>eb b o hb e) f0 f1 f3 f4 f5⟩
 self:=λ_ _ _ _ _ st h=>wpAny_pyIter_tupleiter st h
theorem sB {P:GP} {w:G_} {K:Gs} {tg:GD} (it:Gw) (lo:Int) (n:Nat):vh P w K tg (Ez lo n) [it] it (λi h=>IsRangeIter h it (lo+(i:Nat)*1) ((n:Int) - (i:Nat)) 1)where
 mem:=by simp
 obj:=λi h st b hb=>by
  have e:b=it:=by simpa using hb
  subst e
  exact⟨_,st,λv z=>by
   have z':Data.fields _=Data.cell v:=z
   cases z'⟩
 keep:=λi h h' st k=>k it (by simp) _ st
 item:=by
  intro X hP hw hK hc i O0 s σ H E I hf st hg
  subst hP hw hK
  obtain⟨f0,f1,f2,f3,f4,f5⟩:=hf it (by simp)
  have W:=Walks.range (prog:=X.prog) (w:=X.w) (I.ok.hd hc) it lo 1 n
  refine W.item i s _ _ hg st λv h' tk hv Rb kk=> ?_
  obtain⟨t,rfl⟩:=hv
  have I1:aB X O0 σ H {s with heap:=h',toks:=tk}:=I.turned (λb o hb e=>kk b o (by simpa using hb) e) f0 f1 f3 f4 f5
  refine⟨_,rfl,wU (s:={s with heap:=h',toks:=tk}) (n:="range_iterator") Rb rfl rfl (by decide) ⟨.int (lo+i),H,I1,⟨t,?_⟩,⟨rfl,rfl⟩,Rb,λb hb=>(hf b hb).1⟩⟩
  rw[Int.mul_one]
 done:=by
  intro X hP hw hK hc i O0 s σ H E I hf st hg
  subst hP hw hK
  obtain⟨f0,f1,f2,f3,f4,f5⟩:=hf it (by simp)
  exact wpAny_pyNext_range_end (I.ok.hd hc) st (by have:n<=i:=hg;omega) λh' eb=>⟨rfl,I.turned (t':=s.toks) (λb o hb e=>eb b o hb e) f0 f1 f3 f4 f5⟩
 self:=λ_ _ _ _ _ st h=>wpAny_pyIter_rangeiter st h
end L2
namespace L2
open PySem PySem.Spec PyProof.Rows
section
variable {X:Cx} {tg:GD}
def Ds (K:Gs) (tl:TE):TI:=λσ H R=>tl σ H λx H1=>∃a,x= .ref a/\(∃xs,c9 K H1 a xs)/\R (Ey K a) H1
def F9 (K:Gs) (tl:TE):TI:=λσ H R=>tl σ H λx H1=>∃a,x= .ref a/\(∃xs,fE K H1 a xs)/\R (F8 K a) H1
theorem pR {l:GD} {tl:TE} (hl:PE X l tl):PI X tg l (Ds X.K tl):=by
 intro O0 s σ H R I h
 refine bW (hl O0 s σ H _ I h) λv s1 z_=> ?_
 obtain⟨x,H1,I1,r1,q1⟩:=z_
 obtain⟨a,e,⟨xs,hq⟩,q⟩:=q1
 subst e
 cases r1
 obtain⟨its,rv,p,hz⟩:=I1.list hq
 refine Jm p.isList ?_
 refine⟨s1.heap.objs.size,[s1.heap.objs.size],_,_,H1,rfl,I1.kept (t':=s1.toks) λb o e=>GF _ e,vi a _,⟨_,He _ rfl,rfl,rfl⟩,λb hb=> ?_,q⟩
 have e:b=s1.heap.objs.size:=by simpa using hb
 subst e
 exact I1.fpOk (GZ _) (I1.hok.fresh (GZ _))
theorem Bt {l:GD} {tl:TE} (hl:PE X l tl):PI X tg l (F9 X.K tl):=by
 intro O0 s σ H R I h
 refine bW (hl O0 s σ H _ I h) λv s1 z_=> ?_
 obtain⟨x,H1,I1,r1,q1⟩:=z_
 obtain⟨a,e,⟨xs,hq⟩,q⟩:=q1
 subst e
 cases r1
 obtain⟨its,rv,p,hz⟩:=I1.tuple hq
 refine MN (show s1.heap.IsTuple a its.toArray from p) ?_
 refine⟨s1.heap.objs.size,[s1.heap.objs.size],_,_,H1,rfl,I1.kept (t':=s1.toks) λb o e=>GF _ e,sA a _,⟨_,He _ rfl,rfl,rfl⟩,λb hb=> ?_,q⟩
 have e:b=s1.heap.objs.size:=by simpa using hb
 subst e
 exact I1.fpOk (GZ _) (I1.hok.fresh (GZ _))
theorem wV {O0:List (Gw×Hi)} {σ:St} {H:Hp} {s:Gx} {R:It->Hp->Prop} {E:Gu->Gx->Prop} {lo hi:Int} {t u v:JP} {tk:Nat} (I:aB X O0 σ H s) (h1: -(2 ^62)<=lo) (h2:lo<2 ^62) (h3: -(2 ^62)<=hi) (h4:hi<2 ^62)
  (q:R (Ez lo (hi - lo).toNat) H):GI (GN X.prog X.w) X.A (pyIter (.ref s.heap.objs.size)) (FL X O0 σ tg R) E {s with heap:=s.heap.push {cls:= .type "range",data:= .fields #[.int lo t, .int hi u, .int 1 v]},toks:=tk}:=by
 refine wpAny_pyIter_range (IsRange.new ..) (small_one h1 h2 h3 h4) ?_
 have I1:aB X O0 σ H {s with heap:=s.heap.push {cls:= .type "range",data:= .fields #[.int lo t, .int hi u, .int 1 v]},toks:=tk}:=I.kept λb o e=>GF _ e
 refine⟨(s.heap.push {cls:= .type "range",data:= .fields #[.int lo t, .int hi u, .int 1 v]}).objs.size,[(s.heap.push {cls:= .type "range",data:= .fields #[.int lo t, .int hi u, .int 1 v]}).objs.size],_,_,H,rfl,
  I1.kept (t':=tk) λb o e=>GF _ e,sB _ lo (hi - lo).toNat,?_,λb hb=> ?_,q⟩
 ·have e1:lo+((0:Nat):Int)*1=lo:=by simp
  have e2:(((hi - lo).toNat:Nat):Int) - ((0:Nat):Int)=K3 lo hi 1:=by rw[rangeSize_one];split<;>omega
  show IsRangeIter _ _ (lo+((0:Nat):Int)*1) ((((hi - lo).toNat:Nat):Int) - ((0:Nat):Int)) 1
  rw[e1,e2]
  exact He _ rfl
 ·have e:b=(s.heap.push {cls:= .type "range",data:= .fields #[.int lo t, .int hi u, .int 1 v]}).objs.size:=by simpa using hb
  subst e
  exact I1.fpOk (GZ _) (I1.hok.fresh (GZ _))
def Dt (ta:TA):TI:=λσ H R=>ta σ H λvs H1=>∃j:Int,vs=[.int j]/\ -(2 ^62)<=j/\j<2 ^62/\R (Ez 0 j.toNat) H1
theorem vj {a:GD} {ta:TA} {p pos:Hr} (hg:Gl X "range") (hm:X.mg "range"=none) (ha:PA X [a] ta) (hs:Gy [a] X.env=[(false,GW a X.env)]:=by rfl):PI X tg (.Call (.Name "range" p) [a] [] pos) (Dt ta):=by
 intro O0 s σ H R I h
 refine Call_ (k_ I hg hm Nb (Jx (bW (ha pos O0 s σ H _ I h) λus s1 z_=> ?_) hs rfl))
 obtain⟨vs,H1,I1,r1,q1⟩:=z_
 obtain⟨j,e,q1,q2,q⟩:=q1
 subst e
 cases r1 with
 |cons r rr=>
  cases rr
  obtain⟨t,rfl⟩:=r
  exact call_range_1 (wV I1 (by omega) (by omega) q1 q2 (by simpa using q))
def Du (wi:TI) (g:TG) (tb:TS):TS:=λD σ H=>wi σ H λJ H1=>∃W:Nat->Nat->St->Hp->Prop,(∃m,W 0 m σ H1)/\∀i m σ H,W i m σ H->
 (J.stop i H/\D.nx σ H)\/(J.go i H/\∃N:St->Hp->Prop,(∀σ' H',N σ' H'->∃m',m'<m/\W (i+1) m' σ' H')/\∀x H',J.yld i H x H'->g x σ H' λσ2 H2=>tb {D with nx:=N,ct:=N,bk:=D.nx} σ2 H2)
def n0 (fp:List Gw) (h:GY):List (Gw×Hi):=fp.filterMap λb=>(h.get? b).map λo=>(b,o)
theorem i0 {fp:List Gw} {h:GY} {b:Gw} {o:Hi} (hb:b∈fp) (e:h.get? b=some o):(b,o)∈n0 fp h:=KL.mpr ⟨b,hb,by rw[e];rfl⟩
theorem vk {fp:List Gw} {h:GY} {p:Gw×Hi} (hp:p∈n0 fp h):p.1∈fp/\h.get? p.1=some p.2:=by
 obtain⟨b,hb,e⟩:=KL.mp hp
 cases q:h.get? b with
 |none=>rw[q]at e;cases e
 |some o=>
  rw[q]at e
  have e':(b,o)=p:=HG e
  subst e'
  exact⟨hb,q⟩
theorem aB.pinned {O0:List (Gw×Hi)} {σ:St} {H:Hp} {s:Gx} {fp:List Gw} (I:aB X O0 σ H s) (hf:∀b∈fp,kh X O0 H b) (ho:∀b∈fp,∃o,s.heap.get? b=some o/\∀v,o.data≠ .cell v):aB X (O0++n0 fp s.heap) σ H s:=
 I.pins_of λp hp=>(HP.mp hp).elim (λz=>I.pin p (Hk _ z)) λz=>by
  obtain⟨hb,e⟩:=vk z
  obtain⟨f0,f1,f2,_⟩:=hf p.1 hb
  obtain⟨o,e',d⟩:=ho p.1 hb
  rw[e]at e';cases e'
  exact⟨e,f0,f1,f2,d⟩
theorem aB.unpinned {O0 pl:List (Gw×Hi)} {σ:St} {H:Hp} {s:Gx} (I:aB X (O0++pl) σ H s):aB X O0 σ H s:=I.pins_of λp hp=>I.pin p (Hk _ (HE _ hp))
theorem Bu {Oj:GD} {body:List Hl} {wi:TI} {g:TG} {tb:TS} {pos:Hr} (hp:PassesOwn (GN X.prog X.w) X.A X.env X.xe) (hc:X.calm=true) (hi:PI X tg Oj wi) (hg:PG X tg g) (hb:oR X body tb)
  (hs:∀x,IK Oj X.env x=pure x:=by intro _;rfl):PS X (.For tg Oj body [] pos) (Du wi g tb):=by
 intro O0 s σ H D I h
 refine wpAny_For (bW (hi O0 s σ H _ I h) λv s1 h1=>bW h1 λUg s2 h2=> ?_) hs
 obtain⟨it,fp,tn,J,H2,e,I2,T,S2,f2,W,⟨m0,w0⟩,Sz⟩:=h2
 subst e
 have Rc:∀{H':Hp},(∀b∈fp,H' b=none)->∀b∈fp,kh X O0 H' b:=λhn b hb=>⟨hn b hb,(f2 b hb).2⟩
 refine codeAny_forLoop_any (λn s'=>∃i σ' H',aB X O0 σ' H' s'/\tn i s'.heap/\(∀b∈fp,H' b=none)/\W i n σ' H') ?_ m0 ⟨0,σ,H2,I2,S2,λb hb=>(f2 b hb).1,w0⟩
 rintro n s3 ⟨i,σ3,H3,I3,Vz,VA,w3⟩
 rcases Sz i n σ3 H3 w3 with ⟨stop,qn⟩|⟨go,N,hN,step⟩
 ·refine JI hp (bW (T.done X rfl rfl rfl hc i O0 s3 σ3 H3 X.xe I3 (Rc VA) Vz stop) λr s4 z_=> ?_)
  obtain⟨hr,I4⟩:=z_
  subst hr
  exact Kt ⟨σ3,H3,I4,qn⟩
 ·refine JI hp (bW (T.item X rfl rfl rfl hc i O0 s3 σ3 H3 X.xe I3 (Rc VA) Vz go) λr s4 z_=> ?_)
  obtain⟨u,hr,h4⟩:=z_
  subst hr
  refine JI hp (bW h4 λ_ s5 z_=> ?_)
  obtain⟨x,H5,I5,r5,y5,Uy,Wa⟩:=z_
  have Wb:=I5.pinned (Rc Wa) (T.obj _ _ Uy)
  refine JI hp (bW (hg _ s5 σ3 H5 x u _ Wb r5 (step x H5 y5)) λ_ s6 z_=> ?_)
  obtain⟨σ6,H6,I6,q6⟩:=z_
  refine JI hp (bW (hb _ s6 σ6 H6 _ I6 q6) λf s7 q7=> ?_)
  have again:∀{σ7:St} {H7:Hp},aB X (O0++n0 fp s5.heap) σ7 H7 s7->N σ7 H7->∃m,m<n/\∃i σ' H',aB X O0 σ' H' s7/\tn i s7.heap/\(∀b∈fp,H' b=none)/\W i m σ' H':=λ{σ7 H7} I7 n7=>by
   obtain⟨m',hm,w7⟩:=hN σ7 H7 n7
   refine⟨m',hm,i+1,σ7,H7,I7.unpinned,T.keep _ _ _ Uy λb hb o e=>(I7.pin (b,o) (Hk _ (Hk _ (i0 hb e)))).1,λb hb=> ?_,w7⟩
   obtain⟨o,e,d⟩:=T.obj _ _ Uy b hb
   exact(I7.pin (b,o) (Hk _ (Hk _ (i0 hb e)))).2.1
  cases f with
  |next=>obtain⟨σ7,H7,I7,n7⟩:=q7;exact again I7 n7
  |cont=>obtain⟨σ7,H7,I7,n7⟩:=q7;exact again I7 n7
  |brk=>obtain⟨σ7,H7,I7,q7⟩:=q7;exact⟨σ7,H7,I7.unpinned,q7⟩
  |ret v=>obtain⟨x7,σ7,H7,I7,r7,q7⟩:=q7;exact⟨x7,σ7,H7,I7.unpinned,r7,q7⟩
end
end L2
namespace L2
open PySem PySem.Spec PyProof.Rows
abbrev R2:=V->V->Hp->VK->Prop
def ju (X:Cx) (f:Gu->Gu->Kj Gu) (r:R2):Prop:=
 ∀(O0:List (Gw×Hi)) (s:Gx) (σ:St) (H:Hp) (x y:V) (v u:Gu) (Q:VK),aB X O0 σ H s->b6 x v->b6 y u->r x y H Q->
  GI (GN X.prog X.w) X.A (f v u) (EP X O0 σ Q) X.xe s
def EA (X:Cx) (f:Gu->Kj Gu) (r:V->Hp->VK->Prop):Prop:=
 ∀(O0:List (Gw×Hi)) (s:Gx) (σ:St) (H:Hp) (x:V) (v:Gu) (Q:VK),aB X O0 σ H s->b6 x v->r x H Q->
  GI (GN X.prog X.w) X.A (f v) (EP X O0 σ Q) X.xe s
def c7 (X:Cx) (f:Gu) (r:List V->Hp->VK->Prop):Prop:=
 ∀(O0:List (Gw×Hi)) (s:Gx) (σ:St) (H:Hp) (xs:List V) (us:List Gu) (Q:VK),aB X O0 σ H s->aL xs us->r xs H Q->
  GI (GN X.prog X.w) X.A (call f us) (EP X O0 σ Q) X.xe s
def Fa (X:Cx) (r:V->Hp->(Bool->Hp->Prop)->Prop):Prop:=
 ∀(O0:List (Gw×Hi)) (s:Gx) (σ:St) (H:Hp) (x:V) (v:Gu) (Q:Bool->Hp->Prop),aB X O0 σ H s->b6 x v->r x H Q->
  GI (GN X.prog X.w) X.A (truthy v) (TP X O0 σ Q) X.xe s
def EB (r:R2) (ta tb:TE):TE:=λσ H Q=>ta σ H λx H1=>tb σ H1 λy H2=>r x y H2 Q
def G8 (r:V->Hp->VK->Prop) (ta:TE):TE:=λσ H Q=>ta σ H λx H1=>r x H1 Q
def rI (C:Int->Int->Prop) (g:Int->Int->V):R2:=λx y H Q=>∃i j,x= .int i/\y= .int j/\C i j/\Q (g i j) H
def vm (g:Int->Int->V):R2:=λx y H Q=>∃i j,x= .int i/\y= .int j/\Q (g i j) H
def rU (g:Int->V):V->Hp->VK->Prop:=λx H Q=>∃i,x= .int i/\Q (g i) H
section
variable {X:Cx} {a b c:GD} {ta tb tc:TE} {pos:Hr}
theorem Bw (ha:PE X a ta) (hb:PE X b tb) {O0:List (Gw×Hi)} {s:Gx} {σ:St} {H:Hp} {R:V->V->Hp->Prop} (I:aB X O0 σ H s)
  (h:ta σ H λx H1=>tb σ H1 λy H2=>R x y H2) {Q:Gu->Gx->Prop} {f:Gu->Gu->Kj Gu}
  (hf:∀v u s2 x y H2,aB X O0 σ H2 s2->b6 x v->b6 y u->R x y H2->GI (GN X.prog X.w) X.A (f v u) Q X.xe s2):
  GI (GN X.prog X.w) X.A (GW a X.env) (λv s₁=>GI (GN X.prog X.w) X.A (GW b X.env) (λu s₂=>GI (GN X.prog X.w) X.A (f v u) Q X.xe s₂) X.xe s₁) X.xe s:=by
 refine bW (ha O0 s σ H _ I h) λv s1 z_=> ?_
 obtain⟨x,H1,I1,r1,q1⟩:=z_
 refine bW (hb O0 s1 σ H1 _ I1 q1) λu s2 z_=> ?_
 obtain⟨y,H2,I2,r2,q2⟩:=z_
 exact hf v u s2 x y H2 I2 r1 r2 q2
theorem Dv {op:Operator} {r:R2} (ho:ju X (ID op) r) (ha:PE X a ta) (hb:PE X b tb):PE X (.BinOp a op b pos) (EB r ta tb):=by
 intro O0 s σ H Q I h
 exact wpAny_BinOp (Bw ha hb I h λv u s2 x y H2 I2 rx ry q=>ho O0 s2 σ H2 x y v u Q I2 rx ry q)
theorem Dw {op:UnaryOp} {r:V->Hp->VK->Prop} (ho:EA X (unaryOp op) r) (ha:PE X a ta):PE X (.UnaryOp op a pos) (G8 r ta):=by
 intro O0 s σ H Q I h
 exact UnaryOp_ (bW (ha O0 s σ H _ I h) λv s1 ⟨x,H1,I1,r1,q1⟩=>ho O0 s1 σ H1 x v Q I1 r1 q1)
theorem EC {f:Gu->Gu->Kj Gu} {C:Int->Int->Prop} {g:Int->Int->Int}
  (rule:∀(i j:Int) (t u:JP) (s:Gx) (Q:Gu->Gx->Prop) (E:Gu->Gx->Prop),C i j->Q (.int (g i j) s.toks) {s with toks:=s.toks+1}->GI (GN X.prog X.w) X.A (f (.int i t) (.int j u)) Q E s):
  ju X f (rI C λi j=> .int (g i j)):=by
 intro O0 s σ H x y v u Q I rx ry h
 obtain⟨i,j,rfl,rfl,hc,q⟩:=h
 obtain⟨t,rfl⟩:=rx
 obtain⟨t',rfl⟩:=ry
 exact rule i j t t' s _ _ hc ⟨.int (g i j),H,I.tok _,⟨_,rfl⟩,q⟩
theorem Dx {f:Gu->Gu->Kj Gu} {g:Int->Int->Int}
  (rule:∀(i j:Int) (t u:JP) (s:Gx) (Q:Gu->Gx->Prop) (E:Gu->Gx->Prop),Q (.int (g i j) s.toks) {s with toks:=s.toks+1}->GI (GN X.prog X.w) X.A (f (.int i t) (.int j u)) Q E s):
  ju X f (vm λi j=> .int (g i j)):=by
 intro O0 s σ H x y v u Q I rx ry h
 obtain⟨i,j,rfl,rfl,q⟩:=h
 obtain⟨t,rfl⟩:=rx
 obtain⟨t',rfl⟩:=ry
 exact rule i j t t' s _ _ ⟨.int (g i j),H,I.tok _,⟨_,rfl⟩,q⟩
theorem Bx {f:Gu->Gu->Kj Gu} {g:Int->Int->Bool}
  (rule:∀(i j:Int) (t u:JP) (s:Gx) (Q:Gu->Gx->Prop) (E:Gu->Gx->Prop),Q (.bool (g i j)) s->GI (GN X.prog X.w) X.A (f (.int i t) (.int j u)) Q E s):
  ju X f (vm λi j=> .bl (g i j)):=by
 intro O0 s σ H x y v u Q I rx ry h
 obtain⟨i,j,rfl,rfl,q⟩:=h
 obtain⟨t,rfl⟩:=rx
 obtain⟨t',rfl⟩:=ry
 exact rule i j t t' s _ _ ⟨.bl (g i j),H,I,rfl,q⟩
def yY (i j:Int):Prop:=0<j/\j<1073741824
def yZ (i j:Int):Prop:=0<=j/\j<=1000000/\i.natAbs<2 ^64
def vn (i j:Int):Prop:=(-(2 ^64)<i/\i<2 ^64)\/(-(2 ^64)<j/\j<2 ^64)
theorem vn.ok {i j:Int} (h:vn i j):IntMulOk i j:=by
 rcases h with ⟨h1,h2⟩|⟨h1,h2⟩
 ·exact .of_left (intBits_le_64 h1 h2)
 ·exact .of_right (intBits_le_64 h1 h2)
theorem By:ju X (ID .Add) (vm λi j=> .int (i+j)):=Dx λ_ _ _ _ _ _ _ q=>add_int q
theorem sC:ju X (ID .Sub) (vm λi j=> .int (i - j)):=Dx λ_ _ _ _ _ _ _ q=>sub_int q
theorem Bz:ju X (ID .Mult) (rI vn λi j=> .int (i*j)):=EC λ_ _ _ _ _ _ _ hc q=>mul_int q hc.ok
theorem bI:ju X (ID .FloorDiv) (rI yY λi j=> .int (i / j)):=EC λi j _ _ _ _ _ hc q=>by
 have h1:(0:Int)<j:=hc.1
 have h2:j<1073741824:=hc.2
 exact floordiv_int (by omega) (by rw[Int.fdiv_eq_ediv_of_nonneg i (by omega)];exact q) (.inl (PyProof.noPylong_small (by omega)))
theorem aW:ju X (ID .Mod) (rI (λ_ j=>0<j) λi j=> .int (i%j)):=EC λi j _ _ _ _ _ hc q=>by
 have h1:(0:Int)<j:=hc
 exact mod_int' (by omega) (by rw[Int.fmod_eq_emod_of_nonneg i (by omega)];exact q)
theorem sD:ju X (ID .Pow) (rI yZ λi j=> .int (i ^j.toNat)):=EC λ_ _ _ _ _ _ _ hc q=>pow_int_small hc.1 hc.2.1 hc.2.2 q
theorem G9 {f:Gu->Kj Gu} {g:Int->Int}
  (rule:∀(i:Int) (t:JP) (s:Gx) (Q:Gu->Gx->Prop) (E:Gu->Gx->Prop),Q (.int (g i) s.toks) {s with toks:=s.toks+1}->GI (GN X.prog X.w) X.A (f (.int i t)) Q E s):
  EA X f (rU λi=> .int (g i)):=by
 intro O0 s σ H x v Q I rx h
 obtain⟨i,rfl,q⟩:=h
 obtain⟨t,rfl⟩:=rx
 exact rule i t s _ _ ⟨.int (g i),H,I.tok _,⟨_,rfl⟩,q⟩
theorem n4:EA X (unaryOp .USub) (rU λi=> .int (-i)):=G9 λ_ _ _ _ _ q=>neg_int q
end
def BB:V->V->Bool
 | .non, .non=>true| .non, .int _=>true| .int _, .non=>true| .non, .bl _=>true| .bl _, .non=>true| .non, .str _=>true| .str _, .non=>true
 | .int _, .int _=>true| .bl _, .bl _=>true| .str _, .str _=>true| .byt _, .byt _=>true
 | .int _, .str _=>true| .str _, .int _=>true| .bl _, .str _=>true| .str _, .bl _=>true
 |_,_=>false
def FN:R2:=λx y H Q=>BB x y=true/\Q (.bl (decide (x=y))) H
def FO:R2:=λx y H Q=>BB x y=true/\Q (.bl (!decide (x=y))) H
theorem ui {i j:Int}:decide (V.int i=V.int j)=(i==j):=by
 rw[IZ]
 simp
theorem wW {i j:Bool}:decide (V.bl i=V.bl j)=(i==j):=by
 rw[IZ]
 simp
theorem uj {i j:Gv}:decide (V.str i=V.str j)=(i==j):=by
 rw[IZ]
 simp
theorem uk {i j:Array UInt8}:decide (V.byt i=V.byt j)=(i.toList==j.toList):=by
 rw[IZ]
 cases i
 cases j
 simp
section
variable {X:Cx} {a b c:GD} {ta tb tc:TE} {pos:Hr}
theorem bc {O0:List (Gw×Hi)} {σ:St} {H:Hp} {s:Gx} {Q:VK} {k k':Bool} (I:aB X O0 σ H s) (q:Q (.bl k) H) (e:k=k'):EP X O0 σ Q (.bool k') s:=by
 subst e
 exact⟨.bl k,H,I,rfl,q⟩
theorem gm:ju X (Ir .Eq) FN:=by
 intro O0 s σ H x y v u Q I rx ry h
 obtain⟨hs,q⟩:=h
 cases x with
 |non=>
  cases rx
  cases y with
  |non=>cases ry;exact PySem.EqNone.eq_none_none (bc I q (by simp))
  |bl j=>cases ry;exact PySem.EqNone.eq_none_bool (bc I q (by simp))
  |int j=>obtain⟨t',rfl⟩:=ry;exact PySem.EqNone.eq_none_int (bc I q (by simp))
  |str j=>obtain⟨t',rfl⟩:=ry;exact PySem.EqNone.eq_none_str (bc I q (by simp))
  |_=>exact absurd (show false=true from hs) H9
 |bl i=>
  cases rx
  cases y with
  |non=>cases ry;exact PySem.EqNone.eq_bool_none (bc I q (by simp))
  |bl j=>cases ry;exact eq_bool (bc I q wW)
  |str j=>obtain⟨t',rfl⟩:=ry;exact PySem.EqMixed.eq_bool_str (bc I q (by simp))
  |_=>exact absurd (show false=true from hs) H9
 |int i=>
  obtain⟨t,rfl⟩:=rx
  cases y with
  |non=>cases ry;exact PySem.EqNone.eq_int_none (bc I q (by simp))
  |int j=>obtain⟨t',rfl⟩:=ry;exact eq_int (bc I q ui)
  |str j=>obtain⟨t',rfl⟩:=ry;exact PySem.EqMixed.eq_int_str (bc I q (by simp))
  |_=>exact absurd (show false=true from hs) H9
 |str i=>
  obtain⟨t,rfl⟩:=rx
  cases y with
  |non=>cases ry;exact PySem.EqNone.eq_str_none (bc I q (by simp))
  |bl j=>cases ry;exact PySem.EqMixed.eq_str_bool (bc I q (by simp))
  |int j=>obtain⟨t',rfl⟩:=ry;exact PySem.EqMixed.eq_str_int (bc I q (by simp))
  |str j=>obtain⟨t',rfl⟩:=ry;exact eq_str (bc I q uj)
  |_=>exact absurd (show false=true from hs) H9
 |byt i=>
  obtain⟨t,rfl⟩:=rx
  cases y with
  |byt j=>obtain⟨t',rfl⟩:=ry;exact PySem.W.eq_bytes (bc I q uk)
  |_=>exact absurd (show false=true from hs) H9
 |_=>cases y<;>exact absurd (show false=true from hs) H9
theorem ul:ju X (Ir .NotEq) FO:=by
 intro O0 s σ H x y v u Q I rx ry h
 obtain⟨hs,q⟩:=h
 cases x with
 |non=>
  cases rx
  cases y with
  |non=>cases ry;exact PySem.EqNone.ne_none_none (bc I q (by simp))
  |bl j=>cases ry;exact PySem.EqNone.ne_none_bool (bc I q (by simp))
  |int j=>obtain⟨t',rfl⟩:=ry;exact PySem.EqNone.ne_none_int (bc I q (by simp))
  |str j=>obtain⟨t',rfl⟩:=ry;exact PySem.EqNone.ne_none_str (bc I q (by simp))
  |_=>exact absurd (show false=true from hs) H9
 |bl i=>
  cases rx
  cases y with
  |non=>cases ry;exact PySem.EqNone.ne_bool_none (bc I q (by simp))
  |bl j=>cases ry;exact ne_bool (bc I q (congrArg not wW))
  |str j=>obtain⟨t',rfl⟩:=ry;exact PySem.EqMixed.ne_bool_str (bc I q (by simp))
  |_=>exact absurd (show false=true from hs) H9
 |int i=>
  obtain⟨t,rfl⟩:=rx
  cases y with
  |non=>cases ry;exact PySem.EqNone.ne_int_none (bc I q (by simp))
  |int j=>obtain⟨t',rfl⟩:=ry;exact ne_int (bc I q (congrArg not ui))
  |str j=>obtain⟨t',rfl⟩:=ry;exact PySem.EqMixed.ne_int_str (bc I q (by simp))
  |_=>exact absurd (show false=true from hs) H9
 |str i=>
  obtain⟨t,rfl⟩:=rx
  cases y with
  |non=>cases ry;exact PySem.EqNone.ne_str_none (bc I q (by simp))
  |bl j=>cases ry;exact PySem.EqMixed.ne_str_bool (bc I q (by simp))
  |int j=>obtain⟨t',rfl⟩:=ry;exact PySem.EqMixed.ne_str_int (bc I q (by simp))
  |str j=>obtain⟨t',rfl⟩:=ry;exact ne_str (bc I q (congrArg not uj))
  |_=>exact absurd (show false=true from hs) H9
 |byt i=>
  obtain⟨t,rfl⟩:=rx
  cases y with
  |byt j=>obtain⟨t',rfl⟩:=ry;exact PySem.W.ne_bytes (bc I q (congrArg not uk))
  |_=>exact absurd (show false=true from hs) H9
 |_=>cases y<;>exact absurd (show false=true from hs) H9
theorem n5:ju X (Ir .Lt) (vm λi j=> .bl (decide (i<j))):=Bx λ_ _ _ _ _ _ _ q=>lt_int q
theorem lR:ju X (Ir .Gt) (vm λi j=> .bl (decide (j<i))):=Bx λ_ _ _ _ _ _ _ q=>gt_int q
theorem wX:ju X (Ir .GtE) (vm λi j=> .bl (decide (j<=i))):=Bx λ_ _ _ _ _ _ _ q=>ge_int q
theorem ju.or {f:Gu->Gu->Kj Gu} {r r':R2} (h:ju X f r) (h':ju X f r'):ju X f (λx y H Q=>r x y H Q\/r' x y H Q):=by
 intro O0 s σ H x y v u Q I rx ry q
 rcases q with q|q
 ·exact h O0 s σ H x y v u Q I rx ry q
 ·exact h' O0 s σ H x y v u Q I rx ry q
theorem wY (b:GD) {op:Mj} (h:op≠ .In:=by decide) (h2:op≠ .NotIn:=by decide):Ij op b=false:=by
 have e1:(op==CmpOp.In)=false:=by cases op<;>first|rfl|exact absurd rfl h
 have e2:(op==CmpOp.NotIn)=false:=by cases op<;>first|rfl|exact absurd rfl h2
 cases b<;>simp[Ij,e1,e2]
theorem y_ {op:Mj} {r:R2} (ho:ju X (Ir op) r) (ha:PE X a ta) (hb:PE X b tb) (hm:Ij op b=false):PE X (.Compare a [op] [b] pos) (EB r ta tb):=by
 intro O0 s σ H Q I h
 exact wpAny_Compare1 (Bw ha hb I h λv u s2 x y H2 I2 rx ry q=>ho O0 s2 σ H2 x y v u Q I2 rx ry q) hm
def AG (t:TE):TT:=λσ H Q=>t σ H λx H'=>∃k,x= .bl k/\Q k H'
theorem zc {op:Mj} {r:R2} (ho:ju X (Ir op) r) (ha:PE X a ta) (hb:PE X b tb) (hm:Ij op b=false):PT X (.Compare a [op] [b] pos) (AG (EB r ta tb)):=by
 intro O0 s σ H Q I h
 refine M4 (bW (ha O0 s σ H _ I h) λv s1 ⟨x,H1,I1,r1,q1⟩=>bW (hb O0 s1 σ H1 _ I1 q1) λu s2 ⟨y,H2,I2,r2,q2⟩=>
  bW (ho O0 s2 σ H2 x y v u _ I2 r1 r2 q2) λc s3 ⟨z,H3,I3,r3,k,e,q3⟩=> ?_) hm
 subst e
 cases r3
 exact IJ ⟨H3,I3,q3⟩
def Dy (K:Gs) (x:V) (H:Hp) (k:Bool):Prop:=
 match x with
 | .non=>k=false
 | .bl b=>k=b
 | .int i=>k=(i != 0)
 | .str y=>y.length<=sizeLine/\k=((y.length:Int) != 0)
 | .byt y=>y.size<=sizeLine/\k=((y.size:Int) != 0)
 | .ref p=>(∃xs,c9 K H p xs/\k= !xs.isEmpty)\/(∃xs,fE K H p xs/\k= !xs.isEmpty)\/∃kvs,H p=some (.dK kvs)/\k= !kvs.isEmpty
 |_=>False
theorem sE {κ:Type} {kvs:List (κ×V)} {vs:List (κ×Gu)} (r:KV kvs vs):(!vs.isEmpty)= !kvs.isEmpty:=by
 cases r<;>rfl
theorem n6 {xs:List V} {its:List Gu} (r:aL xs its):(!its.toArray.isEmpty)= !xs.isEmpty:=by
 cases r<;>simp
theorem l7:(sizeLine:Nat)<2 ^63:=by rw[Ik];decide
theorem BC:Fa X (λx H Q=>∃k,Dy X.K x H k/\Q k H):=by
 intro O0 s σ H x v Q I rx h
 obtain⟨k,e,q⟩:=h
 have hl:=l7
 have hs:sizeLine=16777216:=Ik
 cases x with
 |non=>
  cases rx
  have e':k=false:=e
  subst e'
  exact truthy_none ⟨H,I,q⟩
 |bl b=>
  cases rx
  have e':k=b:=e
  subst e'
  exact IJ ⟨H,I,q⟩
 |int i=>
  obtain⟨t,rfl⟩:=rx
  have e':k=(i != 0):=e
  subst e'
  exact PySem.P.truthy_int ⟨H,I,q⟩
 |str y=>
  obtain⟨t,rfl⟩:=rx
  obtain⟨hy,e'⟩:y.length<=sizeLine/\k=((y.length:Int) != 0):=e
  subst e'
  exact PySem.P.truthy_str (by omega) ⟨H,I.tok _,q⟩
 |byt y=>
  obtain⟨t,rfl⟩:=rx
  obtain⟨hy,e'⟩:y.size<=sizeLine/\k=((y.size:Int) != 0):=e
  subst e'
  exact PySem.W.truthy_bytes (by omega) ⟨H,I.tok _,q⟩
 |ref p=>
  cases rx
  have e':(∃xs,c9 X.K H p xs/\k= !xs.isEmpty)\/(∃xs,fE X.K H p xs/\k= !xs.isEmpty)\/∃kvs,H p=some (.dK kvs)/\k= !kvs.isEmpty:=e
  rcases e' with ⟨xs,hx,e'⟩|⟨xs,hx,e'⟩|⟨kvs,hx,e'⟩
  ·subst e'
   obtain⟨its,r,pl,hz⟩:=I.list hx
   have Oe:=r.length
   exact wpAny_truthy_list pl.isList (by simp only[GB];omega) ⟨H,I.tok _,by rw[n6 r];exact q⟩
  ·subst e'
   obtain⟨its,r,pl,hz⟩:=I.tuple hx
   have Oe:=r.length
   exact truthy_tuple pl (by simp only[GB];omega) ⟨H,I.tok _,by rw[n6 r];exact q⟩
  ·subst e'
   obtain⟨hz,hS,vs,r,m⟩:kvs.length<=sizeLine/\(p==sysModules)=false/\∃vs,KV kvs vs/\s.heap.DictOf (cu X.prog X.w) p vs:=I.hok p _ hx
   have Oe:kvs.length=vs.length:=KS r
   exact wpAny_truthy_dict hS m (by omega) ⟨H,I.tok _,by rw[sE r];exact q⟩
 |_=>exact(show False from e).elim
theorem wZ (ha:PE X a ta) (he:∀Qd,Nt a X.env Qd=(do let v<-Qd;J_ a.pos;J8 [v] (truthy v))):
  PT X a (λσ H Q=>ta σ H λx H'=>∃k,Dy X.K x H' k/\Q k H'):=by
 intro O0 s σ H Q I h
 exact isTrue_plain (bW (ha O0 s σ H _ I h) λv s1 ⟨x,H1,I1,r1,q1⟩=>BC O0 s1 σ H1 x v Q I1 r1 q1) (he _)
theorem gO {x:V} {us:List Gu} (r:aL [x] us):∃u,us=[u]/\b6 x u:=by
 cases r with
 |cons r1 r2=>cases r2;exact⟨_,rfl,r1⟩
theorem um {x y:V} {us:List Gu} (r:aL [x,y] us):∃u w',us=[u,w']/\b6 x u/\b6 y w':=by
 cases r with
 |cons r1 r2=>
  cases r2 with
  |cons r3 r4=>cases r4;exact⟨_,_,rfl,r1,r3⟩
theorem oS (hc:X.calm=true):c7 X (.builtin "min") (λxs H Q=>∃i j,xs=[.int i, .int j]/\Q (.int (if j<i then j else i)) H):=by
 intro O0 s σ H xs us Q I r h
 obtain⟨i,j,rfl,q⟩:=h
 obtain⟨u,w',rfl,⟨t,rfl⟩,⟨t',rfl⟩⟩:=um r
 refine min_two_ints (I.ok.hd hc) λh' tk k=>⟨_,H,I.kept k,?_,q⟩
 by_cases hj:j<i
 ·rw[if_pos hj,if_pos hj];exact⟨_,rfl⟩
 ·rw[if_neg hj,if_neg hj];exact⟨_,rfl⟩
end
end L2
namespace L2
open PySem PySem.Spec PyProof.Rows
structure sG (h:GY) (x dx C:Gw) (mA:Gv->Option Gu):Prop where
 obj:h.get? x=some (IB C dx)
 ns:h.Ns1 dx mA
 ne:dx≠x
theorem vo {h:GY} {dx:Gw} {mA:Gv->Option Gu} (n:h.Ns1 dx mA):∃od,h.get? dx=some od/\∀name,KI name od=some (mA name):=by
 obtain⟨o,es,ep,ho,hd,hk,_,hm⟩:=n
 refine⟨o,ho,λname=> ?_⟩
 have e:=hm name
 unfold nsFind findBy at e
 rw[<-Array.find?_toList]at e
 unfold KI
 rw[hd]
 dsimp only
 split
 ·rename_i y q
  rw[q]at e
  exact congrArg some e
 ·rename_i q
  rw[q]at e
  have a:es.toList.any (·.refKey)=false:=by
   rw[L7]
   intro y hy
   obtain⟨z,t,SA⟩:=hk y (Array.mem_toList_iff.mp hy)
   simp[DictEntry.refKey,SA]
  have a':¬es.toList.any (·.refKey)=true:=by rw[a];exact H9
  rw[if_neg a']
  exact congrArg some e
theorem sG.look {h:GY} {x dx C:Gw} {mA:Gv->Option Gu} (I:sG h x dx C mA):∃od,PySem.W.InstAt h x (IB C dx) C (some od)/\∀name,KI name od=some (mA name):=
 let ⟨od,ho,hl⟩:=vo I.ns
 ⟨od,⟨I.obj,rfl,rfl,ho⟩,hl⟩
section
variable {prog:GP} {w:G_} {A:Hd} {E:Gu->Gx->Prop} {s:Gx} {K:Gs} {x dx C f:Gw} {mA:Gv->Option Gu} {name:Gv} {v:Gu}
theorem ze {Uz:Bool} {Q:Gu->Gx->Prop} (X:K.In s.heap) (I:sG s.heap x dx C mA) (hg:IT K C name=true) (hh:J4 K C=true)
  (ha:GQ K (.ref C) name=some none) (hv:mA name=some v) (SD:Nf v=true) (h:Q v {s with toks:=s.toks+1}):
  GI (GN prog w) A (getAttr (.ref x) name Uz) Q E s:=by
 obtain⟨od,J,hl⟩:=I.look
 exact PySem.W.get_value X J (KG hg).1 (PySem.W.findObj_own hh ha rfl (by rw[hl,hv])) SD h
theorem w_ {pl:Kj Bool} {Q:Gu×List Gu->Gx->Prop} (X:K.In s.heap) (I:sG s.heap x dx C mA) (hg:IT K C name=true)
  (hf:GQ K (.ref C) name=some (some (.ref f))) (ht:Ku K (.ref f)=true) (hv:mA name=none) (h:Q (.ref f,[.ref x]) s):
  GI (GN prog w) A (JQ (.ref x) name pl) Q E s:=by
 obtain⟨od,J,hl⟩:=I.look
 exact PySem.W.method_fn X J (KG hg).1 (KG hg).2 hf (beq_iff_eq.mp ht) (by show (KI name od).map (·.isSome)=some false;rw[hl,hv];rfl) h
theorem zf {ns:List Gv} {Q:Unit->Gx->Prop} (X:K.In s.heap) (I:sG s.heap x dx C mA)
  (hs:GQ K (.ref C) "__setattr__"=some (some (.builtin "object.__setattr__"))) (hp:Jn K C=true) (ht:LK K C name=some none) (hh:J4 K C=true)
  (hw:MJ mA ns) (hsz:ns.length<=sizeLine)
  (h:∀h',sG h' x dx C (λy=>if y=name then some v else mA y)->Ln dx s.heap h'->Q () {s with heap:=h',toks:=s.toks+2}):
  GI (GN prog w) A (setAttr (.ref x) name v) Q E s:=by
 obtain⟨od,J,hl⟩:=I.look
 refine PySem.W.set_plain X J hs (PySem.W.osa_open (s:={s with toks:=s.toks+1}) (r:=none) X J hp ht λb=> ?_)
 obtain⟨cd,hc,To⟩:=PySem.W.any_some hh
 have hx:s.heap.get? x=some ⟨.ref C,some dx, .plain,#[]⟩:=I.obj
 refine Gz (GH (Gz (Gz (wpAny_loadPart hx (Gz (PySem.W.Looks.here (s:={s with toks:=s.toks+1}) (PySem.W.looks_clsIn X hc) ?_))))))
 rw[To]
 refine GH (a:=some dx) (Gz (GH (Gz ?_)))
 refine wpAny_nsSet1 (s:={s with toks:=s.toks+1}) I.ns λh' SE Sm=> ?_
 obtain⟨oD,XY,XZ,Wc,Wd,We⟩:=SE.count (PySem.Within.cons name v hw)
 refine Gz (wpAny_lookBehind Wc (by rw[Wd];exact pastItsLine_dict (Ht We (by rw[GX];omega))) ?_)
 exact GH (h _ ⟨(Sm.2 _ (II I.ne)).trans I.obj,SE,I.ne⟩ Sm)
theorem x4 {R:MO->Gx->Prop} {vs:List Gu} {kw:List (Gv×Gu)} (X:K.In s.heap) (hm:Jj K C=true)
  (hi:GQ K (.ref C) "__init__"=some (some (.ref f))) (hf:M5 K (.ref f)=some (.type "function"))
  (h:K0 (GN prog w) (A.under (.builtin "type.__call__" ⟨.ref C::vs,kw⟩)) (.call (.ref f) ⟨.ref (s.heap.objs.size+1)::vs,kw⟩) (PySem.W.InitBack (s.heap.objs.size+1) R)
   {s with heap:=(s.heap.push Ib).push (IB C s.heap.objs.size)}):
  K0 (GN prog w) A (.call (.ref C) ⟨vs,kw⟩) R s:=by
 obtain⟨hh,g,d,t,os⟩:=s
 exact PySem.W.make_core (PySem.W.makes_of X hm) (Jy X hi) (λself=>PySem.W.bind_fn X self hf) (.inl rfl) h
end
def e_ (f:Gv) (v:V):List (Gv×V)->List (Gv×V)
 |[]=>[(f,v)]
 |(g,x)::r=>if g=f then (g,v)::r else (g,x)::e_ f v r
theorem bX (f g:Gv) (v:V):∀fs:List (Gv×V),(e_ f v fs).lookup g=if g=f then some v else fs.lookup g
 |[]=>by
  show JG g [(f,v)]=_
  by_cases h:g=f
  ·have hb:(g==f)=true:=beq_iff_eq.mpr h
   simp only[JG,hb,if_pos h]
  ·have hb:(g==f)=false:=beq_eq_false_iff_ne.mpr h
   simp only[JG,hb,if_neg h]
 |(k,x)::r=>by
  have ih:=bX f g v r
  rw[show e_ f v ((k,x)::r)=(if k=f then (k,v)::r else (k,x)::e_ f v r)from rfl]
  by_cases hk:k=f
  ·rw[if_pos hk]
   by_cases h:g=k
   ·have hb:(g==k)=true:=beq_iff_eq.mpr h
    simp only[JG,hb,if_pos (h.trans hk)]
   ·have hb:(g==k)=false:=beq_eq_false_iff_ne.mpr h
    simp only[JG,hb,if_neg (λe:g=f=>h (e.trans hk.symm))]
  ·rw[if_neg hk]
   by_cases h:g=k
   ·have hb:(g==k)=true:=beq_iff_eq.mpr h
    simp only[JG,hb,if_neg (λe:g=f=>hk (h.symm.trans e))]
   ·have hb:(g==k)=false:=beq_eq_false_iff_ne.mpr h
    simp only[JG,hb]
    exact ih
theorem l8 (f:Gv) (v:V):∀fs:List (Gv×V),f∈(e_ f v fs).map (·.1)/\∀g,g∈fs.map (·.1)->g∈(e_ f v fs).map (·.1)
 |[]=>⟨by simp[e_],λg h=>by simp at h⟩
 |(k,x)::r=>by
  obtain⟨i1,i2⟩:=l8 f v r
  rw[show e_ f v ((k,x)::r)=(if k=f then (k,v)::r else (k,x)::e_ f v r)from rfl]
  by_cases hk:k=f
  ·rw[if_pos hk]
   subst hk
   exact⟨by simp,λg h=>by simpa using h⟩
  ·rw[if_neg hk]
   refine⟨?_,λg h=> ?_⟩
   ·rw[GL]
    exact GU _ i1
   ·rw[GL]at h ⊢
    rcases GK.mp h with e|e
    ·exact GK.mpr (.inl e)
    ·exact GU _ (i2 g e)
theorem lS (f:Gv) (v:V):∀fs:List (Gv×V),(e_ f v fs).length<=fs.length+1
 |[]=>by simp[e_]
 |(k,x)::r=>by
  have ih:=lS f v r
  rw[show e_ f v ((k,x)::r)=(if k=f then (k,v)::r else (k,x)::e_ f v r)from rfl]
  by_cases hk:k=f
  ·rw[if_pos hk,GX,GX];omega
  ·rw[if_neg hk,GX,GX];omega
theorem iE.some_of {v:V} {o:Option Gu} (r:iE (some v) o):∃u,o=some u/\b6 v u:=by
 cases o with
 |none=>exact(show False from r).elim
 |some u=>exact⟨u,rfl,r⟩
theorem iE.none_of {o:Option Gu} (r:iE none o):o=none:=by
 cases o with
 |none=>rfl
 |some u=>exact(show False from r).elim
theorem vp {v:V} {u:Gu} (r:b6 v u):Nf u=true:=by
 cases v with
 |non=>cases (show u=HL from r);rfl
 |bl b=>cases (show u=Mh b from r);rfl
 |int i=>obtain⟨t,e⟩:=(show ∃t,u=Jh i t from r);cases e;rfl
 |str x=>obtain⟨t,e⟩:=(show ∃t,u=Ki x t from r);cases e;rfl
 |byt b=>obtain⟨t,e⟩:=(show ∃t,u=NX b t from r);cases e;rfl
 |flt b=>obtain⟨t,e⟩:=(show ∃t,u=Na b t from r);cases e;rfl
 |ref a=>cases (show u=Hc a from r);rfl
 |ty n=>cases (show u=J6 n from r);rfl
section
variable {P:GP} {w:G_} {H H':Hp} {h h':GY} {a C dx:Gw} {fs QR:List (Gv×V)}
theorem mL (hok:iK P w H h) (e:H a=some (.ins C dx fs)):∃mA,sG h a dx C mA/\(∀f,iE (fs.lookup f) (mA f))/\MJ mA (fs.map (·.1))/\fs.length<=1000/\H dx=some (.own a):=by
 obtain⟨d,z,ne,ob,mA,n,r,q⟩:=(show bp P w H h a (.ins C dx fs)from hok a _ e)
 exact⟨mA,⟨ob,n,ne⟩,r,q,z,d⟩
end
structure qX (K:Gs) (C:Gw):Prop where
 pg:IT K C MP=true
 hd:J4 K C=true
 po:Jn K C=true
 sa:GQ K (.ref C) "__setattr__"=some (some (.builtin "object.__setattr__"))
theorem qX.get {K:Gs} {C:Gw} (c:qX K C) (f:Gv):IT K C f=true:=c.pg
def cU (K:Gs) (C:Gw) (f:Gv):Prop:=GQ K (.ref C) f=some none
theorem cU.taker {K:Gs} {C:Gw} {f:Gv} (n:cU K C f):LK K C f=some none:=by
 unfold LK
 rw[show GQ K (.ref C) f=some none from n]
 rfl
structure sH (K:Gs) (C:Gw) (m:Gv) (f:Gw):Prop where
 at_:GQ K (.ref C) m=some (some (.ref f))
 fn:Ku K (.ref f)=true
 kp:HC K (.ref f)=true
section
variable {X:Cx} {O0:List (Gw×Hi)} {σ:St} {H:Hp} {s:Gx} {a C dx:Gw} {fs:List (Gv×V)} {f:Gv} {v:V} {A:Hd} {E:Gu->Gx->Prop}
theorem sI {b:Bool} {Q:Gu->Gx->Prop} (I:aB X O0 σ H s) (e:H a=some (.ins C dx fs)) (c:qX X.K C) (n:cU X.K C f) (l:fs.lookup f=some v)
  (h:∀u s',aB X O0 σ H s'->b6 v u->Q u s'):GI (GN X.prog X.w) A (getAttr (.ref a) f b) Q E s:=by
 obtain⟨mA,O,r,_,_,_⟩:=mL I.hok e
 obtain⟨u,hu,ru⟩:=iE.some_of (v:=v) (o:=mA f) (by rw[<-l];exact r f)
 exact ze I.kIn O (c.get f) c.hd n hu (vp ru) (h u _ (I.tok _) ru)
theorem jJ {m:Gv} {g:Gw} {pl:Kj Bool} {Q:Gu×List Gu->Gx->Prop} (I:aB X O0 σ H s) (e:H a=some (.ins C dx fs)) (c:qX X.K C) (k:sH X.K C m g) (l:fs.lookup m=none)
  (h:Q (.ref g,[.ref a]) s):GI (GN X.prog X.w) A (JQ (.ref a) m pl) Q E s:=by
 obtain⟨mA,O,r,_,_,_⟩:=mL I.hok e
 have hn:mA m=none:=iE.none_of (by rw[<-l];exact r m)
 exact w_ I.kIn O (c.get m) k.at_ k.fn hn h
theorem n8 {y:V} {u:Gu} {Q:Unit->Gx->Prop} (I:aB X O0 σ H s) (e:H a=some (.ins C dx fs)) (c:qX X.K C) (n:cU X.K C f) (hl:fs.length<1000) (ry:b6 y u)
  (h:∀s',aB X O0 σ (b9 H a (.ins C dx (e_ f y fs))) s'->Q () s'):GI (GN X.prog X.w) A (setAttr (.ref a) f u) Q E s:=by
 obtain⟨mA,O,r,wi,_,ho⟩:=mL I.hok e
 have hz:(fs.map (·.1)).length<=sizeLine:=by rw[GA,Ik];omega
 refine zf I.kIn O c.sa c.po n.taker c.hd wi hz λh' O' sb=>h _ ?_
 have hd:∃o,h'.get? dx=some o:=let ⟨o,_,_,e',_⟩:=O'.ns;⟨o,e'⟩
 refine I.write (x:=a) (e:=dx) (by rw[e];exact IW) (.inr ho) (λb q hb z=>(sb.2 b hb).trans z) hd ?_
 refine⟨by rw[ao O.ne];exact ho,?_,O.ne,O'.obj,_,O'.ns,λg=> ?_,λg hg=> ?_⟩
 ·have:=lS f y fs;omega
 ·show iE ((e_ f y fs).lookup g) (if g=f then some u else mA g)
  rw[bX]
  by_cases q:g=f
  ·rw[if_pos q,if_pos q];exact ry
  ·rw[if_neg q,if_neg q];exact r g
 ·by_cases q:g=f
  ·rw[q];exact(l8 f y fs).1
  ·refine(l8 f y fs).2 g (wi g λz=>hg ?_)
   show (if g=f then some u else mA g)=none
   rw[if_neg q];exact z
theorem aB.made (I:aB X O0 σ H s):aB X O0 σ (b9 (b9 H s.heap.objs.size (.own (s.heap.objs.size+1))) (s.heap.objs.size+1) (.ins C s.heap.objs.size []))
  {s with heap:=(s.heap.push Ib).push (IB C s.heap.objs.size)}:=by
 have e1:(s.heap.push Ib).get? s.heap.objs.size=some Ib:=He s.heap rfl
 have e2:((s.heap.push Ib).push (IB C s.heap.objs.size)).get? (s.heap.objs.size+1)=some (IB C s.heap.objs.size):=by
  have:=He (s.heap.push Ib) (o:=IB C s.heap.objs.size) rfl
  rwa [IU]at this
 have e3:(s.heap.push Ib).Ns s.heap.objs.size (λ_=>none):=⟨Ib,#[],_,e1,rfl,(λe he=>absurd he (by simp)),λ_=>rfl⟩
 have I1:=I.laid (a:=s.heap.objs.size) (o:= .own (s.heap.objs.size+1)) (h':=s.heap.push Ib) (t':=s.toks) (λb u q=>GF _ q) (GZ _) ⟨_,e1⟩
 refine I1.laid (a:=s.heap.objs.size+1) (o:= .ins C s.heap.objs.size []) (t':=s.toks) (λb u q=>GF _ q) (Lo (IU _ _)) ?_
 have ne:s.heap.objs.size≠s.heap.objs.size+1:=Hj (Jz _)
 refine⟨by rw[ao ne,au],Il _,ne,e2,λ_=>none,(Heap.Ns1.of_empty e3).at λo q=>GF _ q,λ_=>IW,λy hy=>absurd rfl hy⟩
theorem zg {prog:GP} {w:G_} {env:Iz} {e:GD} {f:Gv} {pos:Hr} {s:Gx} {Q:Gu->Gx->Prop} (hb:Hx e f env (GW e env)=GW e env)
  (h:GI (GN prog w) A (GW e env) (λo s₁=>GI (GN prog w) A (getAttr o f true) Q E s₁) E s):GI (GN prog w) A (GW (.Attribute e f pos) env) Q E s:=
 Attribute_any_ h (by rw[arm_eval_Attribute,hb])
end
def Fb (K:Gs) (ta:TE) (f:Gv):TE:=λσ H Q=>ta σ H λx H1=>∃a C dx fs v,x= .ref a/\H1 a=some (.ins C dx fs)/\qX K C/\cU K C f/\fs.lookup f=some v/\Q v H1
def Fc (K:Gs) (ta tv:TE) (f:Gv):TS:=λD σ H=>tv σ H λy H1=>ta σ H1 λx H2=>∃a C dx fs,x= .ref a/\H2 a=some (.ins C dx fs)/\qX K C/\cU K C f/\fs.length<1000/\
 D.nx σ (b9 H2 a (.ins C dx (e_ f y fs)))
section
variable {X:Cx} {o e value:GD} {f:Gv} {pos Oh UA:Hr} {ta tv:TE}
theorem pS (he:PE X e ta) (hb:Hx e f X.env (GW e X.env)=GW e X.env):PE X (.Attribute e f pos) (Fb X.K ta f):=by
 intro O0 s σ H Q I h
 refine zg hb (bW (he O0 s σ H _ I h) λu s1 z_=> ?_)
 obtain⟨x,H1,I1,rx,a,C,dx,fs,v,ex,ea,c,n,l,q⟩:=z_
 subst ex
 obtain rfl:u=Hc a:=rx
 exact sI I1 ea c n l λu' s2 I2 ru=>⟨v,H1,I2,ru,q⟩
theorem BD (ha:PE X o ta) (hv:PE X value tv) (hs:HA value (some (.Attribute o f Oh)) pos.line X.env=pure false):PS X (.Assign [.Attribute o f Oh] value pos) (Fc X.K ta tv f):=by
 intro O0 s σ H D I h
 refine Ko (bW (hv O0 s σ H _ I h) λu s1 ⟨y,H1,I1,ry,q⟩=>bW (ha O0 s1 σ H1 _ I1 q) λov s2 z_=> ?_) hs
 obtain⟨x,H2,I2,rx,a,C,dx,fs,ex,ea,c,n,l,q2⟩:=z_
 subst ex
 obtain rfl:ov=Hc a:=rx
 exact n8 I2 ea c n l ry λs3 I3=>⟨σ,_,I3,q2⟩
theorem AH {pl:Kj Bool} {m:Gv} {Oa:Hr} {args:List GD} {O0:List (Gw×Hi)} {s:Gx} {σ:St} {H:Hp} {Q:Gu->Gx->Prop} {te:TE} (he:PE X e te) (I:aB X O0 σ H s)
  (h:te σ H λx H1=>∃a C dx fs g,x= .ref a/\H1 a=some (.ins C dx fs)/\qX X.K C/\sH X.K C m g/\fs.lookup m=none/\
   ∀s1,aB X O0 σ H1 s1->GI (GN X.prog X.w) X.A (KJ pos (.ref g) [.ref a] (Hb pos (Gy args X.env)) (Iq pos (HM [] X.env))) Q X.xe s1)
  (ht:GW (.Call (.Attribute e m Oa) args [] pos) X.env=(do
   let ov<-GW e X.env
   J_ Oa.atName
   let (f,first)<-J8 [ov] (JQ ov m pl)
   KJ pos f first (Hb pos (Gy args X.env)) (Iq pos (HM [] X.env)))):
  GI (GN X.prog X.w) X.A (GW (.Call (.Attribute e m Oa) args [] pos) X.env) Q X.xe s:=by
 refine Kk (pl:=pl) (bW (he O0 s σ H _ I h) λu s1 z_=> ?_) ht
 obtain⟨x,H1,I1,rx,a,C,dx,fs,g,ex,ea,c,k,l,q⟩:=z_
 subst ex
 obtain rfl:u=Hc a:=rx
 exact jJ I1 ea c k l (q s1 I1)
end
section
variable {X:Cx} {O0:List (Gw×Hi)} {σ:St} {H:Hp} {s:Gx} {A:Hd} {E:Gu->Gx->Prop} {Q:Gu->Gx->Prop} {c:Gu} {b:Bool}
inductive ki (K:Gs) (H:Hp):V->Gu->Prop where
 |non:ki K H .non (.type "NoneType")
 |bl (x:Bool):ki K H (.bl x) (.type "bool")
 |int (i:Int):ki K H (.int i) (.type "int")
 |str (x:Gv):ki K H (.str x) (.type "str")
 |flt (x:UInt64):ki K H (.flt x) (.type "float")
 |lst {a:Gw} {xs:List V} (e:H a=some (.lst xs)):ki K H (.ref a) (.type "list")
 |frz {a:Gw} {o:Hi} {xs:List V} (e:H a=some (.frz o (.lst xs))):ki K H (.ref a) (.type "list")
 |tup {a:Gw} {xs:List V} (e:H a=some (.tup xs)):ki K H (.ref a) (.type "tuple")
 |dK {a:Gw} {kvs:List (bD×V)} (e:H a=some (.dK kvs)):ki K H (.ref a) (.type "dict")
 |dT {a:Gw} {kvs:List (List bD×V)} (e:H a=some (.dT kvs)):ki K H (.ref a) (.type "dict")
 |ins {a C dx:Gw} {fs:List (Gv×V)} (e:H a=some (.ins C dx fs)) (cl:qX K C) (ha:GQ K (.ref C) "__class__"=some (some (.builtin "object.__class__")))
   (hn:Jo K (.builtin "object.__class__") "__get__"=some (some (.builtin "getset_descriptor.__get__"))) (VB:JJ K (.builtin "object.__class__")=some true)
   (hm:Hq K C (.type "object")=some true):ki K H (.ref a) (.ref C)
theorem vq {x:V} {u t:Gu} (I:aB X O0 σ H s) (rx:b6 x u) (ty:ki X.K H x t) (e:HN X.K t c=some b) (h:∀tk,Q (.bool b) {s with toks:=tk}):
  GI (GN X.prog X.w) A (call (.builtin "isinstance") [u,c]) Q E s:=by
 cases ty with
 |non=>cases (show u=HL from rx);exact HQ PySem.W.kitx_none I.kIn IW e (λz=>nomatch z) h
 |bl y=>cases (show u=Mh y from rx);exact HQ PySem.W.kitx_bool I.kIn IW e (λz=>nomatch z) h
 |int i=>obtain⟨t,q⟩:=(show ∃t,u=Jh i t from rx);cases q;exact HQ PySem.W.kitx_int I.kIn IW e (λz=>nomatch z) h
 |str y=>obtain⟨t,q⟩:=(show ∃t,u=Ki y t from rx);cases q;exact HQ PySem.W.kitx_str I.kIn IW e (λz=>nomatch z) h
 |flt y=>obtain⟨t,q⟩:=(show ∃t,u=Na y t from rx);cases q;exact HQ PySem.W.kitx_float I.kIn IW e (λz=>nomatch z) h
 | @lst a xs ea=>
  cases (show u=Hc a from rx)
  obtain⟨_,_,n,_,h1⟩:=(show bp X.prog X.w H s.heap a (.lst xs)from I.hok a _ ea)
  exact HQ N4 I.kIn ⟨_,h1,rfl⟩ e (λz=>nomatch z) h
 | @frz a ob xs ea=>
  cases (show u=Hc a from rx)
  obtain⟨_,_,_,n,_,h1⟩:=(show bp X.prog X.w H s.heap a (.frz ob (.lst xs))from I.hok a _ ea)
  exact HQ N4 I.kIn ⟨_,h1,rfl⟩ e (λz=>nomatch z) h
 | @tup a xs ea=>
  cases (show u=Hc a from rx)
  obtain⟨_,_,_,p⟩:=(show bp X.prog X.w H s.heap a (.tup xs)from I.hok a _ ea)
  obtain⟨o,h1,h2,_⟩:=p
  exact HQ PySem.W.kitx_tuple I.kIn ⟨o,h1,h2⟩ e (λz=>nomatch z) h
 | @dK a kvs ea=>
  cases (show u=Hc a from rx)
  obtain⟨_,_,vs,_,p⟩:=(show bp X.prog X.w H s.heap a (.dK kvs)from I.hok a _ ea)
  obtain⟨o,es,ep,h1,h2,_⟩:=p
  exact HQ N5 I.kIn ⟨o,h1,h2.1⟩ e (λz=>nomatch z) h
 | @dT a kvs ea=>
  cases (show u=Hc a from rx)
  obtain⟨_,_,xs,_,o,es,ep,h1,h2,_⟩:=(show bp X.prog X.w H s.heap a (.dT kvs)from I.hok a _ ea)
  exact HQ N5 I.kIn ⟨o,h1,h2.1⟩ e (λz=>nomatch z) h
 | @ins a C dx fs ea cl ha hn VB hm=>
  cases (show u=Hc a from rx)
  obtain⟨mA,O,_⟩:=mL I.hok ea
  obtain⟨od,J,_⟩:=O.look
  exact HQ (PySem.W.kitx_own (cl.get _) cl.hd ha hn VB hm) I.kIn J e (λz=>nomatch z) h
end
end L2
namespace L2
open PySem PySem.Spec PyProof.Rows
structure bY (k:Nat) (A:Hd):Prop where
 hd:A.handled=none
 dp:A.depth+3*k+5<recursionLimit
 un:A.units+16*k+200<Jp
theorem bY.mono {j k:Nat} {A:Hd} (r:bY k A) (h:j<=k):bY j A:=⟨r.hd,by have:=r.dp;omega,by have:=r.un;omega⟩
theorem bY.deeper {k:Nat} {A:Hd} (r:bY (k+1) A) (env:Iz):bY k (A.deeper env):=
 ⟨r.hd,by have:=r.dp;show A.depth+1+3*k+5<_;omega,by have:=r.un;show A.units+3+16*k+200<_;omega⟩
theorem sJ {A:Hd} {C:Gw} {us:List Gu} {kw:List (Gv×Gu)}:(A.under (.builtin "type.__call__" ⟨.ref C::us,kw⟩)).depth=A.depth+1:=by
 first|rfl|simp[MQ,Code.weight,Code.isCreation,Code.isGuard,Code.isCaller,Code.frames,MR,guardIds]
theorem sK {A:Hd} {C:Gw} {us:List Gu} {kw:List (Gv×Gu)}:(A.under (.builtin "type.__call__" ⟨.ref C::us,kw⟩)).units=A.units+1:=by
 first|rfl|simp[MQ,Code.cUnits,Code.frames,MR]
theorem bY.make {k:Nat} {A:Hd} (r:bY (k+1) A) (C:Gw) (us:List Gu) (kw:List (Gv×Gu)):bY k (A.under (.builtin "type.__call__" ⟨.ref C::us,kw⟩)):=
 ⟨r.hd,by have:=r.dp;rw[sJ];omega,by have:=r.un;rw[sK];omega⟩
theorem bY.depth {k:Nat} {A:Hd} (r:bY k A):A.depth<recursionLimit:=by have:=r.dp;omega
theorem bY.units {k:Nat} {A:Hd} (r:bY k A):A.units+64<Jp:=by have:=r.un;omega
def Dz:TA:=λ_ H Q=>Q [] H
def AI (ta:TE) (tr:TA):TA:=λσ H Q=>ta σ H λx H1=>tr σ H1 λxs H2=>Q (x::xs) H2
section
variable {X:Cx} {e:GD} {es:List GD} {te:TE} {t:TA} {pos:Hr}
theorem cY:PA X [] Dz:=λ_ _ _ _ H Q I h=>N6 ⟨[],H,I, .nil,h⟩
theorem bt (ha:PE X e te) (hr:PA X es t) (hs:Gy (e::es) X.env=(false,GW e X.env)::Gy es X.env:=by rfl):PA X (e::es) (AI te t):=by
 intro pos O0 s σ H Q I h
 rw[hs]
 show GI _ _ (NG ((false,GW e X.env)::Hb pos (Gy es X.env))) _ _ s
 refine MS (bW (ha O0 s σ H _ I h) λu s1 z_=> ?_)
 obtain⟨x,H1,I1,r1,q1⟩:=z_
 exact bW (hr pos O0 s1 σ H1 _ I1 q1) λus s2 ⟨xs,H2,I2,r2,q2⟩=>⟨x::xs,H2,I2, .cons r1 r2,q2⟩
def Fd (t:TA):TE:=λσ H Q=>t σ H λxs H1=>xs.length<=sizeLine/\∀p,H1 p=none->Q (.ref p) (b9 H1 p (.tup xs))
def Fe (t:TA):TE:=λσ H Q=>t σ H λxs H1=>xs.length<=sizeLine/\∀p,H1 p=none->Q (.ref p) (b9 H1 p (.lst xs))
theorem BE {x1} (h:PA X es t):PE X (.Tuple es x1 pos) (Fd t):=by
 intro O0 s σ H Q I hq
 refine wpAny_Tuple_spliced (bW (h pos O0 s σ H _ I hq) λus s1 ⟨xs,H1,I1,r,z,q⟩=>⟨by rw[<-r.length];exact z,?_⟩)
 have hf:H1 s1.heap.objs.size=none:=I1.hok.fresh (GZ _)
 refine⟨.ref s1.heap.objs.size,b9 H1 s1.heap.objs.size (.tup xs),I1.laid (t':=s1.toks) (λb u e=>GF _ e) (GZ _) ?_,rfl,q _ hf⟩
 exact⟨z,us,r,⟨_,He _ rfl,rfl,_,rfl,rfl⟩⟩
theorem pT (h:PA X es t):PE X (.List es pos) (Fe t):=by
 intro O0 s σ H Q I hq
 refine wpAny_List_spliced (bW (h pos O0 s σ H _ I hq) λus s1 ⟨xs,H1,I1,r,z,q⟩=>⟨by rw[<-r.length];exact z,?_⟩)
 have hf:H1 s1.heap.objs.size=none:=I1.hok.fresh (GZ _)
 refine⟨.ref s1.heap.objs.size,b9 H1 s1.heap.objs.size (.lst xs),I1.laid (t':=s1.toks) (λb u e=>GF _ e) (GZ _) ?_,rfl,q _ hf⟩
 exact⟨z,us,0,r,He _ rfl⟩
end
abbrev Sp:=List V->Hp->VK->XK->Prop
abbrev sL:=List Iz->Hp->Gx->XK->Gu->Gx->Prop
structure sM (P:GP) (w:G_) (K:Gs) (mg:Gv->Option Gu) (base:GY) (A:Hd) (outer:List Iz) (s:Gx) (H:Hp):Prop where
 frames:A.frames=some outer
 mod:Mod K mg base
 bs:∀b o,base.get? b=some o->s.heap.get? b=some o/\H b=none
 bsz:base.objs.size<=s.heap.objs.size
 funs:s.heap.FunFrames base outer
 frf:∀b∈mK outer,H b=none
 hok:iK P w H s.heap
 bare:JZ s.gens
def CE (outer:List Iz) (P:GP) (w:G_) (H:Hp) (s:Gx) (Q:VK) (u:Gu) (s':Gx):Prop:=
 ∃v H',s'.os=s.os/\JZ s'.gens/\Un (mK outer) [] H H' s.heap s'.heap/\iK P w H' s'.heap/\b6 v u/\Q v H'
def CR (CX:sL) (outer:List Iz) (P:GP) (w:G_) (H:Hp) (s:Gx) (Q:VK) (E:XK) (r:MO) (s':Gx):Prop:=
 match r with
 | .ok (.ret u)=>CE outer P w H s Q u s'
 | .ok _=>False
 | .error e=>CX outer H s E e s'
structure dB (P:GP) (w:G_) (K:Gs) (mg:Gv->Option Gu) (base:GY) (CX:sL) (k:Nat) (f:Gw) (fd:HX) (ps:List Gv) (sp:Sp):Prop where
 len:∀vs H Q E,sp vs H Q E->vs.length=ps.length
 run:∀(A:Hd) (outer:List Iz) (s:Gx) (H:Hp) (args:Args) (us:List Gu) (vs:List V) (Q:VK) (E:XK),bY k A->sM P w K mg base A outer s H->M6 s fd args (ps.zip us)->aL vs us->sp vs H Q E->
  K0 (GN P w) A (.call (.ref f) args) (CR CX outer P w H s Q E) s
theorem dB.mono {P:GP} {w:G_} {K:Gs} {mg:Gv->Option Gu} {base:GY} {CX:sL} {j k:Nat} {f:Gw} {fd:HX} {ps:List Gv} {sp:Sp} (F:dB P w K mg base CX j f fd ps sp) (h:j<=k):
  dB P w K mg base CX k f fd ps sp:=⟨F.len,λA outer s H args us vs Q E hr=>F.run A outer s H args us vs Q E (hr.mono h)⟩
theorem dB.imp {P:GP} {w:G_} {K:Gs} {mg:Gv->Option Gu} {base:GY} {CX:sL} {k:Nat} {f:Gw} {fd:HX} {ps:List Gv} {sp VC:Sp} (F:dB P w K mg base CX k f fd ps sp)
  (h:∀vs H Q E,VC vs H Q E->sp vs H Q E):dB P w K mg base CX k f fd ps VC:=
 ⟨λvs H Q E q=>F.len vs H Q E (h _ _ _ _ q),λA outer s H args us vs Q E hr he hb hv hs=>F.run A outer s H args us vs Q E hr he hb hv (h _ _ _ _ hs)⟩
theorem sM.make {P:GP} {w:G_} {K:Gs} {mg:Gv->Option Gu} {base:GY} {A:Hd} {outer:List Iz} {s:Gx} {H:Hp} (e:sM P w K mg base A outer s H) (C:Gw) (us:List Gu) (kw:List (Gv×Gu)):
  sM P w K mg base (A.under (.builtin "type.__call__" ⟨.ref C::us,kw⟩)) outer s H:=⟨by first|exact e.frames|(simpa[MQ,Code.envs,MR,pushEnvs]using e.frames),e.mod,e.bs,e.bsz,e.funs,e.frf,e.hok,e.bare⟩
section
variable {X:Cx} {O0:List (Gw×Hi)} {σ:St} {H:Hp} {s s':Gx}
theorem aB.env0 (I:aB X O0 σ H s):sM X.prog X.w X.K X.mg X.base X.A X.stack s H:=
 ⟨I.ok.frames,I.ok.mod,I.bs,Ht I.ok.bsz I.sz,I.stack,I.stkFree,I.hok,I.bare⟩
theorem aB.after {Q:VK} {u:Gu} (I:aB X O0 σ H s) (h:CE X.stack X.prog X.w H s Q u s'):EP X O0 σ Q u s':=by
 obtain⟨v,H',os,bare,un,hok,r,q⟩:=h
 obtain⟨hh,g,d,t,UB⟩:=s'
 obtain rfl:UB=s.os:=os
 exact⟨v,H',I.call (h':=hh) (g':=g) (d':=d) (t':=t) (ch:=[]) un hok bare (λb z=>absurd z (by simp)),r,q⟩
end
def AJ (sp:Sp) (Qo:List V) (E:St->XK) (t:TA):TE:=λσ H Q=>t σ H λvs H1=>sp (vs++Qo) H1 Q (E σ)
def x5 (C:Gw) (m:Gv) (sp:Sp) (Qo:List V) (E:St->XK) (ta:TE) (t:TA):TE:=λσ H Q=>ta σ H λx H1=>∃a dx fs,x= .ref a/\H1 a=some (.ins C dx fs)/\fs.lookup m=none/\
 t σ H1 λvs H2=>sp (x::(vs++Qo)) H2 Q (E σ)
def DA (C:Gw) (sp:Sp) (Qo:List V) (E:St->XK) (t:TA):TE:=λσ H Q=>t σ H λvs H1=>∀x dx,H1 x=none->H1 dx=none->dx≠x->
 sp (.ref x::(vs++Qo)) (b9 (b9 H1 dx (.own x)) x (.ins C dx [])) (λv H2=>v= .non/\Q (.ref x) H2) (E σ)
def dO (K:Gs) (fd:HX) (ps:List Gv) (ds:List Gu):Prop:=
 ∀(s:Gx) (us:List Gu),K.In s.heap->(us++ds).length=ps.length->M6 s fd ⟨us,[]⟩ (ps.zip (us++ds))
theorem dO.all {K:Gs} {fd:HX} {ps:List Gv} (h:∀us:List Gu,us.length=ps.length->J0 fd ⟨us,[]⟩=pure (ps.zip us)):dO K fd ps []:=λs us _ hl=>by
 rw[Ig]at hl ⊢
 exact .of_eq (h us hl)
def iL (CX:sL) (X:Cx) (E:St->XK):Prop:=∀(O0:List (Gw×Hi)) (σ:St) (H:Hp) (s:Gx) (e:Gu) (s':Gx),aB X O0 σ H s->CX X.stack H s (E σ) e s'->X.xe e s'
section
variable {X:Cx} {CX:sL} {k:Nat} {f C:Gw} {fd:HX} {ps:List Gv} {sp:Sp} {Qo:List V} {ds:List Gu} {E:St->XK} {x m:Gv} {p pos Oa:Hr} {e o:GD} {es:List GD} {ta:TE} {t:TA}
theorem sN {O0:List (Gw×Hi)} {σ:St} {H:Hp} {s:Gx} {Q:VK} {us:List Gu} {vs:List V} (F:dB X.prog X.w X.K X.mg X.base CX k f fd ps sp) (hr:bY k X.A) (hb:dO X.K fd ps ds) (hd:aL Qo ds) (hx:iL CX X E)
  (I:aB X O0 σ H s) (r:aL vs us) (h:sp (vs++Qo) H Q (E σ)):GI (GN X.prog X.w) X.A (call (.ref f) us) (EP X O0 σ Q) X.xe s:=by
 have r2:aL (vs++Qo) (us++ds):=r.append hd
 have hl:(us++ds).length=ps.length:=by rw[<-r2.length];exact F.len _ _ _ _ h
 refine Ld (JR (F.run X.A X.stack s H ⟨us,[]⟩ (us++ds) (vs++Qo) Q (E σ) hr I.env0 (hb s us I.kIn hl) r2 h) λr s' hq=> ?_)
 cases r with
 |error e=>exact hx O0 σ H s e s' I hq
 |ok fl=>
  cases fl with
  |ret u=>exact I.after hq
  |next=>exact Ie hq
  |brk=>exact Ie hq
  |cont=>exact Ie hq
theorem uo (F:dB X.prog X.w X.K X.mg X.base CX k f fd ps sp) (hr:bY k X.A) (hg:Gl X x) (hm:X.mg x=some (.ref f)) (hk:HC X.K (.ref f)=true) (hb:dO X.K fd ps ds) (hd:aL Qo ds) (hx:iL CX X E)
  (ha:PA X (e::es) t) (Pe:(x==("__debug__":Gv))=false:=by decide) (he:Gy (e::es) X.env=(false,GW e X.env)::Gy es X.env:=by rfl) (OT:(Hb pos (Gy es X.env)).any (·.1)=false:=by rfl):
  PE X (.Call (.Name x p) (e::es) [] pos) (AJ sp Qo E t):=by
 intro O0 s σ H Q I h
 refine IY (kg I hg hm ?_ Pe)
 refine KN (h₀:=X.base) I.ok.mod.kin hk (bW (ha pos O0 s σ H _ I h) λus s1 ⟨vs,H1,I1,r,q⟩=>⟨I1.kIn,?_⟩) he OT
 exact sN F hr hb hd hx I1 r q
theorem uq {pl:Kj Bool} (he:PE X o ta) (c:qX X.K C) (hm:sH X.K C m f) (F:dB X.prog X.w X.K X.mg X.base CX k f fd ps sp) (hr:bY k X.A) (hb:dO X.K fd ps ds) (hd:aL Qo ds) (hx:iL CX X E) (ha:PA X (e::es) t)
  (QD:Gy (e::es) X.env=(false,GW e X.env)::Gy es X.env:=by rfl) (OT:(Hb pos (Gy es X.env)).any (·.1)=false:=by rfl)
  (ht:GW (.Call (.Attribute o m Oa) (e::es) [] pos) X.env=(do
   let ov<-GW o X.env
   J_ Oa.atName
   let (f,first)<-J8 [ov] (JQ ov m pl)
   KJ pos f first (Hb pos (Gy (e::es) X.env)) (Iq pos (HM [] X.env))):=by rfl):
  PE X (.Call (.Attribute o m Oa) (e::es) [] pos) (x5 C m sp Qo E ta t):=by
 intro O0 s σ H Q I h
 refine Kk (pl:=pl) (bW (he O0 s σ H _ I h) λu s1 z_=> ?_) ht
 obtain⟨x,H1,I1,rx,a,dx,fs,ex,ea,l,q⟩:=z_
 subst ex
 obtain rfl:u=Hc a:=rx
 refine jJ I1 ea c hm l ?_
 refine KN (first:=[.ref a]) (h₀:=X.base) I.ok.mod.kin hm.kp (bW (ha pos O0 s1 σ H1 _ I1 q) λus s2 ⟨vs,H2,I2,r,q2⟩=>⟨I2.kIn,?_⟩) QD OT
 exact sN (us:= .ref a::us) (vs:= .ref a::vs) F hr hb hd hx I2 (.cons rfl r) q2
theorem x6 {pl:Kj Bool} (he:PE X o ta) (c:qX X.K C) (hm:sH X.K C m f) (F:dB X.prog X.w X.K X.mg X.base CX k f fd ps sp) (hr:bY k X.A) (hb:dO X.K fd ps ds) (hd:aL Qo ds) (hx:iL CX X E)
  (ht:GW (.Call (.Attribute o m Oa) [] [] pos) X.env=(do
   let ov<-GW o X.env
   J_ Oa.atName
   let (f,first)<-J8 [ov] (JQ ov m pl)
   KJ pos f first (Hb pos (Gy [] X.env)) (Iq pos (HM [] X.env))):=by rfl):
  PE X (.Call (.Attribute o m Oa) [] [] pos) (x5 C m sp Qo E ta Dz):=by
 intro O0 s σ H Q I h
 refine Kk (pl:=pl) (bW (he O0 s σ H _ I h) λu s1 z_=> ?_) ht
 obtain⟨x,H1,I1,rx,a,dx,fs,ex,ea,l,q⟩:=z_
 subst ex
 obtain rfl:u=Hc a:=rx
 refine jJ I1 ea c hm l ?_
 exact PySem.W.callWith_K0 (first:=[.ref a]) I1.kIn hm.kp (sN (us:=[.ref a]) (vs:=[.ref a]) F hr hb hd hx I1 (.cons rfl .nil) q)
structure Mk (K:Gs) (C f:Gw):Prop where
 makes:Jj K C=true
 init:GQ K (.ref C) "__init__"=some (some (.ref f))
 fn:Ku K (.ref f)=true
 kp:HC K (.ref C)=true
theorem x8 {O0:List (Gw×Hi)} {σ:St} {H:Hp} {s:Gx} {Q:VK} {us:List Gu} {vs:List V} (M:Mk X.K C f) (F:dB X.prog X.w X.K X.mg X.base CX k f fd ps sp) (hr:bY (k+1) X.A) (hb:dO X.K fd ps ds) (hd:aL Qo ds)
  (hx:iL CX X E) (I:aB X O0 σ H s) (r:aL vs us)
  (h:∀x dx,H x=none->H dx=none->dx≠x->sp (.ref x::(vs++Qo)) (b9 (b9 H dx (.own x)) x (.ins C dx [])) (λv H2=>v= .non/\Q (.ref x) H2) (E σ)):
  GI (GN X.prog X.w) X.A (call (.ref C) us) (EP X O0 σ Q) X.xe s:=by
 have hq:=h (s.heap.objs.size+1) s.heap.objs.size (I.hok.fresh (LR _)) (I.hok.fresh (GZ _)) (Hj (Jz _))
 have I2:=aB.made (C:=C) I
 have r2:aL (V.ref (s.heap.objs.size+1)::(vs++Qo)) (Hc (s.heap.objs.size+1)::(us++ds)):= .cons rfl (r.append hd)
 have hl:(Hc (s.heap.objs.size+1)::us++ds).length=ps.length:=by
  have e:=r2.length
  rw[F.len _ _ _ _ hq]at e
  exact e.symm
 refine Ld (x4 (f:=f) I.kIn M.makes M.init (beq_iff_eq.mp M.fn) (JR (F.run _ X.stack _ _ ⟨Hc (s.heap.objs.size+1)::us,[]⟩ (Hc (s.heap.objs.size+1)::(us++ds)) _ _ (E σ) (hr.make C us [])
  (I2.env0.make C us []) (hb _ (Hc (s.heap.objs.size+1)::us) I2.kIn hl) r2 hq) λr s' Tq=> ?_))
 cases r with
 |error e=>exact hx O0 σ _ _ e s' I2 Tq
 |ok fl=>
  cases fl with
  |ret u=>
   obtain⟨v,H',I3,rv,ev,q3⟩:=I2.after Tq
   subst ev
   exact⟨rv,⟨V.ref (s.heap.objs.size+1),H',I3,rfl,q3⟩⟩
  |next=>exact Ie Tq
  |brk=>exact Ie Tq
  |cont=>exact Ie Tq
theorem ur (M:Mk X.K C f) (F:dB X.prog X.w X.K X.mg X.base CX k f fd ps sp) (hr:bY (k+1) X.A) (hg:Gl X x) (hm:X.mg x=some (.ref C)) (hb:dO X.K fd ps ds) (hd:aL Qo ds) (hx:iL CX X E)
  (ha:PA X (e::es) t) (Pe:(x==("__debug__":Gv))=false:=by decide) (he:Gy (e::es) X.env=(false,GW e X.env)::Gy es X.env:=by rfl) (OT:(Hb pos (Gy es X.env)).any (·.1)=false:=by rfl):
  PE X (.Call (.Name x p) (e::es) [] pos) (DA C sp Qo E t):=by
 intro O0 s σ H Q I h
 refine IY (kg I hg hm ?_ Pe)
 refine KN (h₀:=X.base) I.ok.mod.kin M.kp (bW (ha pos O0 s σ H _ I h) λus s1 ⟨vs,H1,I1,r,q⟩=>⟨I1.kIn,?_⟩) he OT
 exact x8 M F hr hb hd hx I1 r q
end
section
variable {X:Cx} {CX:sL} {k:Nat} {f C:Gw} {fd:HX} {ps ks:List Gv} {sp:Sp} {E:St->XK} {x m:Gv} {p pos Oa Wg:Hr} {e o:GD} {es:List GD} {X_:List Ii} {te ta:TE} {t tk:TA} {nm:Option Gv}
variable {g:List Gu->List Gu->List Gu} {gV:List V->List V->List V}
end
structure aK (N P:List Gv) (sc:IP):Prop where
 kind:sc.kind= .function
 co:sc.isCoroutine=false
 gen:sc.isGenerator=false
 nd:N.Nodup
 pre:N.take P.length=P
 par:∀x∈P,sc.names.lookup x=some .local\/sc.names.lookup x=some .cell
 nofree:∀y∈sc.names,y.2≠ .free
theorem oU {kindOf:Gv->Option HD} {x:Gv}:∀{binds:List (Gv×Gu)} {m:Gv->Option Gu},(∀v,(x,v)∉binds)->Ml kindOf binds m x=m x
 |[],_,_=>rfl
 |(n,v)::r,m,h=>by
  unfold Ml
  rw[oU λw hw=>h w (GU _ hw)]
  split
  ·have:x≠n:=by rintro rfl;exact h v GO
   simp[this]
  ·rfl
theorem oV {kindOf:Gv->Option HD} {x:Gv}:∀{binds:List (Gv×Gu)} {m:Gv->Option Gu},(∀v,(x,v)∉binds)->Mm kindOf binds m x=m x
 |[],_,_=>rfl
 |(n,v)::r,m,h=>by
  unfold Mm
  rw[oV λw hw=>h w (GU _ hw)]
  split
  ·rfl
  ·have:x≠n:=by rintro rfl;exact h v GO
   simp[this]
theorem oW {kindOf:Gv->Option HD} {x:Gv} {v:Gu}:∀{P:List Gv} {vs:List Gu} {i:Nat} {m:Gv->Option Gu},P.Nodup->P[i]? =some x->vs[i]? =some v->kindOf x=some .local->
  Ml kindOf (P.zip vs) m x=some v
 |[],_,_,_,_,h,_,_=>by simp at h
 |_::_,[],_,_,_,_,h,_=>by simp at h
 |p::P,w::vs,0,m,nd,h1,h2,hk=>by
  simp at h1 h2;subst h1;subst h2
  show Ml kindOf ((p,w)::P.zip vs) m p=_
  unfold Ml
  rw[oU λv hv=>(I_.mp nd).1 (LL hv).1,if_pos hk]
  simp
 |p::P,w::vs,i+1,m,nd,h1,h2,hk=>by
  show Ml kindOf ((p,w)::P.zip vs) m x=_
  unfold Ml
  exact oW (i:=i) (I_.mp nd).2 (by simpa using h1) (by simpa using h2) hk
theorem oX {kindOf:Gv->Option HD} {x:Gv} {v:Gu}:∀{P:List Gv} {vs:List Gu} {i:Nat} {m:Gv->Option Gu},P.Nodup->P[i]? =some x->vs[i]? =some v->kindOf x≠some .local->
  Mm kindOf (P.zip vs) m x=some v
 |[],_,_,_,_,h,_,_=>by simp at h
 |_::_,[],_,_,_,_,h,_=>by simp at h
 |p::P,w::vs,0,m,nd,h1,h2,hk=>by
  simp at h1 h2;subst h1;subst h2
  show Mm kindOf ((p,w)::P.zip vs) m p=_
  unfold Mm
  rw[oV λv hv=>(I_.mp nd).1 (LL hv).1,if_neg hk]
  simp
 |p::P,w::vs,i+1,m,nd,h1,h2,hk=>by
  show Mm kindOf ((p,w)::P.zip vs) m x=_
  unfold Mm
  exact oX (i:=i) (I_.mp nd).2 (by simpa using h1) (by simpa using h2) hk
def dc (N:List Gv) (vs:List V):St:=vs.map some++Hs (N.length - vs.length) none
def gg (CX:sL) (P:GP) (w:G_) (K:Gs) (mg:Gv->Option Gu) (base:GY) (N:List Gv) (qual:Gv) (scope:IP) (f:Gw) (cd:Gu) (A:Hd) (outer:List Iz) (s:Gx) (H:Hp) (E:XK):Cx where
 prog:=P
 w:=w
 K:=K
 mg:=mg
 base:=base
 A:=A.deeper (IE qual scope s.heap.objs.size f cd)
 N:=N
 s₀:=s
 H₀:=H
 env:=IE qual scope s.heap.objs.size f cd
 outer:=outer
 stack:=IE qual scope s.heap.objs.size f cd::outer
 ex:=[]
 calm:=true
 fn:=λ_=>true
 pn:=[]
 xe:=λe s'=>GI (GN P w) (A.deeper (IE qual scope s.heap.objs.size f cd)) (leaving (IE qual scope s.heap.objs.size f cd) e) (λ_ Tr=>CX outer H s E e Tr) (λe' Tr=>CX outer H s E e' Tr) s'
theorem qY {sc:IP} {n:Nat} {x:Gv} (h:sc.names.lookup x=some .cell):∃c,(cellsFrom n sc.names []).lookup x=some c:=by
 have q:=LS sc.names n [] (.inl h)
 exact Option.isSome_iff_exists.mp q
theorem vt {CX:sL} {P:GP} {w:G_} {K:Gs} {mg:Gv->Option Gu} {base:GY} {N ps:List Gv} {qual:Gv} {scope:IP} {f:Gw} {cd:Gu} {A:Hd} {outer:List Iz} {s s1:Gx} {H:Hp} {E:XK} {us:List Gu} {vs:List V}
  (S:aK N ps scope) (hd:A.handled=none) (e0:sM P w K mg base A outer s H) (hl:vs.length=ps.length) (r:aL vs us)
  (x:InCallC s s.heap.objs.size (Ml (IE qual scope s.heap.objs.size f cd).kindOf (ps.zip us) λ_=>none) (cellsFrom (s.heap.objs.size+1) scope.names []) (Mm (IE qual scope s.heap.objs.size f cd).kindOf (ps.zip us) λ_=>none) s1):
  aB (gg CX P w K mg base N qual scope f cd A outer s H E) [] (dc N vs) H s1:=by
 have OT:ps.length<=N.length:=by have:=congrArg LU S.pre;rw[Kf]at this;omega
 obtain⟨h1,tk,rfl,hk⟩:=x.done
 have Tt:∀b:Gw,b∉(gg CX P w K mg base N qual scope f cd A outer s H E).ex:=λb z=>absurd (show b∈([]:List Gw)from z) (by simp)
 refine⟨⟨e0.mod,S.kind,rfl,rfl,GZ _,λy z c h1 h2=> ?_,λy hy=> ?_,λy c _ h=> ?_,λ_=>hd,Around.frames_deeper e0.frames, .inr ⟨rfl,rfl⟩,λb z=>absurd z (Tt b),e0.bs,e0.bsz,λb _ _=>Tt b,λb z=>absurd z (Tt b),e0.funs,e0.frf⟩,
  rfl,e0.bare,Un.kept hk,⟨_,x.toInCall.ns,λi y v h1 h2 h3=> ?_⟩,λy c h=>⟨_,x.cell y c h⟩,e0.hok.fresh (GZ _),λy c h=> ?_,λp hp=>absurd (show p∈([]:List (Gw×Hi))from hp) (by simp),e0.hok.kept hk,?_⟩
 ·exact name_of_addr x.apart (Je h1) (Je h2)
 ·have hy:scope.names.lookup y=some .cell\/scope.names.lookup y=some .free:=hy
  rcases hy with hy|hy
  ·exact qY hy
  ·exact absurd rfl (S.nofree _ (Je hy))
 ·exact MM (x.above y c (Je h))
 ·have hi:i<vs.length:=by
   unfold dc at h2
   by_cases hi:i<vs.length
   ·exact hi
   ·rw[JD (by simpa using hi)]at h2
    rw[IQ]at h2
    split at h2<;>cases h2
  have ha:vs[i]? =some v:=by
   unfold dc at h2
   rw[IA (by simpa using hi),Hg]at h2
   cases e:vs[i]? with
   |none=>rw[e]at h2;cases h2
   |some a=>rw[e]at h2;cases h2;rfl
  obtain⟨u,hu,rv⟩:=r.get ha
  have hp:ps[i]? =some y:=by
   rw[<-S.pre,List.getElem?_take_of_lt (by omega)];exact h1
  have VD:ps.Nodup:=by rw[<-S.pre];exact S.nd.sublist (L8 _ _)
  refine⟨u,rv,?_⟩
  rcases S.par y (Im hp)with k|k
  ·exact .inl ⟨k,oW VD hp hu k⟩
  ·obtain⟨c,e⟩:=qY (n:=s.heap.objs.size+1) k
   refine .inr ⟨.inl k,c,e,?_⟩
   have q:=x.cell y c e
   rw[oX VD hp hu (by show scope.names.lookup y≠_;rw[k];decide)]at q
   exact q
 ·exact e0.hok.fresh (MM (x.above y c (Je h)))
 ·unfold dc
  show _=N.length
  rw[Hn,GA,Kl]
  omega
theorem AK {CX:sL} {P:GP} {w:G_} {K:Gs} {mg:Gv->Option Gu} {base:GY} {k:Nat} {f:Gw} {name qual:Gv} {params:Arguments} {body:List Hl} {scope:IP} {dV kV P5 pm Oc ct oc:Gu} {an od:Option Gw}
  {Qp:Array (Option Gu)} {N ps:List Gv} {sp:Sp} (lk:K.lookup f=some ⟨oc,od, .func (HJ name qual params body scope dV kV P5 pm an Oc ct),Qp⟩) (P2:J9 K Oc qual=true) (S:aK N ps scope)
  (len:∀vs H Q E,sp vs H Q E->vs.length=ps.length)
  (Oo:∀(A:Hd) (outer:List Iz) (s:Gx) (H:Hp) (vs:List V) (Q:VK) (E:XK),bY k (A.deeper (IE qual scope s.heap.objs.size f Oc))->sp vs H Q E->
   ∃t,oR (gg CX P w K mg base N qual scope f Oc A outer s H E) body t/\t {nx:=λ_ H'=>Q .non H',rt:=Q} (dc N vs) H):
  dB P w K mg base CX (k+1) f (HJ name qual params body scope dV kV P5 pm an Oc ct) ps sp:=by
 refine⟨len,λA outer s H args us vs Q E hr e0 hb r S3=> ?_⟩
 have hl:=len _ _ _ _ S3
 have KX:K.In s.heap:=e0.mod.kin.keeps λb o e=>(e0.bs b o e).1
 have lim:s.heap.NoLimit:=e0.mod.nolimit.keeps λb o e=>(e0.bs b o e).1
 have Tu:∀y∈ps.zip us,scope.names.lookup y.1=some .local\/(scope.names.lookup y.1=some .cell/\((cellsFrom (s.heap.objs.size+1) scope.names []).lookup y.1).isSome=true):=λ⟨n,v⟩ hy=>by
  rcases S.par n (LL hy).1 with q|q
  ·exact .inl q
  ·exact .inr ⟨q,LS _ _ _ (.inl q)⟩
 refine codeAny_call_function hr.depth (KX _ _ lk) rfl S.co S.gen rfl (PySem.W.codeRec_of KX P2) (hb _ _ _ _ ?_)
 refine wpAny_newFunctionEnv_cells S.kind Tu λenv he s1 x=> ?_
 subst he
 refine⟨lim.keeps x.toInCall.keep,codeAny_func ?_⟩
 obtain⟨t,ht,hq⟩:=Oo A outer s H vs Q E (hr.deeper _) S3
 have I:aB (gg CX P w K mg base N qual scope f Oc A outer s H E) [] (dc N vs) H s1:=vt S hr.hd e0 hl r x
 refine IC (ht [] s1 (dc N vs) H _ I hq) (λfl s' hs=> ?_) λe s' hs=>hs
 have Qe:∀{σ':St} {H':Hp} {v:V} {u:Gu},aB (gg CX P w K mg base N qual scope f Oc A outer s H E) [] σ' H' s'->b6 v u->Q v H'->CE outer P w H s Q u s':=
  λ{σ' H' v u} J rv q=>⟨v,H',J.os,J.bare,J.base,J.hok,rv,q⟩
 cases fl with
 |ret u=>
  obtain⟨v,σ',H',J,rv,q⟩:=hs
  exact Qe J rv q
 |next=>
  obtain⟨σ',H',J,q⟩:=hs
  exact Qe (v:=V.non) (u:=HL) J rfl q
 |brk=>
  obtain⟨_,_,_,q⟩:=hs
  exact Ie q
 |cont=>
  obtain⟨_,_,_,q⟩:=hs
  exact Ie q
end L2
namespace L2
open PySem PySem.Spec PyProof.Rows
section
variable {X:Cx} {x:Gv} {p pos:Hr} {e:GD} {es:List GD} {t:TA} {id T:String} {r:List V->Hp->VK->Prop}
def Ff (r:List V->Hp->VK->Prop) (t:TA):TE:=λσ H Q=>t σ H λvs H1=>r vs H1 Q
theorem iM (hc:c7 X (.builtin id) r) (hg:Gl X x) (hm:X.mg x=none) (hv:Ho x=some (.builtin id)) (ha:PA X (e::es) t) (hn:x≠"__name__":=by decide) (Pe:(x==("__debug__":Gv))=false:=by decide)
  (he:Gy (e::es) X.env=(false,GW e X.env)::Gy es X.env:=by rfl) (OT:(Hb pos (Gy es X.env)).any (·.1)=false:=by rfl):PE X (.Call (.Name x p) (e::es) [] pos) (Ff r t):=by
 intro O0 s σ H Q I h
 refine IY (k_ I hg hm hv ?_ hn Pe)
 exact Kv (bW (ha pos O0 s σ H _ I h) λus s1 ⟨vs,H1,I1,r1,q1⟩=>hc O0 s1 σ H1 vs us Q I1 r1 q1) he OT
theorem jf (hc:c7 X (.type T) r) (hg:Gl X x) (hm:X.mg x=none) (hv:Ho x=some (.type T)) (ha:PA X (e::es) t) (hn:x≠"__name__":=by decide) (Pe:(x==("__debug__":Gv))=false:=by decide)
  (he:Gy (e::es) X.env=(false,GW e X.env)::Gy es X.env:=by rfl) (OT:(Hb pos (Gy es X.env)).any (·.1)=false:=by rfl):PE X (.Call (.Name x p) (e::es) [] pos) (Ff r t):=by
 intro O0 s σ H Q I h
 refine IY (k_ I hg hm hv ?_ hn Pe)
 exact Jx (bW (ha pos O0 s σ H _ I h) λus s1 ⟨vs,H1,I1,r1,q1⟩=>hc O0 s1 σ H1 vs us Q I1 r1 q1) he OT
end
end L2
namespace HT
open PySem PyProof.Rows
section
open PySem.SeqAt
open PySem.AutoSeq1 (wpAny_loadPart')
open PySem.MeetsSeq PySem.MeetsSeq2 PySem.MeetsSeq3
end
section
variable {prog:GP} {w:G_} {A:Hd} {E:Gu->Gx->Prop} {s:Gx}
theorem zh {t b:Gw} {vs ws:List Gu} {Q:Gu->Gx->Prop} (ht:Mi s.heap t vs.toArray) (hb:Mi s.heap b ws.toArray) (hv:vs≠[])
  (h1:ws=[]->Q (.ref t) s) (h2:ws≠[]->Q (.ref s.heap.objs.size) {s with heap:=s.heap.push {cls:= .type "tuple",data:= .seq (vs++ws).toArray}})
  (hsz:vs.length+ws.length<=sizeLine):GI (GN prog w) A (ID .Add (.ref t) (.ref b)) Q E s:=by
 obtain⟨⟨cls,dd,data,sl⟩,ho,hc,n,hd⟩:=id ht
 obtain⟨⟨UC,Te,data2,Tf⟩,SF,Tv,n2,Tw⟩:=id hb
 simp only at hc hd Tv Tw
 subst hc hd Tv Tw
 have e:vs.toArray++ws.toArray=(vs++ws).toArray:=by simp
 by_cases hw:ws=[]
 ·exact MT ⟨_,ho,rfl⟩ ⟨_,SF,rfl⟩ Lp Mv Kc K4 (JS _ _)
   (tuple_addW1 t b vs.toArray ws.toArray n n2 dd Te sl Tf (by simpa using hv) (by simp[hw])) ⟨ho,SF,h1 hw⟩
 ·refine MT ⟨_,ho,rfl⟩ ⟨_,SF,rfl⟩ Lp Mv Kc K4 (JS _ _)
   (tuple_addW2 t b vs.toArray ws.toArray n n2 dd Te sl Tf (by simpa using hv) (by simpa using hw) (by rw[GB,GB];exact hsz)) ⟨ho,SF,?_⟩
  rw[e]
  exact h2 hw
def dq (n d:Nat):Option Int->Nat
 |none=>d
 |some v=>if v<0 then (v+(n:Int)).toNat else min v.toNat n
theorem BF (n d:Nat) (hd:d<=n) (o:Option Int):dq n d o<=n:=by
 cases o with
 |none=>exact hd
 |some v=>
  show (if v<0 then (v+(n:Int)).toNat else min v.toNat n)<=n
  by_cases hv:v<0
  ·rw[if_pos hv];omega
  ·rw[if_neg hv];exact Nat.min_le_right _ _
theorem ut (v:Int) (n d:Nat):(if v<0 then max (v+(n:Int)) 0 else min v (n:Int))=((dq n d (some v):Nat):Int):=by
 show (if v<0 then max (v+(n:Int)) 0 else min v (n:Int))=(((if v<0 then (v+(n:Int)).toNat else min v.toNat n):Nat):Int)
 by_cases hv:v<0
 ·simp only[if_pos hv];omega
 ·simp only[if_neg hv];omega
theorem sO (lo hi:Option Int) (n:Nat):JK lo hi 1 (n:Int)=(((dq n 0 lo:Nat):Int),((dq n n hi:Nat):Int)):=by
 have h1:¬((1:Int)<0):=by omega
 unfold JK
 simp only[h1,if_false]
 refine Prod.ext ?_ ?_
 ·cases lo with
  |none=>rfl
  |some v=>exact ut v n 0
 ·cases hi with
  |none=>rfl
  |some v=>exact ut v n n
theorem sP (i j:Nat):J7 (i:Int) (j:Int) 1=j - i:=by
 unfold J7
 have h1:(1:Int)>0:=by omega
 simp only[h1,if_true,Int.ediv_one]
 split<;>omega
theorem n9 {v:Gu} {o:Option Int} {Q:Option Int->Gx->Prop} (p:Kw v o) (h:Q o s):GI (GN prog w) A (Builtin.Slice.slicePartIndex v) Q E s:=by
 cases p with
 |none=>exact slicePart_none h
 |int i t=>exact slicePart_int h
theorem gP {sl:Gw} {vl vu:Gu} {lo hi:Option Int} {n:Nat} {Q:Int×Int×Nat->Gx->Prop} (hs:s.heap.IsSliceOf sl vl vu .none) (pl:Kw vl lo) (pu:Kw vu hi)
  (h:Q (((dq n 0 lo:Nat):Int),1,dq n n hi - dq n 0 lo) s):GI (GN prog w) A (KW (.ref sl) (pure (n:Int))) Q E s:=by
 obtain⟨os,SG,Uh,Sd⟩:=id hs
 unfold KW Builtin.Slice.sliceFields
 refine Gz (Gz (LV SG Sd (x:=vl) rfl (Gz (LV SG Sd (x:=vu) rfl (Gz (LV SG Sd (x:= .none) rfl (GH ?_)))))))
 refine Gz (slicePart_none ?_)
 show GI _ _ (if ((1:Int)==0)=true then _ else _) _ _ s
 rw[if_neg (by decide)]
 refine Gz (n9 pl (Gz (n9 pu (Gz (GH ?_)))))
 show GI _ _ (match JK lo hi 1 (n:Int)with|(lo,hi)=>pure (lo,(1:Int),J7 lo hi 1)) _ _ s
 rw[sO lo hi n]
 show GI _ _ (pure (((dq n 0 lo:Nat):Int),(1:Int),J7 ((dq n 0 lo:Nat):Int) ((dq n n hi:Nat):Int) 1)) _ _ s
 rw[sP]
 exact GH h
theorem x9 (xs:Array Gu) (i k:Nat):((Hy k).filterMap λ(m:Nat)=>xs[((i:Int)+(m:Int)*1).toNat]?).toArray=((xs.toList.drop i).take k).toArray:=by
 have e:(λ(m:Nat)=>xs[((i:Int)+(m:Int)*1).toNat]?)=λm=>xs[i+m]? :=by
  funext m
  have:((i:Int)+(m:Int)*1).toNat=i+m:=by omega
  rw[this]
 rw[e]
 have:=pick_run xs i k
 rw[List.filterMap_map]at this
 have e2:((λx=>xs[x]?)∘λx=>i+x)=λm=>xs[i+m]? :=rfl
 rw[e2]at this
 rw[this]
theorem kj {t sl:Gw} {O2:Array Gu} {vl vu:Gu} {lo hi:Option Int} {Q:Gu->Gx->Prop} (ht:Mi s.heap t O2) (hs:s.heap.IsSliceOf sl vl vu .none) (pl:Kw vl lo) (pu:Kw vu hi)
  (hw:¬(dq O2.size 0 lo=0/\dq O2.size O2.size hi=O2.size))
  (h:Q (.ref s.heap.objs.size) {s with heap:=s.heap.push {cls:= .type "tuple",data:= .seq ((O2.toList.drop (dq O2.size 0 lo)).take (dq O2.size O2.size hi - dq O2.size 0 lo)).toArray}})
  (hsz:O2.size<=sizeLine):GI (GN prog w) A (K1 (.ref t) (.ref sl)) Q E s:=by
 have Rp:sizeOk (.seq ((O2.toList.drop (dq O2.size 0 lo)).take (dq O2.size O2.size hi - dq O2.size 0 lo)).toArray):=by
  show ((O2.toList.drop (dq O2.size 0 lo)).take (dq O2.size O2.size hi - dq O2.size 0 lo)).toArray.size<=sizeLine
  rw[GB,Kf,Lq,Iu]
  omega
 have hj:dq O2.size O2.size hi<=O2.size:=BF _ _ (GZ _) hi
 obtain⟨os,SG,Uh,Sd⟩:=id hs
 have UD:s.TypeIs (.ref sl) "slice":=⟨os,SG,Uh⟩
 unfold K1
 try with_reducible refine HH ?_
 first|refine Gz (GH ?_)|skip
 refine Gz (N7 ht.typeIs (by decide) ?_)
 refine Gz (LD (name:=JT "__getitem__") ht.typeIs HK
  (Kg HK ht.typeIs MB ?_ (MU _ _)))
 show GI _ _ (KY (.ref t)>>=_) _ _ s
 refine Gz (KZ ht ?_)
 refine Gz (Lr UD ?_)
 rw[if_pos (by decide)]
 refine Gz (gP hs pl pu ?_)
 have QT:¬((((dq O2.size 0 lo:Nat):Int)==0&&(1:Int)==1&&(dq O2.size O2.size hi - dq O2.size 0 lo)==O2.size)=true):=by
  intro q
  rw[HZ,HZ]at q
  have q1:((dq O2.size 0 lo:Nat):Int)=0:=eq_of_beq q.1.1
  have q2:dq O2.size O2.size hi - dq O2.size 0 lo=O2.size:=eq_of_beq q.2
  exact hw ⟨by omega,by omega⟩
 show GI _ _ (if (((dq O2.size 0 lo:Nat):Int)==0&&(1:Int)==1&&(dq O2.size O2.size hi - dq O2.size 0 lo)==O2.size)=true then _ else _) _ _ s
 rw[if_neg QT,x9]
 first
  |exact Gz (m:=Ja _) (K6 (GH ⟨_,rfl,GH h⟩) Rp)
  |exact Gz (m:=Ja _) (K6 (Gz (GH (GH ⟨_,rfl,GH h⟩))) Rp)
  |exact Gz (Gz (m:=Ja _) (K6 (GH (GH ⟨_,rfl,GH h⟩)) Rp))
  |exact Gz (Gz (m:=Ja _) (K6 (GH ⟨_,rfl,GH h⟩) Rp))
end
end HT
namespace L2
open PySem PySem.Spec PyProof.Rows
abbrev TO:=St->Hp->(Option Int->Hp->Prop)->Prop
def PO (X:Cx) (e:Option GD) (t:TO):Prop:=
 ∀(O0:List (Gw×Hi)) (s:Gx) (σ:St) (H:Hp) (Q:Option Int->Hp->Prop),aB X O0 σ H s->t σ H Q->
  GI (GN X.prog X.w) X.A (evalPart e X.env) (λu s'=>∃o H',aB X O0 σ H' s'/\Kw u o/\Q o H') X.xe s
def zi:TO:=λ_ H Q=>Q none H
def DB (t:TE):TO:=λσ H Q=>t σ H λx H1=>∃i,x= .int i/\Q (some i) H1
theorem jK {ns:List Int}:∀{us:List Gu},aL (ns.map V.int) us->Lh us ns:=by
 induction ns with
 |nil=>intro us r;rw[Jb]at r;cases r;exact .nil
 |cons n ns ih=>
  intro us r
  rw[GL]at r
  cases r with
  |cons r1 r2=>
   obtain⟨t,e⟩:=r1
   subst e
   exact .cons n t (ih r2)
section
variable {X:Cx} {e:GD} {te:TE} {lo hi:Option GD} {tl th:TO} {pos p2:Hr}
theorem zj:PO X none zi:=by
 intro O0 s σ H Q I h
 rw[evalPart_none]
 exact GH ⟨none,H,I, .none,h⟩
theorem zk (h:PE X e te):PO X (some e) (DB te):=by
 intro O0 s σ H Q I hw
 rw[evalPart_some]
 refine bW (h O0 s σ H _ I hw) λu s1 z_=> ?_
 obtain⟨x,H1,I1,r1,q1⟩:=z_
 obtain⟨i,rfl,q⟩:=q1
 obtain⟨t,rfl⟩:=r1
 exact⟨some i,H1,I1, .int i t,q⟩
def AL (X:Cx) (r:V->Option Int->Option Int->Hp->VK->Prop):Prop:=
 ∀(O0:List (Gw×Hi)) (s:Gx) (σ:St) (H:Hp) (x:V) (v vl vu:Gu) (lo hi:Option Int) (sl:Gw) (Q:VK),aB X O0 σ H s->b6 x v->s.heap.IsSliceOf sl vl vu .none->Kw vl lo->Kw vu hi->r x lo hi H Q->
  ∃T id,typeLookup (.type T) "__getitem__"=pure (some (.builtin id))/\s.TypeIs v T/\GI (GN X.prog X.w) X.A (K1 v (.ref sl)) (EP X O0 σ Q) X.xe s
theorem AL.or {r r':V->Option Int->Option Int->Hp->VK->Prop} (h:AL X r) (h':AL X r'):AL X (λx lo hi H Q=>r x lo hi H Q\/r' x lo hi H Q):=by
 intro O0 s σ H x v vl vu lo hi sl Q I rx hs pl pu q
 rcases q with q|q
 ·exact h O0 s σ H x v vl vu lo hi sl Q I rx hs pl pu q
 ·exact h' O0 s σ H x v vl vu lo hi sl Q I rx hs pl pu q
def Ga (r:V->Option Int->Option Int->Hp->VK->Prop) (te:TE) (tl th:TO):TE:=λσ H Q=>te σ H λx H1=>tl σ H1 λl H2=>th σ H2 λu H3=>r x l u H3 Q
theorem xa {r:V->Option Int->Option Int->Hp->VK->Prop} (hr:AL X r) (he:PE X e te) (hl:PO X lo tl) (hu:PO X hi th):PE X (.Subscript e (.Slice lo hi none p2) pos) (Ga r te tl th):=by
 intro O0 s σ H Q I h
 refine Nv (bW (he O0 s σ H _ I h) λv s1 z_=> ?_)
 obtain⟨x,H1,I1,r1,q1⟩:=z_
 refine wpAny_Slice (bW (hl O0 s1 σ H1 _ I1 q1) λvl s2 ⟨l,H2,I2,pl,q2⟩=>bW (hu O0 s2 σ H2 _ I2 q2) λvu s3 z_=> ?_)
 obtain⟨u,H3,I3,pu,q3⟩:=z_
 rw[evalPart_none]
 refine GH ?_
 have I4:aB X O0 σ H3 {s3 with heap:=s3.heap.push {cls:= .type "slice",data:= .fields #[vl,vu, .none]}}:=I3.kept (t':=s3.toks) λb ob q=>GF _ q
 obtain⟨T,id,hT,ht,hg⟩:=hr O0 {s3 with heap:=s3.heap.push {cls:= .type "slice",data:= .fields #[vl,vu, .none]}} σ H3 x v vl vu l u s3.heap.objs.size Q I4 r1 (N_ ..) pl pu q3
 show GI (GN X.prog X.w) X.A (Mw e (.Slice lo hi none p2) v (.ref s3.heap.objs.size)) (EP X O0 σ Q) X.xe {s3 with heap:=s3.heap.push {cls:= .type "slice",data:= .fields #[vl,vu, .none]}}
 exact tail_any (ops:=[.ref s3.heap.objs.size,v]) ht hT hg (by with_unfolding_all rfl)
def oB (xs:List V) (lo hi:Option Int):List V:=(xs.drop (HT.dq xs.length 0 lo)).take (HT.dq xs.length xs.length hi - HT.dq xs.length 0 lo)
theorem lT (xs:List V) (lo hi:Option Int):(oB xs lo hi).length<=xs.length:=by
 unfold oB
 rw[Kf,Lq]
 omega
def Fg (K:Gs):V->Option Int->Option Int->Hp->VK->Prop:=λx lo hi H Q=>∃a xs,x= .ref a/\fE K H a xs/\
 ¬(HT.dq xs.length 0 lo=0/\HT.dq xs.length xs.length hi=xs.length)/\∀p,H p=none->Q (.ref p) (b9 H p (.tup (oB xs lo hi)))
theorem BG:AL X (Fg X.K):=by
 intro O0 s σ H x v vl vu lo hi sl Q I rx hs pl pu h
 obtain⟨a,xs,rfl,hx,hw,q⟩:=h
 cases rx
 obtain⟨its,r,ht,hz⟩:=I.tuple hx
 have Oe:its.toArray.size=xs.length:=by rw[GB];exact r.length.symm
 refine⟨"tuple",_,HK.lookup,ht.typeIs,?_⟩
 refine HT.kj ht hs pl pu (by rw[Oe];exact hw) ?_ (by rw[Oe];exact hz)
 rw[Oe]
 refine⟨.ref s.heap.objs.size,_,I.laid (t':=s.toks) (o:= .tup (oB xs lo hi)) (λb ob q=>GF _ q) (GZ _) ?_,rfl,q _ (I.hok.fresh (GZ _))⟩
 exact⟨Ht (lT xs lo hi) hz,_,(r.drop (HT.dq xs.length 0 lo)).take (HT.dq xs.length xs.length hi - HT.dq xs.length 0 lo),gD.new _ _⟩
def AM (K:Gs):R2:=λx y H Q=>∃a b xs ys,x= .ref a/\y= .ref b/\fE K H a xs/\fE K H b ys/\xs≠[]/\xs.length+ys.length<=sizeLine/\
 (ys=[]->Q (.ref a) H)/\(ys≠[]->∀p,H p=none->Q (.ref p) (b9 H p (.tup (xs++ys))))
theorem aL.nil_iff {xs:List V} {us:List Gu} (r:aL xs us):us=[]<->xs=[]:=by
 cases r with
 |nil=>simp
 |cons _ _=>simp
theorem zl:ju X (ID .Add) (AM X.K):=by
 intro O0 s σ H x y v u Q I rx ry h
 obtain⟨a,b,xs,ys,rfl,rfl,ha,hb,hx,hz,q1,q2⟩:=h
 cases rx
 cases ry
 obtain⟨its,r1,p1,_⟩:=I.tuple ha
 obtain⟨Qq,r2,p2,_⟩:=I.tuple hb
 refine HT.zh p1 p2 (λz=>hx (r1.nil_iff.mp z)) (λz=>⟨.ref a,H,I,rfl,q1 (r2.nil_iff.mp z)⟩) (λz=> ?_) (by rw[<-r1.length,<-r2.length];exact hz)
 refine⟨.ref s.heap.objs.size,_,I.laid (t':=s.toks) (o:= .tup (xs++ys)) (λb ob q=>GF _ q) (GZ _) ?_,rfl,q2 (λw=>z (r2.nil_iff.mpr w)) _ (I.hok.fresh (GZ _))⟩
 exact⟨by rw[Hn];exact hz,_,r1.append r2,gD.new _ _⟩
end
end L2
namespace L2
open PySem PySem.Spec PyProof.Rows
def wI (n:Nat) (i:Int):Option Nat:=if 0<=i then (if i<n then some i.toNat else none)else if -(n:Int)<=i then some (i+n).toNat else none
def atI {α:Type} (xs:List α) (i:Int):Option α:=(wI xs.length i).bind λj=>xs[j]?
theorem uu {n:Nat} {i:Int} {j:Nat} (h:wI n i=some j):KO i n=some j/\j<n/\ -(n:Int)<=i/\i<n:=by
 unfold wI at h
 by_cases h0:0<=i
 ·rw[if_pos h0]at h
  by_cases h1:i<n
  ·rw[if_pos h1]at h
   have e:i.toNat=j:=HG h
   exact⟨by rw[Nc h0 h1,e],by omega,by omega,h1⟩
  ·rw[if_neg h1]at h;cases h
 ·rw[if_neg h0]at h
  by_cases h1: -(n:Int)<=i
  ·rw[if_pos h1]at h
   have e:(i+n).toNat=j:=HG h
   exact⟨by rw[MV (by omega) h1,e],by omega,h1,by omega⟩
  ·rw[if_neg h1]at h;cases h
theorem pU {α:Type} {xs:List α} {i:Int} {v:α} (h:atI xs i=some v):∃j,KO i xs.length=some j/\xs[j]? =some v/\j<xs.length/\ -(xs.length:Int)<=i/\i<xs.length:=by
 unfold atI at h
 cases e:wI xs.length i with
 |none=>rw[e]at h;cases h
 |some j=>
  rw[e]at h
  obtain⟨h1,h2,h3,h4⟩:=uu e
  exact⟨j,h1,h,h2,h3,h4⟩
theorem zm {α:Type} {xs:List α} {j:Nat} {v:α} (h:xs[j]? =some v):atI xs (j:Int)=some v:=by
 have hj:j<xs.length:=(GV.mp h).1
 have e:wI xs.length (j:Int)=some j:=by
  unfold wI
  rw[if_pos (by omega),if_pos (by omega)];simp
 unfold atI;rw[e];exact h
def uv (b:GD):Prop:=∀o i,LW b false o i=operate [o,i] (K1 o i)
def zn (X:Cx) (r:R2):Prop:=
 ∀(value Pf:GD) (O0:List (Gw×Hi)) (s:Gx) (σ:St) (H:Hp) (x y:V) (v u:Gu) (Q:VK),aB X O0 σ H s->b6 x v->b6 y u->r x y H Q->
  LW Pf false v u=operate [v,u] (K1 v u)->GI (GN X.prog X.w) X.A (Mw value Pf v u) (EP X O0 σ Q) X.xe s
def FP (X:Cx) (id:String) (r:V->List V->Hp->VK->Prop):Prop:=
 ∀(O0:List (Gw×Hi)) (s:Gx) (σ:St) (H:Hp) (x:V) (xs:List V) (v:Gu) (us:List Gu) (Q:VK),aB X O0 σ H s->b6 x v->aL xs us->r x xs H Q->
  GI (GN X.prog X.w) X.A (call (.builtin id) (v::us)) (EP X O0 σ Q) X.xe s
section
variable {X:Cx} {a b:GD} {ta tb:TE} {pos:Hr}
theorem zn.or {r r':R2} (h:zn X r) (h':zn X r'):zn X (λx y H Q=>r x y H Q\/r' x y H Q):=by
 intro value Pf O0 s σ H x y v u Q I rx ry q hs
 rcases q with q|q
 ·exact h value Pf O0 s σ H x y v u Q I rx ry q hs
 ·exact h' value Pf O0 s σ H x y v u Q I rx ry q hs
theorem DC {r:R2} (hr:zn X r) (ha:PE X a ta) (hb:PE X b tb) (hs:uv b):PE X (.Subscript a b pos) (EB r ta tb):=by
 intro O0 s σ H Q I h
 exact Nv (Bw ha hb I h λv u s2 x y H2 I2 rx ry q=>hr a b O0 s2 σ H2 x y v u Q I2 rx ry q (hs _ _))
def DD (K:Gs):R2:=λx y H Q=>∃p xs i v,x= .ref p/\y= .int i/\c9 K H p xs/\atI xs i=some v/\Q v H
def DE (K:Gs):R2:=λx y H Q=>∃p xs i v,x= .ref p/\y= .int i/\fE K H p xs/\atI xs i=some v/\Q v H
def DF:R2:=λx y H Q=>∃z i c,x= .str z/\y= .int i/\z.length<=sizeLine/\atI z.cps.toList i=some c/\Q (.str ⟨#[c]⟩) H
theorem zo:zn X (DD X.K):=by
 intro value Pf O0 s σ H x y v u Q I rx ry h hs
 obtain⟨p,xs,i,z,rfl,rfl,hq,he,q⟩:=h
 cases rx
 obtain⟨t,rfl⟩:=ry
 obtain⟨its,r,pl,hz⟩:=I.list hq
 obtain⟨j,h1,h2,h3,h4,h5⟩:=pU he
 obtain⟨w,ew,QS⟩:=r.get h2
 have hl:=r.length
 have hn:=l7
 have Qe:EP X O0 σ Q w s:=⟨z,H,I,QS,q⟩
 by_cases h0:0<=i
 ·have hj:i.toNat=j:=by
   rw[Nc h0 h5]at h1
   exact HG h1
  exact item_listR pl.isList h0 (by omega) (by rw[hj];simpa using ew) Qe hs
 ·have hj:(i+(its.toArray.size:Int)).toNat=j:=by
   rw[MV (by omega) h4]at h1
   rw[GB,<-hl]
   exact HG h1
  exact LX (x:=w) pl.isList.typeIs N8.lookup
   (wpAny_getItem_list_neg (Q:=λr s'=>r=w/\EP X O0 σ Q r s') pl.isList (by omega) (by rw[GB]<;>omega) (by omega) (by rw[hj];simpa using ew) ⟨rfl,Qe⟩) hs
theorem BH:zn X (DE X.K):=by
 intro value Pf O0 s σ H x y v u Q I rx ry h hs
 obtain⟨p,xs,i,z,rfl,rfl,hq,he,q⟩:=h
 cases rx
 obtain⟨t,rfl⟩:=ry
 obtain⟨its,r,pl,hz⟩:=I.tuple hq
 obtain⟨j,h1,h2,h3,h4,h5⟩:=pU he
 obtain⟨w,ew,QS⟩:=r.get h2
 have hl:=r.length
 have hn:=l7
 have Qe:EP X O0 σ Q w s:=⟨z,H,I,QS,q⟩
 exact LX (x:=w) pl.typeIs HK.lookup
  (getItem_tuple (j:=j) (Q:=λr s'=>r=w/\EP X O0 σ Q r s') pl (by omega) (by omega) (by rw[GB,<-hl];exact h1) (by simpa using ew) ⟨rfl,Qe⟩) hs
theorem BI:zn X DF:=by
 intro value Pf O0 s σ H x y v u Q I rx ry h hs
 obtain⟨z,i,c,rfl,rfl,hz,he,q⟩:=h
 obtain⟨t,rfl⟩:=rx
 obtain⟨t',rfl⟩:=ry
 obtain⟨j,h1,h2,h3,h4,h5⟩:=pU he
 have hl:z.cps.toList.length=z.length:=by simp[Str.length]
 rw[hl]at h1 h4 h5
 have hn:=l7
 exact tail_any (typeIs_str s z t) slot_str_getitem.lookup (getItem_str (c:=c) (by
  have e1:decide (i< -(2 ^63:Int))=false:=decide_eq_false (by omega)
  have e2:decide (i>=2 ^63)=false:=decide_eq_false (by omega)
  rw[e1,e2,NO]) (by rw[h1];simpa using h2) ⟨.str ⟨#[c]⟩,H,I.tok _,⟨_,rfl⟩,q⟩) hs
def FQ (K:Gs):R2:=λx y H Q=>DD K x y H Q\/DE K x y H Q\/DF x y H Q
theorem BJ:zn X (FQ X.K):=zo.or (BH.or BI)
theorem sQ (its:List Gu) (n j:Nat) (u:Gu):Ih (·.setIfInBounds j u) {cls:= .type "list",data:= .seq its.toArray n}={cls:= .type "list",data:= .seq (its.set j u).toArray n}:=by
 simp[Ih]
theorem aB.lst {O0:List (Gw×Hi)} {σ:St} {H:Hp} {s:Gx} {p:Gw} {xs:List V} (I:aB X O0 σ H s) (h:H p=some (.lst xs)):
  ∃(its:List Gu) (n:Nat),aL xs its/\s.heap.get? p=some {cls:= .type "list",data:= .seq its.toArray n}/\xs.length<=sizeLine:=by
 obtain⟨z,its,n,r,e⟩:=I.hok p _ h
 exact⟨its,n,r,e,z⟩
theorem aB.lstUpd {O0:List (Gw×Hi)} {σ:St} {H:Hp} {s:Gx} {p:Gw} {xs ys:List V} {its its':List Gu} {n n':Nat} {f:Hi->Hi} (I:aB X O0 σ H s) (h:H p=some (.lst xs))
  (ho:s.heap.get? p=some {cls:= .type "list",data:= .seq its.toArray n}) (hf:f {cls:= .type "list",data:= .seq its.toArray n}={cls:= .type "list",data:= .seq its'.toArray n'}) (r:aL ys its') (hz:ys.length<=sizeLine) (t:Nat):
  aB X O0 σ (b9 H p (.lst ys)) {s with heap:=s.heap.update p f,toks:=t}:=by
 have e:(s.heap.update p f).get? p=some {cls:= .type "list",data:= .seq its'.toArray n'}:=by
  rw[Heap.get?_update_self f ho (by rw[hf]<;>rfl),hf]
 refine I.write (x:=p) (e:=p) (by rw[h];trivial) (.inl rfl) (λb u hb q=>(LY _ _ (II hb)).trans q) ⟨_,e⟩ ?_
 exact⟨hz,its',n',r,e⟩
def DG:V->V->V->Hp->(Hp->Prop)->Prop:=λo i v H Q=>∃p xs k j,o= .ref p/\i= .int k/\H p=some (.lst xs)/\wI xs.length k=some j/\Q (b9 H p (.lst (xs.set j v)))
theorem xb:Dp X DG:=by
 intro O0 s σ H o i v ov iv u Q I ro ri rv h
 obtain⟨p,xs,k,j,rfl,rfl,hp,hj,q⟩:=h
 cases ro
 obtain⟨t,rfl⟩:=ri
 obtain⟨its,n,r,ho,hz⟩:=I.lst hp
 obtain⟨h1,h2,h3,h4⟩:=uu hj
 have hl:=r.length
 have hn:=l7
 have I':aB X O0 σ (b9 H p (.lst (xs.set j v))) {s with heap:=s.heap.update p (Ih (·.setIfInBounds j u))}:=
  I.lstUpd hp ho (sQ its n j u) (r.set rv j) (by rw[LM];exact hz) s.toks
 by_cases h0:0<=k
 ·have hk:k.toNat=j:=by
   rw[Nc h0 h4]at h1
   exact HG h1
  exact PySem.W.ki_setAt ho h0 (by omega) (by rw[GB,<-hl];exact h4) (by rw[hk];exact⟨_,I',q⟩)
 ·have hk:(k+(its.toArray.size:Int)).toNat=j:=by
   rw[MV (by omega) h3]at h1
   rw[GB,<-hl]
   exact HG h1
  exact PySem.W.ki_setBack ho (by omega) (by rw[GB,<-hl];exact h3) (by omega) (by rw[hk];exact⟨_,I',q⟩)
theorem pV (lo hi:Option Int) (n:Nat):(JH lo hi none n).1=((HT.dq n 0 lo:Nat):Int)/\(JH lo hi none n).2.1=((HT.dq n n hi:Nat):Int)/\(JH lo hi none n).2.2=1:=by
 refine⟨?_,?_,rfl⟩
 ·cases lo with
  |none=>simp[JH,HT.dq]
  |some i=>
   simp only[JH,HT.dq,Ng,show (1:Int)>0 by decide,if_true]
   by_cases h:i<0
   ·simp only[h,if_true]<;>omega
   ·simp only[h,if_false]<;>omega
 ·cases hi with
  |none=>simp[JH,HT.dq]
  |some i=>
   simp only[JH,HT.dq,Ng,show (1:Int)>0 by decide,if_true]
   by_cases h:i<0
   ·simp only[h,if_true]<;>omega
   ·simp only[h,if_false]<;>omega
theorem oE (its:List Gu) (lo hi:Option Int):slicePick its.toArray lo hi none=((its.drop (HT.dq its.length 0 lo)).take (HT.dq its.length its.length hi - HT.dq its.length 0 lo)).toArray:=by
 obtain⟨h1,h2,h3⟩:=pV lo hi its.toArray.size
 unfold slicePick
 rw[h1,h2,h3]
 simp only[sliceRange_one,pick_run,GB]<;>rfl
def Fh (K:Gs):V->Option Int->Option Int->Hp->VK->Prop:=λx lo hi H Q=>∃a xs,x= .ref a/\c9 K H a xs/\∀p,H p=none->Q (.ref p) (b9 H p (.lst (oB xs lo hi)))
theorem zq:AL X (Fh X.K):=by
 intro O0 s σ H x v vl vu lo hi sl Q I rx hs pl pu h
 obtain⟨a,xs,rfl,hx,q⟩:=h
 cases rx
 obtain⟨its,r,ht,hz⟩:=I.list hx
 have Oe:=r.length
 refine⟨"list",_,N8.lookup,ht.isList.typeIs,?_⟩
 refine wpAny_getItem_list_slice ht.isList hs pl pu .none (by simp) ?_ (by rw[GB]<;>omega)
 rw[oE,<-Oe]
 refine⟨.ref s.heap.objs.size,_,I.laid (t':=s.toks) (o:= .lst (oB xs lo hi)) (λb ob q=>GF _ q) (GZ _) ?_,rfl,q _ (I.hok.fresh (GZ _))⟩
 exact⟨Ht (lT xs lo hi) hz,_,0,(r.drop (HT.dq xs.length 0 lo)).take (HT.dq xs.length xs.length hi - HT.dq xs.length 0 lo),He _ rfl⟩
def iz:V->Bool
 | .non=>true
 | .bl _=>true
 | .int _=>true
 | .str _=>true
 |_=>false
def zr:V->V->Bool
 | .non, .non=>true
 | .bl a, .bl b=>a==b
 | .bl a, .int b=>(if a then 1 else 0)==b
 | .int a, .bl b=>a==(if b then 1 else 0)
 | .int a, .int b=>a==b
 | .str a, .str b=>a==b
 |_,_=>false
theorem BK {A:Hd} {s:Gx} {y x:V} {u v:Gu} (ry:b6 y u) (rx:b6 x v) (fy:iz y=true) (fx:iz x=true):SeqAt.EqAt A s u v (zr y x):=by
 cases y with
 |non=>
  cases ry
  cases x with
  |non=>cases rx;exact SeqAt.EqAt.same _
  |bl b=>cases rx;exact SeqAt.EqAt.none_bool b
  |int b=>obtain⟨t,rfl⟩:=rx;exact SeqAt.EqAt.none_int b t
  |str b=>obtain⟨t,rfl⟩:=rx;exact SeqAt.EqAt.none_str b t
  |_=>exact absurd (show false=true from fx) H9
 |bl a=>
  cases ry
  cases x with
  |non=>cases rx;exact SeqAt.EqAt.bool_none a
  |bl b=>cases rx;exact JU a b
  |int b=>obtain⟨t,rfl⟩:=rx;exact SeqAt.EqAt.bool_int a b t
  |str b=>obtain⟨t,rfl⟩:=rx;exact SeqAt.EqAt.bool_str a b t
  |_=>exact absurd (show false=true from fx) H9
 |int a=>
  obtain⟨t',rfl⟩:=ry
  cases x with
  |non=>cases rx;exact SeqAt.EqAt.int_none a t'
  |bl b=>cases rx;exact SeqAt.EqAt.int_bool a t' b
  |int b=>obtain⟨t,rfl⟩:=rx;exact Kd a t' b t
  |str b=>obtain⟨t,rfl⟩:=rx;exact MH a t' b t
  |_=>exact absurd (show false=true from fx) H9
 |str a=>
  obtain⟨t',rfl⟩:=ry
  cases x with
  |non=>cases rx;exact SeqAt.EqAt.str_none a t'
  |bl b=>cases rx;exact SeqAt.EqAt.str_bool a t' b
  |int b=>obtain⟨t,rfl⟩:=rx;exact MI a t' b t
  |str b=>obtain⟨t,rfl⟩:=rx;exact SeqAt.EqAt.str_str a t' b t
  |_=>exact absurd (show false=true from fx) H9
 |_=>exact absurd (show false=true from fy) H9
def sR (x:V) (u:Gu):Bool:=match u with
 | .none=>zr .non x
 | .bool b=>zr (.bl b) x
 | .int i _=>zr (.int i) x
 | .str z _=>zr (.str z) x
 |_=>false
theorem xc {x y:V} {u:Gu} (r:b6 y u) (f:iz y=true):sR x u=zr y x:=by
 cases y with
 |non=>cases r;rfl
 |bl b=>cases r;rfl
 |int i=>obtain⟨t,rfl⟩:=r;rfl
 |str z=>obtain⟨t,rfl⟩:=r;rfl
 |_=>exact absurd (show false=true from f) H9
theorem kl {x:V}:∀{xs:List V} {us:List Gu},aL xs us->xs.all iz=true->us.any (sR x)=xs.any λy=>zr y x
 |_,_, .nil,_=>rfl
 |y::xs,u::us, .cons r t,f=>by
  rw[J3,HZ]at f
  rw[I0,I0,xc r f.1,kl t f.2]
theorem iN {A:Hd} {s:Gx} {x:V} {v:Gu} (rx:b6 x v) (fx:iz x=true):∀{xs:List V} {us:List Gu},aL xs us->xs.all iz=true->∀u∈us,SeqAt.EqAt A s u v (sR x u)
 |_,_, .nil,_=>λu hu=>by cases hu
 |y::xs,u::us, .cons r t,f=>λu' hu=>by
  rw[J3,HZ]at f
  rcases GK.mp hu with rfl|hu
  ·rw[xc r f.1];exact BK r rx f.1 fx
  ·exact iN rx fx t f.2 u' hu
def inV (x:V) (xs:List V):Bool:=xs.any λy=>zr y x
def Fj (K:Gs) (Q9:Bool):R2:=λx y H Q=>∃p xs,y= .ref p/\(c9 K H p xs\/fE K H p xs)/\iz x=true/\xs.all iz=true/\Q (.bl (if Q9 then !inV x xs else inV x xs)) H
theorem vv:ju X (Ir .In) (Fj X.K false):=by
 intro O0 s σ H x y v u Q I rx ry h
 obtain⟨p,xs,rfl,hq,fx,fs,q⟩:=h
 cases ry
 rcases hq with hq|hq
 ·obtain⟨its,r,pl,hz⟩:=I.list hq
  refine SeqAt.in_listAt (sR x) pl.isList (λw hw=>iN rx fx r fs w (by simpa using hw)) ⟨.bl _,H,I,rfl,?_⟩
  rw[show its.toArray.any (sR x)=its.any (sR x) by simp,kl r fs]
  exact q
 ·obtain⟨its,r,pl,hz⟩:=I.tuple hq
  refine SeqAt.in_tupleAt (sR x) pl (λw hw=>iN rx fx r fs w (by simpa using hw)) ⟨.bl _,H,I,rfl,?_⟩
  rw[show its.toArray.any (sR x)=its.any (sR x) by simp,kl r fs]
  exact q
theorem km:ju X (Ir .NotIn) (Fj X.K true):=by
 intro O0 s σ H x y v u Q I rx ry h
 obtain⟨p,xs,rfl,hq,fx,fs,q⟩:=h
 cases ry
 rcases hq with hq|hq
 ·obtain⟨its,r,pl,hz⟩:=I.list hq
  refine SeqAt.notIn_listAt (sR x) pl.isList (λw hw=>iN rx fx r fs w (by simpa using hw)) ⟨.bl _,H,I,rfl,?_⟩
  rw[show its.toArray.any (sR x)=its.any (sR x) by simp,kl r fs]
  exact q
 ·obtain⟨its,r,pl,hz⟩:=I.tuple hq
  refine SeqAt.notIn_tupleAt (sR x) pl (λw hw=>iN rx fx r fs w (by simpa using hw)) ⟨.bl _,H,I,rfl,?_⟩
  rw[show its.toArray.any (sR x)=its.any (sR x) by simp,kl r fs]
  exact q
theorem pW:c7 X (.builtin "len") (λxs H Q=>∃p ys,xs=[.ref p]/\(c9 X.K H p ys\/fE X.K H p ys)/\Q (.int ys.length) H):=by
 intro O0 s σ H xs us Q I r h
 obtain⟨p,ys,rfl,hq,q⟩:=h
 obtain⟨u,rfl,rx⟩:=gO r
 cases rx
 have hn:=l7
 rcases hq with hq|hq
 ·obtain⟨its,r',pl,hz⟩:=I.list hq
  have Oe:=r'.length
  exact Calls.call_len_list pl.isList (by simp only[GB]<;>omega) ⟨.int ys.length,H,I.tok _,⟨s.toks+1,by rw[GB,Oe]⟩,q⟩
 ·obtain⟨its,r',pl,hz⟩:=I.tuple hq
  have Oe:=r'.length
  exact len_tuple pl (by simp only[GB]<;>omega) ⟨.int ys.length,H,I.tok _,⟨s.toks+1,by rw[GB,Oe]⟩,q⟩
theorem c7.or {f:Gu} {r r':List V->Hp->VK->Prop} (h:c7 X f r) (h':c7 X f r'):c7 X f (λxs H Q=>r xs H Q\/r' xs H Q):=by
 intro O0 s σ H xs us Q I rs q
 rcases q with q|q
 ·exact h O0 s σ H xs us Q I rs q
 ·exact h' O0 s σ H xs us Q I rs q
theorem dP:c7 X (.type "list") (λxs H Q=>∃p ys,xs=[.ref p]/\(c9 X.K H p ys\/fE X.K H p ys)/\∀l,H l=none->Q (.ref l) (b9 H l (.lst ys))):=by
 intro O0 s σ H xs us Q I r h
 obtain⟨p,ys,rfl,hq,q⟩:=h
 obtain⟨u,rfl,rx⟩:=gO r
 cases rx
 have Qe:∀(its:List Gu),aL ys its->ys.length<=sizeLine->∀(h':GY) (c':Nat),(∀b o',s.heap.get? b=some o'->h'.get? b=some o')->
   h'.get? s.heap.objs.size=some {cls:= .type "list",dict:=none,data:= .seq its.toArray c',slots:= #[]}->EP X O0 σ Q (.ref s.heap.objs.size) {s with heap:=h'}:=λits r' hz h' c' kp e=>
  ⟨.ref s.heap.objs.size,_,I.laid (t':=s.toks) kp (GZ _) (show bp X.prog X.w _ h' _ (.lst ys)from ⟨hz,its,c',r',e⟩),rfl,q _ (I.hok.fresh (GZ _))⟩
 rcases hq with hq|hq
 ·obtain⟨its,r',pl,hz⟩:=I.list hq
  have Oe:=r'.length
  obtain⟨o,ho,hc,n,hd⟩:=pl.isList
  exact call_list_seq p (.inl rfl) ho hc hd (λh' c' kp e=>Qe its r' hz h' c' kp e) (by simp only[GB]<;>omega)
 ·obtain⟨its,r',pl,hz⟩:=I.tuple hq
  have Oe:=r'.length
  obtain⟨o,ho,hc,n,hd⟩:=pl
  exact call_list_seq p (.inr rfl) ho hc hd (λh' c' kp e=>Qe its r' hz h' c' kp e) (by simp only[GB]<;>omega)
theorem bz:c7 X (.type "tuple") (λxs H Q=>∃p ys,xs=[.ref p]/\((c9 X.K H p ys/\∀l,H l=none->Q (.ref l) (b9 H l (.tup ys)))\/(fE X.K H p ys/\Q (.ref p) H))):=by
 intro O0 s σ H xs us Q I r h
 obtain⟨p,ys,rfl,h⟩:=h
 obtain⟨u,rfl,rx⟩:=gO r
 cases rx
 rcases h with ⟨hq,q⟩|⟨hq,q⟩
 ·obtain⟨its,r',pl,hz⟩:=I.list hq
  have Oe:=r'.length
  refine call_tuple_list pl.isList (λh' kp=> ?_) (by simp only[GB]<;>omega)
  have I1:aB X O0 σ H {s with heap:=h'}:=I.kept (t':=s.toks) kp
  have I2:aB X O0 σ (b9 H h'.objs.size (.tup ys)) {s with heap:=h'.push {cls:= .type "tuple",data:= .seq its.toArray}}:=
   I1.laid (t':=s.toks) (λb o e=>GF _ e) (GZ _) (show bp X.prog X.w _ _ _ (.tup ys)from ⟨hz,its,r',gD.new _ _⟩)
  exact⟨.ref h'.objs.size,_,I2,rfl,q _ (I1.hok.fresh (GZ _))⟩
 ·obtain⟨its,r',pl,hz⟩:=I.tuple hq
  exact call_tuple_same pl ⟨.ref p,H,I,rfl,q⟩
def ED (K:Gs) (T:String) (x:V) (H:Hp):Prop:=match x with
 | .str _=>T="str"
 | .int _=>T="int"
 | .ref p=>(T="list"/\∃xs,c9 K H p xs)\/(T="tuple"/\∃o,K.lookup p=some o/\o.cls= .type "tuple"/\o.dict=none)\/
   (T="dict"/\((∃kvs,H p=some (.dK kvs))\/∃kvs,H p=some (.dT kvs)))\/(T="set"/\∃S n,H p=some (.set S n))
 |_=>False
theorem sS {O0:List (Gw×Hi)} {σ:St} {H:Hp} {s:Gx} {T:String} {x:V} {v:Gu} (I:aB X O0 σ H s) (r:b6 x v) (ty:ED X.K T x H):
  s.TypeIs v T/\∀a,v= .ref a->∃ob,s.heap.get? a=some ob/\ob.dict=none:=by
 cases x with
 |str z=>
  obtain⟨t,rfl⟩:=r
  cases (show T="str" from ty)
  exact⟨typeIs_str s z t,λ_ e=>nomatch e⟩
 |int i=>
  obtain⟨t,rfl⟩:=r
  cases (show T="int" from ty)
  exact⟨Nw s i t,λ_ e=>nomatch e⟩
 |ref p=>
  cases r
  rcases ty with ⟨rfl,xs,hq⟩|⟨rfl,o,hk,hc,hd⟩|⟨rfl,hk⟩|⟨rfl,S,n,hk⟩
  ·obtain⟨its,_,pl,_⟩:=I.list hq
   refine⟨pl.isList.typeIs,λa e=> ?_⟩
   cases e
   obtain⟨o,n,e,c,hd,_⟩:=pl
   exact⟨o,e,hd⟩
  ·refine⟨⟨o,I.kIn p o hk,hc⟩,λa e=> ?_⟩
   cases e
   exact⟨o,I.kIn _ o hk,hd⟩
  ·have z:∃o,s.heap.get? p=some o/\o.ExactDict:=by
    rcases hk with ⟨kvs,hk⟩|⟨kvs,hk⟩
    ·obtain⟨_,_,_,_,o,_,_,e,ex,_⟩:=I.hok p _ hk
     exact⟨o,e,ex⟩
    ·obtain⟨_,_,_,_,o,_,_,e,ex,_⟩:=I.hok p _ hk
     exact⟨o,e,ex⟩
   obtain⟨o,e,ex⟩:=z
   refine⟨⟨o,e,ex.1⟩,λa e2=> ?_⟩
   cases e2
   exact⟨o,e,ex.2.1⟩
  ·obtain⟨o,_,_,_,e,ex,_⟩:=I.hok p _ hk
   refine⟨⟨o,e,ex.1⟩,λa e2=> ?_⟩
   cases e2
   exact⟨o,e,ex.2.1⟩
 |_=>exact Ie ty
def Fk (K:Gs) (T:String) (r:V->List V->Hp->VK->Prop) (to:TE):TE:=λσ H Q=>to σ H λx H1=>ED K T x H1/\r x [] H1 Q
def Gb (K:Gs) (T:String) (r:V->List V->Hp->VK->Prop) (to:TE) (t:TA):TE:=λσ H Q=>to σ H λx H1=>ED K T x H1/\t σ H1 λxs H2=>r x xs H2 Q
variable {o e:GD} {es:List GD} {to:TE} {t:TA} {name:Gv} {Oa O4:Hr} {T id:String} {r:V->List V->Hp->VK->Prop}
theorem BL (pa:PlainAttrs T) (slot:Slot T name id) (UE:typeOf (.builtin id)=pure (.type "method_descriptor")) (hm:FP X id r) (ho:PE X o to)
  (Ot:Hx o name X.env (GW o X.env)=GW o X.env:=by rfl) (Ou:(Oa.endLine==O4.line)=true:=by rfl):PE X (.Call (.Attribute o name Oa) [] [] O4) (Fk X.K T r to):=by
 intro O0 s σ H Q I h
 refine wpAny_Call_method0_late Ot Ou (bW (ho O0 s σ H _ I h) λv s1 z_=> ?_)
 obtain⟨x,H1,I1,r1,ty,q1⟩:=z_
 obtain⟨h1,h2⟩:=sS I1 r1 ty
 exact⟨T,id,pa,slot,UE,h1,h2,Jl rfl (PySem.evalArgs_none (hm O0 s1 σ H1 x [] v [] Q I1 r1 .nil q1))⟩
theorem nc (pa:PlainAttrs T) (slot:Slot T name id) (UE:typeOf (.builtin id)=pure (.type "method_descriptor")) (hm:FP X id r) (ho:PE X o to) (ha:PA X (e::es) t)
  (Ot:Hx o name X.env (GW o X.env)=GW o X.env:=by rfl)
  (Pg:((Hb O4 (Gy (e::es) X.env)).all (λx=> !x.1)&&(Iq O4 (HM [] X.env)).all (λx=>x.1.isSome)
   &&decide ((e::es).length+([]:List Ii).length+(if ([]:List Ii).isEmpty then 0 else 1)<30))=true:=by rfl)
  (Ou:(Oa.endLine==O4.line)=true:=by rfl) (hs:Gy (e::es) X.env=(false,GW e X.env)::Gy es X.env:=by rfl) (Oi:(Hb O4 (Gy es X.env)).any (·.1)=false:=by rfl):
  PE X (.Call (.Attribute o name Oa) (e::es) [] O4) (Gb X.K T r to t):=by
 intro O0 s σ H Q I h
 refine LZ Ot Pg Ou rfl (bW (ho O0 s σ H _ I h) λv s1 z_=> ?_)
 obtain⟨x,H1,I1,r1,ty,q1⟩:=z_
 obtain⟨h1,h2⟩:=sS I1 r1 ty
 refine⟨T,id,pa,slot,UE,h1,h2,?_⟩
 have hA:=ha O4 O0 s1 σ H1 _ I1 q1
 rw[hs]at hA ⊢
 refine Jl (by show (false||(Hb O4 (Gy es X.env)).any (·.1))=false;rw[Oi]<;>rfl) (JA ?_)
 exact bW hA λus s2 ⟨vs,H2,I2,r2,q2⟩=>hm O0 s2 σ H2 x vs v us Q I2 r1 r2 q2
end
end L2
namespace L2
open PySem PySem.Spec PyProof.Rows
def zt (X:Cx) (id:String) (r:V->List V->Hp->VK->Prop):Prop:=
 ∀(O0:List (Gw×Hi)) (s:Gx) (σ:St) (H:Hp) (x:V) (xs:List V) (v:Gu) (us:List Gu) (Q:VK),aB X O0 σ H s->b6 x v->aL xs us->r x xs H Q->
  GI (GN X.prog X.w) X.A (call (.builtin id) (v::us)) (EP X O0 σ Q) X.xe s
theorem aL.one:∀{x:V} {us:List Gu},aL [x] us->∃u,us=[u]/\b6 x u:=λh=>by
 cases h with
 |cons r t=>cases t;exact⟨_,rfl,r⟩
theorem aL.two:∀{x y:V} {us:List Gu},aL [x,y] us->∃u v,us=[u,v]/\b6 x u/\b6 y v:=λh=>by
 cases h with
 |cons r t=>
  obtain⟨v,e,q⟩:=aL.one t
  exact⟨_,v,by rw[e],r,q⟩
theorem aL.zero:∀{us:List Gu},aL [] us->us=[]
 |_, .nil=>rfl
theorem aL.dropLast {xs:List V} {us:List Gu} (h:aL xs us):aL xs.dropLast us.dropLast:=by
 induction h with
 |nil=>exact .nil
 |cons r t ih=>
  cases t with
  |nil=>exact .nil
  |cons q t'=>exact .cons r ih
theorem aL.eraseIdx:∀{xs:List V} {us:List Gu} (i:Nat),aL xs us->aL (xs.eraseIdx i) (us.eraseIdx i)
 |_,_,_, .nil=> .nil
 |_,_,0, .cons _ t=>t
 |_,_,i+1, .cons r t=> .cons r (aL.eraseIdx i t)
theorem aL.reverse {xs:List V} {us:List Gu} (h:aL xs us):aL xs.reverse us.reverse:=by
 induction h with
 |nil=>exact .nil
 |cons r t ih=>rw[K7,K7];exact aL.append ih (.cons r .nil)
theorem aL.rep {xs:List V} {us:List Gu} (h:aL xs us):∀k:Nat,aL (Hs k xs).flatten (Hs k us).flatten
 |0=> .nil
 |k+1=>by
  rw[Iv,Iv,J5,J5]
  exact aL.append h (aL.rep h k)
theorem sT {α:Type} (l:List α):l.eraseIdx (l.length - 1)=l.dropLast:=by
 induction l with
 |nil=>rfl
 |cons a r ih=>
  cases r with
  |nil=>rfl
  |cons b r=>
   have e:(a::b::r).length - 1=((b::r).length - 1)+1:=by
    have h1:(a::b::r).length=r.length+2:=rfl
    have h2:(b::r).length=r.length+1:=rfl
    omega
   rw[e,K5,ih]
   all_goals rfl
theorem oY {α:Type}:∀(l:List α) (i:Nat),(l.eraseIdx i).length<=l.length
 |[],_=>GZ _
 |_::_,0=>LR _
 |_::r,i+1=>Nat.succ_le_succ (oY r i)
theorem oZ (its:List Gu):∀(k:Nat) (OW:List Gu),
  Mn (λx1 x2=>x1++x2) OW.toArray (Hs k its.toArray)=(OW++(Hs k its).flatten).toArray
 |0,OW=>by simp
 |k+1,OW=>by
  have e:OW.toArray++its.toArray=(OW++its).toArray:=by simp
  have e2:(OW++its)++(Hs k its).flatten=OW++(Hs (k+1) its).flatten:=by
   rw[Iv,J5,K8]
  rw[<-e2,<-oZ its k (OW++its),<-e,Iv,Nx]
section
variable {X:Cx} {O0:List (Gw×Hi)} {σ:St} {H:Hp} {s:Gx} {l b:Gw} {xs ys zs:List V}
theorem aB.lset {its its':List Gu} {n:Nat} {f:Array Gu->Array Gu} {t':Nat} (I:aB X O0 σ H s) (hH:H l=some (.lst xs))
  (e:s.heap.get? l=some {cls:= .type "list",data:= .seq its.toArray n}) (hf:f its.toArray=its'.toArray) (hv:aL ys its') (hz:ys.length<=sizeLine):
  aB X O0 σ (b9 H l (.lst ys)) {s with heap:=s.heap.update l (Ih f),toks:=t'}:=by
 have q:=PySem.IsL.update e f
 rw[hf]at q
 refine I.write (x:=l) (e:=l) (by rw[hH];exact trivial) (.inl rfl) (λb' u hb hu=>(LY s.heap (Ih f) (II hb)).trans hu) ⟨_,q⟩ ?_
 exact⟨hz,its',_,hv,q⟩
theorem aB.lnew {its:List Gu} {t':Nat} (I:aB X O0 σ H s) (hv:aL ys its) (hz:ys.length<=sizeLine):
  aB X O0 σ (b9 H s.heap.objs.size (.lst ys)) {s with heap:=s.heap.push {cls:= .type "list",data:= .seq its.toArray},toks:=t'}:=
 I.laid (λ_ _ q=>GF _ q) (GZ _) ⟨hz,its,0,hv,He _ rfl⟩
theorem aB.fresh (I:aB X O0 σ H s):H s.heap.objs.size=none:=I.hok.fresh (GZ _)
theorem aB.lstM (I:aB X O0 σ H s) (hH:H l=some (.lst xs)):xs.length<=sizeLine/\∃(its:List Gu) (n:Nat),aL xs its/\xs.length=its.length/\s.heap.get? l=some {cls:= .type "list",data:= .seq its.toArray n}:=by
 obtain⟨z,its,n,r,e⟩:=I.hok l _ hH
 exact⟨z,its,n,r,r.length,e⟩
theorem qZ {n:Nat} (h:n<=sizeLine):Jc n=false:=by
 unfold Jc
 exact decide_eq_false (by omega)
end
section
variable {X:Cx}
def zu:V->List V->Hp->VK->Prop:=λx vs H Q=>∃l xs y,x= .ref l/\vs=[y]/\H l=some (.lst xs)/\xs.length<sizeLine/\Q .non (b9 H l (.lst (xs++[y])))
theorem jg:zt X "list.append" zu:=by
 intro O0 s σ H x vs v us Q I rx rv h
 obtain⟨l,xs,y,rfl,rfl,hH,hz,q⟩:=h
 cases rx
 obtain⟨u,rfl,ru⟩:=rv.one
 obtain⟨z,its,n,r,hl,e⟩:=I.lstM hH
 refine IX F.slot_list_append ⟨_,e,rfl⟩ F.entry_list_append (F.args_list_append_2 _ _) (PySem.list_append l its.toArray n u (by rw[GB];omega)) ⟨e,?_⟩
 refine⟨.non,_,I.lset (its':=its++[u]) hH e (by simp) (r.append (.cons ru .nil)) ?_,rfl,q⟩
 rw[Hn,Js]
 omega
def zv:V->List V->Hp->VK->Prop:=λx vs H Q=>∃l b xs zs,x= .ref l/\vs=[.ref b]/\H l=some (.lst xs)/\H b=some (.lst zs)/\xs.length+zs.length<=sizeLine/\Q .non (b9 H l (.lst (xs++zs)))
theorem D4:zt X "list.extend" zv:=by
 intro O0 s σ H x vs v us Q I rx rv h
 obtain⟨l,b,xs,zs,rfl,rfl,hH,hB,hz,q⟩:=h
 cases rx
 obtain⟨u,rfl,ru⟩:=rv.one
 cases ru
 obtain⟨z,its,n,r,hl,e⟩:=I.lstM hH
 obtain⟨z2,Qq,n2,r2,Sn,e2⟩:=I.lstM hB
 have hsz:its.toArray.size+Qq.toArray.size<=sizeLine:=by rw[GB,GB];omega
 have RO:¬(!its.toArray.isEmpty&&Jc (its.toArray.size+Qq.toArray.size))=true:=by
  rw[qZ hsz,NI]
  exact H9
 refine IX F.slot_list_extend ⟨_,e,rfl⟩ F.entry_list_extend (F.args_list_extend_2 _ _)
  (AutoSeq1.list_extend_list_list_0 l its.toArray n b Qq.toArray n2 RO (by rw[GB];omega) (by omega)) ⟨e,e2,?_⟩
 refine⟨.non,_,I.lset (its':=its++Qq) hH e (by simp) (r.append r2) ?_,rfl,q⟩
 rw[Hn]
 omega
def Fn:V->List V->Hp->VK->Prop:=λx vs H Q=>∃l xs y,x= .ref l/\vs=[]/\H l=some (.lst xs)/\xs[xs.length - 1]? =some y/\Q y (b9 H l (.lst xs.dropLast))
theorem BM:zt X "list.pop" Fn:=by
 intro O0 s σ H x vs v us Q I rx rv h
 obtain⟨l,xs,y,rfl,rfl,hH,hy,q⟩:=h
 cases rx
 have VE:=rv.zero
 subst VE
 obtain⟨z,its,n,r,hl,e⟩:=I.lstM hH
 obtain⟨u,hu,ru⟩:=r.get hy
 have Wh:its.toArray[its.toArray.size - 1]? =some u:=by
  show its.toArray[its.length - 1]? =some u
  rw[<-Km,<-hl]
  exact hu
 refine IX F.slot_list_pop ⟨_,e,rfl⟩ F.entry_list_pop (F.args_list_pop_1 _) (MeetsSeq.list_pop_last l its.toArray n u Wh (by rw[GB];omega)) ⟨e,?_⟩
 refine⟨y,_,I.lset (its':=its.dropLast) hH e ?_ r.dropLast ?_,ru,q⟩
 ·show its.toArray.eraseIdxIfInBounds (its.toArray.size - 1)=its.dropLast.toArray
  rw[GB,Kp,sT]
 ·rw[Mp]
  omega
def BO:V->List V->Hp->VK->Prop:=λx vs H Q=>∃l xs i k y,x= .ref l/\vs=[.int i]/\H l=some (.lst xs)/\ -(2 ^63)<=i/\i<2 ^63/\KO i xs.length=some k/\xs[k]? =some y/\Q y (b9 H l (.lst (xs.eraseIdx k)))
theorem xf:zt X "list.pop" BO:=by
 intro O0 s σ H x vs v us Q I rx rv h
 obtain⟨l,xs,i,k,y,rfl,rfl,hH,h1,h2,hk,hy,q⟩:=h
 cases rx
 obtain⟨u,rfl,ru⟩:=rv.one
 obtain⟨t,rfl⟩:=ru
 obtain⟨z,its,n,r,hl,e⟩:=I.lstM hH
 obtain⟨w,hw,QS⟩:=r.get hy
 refine IX F.slot_list_pop ⟨_,e,rfl⟩ F.entry_list_pop (F.args_list_pop_2 _ _)
  (MeetsSeq.list_pop_at l its.toArray n i t k w (M7 h1 h2) (by rw[GB,<-hl];exact hk) (by rw[<-Km];exact hw) (by rw[GB];omega)) ⟨e,?_⟩
 refine⟨y,_,I.lset (its':=its.eraseIdx k) hH e ?_ (r.eraseIdx k) ?_,QS,q⟩
 ·show its.toArray.eraseIdxIfInBounds k=(its.eraseIdx k).toArray
  rw[Kp]
 ·have:=oY xs k
  omega
def DH:R2:=λx y H Q=>∃l b xs zs,x= .ref l/\y= .ref b/\H l=some (.lst xs)/\H b=some (.lst zs)/\xs.length+zs.length<=sizeLine/\∀p,H p=none->Q (.ref p) (b9 H p (.lst (xs++zs)))
theorem BP:ju X (ID .Add) DH:=by
 intro O0 s σ H x y v u Q I rx ry h
 obtain⟨l,b,xs,zs,rfl,rfl,hH,hB,hz,q⟩:=h
 cases rx
 cases ry
 obtain⟨z,its,n,r,hl,e⟩:=I.lstM hH
 obtain⟨z2,Qq,n2,r2,Sn,e2⟩:=I.lstM hB
 refine PySem.P.add_list e e2 ?_ (by rw[GB,GB];omega)
 have ea:its.toArray++Qq.toArray=(its++Qq).toArray:=by simp
 rw[ea]
 exact⟨.ref _,_,I.lnew (t':=s.toks) (r.append r2) (by rw[Hn];omega),rfl,q _ I.fresh⟩
def DI:R2:=λx y H Q=>∃l k xs,x= .ref l/\y= .int k/\H l=some (.lst xs)/\ -(2 ^63)<=k/\k<2 ^63/\xs.length*k.toNat<=sizeLine/\
 ∀p,H p=none->Q (.ref p) (b9 H p (.lst (Hs k.toNat xs).flatten))
theorem zw {α:Type} (xs:List α) (k:Nat):(Hs k xs).flatten.length=k*xs.length:=by
 induction k with
 |zero=>simp
 |succ k ih=>rw[Iv,J5,Hn,ih,Nat.succ_mul,Nat.add_comm]
theorem BQ:ju X (ID .Mult) DI:=by
 intro O0 s σ H x y v u Q I rx ry h
 obtain⟨l,k,xs,rfl,rfl,hH,h1,h2,hz,q⟩:=h
 cases rx
 obtain⟨t,rfl⟩:=ry
 obtain⟨z,its,n,r,hl,e⟩:=I.lstM hH
 have Oe:its.toArray.size*k.toNat<=sizeLine:=by rw[GB,<-hl];exact hz
 have UG:¬its.toArray.size*k.toNat>(2 ^63 - 1) / 8:=by
  have:(sizeLine:Nat)<=(2 ^63 - 1) / 8:=by decide
  omega
 have SH:¬(!K_ k)=true:=by
  rw[M7 h1 h2]
  exact H9
 have RO:¬Jc (its.toArray.size*k.toNat)=true:=by
  rw[qZ Oe]
  exact H9
 have UH:Mn (λx1 x2=>x1++x2) #[] (Hs (if its.toArray.isEmpty=true then 0 else k.toNat) its.toArray)=(Hs k.toNat its).flatten.toArray:=by
  have f0:∀m:Nat,Mn (λx1 x2=>x1++x2) #[] (Hs m its.toArray)=(Hs m its).flatten.toArray:=λm=>by
   have:=oZ its m []
   rw[LN]at this
   exact this
  rw[f0]
  cases its with
  |nil=>simp
  |cons a r'=>rw[if_neg (by simp)]
 refine wpAny_binaryOp_repeat_ref (T:="list") (U:="int") (by decide) ⟨_,e,rfl⟩ (λs'=>Nw s' k t) noFill_list_mul F.fills_int_mul F.slot_int_rmul repeat_list F.slot_int_index.lookup
  (IX F.slot_int_rmul (Nw s k t) F.entry_int_rmul (F.args_int_rmul_2 _ _) (int___rmul___int_list k t l its.toArray n)
   ⟨e,rfl,⟨_,e,rfl⟩,IX F.slot_list_mul ⟨_,e,rfl⟩ F.entry_list_mul (F.args_list_mul_2 _ _) (AutoListH.list___mul___list_int_3 l its.toArray n k t SH UG RO) ⟨e,?_⟩⟩)
 rw[UH]
 exact⟨.ref _,_,I.lnew (t':=s.toks) (r.rep k.toNat) (by rw[zw,Nat.mul_comm];exact hz),rfl,q _ I.fresh⟩
end
section
variable {prog:GP} {w:G_} {A:Hd} {E:Gu->Gx->Prop} {s:Gx}
end
section
variable {X:Cx}
end
end L2
namespace L2
open PySem PySem.Spec PyProof.Rows
section
variable {κ:Type} [DecidableEq κ]
def i3 (kvs:List (κ×V)) (k:κ):Option V:=(kvs.find? λkv=>decide (kv.1=k)).map (·.2)
def jv (kvs:List (κ×V)) (k:κ) (v:V):List (κ×V):=
 if (kvs.any λkv=>decide (kv.1=k))=true then kvs.map (λkv=>if kv.1=k then (kv.1,v)else kv)else kvs++[(k,v)]
theorem ng {p:κ×V} {r:List (κ×V)} {k:κ} (e:p.1=k):i3 (p::r) k=some p.2:=by simp[i3,Jk,e]
theorem nj {p:κ×V} {r:List (κ×V)} {k:κ} (e:¬p.1=k):i3 (p::r) k=i3 r k:=by simp[i3,Jk,e]
theorem q_ (k:κ):∀kvs:List (κ×V),(kvs.any λkv=>decide (kv.1=k))=(i3 kvs k).isSome
 |[]=>rfl
 |p::r=>by
  rw[I0]
  by_cases e:p.1=k
  ·simp only[ng e,decide_eq_true e,MW,Option.isSome_some]
  ·rw[nj e,decide_eq_false e,Mx];exact q_ k r
theorem lU (kvs:List (κ×V)) (k:κ) (v:V):(jv kvs k v).length<=kvs.length+1:=by
 unfold jv
 split
 ·rw[GA];omega
 ·rw[Hn,GX,IF];omega
theorem iE.isSome_eq {o:Option V} {u:Option Gu} (r:iE o u):o.isSome=u.isSome:=by
 cases o with
 |none=>cases u with
  |none=>rfl
  |some _=>exact(show False from r).elim
 |some _=>cases u with
  |none=>exact(show False from r).elim
  |some _=>rfl
theorem iE.getD {o:Option V} {u:Option Gu} {d:V} {d':Gu} (r:iE o u) (rd:b6 d d'):b6 (o.getD d) (u.getD d'):=by
 cases o with
 |none=>cases u with
  |none=>exact rd
  |some _=>exact(show False from r).elim
 |some _=>cases u with
  |none=>exact(show False from r).elim
  |some _=>exact r
theorem KV.val {kvs:List (κ×V)} {vs:List (κ×Gu)} (r:KV kvs vs) (k:κ):iE (i3 kvs k) (Li vs k):=by
 unfold KV at r
 induction r with
 |nil=>exact IW
 | @cons p q ps qs h t ih=>
  obtain⟨h1,h2⟩:=h
  by_cases e:p.1=k
  ·have e':q.1=k:=h1.symm.trans e
   have b:Li (q::qs) k=some q.2:=by simp[Li,Jk,e']
   rw[ng e,b];exact h2
  ·have e':¬q.1=k:=λz=>e (h1.trans z)
   have b:Li (q::qs) k=Li qs k:=by simp[Li,Jk,e']
   rw[nj e,b];exact ih
theorem KV.any {kvs:List (κ×V)} {vs:List (κ×Gu)} (r:KV kvs vs) (k:κ):(kvs.any λkv=>decide (kv.1=k))=vs.any λkv=>decide (kv.1=k):=by
 unfold KV at r
 induction r with
 |nil=>rfl
 |cons h t ih=>rw[I0,I0,ih,h.1]
theorem KV.repl {kvs:List (κ×V)} {vs:List (κ×Gu)} (r:KV kvs vs) (k:κ) {y:V} {u:Gu} (ry:b6 y u):
  KV (kvs.map λkv=>if kv.1=k then (kv.1,y)else kv) (vs.map λkv=>if kv.1=k then (kv.1,u)else kv):=by
 unfold KV at r ⊢
 induction r with
 |nil=>exact .nil
 | @cons p q ps qs h t ih=>
  rw[GL,GL]
  refine .cons ?_ ih
  obtain⟨h1,h2⟩:=h
  by_cases e:p.1=k
  ·rw[if_pos e,if_pos (h1.symm.trans e)];exact⟨h1,ry⟩
  ·rw[if_neg e,if_neg (λz=>e (h1.trans z))];exact⟨h1,h2⟩
theorem KV.put {kvs:List (κ×V)} {vs:List (κ×Gu)} (r:KV kvs vs) (k:κ) {y:V} {u:Gu} (ry:b6 y u):KV (jv kvs k y) (stored vs k u):=by
 unfold jv stored
 rw[r.any k]
 by_cases e:(vs.any λkv=>decide (kv.1=k))=true
 ·rw[if_pos e,if_pos e];exact r.repl k ry
 ·rw[if_neg e,if_neg e];exact NY r ⟨rfl,ry⟩
theorem KV.keys {kvs:List (κ×V)} {vs:List (κ×Gu)} (r:KV kvs vs):kvs.map (·.1)=vs.map (·.1):=by
 unfold KV at r
 induction r with
 |nil=>rfl
 |cons h t ih=>rw[GL,GL,ih,h.1]
theorem KV.length {kvs:List (κ×V)} {vs:List (κ×Gu)} (r:KV kvs vs):kvs.length=vs.length:=KS r
end
theorem r0 {P:GP} {w:G_} {k:bD} {u:Gu} (r:b6 (kV k) u):(cu P w).is k u=true:=by
 cases k with
 |inl i=>obtain⟨t,e⟩:=(show ∃t,u=Jh i t from r);subst e;exact qV P w i t
 |inr x=>obtain⟨t,e⟩:=(show ∃t,u=Ki x t from r);subst e;exact qW P w x t
theorem o_ {P:GP} {w:G_}:∀{ks:List bD} {us:List Gu},aL (ks.map kV) us->ItemsAre (cu P w) ks us
 |[],_,r=>by rw[Jb]at r;cases r;exact .nil
 |k::ks,_,r=>by
  rw[GL]at r
  cases r with
  |cons h t=>exact .cons (r0 h) (o_ t)
abbrev KT (H:Hp):List (List bD×V)->List (List bD×Gw×Gu)->Prop:=Paired λp q=>p.1=q.1/\H q.2.1=some (.tup (p.1.map kV))/\b6 p.2 q.2.2
theorem KT.val {H:Hp} {kvs:List (List bD×V)} {xs:List (List bD×Gw×Gu)} (r:KT H kvs xs) (k:List bD):iE (i3 kvs k) ((LO xs k).map (·.2)):=by
 induction r with
 |nil=>exact IW
 | @cons p q ps qs h t ih=>
  obtain⟨h1,_,h2⟩:=h
  by_cases e:p.1=k
  ·have e':q.1=k:=h1.symm.trans e
   have b:LO (q::qs) k=some q.2:=by simp[LO,Jk,e']
   rw[ng e,b];exact h2
  ·have e':¬q.1=k:=λz=>e (h1.trans z)
   have b:LO (q::qs) k=LO qs k:=by simp[LO,Jk,e']
   rw[nj e,b];exact ih
theorem KT.repl {H:Hp} {kvs:List (List bD×V)} {xs:List (List bD×Gw×Gu)} (r:KT H kvs xs) (k:List bD) {y:V} {u:Gu} (ry:b6 y u):
  KT H (kvs.map λkv=>if kv.1=k then (kv.1,y)else kv) (xs.map (putAt k u)):=by
 induction r with
 |nil=>exact .nil
 | @cons p q ps qs h t ih=>
  rw[GL,GL]
  refine .cons ?_ ih
  obtain⟨h1,h2,h3⟩:=h
  unfold putAt
  by_cases e:p.1=k
  ·rw[if_pos e,if_pos (h1.symm.trans e)];exact⟨h1,h2,ry⟩
  ·rw[if_neg e,if_neg (λz=>e (h1.trans z))];exact⟨h1,h2,h3⟩
theorem KT.put {H:Hp} {kvs:List (List bD×V)} {xs:List (List bD×Gw×Gu)} (r:KT H kvs xs) (k:List bD) {b:Gw} {y:V} {u:Gu} (hb:H b=some (.tup (k.map kV))) (ry:b6 y u):
  KT H (jv kvs k y) (storedH xs k b u):=by
 have e:(kvs.any λkv=>decide (kv.1=k))=(LO xs k).isSome:=by
  rw[q_,(r.val k).isSome_eq,L9]
 unfold jv storedH
 rw[e]
 by_cases q:(LO xs k).isSome=true
 ·rw[if_pos q,if_pos q];exact r.repl k ry
 ·rw[if_neg q,if_neg q];exact NY r ⟨rfl,hb,ry⟩
theorem KT.keeps {H H':Hp} {kvs:List (List bD×V)} {xs:List (List bD×Gw×Gu)} (r:KT H kvs xs) (ht:∀b ys,H b=some (.tup ys)->H' b=some (.tup ys)):KT H' kvs xs:=
 Paired.mapP r λ_ _ z=>⟨z.1,ht _ _ z.2.1,z.2.2⟩
section
variable {P:GP} {w:G_} {H:Hp} {h:GY} {a:Gw}
theorem AN {u:HO} (ok:iK P w H h) (e:Rd H a u):bp P w H h a u:=e.ok ok
theorem p0 {kvs:List (bD×V)} (ok:iK P w H h) (e:Rd H a (.dK kvs)):kvs.length<=sizeLine/\(a==sysModules)=false/\∃vs,KV kvs vs/\h.DictOf (cu P w) a vs:=
 show bp P w H h a (.dK kvs)from AN ok e
theorem AO {kvs:List (bD×V)} (ok:iK P w H h) (e:H a=some (.dK kvs)):kvs.length<=sizeLine/\(a==sysModules)=false/\∃vs,KV kvs vs/\h.DictOf (cu P w) a vs:=p0 ok (.inl e)
theorem nk {ks:List bD} (ok:iK P w H h) (e:H a=some (.tup (ks.map kV))):(LI (cu P w)).is h ks a:=by
 obtain⟨_,its,r,o,h1,h2,n,h3,_⟩:=(show bp P w H h a (.tup (ks.map kV))from ok a _ e)
 exact⟨o,its.toArray,n,h1,h2,h3,by simpa using o_ r⟩
theorem r8 {kvs:List (List bD×V)} (ok:iK P w H h) (e:Rd H a (.dT kvs)):kvs.length<=sizeLine/\(a==sysModules)=false/\
  ∃xs,KT H kvs xs/\h.DictOfH (LI (cu P w)) a xs:=by
 obtain⟨z,y,xs,r,o,es,ep,h1,h2,h3,h4,h5⟩:=(show bp P w H h a (.dT kvs)from AN ok e)
 refine⟨z,y,xs,r,o,es,ep,h1,h2,h3,h4,λx hx=> ?_,h5⟩
 have all:∀{l:List (List bD×V)} {m:List (List bD×Gw×Gu)},KT H l m->∀x∈m,(LI (cu P w)).is h x.1 x.2.1:=by
  intro l m q
  induction q with
  |nil=>intro x hx;exact nomatch hx
  | @cons p q ps qs hq t ih=>
   intro x hx
   rcases GK.mp hx with e|hx
   ·subst e
    exact nk ok (by rw[<-hq.1];exact hq.2.1)
   ·exact ih x hx
 exact all r x hx
theorem DJ {kvs:List (List bD×V)} (ok:iK P w H h) (e:H a=some (.dT kvs)):kvs.length<=sizeLine/\(a==sysModules)=false/\
  ∃xs,KT H kvs xs/\h.DictOfH (LI (cu P w)) a xs:=r8 ok (.inl e)
end
def kn (H:Hp) (a:Gw) (y:V) (r:Option V):Prop:=
 (∃kvs k,Rd H a (.dK kvs)/\y=kV k/\r=i3 kvs k)\/∃kvs k b,Rd H a (.dT kvs)/\y= .ref b/\H b=some (.tup (k.map kV))/\r=i3 kvs k
def sU (H:Hp) (a:Gw) (y v:V) (H':Hp):Prop:=
 (∃kvs k,H a=some (.dK kvs)/\y=kV k/\kvs.length<sizeLine/\H'=b9 H a (.dK (jv kvs k v)))\/
 ∃kvs k b,H a=some (.dT kvs)/\y= .ref b/\H b=some (.tup (k.map kV))/\kvs.length<sizeLine/\H'=b9 H a (.dT (jv kvs k v))
theorem kn.k {H:Hp} {a:Gw} {kvs:List (bD×V)} {k:bD} (e:H a=some (.dK kvs)):kn H a (kV k) (i3 kvs k):= .inl ⟨kvs,k, .inl e,rfl,rfl⟩
theorem kn.t {H:Hp} {a b:Gw} {kvs:List (List bD×V)} {k:List bD} (e:H a=some (.dT kvs)) (eb:H b=some (.tup (k.map kV))):kn H a (.ref b) (i3 kvs k):= .inr ⟨kvs,k,b, .inl e,rfl,eb,rfl⟩
theorem sU.k {H:Hp} {a:Gw} {kvs:List (bD×V)} {k:bD} {v:V} (e:H a=some (.dK kvs)) (hl:kvs.length<sizeLine):sU H a (kV k) v (b9 H a (.dK (jv kvs k v))):= .inl ⟨kvs,k,e,rfl,hl,rfl⟩
theorem sU.t {H:Hp} {a b:Gw} {kvs:List (List bD×V)} {k:List bD} {v:V} (e:H a=some (.dT kvs)) (eb:H b=some (.tup (k.map kV))) (hl:kvs.length<sizeLine):
  sU H a (.ref b) v (b9 H a (.dT (jv kvs k v))):= .inr ⟨kvs,k,b,e,rfl,eb,hl,rfl⟩
section
variable {X:Cx} {O0:List (Gw×Hi)} {σ:St} {H:Hp} {s:Gx} {a:Gw} {y v:V} {u r:Gu} {o:Option V} {A:Hd} {E:Gu->Gx->Prop}
theorem vw {Q:Gu->Gx->Prop} (hu:A.units+1<Jp) (I:aB X O0 σ H s) (g:kn H a y (some v)) (ry:b6 y u) (h:∀w' s',aB X O0 σ H s'->b6 v w'->Q w' s'):
  GI (GN X.prog X.w) A (K1 (.ref a) u) Q E s:=by
 rcases g with ⟨kvs,k,e,ey,l⟩|⟨kvs,k,b,e,ey,eb,l⟩
 ·subst ey
  obtain⟨z,hd,vs,Q5,dd⟩:=p0 I.hok e
  obtain⟨w',hw,QS⟩:=iE.some_of (v:=v) (o:=Li vs k) (by rw[l];exact Q5.val k)
  exact wpAny_getItem_of (r0 ry) dd.mapOf hw (h w' _ (I.tok _) QS)
 ·subst ey
  cases (show u=Hc b from ry)
  obtain⟨z,hd,xs,Q5,dd⟩:=r8 I.hok e
  obtain⟨w',hw,QS⟩:=iE.some_of (v:=v) (o:=(LO xs k).map (·.2)) (by rw[l];exact Q5.val k)
  obtain⟨p,hp,So⟩:=Option.map_eq_some_iff.mp hw
  refine wpAny_getItem_heap (JV hu) (nk I.hok eb) dd hp ?_
  rw[So]
  exact h w' _ (I.tok _) QS
theorem Fo {Q:Gu->Gx->Prop} (hu:A.units+1<Jp) (I:aB X O0 σ H s) (g:kn H a y o) (ry:b6 y u) (h:∀s',aB X O0 σ H s'->Q (.bool o.isSome) s'):
  GI (GN X.prog X.w) A (Ir .In u (.ref a)) Q E s:=by
 rcases g with ⟨kvs,k,e,ey,l⟩|⟨kvs,k,b,e,ey,eb,l⟩
 ·subst ey
  obtain⟨z,hd,vs,Q5,dd⟩:=p0 I.hok e
  refine wpAny_in_of (r0 ry) hd dd.mapOf ?_
  rw[<-(Q5.val k).isSome_eq,<-l]
  exact h _ (I.tok _)
 ·subst ey
  cases (show u=Hc b from ry)
  obtain⟨z,hd,xs,Q5,dd⟩:=r8 I.hok e
  refine wpAny_in_heap (JV hu) (nk I.hok eb) hd dd ?_
  have q:=(Q5.val k).isSome_eq
  rw[L9]at q
  rw[<-q,<-l]
  exact h _ (I.tok _)
theorem zx {Q:Gu->Gx->Prop} (hu:A.units+1<Jp) (I:aB X O0 σ H s) (g:kn H a y o) (ry:b6 y u) (h:∀s',aB X O0 σ H s'->Q (.bool (!o.isSome)) s'):
  GI (GN X.prog X.w) A (Ir .NotIn u (.ref a)) Q E s:=by
 rcases g with ⟨kvs,k,e,ey,l⟩|⟨kvs,k,b,e,ey,eb,l⟩
 ·subst ey
  obtain⟨z,hd,vs,Q5,dd⟩:=p0 I.hok e
  refine wpAny_notIn_of (r0 ry) hd dd.mapOf ?_
  rw[<-(Q5.val k).isSome_eq,<-l]
  exact h _ (I.tok _)
 ·subst ey
  cases (show u=Hc b from ry)
  obtain⟨z,hd,xs,Q5,dd⟩:=r8 I.hok e
  refine wpAny_notIn_heap (JV hu) (nk I.hok eb) hd dd ?_
  have q:=(Q5.val k).isSome_eq
  rw[L9]at q
  rw[<-q,<-l]
  exact h _ (I.tok _)
theorem uw {h':GY} {t':Nat} {ob:HO} (I:aB X O0 σ H s) (mu:Df (H a)) (hs:Ln a s.heap h') (he:∃q,h'.get? a=some q) (new:bp X.prog X.w (b9 H a ob) h' a ob):
  aB X O0 σ (b9 H a ob) {s with heap:=h',toks:=t'}:=
 I.write (x:=a) (e:=a) mu (.inl rfl) (λb q hb z=>(hs.2 b hb).trans z) he new
theorem BR {P:GP} {w:G_} {H':Hp} {h':GY} {kvs:List (bD×V)} {vs:List (bD×Gu)} (z:kvs.length<=sizeLine) (hd:(a==sysModules)=false) (Q5:KV kvs vs) (dd:h'.DictOf (cu P w) a vs):
  bp P w H' h' a (.dK kvs):=⟨z,hd,vs,Q5,dd⟩
theorem vx {H':Hp} {Q:Unit->Gx->Prop} (hu:A.units+1<Jp) (I:aB X O0 σ H s) (g:sU H a y v H') (ry:b6 y u) (rv:b6 v r) (h:∀s',aB X O0 σ H' s'->Q () s'):
  GI (GN X.prog X.w) A (NH (.ref a) u r) Q E s:=by
 rcases g with ⟨kvs,k,e,ey,l,eH⟩|⟨kvs,k,b,e,ey,eb,l,eH⟩
 ·subst ey eH
  obtain⟨z,hd,vs,Q5,dd⟩:=AO I.hok e
  have hz:vs.length<=sizeLine:=by rw[<-Q5.length];exact z
  have hl:(jv kvs k v).length<=sizeLine:=by have:=lU kvs k v;omega
  refine wpAny_setItem_pairs (hsz:=hz) (r0 ry) dd λh' Ui hs=>h _ ?_
  have he:∃q,h'.get? a=some q:=let ⟨q,_,_,hq,_⟩:=Ui;⟨q,hq⟩
  exact uw I (by rw[e];exact IW) hs he (BR hl hd (Q5.put k rv) Ui)
 ·subst ey eH
  cases (show u=Hc b from ry)
  obtain⟨z,hd,xs,Q5,dd⟩:=DJ I.hok e
  have hz:xs.length<=sizeLine:=by rw[<-KS Q5];exact z
  have hl:(jv kvs k v).length<=sizeLine:=by have:=lU kvs k v;omega
  refine wpAny_setItem_heap (hsz:=hz) (JV hu) (nk I.hok eb) dd λh' Ui hs=>h _ ?_
  obtain⟨q,es,ep,hq,h2,h3,h4,_,h5⟩:=Ui
  refine uw I (by rw[e];exact IW) hs ⟨q,hq⟩ ⟨hl,hd,_,(Q5.put k eb rv).keeps λc ys ec=> ?_,q,es,ep,hq,h2,h3,h4,h5⟩
  rw[ao (De ec e (λz=>nomatch z))]
  exact ec
end
section
variable {X:Cx} {O0:List (Gw×Hi)} {σ:St} {H:Hp} {s:Gx} {a:Gw} {kvs:List (bD×V)} {k:bD} {u:Gu} {A:Hd} {E:Gu->Gx->Prop}
theorem DK {Q:Gu->Gx->Prop} (I:aB X O0 σ H s) (e:Rd H a (.dK kvs)) (h:∀t s',aB X O0 σ H s'->Q (.int kvs.length t) s'):GI (GN X.prog X.w) A (call (.builtin "len") [.ref a]) Q E s:=by
 obtain⟨z,hd,vs,Q5,dd⟩:=p0 I.hok e
 refine call_len_dict hd dd (by rw[<-Q5.length];rw[Ik]at z;omega) ?_
 rw[<-Q5.length]
 exact h _ _ (I.tok _)
end
def DL (i:GD):Prop:=∀ov iv,LW i false ov iv=operate [ov,iv] (K1 ov iv)
theorem zy {prog:GP} {w:G_} {A:Hd} {E:Gu->Gx->Prop} {s:Gx} {env:Iz} {value Pf:GD} {pos:Hr} {T id:String} {Q:Gu->Gx->Prop}
  (hl:typeLookup (.type T) "__getitem__"=pure (some (.builtin id))) (hs:DL Pf)
  (h:GI (GN prog w) A (GW value env) (λo s₁=>GI (GN prog w) A (GW Pf env) (λi s₂=>s₂.TypeIs o T/\GI (GN prog w) A (K1 o i) Q E s₂) E s₁) E s):
  GI (GN prog w) A (GW (.Subscript value Pf pos) env) Q E s:=by
 refine Nv (IC h (λo s₁ h₁=>IC h₁ (λi s₂ h₂=> ?_) λ_ _ x=>x) λ_ _ x=>x)
 obtain⟨hT,h₂⟩:=h₂
 unfold Mw
 refine Gz ?_
 rw[getitemInPython_of_ne hT.not_modules]
 refine Gz (wpAny_specialOf hT hl ?_)
 have Qe:GI (GN prog w) A (LW Pf false o i) (λr s₃=>GI (GN prog w) A (letTemporaryGo value o r>>=λ_=>pure r) Q E s₃) E s₂:=by
  rw[hs o i]
  exact wpAny_operating (IC h₂ (λr s₃ h₃=>Gz (wpAny_letTemporaryGo (GH h₃))) λ_ _ x=>x)
 first
  |exact GH (Gz Qe)
  |exact Gz (GH (Gz Qe))
  |exact Gz Qe
theorem r9 {X:Cx} {O0:List (Gw×Hi)} {σ:St} {H:Hp} {s:Gx} {a:Gw} {y:V} {o:Option V} (I:aB X O0 σ H s) (g:kn H a y o):s.TypeIs (.ref a) "dict":=by
 rcases g with ⟨kvs,k,e,_,_⟩|⟨kvs,k,b,e,_,_,_⟩
 ·obtain⟨_,_,vs,_,dd⟩:=p0 I.hok e
  exact dd.typeIs
 ·obtain⟨_,_,xs,_,dd⟩:=r8 I.hok e
  exact dd.typeIs
def DM (td ty:TE):TE:=λσ H Q=>td σ H λx H1=>ty σ H1 λy H2=>∃a v,x= .ref a/\kn H2 a y (some v)/\Q v H2
def DN (ty td:TE):TE:=λσ H Q=>ty σ H λy H1=>td σ H1 λx H2=>∃a o,x= .ref a/\kn H2 a y o/\Q (.bl o.isSome) H2
def pX (ty td:TE):TE:=λσ H Q=>ty σ H λy H1=>td σ H1 λx H2=>∃a o,x= .ref a/\kn H2 a y o/\Q (.bl (!o.isSome)) H2
def DO (td ty tv:TE):TS:=λD σ H=>tv σ H λv H1=>td σ H1 λx H2=>ty σ H2 λy H3=>∃a H4,x= .ref a/\sU H3 a y v H4/\D.nx σ H4
section
variable {X:Cx} {o i e value:GD} {pos Oh UA:Hr} {td ty tv:TE}
theorem zA (hu:X.A.units+1<Jp) (ho:PE X o td) (hi:PE X i ty) (hs:DL i):PE X (.Subscript o i pos) (DM td ty):=by
 intro O0 s σ H Q I h
 refine zy PySem.F.slot_dict_getitem.lookup hs (bW (ho O0 s σ H _ I h) λu s1 ⟨x,H1,I1,rx,q1⟩=>bW (hi O0 s1 σ H1 _ I1 q1) λiv s2 z_=> ?_)
 obtain⟨y,H2,I2,ry,a,v,ex,g,q2⟩:=z_
 subst ex
 obtain rfl:u=Hc a:=rx
 exact⟨r9 I2 g,vw hu I2 g ry λw' s3 I3 QS=>⟨v,H2,I3,QS,q2⟩⟩
theorem BS (hu:X.A.units+1<Jp) (hi:PE X i ty) (ho:PE X o td):PC X .In i o (DN ty td):=by
 intro O0 s σ H Q I h
 refine bW (hi O0 s σ H _ I h) λiv s1 ⟨y,H1,I1,ry,q1⟩=>bW (ho O0 s1 σ H1 _ I1 q1) λu s2 z_=> ?_
 obtain⟨x,H2,I2,rx,a,ov,ex,g,q2⟩:=z_
 subst ex
 obtain rfl:u=Hc a:=rx
 exact Fo hu I2 g ry λs3 I3=>⟨.bl ov.isSome,H2,I3,rfl,q2⟩
theorem p3 (hu:X.A.units+1<Jp) (hi:PE X i ty) (ho:PE X o td):PC X .NotIn i o (pX ty td):=by
 intro O0 s σ H Q I h
 refine bW (hi O0 s σ H _ I h) λiv s1 ⟨y,H1,I1,ry,q1⟩=>bW (ho O0 s1 σ H1 _ I1 q1) λu s2 z_=> ?_
 obtain⟨x,H2,I2,rx,a,ov,ex,g,q2⟩:=z_
 subst ex
 obtain rfl:u=Hc a:=rx
 exact zx hu I2 g ry λs3 I3=>⟨.bl (!ov.isSome),H2,I3,rfl,q2⟩
theorem zB (hu:X.A.units+1<Jp) (ho:PE X o td) (hi:PE X i ty) (hv:PE X value tv) (hs:HA value (some (.Subscript o i Oh)) pos.line X.env=pure false):
  PS X (.Assign [.Subscript o i Oh] value pos) (DO td ty tv):=by
 intro O0 s σ H D I h
 refine wpAny_Assign_Subscript (bW (hv O0 s σ H _ I h) λr s1 ⟨v,H1,I1,rv,q1⟩=>bW (ho O0 s1 σ H1 _ I1 q1) λu s2 ⟨x,H2,I2,rx,q2⟩=>bW (hi O0 s2 σ H2 _ I2 q2) λiv s3 z_=> ?_) hs
 obtain⟨y,H3,I3,ry,a,H4,ex,g,q3⟩:=z_
 subst ex
 obtain rfl:u=Hc a:=rx
 exact vx hu I3 g ry rv λs4 I4=>⟨σ,H4,I4,q3⟩
end
section
variable {X:Cx} {pos:Hr}
end
section
variable {X:Cx} {O0:List (Gw×Hi)} {σ:St} {H:Hp} {s:Gx} {a:Gw} {y d:V} {u r:Gu} {o:Option V} {A:Hd} {E:Gu->Gx->Prop}
end
section
variable {X:Cx} {o e f:GD} {Oa O4:Hr} {td ty tx:TE}
end
section
variable {X:Cx} {O0:List (Gw×Hi)} {σ:St} {H:Hp} {s:Gx} {a:Gw} {kvs:List (bD×V)} {A:Hd} {E:Gu->Gx->Prop}
end
section
variable {X:Cx} {O0:List (Gw×Hi)} {σ:St} {H:Hp} {s:Gx} {a:Gw} {y:V} {u:Gu} {A:Hd} {E:Gu->Gx->Prop}
end
end L2
namespace Att
open PySem PySem.W PySem.Calls PyProof.Rows
theorem mC {P:Params} {h:GY}:∀(ns:List Int) (vs:List Gu),WellAll P h vs (ns.map WData.int)->Lh vs ns:=by
 intro ns
 induction ns with
 |nil=>
  intro vs w
  rw[Jb]at w
  cases w
  exact .nil
 |cons n ns ih=>
  intro vs w
  rw[GL]at w
  cases w with
  |cons a b=>
   cases a
   exact .cons _ _ (ih _ b)
theorem vy {l:OpenLaw} {n:Nat} (hn:l.most=some n) {P:Params} {h:GY} {args:List WData} {SI:List Gu}
  (Se:l.row.toRowW.claim.pre args=true) (UI:WellAll P h SI args):
  ∃a vs ns,SI=[Hc a]/\args=[WData.list (ns.map WData.int)]/\h.get? a=some {cls:= .type "list",data:= .seq vs.toArray}/\Lh vs ns/\ns.length<=n:=by
 have Wi:WShape.hasAll [] args [.list .int]=true:=(pre_splitW Se).1
 have hc:l.pre.holds [] {args:=args}=true:=(pre_splitW Se).2
 obtain⟨d,r,rfl,h1,h2⟩:=hasAllW_cons Wi
 obtain rfl:=hasAllW_nil h2
 obtain⟨xs,rfl,h3⟩:=hasW_list h1
 obtain⟨ns,rfl⟩:=items_int h3
 have Oe:ns.length<=n:=by
  unfold OpenLaw.pre at hc
  have h4:(WTm.not (.lt (.lit (.int (n:Int))) (.len (.arg 0)))).holds [] {args:=[.list (ns.map .int)]}=true:=by
   have h4:=(holds_andW hc).1
   rw[hn]at h4
   exact h4
  have h5:=condW_of h4 (w_not (w_lt w_lit (w_len_list (w_arg rfl))))
  rw[GA]at h5
  refine Ls λq=> ?_
  have q':(n:Int)<((ns.length:Nat):Int):=by omega
  first
   |(rw[decide_eq_true q']at h5;exact absurd h5 (by decide))
   |(simp at h5;omega)
 cases UI with
 |cons w1 w2=>
  cases w2
  cases w1 with
  |list ho UJ=>exact⟨_,_,ns,rfl,rfl,ho,mC ns _ UJ,Oe⟩
theorem vz (l:OpenLaw) (args:List WData):l.row.toRowW.claim.post args (.bool true) args=true:=
 postW_of (r:=l.row.toRowW) (X:=(true==true))
  (show WShape.has [] (.bool true) .bool=true by first|rfl|decide|simp[WShape.has,WShape.arms,WShape.armsAll])
  (show (WTm.eq .res (.lit (.bool true))).value [] {args:=args,res:=some (.bool true),after:=args}=some (.bool (true==true))from w_eq_bool (w_res rfl) w_lit) rfl
theorem attach_call {l:OpenLaw} {n:Nat} {q:GP} {Qz:List Gv} {XP:(Gv->Option Gu)->GY->Prop} {YP:G_->GY->Prop} {d:DefRec}
  (hn:l.most=some n) (Tx:d.params.defaults=[])
  (call:∀(w:G_) (s₀ s₁:Gx) (mg mb:Gv->Option Gu) (fa:Gw) (o:Hi) (pm cd P5:Gu) (a:Gw) (vs:List Gu) (ns:List Int),
   Ground q Qz [] XP w s₀ mg mb s₁.heap->YP w s₁.heap->
   s₁.heap.get? fa=some o->o.data= .func (docDef d.name d.params d.body d.scope pm cd P5)->s₁.heap.CodeRec cd d.name->mg d.name=some (.ref fa)->
   s₁.heap.get? a=some {cls:= .type "list",data:= .seq vs.toArray}->Lh vs ns->ns.length<=n->s₁.gens= #[]->
   K0 (GN l.prog w) Lj (.call (.ref fa) ⟨[.ref a],[]⟩) (λr s'=>r= .ok (.ret (.bool true))/\OldK s₁.heap s'.heap/\s'.os=s₁.os/\JZ s'.gens) s₁):
  WalkO q Qz XP YP l.row.toRowW d [] (λf vs=>Ny f vs):=by
 intro w s₀ s₁ mg mb G Y fa o pm cd P5 dV kV ho hd P2 hD UK hg args SI as Se Wj Y0 UI Y1
 obtain rfl:dV= .none:=Dflts.none hD Tx
 obtain rfl:kV= .none:=Dflts.noKw hD
 obtain⟨a,vs,ns,rfl,rfl,SJ,RP,Oe⟩:=vy hn Se UI
 refine enter_call (JR (call w s₀ s₁ mg mb fa o pm cd P5 a vs ns G Y ho (fd_plain hd) P2 UK SJ RP Oe hg) λr s' hq=> ?_)
 obtain⟨rfl,h2,h3,h4⟩:=hq
 exact⟨.inl ⟨.bool true, .bool true,[],rfl,λ_=>rfl, .bool true,vz l _,λ_=>⟨La,λ_ hm=>(nomatch hm)⟩⟩,h2,h3,h4⟩
section
variable {prog:GP} {w:G_} {A:Hd} {E:Gu->Gx->Prop} {s:Gx} {K:Frag}
end
end Att
namespace L2
open PySem PySem.Spec PyProof.Rows
theorem jh:∀{vs:List Gu} {ns:List Int},Lh vs ns->aL (ns.map V.int) vs
 |_,_, .nil=> .nil
 |_,_, .cons n t h=> .cons ⟨t,rfl⟩ (jh h)
def BU (H:Hp):Prop:=∀b,H b=none\/∃o xs,H b=some (.frz o (.lst xs))
theorem xg {P:GP} {w:G_} {K:Gs} {mg mb:Gv->Option Gu} {CX:sL} {k:Nat} {fa a:Gw} {fd:HX} {x:Gv} {sp:Sp} {s₁:Gx} {vs:List Gu} {ns:List Int}
  (KX:K.In s₁.heap) (Rf:s₁.heap.Ns GG mg) (hb:s₁.heap.Ns Nr mb) (Wk:∀x:Gv,x≠"__name__"->mb x=Ho x) (UL:s₁.heap.NoLimit) (hg:s₁.gens= #[])
  (ha:s₁.heap.get? a=some {cls:= .type "list",data:= .seq vs.toArray}) (hi:Lh vs ns) (hl:ns.length<=sizeLine) (hr:bY k Lj)
  (F:∀base:GY,K.In base->base.Ns GG mg->dB P w K mg base CX k fa fd [x] sp) (Tz:∀(s:Gx) (u:Gu),M6 s fd ⟨[u],[]⟩ [(x,u)])
  (S3:∀H:Hp,BU H->c9 K H a (ns.map V.int)->sp [.ref a] H (λv _=>v= .bl true) λ_ _ _=>False)
  (UM:∀H e s',CX [] H s₁ (λ_ _ _=>False) e s'->False):
  K0 (GN P w) Lj (.call (.ref fa) ⟨[.ref a],[]⟩) (λr s'=>r= .ok (.ret (.bool true))/\OldK s₁.heap s'.heap/\s'.os=s₁.os/\JZ s'.gens) s₁:=by
 have rv:=jh hi
 have UN:=hi.length
 have TB:∀H:Hp,BU H->c9 K H a (ns.map V.int)->iK P w H s₁.heap->(∀b,H b≠none->b=a)->(H a≠none->K.lookup a=none)->
   K0 (GN P w) Lj (.call (.ref fa) ⟨[.ref a],[]⟩) (λr s'=>r= .ok (.ret (.bool true))/\OldK s₁.heap s'.heap/\s'.os=s₁.os/\JZ s'.gens) s₁:=by
  intro H hO hS hok hA hK
  have Rq:∀{b:Gw} {o:Hi},s₁.heap.get? b=some o->H b=none->(pQ s₁.heap H).get? b=some o:=λe n=>wK e n
  have Tt:∀{b:Gw} {o:Hi} {es:Array DictEntry} {ep:Nat},s₁.heap.get? b=some o->o.data= .dict es ep->H b=none:=λ{b o es ep} e d=>by
   cases q:H b with
   |none=>rfl
   |some u=>
    have e':b=a:=hA b (by rw[q];simp)
    subst e'
    rw[ha]at e;cases e
    have d':NU vs.toArray _=Data.dict es ep:=d
    cases d'
  have Uj:∀{b:Gw} {m:Gv->Option Gu},s₁.heap.Ns b m->(pQ s₁.heap H).Ns b m:=λ{b m} ⟨o,es,ep,e,d,r⟩=>⟨o,es,ep,Rq e (Tt e d),d,r⟩
  have VF:K.In (pQ s₁.heap H):=λb o e=>Rq (KX b o e) (by
   cases q:H b with
   |none=>rfl
   |some u=>
    have e':b=a:=hA b (by rw[q];simp)
    subst e'
    rw[hK (by rw[q];simp)]at e;cases e)
  have hM:Mod K mg (pQ s₁.heap H):=⟨VF,Uj Rf,⟨mb,Uj hb,Wk⟩,let ⟨mc,h1,h2⟩:=UL;⟨mc,Uj h1,h2⟩⟩
  have e0:sM P w K mg (pQ s₁.heap H) Lj [] s₁ H:=⟨rfl,hM,λb o e=>yS e,Lo (vf _ _),trivial,λb hb=>absurd (show b∈([]:List Gw)from hb) (by simp),hok, .of_eq hg⟩
  refine JR ((F _ VF (Uj Rf)).run Lj [] s₁ H ⟨[.ref a],[]⟩ [.ref a] [.ref a] _ _ hr e0 (Tz s₁ (.ref a)) (.cons rfl .nil) (S3 H hO hS)) λr s' h=> ?_
  cases r with
  |error e=>exact(UM H e s' h).elim
  |ok fl=>
   cases fl with
   |next=>exact Ie h
   |brk=>exact Ie h
   |cont=>exact Ie h
   |ret u=>
    obtain⟨v,H',os,bare,un,UO,r',q⟩:=h
    have q':v= .bl true:=q
    subst q'
    obtain rfl:u=Mh true:=r'
    refine⟨rfl,OldK.of_keep λb o e=> ?_,os,bare⟩
    cases q:H b with
    |none=>exact un.keep b o e q (by intro z;exact absurd (show b∈([]:List Gw)from z) (by simp)) (by simp)
    |some u=>
     rcases hO b with z|⟨ob,xs,z⟩
     ·rw[q]at z;cases z
     ·have z2:=un.frzs b ob _ z
      obtain⟨e1,_⟩:=hok b _ z
      obtain⟨e2,_⟩:=UO b _ z2
      rw[e]at e1;cases e1
      exact e2
 cases hk:K.lookup a with
 |some o=>
  have e:=KX a o hk
  rw[ha]at e
  cases e
  refine TB (λ_=>none) (λ_=> .inl rfl) (.inr ⟨_,vs.toArray,_,hk,rfl,rfl,rfl,by rw[GB,UN];exact hl,by simpa using rv⟩) (λb u z=>by have z':(none:Option HO)=some u:=z;cases z') (λb z=>absurd rfl z) λz=>absurd rfl z
 |none=>
  refine TB (λb=>if b=a then some (.frz {cls:= .type "list",data:= .seq vs.toArray} (.lst (ns.map V.int)))else none) (λb=> ?_) (.inl (.inr ⟨{cls:= .type "list",data:= .seq vs.toArray},if_pos rfl⟩)) (λb u z=> ?_) (λb z=> ?_) λ_=>hk
  ·by_cases hb:b=a
   ·exact .inr ⟨_,_,if_pos hb⟩
   ·exact .inl (if_neg hb)
  ·by_cases hb:b=a
   ·have z':=(if_pos hb).symm.trans z
    cases z'
    subst hb
    exact⟨ha,by rw[GA];exact hl,vs,_,rv,ha⟩
   ·have z':=(if_neg hb).symm.trans z
    cases z'
  ·by_cases hb:b=a
   ·exact hb
   ·exact absurd (if_neg hb) z
end L2
namespace L2
open PySem PySem.Spec PyProof.Rows
theorem zC {l:LP} {n k:Nat} {q:GP} {Qz:List Gv} {XP:(Gv->Option Gu)->GY->Prop} {YP:G_->GY->Prop} {d:DefRec} {K:Params->Gs} {CX:G_->sL} {sp:G_->Sp} {x:Gv}
  (hn:l.most=some n) (SE:n<=sizeLine) (Tx:d.params.defaults=[]) (hr:bY k Lj)
  (hY:∀(w:G_) (h:GY),YP w h->(K w.params).In h)
  (F:∀(w:G_) (mg:Gv->Option Gu) (fa:Gw) (h:GY),(K w.params).In h->h.Ns GG mg->mg d.name=some (.ref fa)->
   ∃fd:HX,(∀(s:Gx) (u:Gu),M6 s fd ⟨[u],[]⟩ [(x,u)])/\
    ∀base:GY,(K w.params).In base->base.Ns GG mg->dB l.prog w (K w.params) mg base (CX w) k fa fd [x] (sp w))
  (S3:∀(w:G_) (H:Hp) (a:Gw) (ns:List Int),ns.length<=n->BU H->c9 (K w.params) H a (ns.map V.int)->sp w [.ref a] H (λv _=>v= .bl true) λ_ _ _=>False)
  (UM:∀(w:G_) (H:Hp) (s:Gx) (e:Gu) (s':Gx),CX w [] H s (λ_ _ _=>False) e s'->False):
  NP q Qz XP YP l.row.toRowW d [] (λf vs=>Ny f vs):=by
 refine Att.attach_call hn Tx λw s₀ s₁ mg mb fa o pm cd P5 a vs ns G Y ho hd P2 UK SJ RP Oe hg=> ?_
 have KX:=hY w _ Y
 obtain⟨fd,hb,hF⟩:=F w mg fa _ KX G.T.g UK
 exact xg KX G.T.g G.T.b G.T.builtins G.T.nolimit hg SJ RP (Ht Oe SE) hr hF hb (λH hO hS=>S3 w H a ns Oe hO hS) λH e s'=>UM w H s₁ e s'
end L2
namespace L2
open PySem PySem.Spec PyProof.Rows
def dv (s:Hl) (j:Nat):Hl:=match s with
 | .ClassDef _ _ _ body _ _ _ _ _ _ _=>body.getD j (.Pass ⟨0,0,0,0⟩)
 |_=> .Pass ⟨0,0,0,0⟩
def cw (s:Hl):Arguments:=match s with
 | .FunctionDef _ a _ _ _ _ _ _ _ _=>a
 |_=>{posonlyargs:=[],args:=[],vararg:=none,kwonlyargs:=[],kw_defaults:=[],kwarg:=none,defaults:=[]}
def b0 (s:Hl):List Hl:=match s with
 | .FunctionDef _ _ b _ _ _ _ _ _ _=>b
 |_=>[]
def ah (s:Hl):IP:=match s with
 | .FunctionDef _ _ _ _ _ _ sc _ _ _=>sc
 |_=>{kind:= .function,names:=[],isGenerator:=false,isCoroutine:=false}
abbrev FR:sL:=λ_ _ _ _ _ _=>False
structure ux (K:Gs) (x qual:Gv) (st:Hl) (f:Gw) (fd:HX):Prop where
 ex:∃(oc:Gu) (od:Option Gw) (kV P5 pm:Gu) (an:Option Gw) (Oc ct:Gu) (Qp:Array (Option Gu)),
  fd=HJ x qual (cw st) (b0 st) (ah st) .none kV P5 pm an Oc ct/\K.lookup f=some ⟨oc,od, .func fd,Qp⟩/\J9 K Oc qual=true
 kp:HC K (.ref f)=true
section
variable {P:GP} {w:G_} {K:Gs} {mg:Gv->Option Gu} {base:GY}
theorem ux.ok {x qual:Gv} {st:Hl} {f:Gw} {fd:HX} {N ps:List Gv} {k:Nat} {sp:Sp} (F:ux K x qual st f fd) (S:aK N ps (ah st)) (len:∀vs H Q E,sp vs H Q E->vs.length=ps.length)
  (Oo:∀(Oc:Gu) (A:Hd) (outer:List Iz) (s:Gx) (H:Hp) (vs:List V) (Q:VK) (E:XK),bY k (A.deeper (IE qual (ah st) s.heap.objs.size f Oc))->sp vs H Q E->
   ∃t,oR (gg FR P w K mg base N qual (ah st) f Oc A outer s H E).nox (b0 st) t/\t {nx:=λ_ H'=>Q .non H',rt:=Q} (dc N vs) H):dB P w K mg base FR (k+1) f fd ps sp:=by
 obtain⟨oc,od,kV,P5,pm,an,Oc,ct,Qp,rfl,lk,P2⟩:=F.ex
 refine AK lk P2 S len λA outer s H vs Q E hr S3=> ?_
 obtain⟨t,h,q⟩:=Oo Oc A outer s H vs Q E hr S3
 exact⟨t,h.nox,q⟩
theorem ux.binds {x qual:Gv} {st:Hl} {f:Gw} {fd:HX} {ps:List Gv} (F:ux K x qual st f fd)
  (h:∀(kV P5 pm:Gu) (an:Option Gw) (Oc ct:Gu) (us:List Gu),us.length=ps.length->J0 (HJ x qual (cw st) (b0 st) (ah st) .none kV P5 pm an Oc ct) ⟨us,[]⟩=pure (ps.zip us)):dO K fd ps []:=by
 obtain⟨oc,od,kV,P5,pm,an,Oc,ct,Qp,rfl,lk,P2⟩:=F.ex
 exact .all (h kV P5 pm an Oc ct)
theorem jL {x qual:Gv} {st:Hl} {f:Gw} {oc:Gu} {od an:Option Gw} {Qp:Array (Option Gu)} {kV P5 pm Oc ct:Gu} (l:K.lookup f=some ⟨oc,od, .func (HJ x qual (cw st) (b0 st) (ah st) .none kV P5 pm an Oc ct),Qp⟩)
  (c:J9 K Oc qual=true) (k:HC K (.ref f)=true):ux K x qual st f (HJ x qual (cw st) (b0 st) (ah st) .none kV P5 pm an Oc ct):=⟨⟨oc,od,kV,P5,pm,an,Oc,ct,Qp,rfl,l,c⟩,k⟩
end
theorem cp {A:Hd} {k:Nat} (hr:bY k A):A.units+1<Jp:=KP (Nat.add_le_add_left (by decide:1<=64) _) hr.units
section
variable {X:Cx}
theorem pv (i:Nat) {x:Gv} {pos:Hr} (hN:X.N[i]? =some x:=by rfl) (hv:ke X.env.scope x:=by first|exact Hv rfl|exact Hh (Hv rfl)|exact Hh (Hh rfl)) (hd:(x==("__debug__":Gv))=false:=by decide)
  (P2:(x==("__classdict__":Gv))=false:=by decide):PE X (.Name x pos) (wL i):=Bc hN hv hd P2
end
def aN (H H':Hp):Prop:=∀b o,H b=some o->H' b=some o
theorem aN.refl (H:Hp):aN H H:=λ_ _ h=>h
theorem aN.trans {H H1 H2:Hp} (a:aN H H1) (b:aN H1 H2):aN H H2:=λc o h=>b c o (a c o h)
theorem aN.free {H H':Hp} (e:aN H H') {l:Gw} (h:H' l=NZ):H l=NZ:=by
 cases q:H l with
 |none=>rfl
 |some o=>
  rw[e l o q]at h
  cases h
theorem aN.seq {K:Gs} {H H':Hp} {a:Gw} {xs:List V} (e:aN H H') (h:c9 K H a xs):c9 K H' a xs:=by
 rcases h with (h|⟨o,h⟩)|h
 ·exact .inl (.inl (e _ _ h))
 ·exact .inl (.inr ⟨o,e _ _ h⟩)
 ·exact .inr h
section
variable {κ:Type} [DecidableEq κ]
end
end L2
namespace L2
open PySem PySem.Spec PyProof.Rows
def l9 (env:Iz):List (Gv×HD)->List (Gv×Gw)->List (Gv×Gw)
 |[],cs=>cs
 |(n,k)::r,cs=>l9 env r (if k= .free then (match env.cells.lookup n with|some c=>(n,c)::cs|none=>cs)else cs)
theorem nl (env:Iz):∀(names:List (Gv×HD)) (cs:List (Gv×Gw)),(∀y∈names,y.2= .free->∃c,env.cells.lookup y.1=some c)->
  (forIn names cs λ(x:Gv×HD) (r:List (Gv×Gw))=>(if (x.2==I9)=true then do
    let a<-cellOf env x.1
    pure (Kx ((x.1,a)::r))else pure (Kx r):Kj (ForInStep (List (Gv×Gw)))))=pure (l9 env names cs)
 |[],cs,_=>rfl
 |(n,k)::r,cs,h=>by
  rw[List.forIn_cons]
  by_cases hk:k= .free
  ·subst hk
   obtain⟨c,hc⟩:=h (n, .free) GO rfl
   have e:cellOf env n=pure c:=by unfold cellOf;rw[hc]
   simp only[beq_self_eq_true,if_true,e]
   unfold l9
   simp only[if_true,hc]
   exact nl env r ((n,c)::cs) λy hy=>h y (GU _ hy)
  ·have hb:(k==I9)=false:=by simpa using hk
   simp only[hb,HF,if_false]
   unfold l9
   rw[if_neg hk]
   exact nl env r cs λy hy=>h y (GU _ hy)
theorem uy {scope:IP} {env:Iz} (h:∀y∈scope.names,y.2= .free->∃c,env.cells.lookup y.1=some c):closureFor scope env=pure (l9 env scope.names []):=by
 have:=nl env scope.names [] h
 unfold closureFor
 simp only[bind_pure]
 exact this
theorem eU {env:Iz} {x:Gv} {c:Gw}:∀{names:List (Gv×HD)} {cs:List (Gv×Gw)},(∀c,cs.lookup x=some c->env.cells.lookup x=some c)->(l9 env names cs).lookup x=some c->env.cells.lookup x=some c
 |[],cs,h,e=>h c e
 |(n,k)::r,cs,h,e=>by
  unfold l9 at e
  refine eU (names:=r) (λd hd=> ?_) e
  split at hd
  ·split at hd
   ·rename_i c' hc
    rw[HS]at hd
    cases hx:x==n with
    |true=>rw[hx]at hd;have:=eq_of_beq hx;subst this;rw[hc];exact hd
    |false=>rw[hx]at hd;exact h d hd
   ·exact h d hd
  ·exact h d hd
theorem p4 {env:Iz} {x:Gv}:∀{names:List (Gv×HD)} {cs:List (Gv×Gw)},(∃c,cs.lookup x=some c)->∃c,(l9 env names cs).lookup x=some c
 |[],cs,h=>h
 |(n,k)::r,cs,h=>by
  unfold l9
  refine p4 (names:=r) ?_
  split
  ·split
   ·rename_i c' hc
    rw[HS]
    cases x==n with
    |true=>exact⟨_,rfl⟩
    |false=>exact h
   ·exact h
  ·exact h
theorem nq {env:Iz} {x:Gv}:∀{names:List (Gv×HD)} {cs:List (Gv×Gw)},(x,I9)∈names->(∃c,env.cells.lookup x=some c)->∃c,(l9 env names cs).lookup x=some c
 |(n,k)::r,cs,h,hc=>by
  unfold l9
  rcases GK.mp h with h|h
  ·cases h
   obtain⟨c,hc⟩:=hc
   refine p4 (names:=r) ?_
   rw[if_pos rfl,hc]
   exact⟨c,by simp⟩
  ·exact nq h hc
def nv (N:List Gv) (names:List (Gv×HD)) (σ:St):St:=
 names.map λx=>if x.2= .free then ((N.findIdx? (·==x.1)).bind λi=>(σ[i]?).join)else none
def cA (X:Cx) (scope:IP) (s:Gx) (H:Hp) (ex:List Gw):Cx:=
 {X with N:=scope.names.map (·.1),s₀:=s,H₀:=H,env:=compEnvC scope (l9 X.env scope.names []) s.heap.objs.size X.env,outer:=X.stack,ex:=ex,fn:=λ_=>false,pn:=[],xe:=λ_ _=>False}
structure aT (X:Cx) (scope:IP):Prop where
 kind:scope.kind= .function
 nocell:∀y∈scope.names,y.2≠ .cell
 loc:∀y∈scope.names,y.2= .local->scope.names.lookup y.1=some .local
 free:∀y∈scope.names,y.2= .free->X.env.kindOf y.1=some .cell\/X.env.kindOf y.1=some .free
 nd:(scope.names.map (·.1)).Nodup
theorem dQ {env:Iz} {x:Gv}:∀{names:List (Gv×HD)} {k:HD},
  (names.map λ(n,k)=>if (k==I9&&env.scope.kind== .function&&env.kindOf n==some .cell)then (n,Mz)else (n,k)).lookup x=some k->
  names.lookup x=some k\/(names.lookup x=some .free/\k= .cell)
 |[],k,h=>by simp at h
 |(n,j)::r,k,h=>by
  have ih:= @dQ env x r k
  rw[GL,HS]at h
  rw[HS]
  by_cases hc:(j==I9&&env.scope.kind== .function&&env.kindOf n==some .cell)=true
  ·rw[if_pos hc]at h
   have hj:j= .free:=by
    simp only[HZ]at hc
    exact eq_of_beq hc.1.1
   cases hx:x==n with
   |true=>rw[hx]at h;simp at h;exact .inr ⟨by rw[hj],h.symm⟩
   |false=>rw[hx]at h;exact ih h
  ·rw[if_neg hc]at h
   cases hx:x==n with
   |true=>rw[hx]at h;exact .inl h
   |false=>rw[hx]at h;exact ih h
theorem eV {α β:Type} [BEq α] [LawfulBEq α] {x:α} {b:β}:∀{l:List (α×β)},l.lookup x=some b->(x,b)∈l
 |[],h=>by simp at h
 |(a,c)::r,h=>by
  rw[HS]at h
  cases hx:x==a with
  |true=>rw[hx]at h;have:=eq_of_beq hx;subst this;cases h;exact GO
  |false=>rw[hx]at h;exact GU _ (eV h)
section
variable {X:Cx} {O0:List (Gw×Hi)} {σ:St} {H:Hp} {s:Gx} {scope:IP}
theorem aT.cellOf (S:aT X scope) (ok:X.Ok):∀y∈scope.names,y.2= .free->∃c,X.env.cells.lookup y.1=some c:=λy hy hf=>ok.has y.1 (S.free y hy hf)
theorem uz (S:aT X scope) (I:aB X O0 σ H s) {fp:List Gw} (QU:∀b∈fp,kh X O0 H b/\b<s.heap.objs.size):(cA X scope s H fp).Ok where
 mod:=I.mod
 kind:=S.kind
 glob:=I.ok.glob
 blt:=I.ok.blt
 above:=GZ _
 inj:=λx y c hx hy=>I.ok.inj x y c (eU (by intro c h;simp at h) hx) (eU (by intro c h;simp at h) hy)
 has:=λx hx=>by
  have hm:(x,I9)∈scope.names:=by
   rcases hx with hx|hx
   ·rcases dQ hx with h|⟨h,_⟩
    ·exact absurd rfl (S.nocell _ (eV h))
    ·exact eV h
   ·rcases dQ hx with h|⟨h,_⟩<;>exact eV h
  exact nq hm (S.cellOf I.ok _ hm rfl)
 cab:=λx c h=>by cases h
 hd:=I.ok.hd
 frames:=I.ok.frames
 stk:= .inl rfl
 exf:=λb hb=>⟨Hj (QU b hb).2,λx c hx=>(QU b hb).1.2.2.2.2.1 x c (eU (by intro c h;simp at h) hx)⟩
 bs:=I.bs
 bsz:=Ht I.ok.bsz I.sz
 noex:=λb o e hb=>by
  rcases(QU b hb).1.2.2.2.1 with h|h
  ·exact I.ok.noex b o e h
  ·have h1:b<X.base.objs.size:=GR e
   exact H_ _ (Hf h1 (Ht I.ok.bsz h))
 exfs:=λb hb hc=>by
  have:=I.stkSub b hc
  rcases GK.mp this with h|h
  ·exact(QU b hb).1.2.1 h
  ·exact(QU b hb).1.2.2.1 h
 funs:=I.stack
 frf:=I.stkFree
theorem BV (S:aT X scope) (I:aB X O0 σ H s) {fp:List Gw} (QU:∀b∈fp,kh X O0 H b/\b<s.heap.objs.size) {h':GY} {t':Nat}
  (hn:h'.Ns s.heap.objs.size λ_=>none) (k:∀b o,s.heap.get? b=some o->h'.get? b=some o):
  aB (cA X scope s H fp) [] (nv X.N scope.names σ) H {s with heap:=h',toks:=t'}where
 ok:=uz S I QU
 os:=rfl
 bare:=I.bare
 base:=Un.kept k
 loc:=by
  refine⟨_,hn,λi x v hi hv _=> ?_⟩
  have QV:(scope.names.map (·.1))[i]? =some x:=hi
  rw[Hg]at QV
  unfold nv at hv
  rw[Hg]at hv
  cases e:scope.names[i]? with
  |none=>rw[e]at QV;cases QV
  |some y=>
   rw[e]at QV hv
   have hx:y.1=x:=by simpa using QV
   have hy:y∈scope.names:=Im e
   simp only[IG,Lb]at hv
   by_cases hf:y.2= .free
   ·rw[if_pos hf]at hv
    cases ei:X.N.findIdx? (·==y.1)with
    |none=>rw[ei]at hv;cases hv
    |some j=>
     rw[ei]at hv
     have hj:σ[j]? =some (some v):=by
      cases e2:σ[j]? with
      |none=>simp[e2]at hv
      |some o=>simp only[Lu,e2,Option.join_some]at hv;rw[hv]
     obtain⟨hl,hp,_⟩:=List.findIdx?_eq_some_iff_getElem.mp ei
     have hN:X.N[j]? =some x:=by
      rw[Hm hl]
      have:=eq_of_beq hp
      rw[this,hx]
     have hk:=S.free y hy hf
     rw[hx]at hk
     obtain⟨m,_,hm⟩:=I.loc
     obtain⟨u,ru,lu⟩:=hm j x v hN hj (by
      rcases hk with q|q
      ·exact .inr (.inl q)
      ·exact .inr (.inr q))
     refine⟨u,ru,?_⟩
     rcases lu with ⟨q,_⟩|⟨_,c,hc,Ro⟩
     ·rcases hk with z|z<;>rw[z]at q<;>cases q
     ·have RQ:(x,I9)∈scope.names:=by
       have:y=(x,I9):=by cases y;simp at hx hf;rw[hx,hf]
       rw[<-this];exact hy
      obtain⟨d,hd⟩:=nq (cs:=[]) RQ (S.cellOf I.ok _ RQ rfl)
      have Wl:d=c:=by
       have:=eU (cs:=[]) (by intro c h;simp at h) hd
       rw[this]at hc
       exact HG hc
      refine .inr ⟨?_,d,hd,?_⟩
      ·show (N3 scope X.env).names.lookup x=some .cell\/(N3 scope X.env).names.lookup x=some .free
       have Wm:∃k,(N3 scope X.env).names.lookup x=some k:=by
        unfold N3
        cases el:(scope.names.map λ(n,k)=>if (k==I9&&X.env.scope.kind== .function&&X.env.kindOf n==some .cell)then (n,Mz)else (n,k)).lookup x with
        |some k=>exact⟨k,rfl⟩
        |none=>
         exfalso
         rw[List.lookup_eq_none_iff]at el
         have:=el (if (I9==I9&&X.env.scope.kind== .function&&X.env.kindOf x==some .cell)then (x,Mz)else (x,I9)) (IH.mpr ⟨_,RQ,rfl⟩)
         split at this<;>simp at this
       obtain⟨k,SK⟩:=Wm
       rcases dQ SK with h|⟨_,h⟩
       ·have UP:=eV h
        have:k= .free:=by
         have nd:=S.nd
         obtain⟨a,ha,e1⟩:=Mq.mp RQ
         obtain⟨b,hb,e2⟩:=Mq.mp UP
         have:a=b:=by
          refine(Lm (h₀:=by simpa using ha) (h₁:=by simpa using hb) nd).mp ?_
          rw[Nh,Nh,e1,e2]
         subst this
         rw[e1]at e2
         cases e2;rfl
        subst this
        exact .inr SK
       ·subst h;exact .inl SK
      ·rw[Wl];exact Ro.keeps k
   ·rw[if_neg hf]at hv;cases hv
 cell:=λx c hx=>by
  obtain⟨v,hv⟩:=I.cell x c (eU (cs:=[]) (by intro c h;simp at h) hx)
  exact⟨v,hv.keeps k⟩
 free:=I.hok.fresh (GZ _)
 freeC:=λx c hx=>I.freeC x c (eU (cs:=[]) (by intro c h;simp at h) hx)
 pin:=λp hp=>by cases hp
 hok:=I.hok.kept k
 len:=by simp[cA,nv]
theorem uA (I:aB X O0 σ H s) {fp:List Gw} (QU:∀b∈fp,kh X O0 H b/\b<s.heap.objs.size) {τ:St} {H':Hp} {s':Gx} (I':aB (cA X scope s H fp) [] τ H' s') {h':GY} {t':Nat}
  (hs:∀b o,b≠s.heap.objs.size->s'.heap.get? b=some o->h'.get? b=some o):aB X O0 σ H' {s' with heap:=h',toks:=t'}:=by
 have u:Un (mK X.stack) fp H H' s.heap s'.heap:=I'.base
 have hC:H' s.heap.objs.size=none:=I'.free
 have nC:∀b o,s.heap.get? b=some o->b≠s.heap.objs.size:=λb o e=>Hj (GR e)
 refine I.call' (ch:=fp) I'.os ⟨?_,?_,u.free,?_,u.tups,u.frzs,u.tbls⟩ (λb o e=> ?_) I'.bare λb hb=> ?_
 ·exact λb o e n a c=>hs b o (nC b o e) (u.keep b o e n a c)
 ·intro b o e n a c
  obtain⟨sl,q⟩:=u.slot b o e n a c
  exact⟨sl,hs b _ (nC b o e) q⟩
 ·intro b o e a
  obtain⟨o',q⟩:=u.there b o e a
  exact⟨o',hs b _ (nC b o e) q⟩
 ·refine(I'.hok b o e).stay (λc v hc q=>hs c v ?_ q) (λ_ q=>q) λ_ _ q=>q
  intro z
  subst z
  rcases hc with z|z
  ·rw[z]at hC;rw[hC]at e;cases e
  ·rw[hC]at z;cases z
 ·obtain⟨h1,h2,h3,h4,h5,h6⟩:=(QU b hb).1
  exact⟨h4,h2,h5,h6⟩
end
def AQ (X:Cx) (PZ:List GD) (t:TT):Prop:=
 ∀(O0:List (Gw×Hi)) (s:Gx) (σ:St) (H:Hp) (Q:Bool->Hp->Prop),aB X O0 σ H s->t σ H Q->
  GI (GN X.prog X.w) X.A (forIn PZ true λc r=>if r=true then do let ok<-Nt c X.env (GW c X.env);pure (Kx ok)else pure (Kx r)) (TP X O0 σ Q) X.xe s
theorem zD {X:Cx}:AQ X [] (λ_ H Q=>Q true H):=λ_ _ _ H _ I h=>wpAny_tests_nil ⟨H,I,h⟩
theorem zE {X:Cx} {c:GD} {t:TT} (h:PT X c t):AQ X [c] t:=λO0 s σ H Q I q=>wpAny_tests_one (h O0 s σ H Q I q)
def nz (J:It) (g:TG) (tt:TT) (te:TE) (D:Gw) (τ0:St) (Q:Hp->Prop) (H1:Hp):Prop:=
 ∃W:Nat->Nat->List V->St->Hp->Prop,(∃m,W 0 m [] τ0 H1)/\∀i m ys τ H,W i m ys τ H->H D=some (.lst ys)/\
  ((J.stop i H/\Q H)\/(J.go i H/\ys.length<sizeLine/\∀x H',J.yld i H x H'->g x τ H' λτ2 H2=>tt τ2 H2 λb H3=>
   if b=true then te τ2 H3 λy H4=>H4 D=some (.lst ys)/\∃m',m'<m/\W (i+1) m' (ys++[y]) τ2 (b9 H4 D (.lst (ys++[y])))else ∃m',m'<m/\W (i+1) m' ys τ2 H3))
def DP (N:List Gv) (names:List (Gv×HD)) (wi:TI) (g:TG) (tt:TT) (te:TE):TE:=λσ H Q=>
 wi σ H λJ H1=>∀D,H1 D=none->nz J g tt te D (nv N names σ) (λH2=>Q (.ref D) H2) (b9 H1 D (.lst []))
section
variable {X:Cx} {Q6 tg Oj:GD} {PZ:List GD} {scope:IP} {pos:Hr} {wi:TI} {g:TG} {tt:TT} {te:TE}
theorem zF (S:aT X scope) (hc:X.calm=true) (hg:∀s H ex,PG (cA X scope s H ex) tg g) (Rw:∀s H ex,AQ (cA X scope s H ex) PZ tt) (Rr:∀s H ex,PE (cA X scope s H ex) Q6 te)
  {O0:List (Gw×Hi)} {σ:St} {H:Hp} {s:Gx} (I:aB X O0 σ H s) {fp:List Gw} {it D:Gw} {tn:Nat->GY->Prop} {J:It} (T:vh X.prog X.w X.K tg J fp it tn)
  (QU:∀b∈fp,kh X O0 H b/\b<s.heap.objs.size) {Q:Hp->Prop} {R:MO->Gx->Prop}
  (hR:∀τ H' s',aB (cA X scope s H fp) [] τ H' s'->Q H'->R (.ok .next) s')
  {s1:Gx} {τ0:St} (I1:aB (cA X scope s H fp) [] τ0 H s1) (ht:tn 0 s1.heap) (q:nz J g tt te D τ0 Q H):
  K0 (GN X.prog X.w) X.A (.compLoop (.ListComp Q6 [⟨tg,Oj,PZ,0⟩] scope pos) 0 (.ref it) (.ref D) (cA X scope s H fp).env) R s1:=by
 obtain⟨W,⟨m0,w0⟩,Sz⟩:=q
 have Rc:∀{H':Hp},(∀b∈fp,H' b=none)->∀b∈fp,kh (cA X scope s H fp) [] H' b:=λ{H'} hn b hb=>
  ⟨hn b hb,Hj (QU b hb).2,(uz S I QU).exfs b hb, .inl hb,λx c hx=>(QU b hb).1.2.2.2.2.1 x c (eU (cs:=[]) (by intro c h;simp at h) hx),λp hp=>by cases hp⟩
 refine codeAny_loop rfl (λn s'=>∃i ys τ H',aB (cA X scope s H fp) [] τ H' s'/\tn i s'.heap/\(∀b∈fp,H' b=none)/\W i n ys τ H') (λn s2 hI=> ?_) m0 ⟨0,[],τ0,H,I1,ht,λb hb=>(QU b hb).1.1,w0⟩
 obtain⟨i,ys,τ,H2,I2,S2,VG,w2⟩:=hI
 show GI _ X.A ((compTurn (.ListComp Q6 [⟨tg,Oj,PZ,0⟩] scope pos) 0 (.ref it) (.ref D) (cA X scope s H fp).env).onRaise (λx=>do MX x (cA X scope s H fp).env;theTreesLotGoes x)) _ _ s2
 refine wpAny_noted ?_
 rw[compTurn_list]
 have up:∀{α:Type} {t:Kj α} {Q:α->Gx->Prop} {E:Gu->Gx->Prop} {s:Gx},GI (GN X.prog X.w) X.A t Q (λ_ _=>False) s->GI (GN X.prog X.w) X.A t Q E s:=λh=>IC h (λ_ _ q=>q) λ_ _ f=>f.elim
 obtain⟨hD,Wn⟩:=Sz i n ys τ H2 w2
 rcases Wn with ⟨stop,qn⟩|⟨go,hz,step⟩
 ·refine Gz (Ke (Gz (up (bW (T.done (cA X scope s H fp) rfl rfl rfl hc i [] s2 τ H2 (λ_ _=>False) I2 (Rc VG) S2 stop) λr s3 z_=> ?_))))
  obtain⟨hr,I3⟩:=z_
  subst hr
  exact GH (hR _ _ _ I3 qn)
 ·refine Gz (Ke (Gz (up (bW (T.item (cA X scope s H fp) rfl rfl rfl hc i [] s2 τ H2 (λ_ _=>False) I2 (Rc VG) S2 go) λr s3 z_=> ?_))))
  obtain⟨u,hr,h3⟩:=z_
  subst hr
  refine Gz (up (bW h3 λ_ s4 z_=> ?_))
  obtain⟨x,H4,I4,r4,y4,UQ,Wo⟩:=z_
  have Wq:=I4.pinned (Rc Wo) (T.obj _ _ UQ)
  have back:∀{τ7:St} {H7:Hp} {s7:Gx},aB (cA X scope s H fp) ([]++n0 fp s4.heap) τ7 H7 s7->aB (cA X scope s H fp) [] τ7 H7 s7/\tn (i+1) s7.heap/\∀b∈fp,H7 b=none:=λI7=>
   ⟨I7.unpinned,T.keep _ _ _ UQ λb hb o e=>(I7.pin (b,o) (Hk _ (Hk _ (i0 hb e)))).1,λb hb=>by
    obtain⟨o,e,d⟩:=T.obj _ _ UQ b hb
    exact(I7.pin (b,o) (Hk _ (Hk _ (i0 hb e)))).2.1⟩
  refine Gz (up (bW (hg s H fp _ s4 τ H4 x u _ Wq r4 (step x H4 y4)) λ_ s5 z_=> ?_))
  obtain⟨τ5,H5,I5,q5⟩:=z_
  refine Gz (up (bW (Rw s H fp _ s5 τ5 H5 _ I5 q5) λok s6 z_=> ?_))
  obtain⟨H6,I6,q6⟩:=z_
  cases ok with
  |false=>
   obtain⟨m',hm,w'⟩:=q6
   obtain⟨a,b,c⟩:=back I6
   exact GH ⟨rfl,m',hm,i+1,ys,τ5,H6,a,b,c,w'⟩
  |true=>
   rw[if_pos rfl]at q6
   refine Gz (Gz (up (bW (Rr s H fp _ s6 τ5 H6 _ I6 q6) λv s7 z_=> ?_)))
   obtain⟨y,H7,I7,r7,Ws,m',hm,w'⟩:=z_
   refine Gz (up (bW (jg (X:=cA X scope s H fp) _ s7 τ5 H7 (.ref D) [y] (.ref D) [v] (λ_ H8=>H8=b9 H7 D (.lst (ys++[y]))) I7 rfl (.cons r7 .nil) ⟨D,ys,y,rfl,rfl,Ws,hz,rfl⟩) λ_ s8 z_=> ?_))
   obtain⟨_,H8,I8,_,e8⟩:=z_
   subst e8
   obtain⟨a,b,c⟩:=back I8
   exact GH (GH ⟨rfl,m',hm,i+1,ys++[y],τ5,_,a,b,c,w'⟩)
theorem rb (S:aT X scope) (hc:X.calm=true) (hg:∀s H ex,PG (cA X scope s H ex) tg g) (Rw:∀s H ex,AQ (cA X scope s H ex) PZ tt) (Rr:∀s H ex,PE (cA X scope s H ex) Q6 te)
  {O0:List (Gw×Hi)} {σ:St} {H:Hp} {s:Gx} {E:Gu->Gx->Prop} (I:aB X O0 σ H s) {fp:List Gw} {it:Gw} {tn:Nat->GY->Prop} {J:It} (T:vh X.prog X.w X.K tg J fp it tn)
  (QU:∀b∈fp,kh X O0 H b) (ht:tn 0 s.heap) {Q:Gw->Hp->Prop} {RR:Gu->Gw->MO->Gx->Prop}
  (hR:∀(D:Gw) (H3:Hp) (s3:Gx) (τ:St) (H':Hp) (s':Gx),aB X O0 σ H3 s3->(∀b∈fp,kh X O0 H3 b/\b<s3.heap.objs.size)->aB (cA X scope s3 H3 fp) [] τ H' s'->Q D H'->RR (.ref D) s3.heap.objs.size (.ok .next) s')
  (q:∀D,H D=none->nz J g tt te D (nv X.N scope.names σ) (Q D) (b9 H D (.lst []))):
  GI (GN X.prog X.w) X.A (newList []) (λOW s₃=>GI (GN X.prog X.w) X.A (newFunctionEnv scope X.env.globals (l9 X.env scope.names []) [] X.env.qual none .none (some X.env)) (λTC s₄=>
   K0 (GN X.prog X.w) X.A (.compStart (.ListComp Q6 [⟨tg,Oj,PZ,0⟩] scope pos) 0 (.ref it) OW {TC with scope:=N3 scope X.env}) (RR OW TC.locals) s₄) E s₃) E s:=by
 have Qa:∀b∈fp,b<s.heap.objs.size:=λb hb=>by
  obtain⟨o,e,_⟩:=T.obj _ _ ht b hb
  exact GR e
 refine L0 ?_
 have I3:=I.lnew (ys:=[]) (its:=[]) (t':=s.toks) .nil (Il _)
 have hD:H s.heap.objs.size=none:=I.hok.fresh (GZ _)
 have UR:(s.heap.push {cls:= .type "list",data:= .seq ([]:List Gu).toArray}).objs.size=s.heap.objs.size+1:=IU ..
 have SM:∀b∈fp,kh X O0 (b9 H s.heap.objs.size (.lst [])) b/\b<({s with heap:=s.heap.push {cls:= .type "list",data:= .seq ([]:List Gu).toArray},toks:=s.toks}:Gx).heap.objs.size:=λb hb=>by
  refine⟨⟨?_,(QU b hb).2⟩,?_⟩
  ·rw[ao (Hj (Qa b hb))];exact(QU b hb).1
  ·show b<(s.heap.push _).objs.size
   rw[UR]
   exact IL (Qa b hb)
 refine wpAny_newFunctionEnv S.nocell (by intro y hy;simp at hy) (λh₁ TF TH=> ?_) S.kind
 dsimp only at TF TH ⊢
 have k1:∀b o,(s.heap.push {cls:= .type "list",data:= .seq ([]:List Gu).toArray}).get? b=some o->h₁.get? b=some o:=λb o e=>TH.extBut b o (Hj (GR e)) (GF _ e)
 have I4:=BV (t':=s.toks) S I3 SM (h':=h₁) TF k1
 have VH:tn 0 h₁:=T.keep _ _ _ ht λb hb o e=>k1 b o (GF _ e)
 have TJ:K0 (GN X.prog X.w) X.A (.compLoop (.ListComp Q6 [⟨tg,Oj,PZ,0⟩] scope pos) 0 (.ref it) (.ref s.heap.objs.size) (cA X scope {s with heap:=s.heap.push {cls:= .type "list",data:= .seq ([]:List Gu).toArray},toks:=s.toks} (b9 H s.heap.objs.size (.lst [])) fp).env)
   (RR (.ref s.heap.objs.size) (s.heap.push {cls:= .type "list",data:= .seq ([]:List Gu).toArray}).objs.size) {s with heap:=h₁,toks:=s.toks}:=
  zF S hc hg Rw Rr I3 T SM (λτ H' s' I' q'=>hR _ _ _ τ H' s' I3 SM I' q') I4 VH (q _ hD)
 exact codeAny_compStart_list TJ (T.self _ 0 _ _ _ VH TJ)
theorem uB (S:aT X scope) (hc:X.calm=true) (hi:PI X tg Oj wi) (hg:∀s H ex,PG (cA X scope s H ex) tg g) (Rw:∀s H ex,AQ (cA X scope s H ex) PZ tt) (Rr:∀s H ex,PE (cA X scope s H ex) Q6 te)
  (hs:∀x,IK Oj X.env x=pure x:=by intro _;rfl):PE X (.ListComp Q6 [⟨tg,Oj,PZ,0⟩] scope pos) (DP X.N scope.names wi g tt te):=by
 intro O0 s σ H Q I h
 rw[eval_ListComp]
 refine Lv (use:=none) rfl hs (uy (S.cellOf I.ok)) S.kind S.loc (bW (hi O0 s σ H _ I h) λv s1 h1=>bW h1 λUg s2 h2=> ?_)
 obtain⟨it,fp,tn,J,H2,e,I2,T,S2,f2,q⟩:=h2
 subst e
 refine rb (Q:=λD H2=>Q (.ref D) H2) (RR:=λOW C=>compPost (GN X.prog X.w) X.A X.xe none (EP X O0 σ Q) OW C) S hc hg Rw Rr I2 T f2 S2 ?_ q
 intro D H3 s3 τ H' s' I3 f3 I' q'
 obtain⟨m,hm,_⟩:=I'.loc
 refine⟨m,hm,λh' OB=> ?_⟩
 exact⟨.ref D,H',uA (t':=s'.toks) I3 f3 I' λb o hb e=>OB.extBut b o hb e,rfl,q'⟩
def DQ (N:List Gv) (names:List (Gv×HD)) (wi:TI) (g:TG) (tt:TT) (te:TE) (gy:TG):TS:=λD σ H=>
 wi σ H λJ H1=>∀p,H1 p=none->nz J g tt te p (nv N names σ) (λH2=>gy (.ref p) σ H2 D.nx) (b9 H1 p (.lst []))
theorem zG {y:Gv} {py Qf:Hr} {gy:TG} (S:aT X scope) (hc:X.calm=true) (hi:PI X tg Oj wi) (hg:∀s H ex,PG (cA X scope s H ex) tg g) (Rw:∀s H ex,AQ (cA X scope s H ex) PZ tt)
  (Rr:∀s H ex,PE (cA X scope s H ex) Q6 te) (hy:PG X (.Name y py) gy) (Qr:HA (.ListComp Q6 [⟨tg,Oj,PZ,0⟩] scope pos) (some (.Name y py)) Qf.line X.env=pure true:=by rfl)
  (hs:∀x,IK Oj X.env x=pure x:=by intro _;rfl):PS X (.Assign [.Name y py] (.ListComp Q6 [⟨tg,Oj,PZ,0⟩] scope pos) Qf) (DQ X.N scope.names wi g tt te gy):=by
 intro O0 s σ H D I h
 rw[exec_Assign_Name_used _ _ _ _ Qr]
 refine Gz (Ke (Gz ?_))
 show GI _ X.A (do let _<-comprehension (.ListComp Q6 [⟨tg,Oj,PZ,0⟩] scope pos) scope X.env _ (newList []) false (GW Oj X.env) (some (Kb (.Name y py) X.env))) _ _ s
 refine Gz (IC (Lv (use:=some (Kb (.Name y py) X.env)) (Q:=λ_ s'=>SP X O0 D .next s') rfl hs (uy (S.cellOf I.ok)) S.kind S.loc
  (bW (hi O0 s σ H _ I h) λv s1 h1=>bW h1 λUg s2 h2=> ?_)) (λ_ s' hq=>GH (GH hq)) λ_ _ e=>e)
 obtain⟨it,fp,tn,J,H2,e,I2,T,S2,f2,q⟩:=h2
 subst e
 refine rb (Q:=λp H2=>gy (.ref p) σ H2 D.nx) (RR:=λOW C=>compPost (GN X.prog X.w) X.A X.xe (some (Kb (.Name y py) X.env)) (λ_ s'=>SP X O0 D .next s') OW C) S hc hg Rw Rr I2 T f2 S2 ?_ q
 intro p H3 s3 τ H' s' I3 f3 I' q'
 obtain⟨m,hm,_⟩:=I'.loc
 obtain⟨oC,es,ep,Wt,VI,Wu,Wv⟩:=hm
 have J1:aB X O0 σ H' s':=uA (t':=s'.toks) (h':=s'.heap) I3 f3 I' λb o _ e=>e
 have Ww:H' s3.heap.objs.size=none:=I'.free
 have VJ:s3.heap.objs.size≠X.env.locals:=λz=>by have:=I3.lt;rw[<-z]at this;exact H_ _ this
 have J2:aB X (O0++[(s3.heap.objs.size,oC)]) σ H' s':=J1.pins_of λq hq=>by
  rcases HP.mp hq with hq|hq
  ·exact J1.pin q (Hk _ hq)
  ·have e:q=(s3.heap.objs.size,oC):=by simpa using hq
   subst e
   exact⟨Wt,Ww,VJ,I3.nofs (GZ _),λv z=>by rw[VI]at z;cases z⟩
 refine bW (hy _ s' σ H' (.ref p) (.ref p) D.nx J2 rfl q') λ_ Tr z_=> ?_
 obtain⟨σ5,H5,I5,q5⟩:=z_
 have hp:=I5.pin (s3.heap.objs.size,oC) (Hk _ (Hk _ GO))
 refine⟨m,⟨oC,es,ep,hp.1,VI,Wu,Wv⟩,λh' OB=> ?_⟩
 refine⟨σ5,H5,(I5.unpinned).turned (it:=s3.heap.objs.size) (t':=Tr.toks) (λb o hb e=>OB.extBut b o hb e) hp.2.1 VJ (.inr I3.sz) (λx c hx z=> ?_) (λq hq z=> ?_),q5⟩
 ·obtain⟨v,o,ho,_⟩:=I3.cell x c hx
  have:=GR ho
  rw[z]at this
  exact H_ _ this
 ·have:=(I3.pin q hq).1
  have:=GR this
  rw[z]at this
  exact H_ _ this
end
end L2
namespace L2
open PySem PySem.Spec PyProof.Rows
section
variable {X:Cx} {e a b st:GD} {te ta tb:TE} {Y2:TO} {pos p2 p:Hr}
def Fp (K:Gs):List V->Hp->VK->Prop:=λxs H Q=>∃x T t k,xs=[x, .ty T]/\ki K H x t/\HN K t (.type T)=some k/\Q (.bl k) H
theorem xh:c7 X (.builtin "isinstance") (Fp X.K):=by
 intro O0 s σ H xs us Q I rv h
 obtain⟨x,T,t,k,rfl,ty,e,q⟩:=h
 obtain⟨u,w',rfl,ru,QS⟩:=um rv
 cases QS
 exact vq I ru ty e λtk=>⟨.bl k,H,I.tok tk,rfl,q⟩
theorem nA:Ho "isinstance"=some (.builtin "isinstance"):=by decide+kernel
def sV (x:Int):List Int->List Int
 |[]=>[x]
 |y::r=>if x<=y then x::y::r else y::sV x r
def de:List Int->List Int
 |[]=>[]
 |x::r=>sV x (de r)
theorem la (x:Int):∀l:List Int,(sV x l).Perm (x::l)
 |[]=>Jt _
 |y::r=>by
  unfold sV
  split
  ·exact Jt _
  ·exact(NJ y (la x r)).trans (List.Perm.swap x y r)
theorem i4:∀l:List Int,(de l).Perm l
 |[]=>Jt _
 |x::r=>(la x _).trans (NJ x (i4 r))
theorem lV (x:Int):∀{l:List Int},l.Pairwise (·<=·)->(sV x l).Pairwise (·<=·)
 |[],_=>by simp[sV]
 |y::r,h=>by
  obtain⟨h1,h2⟩:=HR.mp h
  unfold sV
  split
  ·rename_i US
   refine HR.mpr ⟨λz hz=> ?_,h⟩
   rcases GK.mp hz with rfl|hz
   ·exact US
   ·exact Int.le_trans US (h1 z hz)
  ·rename_i US
   refine HR.mpr ⟨λz hz=> ?_,lV x h2⟩
   rcases GK.mp ((la x r).mem_iff.mp hz)with rfl|hz
   ·omega
   ·exact h1 z hz
theorem i5:∀l:List Int,(de l).Pairwise (·<=·)
 |[]=>La
 |x::r=>lV x (i5 r)
theorem gE:∀{a b:List Int},a.Perm b->a.Pairwise (·<=·)->b.Pairwise (·<=·)->a=b
 |[],b,p,_,_=>(List.nil_perm.mp p).symm
 |x::a,[],p,_,_=>(List.perm_nil.mp p)
 |x::a,y::b,p,h1,h2=>by
  obtain⟨a1,a2⟩:=HR.mp h1
  obtain⟨b1,b2⟩:=HR.mp h2
  have e:x=y:=by
   have hx:x∈y::b:=p.mem_iff.mp GO
   have hy:y∈x::a:=p.mem_iff.mpr GO
   rcases GK.mp hx with h|h
   ·exact h
   ·rcases GK.mp hy with h'|h'
    ·exact h'.symm
    ·exact Int.le_antisymm (a1 y h') (b1 x h)
  subst e
  rw[gE ((List.perm_cons x).mp p) a2 b2]
theorem pY:c7 X (.builtin "sorted") (λxs H Q=>∃p ns,xs=[.ref p]/\c9 X.K H p (ns.map V.int)/\ns.length<64/\∀l,H l=none->Q (.ref l) (b9 H l (.lst ((de ns).map V.int)))):=by
 intro O0 s σ H xs us Q I rv h
 obtain⟨p,ns,rfl,hx,hl,q⟩:=h
 obtain⟨u,rfl,ru⟩:=gO rv
 cases ru
 obtain⟨its,r,ht,hz⟩:=I.list hx
 have hi:=jK r
 have Oe:=r.length
 rw[GA]at Oe
 refine sorted_ints ht.isList hi (by omega) λout UT a1 a2 a3=> ?_
 obtain⟨e,he⟩:=sortedAll_at s.heap its out
 have en:UT=de ns:=gE (a2.trans (i4 ns).symm) a3 (i5 ns)
 subst en
 have k:∀b o,s.heap.get? b=some o->(sortedAll s.heap its out).get? b=some o:=λb o e=>sortedAll_old e
 refine⟨.ref (s.heap.objs.size+1),_,I.laid (t':=s.toks) (o:= .lst ((de ns).map V.int)) k (LR _) ?_,rfl,q _ (I.hok.fresh (LR _))⟩
 refine⟨?_,out.toList,e,jh a1,by simpa[seqObj]using he⟩
 have h1:=a2.length_eq
 rw[GA]at hz ⊢
 omega
end
end L2
namespace L2
open PySem PySem.Spec PyProof.Rows
section
variable {P:GP} {w:G_} {H:Hp} {h h':GY} {a:Gw} {o:HO}
theorem bp.got (x:bp P w H h a o):∃u,h.get? a=some u:=by
 cases o with
 |lst xs=>obtain⟨_,_,_,_,e⟩:=x;exact⟨_,e⟩
 |tup xs=>obtain⟨_,_,_,p⟩:=x;obtain⟨o,e,_⟩:=p;exact⟨_,e⟩
 |dK kvs=>obtain⟨_,_,_,_,o,_,_,e,_⟩:=x;exact⟨_,e⟩
 |dT kvs=>obtain⟨_,_,_,_,o,_,_,e,_⟩:=x;exact⟨_,e⟩
 |set S n=>obtain⟨o,_,_,_,e,_⟩:=x;exact⟨_,e⟩
 |ins C dx fs=>obtain⟨_,_,_,e,_⟩:=x;exact⟨_,e⟩
 |own y=>obtain⟨_,e⟩:=x;exact⟨_,e⟩
 |xd fs=>obtain⟨_,⟨_,_,_,e,_⟩,_⟩:=x;exact⟨_,e⟩
 |rng lo hi=>obtain⟨_,_,_,e⟩:=x;exact⟨_,e⟩
 |frz ob u=>obtain⟨e,_⟩:=x;exact⟨_,e⟩
 |tbl ps=>exact⟨_,x⟩
 |met f y=>exact⟨_,x⟩
 |ext φ=>obtain⟨_,e,_⟩:=x;exact e
theorem iK.nowhere (x:iK P w H h) (hn:h.get? a=none):H a=none:=by
 cases e:H a with
 |none=>rfl
 |some o=>obtain⟨u,q⟩:=(x a o e).got;rw[hn]at q;cases q
end
section
variable {X:Cx} {O0:List (Gw×Hi)} {σ:List (Option V)} {H:Hp} {s:Gx} {h':GY}
theorem aB.laidAt {a:Gw} {o:HO} {t':Nat} (I:aB X O0 σ H s) (k:∀b u,s.heap.get? b=some u->h'.get? b=some u) (hn:s.heap.get? a=none) (new:bp X.prog X.w (b9 H a o) h' a o):
  aB X O0 σ (b9 H a o) {s with heap:=h',toks:=t'}:=by
 have hH:=I.hok.nowhere hn
 have Py:∀b u,s.heap.get? b=some u->b≠a:=λb u q z=>by rw[z,hn]at q;cases q
 refine I.un ⟨λb u q _ _ _=>k b u q,λb u q _ _ _=>⟨u.slots,k b u q⟩,λb u q n _=>by rw[ao (Py b u q)];exact n,λb u q _=>⟨u,k b u q⟩,λb xs q=>by rw[ao (c6 q hH)];exact q,
  λb u xs q=>by rw[ao (c6 q hH)];exact q,λb ps q=>⟨#[],by rw[ao (c6 q hH),q];simp⟩⟩ λb u e=> ?_
 by_cases hb:b=a
 ·subst hb;rw[au]at e;cases e;exact new
 ·rw[ao hb]at e
  exact(I.hok b u e).stay (λc v _ q=>k c v q) (λc q=>by rw[ao (c6 q hH)];exact q) λc xs q=>by rw[ao (c6 q hH)];exact q
end
section
variable {X:Cx}
theorem pZ:c7 X (.type "range") (λxs H Q=>∃i j,xs=[.int i, .int j]/\∀p,H p=none->Q (.ref p) (b9 H p (.rng i j))):=by
 intro O0 s σ H xs us Q I rv h
 obtain⟨i,j,rfl,q⟩:=h
 obtain⟨u,w',rfl,ru,QS⟩:=um rv
 obtain⟨t,rfl⟩:=ru
 obtain⟨t',rfl⟩:=QS
 refine call_range_2 ?_
 exact⟨.ref s.heap.objs.size,_,I.laid (o:= .rng i j) (λb ob q=>GF _ q) (GZ _) ⟨t,t',_,He _ rfl⟩,rfl,q _ (I.hok.fresh (GZ _))⟩
theorem nB {ns:List Int} {OW:Array Gu} (h:ItemsOf (λi v=>∃n t,ns[i]? =some n/\v= .int n t) OW ns.length):aL (ns.map V.int) OW.toList:=by
 have Od:∀(vs:List Gu) (ns:List Int),vs.length=ns.length->(∀(j:Nat) v,vs[j]? =some v->∃n t,ns[j]? =some n/\v= .int n t)->aL (ns.map V.int) vs:=by
  intro vs
  induction vs with
  |nil=>intro ns h1 _;cases ns with
   |nil=>exact .nil
   |cons _ _=>cases h1
  |cons v r ih=>
   intro ns h1 h2
   cases ns with
   |nil=>cases h1
   |cons n ns=>
    obtain⟨m,t,e1,e2⟩:=h2 0 v rfl
    simp at e1
    subst e1
    refine .cons ⟨t,e2⟩ (ih ns (by simpa using h1) λj v hv=> ?_)
    have:=h2 (j+1) v (by simpa using hv)
    simpa using this
 refine Od OW.toList ns (by rw[Iu];exact h.1) λj v hv=>h.2 j v (by rw[<-Km];exact hv)
def fJ (lo hi:Int):List Int:=(Hy (hi - lo).toNat).map λk:Nat=>lo+(k:Int)
theorem p_ (hc:X.calm=true):c7 X (.type "list") (λxs H Q=>∃p lo hi,xs=[.ref p]/\H p=some (.rng lo hi)/\(-(2 ^20)<=lo/\lo<=2 ^20)/\(-(2 ^20)<=hi/\hi<=2 ^20)/\∀l,H l=none->Q (.ref l) (b9 H l (.lst ((fJ lo hi).map V.int)))):=by
 intro O0 s σ H xs us Q I rv h
 obtain⟨p,lo,hi,rfl,hp,⟨l1,l2⟩,⟨h1,h2⟩,q⟩:=h
 obtain⟨u,rfl,ru⟩:=gO rv
 cases ru
 obtain⟨t,u,v,ho⟩:=I.hok p _ hp
 have hn:K3 lo hi 1=(((hi - lo).toNat:Nat):Int):=by
  unfold K3
  rw[if_pos (by decide)]
  split
  ·rw[Int.ediv_one];omega
  ·omega
 have SN:Builtin.Range.small lo hi 1=true:=small_one (by omega) (by omega) (by omega) (by omega)
 refine call_list_range (I.ok.hd hc) ho SN hn (by omega) λh' tk OW c hk hS Rg=> ?_
 have hv:aL ((fJ lo hi).map V.int) OW.toList:=by
  refine nB ⟨by rw[Rg.1];simp[fJ],λj v hv=> ?_⟩
  obtain⟨t,rfl⟩:=Rg.2 j v hv
  have hj:j<(hi - lo).toNat:=by
   have:=(L1.mp hv).1
   rw[Rg.1]at this
   exact this
  exact⟨lo+j*1,t,by unfold fJ;rw[Hg,MD hj];simp,rfl⟩
 refine⟨.ref s.heap.objs.size,_,I.laid (o:= .lst ((fJ lo hi).map V.int)) hk (GZ _) ⟨?_,OW.toList,c,hv,by simpa using hS⟩,rfl,q _ (I.hok.fresh (GZ _))⟩
 rw[GA]
 unfold fJ
 rw[GA,Ic]
 have:sizeLine=16777216:=Ik
 omega
theorem q0 (hc:X.calm=true):c7 X (.builtin "sorted") (λxs H Q=>∃p kvs ns,xs=[.ref p]/\H p=some (.dK kvs)/\kvs.map (·.1)=ns.map JF/\ns.length<64/\∀l,H l=none->Q (.ref l) (b9 H l (.lst ((de ns).map V.int)))):=by
 intro O0 s σ H xs us Q I rv h
 obtain⟨p,kvs,ns,rfl,hp,hk,hl,q⟩:=h
 obtain⟨u,rfl,ru⟩:=gO rv
 cases ru
 obtain⟨z,hd,vs,Q5,dd⟩:=AO I.hok hp
 obtain⟨ep,Wx⟩:=dd.dictAt
 have Oe:vs.length=ns.length:=by
  rw[<-Q5.length]
  have:=congrArg LU hk
  simpa using this
 refine Le kind_sorted plain_sorted entry_sorted (args_sorted1 _) ?_
 unfold Lk.«sorted»
 refine Gz (m:=checkCount "sorted" 1 1 _) (GH ?_)
 refine Gz (PySem.W.kdu_collect (A:=X.A.in1) (PySem.W.kdl_dict (knd:=cu X.prog X.w) (kvs:=vs) (ep:=ep) hd) (I.ok.hd hc) Wx (by rw[<-Q5.length];exact z) λh' tk OW Rh Rg=> ?_)
 have hI:Lh OW.toList ns:=by
  refine jK (nB ⟨by rw[Rg.1];exact Oe,λj v hv=> ?_⟩)
  obtain⟨k,x,hx,SA⟩:=Rg.2 j v hv
  have TK:(vs.map (·.1))[j]? =some k:=by rw[Hg,hx];rfl
  rw[<-Q5.keys,hk,Hg]at TK
  cases e:ns[j]? with
  |none=>rw[e]at TK;cases TK
  |some n=>
   rw[e]at TK
   cases TK
   rcases bM (show mY (JF n) v=true from SA)with ⟨i,t,e1,e2⟩|⟨x',t,e1,e2⟩
   ·cases e1;exact⟨n,t,rfl,e2⟩
   ·cases e1
 have Sn:OW.toList.length=ns.length:=by rw[Iu,Rg.1];exact Oe
 refine Gz (L0 ?_ (by rw[Sn];have:sizeLine=16777216:=Ik;omega))
 have Sb:(h'.push (seqObj "list" OW.toList.toArray 0)).get? h'.objs.size=some (seqObj "list" OW.toList.toArray 0):=He _ rfl
 refine Gz (HH (Kg slot_list_sort ⟨_,Sb,rfl⟩ entry_list_sort (list_sort_tree Sb hI (by omega) λout UT a1 a2 a3=>⟨_,rfl,?_⟩) (args_list_sort _)))
 refine GH ⟨_,rfl,?_⟩
 have en:UT=de ns:=gE (a2.trans (i4 ns).symm) a3 (i5 ns)
 subst en
 obtain⟨e,he⟩:=sortedHeap_at (out:=out) Sb
 have P_:s.heap.get? h'.objs.size=none:=by
  cases e:s.heap.get? h'.objs.size with
  |none=>rfl
  |some o=>exact absurd (GR (Rh _ _ e)) (H_ _)
 have kk:∀b o,s.heap.get? b=some o->(Nz (h'.push (seqObj "list" OW.toList.toArray 0)) h'.objs.size OW.toList out).get? b=some o:=λb o eb=>by
  have hb:=Rh b o eb
  have Qa:b<h'.objs.size:=GR hb
  rw[sortedHeap_old (Hj Qa) (by rw[size_push'];exact IL Qa)]
  exact GF _ hb
 refine⟨.ref h'.objs.size,_,I.laidAt (o:= .lst ((de ns).map V.int)) kk P_ ⟨?_,out.toList,e,jh a1,by simpa[seqObj]using he⟩,rfl,q _ (I.hok.nowhere P_)⟩
 have:=a2.length_eq
 rw[GA]
 have:sizeLine=16777216:=Ik
 omega
end
end L2
namespace L2
open PySem PySem.Spec PyProof.Rows
section
variable {prog:GP} {w:G_} {A:Hd} {E:Gu->Gx->Prop} {s:Gx} {I:Gw} {fp wr:List Gw} {G:Array Ll->Array Ll->Prop} {n:Nat} {P:Nat->Gu->Prop} {St:Nat->Gx->Prop}
end
section
variable {X:Cx} {e:GD} {te:TE} {pos p1 p2 Pz:Hr}
end
end L2
namespace L2
open PySem PySem.Spec PyProof.Rows
section
variable {prog:GP} {w:G_} {A:Hd} {E:Gu->Gx->Prop} {s:Gx} {a:Gw}
end
section
variable {prog:GP} {w:G_} {A:Hd} {R:MO->Gx->Prop} {I:Gw} {fp wr:List Gw} {G:Array Ll->Array Ll->Prop} {n:Nat} {P:Nat->Gu->Prop} {St:Nat->Gx->Prop}
end
section
variable {prog:GP} {w:G_} {A:Hd} {E:Gu->Gx->Prop} {s:Gx} {p:Gw}
end
section
variable {X:Cx}
end
end L2
namespace L2
open PySem PySem.Spec PyProof.Rows PySem.W
def jw {α:Type} (V:Nat->Nat->Prop) (lt:Nat->Nat->Bool):KasT α->(α->Prop)->Prop
 | .ret a,Q=>Q a
 | .ask i j k,Q=>V i j/\jw V lt (k (lt i j)) Q
theorem jw.imp {α:Type} {V:Nat->Nat->Prop} {lt:Nat->Nat->Bool} {Q Q':α->Prop} (w:∀a,Q a->Q' a):∀{t:KasT α},jw V lt t Q->jw V lt t Q'
 | .ret a,h=>w a h
 | .ask i j k,h=>⟨h.1,jw.imp w h.2⟩
theorem jw.bind {α β:Type} {V:Nat->Nat->Prop} {lt:Nat->Nat->Bool} {f:α->KasT β} {Q:β->Prop}:∀{t:KasT α},jw V lt t (λa=>jw V lt (f a) Q)->jw V lt (t.bind f) Q
 | .ret a,h=>h
 | .ask i j k,h=>⟨h.1,jw.bind h.2⟩
theorem jw.wp {α:Type} {V:Nat->Nat->Prop} {lt:Nat->Nat->Bool} {VL:Nat->Nat->(Bool->Gx->Prop)->Gx->Prop} {Good:Gx->Prop} (hc:∀i j C s,V i j->Good s->(∀s',Good s'->C (lt i j) s')->VL i j C s) {Q:α->Gx->Prop}:
  ∀{t:KasT α} {s:Gx},jw V lt t (λa=>∀s',Good s'->Q a s')->Good s->t.kasWp VL Q s
 | .ret a,s,h,g=>h s g
 | .ask i j k,s,h,g=>hc i j _ s h.1 g λs' g'=>jw.wp hc h.2 g'
section
variable {n:Nat} {Od:Nat->Int}
def kk (Od:Nat->Int) (p:Array Nat) (i:Nat):Int:=Od (p.getD i 0)
def sW (Od:Nat->Int) (i j:Nat):Bool:=decide (Od i<Od j)
def Pr (n i j:Nat):Prop:=i<n/\j<n/\i≠j
structure oA (n:Nat) (p:Array Nat):Prop where
 sz:p.size=n
 perm:p.toList.Perm (Hy n)
theorem oA.lt {p:Array Nat} (h:oA n p) {i:Nat} (hi:i<n):p.getD i 0<n:=by
 have QV:i<p.size:=by rw[h.sz];exact hi
 have:p.getD i 0=p[i]:=by simp[Mr,QV]
 rw[this]
 exact HW.mp (h.perm.mem_iff.mp (by simp))
theorem oA.inj {p:Array Nat} (h:oA n p) {i j:Nat} (hi:i<n) (hj:j<n) (e:p.getD i 0=p.getD j 0):i=j:=by
 have QV:i<p.size:=by rw[h.sz];exact hi
 have Ri:j<p.size:=by rw[h.sz];exact hj
 have e1:p.getD i 0=p[i]:=by simp[Mr,QV]
 have e2:p.getD j 0=p[j]:=by simp[Mr,Ri]
 rw[e1,e2]at e
 have nd:p.toList.Nodup:=(h.perm.nodup_iff).mpr Ni
 have hp:=JL.mp nd
 have el:p.toList[i]'(by simpa using QV)=p.toList[j]'(by simpa using Ri):=by simpa using e
 rcases N9 i j with z|z|z
 ·exact absurd el (hp i j _ _ z)
 ·exact z
 ·exact absurd el.symm (hp j i _ _ z)
theorem oA.pr {p:Array Nat} (h:oA n p) {i j:Nat} (hi:i<n) (hj:j<n) (RK:i≠j):Pr n (p.getD i 0) (p.getD j 0):=⟨h.lt hi,h.lt hj,λz=>RK (h.inj hi hj z)⟩
def sv (Od:Nat->Int) (p:Array Nat) (m:Nat):Prop:=∀i j,i<j->j<m->kk Od p i<kk Od p j
def BW (Od:Nat->Int) (p:Array Nat) (m:Nat):Prop:=∀i j,i<j->j<m->kk Od p j<kk Od p i
theorem sv.more {p:Array Nat} {m:Nat} (h:sv Od p (m+1)) (hl:kk Od p m<kk Od p (m+1)):sv Od p (m+2):=λi j RK hj=>by
 by_cases e:j=m+1
 ·subst e
  by_cases e2:i=m
  ·subst e2;exact hl
  ·exact Lw (h i m (by omega) (by omega)) hl
 ·exact h i j RK (by omega)
theorem BW.more {p:Array Nat} {m:Nat} (h:BW Od p (m+1)) (hl:kk Od p (m+1)<kk Od p m):BW Od p (m+2):=λi j RK hj=>by
 by_cases e:j=m+1
 ·subst e
  by_cases e2:i=m
  ·subst e2;exact hl
  ·exact Lw hl (h i m (by omega) (by omega))
 ·exact h i j RK (by omega)
theorem sX {p:Array Nat} (o:oA n p) (hk:∀i j,i<n->j<n->Od i=Od j->i=j):∀(f m:Nat),sv Od p (m+1)->m+1+f=n->jw (Pr n) (sW Od) (kas_asc p f (m+1)) λr=>m+1<=r/\r<=n/\sv Od p r/\(r<n->kk Od p r<kk Od p (r - 1))
 |0,m,h,e=>⟨GZ _,by omega,h,λz=>by omega⟩
 |f+1,m,h,e=>by
  refine⟨o.pr (by omega) (by omega) (by omega),?_⟩
  rw[KQ]
  by_cases hl:kk Od p (m+1)<kk Od p m
  ·simp only[show sW Od (p.getD (m+1) 0) (p.getD m 0)=true from decide_eq_true hl,if_true]
   exact⟨GZ _,by omega,h,λ_=>by rw[KQ];exact hl⟩
  ·simp only[show sW Od (p.getD (m+1) 0) (p.getD m 0)=false from decide_eq_false hl,HF,if_false]
   have Py:kk Od p m≠kk Od p (m+1):=λz=>by
    have:=o.inj (i:=m) (j:=m+1) (by omega) (by omega) (hk _ _ (o.lt (by omega)) (o.lt (by omega)) z)
    omega
   refine jw.imp (λr ⟨a,b,c,d⟩=>⟨by omega,b,c,d⟩) (sX o hk f (m+1) (h.more (by omega)) (by omega))
theorem xi {p:Array Nat} (o:oA n p) (hk:∀i j,i<n->j<n->Od i=Od j->i=j):∀(f m:Nat),BW Od p (m+1)->m+1+f=n->jw (Pr n) (sW Od) (kas_desc f p (m+1) 0) λr=>r.1=p/\r.2.2=0/\m+1<=r.2.1/\r.2.1<=n/\BW Od p r.2.1
 |0,m,h,e=>⟨rfl,rfl,GZ _,by show m+1<=n;omega,h⟩
 |f+1,m,h,e=>by
  refine⟨o.pr (by omega) (by omega) (by omega),?_⟩
  rw[KQ]
  by_cases hl:kk Od p (m+1)<kk Od p m
  ·simp only[show sW Od (p.getD (m+1) 0) (p.getD m 0)=true from decide_eq_true hl,if_true,gt_iff_lt,H_,if_false]
   exact jw.imp (λr ⟨a,b,c,d⟩=>⟨a,b,by omega,d⟩) (xi o hk f (m+1) (h.more hl) (by omega))
  ·simp only[show sW Od (p.getD (m+1) 0) (p.getD m 0)=false from decide_eq_false hl,HF,if_false]
   have Py:kk Od p m≠kk Od p (m+1):=λz=>by
    have:=o.inj (i:=m) (j:=m+1) (by omega) (by omega) (hk _ _ (o.lt (by omega)) (o.lt (by omega)) z)
    omega
   have Sn:kk Od p m<kk Od p (m+1):=by omega
   refine⟨o.pr (by omega) (by omega) (by omega),?_⟩
   simp only[show sW Od (p.getD m 0) (p.getD (m+1) 0)=true from decide_eq_true Sn,if_true]
   exact⟨rfl,rfl,GZ _,by show m+1<=n;omega,h⟩
theorem mM {p q:Array Nat} {i j:Nat} (h:p[i]? =q[j]?):p.getD i 0=q.getD j 0:=by
 rw[KR,KR,h]
theorem zH {p:Array Nat} (o:oA n p) (i j:Nat):oA n (kas_rev p i j):=
 ⟨by unfold kas_rev;rw[mirror_size];exact o.sz,(L3.mp (mirror_perm p i j _)).trans o.perm⟩
theorem zI {p:Array Nat} (o:oA n p) {m:Nat} (hm:m<=n) (h:BW Od p m):sv Od (kas_rev p 0 m) m:=λi j RK hj=>by
 have e:∀k,k<m->kk Od (kas_rev p 0 m) k=kk Od p (m - 1 - k):=λk hk=>by
  unfold kk
  congr 1
  refine mM ?_
  have:=getElem?_mirror_all (xs:=p) (i:=0) (j:=m) (by rw[o.sz];exact hm) k
  unfold kas_rev
  rw[this,if_pos ⟨Il _,hk⟩,Lx]
 rw[e i (by omega),e j hj]
 exact h _ _ (by omega) (by omega)
theorem xj {p:Array Nat} (o:oA n p) (hn:2<=n) (hk:∀i j,i<n->j<n->Od i=Od j->i=j):jw (Pr n) (sW Od) (kas_count n p) λr=>1<=r.1/\r.1<=n/\oA n r.2/\sv Od r.2 r.1:=by
 unfold kas_count
 refine jw.bind (jw.imp (λm ⟨h1,h2,h3,h4⟩=> ?_) (sX o hk (n - 1) 0 (λi j RK hj=>by omega) (by omega)))
 by_cases e:m=n
 ·rw[if_pos (by simp[e])];exact⟨by show 1<=m;omega,h2,o,h3⟩
 ·rw[if_neg (by simp[e])]
  by_cases e1:m>1
  ·rw[if_pos e1]
   refine⟨o.pr (by omega) (by omega) (by omega),?_⟩
   simp only[show sW Od (p.getD 0 0) (p.getD (m - 1) 0)=true from decide_eq_true (h3 0 (m - 1) (by omega) (by omega)),if_true]
   exact⟨by show 1<=m;omega,h2,o,h3⟩
  ·have em:m=1:=by omega
   subst em
   rw[if_neg (by omega)]
   have hd:BW Od p 2:=λi j RK hj=>by
    have hi:i=0:=by omega
    have Ri:j=1:=by omega
    subst hi;subst Ri
    exact h4 (by omega)
   unfold kas_descPart
   refine jw.bind (jw.imp (λr ⟨a,b,c,d,g⟩=> ?_) (xi o hk (n - (1+1)) 1 hd (by omega)))
   rw[if_neg (by omega)]
   unfold kas_tail3
   rw[a]
   have o2:=zH o 0 r.2.1
   obtain⟨q,hq⟩:∃q,r.2.1=q+1:=⟨r.2.1 - 1,by omega⟩
   rw[hq]at d g o2 ⊢
   refine jw.bind (jw.imp (λm2 ⟨x1,x2,x3,_⟩=>⟨by show 1<=m2;omega,x2,o2,x3⟩) (sX o2 hk (n - (q+1)) q (zI o d g) (by omega)))
theorem nD {p:Array Nat} (o:oA n p) (hk:∀i j,i<n->j<n->Od i=Od j->i=j) {k:Nat} (SO:k<n) (ha:sv Od p k):∀(f l r:Nat),l<=r->r<=k->r - l<=f->(∀i,i<l->kk Od p i<kk Od p k)->(∀i,r<=i->i<k->kk Od p k<kk Od p i)->
  jw (Pr n) (sW Od) (kas_place p k f l r) λm=>m<=k/\(∀i,i<m->kk Od p i<kk Od p k)/\∀i,m<=i->i<k->kk Od p k<kk Od p i
 |0,l,r,h1,h2,h3,h4,h5=>⟨by omega,h4,λi hi=>h5 i (by omega)⟩
 |f+1,l,r,h1,h2,h3,h4,h5=>by
  unfold kas_place
  by_cases e:l>=r
  ·rw[if_pos e];exact⟨by omega,h4,λi hi=>h5 i (by omega)⟩
  ·rw[if_neg e]
   refine⟨o.pr SO (by omega) (by omega),?_⟩
   have Sq:(l+r) / 2<r:=by omega
   have UP:l<=(l+r) / 2:=by omega
   by_cases hl:kk Od p k<kk Od p ((l+r) / 2)
   ·simp only[show sW Od (p.getD k 0) (p.getD ((l+r) / 2) 0)=true from decide_eq_true hl,if_true]
    refine nD o hk SO ha f l ((l+r) / 2) UP (by omega) (by omega) h4 λi hi Wy=> ?_
    by_cases z:i=(l+r) / 2
    ·subst z;exact hl
    ·exact Lw hl (ha _ _ (by omega) Wy)
   ·simp only[show sW Od (p.getD k 0) (p.getD ((l+r) / 2) 0)=false from decide_eq_false hl,HF,if_false]
    have Py:kk Od p ((l+r) / 2)≠kk Od p k:=λz=>by
     have:=o.inj (i:=(l+r) / 2) (j:=k) (by omega) SO (hk _ _ (o.lt (by omega)) (o.lt SO) z)
     omega
    have Sn:kk Od p ((l+r) / 2)<kk Od p k:=by omega
    refine nD o hk SO ha f ((l+r) / 2+1) r (by omega) h2 (by omega) (λi hi=> ?_) h5
    by_cases z:i=(l+r) / 2
    ·subst z;exact Sn
    ·exact Lw (ha _ _ (show i<(l+r) / 2 by omega) (by omega)) Sn
theorem zJ {p:Array Nat} (o:oA n p) {k m:Nat} (SO:k<n) (hm:m<=k) (ha:sv Od p k) (h1:∀i,i<m->kk Od p i<kk Od p k) (h2:∀i,m<=i->i<k->kk Od p k<kk Od p i):oA n (bubble p k (k - m))/\sv Od (bubble p k (k - m)) (k+1):=by
 refine⟨⟨by rw[bubble_size];exact o.sz,(L3.mp (bubble_perm p k _)).trans o.perm⟩,λi j RK hj=> ?_⟩
 have e:∀q,kk Od (bubble p k (k - m)) q=if q=m then kk Od p k else if m<q/\q<=k then kk Od p (q - 1)else kk Od p q:=λq=>by
  have:=getElem?_bubble (xs:=p) (src:=k) (by rw[o.sz];exact SO) (k - m) (by omega) q
  rw[show k - (k - m)=m by omega]at this
  unfold kk
  split
  ·rename_i z;rw[if_pos z]at this;congr 1;exact mM this
  ·rename_i z
   rw[if_neg z]at this
   split
   ·rename_i z2;rw[if_pos z2]at this;congr 1;exact mM this
   ·rename_i z2;rw[if_neg z2]at this;congr 1;exact mM this
 rw[e i,e j]
 by_cases i1:i=m
 ·rw[if_pos i1,if_neg (by omega),if_pos (by omega)]
  exact h2 _ (by omega) (by omega)
 ·rw[if_neg i1]
  by_cases i2:m<i/\i<=k
  ·rw[if_pos i2,if_neg (by omega),if_pos (by omega)]
   exact ha _ _ (by omega) (by omega)
  ·rw[if_neg i2]
   by_cases j1:j=m
   ·rw[if_pos j1];exact h1 i (by omega)
   ·rw[if_neg j1]
    by_cases j2:m<j/\j<=k
    ·rw[if_pos j2]
     by_cases z:i=j - 1
     ·omega
     ·exact ha _ _ (by omega) (by omega)
    ·rw[if_neg j2];exact ha _ _ RK (by omega)
theorem xk (hk:∀i j,i<n->j<n->Od i=Od j->i=j):∀(f:Nat) (p:Array Nat) (k:Nat),oA n p->sv Od p k->k+f=n->jw (Pr n) (sW Od) (kas_bin f p k) λq=>oA n q/\sv Od q n
 |0,p,k,o,h,e=>⟨o,by rw[<-e];exact h⟩
 |f+1,p,k,o,h,e=>by
  unfold kas_bin
  refine jw.bind (jw.imp (λm ⟨h1,h2,h3⟩=> ?_) (nD o hk (show k<n by omega) h k 0 k (Il _) (GZ _) (by omega) (λi hi=>by omega) λi h1 h2=>by omega))
  obtain⟨o2,a2⟩:=zJ o (show k<n by omega) h1 h h2 h3
  exact xk hk f _ (k+1) o2 a2 (by omega)
theorem zK (hn:2<=n) (hk:∀i j,i<n->j<n->Od i=Od j->i=j):jw (Pr n) (sW Od) (kas_sort n) λq=>oA n q/\sv Od q n:=by
 have o:oA n (Ju (Hy n)):=⟨by simp,by simp⟩
 unfold kas_sort
 refine jw.bind (jw.imp (λr ⟨h1,h2,h3,h4⟩=> ?_) (xj o hn hk))
 by_cases e:r.1<n
 ·rw[if_pos e,show max r.1 1=r.1 by omega]
  exact xk hk _ _ _ h3 h4 (by omega)
 ·rw[if_neg e]
  have:r.1=n:=by omega
  rw[this]at h4
  exact⟨h3,h4⟩
end
end L2
namespace L2
open PySem PySem.Spec PyProof.Rows PySem.W
section
variable {prog:GP} {w:G_} {A:Hd} {E:Gu->Gx->Prop} {s:Gx}
def lb (h:GY) (v:Gu) (k:Int):Prop:=∃b o t rest m,v= .ref b/\h.get? b=some o/\o.cls= .type "tuple"/\o.data= .seq (Array.mk (Jh k t::rest)) m
theorem BX {v u:Gu} {k l:Int} {Q:Bool->Gx->Prop} (hv:lb s.heap v k) (hu:lb s.heap u l) (Py:k≠l) (h:Q (decide (k<l)) s):GI (GN prog w) A (keyLt' (tuples' true) v u) Q E s:=by
 obtain⟨b,o,t,rest,m,rfl,h1,h2,h3⟩:=hv
 obtain⟨b',o',t',TL,m',rfl,g1,g2,g3⟩:=hu
 refine kat_lt h1 h3 g1 g3 ?_
 show KatLex prog w A true _ Q ((Jh k t,Jh l t')::rest.zip TL) 0 s
 refine kat_cons (wpAny_eqBool_int ?_)
 have e:(k==l)=false:=beq_eq_false_iff_ne.mpr Py
 rw[e]
 exact kat_no (oneLt_int h)
theorem p7:∀{vs:List Gu} {ks:List Int},vs.length=ks.length->(∀(i:Nat) v,vs[i]? =some v->lb s.heap v (ks.getD i 0))->∃fs:List Gu,KatTups s.heap vs fs/\fs.length=vs.length/\∀f∈fs,∃k t,f=Jh k t
 |[],ks,_,_=>⟨[], .nil,rfl,λf hf=>by cases hf⟩
 |v::vs,[],hl,_=>by cases hl
 |v::vs,k::ks,hl,h=>by
  obtain⟨fs,h1,h2,h3⟩:=p7 (vs:=vs) (ks:=ks) (by simpa using hl) λi u hu=>by
   have:=h (i+1) u (by simpa using hu)
   simpa using this
  obtain⟨b,o,t,rest,m,rfl,g1,g2,g3⟩:=h 0 v rfl
  refine⟨_::fs,KatTups.cons g1 g2 g3 (f:=Jh ((k::ks).getD 0 0) t) rfl h1,by simp[h2],λf hf=> ?_⟩
  rcases GK.mp hf with rfl|hf
  ·exact⟨_,_,rfl⟩
  ·exact h3 f hf
def nE (ks:List Int) (p:List Nat):Prop:=p.Perm (Hy ks.length)/\(p.map λi=>ks.getD i 0).Pairwise (·<·)
theorem q8 {Od:Nat->Int} {p:Array Nat} {n:Nat} (hs:p.size=n) (h:sv Od p n):(p.toList.map Od).Pairwise (·<·):=by
 refine JL.mpr λi j hi hj RK=> ?_
 rw[GA,Iu]at hi hj
 have:=h i j RK (by omega)
 unfold kk at this
 simpa[Mr,hi,hj]using this
theorem vA {α β:Type} {vs:List α} {ks:List β} (hl:vs.length=ks.length) (h:vs.length<2):(vs=[]/\ks=[])\/∃v k,vs=[v]/\ks=[k]:=by
 cases vs with
 |nil=>exact .inl ⟨rfl,LF.mp hl.symm⟩
 |cons v vs=>
  cases vs with
  |nil=>
   obtain⟨k,hk⟩:=List.length_eq_one_iff.mp hl.symm
   exact .inr ⟨v,k,rfl,hk⟩
  |cons=>exact absurd h (by simp only[GX];omega)
theorem nF {a:Gw} {vs:List Gu} {ks:List Int} {n:Nat} {P:PySem.Fin->Gx->Prop} (ho:s.heap.get? a=some (seqObj "list" vs.toArray n)) (hl:vs.length=ks.length) (hv:∀(i:Nat) v,vs[i]? =some v->lb s.heap v (ks.getD i 0)) (Wz:ks.Nodup) (VM:vs.length<64)
  (h:∀p:List Nat,nE ks p->P (.done (.ret .none)) {s with heap:=Nz s.heap a vs (Ju (p.map λi=>vs.getD i HL))}):
  GI (GN prog w) A (Lk.«list.sort» ⟨[.ref a],[]⟩) P E s:=by
 rw[list_sort_plain]
 have ha:a<s.heap.objs.size:=GR ho
 refine Gz (listItems_at ho rfl ?_)
 refine Gz (MA ho rfl ?_ (hsz2:=Il _) (hsz:=by rw[GB,Ik];omega))
 obtain⟨e1,VN⟩:∃e1,(s.heap.update a (Ih λ_=> #[])).get? a=some (seqObj "list" #[] e1):=⟨_,get?_update_seq ho (λ_=> #[])⟩
 refine Gz (Nd VN rfl ?_)
 refine Gz (wpAny_newTuple ?_ (by show vs.length<=_;rw[Ik];omega))
 refine Gz (L0 ?_ (Il _))
 refine HH ?_
 have WA:∀b o,b≠a->s.heap.get? b=some o->(((s.heap.update a (Ih λ_=> #[])).push (seqObj "tuple" vs.toArray 0)).push (seqObj "list" #[] 0)).get? b=some o:=λb o hb e=>by
  refine GF _ (GF _ ?_)
  rw[Heap.get?_update_ne _ _ _ _ hb];exact e
 have Uk:(((s.heap.update a (Ih λ_=> #[])).push (seqObj "tuple" vs.toArray 0)).push (seqObj "list" #[] 0)).get? a=some (seqObj "list" #[] e1):=GF _ (GF _ VN)
 have SD:∀(i:Nat) v,vs[i]? =some v->lb (((s.heap.update a (Ih λ_=> #[])).push (seqObj "tuple" vs.toArray 0)).push (seqObj "list" #[] 0)) v (ks.getD i 0):=λi v e=>by
  obtain⟨b,o,t,rest,m,rfl,g1,g2,g3⟩:=hv i v e
  refine⟨b,o,t,rest,m,rfl,WA b o (λz=> ?_) g1,g2,g3⟩
  subst z
  rw[ho]at g1
  cases g1
  exact absurd (show J6 "list"=J6 "tuple" from g2) (by decide)
 show GI (GN prog w) A _ P E {s with heap:=((s.heap.update a (Ih λ_=> #[])).push (seqObj "tuple" vs.toArray 0)).push (seqObj "list" #[] 0)}
 dsimp only
 have hsz:vs.toArray.size=vs.length:=by simp
 have Rx:∀p:List Nat,p.length=vs.length->(Ju (p.map λi=>vs.getD i HL)).size<=sizeLine:=λp hp=>by
  rw[GB,GA,hp,Ik];omega
 by_cases h2:vs.toArray.size<2
 ·rw[if_pos h2,if_pos h2]
  refine Gz (GH ?_)
  rw[StateT.run_pure]
  refine Gz (GH ?_)
  dsimp only
  obtain⟨p,hp,OT,WB⟩:∃p:List Nat,nE ks p/\p.length=vs.length/\MY (λx=>x.2) (arrOf (SortSt.mk' general' (vs.toArray.zip vs.toArray) #[] 7 none))=Ju (p.map λi=>vs.getD i HL):=by
   rcases vA hl (by simpa using h2)with ⟨rfl,rfl⟩|⟨v,k,rfl,rfl⟩
   ·exact⟨[],⟨Jt _,La⟩,rfl,by show MY (λx:Keyed=>x.2) ((#[]:Array Gu).zip #[])=_;simp⟩
   ·exact⟨[0],⟨Jt _,List.pairwise_singleton _ _⟩,rfl,by show MY (λx:Keyed=>x.2) ((#[v]:Array Gu).zip #[v])=_;simp⟩
  refine Gz (Nd Uk rfl ?_)
  have TM:MY (λx=>x.2) (arrOf (SortSt.mk' general' (vs.toArray.zip vs.toArray) #[] 7 none))=Ju (p.map λi=>vs.getD i HL):=WB
  refine Gz (MA Uk rfl ?_ (hsz2:=by have:=Rx p OT;rw[<-TM]at this;exact Lc this))
  simp only[bne_self_eq_false,HF,if_false]
  have hh:=h p hp
  rw[<-TM]at hh
  exact GH hh
 ·rw[if_neg h2,if_neg h2]
  have SE:2<=vs.length:=by rw[hsz]at h2;omega
  obtain⟨fs,t1,t2,t3⟩:=p7 (s:={s with heap:=((s.heap.update a (Ih λ_=> #[])).push (seqObj "tuple" vs.toArray 0)).push (seqObj "list" #[] 0)}) hl SD
  refine Gz (kat_kind (T:= .type "int") t1 (by omega) (λv hv=> ?_) (by decide) ?_)
  ·obtain⟨k,t,rfl⟩:=t3 v hv
   exact .now
  rw[show (J6 "int" != J6 "tuple")=true by decide]
  have UU:(kas_sort vs.length).kasWp (kas_ask prog w A (tuples' true) vs) (λp s'=>s'={s with heap:=((s.heap.update a (Ih λ_=> #[])).push (seqObj "tuple" vs.toArray 0)).push (seqObj "list" #[] 0)}/\oA vs.length p/\sv (λi=>ks.getD i 0) p vs.length) {s with heap:=((s.heap.update a (Ih λ_=> #[])).push (seqObj "tuple" vs.toArray 0)).push (seqObj "list" #[] 0)}:=by
   have TN:∀i j,i<vs.length->j<vs.length->ks.getD i 0=ks.getD j 0->i=j:=λi j hi hj e=>by
    have hp:=JL.mp Wz
    have e':ks[i]'(by omega)=ks[j]'(by omega):=by simpa[show i<ks.length by omega,show j<ks.length by omega]using e
    rcases N9 i j with z|z|z
    ·exact absurd e' (hp i j _ _ z)
    ·exact z
    ·exact absurd e'.symm (hp j i _ _ z)
   refine jw.wp (V:=Pr vs.length) (lt:=sW λi=>ks.getD i 0) (Good:=λs'=>s'={s with heap:=((s.heap.update a (Ih λ_=> #[])).push (seqObj "tuple" vs.toArray 0)).push (seqObj "list" #[] 0)}) (λi j C s' TQ hg hC=> ?_) (jw.imp (λp hp s' OB=>⟨OB,hp⟩) (zK SE TN)) rfl
   subst hg
   have hi:vs[i]? =some (vs.getD i HL):=by simp[TQ.1]
   have hj:vs[j]? =some (vs.getD j HL):=by simp[TQ.2.1]
   exact BX (SD i _ hi) (SD j _ hj) (λz=>TQ.2.2 (TN i j TQ.1 TQ.2.1 z)) (hC _ rfl)
  refine Gz (IC (kat_run (vs:=vs) (ks:=vs) (Q:=λRb s'=>∃p:Array Nat,arrOf Rb=p.map (kas_item (vs.toArray.zip vs.toArray))/\failedOf Rb=none/\s'={s with heap:=((s.heap.update a (Ih λ_=> #[])).push (seqObj "tuple" vs.toArray 0)).push (seqObj "list" #[] 0)}/\oA vs.length p/\sv (λi=>ks.getD i 0) p vs.length)
   rfl SE VM (λp' Rb s' a1 a2 a3 a4=>⟨p',a2,a3,a4⟩) UU) ?_ λ_ _ e=>e)
  rintro⟨⟨⟩,Rb⟩ s' ⟨p,WC,hf,rfl,UW,WD⟩
  dsimp only
  have UX:=kat_snds (vs:=vs) (ks:=vs) rfl WC
  have OT:p.toList.length=vs.length:=by rw[Iu];exact UW.sz
  refine Gz (Nd Uk rfl ?_)
  rw[UX]
  refine Gz (MA Uk rfl ?_ (hsz2:=Lc (Rx _ OT)))
  rw[hf]
  simp only[bne_self_eq_false,HF,if_false]
  exact GH (h p.toList ⟨by rw[<-hl];exact UW.perm,q8 UW.sz WD⟩)
end
section
variable {X:Cx}
inductive i6 (H:Hp):List V->List Int->Prop
 |nil:i6 H [] []
 |cons {a:Gw} {k:Int} {rest ys:List V} {ks:List Int}:H a=some (.tup (.int k::rest))->i6 H ys ks->i6 H (.ref a::ys) (k::ks)
theorem i6.length {H:Hp}:∀{ys:List V} {ks:List Int},i6 H ys ks->ys.length=ks.length
 |_,_, .nil=>rfl
 |_,_, .cons _ t=>by rw[GX,GX,t.length]
theorem re {P:GP} {w:G_} {H:Hp} {h h':GY} (ok:iK P w H h) (kp:∀b o,h.get? b=some o->h'.get? b=some o):∀{ys:List V} {ks:List Int} {us:List Gu},i6 H ys ks->aL ys us->∀(i:Nat) v,us[i]? =some v->lb h' v (ks.getD i 0)
 |_,_,_, .nil, .nil,i,v,e=>by simp at e
 |_,_,_, .cons (a:=a) (k:=k) (rest:=rest) ha t, .cons ru rt,i,v,e=>by
  cases i with
  |zero=>
   simp at e
   subst e
   obtain⟨_,its,r,o,h1,h2,n,h3,_⟩:=(show bp P w H h a (.tup (.int k::rest))from ok a _ ha)
   cases r with
   |cons rk rr=>
    obtain⟨t,rfl⟩:=rk
    exact⟨a,o,t,_,n,ru,kp _ _ h1,h2,h3⟩
  |succ i=>exact re ok kp t rt i v (by simpa using e)
theorem p8 {ys:List V} {us:List Gu} (r:aL ys us):∀p:List Nat,(∀i∈p,i<ys.length)->aL (p.map λi=>ys.getD i .non) (p.map λi=>us.getD i HL)
 |[],_=> .nil
 |i::p,h=>by
  have hi:=h i GO
  have hy:ys[i]? =some (ys.getD i .non):=by simp[hi]
  obtain⟨u,hu,ru⟩:=r.get hy
  have e:us.getD i HL=u:=by simp[hu]
  refine .cons ?_ (p8 r p λj hj=>h j (GU _ hj))
  show b6 (ys.getD i .non) (us.getD i HL)
  rw[e];exact ru
theorem q9:c7 X (.builtin "sorted") (λxs H Q=>∃p ys ks,xs=[.ref p]/\(H p=some (.lst ys)\/H p=some (.tup ys))/\i6 H ys ks/\ks.Nodup/\ks.length<64/\
  ∀l q,H l=none->nE ks q->Q (.ref l) (b9 H l (.lst (q.map λi=>ys.getD i .non)))):=by
 intro O0 s σ H xs us Q I rv h
 obtain⟨p,ys,ks,rfl,hp,ra,nd,VM,q⟩:=h
 obtain⟨u,rfl,ru⟩:=gO rv
 cases ru
 have hl:=ra.length
 obtain⟨its,r,T,o,n,hT,ho,hc,hd⟩:∃its:List Gu,aL ys its/\∃(T:String) (o:Hi) (n:Nat),(T="list"\/T="tuple")/\s.heap.get? p=some o/\o.cls= .type T/\o.data= .seq its.toArray n:=by
  rcases hp with hp|hp
  ·obtain⟨its,r,⟨o,n,e,c,_,d⟩,_⟩:=I.list (c9.of hp)
   exact⟨its,r,"list",o,n, .inl rfl,e,c,d⟩
  ·obtain⟨hz,its,r,o,e,c,n,d,_⟩:=(show bp X.prog X.w H s.heap p (.tup ys)from I.hok p _ hp)
   exact⟨its,r,"tuple",o,n, .inr rfl,e,c,d⟩
 have Oe:=r.length
 refine Le kind_sorted plain_sorted entry_sorted (args_sorted1 _) ?_
 unfold Lk.«sorted»
 refine Gz (m:=checkCount "sorted" 1 1 _) (GH ?_)
 refine Gz (wpAny_collect_seq p hT ho hc hd (λh' Rh=> ?_) (by rw[GB,Ik];omega))
 have eT:its.toArray.toList=its:=by simp
 rw[eT]
 refine Gz (L0 ?_ (by rw[Ik];omega))
 have Sb:(h'.push (seqObj "list" its.toArray 0)).get? h'.objs.size=some (seqObj "list" its.toArray 0):=He _ rfl
 refine Gz (HH (Kg slot_list_sort ⟨_,Sb,rfl⟩ entry_list_sort (nF Sb (by omega) (re I.hok (λb o e=>GF _ (Rh b o e)) ra r) nd (by omega) λz hz=>⟨_,rfl,?_⟩) (args_list_sort _)))
 refine GH ⟨_,rfl,?_⟩
 obtain⟨e,he⟩:=sortedHeap_at (out:=Ju (z.map λi=>its.getD i HL)) Sb
 have P_:s.heap.get? h'.objs.size=none:=by
  cases e:s.heap.get? h'.objs.size with
  |none=>rfl
  |some o=>exact absurd (GR (Rh _ _ e)) (H_ _)
 have kk:∀b o,s.heap.get? b=some o->(Nz (h'.push (seqObj "list" its.toArray 0)) h'.objs.size its (Ju (z.map λi=>its.getD i HL))).get? b=some o:=λb o eb=>by
  have hb:=Rh b o eb
  have Qa:b<h'.objs.size:=GR hb
  rw[sortedHeap_old (Hj Qa) (by rw[size_push'];exact IL Qa)]
  exact GF _ hb
 have WE:z.length=ys.length:=by have:=hz.1.length_eq;rw[Ic]at this;omega
 refine⟨.ref h'.objs.size,_,I.laidAt (o:= .lst (z.map λi=>ys.getD i .non)) kk P_ ⟨?_,z.map λi=>its.getD i HL,e,p8 r z λi hi=> ?_,by simpa[seqObj]using he⟩,rfl,q _ z (I.hok.nowhere P_) hz⟩
 ·rw[GA,WE,Ik];omega
 ·have:=HW.mp (hz.1.mem_iff.mp hi)
  omega
end
end L2
namespace L2
open PySem PySem.Spec PyProof.Rows
section
variable {prog:GP} {w:G_} {A:Hd} {E:Gu->Gx->Prop} {s:Gx}
theorem p9 {I:Gw} {fp wr:List Gw} {O2:Array Gu} {St:Nat->GY->Prop} (W:Walks prog w A I fp wr O2.size (λi v=>O2[i]? =some v) St):∀(n i:Nat) (s:Gx) (Q:List Gu->Gx->Prop),St i s.heap->i+n<=O2.size->
  (∀(h':GY) (tk:Nat),St (i+n) h'->(∀b o,b∉wr->s.heap.get? b=some o->h'.get? b=some o)->Q ((O2.toList.drop i).take n) {s with heap:=h',toks:=tk})->GI (GN prog w) A (draw (.ref I) n) Q E s
 |0,i,s,Q,st,hn,k=>by
  refine GH ?_
  have:=k s.heap s.toks st λ_ _ _ e=>e
  rw[List.take_zero]at this
  exact this
 |n+1,i,s,Q,st,hn,k=>by
  unfold draw
  refine Gz (W.item i s _ E (by omega) st λv h' tk hv Rb kp=> ?_)
  refine Gz (HH (p9 W n (i+1) _ _ Rb (by omega) λh2 UY S2 UZ=>GH ?_))
  have e:(O2.toList.drop i).take (n+1)=v::(O2.toList.drop (i+1)).take n:=by
   obtain⟨hl,he⟩:=L1.mp hv
   rw[JM (by simpa using hl),List.take_succ_cons]
   simp[he]
  have:=k h2 UY (by rw[show i+(n+1)=i+1+n by omega];exact S2) λb o hb e=>UZ b o hb (kp b o hb e)
  rw[e]at this
  exact this
theorem lc {l:Gw} {O2:Array Gu} {Q:List Gu->Gx->Prop} (hA:A.handled=none) (hl:s.heap.IsList l O2)
  (k:∀(h':GY) (tk:Nat),(∀b o,b≠s.heap.objs.size->s.heap.get? b=some o->h'.get? b=some o)->Q O2.toList {s with heap:=h',toks:=tk}):GI (GN prog w) A (unpackItems (.ref l) O2.size none) Q E s:=by
 have Qa:l<s.heap.objs.size:=by obtain⟨o,ho,_⟩:=id hl;exact GR ho
 have ty:s.TypeIs (.ref l) "list":=by obtain⟨o,ho,hc,_⟩:=id hl;exact⟨o,ho,hc⟩
 unfold unpackItems notIterableAtAll
 refine Gz (Gz (wpAny_specialOf ty PySem.F.slot_list_iter.lookup ?_))
 refine GH ?_
 refine Gz (HH (Jm hl ?_))
 have W:=Ms (prog:=prog) (w:=w) (A:=A) hA s.heap.objs.size l (Hj Qa) O2
 refine Gz (HH (p9 W O2.size 0 _ _ ⟨⟨_,He _ rfl,rfl,rfl⟩,hl.push _⟩ (by omega) λh' tk st kp=> ?_))
 have e:((O2.toList.drop 0).take O2.size)=O2.toList:=by rw[NK];exact L_ (by simp)
 rw[e]
 rw[if_neg (by simp)]
 rw[Lx]at st
 refine Gz (HH (W.done _ _ E st λh2 UY UZ=> ?_))
 refine GH (k h2 UY λb o hb eb=> ?_)
 have nb:b∉[s.heap.objs.size]:=λz=>hb (GS.mp z)
 exact UZ b o nb (kp b o nb (GF _ eb))
theorem ko {env:Iz} {Sf:List GD} {x1:Nat} {pos:Hr} {l:Gw} {O2:Array Gu} {Q:Unit->Gx->Prop} (hA:A.handled=none) (hl:s.heap.IsList l O2) (hn:(HY Sf env).length=O2.size) (QD:(HY Sf env).findIdx? (·.1)=none)
  (k:∀(h':GY) (tk:Nat),(∀b o,b≠s.heap.objs.size->s.heap.get? b=some o->h'.get? b=some o)->GI (GN prog w) A (assignInOrder ((HY Sf env).map (·.2)) O2.toList) Q E {s with heap:=h',toks:=tk}):
  GI (GN prog w) A (Kb (.Tuple Sf x1 pos) env (.ref l)) Q E s:=by
 rw[assign_Tuple]
 refine Gz (Ke ?_)
 unfold unpack
 rw[QD,hn]
 exact Gz (HH (lc hA hl λh' tk kp=>k h' tk kp))
end
section
variable {X:Cx} {pos:Hr}
def Fq (K:Gs) (n:Nat) (t:wO):TG:=λv σ H Q=>∃a xs,v= .ref a/\c9 K H a xs/\xs.length=n/\t xs σ H Q
theorem BY {es:List GD} {k:Nat} {t:wO} {n:Nat} (hc:X.calm=true) (h:wQ X es t) (hn:(HY es X.env).length=n:=by rfl) (QD:(HY es X.env).findIdx? (·.1)=none:=by rfl):PG X (.Tuple es k pos) (Fq X.K n t):=by
 intro O0 s σ H v u Q I r hw
 obtain⟨a,xs,e1,hq,hl,hw⟩:=hw
 subst e1
 cases r
 obtain⟨its,rv,ht,hz⟩:=I.list hq
 refine ko (I.ok.hd hc) ht.isList (by simp[hn,<-hl,rv.length]) QD λh' tk hx=> ?_
 have I1:aB X O0 σ H {s with heap:=h',toks:=tk}:=I.kept (t':=tk) λb o e=>hx b o (Hj (GR e)) e
 exact h O0 _ σ H xs _ Q I1 (by simpa using rv) hw
def Fs (K:Gs):V->Option Int->Option Int->Hp->VK->Prop:=λx lo hi H Q=>∃a xs,x= .ref a/\fE K H a xs/\(HT.dq xs.length 0 lo=0/\HT.dq xs.length xs.length hi=xs.length)/\Q (.ref a) H
theorem jx {prog:GP} {w:G_} {A:Hd} {E:Gu->Gx->Prop} {s:Gx} {t sl:Gw} {O2:Array Gu} {vl vu:Gu} {lo hi:Option Int} {Q:Gu->Gx->Prop} (ht:Mi s.heap t O2) (hs:s.heap.IsSliceOf sl vl vu .none) (pl:Kw vl lo) (pu:Kw vu hi)
  (hw:HT.dq O2.size 0 lo=0/\HT.dq O2.size O2.size hi=O2.size) (h:Q (.ref t) s):GI (GN prog w) A (K1 (.ref t) (.ref sl)) Q E s:=by
 obtain⟨os,SG,Uh,Sd⟩:=id hs
 have UD:s.TypeIs (.ref sl) "slice":=⟨os,SG,Uh⟩
 unfold K1
 try with_reducible refine HH ?_
 first|refine Gz (GH ?_)|skip
 refine Gz (N7 ht.typeIs (by decide) ?_)
 refine Gz (LD (name:=JT "__getitem__") ht.typeIs HK
  (Kg HK ht.typeIs MB ?_ (MU _ _)))
 show GI _ _ (KY (.ref t)>>=_) _ _ s
 refine Gz (KZ ht ?_)
 refine Gz (Lr UD ?_)
 rw[if_pos (by decide)]
 refine Gz (HT.gP hs pl pu ?_)
 show GI _ _ (if (((HT.dq O2.size 0 lo:Nat):Int)==0&&(1:Int)==1&&(HT.dq O2.size O2.size hi - HT.dq O2.size 0 lo)==O2.size)=true then _ else _) _ _ s
 rw[if_pos (by rw[hw.1,hw.2];simp)]
 unfold L4
 refine Gz (Gz (Lr ht.typeIs (GH ?_)))
 rw[if_pos (by decide)]
 refine Gz (NA ?_)
 exact JN ⟨_,rfl,GH h⟩
theorem zL:AL X (Fs X.K):=by
 intro O0 s σ H x v vl vu lo hi sl Q I rx hs pl pu h
 obtain⟨a,xs,rfl,hx,hw,q⟩:=h
 cases rx
 obtain⟨its,r,ht,hz⟩:=I.tuple hx
 have Oe:its.toArray.size=xs.length:=by rw[GB];exact r.length.symm
 refine⟨"tuple",_,HK.lookup,ht.typeIs,?_⟩
 exact jx ht hs pl pu (by rw[Oe];exact hw) ⟨.ref a,H,I,rfl,q⟩
theorem rf (l b:Gw) (O2 RS:Array Gu) (n n2:Nat) (dd Te:Option Gw) (sl Tf:Array (Option Gu)) (h0:O2.isEmpty=true):
  Meets (Lk.«tuple.__add__» {pos:=[Hc l,Hc b]}) λx R s=>
    s.heap.get? l=some {cls:=J6 "tuple",dict:=dd,data:=NU O2 n,slots:=sl}/\
     s.heap.get? b=some {cls:=J6 "tuple",dict:=Te,data:=NU RS n2,slots:=Tf}/\R (Except.ok (Flow.ret (Hc b))) s:=by
 intro prog w A R s ⟨g1,g2,q⟩
 have t1:Mi s.heap l O2:=⟨_,g1,rfl,n,rfl⟩
 have t2:Mi s.heap b RS:=⟨_,g2,rfl,n2,rfl⟩
 unfold Lk.«tuple.__add__»
 refine Gz (GH (a:=(Hc l,[Hc b])) ?_)
 dsimp only
 refine Gz (wpAny_isInstance t2.typeIs sub_tuple_tuple ?_)
 rw[if_neg (by decide)]
 refine Gz (KZ t1 (Gz (KZ t2 ?_)))
 rw[if_pos h0]
 unfold L4
 refine Gz (Gz (Lr t2.typeIs (GH ?_)))
 rw[if_pos (by decide)]
 exact Gz (NA (JN q))
def AR (K:Gs):R2:=λx y H Q=>∃a b ys,x= .ref a/\y= .ref b/\fE K H a []/\fE K H b ys/\Q (.ref b) H
theorem zM:ju X (ID .Add) (AR X.K):=by
 intro O0 s σ H x y v u Q I rx ry h
 obtain⟨a,b,ys,rfl,rfl,ha,hb,q⟩:=h
 cases rx
 cases ry
 obtain⟨its,r1,p1,_⟩:=I.tuple ha
 obtain⟨Qq,r2,p2,_⟩:=I.tuple hb
 cases r1
 obtain⟨⟨cls,dd,data,sl⟩,ho,hc,n,hd⟩:=id p1
 obtain⟨⟨UC,Te,data2,Tf⟩,SF,Tv,n2,Tw⟩:=id p2
 simp only at hc hd Tv Tw
 subst hc hd Tv Tw
 exact MT ⟨_,ho,rfl⟩ ⟨_,SF,rfl⟩ Lp Mv Kc K4 (JS _ _)
   (rf a b _ _ n n2 dd Te sl Tf rfl) ⟨ho,SF,⟨.ref b,H,I,rfl,q⟩⟩
end
end L2
namespace L2
open PySem PySem.Spec PyProof.Rows
section
variable {X:Cx}
theorem kq:∀{bs:List Bool} {its:List Gu},aL (bs.map V.bl) its->∀{i:Nat} {v:Gu},its[i]? =some v->∃b,bs[i]? =some b/\v= .bool b:=by
 intro bs its r i v e
 have hl:=r.length
 rw[GA]at hl
 have hi:i<bs.length:=by rw[hl];exact(GV.mp e).1
 obtain⟨u,h1,h2⟩:=r.get (i:=i) (x:=V.bl bs[i]) (by simp[hi])
 rw[e]at h1
 cases h1
 exact⟨bs[i],by simp[hi],h2⟩
theorem i7:∀{ns:List Int} {its:List Gu},aL (ns.map V.int) its->∀{i:Nat} {v:Gu},its[i]? =some v->∃t,v= .int (ns.getD i 0) t:=by
 intro ns its r i v e
 have hl:=r.length
 rw[GA]at hl
 have hi:i<ns.length:=by rw[hl];exact(GV.mp e).1
 obtain⟨u,h1,h2⟩:=r.get (i:=i) (x:=V.int ns[i]) (by simp[hi])
 rw[e]at h1
 cases h1
 obtain⟨t,ht⟩:=h2
 exact⟨t,by rw[ht];simp[hi]⟩
theorem sY (bs:List Bool):((Hy bs.length).any λi=>bs.getD i false)=bs.any id:=by
 rw[IZ,HU,HU]
 constructor
 ·rintro⟨i,h1,h2⟩
  have hi:=HW.mp h1
  exact⟨bs[i],JB hi,by simpa[hi]using h2⟩
 ·rintro⟨b,h1,h2⟩
  obtain⟨i,hi,e⟩:=IS h1
  exact⟨i,HW.mpr hi,by simp[hi,e];exact h2⟩
theorem lg {s:Gx} {it:Hi} {h':GY} (hk:∀b o,b∉[s.heap.objs.size]->(s.heap.push it).get? b=some o->h'.get? b=some o):∀b o,s.heap.get? b=some o->h'.get? b=some o:=λb o e=>
 hk b o (λz=>by rw[GS.mp z]at e;exact absurd (GR e) (H_ _)) (GF _ e)
theorem fF (hc:X.calm=true):c7 X (.builtin "any") (λxs H Q=>∃(p:Gw) (bs:List Bool),xs=[.ref p]/\c9 X.K H p (bs.map V.bl)/\Q (.bl (bs.any id)) H):=by
 intro O0 s σ H xs us Q I rv h
 obtain⟨p,bs,rfl,hx,q⟩:=h
 obtain⟨u,rfl,ru⟩:=gO rv
 cases ru
 obtain⟨its,r,ht,hz⟩:=I.list hx
 have hl:=ht.isList
 have Qa:p<s.heap.objs.size:=by obtain⟨_,e,_⟩:=hl;exact GR e
 refine call_any_walk (Jm hl ?_)
 refine⟨s.heap.objs.size,[s.heap.objs.size,p],[s.heap.objs.size],its.toArray.size,_,_,λi=>bs.getD i false,rfl,Ms (A:=X.A.in1) (I.ok.hd hc) _ p (Hj Qa) its.toArray,⟨⟨_,He _ rfl,rfl,rfl⟩,hl.push _⟩,λi v s' Q' E' hP hQ=> ?_,λh' tk hk=> ?_⟩
 ·obtain⟨b,e,rfl⟩:=kq r (i:=i) (v:=v) (by simpa using hP)
  have:bs.getD i false=b:=by simp[Iy,e]
  dsimp only at hQ
  rw[this]at hQ
  exact IJ hQ
 ·have e:((Hy its.toArray.size).any λi=>bs.getD i false)=bs.any id:=by
   have hl:=r.length
   rw[GA]at hl
   rw[GB,<-hl];exact sY bs
  rw[e]
  exact⟨.bl _,H,I.kept (lg hk),rfl,q⟩
def xl (k:Bool):Gu->Bool
 | .bool b=>b==k
 |_=>false
theorem uC {k:Bool}:∀{bs:List Bool} {its:List Gu},aL (bs.map V.bl) its->its.countP (xl k)=bs.count k
 |[],its,r=>by cases r;rfl
 |b::bs,its,r=>by
  cases r with
  |cons h t=>cases h;rw[Nj,NB,uC t];rfl
def zN (K:Gs):V->List V->Hp->VK->Prop:=λx vs H Q=>∃(l:Gw) (k:Bool) (bs:List Bool),x= .ref l/\vs=[.bl k]/\c9 K H l (bs.map V.bl)/\Q (.int (bs.count k)) H
theorem vB:zt X "list.count" (zN X.K):=by
 intro O0 s σ H x vs v us Q I rx rv h
 obtain⟨l,k,bs,rfl,rfl,hx,q⟩:=h
 cases rx
 obtain⟨u,rfl,ru⟩:=rv.one
 cases ru
 obtain⟨its,r,ht,hz⟩:=I.list hx
 obtain⟨⟨cls,dd,data,sl⟩,ho,hc,n,hd⟩:=ht.isList
 simp only at hc hd
 subst hc hd
 refine IX Jf ⟨_,ho,rfl⟩ Ly (Lf _ _) (Lz l its.toArray n dd sl (.bool k) (xl k)) ⟨ho,λy hy=> ?_,?_⟩
 ·obtain⟨i,hi,e⟩:=IS (show y∈its by simpa using hy)
  obtain⟨b,_,rfl⟩:=kq r (i:=i) (v:=y) (by rw[Hm hi,e])
  exact JU b k
 ·rw[show its.toArray.toList=its from rfl,uC r]
  exact⟨.int _,H,I.tok _,⟨_,rfl⟩,q⟩
theorem DR {k:Bool} {bs:List Bool} {its:List Gu} (r:aL (bs.map V.bl) its) {i:Nat} (hi:i<its.length):∃h:i<bs.length,its[i]= .bool bs[i]:=by
 obtain⟨b,h1,h2⟩:=kq r (i:=i) (v:=its[i]) (Hm hi)
 obtain⟨l,e⟩:=GV.mp h1
 exact⟨l,by rw[h2,e]⟩
theorem xm {k:Bool}:∀{bs:List Bool} {m:Nat} (hm:m<bs.length),m<bs.idxOf k->(bs[m]==k)=false
 |b::bs,0,hm,h=>by
  rw[NC]at h
  cases e:b==k with
  |true=>rw[e]at h;simp at h
  |false=>exact e
 |b::bs,m+1,hm,h=>by
  rw[NC]at h
  cases e:b==k with
  |true=>rw[e]at h;simp at h
  |false=>
   rw[e]at h
   exact xm (bs:=bs) (m:=m) (by simpa using hm) (by simp at h;omega)
def zO (K:Gs):V->List V->Hp->VK->Prop:=λx vs H Q=>∃(l:Gw) (k:Bool) (bs:List Bool),x= .ref l/\vs=[.bl k]/\c9 K H l (bs.map V.bl)/\k∈bs/\bs.length<1000/\Q (.int (bs.idxOf k)) H
theorem vC:zt X "list.index" (zO X.K):=by
 intro O0 s σ H x vs v us Q I rx rv h
 obtain⟨l,k,bs,rfl,rfl,hx,hk,hl,q⟩:=h
 cases rx
 obtain⟨u,rfl,ru⟩:=rv.one
 cases ru
 obtain⟨its,r,ht,hz⟩:=I.list hx
 have Oe:=r.length
 rw[GA]at Oe
 obtain⟨⟨cls,dd,data,sl⟩,ho,hc,n,hd⟩:=ht.isList
 simp only at hc hd
 subst hc hd
 have hj:=List.idxOf_lt_length_of_mem hk
 refine IX LG ⟨_,ho,rfl⟩ PySem.F.entry_list_index (PySem.F.args_list_index_2 _ _) (PySem.SeqAt.list_indexAt l its.toArray n dd sl (.bool k) (xl k) (bs.idxOf k) (by rw[GB,<-Oe];exact hj) (by omega) ?_ ?_) ⟨ho,λy hy=> ?_,?_⟩
 ·obtain⟨h1,e⟩:=DR (k:=k) r (i:=bs.idxOf k) (by rw[<-Oe];exact hj)
  show xl k (its[bs.idxOf k]'_)=true
  rw[e]
  show (bs[bs.idxOf k]==k)=true
  simp
 ·intro m hm Qa
  obtain⟨h1,e⟩:=DR (k:=k) r (i:=m) (by simpa using hm)
  show xl k (its[m]'_)=false
  rw[e]
  exact xm h1 Qa
 ·obtain⟨i,hi,e⟩:=IS (show y∈its by simpa using hy)
  obtain⟨b,_,rfl⟩:=kq r (i:=i) (v:=y) (by rw[Hm hi,e])
  exact JU b k
 ·exact⟨.int _,H,I.tok _,⟨_,rfl⟩,q⟩
end
end L2
namespace L2
open PySem PySem.Spec PyProof.Rows
theorem oF:isSubtype (.type "tuple") (.type "set")=pure false:=by rw[isSubtype_type];kernel_rfl
theorem nG:isSubtype (.type "tuple") (.type "frozenset")=pure false:=by rw[isSubtype_type];kernel_rfl
abbrev setNew (Rt:Bool):Hi:={cls:= .type "set",dict:=none,data:= .set #[] 0 (.fresh 0 0 Rt)}
abbrev xn (prog:GP) (w:G_) (h':GY) (a:Gw) (ns:List Int) (n:Nat):Prop:=h'.SetOf (intKind prog w) a (λk=>(Nk (λi=>ns.getD i 0) n).any (·==k)) (Nk (λi=>ns.getD i 0) n).length
set_option maxHeartbeats 8000000 in
theorem vD {prog:GP} {w:G_} {A:Hd} {E:Gu->Gx->Prop} {s:Gx} {u:Gw} {xs:Array Gu} {ns:List Int} {Q:Gu->Gx->Prop} (hh:A.handled=none) (ht:s.heap.IsTuple u xs) (hi:∀(i:Nat) (v:Gu),xs[i]? =some v->∃t,v= .int (ns.getD i 0) t) (hb:xs.size+1<MZ)
  (Qe:∀(h':GY) (tk:Nat),xn prog w h' s.heap.objs.size ns xs.size->(∀b o,b<s.heap.objs.size->s.heap.get? b=some o->h'.get? b=some o)->Q (.ref s.heap.objs.size) {s with heap:=h',toks:=tk}):GI (GN prog w) A (call (.type "set") [.ref u]) Q E s:=by
 obtain⟨c,tl,WG⟩:=F.called_set.mro
 have m1:=F.called_set.made
 have m2:=F.called_set.sub
 have m3:=F.called_set.notType
 have m4:=F.called_set.canCreate
 have m5:=F.typeCall_set_1 (.ref u)
 refine Ld (codeAny_of_tree ?_)
 show GI _ _ (callAny (.type "set") _) _ _ _
 refine GH ⟨M_ _ (by decide+kernel),codeAny_builtin F.entry_type_call ?_⟩
 rw[Around.under_plain (weight_type_call_type "set" [.ref u] []) rfl]
 repeat (any_goals (first|assumption|wp_step))
 refine JR (code_set_new_1 (.ref u) (E:=E) (Q₁:=λo s₁=>∃Rt:Bool,o= .ref s.heap.objs.size/\s₁={s with heap:=s.heap.push (setNew Rt)}) λRt=>⟨Rt,rfl,rfl⟩) λr s₁ hr=> ?_
 cases r with
 |error e=>exact hr
 |ok fl=>
  cases fl with
  |ret o=>
   obtain⟨Rt,rfl,rfl⟩:=hr
   have gS:(s.heap.push (setNew Rt)).get? s.heap.objs.size=some (setNew Rt):=He _ rfl
   have tS:Shared.TypeIs {s with heap:=s.heap.push (setNew Rt)} (.ref s.heap.objs.size) "set":=⟨_,gS,rfl⟩
   have n1:=F.called_set.init.lookup
   have n2:=F.called_set.init.bind (.ref s.heap.objs.size)
   repeat (any_goals (first|assumption|wp_step))
   refine JR (Ky (R:=wants (λr s₂=>r= .none/\∃h' tk,s₂={s with heap:=h',toks:=tk}/\xn prog w h' s.heap.objs.size ns xs.size/\∀b o,b<s.heap.objs.size->s.heap.get? b=some o->h'.get? b=some o) E) F.called_set.init.plain F.entry_set_init (check_set_init_1 tS ?_)) λr₂ s₂ U_=> ?_
   ·have Y3:=ht
    obtain⟨ot,VO,VP,nt,VQ⟩:=ht
    obtain⟨WH,TR,VR,SQ⟩:=ot
    simp only at VP VQ
    subst VP
    subst VQ
    have V0:(s.heap.push (setNew Rt)).get? u=some {cls:= .type "tuple",dict:=TR,data:= .seq xs nt,slots:=SQ}:=GF _ VO
    have k1:=oF
    have k2:=nG
    have k3:(J6 "tuple"==J6 "dict")=false:=by decide
    have t1:(s.heap.push (setNew Rt)).IsTuple u xs:=⟨_,V0,rfl,nt,rfl⟩
    unfold Lk.«set.__init__» noKeywords NL
    generalize WI:pyIter=PI
    wp_walk
    subst WI
    refine MN t1 (Gz (wpAny_runValue ?_))
    have hu:u<s.heap.objs.size:=GR VO
    have h3:A.in1.in1.in1.handled=none:=by simp[hh]
    have z1:u≠(s.heap.push (setNew Rt)).objs.size:=by rw[IU];exact Hj (IL hu)
    have z2:s.heap.objs.size∉[(s.heap.push (setNew Rt)).objs.size,u]:=by
     rw[IU]
     intro z
     rcases GK.mp z with z|z
     ·exact Hj (Jz _) z
     ·exact Nat.ne_of_gt hu (GS.mp z)
    refine codeAny_set_update_loopS (Walks.tuple h3 _ u z1 xs).toS s.heap.objs.size z2 (λi=>ns.getD i 0) (λi v hv=>hi i v hv) hb (xs.size - 0) 0 _ (by omega) (Il _) ⟨⟨_,He _ rfl,rfl,rfl⟩,t1.push _⟩ ?a0 ?a1
    case a0=>
     exact SetOf_congr ((setObjOf_fresh (knd:=intKind prog w) Rt).setOf (GF _ gS) (by unfold MZ;omega)) (λ_=>rfl) rfl
    case a1=>
     intro s' hm V1
     obtain⟨h',g',d',WJ,UB⟩:=s'
     obtain rfl:g'=s.gens:=hm.gens
     obtain rfl:d'=s.drawn:=hm.drawn
     obtain rfl:UB=s.os:=hm.os
     show GI _ _ _ _ _ _
     refine GH ?_
     show GI _ _ (ret HL) _ _ _
     refine GH ⟨rfl,h',WJ,rfl,V1,λb o hb e=>hm.heap b o ?_ (GF _ (GF _ e))⟩
     rw[IU]
     intro z
     rcases GK.mp z with z|z
     ·exact Hj hb z
     ·exact Hj (IL hb) (GS.mp z)
   ·cases r₂ with
    |error e=>exact U_
    |ok WK=>
     cases WK with
     |ret r=>
      obtain⟨rfl,h',tk,rfl,V1,Rh⟩:=U_
      repeat (any_goals (first|assumption|wp_step))
      exact Qe _ _ V1 Rh
     |_=>exact U_.elim
  |_=>exact hr.elim
def dR (ns:List Int):Nat:=(Nk (λi=>ns.getD i 0) ns.length).length
section
variable {X:Cx} {e:GD} {te:TE} {p1 p2 pos Pz:Hr}
def zP (K:Gs) (te:TE):TE:=λσ H Q=>te σ H λx H1=>∃(a:Gw) (ns:List Int),[x]=[V.ref a]/\(c9 K H1 a (ns.map V.int)\/fE K H1 a (ns.map V.int))/\ns.length<4000/\Q (.int (dR ns)) H1
theorem xo:Ho "set"=some (.type "set"):=by decide+kernel
theorem vE:Ho "len"=some (.builtin "len"):=by decide+kernel
theorem vF (hc:X.calm=true) (he:PE X e te) (TU:X.mg "len"=none) (Sr:X.mg "set"=none) (TV:Gl X "len") (V2:Gl X "set")
  (SR:Gy [e] X.env=(false,GW e X.env)::Gy [] X.env) (RT:(Hb Pz (Gy [] X.env)).any (·.1)=false)
  (RM:Gy [.Call (.Name "set" p2) [e] [] Pz] X.env=(false,GW (.Call (.Name "set" p2) [e] [] Pz) X.env)::Gy [] X.env) (SS:(Hb pos (Gy [] X.env)).any (·.1)=false):
  PE X (.Call (.Name "len" p1) [.Call (.Name "set" p2) [e] [] Pz] [] pos) (zP X.K te):=by
 intro O0 s σ H Q I h
 refine IY (k_ I TV TU vE ?_ (by decide) (by decide))
 refine Kv ?_ RM SS
 rw[RM]
 show GI _ _ (NG ((false,GW (.Call (.Name "set" p2) [e] [] Pz) X.env)::Hb pos (Gy [] X.env))) _ _ s
 refine MS ?_
 refine IY (k_ I V2 Sr xo ?_ (by decide) (by decide))
 refine Jx ?_ SR RT
 refine bW (bt he cY SR Pz O0 s σ H (λvs H1=>∃(a:Gw) (ns:List Int),vs=[V.ref a]/\(c9 X.K H1 a (ns.map V.int)\/fE X.K H1 a (ns.map V.int))/\ns.length<4000/\Q (.int (dR ns)) H1) I h) λus s1 z_=> ?_
 obtain⟨vs,H1,I1,r1,a,ns,rfl,hx,hl,q⟩:=z_
 obtain⟨u,rfl,ru⟩:=gO r1
 cases ru
 have Qe:∀(n:Nat),n=ns.length->∀(h':GY) (tk:Nat),xn X.prog X.w h' s1.heap.objs.size ns n->(∀b o,b<s1.heap.objs.size->s1.heap.get? b=some o->h'.get? b=some o)->
   GI (GN X.prog X.w) X.A (NG (Hb pos (Gy [] X.env))) (λus s2=>GI (GN X.prog X.w) X.A (call (.builtin "len") (.ref s1.heap.objs.size::us)) (EP X O0 σ Q) X.xe s2) X.xe {s1 with heap:=h',toks:=tk}:=by
  rintro n rfl h' tk hS hk
  refine N6 ?_
  obtain⟨o,es,ep,t,ho,WL,hd,Rr,RQ,_,hf,TX⟩:=hS
  have Y4:=firstMet_length_le (λi=>ns.getD i 0) ns.length
  refine call_len_set ho WL hd hf (by rw[TX];omega) ?_
  rw[TX]
  exact⟨.int _,H1,(I1.kept λb o e=>hk b o (GR e) e).tok _,⟨_,rfl⟩,q⟩
 rcases hx with hx|hx
 ·obtain⟨its,r,ht,hz⟩:=I1.list hx
  have Oe:=r.length
  rw[GA]at Oe
  exact call_set_list (I1.ok.hd hc) ht.isList (jK r) (by rw[GB,<-Oe];unfold MZ;omega) λh' tk a b=>Qe _ (by rw[GB,Oe]) h' tk a b
 ·obtain⟨its,r,ht,hz⟩:=I1.tuple hx
  have Oe:=r.length
  rw[GA]at Oe
  exact vD (I1.ok.hd hc) ht (λi v hv=>i7 r (by simpa using hv)) (by rw[GB,<-Oe];unfold MZ;omega) λh' tk a b=>Qe _ (by rw[GB,Oe]) h' tk a b
end
end L2
namespace L2
open PySem PySem.Spec PyProof.Rows
theorem bp.there {P:GP} {w:G_} {H:Hp} {h:GY} {a:Gw} {o:HO} (x:bp P w H h a o):∃ob,h.get? a=some ob:=by
 cases o with
 |lst xs=>obtain⟨_,_,_,_,e⟩:=x;exact⟨_,e⟩
 |tup xs=>obtain⟨_,_,_,o,e,_⟩:=x;exact⟨_,e⟩
 |dK kvs=>obtain⟨_,_,_,_,o,_,_,e,_⟩:=x;exact⟨_,e⟩
 |dT kvs=>obtain⟨_,_,_,_,o,_,_,e,_⟩:=x;exact⟨_,e⟩
 |set S n=>obtain⟨o,_,_,_,e,_⟩:=x;exact⟨_,e⟩
 |ins C dx fs=>obtain⟨_,_,_,e,_⟩:=x;exact⟨_,e⟩
 |own y=>obtain⟨_,e⟩:=x;exact⟨_,e⟩
 |xd fs=>obtain⟨_,⟨_,_,_,e,_⟩,_⟩:=x;exact⟨_,e⟩
 |rng lo hi=>obtain⟨_,_,_,e⟩:=x;exact⟨_,e⟩
 |frz ob u=>obtain⟨e,_⟩:=x;exact⟨_,e⟩
 |tbl ps=>exact⟨_,(show h.get? a=some _ from x)⟩
 |met f y=>exact⟨_,(show h.get? a=some _ from x)⟩
 |ext φ=>obtain⟨_,⟨_,e⟩,_⟩:=x;exact⟨_,e⟩
theorem iK.none_of {P:GP} {w:G_} {H:Hp} {h:GY} {a:Gw} (x:iK P w H h) (e:h.get? a=none):H a=none:=by
 cases q:H a with
 |none=>rfl
 |some o=>obtain⟨ob,z⟩:=(x a o q).there;rw[e]at z;cases z
structure sZ (X:Cx) (O0:List (Gw×Hi)) (H:Hp) (b:Gw):Prop where
 s0:X.s₀.heap.get? b=none
 no:H b=none
 pin:∀p∈X.pn++O0,p.1≠b
structure BZ (X:Cx) (O0:List (Gw×Hi)) (H:Hp) (h:GY) (a T:Gw) (fl:Gu):Prop where
 new:sZ X O0 H T
 ne:T≠a
 at_:∃oT ts,h.get? T=some oT/\oT.data= .fields ts/\ts[3]? =some fl
structure Fl (X:Cx) (O0:List (Gw×Hi)) (H:Hp) (h:GY) (a:Gw) (cls:Gu):Prop where
 new:sZ X O0 H a
 at_:∃oe vs,h.get? a=some oe/\oe.cls=cls/\oe.data= .fields vs/\(vs[1]? =some .none\/∃T fl,vs[1]? =some (.ref T)/\BZ X O0 H h a T fl/\(fl= .none\/fl=rawInt X.env.locals))
structure D5 (X:Cx) (O0:List (Gw×Hi)) (H:Hp) (h:GY) (a:Gw) (cls fl:Gu):Prop where
 new:sZ X O0 H a
 at_:∃oe vs,h.get? a=some oe/\oe.cls=cls/\oe.data= .fields vs/\∃T,vs[1]? =some (.ref T)/\BZ X O0 H h a T fl
abbrev DS (X:Cx) (O0:List (Gw×Hi)) (H:Hp) (h:GY) (a:Gw) (cls:Gu):Prop:=D5 X O0 H h a cls .none
theorem D5.flo {X:Cx} {O0:List (Gw×Hi)} {H:Hp} {h:GY} {a:Gw} {cls fl:Gu} (f:D5 X O0 H h a cls fl) (hf:fl= .none\/fl=rawInt X.env.locals):Fl X O0 H h a cls:=
 let ⟨oe,vs,h1,h2,h3,T,h4,h5⟩:=f.at_;⟨f.new,oe,vs,h1,h2,h3, .inr ⟨T,fl,h4,h5,hf⟩⟩
theorem D5.fl {X:Cx} {O0:List (Gw×Hi)} {H:Hp} {h:GY} {a:Gw} {cls:Gu} (f:D5 X O0 H h a cls .none):Fl X O0 H h a cls:=f.flo (.inl rfl)
section
variable {X:Cx} {O0:List (Gw×Hi)} {σ:St} {H H':Hp} {s s':Gx} {a:Gw} {cls:Gu}
structure gQ (X:Cx):Prop where
 st:X.stack=X.env::X.outer
 fr:X.env.frame=some X.env.locals
 ex:X.ex=[]
theorem sZ.of (I:aB X O0 σ H s) (p:gQ X) {b:Gw} (h:s.heap.get? b=none) (hH:H' b=none):sZ X O0 H' b:=by
 refine⟨?_,hH,λq hq z=> ?_⟩
 ·cases e:X.s₀.heap.get? b with
  |none=>rfl
  |some o=>
   obtain⟨o',e'⟩:=I.base.there b o e (by rw[p.ex];simp)
   rw[h]at e';cases e'
 ·have:=(I.pin q hq).1
  rw[z,h]at this;cases this
def uD (h B:GY) (a:Gw) (cls fl:Gu):Prop:=∃oe vs T oT ts,h.get? a=some oe/\oe.cls=cls/\oe.data= .fields vs/\vs[1]? =some (.ref T)/\B.get? T=none/\T≠a/\h.get? T=some oT/\oT.data= .fields ts/\ts[3]? =some fl
theorem _root_.PySem.Heap.TracedAtW.tl {h B:GY} {a:Gw} {cls a0 fl:Gu} (t:h.TracedAtW B a cls a0 fl):uD h B a cls fl:=
 let ⟨oe,vs,T,oT,ts,g1,g2,g3⟩:=t;⟨oe,vs,T,oT,ts,g1,g2.1,g3⟩
theorem pb (I:aB X O0 σ H s) (p:gQ X) (fl:Fl X O0 H s.heap a cls):∃(B:GY) (oe:Hi) (vs:Array Gu),s.heap.get? a=some oe/\oe.cls=cls/\oe.data= .fields vs/\s.heap.FunFrames B (X.env::X.outer)/\B.StaysIn s.heap/\B.get? a=none/\
  (vs[1]? =some .none\/∃T oT ts fl,vs[1]? =some (.ref T)/\B.get? T=none/\T≠a/\s.heap.get? T=some oT/\oT.data= .fields ts/\ts[3]? =some fl/\(fl= .none\/fl=rawInt X.env.locals))/\
  ∀h' fl,B.StaysIn h'->uD h' B a cls fl->s.heap.UpToSlots h'->aB X O0 σ H {s with heap:=h'}/\D5 X O0 H h' a cls fl:=by
 obtain⟨oe,vs,ge,gc,gd,gt⟩:=fl.at_
 obtain⟨rest,Ss,TY⟩:∃rest:List Gw,(∀b∈rest,sZ X O0 H b/\∃oT ts,s.heap.get? b=some oT/\oT.data= .fields ts)/\(vs[1]? =some .none\/∃T fl,vs[1]? =some (.ref T)/\BZ X O0 H s.heap a T fl/\(fl= .none\/fl=rawInt X.env.locals)/\T∈rest):=by
  rcases gt with g|⟨T,fl,g,t,V3⟩
  ·exact⟨[],(λb hb=>by cases hb), .inl g⟩
  ·obtain⟨oT,ts,e1,e2,_⟩:=t.at_
   exact⟨[T],λb hb=>by rw[GS.mp hb];exact⟨t.new,oT,ts,e1,e2⟩, .inr ⟨T,fl,g,t,V3,GS.mpr rfl⟩⟩
 have V4:∀b,b∈X.fs->b∈mK X.stack:=λb hb=>by
  rw[p.st]
  unfold mK
  rw[Jd,p.fr]
  exact GU _ hb
 have V5:X.env.locals∈mK X.stack:=by
  rw[p.st]
  unfold mK
  rw[Jd,p.fr]
  exact GO
 have V6:∀b∈a::rest,sZ X O0 H b/\∃oT ts,s.heap.get? b=some oT/\oT.data= .fields ts:=λb hb=>by
  rcases GK.mp hb with rfl|hb
  ·exact⟨fl.new,oe,vs,ge,gd⟩
  ·exact Ss b hb
 have Ul:∀b∈mK X.stack,∃o,s.heap.get? b=some o/\∀vs:Array Gu,o.data≠Data.fields vs:=λb hb=>(I.stack.mem hb).2
 have apart:∀b∈a::rest,b∉mK X.stack:=λb hb z=>by
  obtain⟨_,o,ts,e1,e2⟩:=V6 b hb
  obtain⟨o',e3,e4⟩:=Ul b z
  rw[e1]at e3;cases e3
  exact e4 ts e2
 let VS:List Gw:=(a::rest)++mK X.stack
 let B:GY:=Nq s.heap VS
 have ff:s.heap.FunFrames B X.stack:=PySem.W.funFrames_hide I.stack λenv he b hb=>Hk _ (KL.mpr ⟨env,he,hb⟩)
 have hB:B.StaysIn s.heap:=λb o e=>ML _ e
 have SU:B.get? a=none:=Kq _ (HE _ GO)
 have WM:s.heap.FunFrames B (X.env::X.outer):=by rw[<-p.st];exact ff
 refine⟨B,oe,vs,ge,gc,gd,WM,hB,SU,?_,λh' Y5 st ⟨VT,SV,T',V7,Um,g1,g2,g3,g4,g5,g6,g7,g8,g9⟩ up=> ?_⟩
 ·rcases TY with g|⟨T,fl,g,t,V3,hT⟩
  ·exact .inl g
  ·obtain⟨oT,ts,e1,e2,e3⟩:=t.at_
   exact .inr ⟨T,oT,ts,fl,g,Kq _ (HE _ (GU _ hT)),t.ne,e1,e2,e3,V3⟩
 ·have Uo:∀b o,s.heap.get? b=some o->b∉a::rest->b∉mK X.stack->h'.get? b=some o:=λb o e n1 n2=>
   st b o (KD _ e λz=>(HP.mp z).elim n1 n2)
  have newT:sZ X O0 H T':=by
   by_cases hr:T'∈rest
   ·exact(Ss T' hr).1
   ·have hn:s.heap.get? T'=none:=by
     cases e:s.heap.get? T' with
     |none=>rfl
     |some o=>
      by_cases hf:T'∈mK X.stack
      ·obtain⟨o',e3,e4⟩:=Ul T' hf
       obtain⟨sl,e5⟩:=up T' o' e3 e4
       rw[g7]at e5;cases e5
       exact absurd g8 (e4 Um)
      ·have:=KD VS (b:=T') e λz=>(HP.mp z).elim (λq=>(GK.mp q).elim g6 hr) hf
       rw[g5]at this;cases this
    exact sZ.of I p hn (I.hok.none_of hn)
  refine⟨I.step (g':=s.gens) (d':=s.drawn) (t':=s.toks) (ch:=a::rest) (λb hb=> ?_) (λb o n1 n2 n3 e _=> ?_) (λb o _ hb n3 e _=> ?_) (λ_ _ _ _ n=>n) (λb o n e=> ?_) (λ_ _ e=>e) (λ_ _ _ e=>e) (λb ps e=>⟨#[],by rw[e];simp⟩) (λm hm=> ?_) (λb u e=> ?_) I.bare,
   ⟨fl.new,VT,SV,g1,g2,g3,T',g4,newT,g6,V7,Um,g7,g8,g9⟩⟩
  ·obtain⟨n,o,ts,e1,e2⟩:=V6 b hb
   refine⟨.inr n.s0,λz=>apart b hb (by rw[z];exact V5),λx c hc z=> ?_,n.pin⟩
   obtain⟨v,o',e3,e4⟩:=I.cell x c hc
   rw[z,e1]at e3;cases e3
   rw[e2]at e4;cases e4
  ·exact Uo b o e n3 λz=>(GK.mp (I.stkSub b z)).elim n1 n2
  ·obtain⟨o',e3,e4⟩:=Ul b (V4 b hb)
   rw[e]at e3;cases e3
   exact up b o e e4
  ·by_cases hf:b∈mK X.stack
   ·obtain⟨o',e3,e4⟩:=Ul b hf
    rw[e]at e3;cases e3
    obtain⟨sl,e5⟩:=up b o e e4
    exact⟨_,e5⟩
   ·exact⟨o,Uo b o e n hf⟩
  ·obtain⟨o,es,ep,ho,hd,r⟩:=hm
   obtain⟨sl,e5⟩:=up _ o ho λvs z=>by rw[hd]at z;cases z
   exact⟨_,es,ep,e5,hd,r⟩
  ·have nh:∀c v,H c=some v->c∉a::rest/\c∉mK X.stack:=λc v hc=>⟨λz=>(by have:=(V6 c z).1.no;rw[hc]at this;cases this),λz=>(by have:=I.stkFree c z;rw[hc]at this;cases this)⟩
   refine(I.hok b u e).stay (λc v hc q=> ?_) (λ_ q=>q) λ_ _ q=>q
   rcases hc with z|z
   ·rw[z]at q ⊢;exact Uo b v q (nh b u e).1 (nh b u e).2
   ·exact Uo c v q (nh c _ z).1 (nh c _ z).2
theorem xp {vs:Array Gu} {v:Gu} (h:vs[1]? =some v):1<vs.size/\∃a0,vs[0]? =some a0:=by
 have QW:1<vs.size:=by
  by_cases z:1<vs.size
  ·exact z
  ·rw[Array.getElem?_eq_none (Ls z)]at h;cases h
 exact⟨QW,vs[0]'(by omega),by simp⟩
theorem rg {Q:Unit->Gx->Prop} {E:Gu->Gx->Prop} (I:aB X O0 σ H s) (p:gQ X) (fl:Fl X O0 H s.heap a cls)
  (k:∀h',aB X O0 σ H {s with heap:=h'}->DS X O0 H h' a cls->Q () {s with heap:=h'}):
  GI (GN X.prog X.w) X.A (MX (.ref a) X.env) (λ_ s₂=>GI (GN X.prog X.w) X.A (setFlight (.ref a) none) Q E s₂) E s:=by
 obtain⟨B,oe,vs,ge,gc,gd,ff,hB,SU,hn,hk⟩:=pb I p fl
 have P_:X.A.frames=some (X.env::X.outer):=by rw[I.ok.frames,p.st]
 rcases hn with g|⟨T,oT,ts,f,g1,g2,g3,g4,g5,g6,g7⟩
 ·obtain⟨QW,a0,h0⟩:=xp g
  unfold MX
  rw[p.fr]
  refine Gz (LV (o:=oe) ge (by rw[gd]) g ?_)
  refine wpAny_newEntryW (head:= .none) (hadNext:=false) P_ ff p.fr ge hB SU gd QW h0 λh' z_=> ?_
  obtain⟨st,_,tr,up⟩:=z_
  rw[gc]at tr
  obtain⟨I',f'⟩:=hk h' _ st tr.at.tl up
  exact k h' I' f'
 ·obtain⟨QW,a0,h0⟩:=xp g1
  rcases g7 with rfl|rfl
  ·refine wpAny_looks_onW (cls:=cls) (a0:=a0) P_ p.fr ⟨hB,SU,ff,oe,vs,T,oT,ts,ge,⟨gc,h0⟩,gd,g1,g2,g3,g4,g5,g6⟩ λh1 V8 u1=> ?_
   refine wpAny_landsW V8 λh2 ⟨st,_,_,tr⟩ u2=> ?_
   obtain⟨I',f'⟩:=hk h2 _ st tr.at.tl (u1.trans u2)
   exact k h2 I' f'
  ·have VU:s.heap.TracedAtW B a cls a0 (rawInt X.env.locals):=⟨oe,vs,T,oT,ts,ge,⟨gc,h0⟩,gd,g1,g2,g3,g4,g5,g6⟩
   refine wpAny_noteFrame_againW p.fr VU ?_
   refine wpAny_landsW (base:=B) (l:=X.env::X.outer) (L:=X.env.locals) ⟨hB,SU,ff,VU⟩ λh2 ⟨st,_,_,tr⟩ u2=> ?_
   obtain⟨I',f'⟩:=hk h2 _ st tr.at.tl u2
   exact k h2 I' f'
theorem xq {Q:Unit->Gx->Prop} {E:Gu->Gx->Prop} (I:aB X O0 σ H s) (p:gQ X) (fl:Fl X O0 H s.heap a cls)
  (k:∀h',aB X O0 σ H {s with heap:=h'}->DS X O0 H h' a cls->Q () {s with heap:=h'}):GI (GN X.prog X.w) X.A (leaving X.env (.ref a)) Q E s:=
 Gz (rg I p fl k)
def Gc (g:GY) (H:Hp) (h:GY) (a:Gw) (cls:Gu):Prop:=g.get? a=none/\H a=none/\∃oe vs T oT ts,h.get? a=some oe/\oe.cls=cls/\oe.data= .fields vs/\vs[1]? =some (.ref T)/\g.get? T=none/\H T=none/\T≠a/\
 h.get? T=some oT/\oT.data= .fields ts/\ts[3]? =some .none
def iO (P:GP) (w:G_):sL:=λouter H s E e s'=>∃a cls H',e= .ref a/\s'.os=s.os/\JZ s'.gens/\Un (mK outer) [] H H' s.heap s'.heap/\iK P w H' s'.heap/\Gc s.heap H' s'.heap a cls/\E cls (some a) H'
theorem B_ {E:XK} {e:Gu} (I:aB X O0 σ H s) (p:gQ X) (h:iO X.prog X.w X.stack H s E e s'):∃a cls H',e= .ref a/\aB X O0 σ H' s'/\Fl X O0 H' s'.heap a cls/\E cls (some a) H':=by
 obtain⟨a,cls,H',rfl,os,bare,un,hok,⟨n1,n2,oe,vs,T,oT,ts,g1,g2,g3,g4,g5,g6,g7,g8,g9,VV⟩,q⟩:=h
 refine⟨a,cls,H',rfl,I.call' os un hok bare (λb hb=>by cases hb),⟨sZ.of I p n1 n2,oe,vs,g1,g2,g3, .inr ⟨T, .none,g4,⟨sZ.of I p g5 g6,g7,oT,ts,g8,g9,VV⟩, .inl rfl⟩⟩,q⟩
theorem nH {CX:sL} {P:GP} {w:G_} {K:Gs} {mg:Gv->Option Gu} {base:GY} {N:List Gv} {qual:Gv} {scope:IP} {f:Gw} {cd:Gu} {A:Hd} {outer:List Iz} {s:Gx} {H:Hp} {E:XK}:
  gQ (gg CX P w K mg base N qual scope f cd A outer s H E):=⟨rfl,rfl,rfl⟩
theorem s_ {P:GP} {w:G_} {K:Gs} {mg:Gv->Option Gu} {base:GY} {N:List Gv} {qual:Gv} {scope:IP} {f:Gw} {cd:Gu} {A:Hd} {outer:List Iz} {s0:Gx} {H0:Hp} {E:XK}
  (I:aB (gg (iO P w) P w K mg base N qual scope f cd A outer s0 H0 E) O0 σ H s) (fl:Fl (gg (iO P w) P w K mg base N qual scope f cd A outer s0 H0 E) O0 H s.heap a cls) (h:E cls (some a) H):
  (gg (iO P w) P w K mg base N qual scope f cd A outer s0 H0 E).xe (.ref a) s:=by
 refine xq I nH fl λh' I' f'=> ?_
 obtain⟨oe,vs,g1,g2,g3,T,g4,t⟩:=f'.at_
 obtain⟨oT,ts,g5,g6,g7⟩:=t.at_
 exact⟨a,cls,H,rfl,I'.os,I'.bare,I'.base,I'.hok,⟨f'.new.s0,f'.new.no,oe,vs,T,oT,ts,g1,g2,g3,g4,t.new.s0,t.new.no,t.ne,g5,g6,g7⟩,h⟩
end
end L2
namespace L2
open PySem PySem.Spec PyProof.Rows
theorem cZ {α:Type} {M:N2} {A:Hd} {t:Kj α} {r:α} {Q:α->Gx->Prop} {E:Gu->Gx->Prop} {s:Gx} (l:NQ M s.heap t r) (q:Q r s):GI M A t Q E s:=l A Q E s (λ_ _ e=>e) q
theorem jM {M:N2} {h:GY} {x C:Gw} {ox:Hi} (e:h.get? x=some ox) (hc:ox.cls= .ref C):NQ M h (typeOf (.ref x)) (.ref C):=λA Q E s k q=>
 Gz (wpAny_loadPart (k _ _ e) (GH (by rw[hc];exact q)))
theorem t0 {prog:GP} {w:G_} {A:Hd} {s:Gx} {K:Gs} {x C:Gw} {R:MO->Gx->Prop} {ox:Hi} {tp:Gu} (KX:K.In s.heap) (e:s.heap.get? x=some ox) (hc:ox.cls= .ref C) (hm:Hq K C (.type "object")=some true)
  (q:R (.ok (.ret (.ref C))) s):K0 (GN prog w) A (.call (.builtin "getset_descriptor.__get__") {pos:=[.builtin "object.__class__", .ref x,tp]}) R s:=by
 refine Ky N0.plain PySem.W.KF.entry_gs ?_
 refine N0.check _ _ _ _ _ _ _ _ PySem.W.KF.type_class (PySem.W.KF.args_gs _ _ _) ?_
 show GI _ _ (K9 _) _ _ _
 unfold K9
 rw[PySem.W.dga_obj]
 refine Gz (GH ?_)
 dsimp only
 unfold MG
 dsimp only
 unfold M0 M3
 dsimp only
 rw[PySem.W.KF.owner_class]
 refine Gz (Gz (GH ?_))
 refine Gz (Gz (cZ (jM e hc) (cZ (ME KX hm) ?_)))
 refine GH ?_
 refine JN ⟨M_ _ (by decide+kernel),codeAny_builtin PySem.W.KF.entry_class ?_⟩
 show GI _ _ (do let t<-shownTypeOf (.ref x);ret t) _ _ _
 unfold shownTypeOf
 refine Gz (Gz (cZ (jM e hc) ?_))
 rw[if_neg (by intro z;exact absurd z (by simp))]
 exact GH (JN q)
theorem zQ {prog:GP} {w:G_} {A:Hd} {E:Gu->Gx->Prop} {s:Gx} {K:Gs} {x C:Gw} {ox:Hi} {Q:Option Gu->Gx->Prop} (KX:K.In s.heap) (e:s.heap.get? x=some ox) (hc:ox.cls= .ref C)
  (h1:GQ K (.ref C) "__getattribute__"=some (some (.builtin "BaseException.__getattribute__"))) (h2:GQ K (.ref C) "__getattr__"=some none) (h3:GQ K (.ref C) "__class__"=some (some (.builtin "object.__class__")))
  (h4:Jo K (.builtin "object.__class__") "__get__"=some (some (.builtin "getset_descriptor.__get__"))) (h5:JJ K (.builtin "object.__class__")=some true) (h6:Hq K C (.type "object")=some true) (h7:Hq K C (.type "BaseException")=some true)
  (q:Q (some (.ref C)) {s with toks:=s.toks+1}):GI (GN prog w) A (getAttr? (.ref x) "__class__") Q E s:=by
 unfold getAttr?
 refine Gz (wpAny_mkText ?_)
 unfold getAttrBy?
 refine Gz (wpAny_attempt ?_)
 unfold getAttrBy
 refine HH (Gz (cZ (jM e hc) (Gz (cZ (Jy KX h1) ?_))))
 dsimp only
 rw[if_neg (by rw[show (JE "BaseException.__getattribute__"==JE "object.__getattribute__")=false by decide+kernel,NI];simp)]
 unfold getAttrByItsOwn hookBefore
 refine Gz ?_
 rw[if_pos (by rfl)]
 refine cZ (Jy KX h2) ?_
 refine Gz (wpAny_attempt (HH ?_))
 unfold callGetattribute
 rw[if_neg (by simp)]
 unfold boundAndCalled
 rw[F.attrBase_ValueError.ga.bind]
 refine Gz (GH ?_)
 dsimp only
 refine Ld (Ky F.attrBase_ValueError.ga.plain F.entry_bexc_ga ?_)
 show GI _ _ (checkBuiltinCall "BaseException.__getattribute__" {pos:=Hc x::[Ki (JT "__class__") s.toks],kw:=[]}) _ _ _
 refine PySem.W.check_slot (i:="BaseException.__getattribute__") (owner:="BaseException") (n:="__getattribute__") LA._proof_1_1 LA._proof_1_2 (λA Q E s k q=>Gz (jM e hc A _ E s k (ME KX h7 A _ E s k q))) (F.args_bexc_ga _ _) ?_
 unfold Lk.«object.__getattribute__»
 refine Gz (GH (a:=(Hc x,[Ki (JT "__class__") s.toks])) ?_)
 dsimp only
 refine Gz (GH (a:=JT "__class__") ?_)
 refine Gz (cZ (jM e hc) ?_)
 refine Gz ?_
 unfold NV
 refine Gz (cZ (Jy KX h3) ?_)
 refine Gz ?_
 show GI _ _ (specialOf _ _) _ _ _
 refine cZ (PySem.W.looks_specialIn KX h4) ?_
 refine Gz ?_
 show GI _ _ (do let b<-ND (JE "object.__class__");if b=true then pure (some (JE "getset_descriptor.__get__",JE "object.__class__"))else pure none) _ _ _
 refine Gz (cZ (PySem.W.looks_takesIn KX h5) ?_)
 rw[if_pos rfl]
 refine GH ?_
 dsimp only
 refine Gz (NA (GH ?_))
 dsimp only
 unfold NS
 dsimp only
 refine Gz (HH (Ld (t0 KX e hc h6 ?_)))
 refine JN ?_
 exact PySem.W.handed_on (by rfl) (GH q)
def t4:List Gu:=[.type "ValueError", .type "Exception", .type "BaseException", .type "object"]
structure qa (K:Gs) (C:Gw):Prop where
 exc:∃Q7 Bn VW VX,HV K C t4 Q7=true/\ExcBaseFacts Bn Q7 VW VX/\t4.contains (.type Bn)=true
 ga:GQ K (.ref C) "__getattribute__"=some (some (.builtin "BaseException.__getattribute__"))
 gt:GQ K (.ref C) "__getattr__"=some none
 kc:GQ K (.ref C) "__class__"=some (some (.builtin "object.__class__"))
 sp:Jo K (.builtin "object.__class__") "__get__"=some (some (.builtin "getset_descriptor.__get__"))
 tk:JJ K (.builtin "object.__class__")=some true
 mo:Hq K C (.type "object")=some true
 mb:Hq K C (.type "BaseException")=some true
 kk:Jv K (.ref C) (.ref C)=some true
theorem uE {K:Gs} {h:GY} {C:Gw} {S4:List Gu} {Q7:String} (KX:K.In h) (e:HV K C S4 Q7=true):∃bm N nm q bs hdct sn sub ab col dd k0 k1 k2 k3 k5 mN,
  h.get? C=some (excClassObj nm q C N bs bm hdct sn sub ab col dd k0 k1 k2 k3 k5 Q7)/\h.Ns N mN/\mN (JT "__init__")=none/\OwnTail h S4 bm:=by
 unfold HV at e
 split at e
 ·split at e
  ·rename_i dd cd sl lk _ _ C' bm k0 k1 k2 k3 n k5 e1 e2
   simp only[HZ]at e
   obtain⟨⟨⟨⟨⟨a1,a2⟩,a3⟩,a4⟩,a5⟩,a6⟩:=e
   have b1:C'=C:=eq_of_beq a1
   have b2:n=Q7:=eq_of_beq a2
   subst b1 b2
   have g:=KX _ _ lk
   have WN:sl= #[k0,k1,k2,k3,some (JE n),k5]:=by rw[<-Array.toList_inj];exact e2
   have TZ:cd.hasDel=false:=by simpa using a3
   obtain⟨nm,bs,mro,N,q,hd,sn,sb,ab,col,Y6⟩:=cd
   dsimp only at e1 TZ a4 a5 a6
   subst e1 WN TZ
   exact⟨bm,N,nm,q,bs,hd,sn,sb,ab,col,dd,k0,k1,k2,k3,k5,_,g,Heap.Ns.of_isNs (PySem.W.isNs_of_in KX a5),PySem.W.nsMap_none_of_in KX a5 (eq_of_beq a6),PySem.W.tail_of_in KX a4⟩
  ·cases e
 ·cases e
theorem xr {K:Gs} {x C:Gw} (k:qa K C):PySem.W.KitX K (.ref x) (.ref C) λh=>∃ox,h.get? x=some ox/\ox.cls= .ref C where
 ty:=λM h _ ⟨ox,e,hc⟩=>jM e hc
 it:=λM h KX _=>(PySem.W.kit_cls KX k.kk).2.1
 ne:=λh tp dd its n sl KX e=>by
  cases z:(Hc C==Hc tp)with
  |false=>rfl
  |true=>
   have ez:Hc C=Hc tp:=eq_of_beq z
   cases ez
   obtain⟨Q7,_,_,_,ei,_⟩:=k.exc
   obtain⟨bm,N,nm,q,bs,hd,sn,sb,ab,col,dd,k0,k1,k2,k3,k5,mN,g,_⟩:=uE KX ei
   rw[e]at g
   exact absurd (congrArg Obj.data (HG g)) (λz=>by cases z)
 ca:=λ{prog w A E Q s} KX ⟨ox,e,hc⟩ q=>zQ KX e hc k.ga k.gt k.kc k.sp k.tk k.mo k.mb q
end L2
namespace L2
open PySem PySem.Spec PyProof.Rows
section
variable {X:Cx} {O0:List (Gw×Hi)} {σ:St} {H:Hp} {s:Gx} {a:Gw} {cls:Gu} {x:Gv} {np O4 pos:Hr} {e:GD} {es:List GD} {t:TA} {C:Gw}
def xt (X:Cx) (C:Gw) (t:TA):TS:=λ_ σ H=>t σ H λvs H1=>vs.length<=sizeLine/\∀O0 s a,aB X O0 σ H1 s->Fl X O0 H1 s.heap a (.ref C)->X.xe (.ref a) s
theorem zR {h':GY} {vs:List Gu} (I:aB X O0 σ H s) (p:gQ X) (m:s.heap.MadeExcOf h' a cls vs):aB X O0 σ H {s with heap:=h'}/\Fl X O0 H h' a cls:=by
 obtain⟨tp,g1,g2,g3⟩:=m.there
 exact⟨I.kept (t':=s.toks) m.keeps,sZ.of I p m.new (I.hok.none_of m.new),_,_,g1,rfl,rfl, .inl rfl⟩
theorem xu (k:qa X.K C) (hm:X.mg x=some (.ref C)) (p:gQ X) (hc:X.calm=true) (ha:PA X (e::es) t) (hg:Gl X x:=by rfl) (Pe:(x==("__debug__":Gv))=false:=by decide)
  (he:Gy (e::es) X.env=(false,GW e X.env)::Gy es X.env:=by rfl) (OT:(Hb O4 (Gy es X.env)).any (·.1)=false:=by rfl):PS X (.Raise (some (.Call (.Name x np) (e::es) [] O4)) none pos) (xt X C t):=by
 intro O0 s σ H D I h
 obtain⟨Q7,Bn,VW,VX,ei,fB,hB⟩:=k.exc
 obtain⟨bm,N,nm,q,bs,hd,sn,sb,ab,col,dd,k0,k1,k2,k3,k5,mN,g,ns,ni,tl⟩:=uE I.ok.mod.kin ei
 have RU:Hb O4 (Gy (e::es) X.env)=(false,GW e X.env)::Hb O4 (Gy es X.env):=by rw[he];rfl
 refine wpAny_Raise_call_subU (nm:=nm) (q:=q) (C:=C) (N:=N) (bs:=bs) (hdct:=hd) (sn:=sn) (sub:=sb) (ab:=ab) (col:=col) (dd:=dd) (k0:=k0) (k1:=k1) (k2:=k2) (k3:=k3) (k5:=k5) fB hB F.excBase_ValueError (tl.hasType (by decide)) (I.ok.hd hc) (by rw[RU];exact OT) ni (kg I hg hm ⟨rfl,?_⟩ Pe)
 rw[RU]
 refine JA ?_
 rw[<-RU]
 refine bW (ha O4 O0 s σ H _ I h) λus s1 ⟨vs,H1,I1,r,z,q1⟩=>⟨rfl,by rw[<-r.length];exact z,I1.bk _ _ g,ns.keeps I1.bk,tl.keeps I1.bk,λh' a m=> ?_⟩
 obtain⟨I2,f2⟩:=zR I1 p m
 exact q1 O0 _ a I2 f2
abbrev Cx.inH (X:Cx) (v:Gu):Cx:={X with A:=X.A.mark (some v),calm:=false,xe:=λ_ _=>False}
theorem Cx.Ok.inH {v:Gu} (ok:X.Ok):(X.inH v).Ok:=⟨ok.mod,ok.kind,ok.glob,ok.blt,ok.above,ok.inj,ok.has,ok.cab,(λz=>by cases z),ok.frames,ok.stk,ok.exf,ok.bs,ok.bsz,ok.noex,ok.exfs,ok.funs,ok.frf⟩
theorem aB.inH {v:Gu} (I:aB X O0 σ H s):aB (X.inH v) O0 σ H s:=⟨I.ok.inH,I.os,I.bare,I.base,I.loc,I.cell,I.free,I.freeC,I.pin,I.hok,I.len⟩
theorem aB.outH {v:Gu} (ok:X.Ok) (I:aB (X.inH v) O0 σ H s):aB X O0 σ H s:=⟨ok,I.os,I.bare,I.base,I.loc,I.cell,I.free,I.freeC,I.pin,I.hok,I.len⟩
theorem aB.track {o:HO} {oa:Hi} {vs:Array Gu} (I:aB X O0 σ H s) (n:sZ X O0 H a) (ga:s.heap.get? a=some oa) (gd:oa.data= .fields vs) (new:bp X.prog X.w (b9 H a o) s.heap a o):aB X O0 σ (b9 H a o) s:=by
 have ne:∀b u,H b=some u->b≠a:=λb u e z=>by rw[z,n.no]at e;cases e
 have Sj:X.env.locals≠a:=λz=>by
  obtain⟨m,⟨o,es,ep,ho,hd,_⟩,_⟩:=I.loc
  rw[z,ga]at ho;cases ho
  rw[gd]at hd;cases hd
 have neC:∀y c,X.env.cells.lookup y=some c->c≠a:=λy c e z=>by
  obtain⟨v,o,ho,hd⟩:=I.cell y c e
  rw[z,ga]at ho;cases ho
  rw[gd]at hd;cases hd
 refine⟨I.ok,I.os,I.bare,⟨I.base.keep,I.base.slot,λb o e n' hx=> ?_,I.base.there,λb xs e=> ?_,λb o u e=> ?_,λb ps e=> ?_⟩,I.loc,I.cell,by rw[ao Sj];exact I.free,λy c e=>by rw[ao (neC y c e)];exact I.freeC y c e,λp hp=> ?_,λb u e=> ?_,I.len⟩
 ·rw[ao (λz=>by rw[z,n.s0]at e;cases e)];exact I.base.free b o e n' hx
 ·have q:=I.base.tups b xs e
  rw[ao (ne b _ q)];exact q
 ·have q:=I.base.frzs b o u e
  rw[ao (ne b _ q)];exact q
 ·obtain⟨more,q⟩:=I.base.tbls b ps e
  exact⟨more,by rw[ao (ne b _ q)];exact q⟩
 ·obtain⟨e,n',r⟩:=I.pin p hp
  exact⟨e,by rw[ao (n.pin p hp)];exact n',r⟩
 ·by_cases z:b=a
  ·subst z;rw[au]at e;cases e;exact new
  ·rw[ao z]at e
   refine(I.hok b u e).stay (λ_ _ _ q=>q) (λc q=> ?_) λc xs q=> ?_
   ·rw[ao (ne c _ q)];exact q
   ·rw[ao (ne c _ q)];exact q
theorem vG {M:N2} {A:Hd} {E:Gu->Gx->Prop} {i:Nat} {n:Gv} {Q:Unit->Gx->Prop} (I:aB X O0 σ H s) (hN:X.N.Nodup) (hi:X.N[i]? =some n) (hk:X.env.kindOf n=some .local)
  (k:∀s',aB X O0 (σ.set i none) H s'->Q () s'):GI M A (do bindName X.env n HL;Kz X.env n pos) Q E s:=by
 obtain⟨m,hn,hl⟩:=id I.loc
 refine wpAny_nameGoes_keeps hk hn (by rw[I.ok.kind];rfl) λh' v Uv hs=>k _ ?_
 have Sj:∀b o,X.s₀.heap.get? b=some o->b≠X.env.locals:=λb o e=>Hj (Hf (GR e) I.ok.above)
 refine⟨I.ok,I.os,I.bare,⟨λb o e n hb hx=>(hs.2 b (Sj b o e)).trans (I.base.keep b o e n hb hx),λb o e n hb hx=> ?_,I.base.free,λb o e hx=> ?_,I.base.tups,I.base.frzs,I.base.tbls⟩,⟨_,Uv,λj y v' e1 e2 e3=> ?_⟩,λy c e=> ?_,I.free,I.freeC,λp hp=> ?_,λb u e=> ?_,by simpa using I.len⟩
 ·obtain⟨sl,e1⟩:=I.base.slot b o e n hb hx
  exact⟨sl,(hs.2 b (Sj b o e)).trans e1⟩
 ·obtain⟨o',e1⟩:=I.base.there b o e hx
  exact⟨o',(hs.2 b (Sj b o e)).trans e1⟩
 ·by_cases hj:j=i
  ·subst hj
   rw[Jq]at e2
   split at e2
   ·split at e2<;>cases e2
   ·exact absurd rfl ‹_›
  ·rw[Ks (II hj)]at e2
   obtain⟨u',r',q⟩:=hl j y v' e1 e2 e3
   refine⟨u',r',?_⟩
   have ny:y≠n:=λe=>hj (mZ hN e1 (e▸hi))
   rcases q with ⟨k,e⟩|⟨k,c,e,z⟩
   ·exact .inl ⟨k,by show (if y=n then v else m y)=_;rw[if_neg ny];exact e⟩
   ·exact .inr ⟨k,c,e,z.sameBut hs (I.cne y c e)⟩
 ·obtain⟨w',z⟩:=I.cell y c e
  exact⟨w',z.sameBut hs (I.cne y c e)⟩
 ·obtain⟨e,n,ne,nf,d⟩:=I.pin p hp
  exact⟨(hs.2 p.1 ne).trans e,n,ne,nf,d⟩
 ·refine(I.hok b u e).stay (λc v hc q=>(hs.2 c ?_).trans q) (λ_ q=>q) λ_ _ q=>q
  rintro rfl
  have:=I.free
  rcases hc with z|z
  ·rw[<-z,this]at e;cases e
  ·rw[this]at z;cases z
def gR (a:Gw) (cls:Gu):GY->Prop:=λh=>∃o,h.get? a=some o/\o.cls=cls
theorem vH {P:GP} {w:G_} {h:GY} (e:gR a cls h):bp P w H h a (.ext (gR a cls)):=by
 obtain⟨o,h1,h2⟩:=e
 exact⟨⟨o,h1,h2⟩,⟨o,h1⟩,λg1 g2 ⟨o',e1,e2⟩ k=>⟨o',k _ e1,e2⟩⟩
theorem C3 (I:aB X O0 σ H s) (p:gQ X) (fl:DS X O0 H s.heap a cls) {Q:Unit->Gx->Prop} {E:Gu->Gx->Prop} {A:Hd}
  (k:∀h',aB X O0 σ H {s with heap:=h'}->DS X O0 H h' a cls->Q () {s with heap:=h'}):GI (GN X.prog X.w) A (setFlight (.ref a) none) Q E s:=by
 obtain⟨B,oe,vs,ge,gc,gd,ff,hB,SU,hn,hk⟩:=pb I p fl.fl
 obtain⟨VT,SV,e1,e2,e3,T',e4,WO⟩:=fl.at_
 rw[ge]at e1;cases e1
 rw[gd]at e3;cases e3
 obtain⟨V7,Um,q1,q2,q3⟩:=WO.at_
 rcases hn with g|⟨T,oT,ts,f,g1,g2,g3,g4,g5,g6,g7⟩
 ·rw[g]at e4;cases e4
 ·rw[e4]at g1;cases g1
  obtain⟨QW,a0,h0⟩:=xp e4
  refine lands_againW (base:=B) (l:=X.env::X.outer) (cls:=cls) (a0:=a0) ⟨hB,SU,ff,oe,vs,T',V7,Um,ge,⟨gc,h0⟩,gd,e4,g2,g3,q1,q2,q3⟩ λh2 ⟨st,_,_,tr⟩ up=> ?_
  obtain⟨I',f'⟩:=hk h2 _ st tr.at.tl up
  exact k h2 I' f'
theorem vI {VY:Gw} {cx n:Gv} {i:Nat} {Qs:Hr} {b₀:Hl} {QA:List Hl} {rest:List ExceptHandler} {Q:Flow->Gx->Prop} {E:Gu->Gx->Prop} (I:aB X O0 σ H s) (p:gQ X) (fl:DS X O0 H s.heap a (.ref C)) (hN:X.N.Nodup) (hi:X.N[i]? =some n)
  (hk:X.env.scope.names.lookup n=some .local) (hg:Gl X cx) (hm:X.mg cx=some (.ref VY)) (hx:Jw X.K (.ref C) (.ref VY)=some true) (Pe:(cx==("__debug__":Gv))=false)
  (k:∀s',aB (X.inH (.ref a)) O0 (σ.set i (some (.ref a))) (b9 H a (.ext (gR a (.ref C)))) s'->
   GI (GN X.prog X.w) (X.inH (.ref a)).A (execs (b₀::QA) X.env) (λf s3=>GI (GN X.prog X.w) X.A (do bindName X.env n HL;Kz X.env n Qs) (λ_ s5=>Q f s5) E s3) (λ_ _=>False) s'):
  GI (GN X.prog X.w) X.A (handleBy (.ref a) X.env (.ExceptHandler (some (.Name cx np)) (some n) (b₀::QA) Qs::rest)) Q E s:=by
 refine wpAny_handleBy_cons (codeAny_handlers_test ?_) (by intro z;cases z)
 refine kg (X:=X.inH (.ref a)) I.inH hg hm ?_ Pe
 obtain⟨oe,vs,ge,gc,gd,_⟩:=fl.at_
 refine cZ (PySem.W.exm_one I.kIn (jM ge gc) hx) ?_
 rw[if_pos rfl]
 refine codeAny_handlers_suite_as ?_
 refine C3 I p fl λh2 I2 f2=> ?_
 obtain⟨oe,vs,ge,gc,gd,_⟩:=f2.at_
 have I3:aB X O0 σ (b9 H a (.ext (gR a (.ref C)))) {s with heap:=h2}:=I2.track f2.new ge gd (vH ⟨oe,ge,gc⟩)
 refine m_ (X:=X.inH (.ref a)) I3.inH hN hi (.inl hk) (v:= .ref a) rfl (λs' I'=> ?_) (.inr hk)
 exact IC (k s' I') (λf s3 q=>q) λ_ _ z=>z.elim
end
end L2
namespace L2
open PySem PySem.Spec PyProof.Rows
section
variable {X:Cx} {scope:IP} {s:Gx} {H:Hp} {ex:List Gw} {E:Gu->Gx->Prop} {PJ:List (Gw×Hi)} {τ:St} {H':Hp} {s':Gx}
end
section
variable {X:Cx} {Q6 tg Oj:GD} {PZ:List GD} {scope:IP} {pos:Hr} {wi:TI} {g:TG} {tt:TT} {te:TE}
end
end L2
namespace L2.Pu
open PySem PySem.Spec PyProof.Rows
structure df where
 x:Nat
 C:Gw
 fl:List (Gv×Nat)
variable {ly:List df}
inductive D where
 |non|bl (b:Bool)|int (i:Int)|str (x:Gv)|tup (ds:List D)|lst (ds:List D)|dic (PD:List (bD×D))|ins (x:Gv) (fs:List (Gv×D))|scr (ns:List Int)|exc (x:Gv)
mutual
inductive cH (K:Gs) (F:Hp):V->D->Prop
 |non:cH K F .non .non
 |bl (b:Bool):cH K F (.bl b) (.bl b)
 |int (i:Int):cH K F (.int i) (.int i)
 |str (x:Gv):cH K F (.str x) (.str x)
 |tup {a:Gw} {vs:List V} {ds:List D}:F a=some (.tup vs)->Reps K F vs ds->cH K F (.ref a) (.tup ds)
 |lst {a:Gw} {vs:List V} {ds:List D}:F a=some (.lst vs)->Reps K F vs ds->cH K F (.ref a) (.lst ds)
 |scr {a:Gw} {ns:List Int}:c9 K F a (ns.map V.int)->cH K F (.ref a) (.scr ns)
 |dic {a:Gw} {kvs:List (bD×V)} {PD:List (bD×D)}:F a=some (.dK kvs)->RepK K F kvs PD->(kvs.map (·.1)).Nodup->cH K F (.ref a) (.dic PD)
 |ins {a C dx:Gw} {x:Gv} {fs vs:List (Gv×V)} {fds:List (Gv×D)}:F a=some (.ins C dx fs)->F dx=some (.own a)->GJ K GG x=some (some (.ref C))->(∀p∈vs,fs.lookup p.1=some p.2)->(∀f v,fs.lookup f=some v->f∈vs.map (·.1))->RepF K F vs fds->cH K F (.ref a) (.ins x fds)
 |exc {a C:Gw} {x:Gv}:F a=some (.ext (gR a (.ref C)))->GJ K GG x=some (some (.ref C))->cH K F (.ref a) (.exc x)
inductive Reps (K:Gs) (F:Hp):List V->List D->Prop
 |nil:Reps K F [] []
 |cons {v:V} {d:D} {vs:List V} {ds:List D}:cH K F v d->Reps K F vs ds->Reps K F (v::vs) (d::ds)
inductive RepK (K:Gs) (F:Hp):List (bD×V)->List (bD×D)->Prop
 |nil:RepK K F [] []
 |cons {k:bD} {v:V} {d:D} {vs:List (bD×V)} {ds:List (bD×D)}:cH K F v d->RepK K F vs ds->RepK K F ((k,v)::vs) ((k,d)::ds)
inductive RepF (K:Gs) (F:Hp):List (Gv×V)->List (Gv×D)->Prop
 |nil:RepF K F [] []
 |cons {k:Gv} {v:V} {d:D} {vs:List (Gv×V)} {ds:List (Gv×D)}:cH K F v d->RepF K F vs ds->RepF K F ((k,v)::vs) ((k,d)::ds)
end
theorem kr {K:Gs} {F F':Hp} {a:Gw} {xs:List V} (e:aN F F') (h:c9 K F a xs):c9 K F' a xs:=e.seq h
theorem cH.mono {K:Gs} {F F':Hp} (e:aN F F') {v:V} {d:D} (h:cH K F v d):cH K F' v d:=
 cH.rec (motive_1:=λv d _=>cH K F' v d) (motive_2:=λv d _=>Reps K F' v d) (motive_3:=λv d _=>RepK K F' v d) (motive_4:=λv d _=>RepF K F' v d) .non .bl .int .str (λh _ r=> .tup (e _ _ h) r) (λh _ r=> .lst (e _ _ h) r) (λh=> .scr (kr e h)) (λh _ n r=> .dic (e _ _ h) r n) (λh h2 n l1 l2 _ r=> .ins (e _ _ h) (e _ _ h2) n l1 l2 r) (λh n=> .exc (e _ _ h) n) .nil (λ_ _ a b=> .cons a b) .nil (λ_ _ a b=> .cons a b) .nil (λ_ _ a b=> .cons a b) h
theorem Reps.mono {K:Gs} {F F':Hp} (e:aN F F') {v:List V} {d:List D} (h:Reps K F v d):Reps K F' v d:=
 Reps.rec (motive_1:=λv d _=>cH K F' v d) (motive_2:=λv d _=>Reps K F' v d) (motive_3:=λv d _=>RepK K F' v d) (motive_4:=λv d _=>RepF K F' v d) .non .bl .int .str (λh _ r=> .tup (e _ _ h) r) (λh _ r=> .lst (e _ _ h) r) (λh=> .scr (kr e h)) (λh _ n r=> .dic (e _ _ h) r n) (λh h2 n l1 l2 _ r=> .ins (e _ _ h) (e _ _ h2) n l1 l2 r) (λh n=> .exc (e _ _ h) n) .nil (λ_ _ a b=> .cons a b) .nil (λ_ _ a b=> .cons a b) .nil (λ_ _ a b=> .cons a b) h
theorem RepK.mono {K:Gs} {F F':Hp} (e:aN F F') {v:List (bD×V)} {d:List (bD×D)} (h:RepK K F v d):RepK K F' v d:=
 RepK.rec (motive_1:=λv d _=>cH K F' v d) (motive_2:=λv d _=>Reps K F' v d) (motive_3:=λv d _=>RepK K F' v d) (motive_4:=λv d _=>RepF K F' v d) .non .bl .int .str (λh _ r=> .tup (e _ _ h) r) (λh _ r=> .lst (e _ _ h) r) (λh=> .scr (kr e h)) (λh _ n r=> .dic (e _ _ h) r n) (λh h2 n l1 l2 _ r=> .ins (e _ _ h) (e _ _ h2) n l1 l2 r) (λh n=> .exc (e _ _ h) n) .nil (λ_ _ a b=> .cons a b) .nil (λ_ _ a b=> .cons a b) .nil (λ_ _ a b=> .cons a b) h
theorem RepF.mono {K:Gs} {F F':Hp} (e:aN F F') {v:List (Gv×V)} {d:List (Gv×D)} (h:RepF K F v d):RepF K F' v d:=
 RepF.rec (motive_1:=λv d _=>cH K F' v d) (motive_2:=λv d _=>Reps K F' v d) (motive_3:=λv d _=>RepK K F' v d) (motive_4:=λv d _=>RepF K F' v d) .non .bl .int .str (λh _ r=> .tup (e _ _ h) r) (λh _ r=> .lst (e _ _ h) r) (λh=> .scr (kr e h)) (λh _ n r=> .dic (e _ _ h) r n) (λh h2 n l1 l2 _ r=> .ins (e _ _ h) (e _ _ h2) n l1 l2 r) (λh n=> .exc (e _ _ h) n) .nil (λ_ _ a b=> .cons a b) .nil (λ_ _ a b=> .cons a b) .nil (λ_ _ a b=> .cons a b) h
section
variable {K:Gs} {F:Hp}
def xv (K:Gs) (F:Hp) (v:V):D->Prop
 | .non=>v= .non
 | .bl b=>v= .bl b
 | .int i=>v= .int i
 | .str x=>v= .str x
 | .tup ds=>∃a vs,v= .ref a/\F a=some (.tup vs)/\Reps K F vs ds
 | .lst ds=>∃a vs,v= .ref a/\F a=some (.lst vs)/\Reps K F vs ds
 | .scr ns=>∃a,v= .ref a/\c9 K F a (ns.map V.int)
 | .dic PD=>∃a kvs,v= .ref a/\F a=some (.dK kvs)/\RepK K F kvs PD/\(kvs.map (·.1)).Nodup
 | .ins x fds=>∃a C dx fs vs,v= .ref a/\F a=some (.ins C dx fs)/\GJ K GG x=some (some (.ref C))/\(∀p∈vs,fs.lookup p.1=some p.2)/\(∀f v,fs.lookup f=some v->f∈vs.map (·.1))/\RepF K F vs fds
 | .exc x=>∃a C,v= .ref a/\F a=some (.ext (gR a (.ref C)))/\GJ K GG x=some (some (.ref C))
theorem cH.inv {v:V} {d:D} (h:cH K F v d):xv K F v d:=by
 cases h with
 |non=>exact rfl
 |bl=>exact rfl
 |int=>exact rfl
 |str=>exact rfl
 |tup h r=>exact⟨_,_,rfl,h,r⟩
 |lst h r=>exact⟨_,_,rfl,h,r⟩
 |scr h=>exact⟨_,rfl,h⟩
 |dic h r n=>exact⟨_,_,rfl,h,r,n⟩
 |ins h1 _ h3 h4 h5 h6=>exact⟨_,_,_,_,_,rfl,h1,h3,h4,h5,h6⟩
 |exc h n=>exact⟨_,_,rfl,h,n⟩
theorem RepK.nilI {vs:List (bD×V)} (h:RepK K F vs []):vs=[]:=by cases h;rfl
theorem RepK.consI {vs:List (bD×V)} {k:bD} {d:D} {ds:List (bD×D)} (h:RepK K F vs ((k,d)::ds)):∃v us,vs=(k,v)::us/\cH K F v d/\RepK K F us ds:=by
 cases h with
 |cons r t=>exact⟨_,_,rfl,r,t⟩
theorem Reps.nilI {vs:List V} (h:Reps K F vs []):vs=[]:=by cases h;rfl
theorem Reps.consI {vs:List V} {d:D} {ds:List D} (h:Reps K F vs (d::ds)):∃v us,vs=v::us/\cH K F v d/\Reps K F us ds:=by
 cases h with
 |cons r t=>exact⟨_,_,rfl,r,t⟩
theorem cH.intI {v:V} {i:Int} (h:cH K F v (.int i)):v= .int i:=h.inv
theorem cH.tupI {v:V} {ds:List D} (h:cH K F v (.tup ds)):∃a vs,v= .ref a/\F a=some (.tup vs)/\Reps K F vs ds:=h.inv
theorem Reps.int1 {vs:List V} {i:Int} (h:Reps K F vs [.int i]):vs=[.int i]:=by
 obtain⟨v,us,rfl,r,t⟩:=h.consI
 rw[t.nilI,r.intI]
theorem Reps.int2 {vs:List V} {i j:Int} (h:Reps K F vs [.int i, .int j]):vs=[.int i, .int j]:=by
 obtain⟨v,us,rfl,r,t⟩:=h.consI
 rw[t.int1,r.intI]
theorem Reps.length:∀{vs:List V} {ds:List D},Reps K F vs ds->vs.length=ds.length:=by
 intro vs ds
 induction ds generalizing vs with
 |nil=>intro h;rw[h.nilI];rfl
 |cons d ds ih=>
  intro h
  obtain⟨v,us,rfl,_,t⟩:=h.consI
  rw[GX,GX,ih t]
theorem RepK.length:∀{vs:List (bD×V)} {ds:List (bD×D)},RepK K F vs ds->vs.length=ds.length:=by
 intro vs ds
 induction ds generalizing vs with
 |nil=>intro h;rw[h.nilI];rfl
 |cons d ds ih=>
  intro h
  obtain⟨v,us,rfl,_,t⟩:=RepK.consI (k:=d.1) (d:=d.2) h
  rw[GX,GX,ih t]
theorem Reps.append:∀{vs us:List V} {ds es:List D},Reps K F vs ds->Reps K F us es->Reps K F (vs++us) (ds++es):=by
 intro vs us ds
 induction ds generalizing vs with
 |nil=>intro es h g;rw[h.nilI];exact g
 |cons d ds ih=>
  intro es h g
  obtain⟨v,us,rfl,r,t⟩:=h.consI
  exact .cons r (ih t g)
theorem Reps.get:∀{vs:List V} {ds:List D} {i:Nat} {d:D},Reps K F vs ds->ds[i]? =some d->∃v,vs[i]? =some v/\cH K F v d
 |_,_,_,_, .nil,h=>by simp at h
 |_,_,0,_, .cons r t,h=>by simp at h;subst h;exact⟨_,rfl,r⟩
 |_,_,i+1,_, .cons r t,h=>by
  obtain⟨v,h1,h2⟩:=t.get (i:=i) (by simpa using h)
  exact⟨v,by simpa using h1,h2⟩
theorem Reps.get':∀{vs:List V} {ds:List D} {i:Nat} {v:V},Reps K F vs ds->vs[i]? =some v->∃d,ds[i]? =some d/\cH K F v d
 |_,_,_,_, .nil,h=>by simp at h
 |_,_,0,_, .cons r t,h=>by simp at h;subst h;exact⟨_,rfl,r⟩
 |_,_,i+1,_, .cons r t,h=>by
  obtain⟨v,h1,h2⟩:=t.get' (i:=i) (by simpa using h)
  exact⟨v,by simpa using h1,h2⟩
theorem Reps.set:∀{vs:List V} {ds:List D} {v:V} {d:D} (i:Nat),Reps K F vs ds->cH K F v d->Reps K F (vs.set i v) (ds.set i d)
 |_,_,_,_,_, .nil,_=> .nil
 |_,_,_,_,0, .cons r t,h=> .cons h t
 |_,_,_,_,i+1, .cons r t,h=> .cons r (t.set i h)
theorem Reps.eraseIdx:∀{vs:List V} {ds:List D} (i:Nat),Reps K F vs ds->Reps K F (vs.eraseIdx i) (ds.eraseIdx i)
 |_,_,_, .nil=> .nil
 |_,_,0, .cons r t=>t
 |_,_,i+1, .cons r t=> .cons r (t.eraseIdx i)
theorem Reps.drop:∀{vs:List V} {ds:List D} (i:Nat),Reps K F vs ds->Reps K F (vs.drop i) (ds.drop i)
 |_,_,0,h=>h
 |_,_,_+1, .nil=> .nil
 |_,_,i+1, .cons r t=>t.drop i
theorem Reps.take:∀{vs:List V} {ds:List D} (i:Nat),Reps K F vs ds->Reps K F (vs.take i) (ds.take i)
 |_,_,0,h=> .nil
 |_,_,_+1, .nil=> .nil
 |_,_,i+1, .cons r t=> .cons r (t.take i)
theorem Reps.reverse {vs:List V} {ds:List D} (h:Reps K F vs ds):Reps K F vs.reverse ds.reverse:=by
 induction h using Reps.rec (motive_1:=λ_ _ _=>True) (motive_3:=λ_ _ _=>True) (motive_4:=λ_ _ _=>True)with
 |nil=>exact .nil
 |cons r t _ ih=>rw[K7,K7];exact ih.append (.cons r .nil)
 |_=>trivial
end
structure bf (H F H' F':Hp):Prop where
 sub:aN F' H'
 keep:aN H H'
 grow:aN F F'
 new:∀a,F' a≠none->F a≠none\/H a=none
theorem bf.refl {H F:Hp} (h:aN F H):bf H F H F:=⟨h,aN.refl _,aN.refl _,λ_ h=> .inl h⟩
theorem bf.trans {H F H1 F1 H2 F2:Hp} (a:bf H F H1 F1) (b:bf H1 F1 H2 F2):bf H F H2 F2:=
 ⟨b.sub,a.keep.trans b.keep,a.grow.trans b.grow,λx h=>(b.new x h).elim (λq=>a.new x q) λq=> .inr (a.keep.free q)⟩
theorem bR {H:Hp} {p:Gw} {o:HO} (h:H p=none):aN H (b9 H p o):=λb u e=>by
 rw[ao (λz=>by rw[z,h]at e;cases e)];exact e
theorem bf.lay {H F:Hp} (s:aN F H) {p:Gw} {o:HO} (h:H p=none):bf H F (b9 H p o) (b9 F p o):=by
 refine⟨λb u e=> ?_,bR h,bR (s.free h),λb e=> ?_⟩
 ·by_cases z:b=p
  ·subst z;rw[au]at e ⊢;exact e
  ·rw[ao z]at e ⊢;exact s b u e
 ·by_cases z:b=p
  ·subst z;exact .inr h
  ·rw[ao z]at e;exact .inl e
theorem bf.layOwn {H F:Hp} (s:aN F H) {p:Gw} {o:HO} (h:H p=none):bf H F (b9 H p o) F:=
 ⟨s.trans (bR h),bR h,aN.refl _,λ_ e=> .inl e⟩
inductive Slot where
 |val (d:D)|own (d:D)|bor (d:D)|obj|cel (x:Gv) (O8:List (Gv×D)) (f:Gv) (hs:List D)
def Slot.data:Slot->D
 | .val d=>d
 | .own d=>d
 | .bor d=>d
 | .obj=> .non
 | .cel .. => .non
def Slot.single:Slot->Bool
 | .obj=>true
 | .cel .. =>true
 |_=>false
abbrev a9:=List (Option Slot)
inductive gF (K:Gs) (F:Hp):HO->D->Prop
 |lst {vs:List V} {ds:List D}:Reps K F vs ds->gF K F (.lst vs) (.lst ds)
 |dic {kvs:List (bD×V)} {PD:List (bD×D)}:RepK K F kvs PD->(kvs.map (·.1)).Nodup->gF K F (.dK kvs) (.dic PD)
theorem gF.mono {K:Gs} {F F':Hp} (e:aN F F') {o:HO} {d:D}:gF K F o d->gF K F' o d
 | .lst r=> .lst (r.mono e)
 | .dic r n=> .dic (r.mono e) n
structure cO (ly:List df)where
 H0:Hp
 F0:Hp
 B:Hp
 Er:Gv->a9->Prop
 oa:Nat->Option Gw:=λ_=>none
 Fm:Hp:=λ_=>none
structure iP (K:Gs) (H0 H F:Hp) (a dx b:Gw) (x:Gv) (O8:List (Gv×D)) (f:Gv) (hs:List D):Prop where
 ex:∃C fs vs us,H a=some (.ins C dx fs)/\GJ K GG x=some (some (.ref C))/\fs.lookup f=some (.ref b)/\H b=some (.lst us)/\Reps K F us hs/\RepF K F vs O8/\(∀p∈vs,fs.lookup p.1=some p.2)/\
  (∀g v,fs.lookup g=some v->g=f\/g∈vs.map (·.1))/\(fs.map (·.1)).Nodup/\f∉vs.map (·.1)
 own:H dx=some (.own a)
 fa:F a=none
 fd:F dx=none
 fb:F b=none
 za:H0 a=none
 zd:H0 dx=none
 zb:H0 b=none
theorem bf.out {H F H' F':Hp} (e:bf H F H' F') {a:Gw} {o:HO} (h:H a=some o) (hF:F a=none):F' a=none:=by
 cases q:F' a with
 |none=>rfl
 |some u=>
  rcases e.new a (by rw[q];simp)with z|z
  ·exact absurd hF z
  ·rw[h]at z;cases z
theorem iP.step {K:Gs} {H0 H F H' F':Hp} {a dx b:Gw} {x:Gv} {O8:List (Gv×D)} {f:Gv} {hs:List D} (h:iP K H0 H F a dx b x O8 f hs) (e:bf H F H' F'):iP K H0 H' F' a dx b x O8 f hs:=by
 obtain⟨C,fs,vs,us,h1,h2,h3,h4,h5,h6,h7,h8⟩:=h.ex
 exact⟨⟨C,fs,vs,us,e.keep _ _ h1,h2,h3,e.keep _ _ h4,h5.mono e.grow,h6.mono e.grow,h7,h8⟩,e.keep _ _ h.own,e.out h1 h.fa,e.out h.own h.fd,e.out h4 h.fb,h.za,h.zd,h.zb⟩
structure kt (K:Gs) (H0:Hp) (ρ:a9) (σ:St) (H F:Hp):Prop where
 ex:∀(i:Nat) x O8 f hs,ρ[i]? =some (some (.cel x O8 f hs))->∃a dx b,σ[i]? =some (some (.ref a))/\iP K H0 H F a dx b x O8 f hs/\∀(j:Nat) d,ρ[j]? =some (some (.own d))->σ[j]? ≠some (some (.ref b))
 one:∀(i j:Nat) x O8 f hs s,ρ[i]? =some (some (.cel x O8 f hs))->ρ[j]? =some (some s)->s.single=true->i=j
theorem kt.no {K:Gs} {H0:Hp} {ρ:a9} {σ:St} {H F:Hp} (h:∀(i:Nat) x O8 f hs,ρ[i]? ≠some (some (.cel x O8 f hs))):kt K H0 ρ σ H F:=⟨λi x O8 f hs e=>absurd e (h i x O8 f hs),λi j x O8 f hs s e=>absurd e (h i x O8 f hs)⟩
theorem kt.step {K:Gs} {H0 H F H' F':Hp} {ρ:a9} {σ:St} (h:kt K H0 ρ σ H F) (e:bf H F H' F'):kt K H0 ρ σ H' F':=
 ⟨λi x O8 f hs q=>by obtain⟨a,dx,b,h1,h2,h3⟩:=h.ex i x O8 f hs q;exact⟨a,dx,b,h1,h2.step e,h3⟩,h.one⟩
structure RI (K:Gs) (c:cO ly) (ρ:a9) (σ:St) (H F:Hp):Prop where
 ext:bf c.H0 c.F0 H F
 val:∀(i:Nat) d,ρ[i]? =some (some (.val d))->∃v,σ[i]? =some (some v)/\cH K F v d
 own:∀(i:Nat) d,ρ[i]? =some (some (.own d))->∃a o,σ[i]? =some (some (.ref a))/\H a=some o/\F a=none/\c.H0 a=none/\gF K F o d
 bor:∀(i:Nat) d,ρ[i]? =some (some (.bor d))->∃a o,σ[i]? =some (some (.ref a))/\c.B a=some o/\gF K c.F0 o d
 bh:aN c.B c.H0
 dis:∀(i j:Nat) d d' a,ρ[i]? =some (some (.own d))->ρ[j]? =some (some (.own d'))->σ[i]? =some (some (.ref a))->σ[j]? =some (some (.ref a))->i=j
 len:ρ.length=σ.length
 obj:∀L∈ly,ρ[L.x]? =some (some .obj)->∃a dx fs,(∀b,c.oa L.x=some b->a=b)/\σ[L.x]? =some (some (.ref a))/\H a=some (.ins L.C dx fs)/\H dx=some (.own a)/\F a=none/\F dx=none/\c.H0 a=none/\c.H0 dx=none/\
  (∀p∈L.fl,fs.lookup p.1=(σ[p.2]?).join)/\(∀f v,fs.lookup f=some v->f∈L.fl.map (·.1))/\(fs.map (·.1)).Nodup
 odis:∀L∈ly,∀L'∈ly,ρ[L.x]? =some (some .obj)->ρ[L'.x]? =some (some .obj)->∀a,σ[L.x]? =some (some (.ref a))->σ[L'.x]? =some (some (.ref a))->L=L'
 fm:aN c.Fm F
 cel:kt K c.H0 ρ σ H F
 pin:∀L∈ly,∀a,c.oa L.x=some a->σ[L.x]? =some (some (.ref a))
def iQ (ly:List df) (i:Nat):Prop:=∀L∈ly,L.x≠i/\∀p∈L.fl,p.2≠i
theorem dS {i:Nat}:iQ [] i:=λL h=>by cases h
theorem d6 {L:df} {ls:List df} {i:Nat} (h:L.x≠i/\∀p∈L.fl,p.2≠i) (r:iQ ls i):iQ (L::ls) i:=λM hM=>by
 rcases GK.mp hM with rfl|hM
 ·exact h
 ·exact r M hM
section
variable {K:Gs} {c:cO ly} {ρ:a9} {σ:St} {H F H' F':Hp}
theorem RI.step (r:RI K c ρ σ H F) (e:bf H F H' F'):RI K c ρ σ H' F' where
 cel:=r.cel.step e
 pin:=r.pin
 obj:=λL hL hρ=>by
  obtain⟨a,dx,fs,h0,h1,h2,h3,h4,h5,h6,h7,h8⟩:=r.obj L hL hρ
  exact⟨a,dx,fs,h0,h1,e.keep _ _ h2,e.keep _ _ h3,e.out h2 h4,e.out h3 h5,h6,h7,h8⟩
 odis:=r.odis
 fm:=r.fm.trans e.grow
 ext:=r.ext.trans e
 val:=λi d h=>by obtain⟨v,h1,h2⟩:=r.val i d h;exact⟨v,h1,h2.mono e.grow⟩
 own:=λi d h=>by
  obtain⟨a,o,h1,h2,h3,h4,h5⟩:=r.own i d h
  refine⟨a,o,h1,e.keep _ _ h2,?_,h4,h5.mono e.grow⟩
  cases q:F' a with
  |none=>rfl
  |some u=>
   rcases e.new a (by rw[q];simp)with z|z
   ·exact absurd h3 z
   ·rw[h2]at z;cases z
 bor:=r.bor
 bh:=r.bh
 dis:=r.dis
 len:=r.len
theorem RI.sub (r:RI K c ρ σ H F):aN F H:=r.ext.sub
theorem aq {α:Type} {l:List α} {i j:Nat} {a b:α} (h:(l.set i a)[j]? =some b):(i=j/\a=b/\i<l.length)\/(i≠j/\l[j]? =some b):=by
 rw[Jq]at h
 by_cases e:i=j
 ·rw[if_pos e]at h
  split at h
  ·cases h;exact .inl ⟨e,rfl,by assumption⟩
  ·cases h
 ·rw[if_neg e]at h;exact .inr ⟨e,h⟩
theorem dU {α:Type} {l:List α} {i:Nat} {a:α} (h:i<l.length):(l.set i a)[i]? =some a:=by
 rw[Jq,if_pos rfl,if_pos h]
theorem ac {α:Type} {l:List α} {i j:Nat} {a:α} (h:i≠j):(l.set i a)[j]? =l[j]? :=by
 rw[Jq,if_neg h]
theorem kt.set {K:Gs} {H0:Hp} {ρ:a9} {σ:St} {H F:Hp} (h:kt K H0 ρ σ H F) (i:Nat) {s:Option Slot} {v:Option V} (hn:∀s',s=some s'->s'.single=false)
  (ho:∀d,s=some (.own d)->∀(j:Nat) x O8 f hs a C dx fs b,ρ[j]? =some (some (.cel x O8 f hs))->σ[j]? =some (some (.ref a))->H a=some (.ins C dx fs)->fs.lookup f=some (.ref b)->v≠some (.ref b)):kt K H0 (ρ.set i s) (σ.set i v) H F:=by
 refine⟨λj x O8 f hs q=> ?_,λj k x O8 f hs s' q q2 OB=> ?_⟩
 ·rcases aq q with ⟨_,z,_⟩|⟨z,q⟩
  ·have:=hn _ z;cases this
  ·obtain⟨a,dx,b,h1,h2,h3⟩:=h.ex j x O8 f hs q
   refine⟨a,dx,b,by rw[ac z];exact h1,h2,λk d w=> ?_⟩
   rcases aq w with ⟨rfl,z',l⟩|⟨z',w⟩
   ·obtain⟨C,fs,vs,us,g1,g2,g3,_⟩:=h2.ex
    intro e
    rw[Jq]at e
    split at e
    ·split at e
     ·exact ho d z' j x O8 f hs a C dx fs b q h1 g1 g3 (by simpa using e)
     ·cases e
    ·rename_i ne;exact absurd rfl ne
   ·rw[ac z'];exact h3 k d w
 ·rcases aq q with ⟨_,z,_⟩|⟨z,q⟩
  ·have:=hn _ z;cases this
  ·rcases aq q2 with ⟨_,z',_⟩|⟨z',q2⟩
   ·have:=hn _ z';rw[OB]at this;cases this
   ·exact h.one j k x O8 f hs s' q q2 OB
theorem RI.setVal (r:RI K c ρ σ H F) (i:Nat) {v:V} {d:D} (hf:iQ ly i) (h:cH K F v d):RI K c (ρ.set i (some (.val d))) (σ.set i (some v)) H F where
 cel:=r.cel.set i (λs' e=>by cases e;rfl) (λd e=>by cases e)
 pin:=λL hL a h=>by rw[ac (hf L hL).1.symm];exact r.pin L hL a h
 obj:=λL hL hρ=>by
  rw[ac (hf L hL).1.symm]at hρ
  obtain⟨a,dx,fs,h0,h1,h2,h3,h4,h5,h6,h7,h8,h9⟩:=r.obj L hL hρ
  refine⟨a,dx,fs,h0,by rw[ac (hf L hL).1.symm];exact h1,h2,h3,h4,h5,h6,h7,λp hp=> ?_,h9⟩
  rw[ac ((hf L hL).2 p hp).symm];exact h8 p hp
 odis:=λL hL L' QB q1 q2 a k1 k2=>by
  rw[ac (hf L hL).1.symm]at k1 q1
  rw[ac (hf L' QB).1.symm]at k2 q2
  exact r.odis L hL L' QB q1 q2 a k1 k2
 fm:=r.fm
 ext:=r.ext
 val:=λj e q=>by
  rcases aq q with ⟨rfl,z,l⟩|⟨z,q⟩
  ·cases z;exact⟨v,dU (by rw[<-r.len];exact l),h⟩
  ·rw[ac z];exact r.val j e q
 own:=λj e q=>by
  rcases aq q with ⟨rfl,z,l⟩|⟨z,q⟩
  ·cases z
  ·rw[ac z];exact r.own j e q
 bor:=λj e q=>by
  rcases aq q with ⟨rfl,z,l⟩|⟨z,q⟩
  ·cases z
  ·rw[ac z];exact r.bor j e q
 bh:=r.bh
 dis:=λj k e e' a q1 q2 q3 q4=>by
  rcases aq q1 with ⟨rfl,z,l⟩|⟨z,q1⟩
  ·cases z
  ·rcases aq q2 with ⟨rfl,z',l⟩|⟨z',q2⟩
   ·cases z'
   ·rw[ac z]at q3;rw[ac z']at q4
    exact r.dis j k e e' a q1 q2 q3 q4
 len:=by simp[r.len]
theorem RI.setNone (r:RI K c ρ σ H F) (i:Nat) {v:Option V} (hf:iQ ly i):RI K c (ρ.set i none) (σ.set i v) H F where
 cel:=r.cel.set i (λs' e=>by cases e) (λd e=>by cases e)
 pin:=λL hL a h=>by rw[ac (hf L hL).1.symm];exact r.pin L hL a h
 obj:=λL hL hρ=>by
  rw[ac (hf L hL).1.symm]at hρ
  obtain⟨a,dx,fs,h0,h1,h2,h3,h4,h5,h6,h7,h8,h9⟩:=r.obj L hL hρ
  refine⟨a,dx,fs,h0,by rw[ac (hf L hL).1.symm];exact h1,h2,h3,h4,h5,h6,h7,λp hp=> ?_,h9⟩
  rw[ac ((hf L hL).2 p hp).symm];exact h8 p hp
 odis:=λL hL L' QB q1 q2 a k1 k2=>by
  rw[ac (hf L hL).1.symm]at k1 q1
  rw[ac (hf L' QB).1.symm]at k2 q2
  exact r.odis L hL L' QB q1 q2 a k1 k2
 fm:=r.fm
 ext:=r.ext
 val:=λj e q=>by
  rcases aq q with ⟨rfl,z,l⟩|⟨z,q⟩
  ·cases z
  ·rw[ac z];exact r.val j e q
 own:=λj e q=>by
  rcases aq q with ⟨rfl,z,l⟩|⟨z,q⟩
  ·cases z
  ·rw[ac z];exact r.own j e q
 bor:=λj e q=>by
  rcases aq q with ⟨rfl,z,l⟩|⟨z,q⟩
  ·cases z
  ·rw[ac z];exact r.bor j e q
 bh:=r.bh
 dis:=λj k e e' a q1 q2 q3 q4=>by
  rcases aq q1 with ⟨rfl,z,l⟩|⟨z,q1⟩
  ·cases z
  ·rcases aq q2 with ⟨rfl,z',l⟩|⟨z',q2⟩
   ·cases z'
   ·rw[ac z]at q3;rw[ac z']at q4
    exact r.dis j k e e' a q1 q2 q3 q4
 len:=by simp[r.len]
theorem RI.setOwn (r:RI K c ρ σ H F) (i:Nat) {a:Gw} {o:HO} {d:D} (hf:iQ ly i) (h:H a=some o) (hF:F a=none) (h0:c.H0 a=none) (q:gF K F o d)
  (ne:∀(j:Nat) d',j≠i->ρ[j]? =some (some (.own d'))->σ[j]? ≠some (some (.ref a)))
  (nb:∀(j:Nat) x O8 f hs a' C dx fs,ρ[j]? =some (some (.cel x O8 f hs))->σ[j]? =some (some (.ref a'))->H a'=some (.ins C dx fs)->fs.lookup f≠some (.ref a)):RI K c (ρ.set i (some (.own d))) (σ.set i (some (.ref a))) H F where
 cel:=r.cel.set i (λs' e=>by cases e;rfl) (λd e j x O8 f hs a' C dx fs b q1 q2 q3 q4 z=>by cases z;exact nb j x O8 f hs a' C dx fs q1 q2 q3 q4)
 pin:=λL hL b h=>by rw[ac (hf L hL).1.symm];exact r.pin L hL b h
 obj:=λL hL hρ=>by
  rw[ac (hf L hL).1.symm]at hρ
  obtain⟨b,dx,fs,h0,h1,h2,h3,h4,h5,h6,h7,h8,h9⟩:=r.obj L hL hρ
  refine⟨b,dx,fs,h0,by rw[ac (hf L hL).1.symm];exact h1,h2,h3,h4,h5,h6,h7,λp hp=> ?_,h9⟩
  rw[ac ((hf L hL).2 p hp).symm];exact h8 p hp
 odis:=λL hL L' QB q1 q2 b k1 k2=>by
  rw[ac (hf L hL).1.symm]at k1 q1
  rw[ac (hf L' QB).1.symm]at k2 q2
  exact r.odis L hL L' QB q1 q2 b k1 k2
 fm:=r.fm
 ext:=r.ext
 val:=λj e q=>by
  rcases aq q with ⟨rfl,z,l⟩|⟨z,q⟩
  ·cases z
  ·rw[ac z];exact r.val j e q
 own:=λj e q'=>by
  rcases aq q' with ⟨rfl,z,l⟩|⟨z,q'⟩
  ·cases z;exact⟨a,o,dU (by rw[<-r.len];exact l),h,hF,h0,q⟩
  ·rw[ac z];exact r.own j e q'
 bor:=λj e q=>by
  rcases aq q with ⟨rfl,z,l⟩|⟨z,q⟩
  ·cases z
  ·rw[ac z];exact r.bor j e q
 bh:=r.bh
 dis:=λj k e e' b q1 q2 q3 q4=>by
  rcases aq q1 with ⟨rfl,z,l⟩|⟨z,q1⟩
  ·rw[dU (by rw[<-r.len];exact l)]at q3
   cases q3
   rcases aq q2 with ⟨rfl,z',l⟩|⟨z',q2⟩
   ·rfl
   ·rw[ac z']at q4
    exact absurd q4 (ne k e' (II z') q2)
  ·rw[ac z]at q3
   rcases aq q2 with ⟨rfl,z',l⟩|⟨z',q2⟩
   ·rw[dU (by rw[<-r.len];exact l)]at q4
    cases q4
    exact absurd q3 (ne j e (II z) q1)
   ·rw[ac z']at q4
    exact r.dis j k e e' b q1 q2 q3 q4
 len:=by simp[r.len]
theorem RI.celNe (r:RI K c ρ σ H F) {H2:Hp} (k:aN H H2) {p:Gw} (hp:H p=none):∀(j:Nat) x O8 f hs a' C dx fs,ρ[j]? =some (some (.cel x O8 f hs))->σ[j]? =some (some (.ref a'))->H2 a'=some (.ins C dx fs)->fs.lookup f≠some (.ref p):=λj x O8 f hs a' C dx fs q1 q2 q3 q4=>by
 obtain⟨a,Y7,b,h1,h2,_⟩:=r.cel.ex j x O8 f hs q1
 rw[q2]at h1
 cases h1
 obtain⟨C0,Y8,vs,us,g1,g2,g3,g4,_⟩:=h2.ex
 rw[k _ _ g1]at q3
 cases q3
 rw[g3]at q4
 cases q4
 rw[hp]at g4
 cases g4
theorem RI.setNew (r:RI K c ρ σ H F) (i:Nat) {a:Gw} {o:HO} {d:D} (hf:iQ ly i) (h:H a=none) (q:gF K F o d):RI K c (ρ.set i (some (.own d))) (σ.set i (some (.ref a))) (b9 H a o) F:=by
 have r':=r.step (bf.layOwn r.sub (o:=o) h)
 refine r'.setOwn i hf au (r.sub.free h) (r.ext.keep.free h) q (λj d' _ hj e=> ?_) (r.celNe (bR h) h)
 obtain⟨b,o',h1,h2,_⟩:=r.own j d' hj
 rw[e]at h1
 cases h1
 rw[h]at h2
 cases h2
theorem RI.change (r:RI K c ρ σ H F) {i:Nat} {a:Gw} {o o':HO} {d d':D} (hi:ρ[i]? =some (some (.own d))) (hs:σ[i]? =some (some (.ref a))) (q:gF K F o' d'):
  RI K c (ρ.set i (some (.own d'))) σ (b9 H a o') F:=by
 obtain⟨b,u,h1,h2,h3,h4,h5⟩:=r.own i d hi
 rw[hs]at h1
 cases h1
 refine⟨⟨λx y e=> ?_,λx y e=> ?_,r.ext.grow,r.ext.new⟩,λj e w=> ?_,λj e w=> ?_,λj e w=> ?_,r.bh,λj k e e' x q1 q2 q3 q4=> ?_,by simp[r.len],λL hL hρ=> ?_,λL hL L' QB q1 q2=> ?_,r.fm,⟨λj x O8 f hs w=> ?_,λj k x O8 f hs s w w2 OB=> ?_⟩,r.pin⟩
 ·rw[ao (λz=>by rw[z,h3]at e;cases e)];exact r.sub x y e
 ·rw[ao (λz=>by rw[z,h4]at e;cases e)];exact r.ext.keep x y e
 ·rcases aq w with ⟨rfl,z,l⟩|⟨z,w⟩
  ·cases z
  ·exact r.val j e w
 ·rcases aq w with ⟨rfl,z,l⟩|⟨z,w⟩
  ·cases z;exact⟨a,o',hs,au,h3,h4,q⟩
  ·obtain⟨x,y,k1,k2,k3,k4,k5⟩:=r.own j e w
   refine⟨x,y,k1,?_,k3,k4,k5⟩
   rw[ao (λzz=>by subst zz;exact z (r.dis i j d e x hi w hs k1))]
   exact k2
 ·rcases aq w with ⟨rfl,z,l⟩|⟨z,w⟩
  ·cases z
  ·exact r.bor j e w
 ·have own_of:∀{l:Nat} {x:D},(ρ.set i (some (.own d')))[l]? =some (some (.own x))->∃y,ρ[l]? =some (some (.own y)):=λ{l x} w=>by
   rcases aq w with ⟨rfl,z,_⟩|⟨z,w⟩
   ·exact⟨d,hi⟩
   ·exact⟨x,w⟩
  obtain⟨y1,w1⟩:=own_of q1
  obtain⟨y2,w2⟩:=own_of q2
  exact r.dis j k y1 y2 x w1 w2 q3 q4
 ·have V9:ρ[L.x]? =some (some .obj):=by
   rcases aq hρ with ⟨_,z,_⟩|⟨_,w⟩
   ·cases z
   ·exact w
  obtain⟨b,dx,fs,k0,k1,k2,k3,k4⟩:=r.obj L hL V9
  have n1:b≠a:=λz=>by subst z;rw[k2]at h2;cases h2;cases h5
  have n2:dx≠a:=λz=>by subst z;rw[k3]at h2;cases h2;cases h5
  exact⟨b,dx,fs,k0,k1,by rw[ao n1];exact k2,by rw[ao n2];exact k3,k4⟩
 ·refine r.odis L hL L' QB ?_ ?_
  ·rcases aq q1 with ⟨_,z,_⟩|⟨_,w⟩
   ·cases z
   ·exact w
  ·rcases aq q2 with ⟨_,z,_⟩|⟨_,w⟩
   ·cases z
   ·exact w
 ·rcases aq w with ⟨rfl,z,l⟩|⟨z,w⟩
  ·cases z
  ·obtain⟨b,dx,bb,k1,k2,k3⟩:=r.cel.ex j x O8 f hs w
   obtain⟨C,fs,vs,us,g1,g2,g3,g4,g5⟩:=k2.ex
   have n1:b≠a:=λz=>by subst z;rw[g1]at h2;cases h2;cases h5
   have n2:dx≠a:=λz=>by subst z;rw[k2.own]at h2;cases h2;cases h5
   have n3:bb≠a:=λz=>by subst z;exact k3 i d hi hs
   refine⟨b,dx,bb,k1,⟨⟨C,fs,vs,us,by rw[ao n1];exact g1,g2,g3,by rw[ao n3];exact g4,g5⟩,by rw[ao n2];exact k2.own,k2.fa,k2.fd,k2.fb,k2.za,k2.zd,k2.zb⟩,λk e w2=> ?_⟩
   rcases aq w2 with ⟨rfl,z',l⟩|⟨z',w2⟩
   ·exact k3 i d hi
   ·exact k3 k e w2
 ·rcases aq w with ⟨rfl,z,l⟩|⟨z,w⟩
  ·cases z
  ·rcases aq w2 with ⟨rfl,z',l⟩|⟨z',w2⟩
   ·cases z';cases OB
   ·exact r.cel.one j k x O8 f hs s w w2 OB
end
def frz1 (i:Nat) (ρ:a9):a9:=match ρ[i]? with
 |some (some (.own d))=>ρ.set i (some (.val d))
 |_=>ρ
def frz (L:List Nat) (ρ:a9):a9:=L.foldl (λr i=>frz1 i r) ρ
theorem RI.frz1 {K:Gs} {c:cO ly} {ρ:a9} {σ:St} {H F:Hp} (r:RI K c ρ σ H F) (i:Nat):∃F',aN F F'/\RI K c (frz1 i ρ) σ H F':=by
 unfold L2.Pu.frz1
 split
 ·rename_i d hi
  obtain⟨a,o,h1,h2,h3,h4,h5⟩:=r.own i d hi
  have g:aN F (b9 F a o):=bR h3
  refine⟨b9 F a o,g,⟨⟨λb u e=> ?_,r.ext.keep,r.ext.grow.trans g,λb e=> ?_⟩,λj e w=> ?_,λj e w=> ?_,λj e w=> ?_,r.bh,λj k e e' x q1 q2 q3 q4=> ?_,by simp[r.len],λL hL hρ=> ?_,λL hL L' QB q1 q2=> ?_,r.fm.trans g,⟨λj x O8 f hs w=> ?_,λj k x O8 f hs s w w2 OB=> ?_⟩,r.pin⟩⟩
  ·by_cases z:b=a
   ·subst z;rw[au]at e;rw[h2];exact e
   ·rw[ao z]at e;exact r.sub b u e
  ·by_cases z:b=a
   ·subst z;exact .inr h4
   ·rw[ao z]at e;exact r.ext.new b e
  ·rcases aq w with ⟨rfl,z,l⟩|⟨z,w⟩
   ·cases z
    refine⟨.ref a,h1,?_⟩
    cases h5 with
    |lst q=>exact .lst au (q.mono g)
    |dic q n=>exact .dic au (q.mono g) n
   ·obtain⟨v,k1,k2⟩:=r.val j e w;exact⟨v,k1,k2.mono g⟩
  ·rcases aq w with ⟨rfl,z,l⟩|⟨z,w⟩
   ·cases z
   ·obtain⟨x,y,k1,k2,k3,k4,k5⟩:=r.own j e w
    refine⟨x,y,k1,k2,?_,k4,k5.mono g⟩
    rw[ao (λzz=>by subst zz;exact z (r.dis i j d e x hi w h1 k1))]
    exact k3
  ·rcases aq w with ⟨rfl,z,l⟩|⟨z,w⟩
   ·cases z
   ·exact r.bor j e w
  ·rcases aq q1 with ⟨rfl,z,l⟩|⟨z,q1⟩
   ·cases z
   ·rcases aq q2 with ⟨rfl,z',l⟩|⟨z',q2⟩
    ·cases z'
    ·exact r.dis j k e e' x q1 q2 q3 q4
  ·have V9:ρ[L.x]? =some (some .obj):=by
    rcases aq hρ with ⟨_,z,_⟩|⟨_,w⟩
    ·cases z
    ·exact w
   obtain⟨b,dx,fs,k0,k1,k2,k3,k4,k5,k6⟩:=r.obj L hL V9
   have n1:b≠a:=λz=>by subst z;rw[k2]at h2;cases h2;cases h5
   have n2:dx≠a:=λz=>by subst z;rw[k3]at h2;cases h2;cases h5
   exact⟨b,dx,fs,k0,k1,k2,k3,by rw[ao n1];exact k4,by rw[ao n2];exact k5,k6⟩
  ·refine r.odis L hL L' QB ?_ ?_
   ·rcases aq q1 with ⟨_,z,_⟩|⟨_,w⟩
    ·cases z
    ·exact w
   ·rcases aq q2 with ⟨_,z,_⟩|⟨_,w⟩
    ·cases z
    ·exact w
  ·rcases aq w with ⟨rfl,z,l⟩|⟨z,w⟩
   ·cases z
   ·obtain⟨b,dx,bb,k1,k2,k3⟩:=r.cel.ex j x O8 f hs w
    obtain⟨C,fs,vs,us,g1,g2,g3,g4,g5,g6,g7⟩:=k2.ex
    have n1:b≠a:=λz=>by subst z;rw[g1]at h2;cases h2;cases h5
    have n2:dx≠a:=λz=>by subst z;rw[k2.own]at h2;cases h2;cases h5
    have n3:bb≠a:=λz=>by subst z;exact k3 i d hi h1
    refine⟨b,dx,bb,k1,⟨⟨C,fs,vs,us,g1,g2,g3,g4,g5.mono g,g6.mono g,g7⟩,k2.own,by rw[ao n1];exact k2.fa,by rw[ao n2];exact k2.fd,by rw[ao n3];exact k2.fb,k2.za,k2.zd,k2.zb⟩,λk e w2=> ?_⟩
    rcases aq w2 with ⟨rfl,z',l⟩|⟨z',w2⟩
    ·cases z'
    ·exact k3 k e w2
  ·rcases aq w with ⟨rfl,z,l⟩|⟨z,w⟩
   ·cases z
   ·rcases aq w2 with ⟨rfl,z',l⟩|⟨z',w2⟩
    ·cases z';cases OB
    ·exact r.cel.one j k x O8 f hs s w w2 OB
 ·exact⟨F,aN.refl _,r⟩
theorem RI.frz {K:Gs} {c:cO ly} {σ:St} {H:Hp}:∀(L:List Nat) {ρ:a9} {F:Hp},RI K c ρ σ H F->∃F',aN F F'/\RI K c (frz L ρ) σ H F'
 |[],ρ,F,r=>⟨F,aN.refl _,r⟩
 |i::L,ρ,F,r=>by
  obtain⟨F1,g1,r1⟩:=r.frz1 i
  obtain⟨F2,g2,r2⟩:=RI.frz L r1
  exact⟨F2,g1.trans g2,r2⟩
end L2.Pu
namespace L2.Pu
open PySem PySem.Spec PyProof.Rows
variable {ly:List df}
inductive R (α:Type)where
 |ok (a:α)|err (c:Gv) (ρ:a9)|bad
def R.bind {α β:Type}:R α->(α->R β)->R β
 | .ok a,f=>f a
 | .err c ρ,_=> .err c ρ
 | .bad,_=> .bad
instance:Monad R where
 pure:=R.ok
 bind:=R.bind
@[simp] theorem al {α β:Type} (a:α) (f:α->R β):(R.ok a>>=f)=f a:=rfl
@[simp] theorem DT {α β:Type} (c:Gv) (ρ:a9) (f:α->R β):(R.err c ρ>>=f)=R.err c ρ:=rfl
@[simp] theorem DU {α β:Type} (f:α->R β):(R.bad>>=f)=R.bad:=rfl
@[simp] theorem EE {α:Type} (a:α):(pure a:R α)=R.ok a:=rfl
def R.of {α:Type}:Option α->R α
 |some a=> .ok a
 |none=> .bad
@[simp] theorem dw {α:Type} (a:α):R.of (some a)= .ok a:=rfl
@[simp] theorem EF {α:Type}:R.of (none:Option α)= .bad:=rfl
def aC {α:Type} (c:cO ly) (r:R α) (P:α->Prop):Prop:=match r with
 | .ok a=>P a
 | .err e ρ=>c.Er e ρ
 | .bad=>False
theorem aC.imp {α:Type} {c:cO ly} {r:R α} {P P':α->Prop} (h:aC c r P) (w:∀a,r= .ok a->P a->P' a):aC c r P':=by
 cases r with
 |ok a=>exact w a rfl h
 |err e ρ=>exact h
 |bad=>exact h
theorem aC.bind {α β:Type} {c:cO ly} {r:R α} {f:α->R β} {P:β->Prop}:aC c (r>>=f) P<->aC c r λa=>aC c (f a) P:=by
 cases r<;>exact Iff.rfl
theorem aC.of {α:Type} {c:cO ly} {r:Option α} {P:α->Prop} (h:aC c (R.of r) P):∃a,r=some a/\P a:=by
 cases r with
 |none=>exact h.elim
 |some a=>exact⟨a,rfl,h⟩
def cg (K:Gs) (H F:Hp) (v:V) (d:D):Prop:=cH K F v d\/∃a o,v= .ref a/\H a=some o/\gF K F o d
theorem cg.mono {K:Gs} {H F H' F':Hp} {v:V} {d:D} (e:bf H F H' F'):cg K H F v d->cg K H' F' v d
 | .inl r=> .inl (r.mono e.grow)
 | .inr ⟨a,o,h1,h2,h3⟩=> .inr ⟨a,o,h1,e.keep _ _ h2,h3.mono e.grow⟩
theorem cg.lst {K:Gs} {H F:Hp} {v:V} {ds:List D} (s:aN F H) (h:cg K H F v (.lst ds)):∃a vs,v= .ref a/\H a=some (.lst vs)/\Reps K F vs ds:=by
 rcases h with h|⟨a,o,h1,h2,q⟩
 ·obtain⟨a,vs,e,h,r⟩:=h.inv
  exact⟨a,vs,e,s _ _ h,r⟩
 ·cases q with
  |lst r=>exact⟨_,_,h1,h2,r⟩
theorem cg.dic {K:Gs} {H F:Hp} {v:V} {ds:List (bD×D)} (s:aN F H) (h:cg K H F v (.dic ds)):∃a vs,v= .ref a/\H a=some (.dK vs)/\RepK K F vs ds/\(vs.map (·.1)).Nodup:=by
 rcases h with h|⟨a,o,h1,h2,q⟩
 ·obtain⟨a,vs,e,h,r⟩:=h.inv
  exact⟨a,vs,e,s _ _ h,r⟩
 ·cases q with
  |dic r n=>exact⟨_,_,h1,h2,r,n⟩
def Gd:D->Bool
 | .lst _=>true
 | .dic _=>true
 |_=>false
theorem cg.in {K:Gs} {H F:Hp} {v:V} {d:D} (h:cg K H F v d) (n:Gd d=false):xv K F v d:=by
 rcases h with h|⟨a,o,h1,h2,q⟩
 ·exact h.inv
 ·cases q<;>cases n
theorem cg.tup {K:Gs} {H F:Hp} {v:V} {ds:List D} (s:aN F H) (h:cg K H F v (.tup ds)):∃a vs,v= .ref a/\H a=some (.tup vs)/\Reps K F vs ds:=by
 obtain⟨a,vs,e,h,r⟩:=h.in rfl
 exact⟨a,vs,e,s _ _ h,r⟩
theorem cg.scr {K:Gs} {H F:Hp} {v:V} {ns:List Int} (s:aN F H) (h:cg K H F v (.scr ns)):∃a,v= .ref a/\c9 K H a (ns.map V.int):=by
 obtain⟨a,e,h⟩:=h.in rfl
 exact⟨a,e,s.seq h⟩
theorem cg.int {K:Gs} {H F:Hp} {v:V} {i:Int} (h:cg K H F v (.int i)):v= .int i:=h.in rfl
theorem cg.bl {K:Gs} {H F:Hp} {v:V} {i:Bool} (h:cg K H F v (.bl i)):v= .bl i:=h.in rfl
theorem cg.str {K:Gs} {H F:Hp} {v:V} {i:Gv} (h:cg K H F v (.str i)):v= .str i:=h.in rfl
theorem cg.non {K:Gs} {H F:Hp} {v:V} (h:cg K H F v .non):v= .non:=h.in rfl
inductive iR (K:Gs) (H F:Hp):List V->List D->Prop
 |nil:iR K H F [] []
 |cons {v:V} {d:D} {vs:List V} {ds:List D}:cg K H F v d->iR K H F vs ds->iR K H F (v::vs) (d::ds)
def dC (K:Gs) (x:Gv) (cls:Gu):Prop:=∃C,cls= .ref C/\GJ K GG x=some (some (.ref C))
def C4 (X:Cx) (c:cO ly) (σ:St):XK:=λcls _ H'=>∃x ρ F',dC X.K x cls/\RI X.K c ρ σ H' F'/\c.Er x ρ
def C5 (X:Cx) (c:cO ly):Prop:=(gQ X/\∀O0 σ ρ H F s a cls x,aB X O0 σ H s->RI X.K c ρ σ H F->Fl X O0 H s.heap a cls->dC X.K x cls->c.Er x ρ->X.xe (.ref a) s)\/(∀x ρ,¬c.Er x ρ)\/(X.stack=X.outer/\iL (iO X.prog X.w) X (C4 X c))
abbrev gi (ly:List df) (X:Cx):Type:={c:cO ly // C5 X c}
theorem C5.no {X:Cx} {c:cO ly} (h:∀x ρ,¬c.Er x ρ):C5 X c:= .inr (.inl h)
theorem nI {X:Cx} (c:gi ly X):iL (iO X.prog X.w) X (C4 X c.1):=λO0 σ H s e s' I h=>by
 rcases c.2 with ⟨hp,SW⟩|no|⟨_,ps⟩
 ·obtain⟨a,cls,H',rfl,I',fl,x,ρ,F',ec,ri,er⟩:=B_ I hp h
  exact SW O0 σ ρ H' F' s' a cls x I' ri fl ec er
 ·obtain⟨a,cls,H',_,_,_,_,_,_,x,ρ,F',ec,ri,er⟩:=h
  exact absurd er (no x ρ)
 ·exact ps O0 σ H s e s' I h
theorem C5.plain {X:Cx} {c:cO ly} (h:C5 X c) (QD:X.stack=X.env::X.outer):(gQ X/\∀O0 σ ρ H F s a cls x,aB X O0 σ H s->RI X.K c ρ σ H F->Fl X O0 H s.heap a cls->dC X.K x cls->c.Er x ρ->X.xe (.ref a) s)\/∀x ρ,¬c.Er x ρ:=by
 rcases h with h|h|⟨h,_⟩
 ·exact .inl h
 ·exact .inr h
 ·rw[h]at QD
  have:=congrArg LU QD
  simp at this
def tQ (K:Gs) (c:cO ly) (f:a9->R D):TE:=λσ H Q=>∃F ρ,RI K c ρ σ H F/\aC c (f ρ) λd=>∀v H' F',bf H F H' F'->cH K F' v d->Q v H'
def tB' (K:Gs) (c:cO ly) (f:a9->R D):TE:=λσ H Q=>∃F ρ,RI K c ρ σ H F/\aC c (f ρ) λd=>∀v H' F',bf H F H' F'->cg K H' F' v d->Q v H'
def tT (K:Gs) (c:cO ly) (f:a9->R Bool):TT:=λσ H Q=>∃F ρ,RI K c ρ σ H F/\aC c (f ρ) λb=>∀H' F',bf H F H' F'->Q b H'
def D6 (K:Gs) (c:cO ly) (f:a9->R (List D)):TA:=λσ H Q=>∃F ρ,RI K c ρ σ H F/\aC c (f ρ) λds=>∀vs H' F',bf H F H' F'->Reps K F' vs ds->Q vs H'
def DV (K:Gs) (c:cO ly) (f:a9->R (List D)):TA:=λσ H Q=>∃F ρ,RI K c ρ σ H F/\aC c (f ρ) λds=>∀vs H' F',bf H F H' F'->iR K H' F' vs ds->Q vs H'
def PQ (ly:List df) (X:Cx) (e:GD) (f:a9->R D):Prop:=∀c:gi ly X,PE X e (tQ X.K c.1 f)
def PB (ly:List df) (X:Cx) (e:GD) (f:a9->R D):Prop:=∀c:gi ly X,PE X e (tB' X.K c.1 f)
def rh (ly:List df) (X:Cx) (e:GD) (f:a9->R Bool):Prop:=∀c:gi ly X,PT X e (tT X.K c.1 f)
def qb (ly:List df) (X:Cx) (e:GD) (f:a9->R Bool):Prop:=∀c:gi ly X,PW X e (tT X.K c.1 f)
def sx (ly:List df) (X:Cx) (es:List GD) (f:a9->R (List D)):Prop:=∀c:gi ly X,PA X es (D6 X.K c.1 f)
def C6 (ly:List df) (X:Cx) (es:List GD) (f:a9->R (List D)):Prop:=∀c:gi ly X,PA X es (DV X.K c.1 f)
theorem PE.weak {X:Cx} {e:GD} {t t':TE} (h:PE X e t) (w:∀σ H Q,t' σ H Q->t σ H Q):PE X e t':=λO0 s σ H Q I q=>h O0 s σ H Q I (w σ H Q q)
theorem PT.weak {X:Cx} {e:GD} {t t':TT} (h:PT X e t) (w:∀σ H Q,t' σ H Q->t σ H Q):PT X e t':=λO0 s σ H Q I q=>h O0 s σ H Q I (w σ H Q q)
theorem PW.weak {X:Cx} {e:GD} {t t':TT} (h:PW X e t) (w:∀σ H Q,t' σ H Q->t σ H Q):PW X e t':=λwh O0 s σ H Q I q=>h wh O0 s σ H Q I (w σ H Q q)
theorem PA.weak {X:Cx} {e:List GD} {t t':TA} (h:PA X e t) (w:∀σ H Q,t' σ H Q->t σ H Q):PA X e t':=λpos O0 s σ H Q I q=>h pos O0 s σ H Q I (w σ H Q q)
theorem PS.weak {X:Cx} {e:Hl} {t t':TS} (h:PS X e t) (w:∀D σ H,t' D σ H->t D σ H):PS X e t':=λO0 s σ H D I q=>h O0 s σ H D I (w D σ H q)
theorem oR.weak {X:Cx} {e:List Hl} {t t':TS} (h:oR X e t) (w:∀D σ H,t' D σ H->t D σ H):oR X e t':=λO0 s σ H D I q=>h O0 s σ H D I (w D σ H q)
theorem PG.weak {X:Cx} {e:GD} {t t':TG} (h:PG X e t) (w:∀v σ H Q,t' v σ H Q->t v σ H Q):PG X e t':=λO0 s σ H v u Q I r q=>h O0 s σ H v u Q I r (w v σ H Q q)
theorem two {K:Gs} {c:cO ly} {fa fb:a9->R D} {g:D->D->R D} {σ:St} {H:Hp} {Q:VK} (h:tQ K c (λρ=>fa ρ>>=λx=>fb ρ>>=λy=>g x y) σ H Q)
  {T:V->V->Hp->Prop} (k:∀F H2 F2 v u x y,bf H F H2 F2->cg K H2 F2 v x->cg K H2 F2 u y->aC c (g x y) (λd=>∀w H' F',bf H F H' F'->cH K F' w d->Q w H')->T v u H2):
  tB' K c fa σ H λv H1=>tB' K c fb σ H1 λu H2=>T v u H2:=by
 obtain⟨F,ρ,ri,w⟩:=h
 refine⟨F,ρ,ri,(aC.bind.mp w).imp λx hx w1 v H1 F1 e1 r1=>⟨F1,ρ,ri.step e1,(aC.bind.mp w1).imp λy hy w2 u H2 F2 e2 r2=> ?_⟩⟩
 exact k F H2 F2 v u x y (e1.trans e2) (r1.mono e2) r2 w2
def i8 (K:Gs) (r:R2) (g:D->D->Option D):Prop:=∀v u x y d H F Q,aN F H->cg K H F v x->cg K H F u y->g x y=some d->(∀w H' F',bf H F H' F'->cH K F' w d->Q w H')->r v u H Q
def DW (K:Gs) (r:V->Hp->VK->Prop) (g:D->Option D):Prop:=∀v x d H F Q,aN F H->cg K H F v x->g x=some d->(∀w H' F',bf H F H' F'->cH K F' w d->Q w H')->r v H Q
def jN (K:Gs) (r:List V->Hp->VK->Prop) (g:List D->Option D):Prop:=∀vs ds d H F Q,aN F H->iR K H F vs ds->g ds=some d->(∀w H' F',bf H F H' F'->cH K F' w d->Q w H')->r vs H Q
section
variable {X:Cx} {a b e:GD} {es:List GD} {fa fb f:a9->R D} {fs:a9->R (List D)} {pos:Hr}
theorem PQ.bo (h:PQ ly X e f):PB ly X e f:=λc=>PE.weak (h c) λσ H Q ⟨F,ρ,ri,w⟩=>⟨F,ρ,ri,w.imp λd _ k v H' F' e r=>k v H' F' e (.inl r)⟩
def aw (i:Nat):a9->R D:=λρ=>match ρ[i]? with
 |some (some (.val d))=> .ok d
 |_=> .bad
def ae (i:Nat):a9->R D:=λρ=>match ρ[i]? with
 |some (some .obj)=> .bad
 |some (some (.cel ..))=> .bad
 |some (some s)=> .ok s.data
 |_=> .bad
theorem Ft (h:PE X e (wL i)):PQ ly X e (aw i):=λc=>PE.weak h λσ H Q ⟨F,ρ,ri,w⟩=>by
 unfold aw at w
 split at w
 ·rename_i d hd
  obtain⟨v,h1,h2⟩:=ri.val i d hd
  exact⟨v,h1,w v H F (bf.refl ri.sub) h2⟩
 ·exact w.elim
theorem Fu (h:PE X e (wL i)):PB ly X e (ae i):=λc=>PE.weak h λσ H Q ⟨F,ρ,ri,w⟩=>by
 unfold ae at w
 split at w
 ·exact w.elim
 ·exact w.elim
 ·rename_i s Va Vb hs
  cases s with
  |obj=>exact absurd rfl Va
  |cel x O8 f hs=>exact absurd rfl (Vb _ _ _ _)
  |val d=>obtain⟨v,h1,h2⟩:=ri.val i d hs;exact⟨v,h1,w v H F (bf.refl ri.sub) (.inl h2)⟩
  |own d=>obtain⟨a,o,h1,h2,h3,h4,h5⟩:=ri.own i d hs;exact⟨_,h1,w _ H F (bf.refl ri.sub) (.inr ⟨a,o,rfl,h2,h5⟩)⟩
  |bor d=>obtain⟨a,o,h1,h2,h3⟩:=ri.bor i d hs;exact⟨_,h1,w _ H F (bf.refl ri.sub) (.inr ⟨a,o,rfl,ri.ext.keep _ _ (ri.bh _ _ h2),h3.mono ri.ext.grow⟩)⟩
 ·exact w.elim
theorem ax (i:Nat) {x:Gv} (hN:X.N[i]? =some x:=by rfl) (hv:ke X.env.scope x:=by first|exact Hv rfl|exact Hh (Hv rfl)|exact Hh (Hh rfl)) (hd:(x==("__debug__":Gv))=false:=by decide)
  (P2:(x==("__classdict__":Gv))=false:=by decide):PQ ly X (.Name x pos) (aw i):=Ft (pv i hN hv hd P2)
theorem af (i:Nat) {x:Gv} (hN:X.N[i]? =some x:=by rfl) (hv:ke X.env.scope x:=by first|exact Hv rfl|exact Hh (Hv rfl)|exact Hh (Hh rfl)) (hd:(x==("__debug__":Gv))=false:=by decide)
  (P2:(x==("__classdict__":Gv))=false:=by decide):PB ly X (.Name x pos) (ae i):=Fu (pv i hN hv hd P2)
def fC (d:D):a9->R D:=λ_=> .ok d
theorem ak {i:Int} {j:Nat}:PQ ly X (.Constant (.int i) j pos) (fC (.int i)):=λc=>PE.weak Bd λσ H Q ⟨F,ρ,ri,w⟩=>w _ H F (bf.refl ri.sub) (.int i)
theorem oG {i:Bool} {j:Nat}:PQ ly X (.Constant (.bool i) j pos) (fC (.bl i)):=λc=>PE.weak Dg λσ H Q ⟨F,ρ,ri,w⟩=>w _ H F (bf.refl ri.sub) (.bl i)
theorem DX {j:Nat}:PQ ly X (.Constant .none j pos) (fC .non):=λc=>PE.weak Be λσ H Q ⟨F,ρ,ri,w⟩=>w _ H F (bf.refl ri.sub) .non
theorem bA {x:Gv} {j:Nat}:PQ ly X (.Constant (.str x) j pos) (fC (.str x)):=λc=>PE.weak Bf λσ H Q ⟨F,ρ,ri,w⟩=>w _ H F (bf.refl ri.sub) (.str x)
theorem i9 {x:Gv} {i:Int} {t:JP} (hg:Gl X x) (hm:X.mg x=some (.int i t)) (hd:(x==("__debug__":Gv))=false:=by decide):PQ ly X (.Name x pos) (fC (.int i)):=
 λc=>PE.weak (uf hg hm (v:= .int i) ⟨t,rfl⟩ hd) λσ H Q ⟨F,ρ,ri,w⟩=>w _ H F (bf.refl ri.sub) (.int i)
def f2 (g:D->D->Option D) (fa fb:a9->R D):a9->R D:=λρ=>fa ρ>>=λx=>fb ρ>>=λy=>R.of (g x y)
theorem ar {op:Operator} {r:R2} {g:D->D->Option D} (ho:ju X (ID op) r) (QX:i8 X.K r g) (ha:PB ly X a fa) (hb:PB ly X b fb):PQ ly X (.BinOp a op b pos) (f2 g fa fb):=λc=>
 PE.weak (Dv ho (ha c) (hb c)) λσ H Q h=>two h λF H2 F2 v u x y e rx ry w=>by
  obtain⟨d,hd,k⟩:=w.of
  exact QX v u x y d H2 F2 Q e.sub rx ry hd λw H' F' e' r'=>k w H' F' (e.trans e') r'
def f1 (g:D->Option D) (fa:a9->R D):a9->R D:=λρ=>fa ρ>>=λx=>R.of (g x)
theorem xw {op:UnaryOp} {r:V->Hp->VK->Prop} {g:D->Option D} (ho:EA X (unaryOp op) r) (QX:DW X.K r g) (ha:PB ly X a fa):PQ ly X (.UnaryOp op a pos) (f1 g fa):=λc=>
 PE.weak (Dw ho (ha c)) λσ H Q ⟨F,ρ,ri,w⟩=>⟨F,ρ,ri,(aC.bind.mp w).imp λx hx w1 v H1 F1 e1 r1=>by
  obtain⟨d,hd,k⟩:=w1.of
  exact QX v x d H1 F1 Q e1.sub r1 hd λw H' F' e' r'=>k w H' F' (e1.trans e') r'⟩
theorem nJ {op:Mj} {r:R2} {g:D->D->Option D} (ho:ju X (Ir op) r) (QX:i8 X.K r g) (ha:PB ly X a fa) (hb:PB ly X b fb) (hm:Ij op b=false:=by first|exact wY _|with_unfolding_all rfl):
  PQ ly X (.Compare a [op] [b] pos) (f2 g fa fb):=λc=>
 PE.weak (y_ ho (ha c) (hb c) hm) λσ H Q h=>two h λF H2 F2 v u x y e rx ry w=>by
  obtain⟨d,hd,k⟩:=w.of
  exact QX v u x y d H2 F2 Q e.sub rx ry hd λw H' F' e' r'=>k w H' F' (e.trans e') r'
def fT (f:a9->R D):a9->R Bool:=λρ=>f ρ>>=λd=>match d with
 | .bl b=> .ok b
 |_=> .bad
theorem DY {t:TE} (h:PT X e (AG t)) (w:∀σ H Q,tQ X.K c f σ H Q->t σ H Q):PT X e (tT X.K c (fT f)):=PT.weak h λσ H Q ⟨F,ρ,ri,k⟩=>by
 refine w σ H _ ⟨F,ρ,ri,(aC.bind.mp k).imp λd _ k1 v H' F' e r=> ?_⟩
 cases d with
 |bl b=>cases r;exact⟨b,rfl,k1 H' F' e⟩
 |_=>exact k1.elim
theorem ba {op:Mj} {r:R2} {g:D->D->Option D} (ho:ju X (Ir op) r) (QX:i8 X.K r g) (ha:PB ly X a fa) (hb:PB ly X b fb) (hm:Ij op b=false:=by first|exact wY _|with_unfolding_all rfl):
  rh ly X (.Compare a [op] [b] pos) (fT (f2 g fa fb)):=λc=>DY (zc ho (ha c) (hb c) hm) λσ H Q h=>two h λF H2 F2 v u x y e rx ry w=>by
  obtain⟨d,hd,k⟩:=w.of
  exact QX v u x y d H2 F2 Q e.sub rx ry hd λw H' F' e' r'=>k w H' F' (e.trans e') r'
def ag:a9->R (List D):=λ_=> .ok []
def a7 (f:a9->R D) (fs:a9->R (List D)):a9->R (List D):=λρ=>f ρ>>=λx=>fs ρ>>=λxs=> .ok (x::xs)
theorem ai:sx ly X [] ag:=λc=>PA.weak cY λσ H Q ⟨F,ρ,ri,w⟩=>w [] H F (bf.refl ri.sub) .nil
theorem a8 (h:PQ ly X e f) (hr:sx ly X es fs) (hs:Gy (e::es) X.env=(false,GW e X.env)::Gy es X.env:=by rfl):sx ly X (e::es) (a7 f fs):=λc=>
 PA.weak (bt (h c) (hr c) hs) λσ H Q ⟨F,ρ,ri,w⟩=>⟨F,ρ,ri,(aC.bind.mp w).imp λx hx w1 v H1 F1 e1 r1=>⟨F1,ρ,ri.step e1,(aC.bind.mp w1).imp λy hy w2 u H2 F2 e2 r2=>
  w2 _ H2 F2 (e1.trans e2) (.cons (r1.mono e2.grow) r2)⟩⟩
theorem aD:C6 ly X [] ag:=λc=>PA.weak cY λσ H Q ⟨F,ρ,ri,w⟩=>w [] H F (bf.refl ri.sub) .nil
theorem ay (h:PB ly X e f) (hr:C6 ly X es fs) (hs:Gy (e::es) X.env=(false,GW e X.env)::Gy es X.env:=by rfl):C6 ly X (e::es) (a7 f fs):=λc=>
 PA.weak (bt (h c) (hr c) hs) λσ H Q ⟨F,ρ,ri,w⟩=>⟨F,ρ,ri,(aC.bind.mp w).imp λx hx w1 v H1 F1 e1 r1=>⟨F1,ρ,ri.step e1,(aC.bind.mp w1).imp λy hy w2 u H2 F2 e2 r2=>
  w2 _ H2 F2 (e1.trans e2) (.cons (r1.mono e2) r2)⟩⟩
def lim:Nat:=100000
theorem dW:lim<=sizeLine:=by decide
def eE (fs:a9->R (List D)):a9->R D:=λρ=>fs ρ>>=λds=>if ds.length<=lim then .ok (.tup ds)else .bad
def bE (fs:a9->R (List D)):a9->R D:=λρ=>fs ρ>>=λds=>if ds.length<=lim then .ok (.lst ds)else .bad
theorem fg {x1:Nat} (h:sx ly X es fs):PQ ly X (.Tuple es x1 pos) (eE fs):=λc=>PE.weak (BE (h c)) λσ H Q ⟨F,ρ,ri,w⟩=>⟨F,ρ,ri,(aC.bind.mp w).imp λds hd w1 vs H1 F1 e1 r1=>by
 split at w1
 ·rename_i hl
  refine⟨Ht (by rw[r1.length];exact hl) dW,λp hp=> ?_⟩
  have e2:=bf.lay (o:= .tup vs) e1.sub hp
  exact w1 _ _ _ (e1.trans e2) (.tup au (r1.mono e2.grow))
 ·exact w1.elim⟩
theorem cW (h:sx ly X es fs):PQ ly X (.List es pos) (bE fs):=λc=>PE.weak (pT (h c)) λσ H Q ⟨F,ρ,ri,w⟩=>⟨F,ρ,ri,(aC.bind.mp w).imp λds hd w1 vs H1 F1 e1 r1=>by
 split at w1
 ·rename_i hl
  refine⟨Ht (by rw[r1.length];exact hl) dW,λp hp=> ?_⟩
  have e2:=bf.lay (o:= .lst vs) e1.sub hp
  exact w1 _ _ _ (e1.trans e2) (.lst au (r1.mono e2.grow))
 ·exact w1.elim⟩
def bZ (g:List D->Option D) (fs:a9->R (List D)):a9->R D:=λρ=>fs ρ>>=λds=>R.of (g ds)
variable {x:Gv} {p:Hr} {id T:String} {rc:List V->Hp->VK->Prop}
theorem uF {c:cO ly} {rc:List V->Hp->VK->Prop} {g:List D->Option D} (QX:jN X.K rc g) {σ:St} {H:Hp} {Q:VK} (h:tQ X.K c (bZ g fs) σ H Q):Ff rc (DV X.K c fs) σ H Q:=by
 obtain⟨F,ρ,ri,w⟩:=h
 refine⟨F,ρ,ri,(aC.bind.mp w).imp λds hd w1 vs H1 F1 e1 r1=> ?_⟩
 obtain⟨d,hd,k⟩:=w1.of
 exact QX vs ds d H1 F1 Q e1.sub r1 hd λw H' F' e' r'=>k w H' F' (e1.trans e') r'
theorem aF {g:List D->Option D} (hc:c7 X (.builtin id) rc) (QX:jN X.K rc g) (hm:X.mg x=none) (hv:Ho x=some (.builtin id)) (ha:C6 ly X (e::es) fs) (hg:Gl X x:=by rfl) (hn:x≠"__name__":=by decide) (Pe:(x==("__debug__":Gv))=false:=by decide)
  (he:Gy (e::es) X.env=(false,GW e X.env)::Gy es X.env:=by rfl) (OT:(Hb pos (Gy es X.env)).any (·.1)=false:=by rfl):PQ ly X (.Call (.Name x p) (e::es) [] pos) (bZ g fs):=λc=>
 PE.weak (iM hc hg hm hv (ha c) hn Pe he OT) λσ H Q h=>uF QX h
theorem cI {g:List D->Option D} (hc:c7 X (.type T) rc) (QX:jN X.K rc g) (hm:X.mg x=none) (hv:Ho x=some (.type T)) (ha:C6 ly X (e::es) fs) (hg:Gl X x:=by rfl) (hn:x≠"__name__":=by decide) (Pe:(x==("__debug__":Gv))=false:=by decide)
  (he:Gy (e::es) X.env=(false,GW e X.env)::Gy es X.env:=by rfl) (OT:(Hb pos (Gy es X.env)).any (·.1)=false:=by rfl):PQ ly X (.Call (.Name x p) (e::es) [] pos) (bZ g fs):=λc=>
 PE.weak (jf hc hg hm hv (ha c) hn Pe he OT) λσ H Q h=>uF QX h
def vJ (K:Gs) (n:Nat) (m:List D->R D):Sp:=λvs H Q E=>vs.length=n/\∃F ds,aN F H/\Reps K F vs ds/\match m ds with
 | .ok d=>∀v H' F',bf H F H' F'->cH K F' v d->Q v H'
 | .err x _=>∀cls a H' F',dC K x cls->bf H F H' F'->E cls a H'
 | .bad=>False
def aO (m:List D->R D) (n:Nat) (fs:a9->R (List D)):a9->R D:=λρ=>fs ρ>>=λds=>if ds.length=n then (match m ds with| .ok d=> .ok d| .err x _=> .err x ρ| .bad=> .bad)else .bad
theorem C7 {c:cO ly} {m:List D->R D} {n:Nat} {σ:St} {H:Hp} {Q:VK} (h:tQ X.K c (aO m n fs) σ H Q):AJ (vJ X.K n m) [] (C4 X c) (D6 X.K c fs) σ H Q:=by
 obtain⟨F,ρ,ri,w⟩:=h
 refine⟨F,ρ,ri,(aC.bind.mp w).imp λds hd w1 vs H1 F1 e1 r1=> ?_⟩
 show vJ X.K n m (vs++[]) H1 Q (C4 X c σ)
 rw[Ig]
 split at w1
 ·rename_i hl
  refine⟨by rw[r1.length];exact hl,F1,ds,e1.sub,r1,?_⟩
  split at w1
  ·exact λv H' F' e' r'=>w1 v H' F' (e1.trans e') r'
  ·exact λcls a H' F' ec e'=>⟨_,ρ,F',ec,ri.step (e1.trans e'),w1⟩
  ·exact w1.elim
 ·exact w1.elim
theorem C8 {n k:Nat} {m:List D->R D} {f:Gw} {fd:HX} {ps:List Gv} (F:dB X.prog X.w X.K X.mg X.base (iO X.prog X.w) k f fd ps (vJ X.K n m)) (hr:bY k X.A) (hm:X.mg x=some (.ref f)) (hk:HC X.K (.ref f)=true) (hb:dO X.K fd ps [])
  (ha:sx ly X (e::es) fs) (hg:Gl X x:=by rfl) (Pe:(x==("__debug__":Gv))=false:=by decide) (he:Gy (e::es) X.env=(false,GW e X.env)::Gy es X.env:=by rfl) (OT:(Hb pos (Gy es X.env)).any (·.1)=false:=by rfl):
  PQ ly X (.Call (.Name x p) (e::es) [] pos) (aO m n fs):=λc=>PE.weak (uo F hr hg hm hk hb .nil (nI c) (ha c) Pe he OT) λσ H Q h=>C7 h
variable {ga gb:a9->R Bool} {rest:List GD}
def iS (ga gb:a9->R Bool):a9->R Bool:=λρ=>ga ρ>>=λb=>if b=true then gb ρ else .ok false
def uG (ga gb:a9->R Bool):a9->R Bool:=λρ=>ga ρ>>=λb=>if b=true then .ok true else gb ρ
def jy (ga:a9->R Bool):a9->R Bool:=λρ=>ga ρ>>=λb=> .ok (!b)
theorem qb.t (h:qb ly X e ga):rh ly X e ga:=λc=>(h c).pt
theorem lh (h:rh ly X a ga):qb ly X (.BoolOp .And [a] pos) ga:=λc=>yU (h c)
theorem rj (h:rh ly X a ga):qb ly X (.BoolOp .Or [a] pos) ga:=λc=>Bh (h c)
theorem pc (h:rh ly X a ga) (hb:qb ly X (.BoolOp .And (b::rest) pos) gb):qb ly X (.BoolOp .And (a::b::rest) pos) (iS ga gb):=λc=>PW.weak (Bi (h c) (hb c)) λσ H Q ⟨F,ρ,ri,w⟩=>
 ⟨F,ρ,ri,(aC.bind.mp w).imp λb hb w1 H1 F1 e1=>by
  cases b with
  |true=>exact⟨F1,ρ,ri.step e1,w1.imp λb' _ k H2 F2 e2=>k H2 F2 (e1.trans e2)⟩
  |false=>exact w1 H1 F1 e1⟩
theorem xx (h:rh ly X a ga) (hb:qb ly X (.BoolOp .Or (b::rest) pos) gb):qb ly X (.BoolOp .Or (a::b::rest) pos) (uG ga gb):=λc=>PW.weak (Dh (h c) (hb c)) λσ H Q ⟨F,ρ,ri,w⟩=>
 ⟨F,ρ,ri,(aC.bind.mp w).imp λb hb w1 H1 F1 e1=>by
  cases b with
  |false=>exact⟨F1,ρ,ri.step e1,w1.imp λb' _ k H2 F2 e2=>k H2 F2 (e1.trans e2)⟩
  |true=>exact w1 H1 F1 e1⟩
theorem pe (h:rh ly X a ga):rh ly X (.UnaryOp .Not a pos) (jy ga):=λc=>PT.weak (Bj (h c)) λσ H Q ⟨F,ρ,ri,w⟩=>⟨F,ρ,ri,(aC.bind.mp w).imp λb hb w1 H1 F1 e1=>w1 H1 F1 e1⟩
def rl (fa fb:a9->R D):a9->R D:=λρ=>fa ρ>>=λd=>match d with
 | .bl true=>fb ρ
 | .bl false=> .ok (.bl false)
 |_=> .bad
def zS (fa fb:a9->R D):a9->R D:=λρ=>fa ρ>>=λd=>match d with
 | .bl true=> .ok (.bl true)
 | .bl false=>fb ρ
 |_=> .bad
def rm (fa:a9->R D):a9->R D:=λρ=>fa ρ>>=λd=>match d with
 | .bl b=> .ok (.bl (!b))
 |_=> .bad
theorem AS {op:PySem.BoolOp} (h:PQ ly X a fa):PQ ly X (.BoolOp op [a] pos) fa:=λc=>Bk (h c)
theorem AT (ha:PQ ly X a fa) (hb:PQ ly X (.BoolOp .And (b::rest) pos) fb):PQ ly X (.BoolOp .And (a::b::rest) pos) (rl fa fb):=λc=>PE.weak (Bm (ha c) (hb c)) λσ H Q ⟨F,ρ,ri,w⟩=>
 ⟨F,ρ,ri,(aC.bind.mp w).imp λd hd w1 v H1 F1 e1 r1=>by
  cases d with
  |bl b=>
   cases r1
   cases b with
   |true=>exact⟨true,rfl,F1,ρ,ri.step e1,w1.imp λb' _ k v H2 F2 e2 r2=>k v H2 F2 (e1.trans e2) r2⟩
   |false=>exact⟨false,rfl,w1 _ H1 F1 e1 (.bl false)⟩
  |_=>exact w1.elim⟩
theorem Fv (ha:PQ ly X a fa) (hb:PQ ly X (.BoolOp .Or (b::rest) pos) fb):PQ ly X (.BoolOp .Or (a::b::rest) pos) (zS fa fb):=λc=>PE.weak (Dk (ha c) (hb c)) λσ H Q ⟨F,ρ,ri,w⟩=>
 ⟨F,ρ,ri,(aC.bind.mp w).imp λd hd w1 v H1 F1 e1 r1=>by
  cases d with
  |bl b=>
   cases r1
   cases b with
   |false=>exact⟨false,rfl,F1,ρ,ri.step e1,w1.imp λb' _ k v H2 F2 e2 r2=>k v H2 F2 (e1.trans e2) r2⟩
   |true=>exact⟨true,rfl,w1 _ H1 F1 e1 (.bl true)⟩
  |_=>exact w1.elim⟩
theorem AU (ha:PQ ly X a fa):PQ ly X (.UnaryOp .Not a pos) (rm fa):=λc=>PE.weak (Bo (ha c)) λσ H Q ⟨F,ρ,ri,w⟩=>⟨F,ρ,ri,(aC.bind.mp w).imp λd hd w1 v H1 F1 e1 r1=>by
  cases d with
  |bl b=>cases r1;exact⟨b,rfl,w1 _ H1 F1 e1 (.bl _)⟩
  |_=>exact w1.elim⟩
def Ge (gc:a9->R Bool) (fa fb:a9->R D):a9->R D:=λρ=>gc ρ>>=λb=>if b=true then fa ρ else fb ρ
def nK:D->Option Bool
 | .non=>some false
 | .bl b=>some b
 | .int i=>some (i != 0)
 | .lst ds=>some (!ds.isEmpty)
 | .tup ds=>some (!ds.isEmpty)
 | .dic ds=>some (!ds.isEmpty)
 |_=>none
def fA (f:a9->R D):a9->R Bool:=λρ=>f ρ>>=λd=>R.of (nK d)
theorem Reps.isEmpty {K:Gs} {F:Hp}:∀{vs:List V} {ds:List D},Reps K F vs ds->vs.isEmpty=ds.isEmpty
 |_,_, .nil=>rfl
 |_,_, .cons _ _=>rfl
theorem RepK.isEmpty {K:Gs} {F:Hp}:∀{vs:List (bD×V)} {ds:List (bD×D)},RepK K F vs ds->vs.isEmpty=ds.isEmpty
 |_,_, .nil=>rfl
 |_,_, .cons _ _=>rfl
theorem gp (h:PB ly X e f) (he:∀Qd,Nt e X.env Qd=(do let v<-Qd;J_ e.pos;J8 [v] (truthy v)):=by intro _;rfl):rh ly X e (fA f):=λc=>PT.weak (wZ (h c) he) λσ H Q ⟨F,ρ,ri,w⟩=>
 ⟨F,ρ,ri,(aC.bind.mp w).imp λd hd w1 v H1 F1 e1 r1=>by
  obtain⟨b,hb,k⟩:=w1.of
  refine⟨b,?_,k H1 F1 e1⟩
  cases d with
  |non=>cases r1.non;cases hb;rfl
  |bl=>cases r1.bl;cases hb;rfl
  |int=>cases r1.int;cases hb;rfl
  |lst ds=>obtain⟨a,vs,rfl,h1,h2⟩:=r1.lst e1.sub;cases hb;exact .inl ⟨vs,c9.of h1,by rw[h2.isEmpty]⟩
  |tup ds=>obtain⟨a,vs,rfl,h1,h2⟩:=r1.tup e1.sub;cases hb;exact .inr (.inl ⟨vs,fE.of h1,by rw[h2.isEmpty]⟩)
  |dic ds=>obtain⟨a,vs,rfl,h1,h2,h3⟩:=r1.dic e1.sub;cases hb;exact .inr (.inr ⟨vs,h1,by rw[h2.isEmpty]⟩)
  |_=>cases hb⟩
end
end L2.Pu
namespace L2.Pu
open PySem PySem.Spec PyProof.Rows
variable {ly:List df}
inductive a_ where
 |nx (ρ:a9)|ret (d:D)|brk (ρ:a9)|cnt (ρ:a9)|retc (d:D) (ρ:a9)
def fj (K:Gs) (c:cO ly) (F:Hp) (D:kZ):a_->Prop
 | .nx ρ=>∀σ' H' F',aN F F'->RI K c ρ σ' H' F'->D.nx σ' H'
 | .brk ρ=>∀σ' H' F',aN F F'->RI K c ρ σ' H' F'->D.bk σ' H'
 | .cnt ρ=>∀σ' H' F',aN F F'->RI K c ρ σ' H' F'->D.ct σ' H'
 | .ret d=>∀v H' F',aN F F'->bf c.H0 c.F0 H' F'->cH K F' v d->D.rt v H'
 | .retc d ρ=>∀v σ' H' F',aN F F'->RI K c ρ σ' H' F'->cH K F' v d->D.rt v H'
theorem fj.mono {K:Gs} {c:cO ly} {F F1:Hp} {D:kZ} (g:aN F F1):∀{o:a_},fj K c F D o->fj K c F1 D o
 | .nx ρ,h=>λσ' H' F' s r=>h σ' H' F' (g.trans s) r
 | .brk ρ,h=>λσ' H' F' s r=>h σ' H' F' (g.trans s) r
 | .cnt ρ,h=>λσ' H' F' s r=>h σ' H' F' (g.trans s) r
 | .ret d,h=>λv H' F' s e r=>h v H' F' (g.trans s) e r
 | .retc d ρ,h=>λv σ' H' F' s e r=>h v σ' H' F' (g.trans s) e r
def tS (K:Gs) (c:cO ly) (g:a9->R a_):TS:=λD σ H=>∃F ρ,RI K c ρ σ H F/\aC c (g ρ) (fj K c F D)
def kd (ly:List df) (X:Cx) (st:Hl) (g:a9->R a_):Prop:=∀c:gi ly X,PS X st (tS X.K c.1 g)
def ia (ly:List df) (X:Cx) (st:List Hl) (g:a9->R a_):Prop:=∀c:gi ly X,oR X st (tS X.K c.1 g)
section
variable {X:Cx} {st:Hl} {rest:List Hl} {a b e:GD} {es:List GD} {fa fb f:a9->R D} {fs:a9->R (List D)} {ga gb g g':a9->R a_} {gt:a9->R Bool} {pos:Hr}
def aQ:a9->R a_:=λρ=> .ok (.nx ρ)
def aA (g g':a9->R a_):a9->R a_:=λρ=>g ρ>>=λo=>match o with
 | .nx ρ'=>g' ρ'
 |o=> .ok o
theorem aX:ia ly X [] aQ:=λc=>oR.weak yV λD σ H ⟨F,ρ,ri,w⟩=>w σ H F (aN.refl _) ri
theorem aj (h:kd ly X st g) (hr:ia ly X rest g'):ia ly X (st::rest) (aA g g'):=λc=>oR.weak (wN (h c) (hr c)) λD σ H ⟨F,ρ,ri,w⟩=>by
 refine⟨F,ρ,ri,(aC.bind.mp w).imp λo ho w1=> ?_⟩
 cases o with
 |nx ρ'=>exact λσ' H' F' s r=>⟨F',ρ',r,w1.imp λo' _ k=>k.mono s⟩
 |ret d=>exact w1
 |brk ρ'=>exact w1
 |cnt ρ'=>exact w1
 |retc d ρ'=>exact w1
theorem av (h:kd ly X st g):ia ly X [st] g:=λc=>oR.weak (yW (h c)) λD σ H w=>w
def gT (L:List Nat) (g:a9->R a_):a9->R a_:=λρ=>g (frz L ρ)
theorem iA (L:List Nat) (h:kd ly X st g):kd ly X st (gT L g):=λc=>PS.weak (h c) λD σ H ⟨F,ρ,ri,w⟩=>by
 obtain⟨F',s,Pd⟩:=ri.frz L
 exact⟨F',_,Pd,w.imp λo _ k=>k.mono s⟩
def cn (f:a9->R D):a9->R a_:=λρ=>f ρ>>=λd=> .ok (.ret d)
theorem b_ (h:PQ ly X e f):kd ly X (.Return (some e) pos) (cn f):=λc=>PS.weak (sy (h c)) λD σ H ⟨F,ρ,ri,w⟩=>
 ⟨F,ρ,ri,(aC.bind.mp w).imp λd _ w1 v H' F' e r=>w1 v H' F' e.grow (ri.ext.trans e) r⟩
def dr (gc:a9->R Bool) (g g':a9->R a_):a9->R a_:=λρ=>gc ρ>>=λb=>if b=true then g ρ else g' ρ
theorem ci {ta tb:List Hl} (hc:rh ly X e gt) (ha:ia ly X ta g) (hb:ia ly X tb g'):kd ly X (.If e ta tb pos) (dr gt g g'):=λc=>PS.weak (Dn (hc c) (ha c) (hb c)) λD σ H ⟨F,ρ,ri,w⟩=>
 ⟨F,ρ,ri,(aC.bind.mp w).imp λb hb w1 H1 F1 e1=>by
  cases b with
  |true=>exact⟨F1,ρ,ri.step e1,w1.imp λo _ k=>k.mono e1.grow⟩
  |false=>exact⟨F1,ρ,ri.step e1,w1.imp λo _ k=>k.mono e1.grow⟩⟩
def tG (K:Gs) (c:cO ly) (gt:D->a9->R a9):TG:=λv σ H Q=>∃F ρ d,RI K c ρ σ H F/\cH K F v d/\aC c (gt d ρ) λρ'=>∀σ' H' F',aN F F'->RI K c ρ' σ' H' F'->Q σ' H'
def AV (ly:List df) (X:Cx) (tg:GD) (gt:D->a9->R a9):Prop:=∀c:gi ly X,PG X tg (tG X.K c.1 gt)
def gN (i:Nat):D->a9->R a9:=λd ρ=> .ok (ρ.set i (some (.val d)))
theorem bJ (i:Nat) {x:Gv} (hN:X.N.Nodup) (hi:X.N[i]? =some x:=by rfl) (hx:wH X.env.scope x:=by first|exact Hv rfl|exact Hh rfl) (hf:X.fn x=true\/X.env.scope.names.lookup x=some .local:=by first|exact .inl rfl|exact .inr rfl|assumption) (P_:iQ ly i:=by(repeat (first|assumption|exact L2.Pu.dS|refine L2.Pu.d6 ⟨by first|decide|simp,by first|decide|simp⟩ ?_))):AV ly X (.Name x pos) (gN i):=
 λc=>PG.weak (uh hN hi hx hf) λv σ H Q ⟨F,ρ,d,ri,r,w⟩=>w _ H F (aN.refl _) (ri.setVal i P_ r)
def Gf (K:Gs) (c:cO ly) (gt:List D->a9->R a9):wO:=λvs σ H Q=>∃F ρ ds,RI K c ρ σ H F/\Reps K F vs ds/\aC c (gt ds ρ) λρ'=>∀σ' H' F',aN F F'->RI K c ρ' σ' H' F'->Q σ' H'
def zT (ly:List df) (X:Cx) (tg:List GD) (gt:List D->a9->R a9):Prop:=∀c:gi ly X,wQ X tg (Gf X.K c.1 gt)
theorem wQ.weak {X:Cx} {e:List GD} {t t':wO} (h:wQ X e t) (w:∀v σ H Q,t' v σ H Q->t v σ H Q):wQ X e t':=λO0 s σ H v u Q I r q=>h O0 s σ H v u Q I r (w v σ H Q q)
def xy:List D->a9->R a9:=λds ρ=>match ds with
 |[]=> .ok ρ
 |_=> .bad
def nL (g:D->a9->R a9) (gs:List D->a9->R a9):List D->a9->R a9:=λds ρ=>match ds with
 |[]=> .bad
 |d::r=>g d ρ>>=λρ'=>gs r ρ'
theorem C9:zT ly X [] xy:=λc=>wQ.weak yX λvs σ H Q ⟨F,ρ,ds,ri,r,w⟩=>by
 cases r with
 |nil=>exact⟨rfl,w σ H F (aN.refl _) ri⟩
 |cons _ _=>exact w.elim
theorem uH {g:D->a9->R a9} {gs:List D->a9->R a9} (h:AV ly X e g) (hr:zT ly X es gs) (hs:(HY (e::es) X.env).map (·.2)=Kb e X.env::(HY es X.env).map (·.2):=by rfl):zT ly X (e::es) (nL g gs):=
 λc=>wQ.weak (wR (h c) (hr c) hs) λvs σ H Q ⟨F,ρ,ds,ri,r,w⟩=>by
 cases r with
 |nil=>exact w.elim
 | @cons v d vs ds r t=>
  refine⟨v,vs,rfl,F,ρ,d,ri,r,(aC.bind.mp w).imp λρ' _ w1 σ' H' F' s Pd=>⟨F',ρ',ds,Pd,t.mono s,w1.imp λρ2 _ k σ2 H2 F2 s2 r2=>k σ2 H2 F2 (s.trans s2) r2⟩⟩
def xz (n:Nat) (gs:List D->a9->R a9):D->a9->R a9:=λd ρ=>match d with
 | .tup ds=>if ds.length=n then gs ds ρ else .bad
 | .lst ds=>if ds.length=n then gs ds ρ else .bad
 |_=> .bad
theorem PG.or {X:Cx} {e:GD} {t t':TG} (h:PG X e t) (h':PG X e t'):PG X e (λv σ H Q=>t v σ H Q\/t' v σ H Q):=λO0 s σ H v u Q I r q=>q.elim (λq=>h O0 s σ H v u Q I r q) λq=>h' O0 s σ H v u Q I r q
theorem DZ {k n:Nat} {gs:List D->a9->R a9} (hc:X.calm=true) (h:zT ly X es gs) (hn:(HY es X.env).length=n:=by rfl) (QD:(HY es X.env).findIdx? (·.1)=none:=by rfl):AV ly X (.Tuple es k pos) (xz n gs):=
 λc=>PG.weak (PG.or (Bq hc (h c) hn QD) (BY hc (h c) hn QD)) λv σ H Q ⟨F,ρ,d,ri,r,w⟩=>by
 cases r with
 | @tup a vs ds h1 h2=>
  change aC c.1 (if ds.length=n then gs ds ρ else .bad) _ at w
  split at w
  ·rename_i hl
   exact .inl ⟨a,vs,rfl,fE.of (ri.sub _ _ h1),by rw[h2.length];exact hl,F,ρ,ds,ri,h2,w⟩
  ·exact w.elim
 | @lst a vs ds h1 h2=>
  change aC c.1 (if ds.length=n then gs ds ρ else .bad) _ at w
  split at w
  ·rename_i hl
   exact .inr ⟨a,vs,rfl,c9.of (ri.sub _ _ h1),by rw[h2.length];exact hl,F,ρ,ds,ri,h2,w⟩
  ·exact w.elim
 |_=>exact w.elim
def bV (f:a9->R D) (g:D->a9->R a9):a9->R a_:=λρ=>f ρ>>=λd=>g d ρ>>=λρ'=> .ok (.nx ρ')
theorem cJ (i:Nat) {x:Gv} {Oh:Hr} (hN:X.N.Nodup) (he:PQ ly X e f) (hi:X.N[i]? =some x:=by rfl) (hx:wH X.env.scope x:=by first|exact Hv rfl|exact Hh rfl) (hs:HA e (some (.Name x Oh)) pos.line X.env=pure false:=by rfl)
  (hf:X.fn x=true\/X.env.scope.names.lookup x=some .local:=by first|exact .inl rfl|exact .inr rfl|assumption) (P_:iQ ly i:=by(repeat (first|assumption|exact L2.Pu.dS|refine L2.Pu.d6 ⟨by first|decide|simp,by first|decide|simp⟩ ?_))):kd ly X (.Assign [.Name x Oh] e pos) (bV f (gN i)):=λc=>
 PS.weak (l6 hN hi hx (he c) hs hf) λD σ H h=>by
  obtain⟨F,ρ,ri,w⟩:=h
  exact⟨F,ρ,ri,(aC.bind.mp w).imp λd _ w1 v H1 F1 e1 r1=>w1 _ H1 F1 e1.grow ((ri.step e1).setVal i P_ r1)⟩
def Gg (i j:Nat) (fs:a9->R (List D)):a9->R a_:=λρ=>fs ρ>>=λds=>match ds with
 |[x,y]=> .ok (.nx ((ρ.set i (some (.val x))).set j (some (.val y))))
 |_=> .bad
def iB (i:Nat) (fs:a9->R (List D)):a9->R a_:=λρ=>fs ρ>>=λds=>if ds.length<=lim then .ok (.nx (ρ.set i (some (.own (.lst ds)))))else .bad
theorem jO (i:Nat) {x:Gv} {Oh pl:Hr} (hN:X.N.Nodup) (h:sx ly X es fs) (hi:X.N[i]? =some x:=by rfl) (hx:wH X.env.scope x:=by first|exact Hv rfl|exact Hh rfl) (hs:HA (.List es pl) (some (.Name x Oh)) pos.line X.env=pure false:=by rfl)
  (hf:X.fn x=true\/X.env.scope.names.lookup x=some .local:=by first|exact .inl rfl|exact .inr rfl|assumption) (P_:iQ ly i:=by(repeat (first|assumption|exact L2.Pu.dS|refine L2.Pu.d6 ⟨by first|decide|simp,by first|decide|simp⟩ ?_))):kd ly X (.Assign [.Name x Oh] (.List es pl) pos) (iB i fs):=λc=>
 PS.weak (l6 hN hi hx (pT (h c)) hs hf) λD σ H ⟨F,ρ,ri,w⟩=>⟨F,ρ,ri,(aC.bind.mp w).imp λds _ w1 vs H1 F1 e1 r1=>by
  split at w1
  ·rename_i hl
   refine⟨Ht (by rw[r1.length];exact hl) dW,λp hp=> ?_⟩
   exact w1 _ _ F1 e1.grow ((ri.step e1).setNew i P_ hp (.lst r1))
  ·exact w1.elim⟩
structure vK (K:Gs) (F:Hp) (J:It) (ds:List D):Prop where
 go:∀i H,aN F H->i<ds.length->J.go i H
 stop:∀H,aN F H->J.stop ds.length H
 yld:∀i H F1 x H',aN F F1->aN F1 H->J.yld i H x H'->i<ds.length->∃F' d,ds[i]? =some d/\bf H F1 H' F'/\cH K F' x d
def tI (K:Gs) (c:cO ly) (fi:a9->R (List D)):TI:=λσ H Rk=>∃F ρ,RI K c ρ σ H F/\aC c (fi ρ) λds=>∀J H' F',bf H F H' F'->vK K F' J ds->Rk J H'
def D7 (ly:List df) (X:Cx) (tg Oj:GD) (fi:a9->R (List D)):Prop:=∀c:gi ly X,PI X tg Oj (tI X.K c.1 fi)
theorem PI.weak {X:Cx} {tg e:GD} {t t':TI} (h:PI X tg e t) (w:∀σ H Rk,t' σ H Rk->t σ H Rk):PI X tg e t':=λO0 s σ H Rk I q=>h O0 s σ H Rk I (w σ H Rk q)
def eF (g:D->a9->R a9) (gb:a9->R a_):List D->a9->R a_
 |[],ρ=> .ok (.nx ρ)
 |d::r,ρ=>g d ρ>>=λρ1=>gb ρ1>>=λo=>match o with
  | .nx ρ2=>eF g gb r ρ2
  | .cnt ρ2=>eF g gb r ρ2
  | .brk ρ2=> .ok (.nx ρ2)
  | .ret d=> .ok (.ret d)
  | .retc d ρ2=> .ok (.retc d ρ2)
def li (fi:a9->R (List D)) (g:D->a9->R a9) (gb:a9->R a_):a9->R a_:=λρ=>fi ρ>>=λds=>eF g gb ds ρ
theorem t5 {g:D->a9->R a9} {gb:a9->R a_} {ds:List D} {i:Nat} {d:D} {ρ:a9} (h:ds[i]? =some d):eF g gb (ds.drop i) ρ=(g d ρ>>=λρ1=>gb ρ1>>=λo=>match o with
  | .nx ρ2=>eF g gb (ds.drop (i+1)) ρ2
  | .cnt ρ2=>eF g gb (ds.drop (i+1)) ρ2
  | .brk ρ2=> .ok (.nx ρ2)
  | .ret d=> .ok (.ret d)
  | .retc d ρ2=> .ok (.retc d ρ2)):=by
 obtain⟨hl,e⟩:=GV.mp h
 rw[JM hl,e]
 rfl
theorem Ca {K:Gs} {c:cO ly} {fi:a9->R (List D)} {g:D->a9->R a9} {D':kZ} {σ:St} {H:Hp} (h:tS K c (li fi g gb) D' σ H):Du (tI K c fi) (tG K c g) (tS K c gb) D' σ H:=by
 obtain⟨F,ρ,ri,w⟩:=h
 refine⟨F,ρ,ri,(aC.bind.mp w).imp λds _ w1 J H1 F1 e1 jo=> ?_⟩
 refine⟨λi m σ H=>∃F2 ρ2,RI K c ρ2 σ H F2/\aN F1 F2/\m=ds.length - i/\i<=ds.length/\aC c (eF g gb (ds.drop i) ρ2) (fj K c F2 D'),⟨_,F1,ρ,ri.step e1,aN.refl _,rfl,Il _,w1.imp λo _ k=>k.mono e1.grow⟩,?_⟩
 rintro i m σ2 H2 ⟨F2,ρ2,S5,s2,rfl,hi,w2⟩
 by_cases hl:i<ds.length
 ·refine .inr ⟨jo.go i H2 (s2.trans S5.sub) hl,λσ' H'=>∃F3 ρ3,RI K c ρ3 σ' H' F3/\aN F2 F3/\aC c (eF g gb (ds.drop (i+1)) ρ3) (fj K c F3 D'),?_,λx H3 y=> ?_⟩
  ·rintro σ' H' ⟨F3,ρ3,Ry,s3,w3⟩
   exact⟨ds.length - (i+1),by omega,F3,ρ3,Ry,s2.trans s3,rfl,hl,w3⟩
  ·obtain⟨F3,d,hd,e3,r3⟩:=jo.yld i H2 F2 x H3 s2 S5.sub y hl
   rw[t5 hd]at w2
   refine⟨F3,ρ2,d,S5.step e3,r3,(aC.bind.mp w2).imp λρ3 _ w3 σ4 H4 F4 s4 r4=>⟨F4,ρ3,r4,(aC.bind.mp w3).imp λo _ w4=> ?_⟩⟩
   have SX:aN F2 F4:=e3.grow.trans s4
   cases o with
   |nx ρ5=>exact λσ' H' F' s' r'=>⟨F',ρ5,r',SX.trans s',w4.imp λo _ k=>k.mono (SX.trans s')⟩
   |cnt ρ5=>exact λσ' H' F' s' r'=>⟨F',ρ5,r',SX.trans s',w4.imp λo _ k=>k.mono (SX.trans s')⟩
   |brk ρ5=>exact λσ' H' F' s' r'=>w4 σ' H' F' (SX.trans s') r'
   |ret d=>exact λv H' F' s' e' r'=>w4 v H' F' (SX.trans s') e' r'
   |retc d ρ5=>exact λv σ' H' F' s' e' r'=>w4 v σ' H' F' (SX.trans s') e' r'
 ·have e:i=ds.length:=by omega
  subst e
  rw[Nl]at w2
  exact .inl ⟨jo.stop H2 (s2.trans S5.sub),w2 σ2 H2 F2 (aN.refl _) S5⟩
theorem uI {tg Oj:GD} {body:List Hl} {fi:a9->R (List D)} {g:D->a9->R a9} (hp:PassesOwn (GN X.prog X.w) X.A X.env X.xe) (hc:X.calm=true) (hi:D7 ly X tg Oj fi) (hg:AV ly X tg g) (hb:ia ly X body gb)
  (hs:∀x,IK Oj X.env x=pure x:=by intro _;rfl):kd ly X (.For tg Oj body [] pos) (li fi g gb):=λc=>PS.weak (Bu hp hc (hi c) (hg c) (hb c) hs) λD σ H h=>Ca h
theorem vL {K:Gs} {F:Hp} {a:Gw} {vs:List V} {ds:List D} (h:F a=some (.lst vs)) (r:Reps K F vs ds):vK K F (Ey K a) ds where
 go:=λi H s hi=>⟨vs,vs[i]'(by rw[r.length];exact hi),c9.of (s _ _ h),by simp[r.length,hi]⟩
 stop:=λH s=>⟨vs,c9.of (s _ _ h),Lo r.length⟩
 yld:=λi H F1 x H' s1 s2 y hi=>by
  obtain⟨rfl,y⟩:=y
  have:=y vs (c9.of (s2 _ _ (s1 _ _ h)))
  obtain⟨d,hd,rd⟩:=r.get' this
  exact⟨F1,d,hd,bf.refl s2,rd.mono s1⟩
theorem xA {K:Gs} {F:Hp} {a:Gw} {vs:List V} {ds:List D} (h:F a=some (.tup vs)) (r:Reps K F vs ds):vK K F (F8 K a) ds where
 go:=λi H s hi=>⟨vs,vs[i]'(by rw[r.length];exact hi),fE.of (s _ _ h),by simp[r.length,hi]⟩
 stop:=λH s=>⟨vs,fE.of (s _ _ h),Lo r.length⟩
 yld:=λi H F1 x H' s1 s2 y hi=>by
  obtain⟨rfl,y⟩:=y
  have:=y vs (fE.of (s2 _ _ (s1 _ _ h)))
  obtain⟨d,hd,rd⟩:=r.get' this
  exact⟨F1,d,hd,bf.refl s2,rd.mono s1⟩
def dD (f:a9->R D):a9->R (List D):=λρ=>f ρ>>=λd=>match d with
 | .lst ds=> .ok ds
 | .tup ds=> .ok ds
 | .scr ns=> .ok (ns.map .int)
 |_=> .bad
theorem xB {K:Gs} {F:Hp} {a:Gw} {ns:List Int} (h:c9 K F a (ns.map V.int)):vK K F (Ey K a) (ns.map .int)where
 go:=λi H s hi=>⟨ns.map V.int,(ns.map V.int)[i]'(by simpa using hi),s.seq h,by simp at hi;simp[hi]⟩
 stop:=λH s=>⟨ns.map V.int,s.seq h,by simp⟩
 yld:=λi H F1 x H' s1 s2 y hi=>by
  obtain⟨rfl,y⟩:=y
  have:=y (ns.map V.int) ((s1.trans s2).seq h)
  rw[Hg]at this
  cases e:ns[i]? with
  |none=>rw[e]at this;cases this
  |some n=>rw[e]at this;cases this;exact⟨F1, .int n,by rw[Hg,e];rfl,bf.refl s2, .int n⟩
theorem eW {tg:GD} (h:PQ ly X e f):D7 ly X tg e (dD f):=by
 intro c O0 s σ H Rk I q
 obtain⟨F,ρ,ri,w⟩:=q
 have w':=aC.bind.mp w
 cases hf:f ρ with
 |bad=>rw[hf]at w';exact w'.elim
 |err er ρe=>
  rw[hf]at w'
  exact pR (h c) O0 s σ H Rk I ⟨F,ρ,ri,by rw[hf];exact w'⟩
 |ok d=>
  rw[hf]at w'
  cases d with
  |lst ds=>exact pR (h c) O0 s σ H Rk I ⟨F,ρ,ri,by
    rw[hf]
    intro v H1 F1 e1 r1
    cases r1 with
    |lst h1 h2=>exact⟨_,rfl,⟨_,c9.of (e1.sub _ _ h1)⟩,w' _ H1 F1 e1 (vL h1 h2)⟩⟩
  |tup ds=>exact Bt (h c) O0 s σ H Rk I ⟨F,ρ,ri,by
    rw[hf]
    intro v H1 F1 e1 r1
    cases r1 with
    |tup h1 h2=>exact⟨_,rfl,⟨_,fE.of (e1.sub _ _ h1)⟩,w' _ H1 F1 e1 (xA h1 h2)⟩⟩
  |scr ns=>exact pR (h c) O0 s σ H Rk I ⟨F,ρ,ri,by
    rw[hf]
    intro v H1 F1 e1 r1
    cases r1 with
    |scr h1=>exact⟨_,rfl,⟨_,e1.sub.seq h1⟩,w' _ H1 F1 e1 (xB h1)⟩⟩
  |_=>exact w'.elim
def iT (lo hi:Int):List D:=(Hy (hi - lo).toNat).map λk:Nat=>D.int (lo+(k:Int))
theorem t6 {K:Gs} {F:Hp} {lo hi:Int}:vK K F (Ez lo (hi - lo).toNat) (iT lo hi)where
 go:=λi H s h=>by
  rw[iT,GA,Ic]at h
  exact h
 stop:=λH s=>by show (hi - lo).toNat<=_;rw[iT,GA,Ic];exact GZ _
 yld:=λi H F1 x H' s1 s2 y h=>by
  obtain⟨rfl,rfl⟩:=y
  have h':i<(hi - lo).toNat:=by rw[iT,GA,Ic]at h;exact h
  exact⟨F1, .int (lo+i),by rw[iT,Hg,MD h'];rfl,bf.refl s2, .int _⟩
def dX (f:a9->R (List D)):a9->R (List D):=λρ=>f ρ>>=λds=>match ds with
 |[.int j]=>if j.natAbs<=lim then .ok (iT 0 j)else .bad
 |_=> .bad
theorem ji {j:Int} (h:j.natAbs<=lim): -(2 ^62)<=j/\j<2 ^62:=by
 unfold lim at h
 omega
theorem gU {tg:GD} {p:Hr} (hm:X.mg "range"=none) (ha:sx ly X [a] fs) (hg:Gl X "range":=by rfl) (hs:Gy [a] X.env=[(false,GW a X.env)]:=by rfl):D7 ly X tg (.Call (.Name "range" p) [a] [] pos) (dX fs):=λc=>
 PI.weak (vj hg hm (ha c) hs) λσ H Rk ⟨F,ρ,ri,w⟩=>⟨F,ρ,ri,(aC.bind.mp w).imp λds _ w1 vs H1 F1 e1 r1=>by
  split at w1
  ·split at w1
   ·rename_i j _ hj
    cases r1.int1
    exact⟨j,rfl,(ji hj).1,(ji hj).2,w1 _ H1 F1 e1 (by simpa using t6 (K:=X.K) (F:=F1) (lo:=0) (hi:=j))⟩
   ·exact w1.elim
  ·exact w1.elim⟩
end
def cj (n:Nat) (ds:List D):a9:=ds.map (λd=>some (.val d))++Hs (n - ds.length) none
def bd (k n:Nat) (g:a9->R a_) (ds:List D):R D:=if ds.length=k then g (cj n ds)>>=λo=>match o with
 | .ret d=> .ok d
 | .nx _=> .ok .non
 |_=> .bad else .bad
theorem xC {K:Gs} {N:List Gv} {H F:Hp} {vs:List V} {ds:List D} {Er:Gv->a9->Prop} (s:aN F H) (r:Reps K F vs ds):RI K (⟨H,F,λ_=>none,Er,λ_=>none,λ_=>none⟩:cO []) (cj N.length ds) (dc N vs) H F:=by
 have hv:∀(i:Nat) sl,(cj N.length ds)[i]? =some (some sl)->∃d,ds[i]? =some d/\sl= .val d:=λi sl h=>by
  unfold cj at h
  rw[JC]at h
  split at h
  ·rw[Hg]at h
   cases e:ds[i]? with
   |none=>rw[e]at h;cases h
   |some d=>rw[e]at h;simp at h;exact⟨d,rfl,h.symm⟩
  ·rw[IQ]at h
   split at h<;>simp at h
 refine⟨bf.refl s,λi d h=> ?_,λi d h=> ?_,λi d h=> ?_,(λb o e=>by cases e),λi j d d' a h=> ?_,?_,(λL h=>by cases h),(λL h=>by cases h),(λ_ _ e=>by cases e), .no λi x O8 f hs h=>(by obtain⟨d,_,z⟩:=hv i _ h;cases z),λL h=>by cases h⟩
 ·obtain⟨d',e,z⟩:=hv i _ h
  cases z
  obtain⟨v,h1,h2⟩:=r.get e
  refine⟨v,?_,h2⟩
  unfold dc
  have hl:i<vs.length:=(GV.mp h1).1
  rw[IA (by simpa using hl),Hg,h1]
  rfl
 ·obtain⟨d',_,z⟩:=hv i _ h;cases z
 ·obtain⟨d',_,z⟩:=hv i _ h;cases z
 ·obtain⟨d',_,z⟩:=hv i _ h;cases z
 ·simp[cj,dc,r.length]
theorem EG {P:GP} {w:G_} {K:Gs} {mg:Gv->Option Gu} {base:GY} {x qual:Gv} {st:Hl} {f:Gw} {fd:HX} {N ps:List Gv} {k:Nat} {sp:Sp} (F:ux K x qual st f fd) (S:aK N ps (ah st)) (len:∀vs H Q E,sp vs H Q E->vs.length=ps.length)
  (Oo:∀(Oc:Gu) (A:Hd) (outer:List Iz) (s:Gx) (H:Hp) (vs:List V) (Q:VK) (E:XK),bY k (A.deeper (IE qual (ah st) s.heap.objs.size f Oc))->sp vs H Q E->
   ∃t,oR (gg (iO P w) P w K mg base N qual (ah st) f Oc A outer s H E) (b0 st) t/\t {nx:=λ_ H'=>Q .non H',rt:=Q} (dc N vs) H):dB P w K mg base (iO P w) (k+1) f fd ps sp:=by
 obtain⟨oc,od,kV,P5,pm,an,Oc,ct,Qp,rfl,lk,P2⟩:=F.ex
 exact AK lk P2 S len λA outer s H vs Q E hr S3=>Oo Oc A outer s H vs Q E hr S3
theorem qc {P:GP} {w:G_} {K:Gs} {mg:Gv->Option Gu} {base:GY} {N:List Gv} {qual:Gv} {scope:IP} {f:Gw} {cd:Gu} {A:Hd} {outer:List Iz} {s0:Gx} {H0:Hp} {E:XK} {c:cO ly}
  (h:∀x ρ,c.Er x ρ->∀cls a H' F' σ,dC K x cls->RI K c ρ σ H' F'->E cls a H'):C5 (gg (iO P w) P w K mg base N qual scope f cd A outer s0 H0 E) c:=
 .inl ⟨nH,λO0 σ ρ H F s a cls x I ri fl ec er=>s_ I fl (h x ρ er cls (some a) H F σ ec ri)⟩
theorem Cb {P:GP} {w:G_} {K:Gs} {mg:Gv->Option Gu} {base:GY} {x qual:Gv} {st:Hl} {f:Gw} {fd:HX} {N ps:List Gv} {k n m:Nat} {g:a9->R a_} (F:ux K x qual st f fd) (S:aK N ps (ah st)) (hn:ps.length=n) (hm:N.length=m)
  (Oo:∀(Oc:Gu) (A:Hd) (outer:List Iz) (s:Gx) (H:Hp) (E:XK),bY k (A.deeper (IE qual (ah st) s.heap.objs.size f Oc))->
   ia [] (gg (iO P w) P w K mg base N qual (ah st) f Oc A outer s H E) (b0 st) g):dB P w K mg base (iO P w) (k+1) f fd ps (vJ K n (bd n m g)):=by
 refine EG F S (λvs H Q E h=>by rw[hn];exact h.1) (λOc A outer s H vs Q E hr h=> ?_)
 obtain⟨hl,Fz,ds,sub,r,w⟩:=h
 refine⟨_,Oo Oc A outer s H E hr ⟨⟨H,Fz,λ_=>none,λx _=>∀cls a H' F',dC K x cls->bf H Fz H' F'->E cls a H',λ_=>none,λ_=>none⟩,qc λx ρ er cls a H' F' σ ec ri=>er cls a H' F' ec ri.ext⟩,?_⟩
 refine⟨Fz,cj m ds,by rw[<-hm];exact xC sub r,?_⟩
 have hd:ds.length=n:=by rw[<-r.length];exact hl
 unfold bd at w
 rw[if_pos hd]at w
 cases e:g (cj m ds)with
 |bad=>rw[e]at w;exact w.elim
 |err c ρ=>rw[e]at w;exact w
 |ok o=>
  rw[e]at w
  cases o with
  |ret d=>exact λv H' F' _ e' r'=>w v H' F' e' r'
  |nx ρ=>exact λσ' H' F' _ r'=>w .non H' F' r'.ext .non
  |retc d ρ=>exact w.elim
  |brk ρ=>exact w.elim
  |cnt ρ=>exact w.elim
end L2.Pu
namespace L2.Pu
open PySem PySem.Spec PyProof.Rows
variable {ly:List df}
def Slot.toBor:Slot->Slot
 | .val d=> .val d
 | .own d=> .bor d
 | .bor d=> .bor d
 | .obj=> .obj
 | .cel .. => .obj
def fK (N:List Gv) (names:List (Gv×HD)) (ρ:a9):a9:=
 names.map λx=>if x.2= .free then ((N.findIdx? (·==x.1)).bind λi=>(ρ[i]?).join.map Slot.toBor)else none
theorem D_ {K:Gs} {c:cO ly} {ρ:a9} {σ:St} {H F H1 F1:Hp} {N:List Gv} {names:List (Gv×HD)} {p:Gw} {o:HO} (ri:RI K c ρ σ H F) (e:bf H F H1 F1) (hp:H1 p=none):
  RI K (⟨b9 H1 p o,F1,H1,λ_ _=>False,λ_=>none,λ_=>none⟩:cO []) (fK N names ρ) (nv N names σ) (b9 H1 p o) F1:=by
 have r1:=ri.step e
 have Od:∀(i:Nat) sl,(fK N names ρ)[i]? =some (some sl)->∃(j:Nat) (Si:Slot),ρ[j]? =some (some Si)/\sl=Si.toBor/\∀v,σ[j]? =some (some v)->(nv N names σ)[i]? =some (some v):=λi sl h=>by
  unfold fK at h
  rw[Hg]at h
  cases en:names[i]? with
  |none=>rw[en]at h;cases h
  |some y=>
   rw[en]at h
   simp only[IG,Lb]at h
   by_cases hf:y.2= .free
   ·rw[if_pos hf]at h
    cases ei:N.findIdx? (·==y.1)with
    |none=>rw[ei]at h;cases h
    |some j=>
     rw[ei]at h
     cases e2:ρ[j]? with
     |none=>simp[e2]at h
     |some u=>
      cases u with
      |none=>simp[e2]at h
      |some Si=>
       simp[e2]at h
       refine⟨j,Si,e2,h.symm,λv hv=> ?_⟩
       unfold nv
       rw[Hg,en]
       simp only[IG,Lb]
       rw[if_pos hf,ei]
       show (σ[j]?).join=some v
       rw[hv];rfl
   ·rw[if_neg hf]at h;cases h
 refine⟨bf.refl (r1.sub.trans (bR hp)),λi d h=> ?_,λi d h=> ?_,λi d h=> ?_,bR hp,λi j d d' a h=> ?_,by simp[fK,nv],(λL h=>by cases h),(λL h=>by cases h),(λ_ _ e=>by cases e), .no λi x O8 f hs h=>(by obtain⟨j,sl,h1,h2,h3⟩:=Od i _ h;cases sl<;>cases h2),λL h=>by cases h⟩
 ·obtain⟨j,sl,h1,h2,h3⟩:=Od i _ h
  cases sl with
  |val d'=>cases h2;obtain⟨v,k1,k2⟩:=r1.val j d h1;exact⟨v,h3 v k1,k2⟩
  |own d'=>cases h2
  |bor d'=>cases h2
  |obj=>cases h2
  |cel=>cases h2
 ·obtain⟨j,sl,h1,h2,h3⟩:=Od i _ h;cases sl<;>cases h2
 ·obtain⟨j,sl,h1,h2,h3⟩:=Od i _ h
  cases sl with
  |val d'=>cases h2
  |own d'=>cases h2;obtain⟨a,o,k1,k2,k3,k4,k5⟩:=r1.own j d h1;exact⟨a,o,h3 _ k1,k2,k5⟩
  |bor d'=>cases h2;obtain⟨a,o,k1,k2,k3⟩:=r1.bor j d h1;exact⟨a,o,h3 _ k1,r1.ext.keep _ _ (r1.bh _ _ k2),k3.mono r1.ext.grow⟩
  |obj=>cases h2
  |cel=>cases h2
 ·obtain⟨k,sl,h1,h2,h3⟩:=Od i _ h;cases sl<;>cases h2
theorem RI.bump {K:Gs} {ρ:a9} {σ:St} {H F H1 F1:Hp} {p:Gw} {o o':HO} {Er:Gv->a9->Prop} (r:RI K (⟨b9 H1 p o,F1,H1,Er,λ_=>none,λ_=>none⟩:cO []) ρ σ H F) (hp:H1 p=none) (hF:F p=none):
  RI K (⟨b9 H1 p o',F1,H1,Er,λ_=>none,λ_=>none⟩:cO []) ρ σ (b9 H p o') F:=by
 refine⟨⟨λb u e=> ?_,λb u e=> ?_,r.ext.grow,λb e=> ?_⟩,r.val,λi d h=> ?_,r.bor,bR hp,r.dis,r.len,(λL h=>by cases h),(λL h=>by cases h),(λ_ _ e=>by cases e),⟨λi x O8 f hs h=> ?_,r.cel.one⟩,λL h=>by cases h⟩
 ·rw[ao (λz=>by rw[z,hF]at e;cases e)];exact r.sub b u e
 ·change b9 H1 p o' b=some u at e
  by_cases z:b=p
  ·subst z;rw[au]at e ⊢;exact e
  ·rw[ao z]at e ⊢;exact r.ext.keep b u (by show b9 H1 p o b=some u;rw[ao z];exact e)
 ·by_cases z:b=p
  ·subst z;exact absurd hF e
  ·rcases r.ext.new b e with q|q
   ·exact .inl q
   ·refine .inr ?_
    change b9 H1 p o b=none at q
    show b9 H1 p o' b=none
    rw[ao z]at q ⊢;exact q
 ·obtain⟨a,u,h1,h2,h3,h4,h5⟩:=r.own i d h
  change b9 H1 p o a=none at h4
  have z:a≠p:=λz=>by subst z;rw[au]at h4;cases h4
  refine⟨a,u,h1,by rw[ao z];exact h2,h3,?_,h5⟩
  show b9 H1 p o' a=none
  rw[ao z]at h4 ⊢;exact h4
 ·obtain⟨a,dx,b,h1,h2,h3⟩:=r.cel.ex i x O8 f hs h
  obtain⟨C,fs,vs,us,g1,g2,g3,g4,g5⟩:=h2.ex
  have Od:∀{z:Gw},b9 H1 p o z=none->z≠p/\b9 H1 p o' z=none:=λ{z} e=>by
   have n:z≠p:=λq=>by subst q;rw[au]at e;cases e
   exact⟨n,by rw[ao n]at e ⊢;exact e⟩
  obtain⟨na,ea⟩:=Od h2.za
  obtain⟨nd,ed⟩:=Od h2.zd
  obtain⟨nb,eb⟩:=Od h2.zb
  exact⟨a,dx,b,h1,⟨⟨C,fs,vs,us,by rw[ao na];exact g1,g2,g3,by rw[ao nb];exact g4,g5⟩,by rw[ao nd];exact h2.own,h2.fa,h2.fd,h2.fb,ea,ed,eb⟩,h3⟩
def iU (g:D->a9->R a9) (gt:a9->R Bool) (fe:a9->R D):List D->a9->R (List D)
 |[],_=> .ok []
 |d::r,τ=>g d τ>>=λτ1=>gt τ1>>=λb=>if b=true then (fe τ1>>=λy=>iU g gt fe r τ1>>=λys=> .ok (y::ys))else iU g gt fe r τ1
def FT (K:Gs) (g:D->a9->R a9):TG:=λv σ H Q=>∃c:cO [],(∀e ρ,¬c.Er e ρ)/\tG K c g v σ H Q
def FU (K:Gs) (g:a9->R Bool):TT:=λσ H Q=>∃c:cO [],(∀e ρ,¬c.Er e ρ)/\tT K c g σ H Q
def FV (K:Gs) (g:a9->R D):TE:=λσ H Q=>∃c:cO [],(∀e ρ,¬c.Er e ρ)/\tQ K c g σ H Q
def vM (ly:List df) (X:Cx) (PZ:List GD) (gt:a9->R Bool):Prop:=∀c:gi ly X,AQ X PZ (tT X.K c.1 gt)
def gj:a9->R Bool:=λ_=> .ok true
theorem dY {X:Cx}:vM ly X [] gj:=λc O0 s σ H Q I q=>by
 obtain⟨F,ρ,ri,w⟩:=q
 exact zD O0 s σ H Q I (w H F (bf.refl ri.sub))
theorem nM {X:Cx} {c:GD} {gt:a9->R Bool} (h:rh ly X c gt):vM ly X [c] gt:=λc=>zE (h c)
theorem mO {α β:Type} {r:R α} {f:α->R β} {b:β} (h:(r>>=f)= .ok b):∃a,r= .ok a/\f a= .ok b:=by
 cases r with
 |ok a=>exact⟨a,rfl,h⟩
 |err c ρ=>cases h
 |bad=>cases h
theorem jP {K:Gs} {c:cO ly} {ρ:a9} {σ:St} {H F H1 F1:Hp} {N:List Gv} {names:List (Gv×HD)} {p:Gw} {g:D->a9->R a9} {gt:a9->R Bool} {fe:a9->R D} {J:It} {ds es:List D} {Q:Hp->Prop}
  (ri:RI K c ρ σ H F) (e:bf H F H1 F1) (jo:vK K F1 J ds) (hp:H1 p=none) (hl:ds.length<=lim) (he:iU g gt fe ds (fK N names ρ)= .ok es)
  (k:∀H2 F2 vs,bf H1 F1 H2 F2->H2 p=some (.lst vs)->F2 p=none->Reps K F2 vs es->Q H2):
  nz J (FT K g) (FU K gt) (FV K fe) p (nv N names σ) Q (b9 H1 p (.lst [])):=by
 have s1:aN F1 H1:=e.sub
 have f1:F1 p=none:=s1.free hp
 refine⟨λi m ys τ H=>∃F ρ' pre rest,RI K (⟨b9 H1 p (.lst ys),F1,H1,λ_ _=>False,λ_=>none,λ_=>none⟩:cO []) ρ' τ H F/\Reps K F ys pre/\pre.length<=i/\m=ds.length - i/\i<=ds.length/\iU g gt fe (ds.drop i) ρ'= .ok rest/\pre++rest=es,
  ⟨_,F1,_,[],es,D_ ri e hp, .nil,GZ _,rfl,Il _,he,rfl⟩,?_⟩
 rintro i m ys τ H2 ⟨F2,ρ',pre,rest,r2,rp,Y9,rfl,hi,hc,Up⟩
 have WQ:F2 p=none:=by
  cases q:F2 p with
  |none=>rfl
  |some u=>
   rcases r2.ext.new p (by rw[q];simp)with z|z
   ·exact absurd f1 z
   ·change b9 H1 p (.lst ys) p=none at z;rw[au]at z;cases z
 have hD:∀{ρ' τ H F},RI K (⟨b9 H1 p (.lst ys),F1,H1,λ_ _=>False,λ_=>none,λ_=>none⟩:cO []) ρ' τ H F->H p=some (.lst ys):=λr=>r.ext.keep p _ au
 refine⟨hD r2,?_⟩
 by_cases Qa:i<ds.length
 ·refine .inr ⟨jo.go i H2 (r2.ext.grow.trans r2.sub) Qa,?_,λx H3 y=> ?_⟩
  ·have:=rp.length
   have:=dW
   omega
  ·obtain⟨F3,d,hd,e3,r3⟩:=jo.yld i H2 F2 x H3 r2.ext.grow r2.sub y Qa
   obtain⟨R9,ed⟩:=GV.mp hd
   rw[JM R9,ed]at hc
   obtain⟨τ1,h1,hc⟩:=mO (r:=g d ρ') hc
   obtain⟨b,h2,hc⟩:=mO (r:=gt τ1) hc
   refine⟨_,λe ρ h=>h,F3,ρ',d,r2.step e3,r3,?_⟩
   rw[h1]
   intro τ4 H4 F4 s4 r4
   refine⟨_,λe ρ h=>h,F4,τ1,r4,?_⟩
   rw[h2]
   intro H5 F5 e5
   cases b with
   |false=>
    exact⟨ds.length - (i+1),by omega,F5,τ1,pre,rest,r4.step e5,(rp.mono e3.grow).mono (s4.trans e5.grow),by omega,rfl,Qa,hc,Up⟩
   |true=>
    rw[if_pos rfl]at hc ⊢
    obtain⟨y',h3,hc⟩:=mO (r:=fe τ1) hc
    obtain⟨WR,h4,hc⟩:=mO (r:=iU g gt fe (ds.drop (i+1)) τ1) hc
    cases hc
    refine⟨_,λe ρ h=>h,F5,τ1,r4.step e5,?_⟩
    rw[h3]
    intro v H6 F6 e6 r6
    have Vc:=(r4.step e5).step e6
    refine⟨hD Vc,ds.length - (i+1),by omega,F6,τ1,pre++[y'],WR,Vc.bump hp ?_,(((rp.mono e3.grow).mono (s4.trans e5.grow)).mono e6.grow).append (.cons r6 .nil),by simp;omega,rfl,Qa,h4,by rw[<-Up];simp⟩
    cases q:F6 p with
    |none=>rfl
    |some u=>
     rcases Vc.ext.new p (by rw[q];simp)with z|z
     ·exact absurd f1 z
     ·change b9 H1 p (.lst ys) p=none at z;rw[au]at z;cases z
 ·have ei:i=ds.length:=by omega
  subst ei
  rw[Nl]at hc
  cases hc
  rw[Ig]at Up
  subst Up
  refine .inl ⟨jo.stop H2 (r2.ext.grow.trans r2.sub),k H2 F2 ys ⟨r2.sub,(bR hp).trans r2.ext.keep,r2.ext.grow,λa ha=> ?_⟩ (hD r2) WQ rp⟩
  rcases r2.ext.new a ha with z|z
  ·exact .inl z
  ·refine .inr ?_
   change b9 H1 p (.lst ys) a=none at z
   rw[ao (λq=>by subst q;rw[au]at z;cases z)]at z
   exact z
section
variable {X:Cx} {Q6 tg Oj:GD} {PZ:List GD} {scope:IP} {pos:Hr} {fi:a9->R (List D)} {g:D->a9->R a9} {gt:a9->R Bool} {fe:a9->R D}
def bN (N:List Gv) (names:List (Gv×HD)) (fi:a9->R (List D)) (g:D->a9->R a9) (gt:a9->R Bool) (fe:a9->R D):a9->R (List D):=λρ=>fi ρ>>=λds=>if ds.length<=lim then (match iU g gt fe ds (fK N names ρ)with
 | .ok es=> .ok es
 |_=> .bad)else .bad
def fL (f:a9->R (List D)):a9->R D:=λρ=>f ρ>>=λds=> .ok (.lst ds)
theorem Fw {X:Cx} (h:AV [] X tg g):PG X tg (FT X.K g):=λO0 s σ H v u Q I r ⟨c,hn,q⟩=>h ⟨c, .no hn⟩ O0 s σ H v u Q I r q
theorem Fx {X:Cx} (h:vM [] X PZ gt):AQ X PZ (FU X.K gt):=λO0 s σ H Q I ⟨c,hn,q⟩=>h ⟨c, .no hn⟩ O0 s σ H Q I q
theorem Fy {X:Cx} (h:PQ [] X Q6 fe):PE X Q6 (FV X.K fe):=λO0 s σ H Q I ⟨c,hn,q⟩=>h ⟨c, .no hn⟩ O0 s σ H Q I q
theorem dZ (S:aT X scope) (hc:X.calm=true) (hi:D7 ly X tg Oj fi) (hg:∀s H ex,AV [] (cA X scope s H ex) tg g) (Rw:∀s H ex,vM [] (cA X scope s H ex) PZ gt) (Rr:∀s H ex,PQ [] (cA X scope s H ex) Q6 fe)
  (hs:∀x,IK Oj X.env x=pure x:=by intro _;rfl):PQ ly X (.ListComp Q6 [⟨tg,Oj,PZ,0⟩] scope pos) (fL (bN X.N scope.names fi g gt fe)):=λc=>
 PE.weak (uB S hc (hi c) (λs H ex=>Fw (hg s H ex)) (λs H ex=>Fx (Rw s H ex)) (λs H ex=>Fy (Rr s H ex)) hs) λσ H Q ⟨F,ρ,ri,w⟩=>by
  refine⟨F,ρ,ri,(aC.bind.mp (aC.bind.mp w)).imp λds _ w1 J H1 F1 e1 jo p hp=> ?_⟩
  split at w1
  ·rename_i hl
   split at w1
   ·rename_i es he
    refine jP ri e1 jo hp hl he λH2 F2 vs e2 So T_ rv=> ?_
    have g2:aN F2 (b9 F2 p (.lst vs)):=bR T_
    refine w1 (.ref p) H2 (b9 F2 p (.lst vs)) ⟨λb u eb=> ?_,e1.keep.trans e2.keep,(e1.grow.trans e2.grow).trans g2,λa ha=> ?_⟩ (.lst au (rv.mono g2))
    ·by_cases z:b=p
     ·subst z;rw[au]at eb;rw[So];exact eb
     ·rw[ao z]at eb;exact e2.sub b u eb
    ·by_cases z:a=p
     ·subst z;exact .inr (e1.keep.free hp)
     ·rw[ao z]at ha
      exact(e1.trans e2).new a ha
   ·exact w1.elim
  ·exact w1.elim
def lj (i:Nat) (f:a9->R (List D)):a9->R a_:=λρ=>f ρ>>=λds=> .ok (.nx (ρ.set i (some (.own (.lst ds)))))
theorem xD (i:Nat) {y:Gv} {py Qf:Hr} (S:aT X scope) (hc:X.calm=true) (hN:X.N.Nodup) (hi:D7 ly X tg Oj fi) (hg:∀s H ex,AV [] (cA X scope s H ex) tg g) (Rw:∀s H ex,vM [] (cA X scope s H ex) PZ gt) (Rr:∀s H ex,PQ [] (cA X scope s H ex) Q6 fe)
  (QV:X.N[i]? =some y:=by rfl) (hx:wH X.env.scope y:=by first|exact Hv rfl|exact Hh rfl) (hf:X.fn y=true\/X.env.scope.names.lookup y=some .local:=by first|exact .inl rfl|exact .inr rfl|assumption)
  (Qr:HA (.ListComp Q6 [⟨tg,Oj,PZ,0⟩] scope pos) (some (.Name y py)) Qf.line X.env=pure true:=by rfl) (hs:∀x,IK Oj X.env x=pure x:=by intro _;rfl) (P_:iQ ly i:=by(repeat (first|assumption|exact L2.Pu.dS|refine L2.Pu.d6 ⟨by first|decide|simp,by first|decide|simp⟩ ?_))):
  kd ly X (.Assign [.Name y py] (.ListComp Q6 [⟨tg,Oj,PZ,0⟩] scope pos) Qf) (lj i (bN X.N scope.names fi g gt fe)):=λc=>
 PS.weak (zG S hc (hi c) (λs H ex=>Fw (hg s H ex)) (λs H ex=>Fx (Rw s H ex)) (λs H ex=>Fy (Rr s H ex)) (uh hN QV hx hf) Qr hs) λD σ H ⟨F,ρ,ri,w⟩=>by
  refine⟨F,ρ,ri,(aC.bind.mp (aC.bind.mp w)).imp λds _ w1 J H1 F1 e1 jo p hp=> ?_⟩
  split at w1
  ·rename_i hl
   split at w1
   ·rename_i es he
    refine jP ri e1 jo hp hl he λH2 F2 vs e2 So T_ rv=> ?_
    refine w1 _ H2 F2 (e1.grow.trans e2.grow) ((ri.step (e1.trans e2)).setOwn i P_ So T_ (ri.ext.keep.free (e1.keep.free hp)) (.lst rv) (λj d' _ hj ej=> ?_) (ri.celNe (e1.trans e2).keep (e1.keep.free hp)))
    obtain⟨a,o,k1,k2,_⟩:=ri.own j d' hj
    rw[ej]at k1
    cases k1
    rw[e1.keep.free hp]at k2
    cases k2
   ·exact w1.elim
  ·exact w1.elim
end
def iC:D->Option bD
 | .int i=>some (.inl i)
 | .str x=>some (.inr x)
 |_=>none
def iV (PD:List (bD×D)) (k:bD):Option D:=(PD.find? λkv=>decide (kv.1=k)).map (·.2)
def Cd (PD:List (bD×D)) (k:bD) (v:D):List (bD×D):=
 if (PD.any λkv=>decide (kv.1=k))=true then PD.map (λkv=>if kv.1=k then (kv.1,v)else kv)else PD++[(k,v)]
theorem jj {K:Gs} {H F:Hp} {v:V} {d:D} {k:bD} (h:iC d=some k) (r:cg K H F v d):v=kV k:=by
 cases d with
 |int i=>cases h;exact r.int
 |str x=>cases h;exact r.str
 |_=>cases h
section
variable {K:Gs} {F:Hp}
theorem RepK.any (k:bD):∀{vs:List (bD×V)} {ds:List (bD×D)},RepK K F vs ds->(vs.any λkv=>decide (kv.1=k))=ds.any λkv=>decide (kv.1=k):=by
 intro vs ds
 induction ds generalizing vs with
 |nil=>intro h;rw[h.nilI];rfl
 |cons d ds ih=>
  intro h
  obtain⟨v,us,rfl,_,t⟩:=RepK.consI (k:=d.1) (d:=d.2) h
  rw[I0,I0,ih t]
theorem RepK.get (k:bD):∀{vs:List (bD×V)} {ds:List (bD×D)},RepK K F vs ds->(i3 vs k=none/\iV ds k=none)\/∃v d,i3 vs k=some v/\iV ds k=some d/\cH K F v d:=by
 intro vs ds
 induction ds generalizing vs with
 |nil=>intro h;rw[h.nilI];exact .inl ⟨rfl,rfl⟩
 |cons d ds ih=>
  intro h
  obtain⟨a,d⟩:=d
  obtain⟨v,vs,rfl,r,t⟩:=h.consI
  by_cases e:a=k
  ·exact .inr ⟨v,d,by simp[i3,e],by simp[iV,e],r⟩
  ·have h1:i3 ((a,v)::vs) k=i3 vs k:=by simp[i3,e]
   have h2:iV ((a,d)::ds) k=iV ds k:=by simp[iV,e]
   rw[h1,h2]
   exact ih t
theorem RepK.repl (k:bD) {v:V} {d:D} (h:cH K F v d):∀{vs:List (bD×V)} {ds:List (bD×D)},RepK K F vs ds->RepK K F (vs.map λkv=>if kv.1=k then (kv.1,v)else kv) (ds.map λkv=>if kv.1=k then (kv.1,d)else kv):=by
 intro vs ds
 induction ds generalizing vs with
 |nil=>intro h;rw[h.nilI];exact .nil
 |cons x ds ih=>
  intro g
  obtain⟨a,x⟩:=x
  obtain⟨y,vs,rfl,r,t⟩:=g.consI
  rw[GL,GL]
  by_cases e:a=k
  ·simp only[e,if_true];exact .cons h (ih t)
  ·simp only[e,if_false];exact .cons r (ih t)
theorem RepK.append:∀{vs us:List (bD×V)} {ds es:List (bD×D)},RepK K F vs ds->RepK K F us es->RepK K F (vs++us) (ds++es):=by
 intro vs us ds
 induction ds generalizing vs with
 |nil=>intro es h g;rw[h.nilI];exact g
 |cons x ds ih=>
  intro es h g
  obtain⟨a,x⟩:=x
  obtain⟨y,vs,rfl,r,t⟩:=h.consI
  exact .cons r (ih t g)
theorem RepK.put (k:bD) {v:V} {d:D} (h:cH K F v d) {vs:List (bD×V)} {ds:List (bD×D)} (r:RepK K F vs ds):RepK K F (jv vs k v) (Cd ds k d):=by
 unfold jv Cd
 rw[r.any k]
 split
 ·exact r.repl k h
 ·exact r.append (.cons h .nil)
end
theorem Cf {kvs:List (bD×V)} {k:bD} (v:V) (hn:(kvs.map (·.1)).Nodup):((jv kvs k v).map (·.1)).Nodup:=by
 unfold jv
 split
 ·have e:(kvs.map λkv=>if kv.1=k then (kv.1,v)else kv).map (·.1)=kvs.map (·.1):=by
   rw[Ia]
   refine KH λkv _=> ?_
   show (if kv.1=k then (kv.1,v)else kv).1=kv.1
   split<;>rfl
  rw[e];exact hn
 ·rename_i h
  rw[HB]
  refine Jr.mpr ⟨hn,by simp,λa ha b hb=> ?_⟩
  have eb:b=k:=by simpa using hb
  subst eb
  intro z
  subst z
  obtain⟨kv,h1,h2⟩:=IH.mp ha
  exact h (HU.mpr ⟨kv,h1,by simp[h2]⟩)
section
variable {X:Cx} {a b e:GD} {es:List GD} {fa fb f fk fv:a9->R D} {fs:a9->R (List D)} {pos:Hr}
def t7 (i:Nat) (f:a9->R D):a9->R a_:=λρ=>match ρ[i]? with
 |some (some (.own (.lst ds)))=>f ρ>>=λd=>if ds.length<lim then .ok (.nx (ρ.set i (some (.own (.lst (ds++[d]))))))else .bad
 |_=> .bad
theorem RI.ownL {K:Gs} {c:cO ly} {ρ:a9} {σ:St} {H F:Hp} (ri:RI K c ρ σ H F) {i:Nat} {ds:List D} (h:ρ[i]? =some (some (.own (.lst ds)))):∃a vs,σ[i]? =some (some (.ref a))/\H a=some (.lst vs)/\Reps K F vs ds:=by
 obtain⟨a,o,h1,h2,_,_,h5⟩:=ri.own i _ h
 cases h5 with
 |lst r=>exact⟨a,_,h1,h2,r⟩
theorem RI.ownD {K:Gs} {c:cO ly} {ρ:a9} {σ:St} {H F:Hp} (ri:RI K c ρ σ H F) {i:Nat} {ds:List (bD×D)} (h:ρ[i]? =some (some (.own (.dic ds)))):∃a vs,σ[i]? =some (some (.ref a))/\H a=some (.dK vs)/\RepK K F vs ds/\(vs.map (·.1)).Nodup:=by
 obtain⟨a,o,h1,h2,_,_,h5⟩:=ri.own i _ h
 cases h5 with
 |dic r n=>exact⟨a,_,h1,h2,r,n⟩
theorem nN (i:Nat) {x:Gv} {px Oa O4:Hr} (h:PQ ly X e f) (hN:X.N[i]? =some x:=by rfl) (hv:ke X.env.scope x:=by first|exact Hv rfl|exact Hh (Hv rfl)|exact Hh (Hh rfl)) (hd:(x==("__debug__":Gv))=false:=by decide)
  (P2:(x==("__classdict__":Gv))=false:=by decide) (Ot:Hx (.Name x px) "append" X.env (GW (.Name x px) X.env)=GW (.Name x px) X.env:=by rfl)
  (Pg:((Hb O4 (Gy [e] X.env)).all (λx=> !x.1)&&(Iq O4 (HM [] X.env)).all (λx=>x.1.isSome)
   &&decide (([e]:List GD).length+([]:List Ii).length+(if ([]:List Ii).isEmpty then 0 else 1)<30))=true:=by rfl)
  (Ou:(Oa.endLine==O4.line)=true:=by rfl) (hs:Gy [e] X.env=(false,GW e X.env)::Gy [] X.env:=by rfl) (Oi:(Hb O4 (Gy [] X.env)).any (·.1)=false:=by rfl)
  (Qr:HA (.Call (.Attribute (.Name x px) "append" Oa) [e] [] O4) none pos.line X.env=pure false:=by rfl):kd ly X (.Expr (.Call (.Attribute (.Name x px) "append" Oa) [e] [] O4) pos) (t7 i f):=λc=>
 PS.weak (gl (nc HI JW JX jg (pv i hN hv hd P2) (bt (h c) cY hs) Ot Pg Ou hs Oi) Qr) λD σ H ⟨F,ρ,ri,w⟩=>by
  unfold t7 at w
  split at w
  ·rename_i ds hi
   obtain⟨a,vs,h1,h2,h3⟩:=ri.ownL hi
   refine⟨_,h1, .inl ⟨rfl,vs,c9.of h2⟩,F,ρ,ri,(aC.bind.mp w).imp λd _ w1 v H1 F1 e1 r1=> ?_⟩
   split at w1
   ·rename_i hl
    refine⟨a,vs,v,rfl,rfl,e1.keep _ _ h2,Hf (by rw[h3.length];exact hl) dW,?_⟩
    exact w1 σ _ F1 e1.grow ((ri.step e1).change (o:= .lst vs) hi h1 (.lst ((h3.mono e1.grow).append (.cons r1 .nil))))
   ·exact w1.elim
  ·exact w.elim
def rn (i:Nat) (fk fv:a9->R D):a9->R a_:=λρ=>match ρ[i]? with
 |some (some (.own (.dic PD)))=>fv ρ>>=λv=>fk ρ>>=λk=>match iC k with
  |some Od=>if PD.length<lim then .ok (.nx (ρ.set i (some (.own (.dic (Cd PD Od v))))))else .bad
  |none=> .bad
 |some (some (.own (.lst ds)))=>fv ρ>>=λv=>fk ρ>>=λk=>match k with
  | .int j=>(match wI ds.length j with
   |some n=> .ok (.nx (ρ.set i (some (.own (.lst (ds.set n v))))))
   |none=> .bad)
  |_=> .bad
 |_=> .bad
theorem AW (i:Nat) {x:Gv} {px Oh:Hr} (hu:X.A.units+1<Jp) (hk:PQ ly X a fk) (h:PQ ly X e fv) (hN:X.N[i]? =some x:=by rfl) (hv:ke X.env.scope x:=by first|exact Hv rfl|exact Hh (Hv rfl)|exact Hh (Hh rfl)) (hd:(x==("__debug__":Gv))=false:=by decide)
  (P2:(x==("__classdict__":Gv))=false:=by decide) (hs:HA e (some (.Subscript (.Name x px) a Oh)) pos.line X.env=pure false:=by rfl)
  (ha:∀v,Kb (.Subscript (.Name x px) a Oh) X.env v=(do
   let ov<-J8 [v] (GW (.Name x px) X.env)
   let iv<-J8 [v,ov] (GW a X.env)
   J_ Oh
   J8 [v,ov,iv] (NH ov iv v)
   release [v,ov,iv] []):=by intro _;rfl)
  (Sm:swapsWithSole [.Subscript (.Name x px) a Oh] e pos.line X.env=pure false:=by rfl) (hw:swappedStores [.Subscript (.Name x px) a Oh] e X.env=pure none:=by rfl)
  (h1:(HY [.Subscript (.Name x px) a Oh] X.env).map (·.2)=[Kb (.Subscript (.Name x px) a Oh) X.env]:=by rfl):kd ly X (.Assign [.Subscript (.Name x px) a Oh] e pos) (rn i fk fv):=by
 intro c O0 s σ H D I q
 obtain⟨F,ρ,ri,w⟩:=q
 unfold rn at w
 split at w
 ·rename_i PD hi
  obtain⟨p,vs,g1,g2,g3,g4⟩:=ri.ownD hi
  refine zB hu (pv i hN hv hd P2) (hk c) (h c) hs O0 s σ H D I ⟨F,ρ,ri,(aC.bind.mp w).imp λd _ w1 v H1 F1 e1 r1=> ?_⟩
  refine⟨_,g1,F1,ρ,ri.step e1,(aC.bind.mp w1).imp λk _ w2 u H2 F2 e2 r2=> ?_⟩
  cases Rh:iC k with
  |none=>rw[Rh]at w2;exact w2.elim
  |some Od=>
   rw[Rh]at w2
   cases jj (H:=H2) Rh (.inl r2)
   dsimp only at w2
   split at w2
   ·rename_i hl
    have Rj:=e1.trans e2
    refine⟨p,_,rfl,sU.k (k:=Od) (Rj.keep _ _ g2) (Hf (by rw[g3.length];exact hl) dW),?_⟩
    exact w2 σ _ F2 Rj.grow ((ri.step Rj).change (o:= .dK vs) hi g1 (.dic ((g3.mono Rj.grow).put Od (r1.mono e2.grow)) (Cf _ g4)))
   ·exact w2.elim
 ·rename_i ds hi
  obtain⟨p,vs,g1,g2,g3⟩:=ri.ownL hi
  refine Bs (h c) (Br (pv i hN hv hd P2) (hk c) xb ha) Sm hw h1 O0 s σ H D I ⟨F,ρ,ri,(aC.bind.mp w).imp λd _ w1 v H1 F1 e1 r1=> ?_⟩
  refine⟨_,g1,F1,ρ,ri.step e1,(aC.bind.mp w1).imp λk _ w2 u H2 F2 e2 r2=> ?_⟩
  cases k with
  |int j=>
   cases r2
   dsimp only at w2
   split at w2
   ·rename_i n hn
    have Rj:=e1.trans e2
    refine⟨p,vs,j,n,rfl,rfl,Rj.keep _ _ g2,by rw[g3.length];exact hn,?_⟩
    exact w2 σ _ F2 Rj.grow ((ri.step Rj).change (o:= .lst vs) hi g1 (.lst ((g3.mono Rj.grow).set n (r1.mono e2.grow))))
   ·exact w2.elim
  |_=>exact w2.elim
 ·exact w.elim
end
end L2.Pu
namespace L2.Pu
open PySem PySem.Spec PyProof.Rows
variable {ly:List df}
section
variable {K:Gs}
def oH (i j:Int):Prop:=i.natAbs<18446744073709551616\/j.natAbs<18446744073709551616
def t8 (_ j:Int):Prop:=0<j/\j.natAbs<1073741824
def rq (i j:Int):Prop:=0<=j/\j.natAbs<=1000000/\i.natAbs<18446744073709551616
instance (i j:Int):Decidable (oH i j):=by unfold oH;infer_instance
instance (i j:Int):Decidable (t8 i j):=by unfold t8;infer_instance
instance (i j:Int):Decidable (rq i j):=by unfold rq;infer_instance
theorem oH.c {i j:Int} (h:oH i j):vn i j:=by
 unfold oH at h
 unfold vn
 omega
theorem t8.c {i j:Int} (h:t8 i j):yY i j:=by
 unfold t8 at h
 unfold yY
 omega
theorem rq.c {i j:Int} (h:rq i j):yZ i j:=by
 unfold rq at h
 unfold yZ
 omega
def bK:D->D->Option D
 | .int i, .int j=>some (.int (i+j))
 | .lst a, .lst b=>if a.length+b.length<=lim then some (.lst (a++b))else none
 | .tup a, .tup b=>if a.length+b.length<=lim then some (.tup (a++b))else none
 |_,_=>none
def AX (K:Gs):R2:=λx y H Q=>(vm (λi j=> .int (i+j)) x y H Q\/DH x y H Q)\/(AM K x y H Q\/AR K x y H Q)
theorem aU {X:Cx}:ju X (ID .Add) (AX X.K):=(By.or BP).or (zl.or zM)
theorem aV:i8 K (AX K) bK:=by
 intro v u x y d H F Q s rx ry h k
 unfold bK at h
 split at h
 ·cases rx.int;cases ry.int;cases h;exact .inl (.inl ⟨_,_,rfl,rfl,k _ H F (bf.refl s) (.int _)⟩)
 ·rename_i a b
  split at h
  ·rename_i hl
   cases h
   obtain⟨p,vs,rfl,h1,h2⟩:=rx.lst s
   obtain⟨q,us,rfl,h3,h4⟩:=ry.lst s
   refine .inl (.inr ⟨p,q,vs,us,rfl,rfl,h1,h3,Ht (by rw[h2.length,h4.length];exact hl) dW,λl R9=> ?_⟩)
   have e:=bf.lay (o:= .lst (vs++us)) s R9
   exact k _ _ _ e (.lst au ((h2.append h4).mono e.grow))
  ·cases h
 ·rename_i a b
  split at h
  ·rename_i hl
   cases h
   obtain⟨p,vs,rfl,h1,h2⟩:=rx.tup s
   obtain⟨q,us,rfl,h3,h4⟩:=ry.tup s
   cases a with
   |nil=>
    cases h2
    refine .inr (.inr ⟨p,q,us,rfl,rfl,fE.of h1,fE.of h3,?_⟩)
    match ry with
    | .inl ry=>exact k _ H F (bf.refl s) ry
   |cons a0 a1=>
    refine .inr (.inl ⟨p,q,vs,us,rfl,rfl,fE.of h1,fE.of h3,(λz=>by subst z;cases h2),Ht (by rw[h2.length,h4.length];exact hl) dW,λz=> ?_,λ_ l R9=> ?_⟩)
    ·subst z
     cases h4
     rw[Ig]at k
     match rx with
     | .inl rx=>exact k _ H F (bf.refl s) rx
    ·have e:=bf.lay (o:= .tup (vs++us)) s R9
     exact k _ _ _ e (.tup au ((h2.append h4).mono e.grow))
  ·cases h
 ·cases h
def D8 (g:Int->Int->D):D->D->Option D
 | .int i, .int j=>some (g i j)
 |_,_=>none
def zU (C:Int->Int->Prop) [∀i j,Decidable (C i j)] (g:Int->Int->D):D->D->Option D
 | .int i, .int j=>if C i j then some (g i j)else none
 |_,_=>none
theorem qd {gv:Int->Int->V} {g:Int->Int->D} (hg:∀F i j,cH K F (gv i j) (g i j)):i8 K (vm gv) (D8 g):=by
 intro v u x y d H F Q s rx ry h k
 cases x with
 |int i=>
  cases y with
  |int j=>cases rx.int;cases ry.int;cases h;exact⟨i,j,rfl,rfl,k _ H F (bf.refl s) (hg F i j)⟩
  |_=>cases h
 |_=>cases h
theorem t9 {C C':Int->Int->Prop} [∀i j,Decidable (C i j)] {gv:Int->Int->V} {g:Int->Int->D} (hC:∀i j,C i j->C' i j) (hg:∀F i j,cH K F (gv i j) (g i j)):i8 K (rI C' gv) (zU C g):=by
 intro v u x y d H F Q s rx ry h k
 cases x with
 |int i=>
  cases y with
  |int j=>
   cases rx.int;cases ry.int
   replace h:(if C i j then some (g i j)else none)=some d:=h
   split at h
   ·cases h;exact⟨i,j,rfl,rfl,hC i j (by assumption),k _ H F (bf.refl s) (hg F i j)⟩
   ·cases h
  |_=>cases h
 |_=>cases h
def vN:=D8 λi j=> .int (i - j)
def bg:=zU t8 λi j=> .int (i / j)
def aZ:=zU (λ_ j=>0<j) λi j=> .int (i%j)
def qe:=zU rq λi j=> .int (i ^j.toNat)
def xE:=D8 λi j=> .bl (decide (i<j))
def Gh:=D8 λi j=> .bl (decide (i<=j))
def wJ:=D8 λi j=> .bl (decide (j<i))
def Cg:=D8 λi j=> .bl (decide (j<=i))
theorem qf:i8 K (vm λi j=> .int (i - j)) vN:=qd λF i j=> .int _
theorem bi:i8 K (rI yY λi j=> .int (i / j)) bg:=t9 (λ_ _ h=>h.c) λF i j=> .int _
theorem aM:i8 K (rI (λ_ j=>0<j) λi j=> .int (i%j)) aZ:=t9 (λ_ _ h=>h) λF i j=> .int _
theorem qg:i8 K (rI yZ λi j=> .int (i ^j.toNat)) qe:=t9 (λ_ _ h=>h.c) λF i j=> .int _
theorem jQ:i8 K (vm λi j=> .bl (decide (i<j))) xE:=qd λF i j=> .bl _
theorem iW:i8 K (vm λi j=> .bl (decide (j<i))) wJ:=qd λF i j=> .bl _
theorem tj:i8 K (vm λi j=> .bl (decide (j<=i))) Cg:=qd λF i j=> .bl _
def jR:D->D->Option D
 | .int i, .int j=>if oH i j then some (.int (i*j))else none
 | .lst a, .int k=>if k.natAbs<=lim/\a.length*k.toNat<=lim then some (.lst (Hs k.toNat a).flatten)else none
 |_,_=>none
def AY:R2:=λx y H Q=>rI vn (λi j=> .int (i*j)) x y H Q\/DI x y H Q
theorem gq {X:Cx}:ju X (ID .Mult) AY:=Bz.or BQ
theorem Reps.rep {F:Hp} {vs:List V} {ds:List D} (h:Reps K F vs ds):∀k:Nat,Reps K F (Hs k vs).flatten (Hs k ds).flatten
 |0=> .nil
 |k+1=>by
  rw[Iv,Iv,J5,J5]
  exact h.append (h.rep k)
theorem gr:i8 K AY jR:=by
 intro v u x y d H F Q s rx ry h k
 unfold jR at h
 split at h
 ·rename_i i j
  cases rx.int;cases ry.int
  replace h:(if oH i j then some (D.int (i*j))else none)=some d:=h
  split at h
  ·rename_i hb;cases h;exact .inl ⟨i,j,rfl,rfl,oH.c hb,k _ H F (bf.refl s) (.int _)⟩
  ·cases h
 ·rename_i a j
  split at h
  ·rename_i hl
   cases h
   cases ry.int
   obtain⟨p,vs,rfl,h1,h2⟩:=rx.lst s
   refine .inr ⟨p,j,vs,rfl,rfl,h1,by have:=ji hl.1;omega,by have:=ji hl.1;omega,Ht (by rw[h2.length];exact hl.2) dW,λl R9=> ?_⟩
   have e:=bf.lay (o:= .lst (Hs j.toNat vs).flatten) s R9
   exact k _ _ _ e (.lst au ((h2.rep _).mono e.grow))
  ·cases h
 ·cases h
def ll:D->Option D
 | .int i=>some (.int (-i))
 |_=>none
theorem ku:DW K (rU λi=> .int (-i)) ll:=by
 intro v x d H F Q s rx h k
 cases x with
 |int i=>cases rx.int;cases h;exact⟨i,rfl,k _ H F (bf.refl s) (.int _)⟩
 |_=>cases h
def tm:D->D->Option Bool
 | .non, .non=>some true
 | .non, .int _=>some false
 | .int _, .non=>some false
 | .non, .bl _=>some false
 | .bl _, .non=>some false
 | .non, .str _=>some false
 | .str _, .non=>some false
 | .int i, .int j=>some (decide (i=j))
 | .bl i, .bl j=>some (decide (i=j))
 | .str i, .str j=>some (decide (i=j))
 | .int _, .str _=>some false
 | .str _, .int _=>some false
 | .bl _, .str _=>some false
 | .str _, .bl _=>some false
 |_,_=>none
def kY (x y:D):Option D:=(tm x y).map .bl
def AZ (x y:D):Option D:=(tm x y).map λb=> .bl (!b)
theorem pf {H F:Hp} {v u:V} {x y:D} {b:Bool} (rx:cg K H F v x) (ry:cg K H F u y) (h:tm x y=some b):BB v u=true/\decide (v=u)=b:=by
 cases x<;>cases y<;>first
  |(exfalso;revert h;simp[tm];done)
  |(first|cases rx.int|cases rx.bl|cases rx.str|cases rx.non)<;>(first|cases ry.int|cases ry.bl|cases ry.str|cases ry.non)<;>(refine⟨rfl,?_⟩;simp[tm]at h ⊢;try exact h)
theorem d_:i8 K FN kY:=by
 intro v u x y d H F Q s rx ry h k
 unfold kY at h
 cases e:tm x y with
 |none=>rw[e]at h;cases h
 |some b=>
  rw[e]at h
  cases h
  obtain⟨h1,h2⟩:=pf rx ry e
  exact⟨h1,by rw[h2];exact k _ H F (bf.refl s) (.bl b)⟩
theorem qh:i8 K FO AZ:=by
 intro v u x y d H F Q s rx ry h k
 unfold AZ at h
 cases e:tm x y with
 |none=>rw[e]at h;cases h
 |some b=>
  rw[e]at h
  cases h
  obtain⟨h1,h2⟩:=pf rx ry e
  exact⟨h1,by rw[h2];exact k _ H F (bf.refl s) (.bl _)⟩
def E0:D->D->Option D
 | .non, .non=>some (.bl true)
 | .scr _, .non=>none
 |_, .non=>some (.bl false)
 |_,_=>none
def A_:D->Bool
 | .non=>true
 |_=>false
theorem FA {x y d:D} (h:E0 x y=some d):y= .non/\d= .bl (A_ x):=by
 unfold E0 at h
 split at h
 ·cases h;exact⟨rfl,rfl⟩
 ·cases h
 ·rename_i n1 _
  cases h
  refine⟨rfl,?_⟩
  unfold A_
  split
  ·exact absurd rfl n1
  ·rfl
 ·cases h
def kx:D->Bool
 | .non=>true
 | .bl _=>true
 | .int _=>true
 | .str _=>true
 |_=>false
def E1:D->D->Bool
 | .non, .non=>true
 | .bl a, .bl b=>a==b
 | .bl a, .int b=>(if a then 1 else 0)==b
 | .int a, .bl b=>a==(if b then 1 else 0)
 | .int a, .int b=>a==b
 | .str a, .str b=>a==b
 |_,_=>false
theorem rz {F:Hp} {v:V} {d:D} (r:cH K F v d) (h:kx d=true):iz v=true:=by
 cases r<;>first|rfl|cases h
theorem Ch {F:Hp} {v u:V} {x y:D} (r:cH K F v x) (q:cH K F u y) (hx:kx x=true) (hy:kx y=true):zr v u=E1 x y:=by
 cases r<;>first|(cases hx;done)|(cases q<;>first|rfl|(cases hy;done))
theorem Reps.flat {F:Hp}:∀{vs:List V} {ds:List D},Reps K F vs ds->ds.all kx=true->vs.all iz=true:=by
 intro vs ds
 induction ds generalizing vs with
 |nil=>intro h _;rw[h.nilI];rfl
 |cons d ds ih=>
  intro g h
  obtain⟨v,us,rfl,r,t⟩:=g.consI
  rw[J3,HZ]at h
  rw[J3,rz r h.1,ih t h.2];rfl
theorem Reps.inV {F:Hp} {v:V} {x:D} (rx:cH K F v x) (hx:kx x=true) {vs:List V} {ds:List D} (g:Reps K F vs ds):ds.all kx=true->L2.inV v vs=ds.any λy=>E1 y x:=by
 induction ds generalizing vs with
 |nil=>intro _;rw[g.nilI];rfl
 |cons d ds ih=>
  intro h
  obtain⟨w,us,e0,r,t⟩:=g.consI
  rw[J3,HZ]at h
  have:=ih t h.2
  rw[e0]
  unfold L2.inV at this ⊢
  rw[I0,I0,Ch r rx h.1 hx,this]
def D9 (Q9:Bool) (x:D) (ds:List D):Option D:=if kx x=true/\ds.all kx=true then some (.bl (if Q9 then !(ds.any λy=>E1 y x)else ds.any λy=>E1 y x))else none
def tq (Q9:Bool):D->D->Option D
 |x, .lst ds=>D9 Q9 x ds
 |x, .tup ds=>D9 Q9 x ds
 |_,_=>none
theorem rA {H F:Hp} {Q9:Bool} {v:V} {x d:D} {ds:List D} (rx:cg K H F v x) (h:D9 Q9 x ds=some d) {vs:List V} (rv:Reps K F vs ds):
  iz v=true/\vs.all iz=true/\d= .bl (if Q9 then !L2.inV v vs else L2.inV v vs):=by
 unfold D9 at h
 split at h
 ·rename_i hf
  cases h
  have VZ:cH K F v x:=by
   rcases rx with rx|⟨a,o,rfl,_,q⟩
   ·exact rx
   ·cases q<;>cases hf.1
  exact⟨rz VZ hf.1,rv.flat hf.2,by rw[rv.inV VZ hf.1 hf.2]⟩
 ·cases h
theorem lm {Q9:Bool}:i8 K (Fj K Q9) (tq Q9):=by
 intro v u x y d H F Q s rx ry h k
 cases y with
 |lst ds=>
  obtain⟨a,vs,rfl,h1,h2⟩:=ry.lst s
  obtain⟨g1,g2,rfl⟩:=rA rx h h2
  exact⟨a,vs,rfl, .inl (c9.of h1),g1,g2,k _ H F (bf.refl s) (.bl _)⟩
 |tup ds=>
  obtain⟨a,vs,rfl,h1,h2⟩:=ry.tup s
  obtain⟨g1,g2,rfl⟩:=rA rx h h2
  exact⟨a,vs,rfl, .inr (fE.of h1),g1,g2,k _ H F (bf.refl s) (.bl _)⟩
 |_=>cases h
def qi (Q9:Bool):D->D->Option D
 |x, .dic PD=>(iC x).map λk=> .bl (if Q9 then !(iV PD k).isSome else (iV PD k).isSome)
 |_,_=>none
def jz (Q9:Bool) (x y:D):Option D:=match y with
 | .dic _=>qi Q9 x y
 |_=>tq Q9 x y
theorem RepK.look {F:Hp} {vs:List (bD×V)} {ds:List (bD×D)} (r:RepK K F vs ds) (k:bD):(i3 vs k).isSome=(iV ds k).isSome:=by
 rcases r.get k with ⟨h1,h2⟩|⟨v,d,h1,h2,_⟩<;>rw[h1,h2]<;>rfl
end
section
variable {X:Cx} {a b e:GD} {es:List GD} {fa fb f fk fv:a9->R D} {fs:a9->R (List D)} {pos:Hr}
theorem xF {g h:a9->R D} (hg:PQ ly X e g) (hh:PQ ly X e h) (U0:∀ρ,f ρ=g ρ\/f ρ=h ρ):PQ ly X e f:=λc O0 s σ H Q I ⟨F,ρ,ri,w⟩=>
 (U0 ρ).elim (λz=>hg c O0 s σ H Q I ⟨F,ρ,ri,z▸w⟩) λz=>hh c O0 s σ H Q I ⟨F,ρ,ri,z▸w⟩
theorem E2 {g h f:a9->R Bool} (hg:rh ly X e g) (hh:rh ly X e h) (U0:∀ρ,f ρ=g ρ\/f ρ=h ρ):rh ly X e f:=λc O0 s σ H Q I ⟨F,ρ,ri,w⟩=>
 (U0 ρ).elim (λz=>hg c O0 s σ H Q I ⟨F,ρ,ri,z▸w⟩) λz=>hh c O0 s σ H Q I ⟨F,ρ,ri,z▸w⟩
theorem tu {Q9:Bool} (ρ:a9):f2 (jz Q9) fa fb ρ=f2 (tq Q9) fa fb ρ\/f2 (jz Q9) fa fb ρ=f2 (qi Q9) fa fb ρ:=by
 unfold f2
 cases fa ρ with
 |ok x=>
  cases fb ρ with
  |ok y=>cases y<;>first|exact .inl rfl|exact .inr rfl
  |_=>exact .inl rfl
 |_=>exact .inl rfl
theorem xG {K:Gs} {c:cO ly} {σ:St} {H:Hp} {Q:VK} (h:tQ K c (f2 (qi false) fa fb) σ H Q):DN (tB' K c fa) (tB' K c fb) σ H Q:=two h λF H2 F2 v u x y e rx ry w=>by
 obtain⟨d,hd,k⟩:=w.of
 cases y with
 |dic PD=>
  obtain⟨p,vs,rfl,h1,h2,h3⟩:=ry.dic e.sub
  replace hd:(iC x).map (λk=>D.bl (if false then !(iV PD k).isSome else (iV PD k).isSome))=some d:=hd
  cases hk:iC x with
  |none=>rw[hk]at hd;cases hd
  |some Od=>
   rw[hk]at hd
   cases hd
   cases jj hk rx
   exact⟨p,_,rfl,kn.k (k:=Od) h1,k _ H2 F2 e (by rw[h2.look];exact .bl _)⟩
 |_=>cases hd
theorem lW {K:Gs} {c:cO ly} {σ:St} {H:Hp} {Q:VK} (h:tQ K c (f2 (qi true) fa fb) σ H Q):pX (tB' K c fa) (tB' K c fb) σ H Q:=two h λF H2 F2 v u x y e rx ry w=>by
 obtain⟨d,hd,k⟩:=w.of
 cases y with
 |dic PD=>
  obtain⟨p,vs,rfl,h1,h2,h3⟩:=ry.dic e.sub
  replace hd:(iC x).map (λk=>D.bl (if true then !(iV PD k).isSome else (iV PD k).isSome))=some d:=hd
  cases hk:iC x with
  |none=>rw[hk]at hd;cases hd
  |some Od=>
   rw[hk]at hd
   cases hd
   cases jj hk rx
   exact⟨p,_,rfl,kn.k (k:=Od) h1,k _ H2 F2 e (by rw[h2.look];exact .bl _)⟩
 |_=>cases hd
theorem FC (hu:X.A.units+1<Jp) (ha:PB ly X a fa) (hb:PB ly X b fb) (hm:Ij .In b=false:=by with_unfolding_all rfl):PQ ly X (.Compare a [.In] [b] pos) (f2 (jz false) fa fb):=
 xF (nJ vv lm ha hb hm) (λc=>PE.weak (wM (BS hu (ha c) (hb c)) hm) λσ H Q h=>xG h) tu
theorem qj (hu:X.A.units+1<Jp) (ha:PB ly X a fa) (hb:PB ly X b fb) (hm:Ij .NotIn b=false:=by with_unfolding_all rfl):PQ ly X (.Compare a [.NotIn] [b] pos) (f2 (jz true) fa fb):=
 xF (nJ km lm ha hb hm) (λc=>PE.weak (wM (p3 hu (ha c) (hb c)) hm) λσ H Q h=>lW h) tu
theorem Ci {g h:a9->R D} (U0:∀ρ,f ρ=g ρ\/f ρ=h ρ) (ρ:a9):fT f ρ=fT g ρ\/fT f ρ=fT h ρ:=by
 unfold fT
 rcases U0 ρ with z|z
 ·exact .inl (by rw[z])
 ·exact .inr (by rw[z])
theorem qk (hu:X.A.units+1<Jp) (ha:PB ly X a fa) (hb:PB ly X b fb) (hm:Ij .NotIn b=false:=by with_unfolding_all rfl):rh ly X (.Compare a [.NotIn] [b] pos) (fT (f2 (jz true) fa fb)):=
 E2 (ba km lm ha hb hm) (λc=>DY (c:=c.1) (t:=pX (tB' X.K c.1 fa) (tB' X.K c.1 fb)) (Bg (p3 hu (ha c) (hb c)) hm) λσ H Q h=>lW h) (Ci tu)
def ql:D->D->Option D
 | .lst ds, .int i=>atI ds i
 | .tup ds, .int i=>atI ds i
 | .scr ns, .int i=>(atI ns i).map .int
 |_,_=>none
def xH:D->D->Option D
 | .dic PD,k=>(iC k).bind λOd=>iV PD Od
 |_,_=>none
def bq (x y:D):Option D:=match x with
 | .dic _=>xH x y
 |_=>ql x y
theorem Reps.atI {K:Gs} {F:Hp} {vs:List V} {ds:List D} {i:Int} {d:D} (r:Reps K F vs ds) (h:atI ds i=some d):∃v,L2.atI vs i=some v/\cH K F v d:=by
 unfold L2.atI at h ⊢
 rw[r.length]
 cases e:wI ds.length i with
 |none=>rw[e]at h;cases h
 |some j=>rw[e]at h;exact r.get h
theorem vO {K:Gs}:i8 K (FQ K) ql:=by
 intro v u x y d H F Q s rx ry h k
 unfold ql at h
 split at h
 ·cases ry.int
  obtain⟨a,vs,rfl,h1,h2⟩:=rx.lst s
  obtain⟨w,h3,h4⟩:=h2.atI h
  exact .inl ⟨a,vs,_,w,rfl,rfl,c9.of h1,h3,k _ H F (bf.refl s) h4⟩
 ·cases ry.int
  obtain⟨a,vs,rfl,h1,h2⟩:=rx.tup s
  obtain⟨w,h3,h4⟩:=h2.atI h
  exact .inr (.inl ⟨a,vs,_,w,rfl,rfl,fE.of h1,h3,k _ H F (bf.refl s) h4⟩)
 ·rename_i ns i
  cases ry.int
  obtain⟨a,rfl,h1⟩:=rx.scr s
  cases e:atI ns i with
  |none=>rw[e]at h;cases h
  |some n=>
   rw[e]at h
   cases h
   refine .inl ⟨a,ns.map V.int,i, .int n,rfl,rfl,h1,?_,k _ H F (bf.refl s) (.int n)⟩
   unfold L2.atI at e ⊢
   rw[GA]
   cases e2:wI ns.length i with
   |none=>rw[e2]at e;cases e
   |some j=>
    rw[e2]at e
    show (ns.map V.int)[j]? =_
    rw[Hg,show ns[j]? =some n from e]
    rfl
 ·cases h
theorem Cj (ρ:a9):f2 bq fa fb ρ=f2 ql fa fb ρ\/f2 bq fa fb ρ=f2 xH fa fb ρ:=by
 unfold f2
 cases fa ρ with
 |ok x=>
  cases fb ρ with
  |ok y=>cases x<;>first|exact .inl rfl|exact .inr rfl
  |_=>exact .inl rfl
 |_=>exact .inl rfl
theorem bv (hu:X.A.units+1<Jp) (ha:PB ly X a fa) (hb:PB ly X b fb) (hs:uv b:=by intro _ _;rfl):PQ ly X (.Subscript a b pos) (f2 bq fa fb):=
 xF (λc=>PE.weak (DC BJ (ha c) (hb c) hs) λσ H Q h=>two h λF H2 F2 v u x y e rx ry w=>by
   obtain⟨d,hd,k⟩:=w.of
   exact vO v u x y d H2 F2 Q e.sub rx ry hd λw H' F' e' r'=>k w H' F' (e.trans e') r')
  (λc=>PE.weak (zA hu (ha c) (hb c) hs) λσ H Q h=>two h λF H2 F2 v u x y e rx ry w=>by
   obtain⟨d,hd,k⟩:=w.of
   cases x with
   |dic PD=>
    obtain⟨p,vs,rfl,h1,h2,h3⟩:=rx.dic e.sub
    replace hd:((iC y).bind λOd=>iV PD Od)=some d:=hd
    cases hk:iC y with
    |none=>rw[hk]at hd;cases hd
    |some Od=>
     rw[hk]at hd
     cases jj hk ry
     rcases h2.get Od with ⟨_,z⟩|⟨v',d',z1,z2,z3⟩
     ·rw[show iV PD Od=some d from hd]at z;cases z
     ·rw[show iV PD Od=some d from hd]at z2
      cases z2
      exact⟨p,v',rfl,z1▸kn.k (k:=Od) h1,k _ H2 F2 e z3⟩
   |_=>cases hd) Cj
end
end L2.Pu
namespace L2.Pu
open PySem PySem.Spec PyProof.Rows
variable {ly:List df}
section
variable {K:Gs}
theorem iR.one {H F:Hp} {vs:List V} {d:D}:iR K H F vs [d]->∃v,vs=[v]/\cg K H F v d:=λh=>by
 cases h with
 |cons r t=>cases t;exact⟨_,rfl,r⟩
theorem iR.two {H F:Hp} {vs:List V} {d e:D}:iR K H F vs [d,e]->∃v u,vs=[v,u]/\cg K H F v d/\cg K H F u e:=λh=>by
 cases h with
 |cons r t=>
  obtain⟨u,e,q⟩:=iR.one t
  exact⟨_,u,by rw[e],r,q⟩
def bP:List D->Option D
 |[.lst ds]=>some (.int ds.length)
 |[.tup ds]=>some (.int ds.length)
 |[.scr ns]=>some (.int ns.length)
 |[.dic ds]=>some (.int ds.length)
 |_=>none
def B0 (K:Gs):List V->Hp->VK->Prop:=λxs H Q=>(∃p ys,xs=[.ref p]/\(c9 K H p ys\/fE K H p ys)/\Q (.int ys.length) H)\/∃p kvs,xs=[.ref p]/\H p=some (.dK kvs)/\Q (.int kvs.length) H
theorem aG {X:Cx}:c7 X (.builtin "len") (B0 X.K):=by
 intro O0 s σ H xs us Q I rv h
 rcases h with h|⟨p,kvs,rfl,hk,q⟩
 ·exact pW O0 s σ H xs us Q I rv h
 ·obtain⟨u,rfl,ru⟩:=gO rv
  cases ru
  exact DK I (.inl hk) λt s' I'=>⟨.int kvs.length,H,I',⟨t,rfl⟩,q⟩
theorem aY:jN K (B0 K) bP:=by
 intro vs ds d H F Q s rv h k
 match ds,h with
 |[.lst xs],h=>
  obtain⟨v,rfl,r⟩:=rv.one
  obtain⟨a,ws,rfl,h1,h2⟩:=r.lst s
  cases h
  exact .inl ⟨a,ws,rfl, .inl (c9.of h1),by rw[h2.length];exact k _ H F (bf.refl s) (.int _)⟩
 |[.tup xs],h=>
  obtain⟨v,rfl,r⟩:=rv.one
  obtain⟨a,ws,rfl,h1,h2⟩:=r.tup s
  cases h
  exact .inl ⟨a,ws,rfl, .inr (fE.of h1),by rw[h2.length];exact k _ H F (bf.refl s) (.int _)⟩
 |[.scr ns],h=>
  obtain⟨v,rfl,r⟩:=rv.one
  obtain⟨a,rfl,h1⟩:=r.scr s
  cases h
  exact .inl ⟨a,_,rfl, .inl h1,by rw[GA];exact k _ H F (bf.refl s) (.int _)⟩
 |[.dic xs],h=>
  obtain⟨v,rfl,r⟩:=rv.one
  obtain⟨a,ws,rfl,h1,h2,h3⟩:=r.dic s
  cases h
  exact .inr ⟨a,ws,rfl,h1,by rw[h2.length];exact k _ H F (bf.refl s) (.int _)⟩
def ee:List D->Option D
 |[.lst ds]=>some (.tup ds)
 |[.tup ds]=>some (.tup ds)
 |_=>none
theorem d7:jN K (λxs H Q=>∃p ys,xs=[.ref p]/\((c9 K H p ys/\∀l,H l=none->Q (.ref l) (b9 H l (.tup ys)))\/(fE K H p ys/\Q (.ref p) H))) ee:=by
 intro vs ds d H F Q s rv h k
 match ds,h with
 |[.lst xs],h=>
  obtain⟨v,rfl,r⟩:=rv.one
  obtain⟨a,ws,rfl,h1,h2⟩:=r.lst s
  cases h
  refine⟨a,ws,rfl, .inl ⟨c9.of h1,λl hl=> ?_⟩⟩
  have e:=bf.lay (o:= .tup ws) s hl
  exact k _ _ _ e (.tup au (h2.mono e.grow))
 |[.tup xs],h=>
  obtain⟨v,rfl,r⟩:=rv.one
  obtain⟨a,ws,rfl,h1,h2⟩:=r.tup s
  cases h
  refine⟨a,ws,rfl, .inr ⟨fE.of h1,?_⟩⟩
  match r with
  | .inl r=>exact k _ H F (bf.refl s) r
def iX:List D->Option D
 |[.lst ds]=>some (.lst ds)
 |[.tup ds]=>some (.lst ds)
 |[.scr ns]=>some (.lst (ns.map .int))
 |_=>none
theorem fG {F:Hp}:∀ns:List Int,Reps K F (ns.map V.int) (ns.map D.int)
 |[]=> .nil
 |n::r=> .cons (.int n) (fG r)
theorem nO:jN K (λxs H Q=>∃p ys,xs=[.ref p]/\(c9 K H p ys\/fE K H p ys)/\∀l,H l=none->Q (.ref l) (b9 H l (.lst ys))) iX:=by
 intro vs ds d H F Q s rv h k
 match ds,h with
 |[.lst xs],h=>
  obtain⟨v,rfl,r⟩:=rv.one
  obtain⟨a,ws,rfl,h1,h2⟩:=r.lst s
  cases h
  refine⟨a,ws,rfl, .inl (c9.of h1),λl hl=> ?_⟩
  have e:=bf.lay (o:= .lst ws) s hl
  exact k _ _ _ e (.lst au (h2.mono e.grow))
 |[.tup xs],h=>
  obtain⟨v,rfl,r⟩:=rv.one
  obtain⟨a,ws,rfl,h1,h2⟩:=r.tup s
  cases h
  refine⟨a,ws,rfl, .inr (fE.of h1),λl hl=> ?_⟩
  have e:=bf.lay (o:= .lst ws) s hl
  exact k _ _ _ e (.lst au (h2.mono e.grow))
 |[.scr ns],h=>
  obtain⟨v,rfl,r⟩:=rv.one
  obtain⟨a,rfl,h1⟩:=r.scr s
  cases h
  refine⟨a,_,rfl, .inl h1,λl hl=> ?_⟩
  have e:=bf.lay (o:= .lst (ns.map V.int)) s hl
  exact k _ _ _ e (.lst au (fG ns))
def bw:List D->Option (List Int)
 |[]=>some []
 | .int i::r=>(bw r).map (i::·)
 |_::_=>none
theorem dE {F:Hp}:∀{ds:List D} {ns:List Int} {vs:List V},bw ds=some ns->Reps K F vs ds->vs=ns.map V.int:=by
 intro ds
 induction ds with
 |nil=>intro ns vs h r;cases r.nilI;cases h;rfl
 |cons d r ih=>
  intro ns vs h rv
  obtain⟨v,us,rfl,r1,t⟩:=rv.consI
  cases d with
  |int i=>
   cases r1.intI
   replace h:(bw r).map (i::·)=some ns:=h
   cases e:bw r with
   |none=>rw[e]at h;cases h
   |some ms=>
    rw[e]at h
    cases h
    rw[ih e t];rfl
  |_=>cases h
theorem fM (ns:List Int):bw (ns.map .int)=some ns:=by
 induction ns with
 |nil=>rfl
 |cons n r ih=>show (bw (r.map D.int)).map (n::·)=_;rw[ih];rfl
def Gi:List D->Option D
 |[.lst ds]=>(bw ds).map λns=> .int ns.sum
 |_=>none
def qm:List D->Option D
 |[.lst ds]=>(bw ds).bind λns=>if ns.length<64 then some (.lst ((de ns).map .int))else none
 |_=>none
theorem tw:jN K (λxs H Q=>∃p ns,xs=[.ref p]/\c9 K H p (ns.map V.int)/\ns.length<64/\∀l,H l=none->Q (.ref l) (b9 H l (.lst ((de ns).map V.int)))) qm:=by
 intro vs ds d H F Q s rv h k
 match ds,h with
 |[.lst xs],h=>
  obtain⟨v,rfl,r⟩:=rv.one
  obtain⟨a,ws,rfl,h1,h2⟩:=r.lst s
  replace h:((bw xs).bind λns=>if ns.length<64 then some (D.lst ((de ns).map .int))else none)=some d:=h
  cases e:bw xs with
  |none=>rw[e]at h;cases h
  |some ns=>
   rw[e]at h
   replace h:(if ns.length<64 then some (D.lst ((de ns).map .int))else none)=some d:=h
   split at h
   ·rename_i hl
    cases h
    rw[dE e h2]at h1
    refine⟨a,ns,rfl,c9.of h1,hl,λl R9=> ?_⟩
    have e:=bf.lay (o:= .lst ((de ns).map V.int)) s R9
    exact k _ _ _ e (.lst au (fG _))
   ·cases h
def xI:List D->Option D
 |[.int i, .int j]=>some (.int (if j<i then j else i))
 |_=>none
theorem uJ:jN K (λxs H Q=>∃i j,xs=[.int i, .int j]/\Q (.int (if j<i then j else i)) H) xI:=by
 intro vs ds d H F Q s rv h k
 match ds,h with
 |[.int i, .int j],h=>
  obtain⟨v,u,rfl,r,q⟩:=rv.two
  cases r.int;cases q.int;cases h
  exact⟨i,j,rfl,k _ H F (bf.refl s) (.int _)⟩
end
section
variable {X:Cx} {a b e:GD} {es:List GD} {fa fb f fk fv:a9->R D} {fs:a9->R (List D)} {pos p p2:Hr}
def EH:D->Option String
 | .non=>some "NoneType"
 | .bl _=>some "bool"
 | .int _=>some "int"
 | .str _=>some "str"
 | .tup _=>some "tuple"
 | .lst _=>some "list"
 | .dic _=>some "dict"
 |_=>none
def ph (t T:String):Option Bool:=if t=T then some true else if t="bool"/\T="int" then some true
 else if ["NoneType","bool","int","str","tuple","list","dict"].contains t/\["bool","int","str","tuple","list","dict"].contains T then some false else none
theorem xJ (K:Gs) {t T:String} {k:Bool} (ht:t="NoneType"\/t="bool"\/t="int"\/t="str"\/t="tuple"\/t="list"\/t="dict") (hT:T="bool"\/T="int"\/T="str"\/T="tuple"\/T="list"\/T="dict") (h:ph t T=some k):
  HN K (.type t) (.type T)=some k:=by
 rcases ht with rfl|rfl|rfl|rfl|rfl|rfl|rfl<;>rcases hT with rfl|rfl|rfl|rfl|rfl|rfl<;>(revert h;unfold ph;simp+decide;rintro rfl;first|rfl|(unfold HN Jv;decide+kernel))
def vP (T:String) (d:D):Option D:=(EH d).bind λt=>(ph t T).map .bl
def tz (T:String) (f:a9->R D):a9->R D:=λρ=>f ρ>>=λd=>R.of (vP T d)
theorem Ck {K:Gs} {H F:Hp} {v:V} {d:D} {t:String} (s:aN F H) (r:cg K H F v d) (h:EH d=some t):ki K H v (.type t):=by
 cases d with
 |non=>cases r.non;cases h;exact .non
 |bl=>cases r.bl;cases h;exact .bl _
 |int=>cases r.int;cases h;exact .int _
 |str=>cases r.str;cases h;exact .str _
 |tup=>obtain⟨a,vs,rfl,h1,_⟩:=r.tup s;cases h;exact .tup h1
 |lst=>obtain⟨a,vs,rfl,h1,_⟩:=r.lst s;cases h;exact .lst h1
 |dic=>obtain⟨a,vs,rfl,h1,_⟩:=r.dic s;cases h;exact .dK h1
 |_=>cases h
theorem vQ {d:D} {t:String} (h:EH d=some t):t="NoneType"\/t="bool"\/t="int"\/t="str"\/t="tuple"\/t="list"\/t="dict":=by
 cases d<;>cases h<;>simp
theorem uK {x:Gv} {T:String} (hT:T="bool"\/T="int"\/T="str"\/T="tuple"\/T="list"\/T="dict") (Sq:X.mg "isinstance"=none) (hm:X.mg x=none) (hv:Ho x=some (.type T)) (ha:PB ly X a fa) (SY:Gl X "isinstance":=by rfl) (hg:Gl X x:=by rfl)
  (hn:x≠"__name__":=by decide) (Pe:(x==("__debug__":Gv))=false:=by decide)
  (he:Gy [a, .Name x p2] X.env=(false,GW a X.env)::Gy [.Name x p2] X.env:=by rfl) (RM:Gy [.Name x p2] X.env=(false,GW (.Name x p2) X.env)::Gy [] X.env:=by rfl) (OT:(Hb pos (Gy [.Name x p2] X.env)).any (·.1)=false:=by rfl):
  PQ ly X (.Call (.Name "isinstance" p) [a, .Name x p2] [] pos) (tz T fa):=λc=>
 PE.weak (iM xh SY Sq nA (bt (ha c) (bt (ug (v:= .ty T) hg hm hv rfl hn Pe) cY RM) he) (by decide) (by decide) he OT) λσ H Q ⟨F,ρ,ri,w⟩=>
  ⟨F,ρ,ri,(aC.bind.mp w).imp λd _ w1 v H1 F1 e1 r1=>by
   obtain⟨d',hd,k⟩:=w1.of
   unfold vP at hd
   cases ht:EH d with
   |none=>rw[ht]at hd;cases hd
   |some t=>
    rw[ht]at hd
    cases hs:ph t T with
    |none=>
     replace hd:(ph t T).map D.bl=some d':=hd
     rw[hs]at hd;cases hd
    |some kk=>
     replace hd:(ph t T).map D.bl=some d':=hd
     rw[hs]at hd
     cases hd
     exact⟨v,T,_,kk,rfl,Ck e1.sub r1 ht,xJ X.K (vQ ht) hT hs,k _ H1 F1 e1 (.bl kk)⟩⟩
def FD (f:a9->R D):a9->R D:=λρ=>f ρ>>=λd=>match d with
 | .lst ds=> .ok (.lst ds.reverse)
 |_=> .bad
def tD (ds:List D) (lo hi:Option Int):List D:=(ds.drop (HT.dq ds.length 0 lo)).take (HT.dq ds.length ds.length hi - HT.dq ds.length 0 lo)
theorem Reps.cut {K:Gs} {F:Hp} {vs:List V} {ds:List D} (r:Reps K F vs ds) (lo hi:Option Int):Reps K F (oB vs lo hi) (tD ds lo hi):=by
 unfold oB tD
 rw[r.length]
 exact(r.drop _).take _
def Gj (K:Gs) (c:cO ly) (f:a9->R (Option Int)):TO:=λσ H Q=>∃F ρ,RI K c ρ σ H F/\aC c (f ρ) λo=>∀H' F',bf H F H' F'->Q o H'
def EI (ly:List df) (X:Cx) (e:Option GD) (f:a9->R (Option Int)):Prop:=∀c:gi ly X,PO X e (Gj X.K c.1 f)
theorem PO.weak {X:Cx} {e:Option GD} {t t':TO} (h:PO X e t) (w:∀σ H Q,t' σ H Q->t σ H Q):PO X e t':=λO0 s σ H Q I q=>h O0 s σ H Q I (w σ H Q q)
def B1:a9->R (Option Int):=λ_=> .ok none
def B2 (f:a9->R D):a9->R (Option Int):=λρ=>f ρ>>=λd=>match d with
 | .int i=> .ok (some i)
 |_=> .bad
theorem Cm:EI ly X none B1:=λc=>PO.weak zj λσ H Q ⟨F,ρ,ri,w⟩=>w H F (bf.refl ri.sub)
theorem Cn (h:PQ ly X e f):EI ly X (some e) (B2 f):=λc=>PO.weak (zk (h c)) λσ H Q ⟨F,ρ,ri,w⟩=>⟨F,ρ,ri,(aC.bind.mp w).imp λd _ w1 v H1 F1 e1 r1=>by
 cases d with
 |int i=>cases r1;exact⟨i,rfl,w1 H1 F1 e1⟩
 |_=>exact w1.elim⟩
variable {lo hi:Option GD} {fl fh:a9->R (Option Int)}
def FE (d:D) (lo hi:Option Int):Option D:=match d with
 | .lst ds=>some (.lst (tD ds lo hi))
 | .tup ds=>if HT.dq ds.length 0 lo=0/\HT.dq ds.length ds.length hi=ds.length then some (.tup ds)else some (.tup (tD ds lo hi))
 |_=>none
def FF (f:a9->R D) (fl fh:a9->R (Option Int)):a9->R D:=λρ=>f ρ>>=λd=>fl ρ>>=λl=>fh ρ>>=λh=>R.of (FE d l h)
theorem zV (ha:PB ly X a fa) (hl:EI ly X lo fl) (hh:EI ly X hi fh):PQ ly X (.Subscript a (.Slice lo hi none p2) pos) (FF fa fl fh):=λc=>
 PE.weak (xa ((zq.or BG).or zL) (ha c) (hl c) (hh c)) λσ H Q ⟨F,ρ,ri,w⟩=>⟨F,ρ,ri,(aC.bind.mp w).imp λd _ w1 v H1 F1 e1 r1=>⟨F1,ρ,ri.step e1,(aC.bind.mp w1).imp λl _ w2 H2 F2 e2=>
  ⟨F2,ρ,(ri.step e1).step e2,(aC.bind.mp w2).imp λh _ w3 H3 F3 e3=>by
   obtain⟨d',hd,k⟩:=w3.of
   have Su:=(e1.trans e2).trans e3
   have r3:=(r1.mono e2).mono e3
   cases d with
   |lst ds=>
    cases hd
    obtain⟨p,vs,rfl,h1,h2⟩:=r3.lst Su.sub
    refine .inl (.inl ⟨p,vs,rfl,c9.of h1,λq hq=> ?_⟩)
    have e4:=bf.lay (o:= .lst (oB vs l h)) Su.sub hq
    exact k _ _ _ (Su.trans e4) (.lst au ((h2.cut l h).mono e4.grow))
   |tup ds=>
    replace hd:(if HT.dq ds.length 0 l=0/\HT.dq ds.length ds.length h=ds.length then some (D.tup ds)else some (D.tup (tD ds l h)))=some d':=hd
    split at hd
    ·rename_i hw
     cases hd
     rcases r3 with r3|⟨_,_,_,_,q⟩
     ·cases r3 with
      | @tup p vs _ h1 h2=>exact .inr ⟨p,vs,rfl,fE.of (Su.sub _ _ h1),by rw[h2.length];exact hw,k _ _ _ Su (.tup h1 h2)⟩
     ·cases q
    ·rename_i hw
     cases hd
     obtain⟨p,vs,rfl,h1,h2⟩:=r3.tup Su.sub
     refine .inl <| .inr ⟨p,vs,rfl,fE.of h1,by rw[h2.length];exact hw,λq hq=> ?_⟩
     have e4:=bf.lay (o:= .tup (oB vs l h)) Su.sub hq
     exact k _ _ _ (Su.trans e4) (.tup au ((h2.cut l h).mono e4.grow))
   |_=>cases hd⟩⟩⟩
inductive E3 (ly:List df) (X:Cx) (pos:Hr):List (Option GD)->List GD->List ((a9->R D)×(a9->R D))->Prop
 |nil:E3 ly X pos [] [] []
 |cons {k v:GD} {ks:List (Option GD)} {vs:List GD} {fk fv:a9->R D} {ps:List ((a9->R D)×(a9->R D))}:PQ ly X k fk->PQ ly X v fv->E3 ly X pos ks vs ps->E3 ly X pos (some k::ks) (v::vs) ((fk,fv)::ps)
theorem E3.len {X:Cx} {pos:Hr}:∀{ks:List (Option GD)} {vs:List GD} {ps:List ((a9->R D)×(a9->R D))},E3 ly X pos ks vs ps->ks.length=vs.length/\ks.length=ps.length/\ks.all (·.isSome)=true
 |_,_,_, .nil=>⟨rfl,rfl,rfl⟩
 |_,_,_, .cons _ _ r=>by
  obtain⟨a,b,c⟩:=r.len
  exact⟨by simp[a],by simp[b],by simp[J3,c]⟩
end
end L2.Pu
namespace L2.Pu
open PySem PySem.Spec PyProof.Rows
variable {ly:List df}
def rB (scope outer:IP):Bool:=
 scope.kind== .function&&scope.names.all (λy=>y.2 != .cell)&&scope.names.all (λy=>y.2 != .local||scope.names.lookup y.1==some .local)&&
 scope.names.all (λy=>y.2 != .free||outer.names.lookup y.1==some .cell||outer.names.lookup y.1==some .free)&&decide ((scope.names.map (·.1)).Nodup)
theorem aT.of {X:Cx} {scope outer:IP} (h:X.env.scope=outer) (k:rB scope outer=true):aT X scope:=by
 unfold rB at k
 simp only[HZ,Kh,decide_eq_true_eq,KA,bne_iff_ne,beq_iff_eq]at k
 obtain⟨⟨⟨⟨k1,k2⟩,k3⟩,k4⟩,k5⟩:=k
 refine⟨k1,k2,λy hy hl=> ?_,λy hy hf=> ?_,k5⟩
 ·rcases k3 y hy with z|z
  ·exact absurd hl z
  ·exact z
 ·show X.env.scope.names.lookup y.1=_\/X.env.scope.names.lookup y.1=_
  rw[h]
  rcases k4 y hy with (z|z)|z
  ·exact absurd hf z
  ·exact .inl z
  ·exact .inr z
structure eG (K:Gs) (mg:Gv->Option Gu) (x:Gv) (st:Hl) (ps:List Gv):Prop where
 ex:∃f fd,ux K x x st f fd/\mg x=some (.ref f)/\dO K fd ps []
structure bS (P:GP) (w:G_) (K:Gs) (mg:Gv->Option Gu) (base:GY) (k:Nat) (x:Gv) (n:Nat) (m:List D->R D):Prop where
 ex:∃f fd ps,dB P w K mg base (iO P w) k f fd ps (vJ K n m)/\mg x=some (.ref f)/\HC K (.ref f)=true/\dO K fd ps []
section
variable {P:GP} {w:G_} {K:Gs} {mg:Gv->Option Gu} {base:GY}
theorem dz {x:Gv} {st:Hl} {N ps:List Gv} {k n m:Nat} {g:a9->R a_} (A:eG K mg x st ps) (S:aK N ps (ah st)) (hn:ps.length=n) (hm:N.length=m)
  (Oo:∀(f:Gw) (Oc:Gu) (A:Hd) (outer:List Iz) (s:Gx) (H:Hp) (E:XK),bY k (A.deeper (IE x (ah st) s.heap.objs.size f Oc))->
   ia [] (gg (iO P w) P w K mg base N x (ah st) f Oc A outer s H E) (b0 st) g):bS P w K mg base (k+1) x n (bd n m g):=by
 obtain⟨f,fd,F,h1,h2⟩:=A.ex
 exact⟨f,fd,ps,Cb F S hn hm λOc A outer s H E hr=>Oo f Oc A outer s H E hr,h1,F.kp,h2⟩
theorem bS.mono {x:Gv} {j k n:Nat} {m:List D->R D} (F:bS P w K mg base j x n m) (h:j<=k):bS P w K mg base k x n m:=by
 obtain⟨f,fd,ps,h1,h2⟩:=F.ex
 exact⟨f,fd,ps,h1.mono h,h2⟩
theorem xK {x:Gv} {st:Hl} {ps:List Gv} {n:Nat} (A:eG K mg x st ps) (hn:ps.length=n):bS P w K mg base 0 x n (λ_=> .bad):=by
 obtain⟨f,fd,F,h1,h2⟩:=A.ex
 refine⟨f,fd,ps,⟨λvs H Q E h=>by rw[hn];exact h.1,λA outer s H args us vs Q E hr e0 hb rv h=> ?_⟩,h1,F.kp,h2⟩
 obtain⟨_,F',ds,_,_,z⟩:=h
 exact z.elim
end
section
variable {X:Cx} {e:GD} {es:List GD} {fs:a9->R (List D)} {x:Gv} {p pos:Hr}
theorem dg {n k:Nat} {m:List D->R D} (F:bS X.prog X.w X.K X.mg X.base k x n m) (hr:bY k X.A)
  (ha:sx ly X (e::es) fs) (hg:Gl X x:=by rfl) (Pe:(x==("__debug__":Gv))=false:=by decide) (he:Gy (e::es) X.env=(false,GW e X.env)::Gy es X.env:=by rfl) (OT:(Hb pos (Gy es X.env)).any (·.1)=false:=by rfl):
  PQ ly X (.Call (.Name x p) (e::es) [] pos) (aO m n fs):=by
 obtain⟨f,fd,ps,h1,h2,h3,h4⟩:=F.ex
 exact C8 h1 hr h2 h3 h4 ha hg Pe he OT
end
structure Bl (mg:Gv->Option Gu) (xs:List Gv):Prop where
 no:∀x∈xs,mg x=none
theorem bT:Ho "tuple"=some (.type "tuple"):=by decide+kernel
theorem fH:Ho "list"=some (.type "list"):=by decide+kernel
theorem xL:Ho "int"=some (.type "int"):=by decide+kernel
theorem vR:Ho "bool"=some (.type "bool"):=by decide+kernel
theorem iY:Ho "sorted"=some (.builtin "sorted"):=by decide+kernel
theorem nP:Ho "min"=some (.builtin "min"):=by decide+kernel
theorem xM:Ho "max"=some (.builtin "max"):=by decide+kernel
theorem Co {K:Gs} {m:List D->R D} {H:Hp} {a:Gw} {ns:List Int} {E:XK} (h:m [.scr ns]= .ok (.bl true)) (hs:c9 K H a (ns.map V.int)):vJ K 1 m [.ref a] H (λv _=>v= .bl true) E:=by
 refine⟨rfl,H,[.scr ns],aN.refl _, .cons (.scr hs) .nil,?_⟩
 rw[h]
 intro v H' F' e r
 cases r
 rfl
end L2.Pu
namespace L2.Pu
open PySem PySem.Spec PyProof.Rows
variable {ly:List df}
section
variable {i j:Int}
theorem c3 (h:0<j):aZ (.int i) (.int j)=some (.int (i%j)):=if_pos h
theorem jk (h:0<j/\j<1073741824):bg (.int i) (.int j)=some (.int (i / j)):=if_pos (show t8 i j from ⟨h.1,by omega⟩)
theorem qo (h:j.natAbs<18446744073709551616):jR (.int i) (.int j)=some (.int (i*j)):=if_pos (show oH i j from .inr h)
theorem qp (h:i.natAbs<18446744073709551616):jR (.int i) (.int j)=some (.int (i*j)):=if_pos (show oH i j from .inl h)
theorem zW (h:rq i j):qe (.int i) (.int j)=some (.int (i ^j.toNat)):=if_pos h
theorem fN:bK (.int i) (.int j)=some (.int (i+j)):=rfl
theorem qq:vN (.int i) (.int j)=some (.int (i - j)):=rfl
theorem lX:xE (.int i) (.int j)=some (.bl (decide (i<j))):=rfl
theorem E4:Gh (.int i) (.int j)=some (.bl (decide (i<=j))):=rfl
theorem ky:wJ (.int i) (.int j)=some (.bl (decide (j<i))):=rfl
theorem rC:Cg (.int i) (.int j)=some (.bl (decide (j<=i))):=rfl
theorem rD:kY (.int i) (.int j)=some (.bl (decide (i=j))):=rfl
theorem uL:AZ (.int i) (.int j)=some (.bl (!decide (i=j))):=rfl
theorem E5 {a b:Bool}:kY (.bl a) (.bl b)=some (.bl (decide (a=b))):=rfl
theorem Cp:ll (.int i)=some (.int (-i)):=rfl
end
theorem tE {a b:List D} (h:a.length+b.length<=lim):bK (.lst a) (.lst b)=some (.lst (a++b)):=if_pos h
theorem lY {ds:List D} {i:Int}:bq (.lst ds) (.int i)=atI ds i:=rfl
theorem rE {ds:List D} {i:Int}:bq (.tup ds) (.int i)=atI ds i:=rfl
theorem E6 {ns:List Int} {i:Int}:bq (.scr ns) (.int i)=(atI ns i).map .int:=rfl
theorem fO {ds:List D}:bP [.lst ds]=some (.int ds.length):=rfl
theorem iZ {ds:List D}:bP [.tup ds]=some (.int ds.length):=rfl
theorem Cq {ds:List Int}:bP [.scr ds]=some (.int ds.length):=rfl
theorem xN {ds:List D}:ee [.lst ds]=some (.tup ds):=rfl
theorem xO {ds:List D}:ee [.tup ds]=some (.tup ds):=rfl
theorem zX {ds:List D}:iX [.lst ds]=some (.lst ds):=rfl
theorem zY {ds:List D}:iX [.tup ds]=some (.lst ds):=rfl
theorem f7 {α:Type} {xs:List α} {k:Nat} (h:k<xs.length):L2.atI xs (k:Int)=some xs[k]:=zm (by simp[h])
theorem zZ (x:Int) (xs:List Int):((xs.map D.int).any λy=>E1 y (.int x))=decide (x∈xs):=by
 induction xs with
 |nil=>rfl
 |cons y r ih=>
  rw[GL,I0,ih]
  show (y==x||decide (x∈r))=decide (x∈y::r)
  by_cases e:x=y
  ·subst e;simp
  ·have:(y==x)=false:=beq_eq_false_iff_ne.mpr (II e)
   simp[this,e]
theorem A1 (xs:List Int):(xs.map D.int).all kx=true:=by
 induction xs with
 |nil=>rfl
 |cons y r ih=>rw[GL,J3,ih];rfl
theorem qr (Q9:Bool) (x:Int) (xs:List Int):D9 Q9 (.int x) (xs.map .int)=some (.bl (if Q9 then !decide (x∈xs)else decide (x∈xs))):=by
 unfold D9
 rw[if_pos ⟨rfl,A1 xs⟩,zZ]
theorem E7 {x:Int} {xs:List Int}:jz false (.int x) (.tup (xs.map .int))=some (.bl (decide (x∈xs))):=qr false x xs
theorem gW {x:Int} {xs:List Int}:jz true (.int x) (.lst (xs.map .int))=some (.bl (!decide (x∈xs))):=qr true x xs
theorem rF {x:Int} {xs:List Int}:jz true (.int x) (.tup (xs.map .int))=some (.bl (!decide (x∈xs))):=qr true x xs
theorem tF (n:Nat):iT 0 (n:Int)=(Hy n).map λk:Nat=>D.int (k:Int):=by
 unfold iT
 simp
theorem Cr {ds:List D}:vP "tuple" (.tup ds)=some (.bl true):=rfl
theorem Ct {i:Int}:vP "tuple" (.int i)=some (.bl false):=rfl
theorem Cu {i:Int}:vP "int" (.int i)=some (.bl true):=rfl
theorem Cv {i:Int}:vP "bool" (.int i)=some (.bl false):=rfl
theorem xP {m:List D->R D} {n:Nat} {fs:a9->R (List D)} {ρ:a9} {ds:List D} {d:D} (h:fs ρ= .ok ds) (hl:ds.length=n) (hm:m ds= .ok d):aO m n fs ρ= .ok d:=by
 unfold aO
 rw[h,al,if_pos hl,hm]
end L2.Pu
namespace L2.Pu
theorem qt {g:D->a9->R a9} {gb:a9->R a_} {d:D} {r:List D} {ρ ρ1 ρ2:a9} (h1:g d ρ= .ok ρ1) (h2:gb ρ1= .ok (.nx ρ2)):eF g gb (d::r) ρ=eF g gb r ρ2:=by
 rw[eF,h1,al,h2,al]
theorem xQ {g:D->a9->R a9} {gb:a9->R a_} {d:D} {r:List D} {ρ ρ1 ρ2:a9} (h1:g d ρ= .ok ρ1) (h2:gb ρ1= .ok (.cnt ρ2)):eF g gb (d::r) ρ=eF g gb r ρ2:=by
 rw[eF,h1,al,h2,al]
end L2.Pu
namespace L2.Pu
theorem cX {k n:Nat} {g:a9->R a_} {ds:List D} {d:D} (h:ds.length=k) (e:g (cj n ds)= .ok (.ret d)):bd k n g ds= .ok d:=by
 unfold bd
 rw[if_pos h,e,al]
theorem Cw {k n:Nat} {g:a9->R a_} {ds:List D} {ρ:a9} (h:ds.length=k) (e:g (cj n ds)= .ok (.nx ρ)):bd k n g ds= .ok .non:=by
 unfold bd
 rw[if_pos h,e,al]
theorem aE {g g':a9->R a_} {ρ ρ':a9} (h:g ρ= .ok (.nx ρ')):aA g g' ρ=g' ρ':=by
 unfold aA
 rw[h,al]
theorem A2 {g g':a9->R a_} {ρ:a9} {d:D} (h:g ρ= .ok (.ret d)):aA g g' ρ= .ok (.ret d):=by
 unfold aA
 rw[h,al]
theorem xR {fi:a9->R (List D)} {g:D->a9->R a9} {gb:a9->R a_} {ρ:a9} {ds:List D} (h:fi ρ= .ok ds):li fi g gb ρ=eF g gb ds ρ:=by
 unfold li
 rw[h,al]
end L2.Pu
namespace L2.Pu
theorem gX {fs:a9->R (List D)} {ρ:a9} {n:Nat} (h:fs ρ= .ok [.int (n:Int)]) (hn:n<=lim):dX fs ρ= .ok ((Hy n).map λk:Nat=>D.int (k:Int)):=by
 unfold dX
 rw[h,al]
 have hc:(n:Int).natAbs<=lim:=by rw[Int.natAbs_natCast];exact hn
 exact(if_pos hc).trans (congrArg R.ok (tF n))
end L2.Pu
namespace L2.Pu
open PySem PySem.Spec PyProof.Rows
variable {ly:List df}
section
variable {X:Cx} {Q6 tg Oj:GD} {PZ:List GD} {scope:IP} {pos:Hr} {fi:a9->R (List D)} {g:D->a9->R a9} {gt:a9->R Bool} {fe:a9->R D}
theorem qu (i:Nat) {y:Gv} {py Qf:Hr} (S:aT X scope) (hc:X.calm=true) (hN:X.N.Nodup) (hi:D7 ly X tg Oj fi) (hg:∀s H ex,AV [] (cA X scope s H ex) tg g) (Rw:∀s H ex,vM [] (cA X scope s H ex) PZ gt) (Rr:∀s H ex,PQ [] (cA X scope s H ex) Q6 fe)
  (QV:X.N[i]? =some y:=by rfl) (hx:wH X.env.scope y:=by first|exact Hv rfl|exact Hh rfl) (hf:X.fn y=true\/X.env.scope.names.lookup y=some .local:=by first|exact .inl rfl|exact .inr rfl|assumption)
  (Qr:HA (.ListComp Q6 [⟨tg,Oj,PZ,0⟩] scope pos) (some (.Name y py)) Qf.line X.env=pure false:=by rfl) (hs:∀x,IK Oj X.env x=pure x:=by intro _;rfl) (P_:iQ ly i:=by(repeat (first|assumption|exact L2.Pu.dS|refine L2.Pu.d6 ⟨by first|decide|simp,by first|decide|simp⟩ ?_))):
  kd ly X (.Assign [.Name y py] (.ListComp Q6 [⟨tg,Oj,PZ,0⟩] scope pos) Qf) (lj i (bN X.N scope.names fi g gt fe)):=λc=>
 PS.weak (l6 hN QV hx (uB S hc (hi c) (λs H ex=>Fw (hg s H ex)) (λs H ex=>Fx (Rw s H ex)) (λs H ex=>Fy (Rr s H ex)) hs) Qr hf) λD σ H ⟨F,ρ,ri,w⟩=>by
  refine⟨F,ρ,ri,(aC.bind.mp (aC.bind.mp w)).imp λds _ w1 J H1 F1 e1 jo p hp=> ?_⟩
  split at w1
  ·rename_i hl
   split at w1
   ·rename_i es he
    refine jP ri e1 jo hp hl he λH2 F2 vs e2 So T_ rv=> ?_
    refine w1 _ H2 F2 (e1.grow.trans e2.grow) ((ri.step (e1.trans e2)).setOwn i P_ So T_ (ri.ext.keep.free (e1.keep.free hp)) (.lst rv) (λj d' _ hj ej=> ?_) (ri.celNe (e1.trans e2).keep (e1.keep.free hp)))
    obtain⟨a,o,k1,k2,_⟩:=ri.own j d' hj
    rw[ej]at k1
    cases k1
    rw[e1.keep.free hp]at k2
    cases k2
   ·exact w1.elim
  ·exact w1.elim
end
end L2.Pu
namespace L2.Pu
open PySem PySem.Spec PyProof.Rows
variable {ly:List df}
theorem lp {f:a9->R D} {ρ:a9} {d:D} (h:f ρ= .ok d):cn f ρ= .ok (.ret d):=by unfold cn;rw[h,al]
theorem b8 {g:List D->Option D} {fs:a9->R (List D)} {ρ:a9} {ds:List D} {d:D} (h:fs ρ= .ok ds) (h2:g ds=some d):bZ g fs ρ= .ok d:=by unfold bZ;rw[h,al,h2,dw]
theorem aa {f:a9->R D} {fs:a9->R (List D)} {ρ:a9} {ds:List D} {d:D} (h:f ρ= .ok d) (h2:fs ρ= .ok ds):a7 f fs ρ= .ok (d::ds):=by unfold a7;rw[h,al,h2,al]
theorem tH {f:a9->R (List D)} {ρ:a9} {ds:List D} (h:f ρ= .ok ds):fL f ρ= .ok (.lst ds):=by unfold fL;rw[h,al]
theorem jl {N:List Gv} {names:List (Gv×HD)} {fi:a9->R (List D)} {g:D->a9->R a9} {gt:a9->R Bool} {fe:a9->R D} {ρ τ:a9} {ds es:List D} (h:fi ρ= .ok ds) (hl:ds.length<=lim) (hr:fK N names ρ=τ) (hc:iU g gt fe ds τ= .ok es):
  bN N names fi g gt fe ρ= .ok es:=by
 unfold bN
 rw[h,al,if_pos hl,hr,hc]
theorem own_of {i:Nat} {f:a9->R (List D)} {ρ:a9} {ds:List D} (h:f ρ= .ok ds):lj i f ρ= .ok (.nx (ρ.set i (some (.own (.lst ds))))):=by unfold lj;rw[h,al]
theorem dh {f:a9->R D} {g:D->a9->R a9} {ρ ρ':a9} {d:D} (h:f ρ= .ok d) (h2:g d ρ= .ok ρ'):bV f g ρ= .ok (.nx ρ'):=by unfold bV;rw[h,al,h2,al]
theorem c4 {m:List D->R D} {n:Nat} {fs:a9->R (List D)} {ρ:a9} {ds:List D} {d:D} (h:fs ρ= .ok ds) (hl:ds.length=n) (hm:m ds= .ok d):aO m n fs ρ= .ok d:=xP h hl hm
theorem az {g:D->D->Option D} {fa fb:a9->R D} {ρ:a9} {a b d:D} (h:fa ρ= .ok a) (h2:fb ρ= .ok b) (h3:g a b=some d):f2 g fa fb ρ= .ok d:=by unfold f2;rw[h,al,h2,al,h3,dw]
end L2.Pu
namespace L2.Pu
theorem xS (d:D):(Slot.val d).data=d:=rfl
theorem xT (d:D):(Slot.own d).data=d:=rfl
theorem xU (d:D):(Slot.bor d).data=d:=rfl
end L2.Pu
namespace L2.Pu
open PySem PySem.Spec PyProof.Rows
variable {ly:List df}
def ib:List (bD×D)->Option (List Int)
 |[]=>some []
 |(.inl i,_)::r=>(ib r).map (i::·)
 |(.inr _,_)::_=>none
def fP:List D->Option D
 |[.lst ds]=>(bw ds).bind λns=>if ns.length<64 then some (.lst ((de ns).map .int))else none
 |[.dic PD]=>(ib PD).bind λns=>if ns.length<64 then some (.lst ((de ns).map .int))else none
 |_=>none
theorem rG {K:Gs} {F:Hp}:∀{ds:List (bD×D)} {ns:List Int} {vs:List (bD×V)},ib ds=some ns->RepK K F vs ds->vs.map (·.1)=ns.map JF:=by
 intro ds
 induction ds with
 |nil=>intro ns vs h r;rw[r.nilI];cases h;rfl
 |cons d r ih=>
  intro ns vs h rr
  obtain⟨k,d⟩:=d
  obtain⟨v,us,rfl,_,t⟩:=rr.consI
  cases k with
  |inr i=>cases h
  |inl i=>
   replace h:(ib r).map (i::·)=some ns:=h
   cases e:ib r with
   |none=>rw[e]at h;cases h
   |some ms=>
    rw[e]at h
    cases h
    rw[GL,GL,ih e t]
def kA (K:Gs):List V->Hp->VK->Prop:=λxs H Q=>
 (∃p ns,xs=[.ref p]/\c9 K H p (ns.map V.int)/\ns.length<64/\∀l,H l=none->Q (.ref l) (b9 H l (.lst ((de ns).map V.int))))\/
 ∃p kvs ns,xs=[.ref p]/\H p=some (.dK kvs)/\kvs.map (·.1)=ns.map JF/\ns.length<64/\∀l,H l=none->Q (.ref l) (b9 H l (.lst ((de ns).map V.int)))
theorem qv {X:Cx} (hc:X.calm=true):c7 X (.builtin "sorted") (kA X.K):=pY.or (q0 hc)
theorem rH {K:Gs}:jN K (kA K) fP:=by
 intro vs ds d H F Q s rv h k
 match ds,h with
 |[.lst xs],h=>exact .inl (tw vs _ d H F Q s rv h k)
 |[.dic xs],h=>
  obtain⟨v,rfl,r⟩:=rv.one
  obtain⟨a,ws,rfl,h1,h2,_⟩:=r.dic s
  replace h:((ib xs).bind λns=>if ns.length<64 then some (D.lst ((de ns).map .int))else none)=some d:=h
  cases e:ib xs with
  |none=>rw[e]at h;cases h
  |some ns=>
   rw[e]at h
   replace h:(if ns.length<64 then some (D.lst ((de ns).map .int))else none)=some d:=h
   split at h
   ·rename_i hl
    cases h
    refine .inr ⟨a,ws,ns,rfl,h1,rG e h2,hl,λl R9=> ?_⟩
    have e:=bf.lay (o:= .lst ((de ns).map V.int)) s R9
    exact k _ _ _ e (.lst au (fG _))
   ·cases h
section
variable {X:Cx} {a b:GD} {fs:a9->R (List D)} {pos p1 p2 Pz:Hr}
def jS (fs:a9->R (List D)):a9->R D:=λρ=>fs ρ>>=λds=>match ds with
 |[.int i, .int j]=>if i.natAbs<=lim/\j.natAbs<=lim then .ok (.lst ((fJ i j).map .int))else .bad
 |_=> .bad
theorem rJ (hc:X.calm=true) (TU:X.mg "list"=none) (WS:X.mg "range"=none) (ha:sx ly X [a,b] fs) (TV:Gl X "list":=by rfl) (WT:Gl X "range":=by rfl)
  (he:Gy [a,b] X.env=(false,GW a X.env)::Gy [b] X.env:=by rfl) (OT:(Hb Pz (Gy [b] X.env)).any (·.1)=false:=by rfl)
  (SR:Gy [.Call (.Name "range" p2) [a,b] [] Pz] X.env=(false,GW (.Call (.Name "range" p2) [a,b] [] Pz) X.env)::Gy [] X.env:=by rfl) (RT:(Hb pos (Gy [] X.env)).any (·.1)=false:=by rfl):
  PQ ly X (.Call (.Name "list" p1) [.Call (.Name "range" p2) [a,b] [] Pz] [] pos) (jS fs):=λc=>
 PE.weak (jf (p_ hc) TV TU L2.Pu.fH (bt (jf pZ WT WS Nb (ha c) (by decide) (by decide) he OT) cY SR) (by decide) (by decide) SR RT) λσ H Q ⟨F,ρ,ri,w⟩=>
  ⟨F,ρ,ri,(aC.bind.mp w).imp λds _ w1 vs H1 F1 e1 r1=>by
   split at w1
   ·rename_i i j _
    cases r1.int2
    ·split at w1
     ·rename_i hl
      refine⟨i,j,rfl,λp hp=> ?_⟩
      have e2:=bf.layOwn (o:= .rng i j) e1.sub hp
      have hi:=lim_int20 hl.1
      have hj:=lim_int20 hl.2
      refine⟨p,i,j,rfl,au,hi,hj,λl R9=> ?_⟩
      have e3:=bf.lay (o:= .lst ((fJ i j).map V.int)) e2.sub R9
      exact w1 _ _ _ ((e1.trans e2).trans e3) (.lst au (fG _))
     ·exact w1.elim
   ·exact w1.elim⟩
where
 lim_int20 {j:Int} (h:j.natAbs<=lim): -(2 ^20)<=j/\j<=2 ^20:=by
  unfold lim at h
  omega
end
end L2.Pu
namespace L2.Pu
open PySem PySem.Spec PyProof.Rows
variable {ly:List df}
end L2.Pu
namespace L2.Pu
open PySem PySem.Spec PyProof.Rows
variable {ly:List df}
section
variable {X:Cx} {a:GD} {fa:a9->R D} {pos p1 p2 Pz:Hr}
end
section
variable {K:Gs}
def uM:List D->Option (List (bD×D))
 |[]=>some []
 | .tup [k,v]::r=>(iC k).bind λOd=>(uM r).map λps=>(Od,v)::ps
 |_::_=>none
end
end L2.Pu
namespace L2.Pu
open PySem PySem.Spec PyProof.Rows
variable {ly:List df}
structure gu (K:Gs) (x:Gv) (C:Gw):Prop where
 ns:GJ K GG x=some (some (.ref C))
 cl:qX K C
theorem RepF.nilI {K:Gs} {F:Hp} {vs:List (Gv×V)} (h:RepF K F vs []):vs=[]:=by cases h;rfl
theorem RepF.consI {K:Gs} {F:Hp} {vs:List (Gv×V)} {k:Gv} {d:D} {ds:List (Gv×D)} (h:RepF K F vs ((k,d)::ds)):∃v us,vs=(k,v)::us/\cH K F v d/\RepF K F us ds:=by
 cases h with
 |cons r t=>exact⟨_,_,rfl,r,t⟩
theorem RepF.get {K:Gs} {F:Hp} {f:Gv} {d:D} {vs:List (Gv×V)} {ds:List (Gv×D)} (g:RepF K F vs ds):ds.lookup f=some d->∃v,(f,v)∈vs/\cH K F v d:=by
 induction ds generalizing vs with
 |nil=>intro h;cases h
 |cons p ds ih=>
  intro h
  obtain⟨v,us,e0,r,t⟩:=RepF.consI (k:=p.1) (d:=p.2) g
  subst e0
  rw[HS]at h
  cases e:f==p.1 with
  |true=>rw[e]at h;cases h;cases eq_of_beq e;exact⟨v,GO,r⟩
  |false=>
   rw[e]at h
   obtain⟨v',h1,h2⟩:=ih t h
   exact⟨v',GU _ h1,h2⟩
theorem RepF.names {K:Gs} {F:Hp} {vs:List (Gv×V)} {ds:List (Gv×D)} (g:RepF K F vs ds):vs.map (·.1)=ds.map (·.1):=by
 induction ds generalizing vs with
 |nil=>rw[g.nilI];rfl
 |cons p ds ih=>
  obtain⟨v,us,e0,_,t⟩:=RepF.consI (k:=p.1) (d:=p.2) g
  rw[e0,GL,GL,ih t]
theorem ef {α:Type} {f:Gv}:∀{ds:List (Gv×α)},ds.lookup f=none->f∉ds.map (·.1)
 |[],_=>by simp
 |(k,v)::ds,h=>by
  rw[HS]at h
  cases e:f==k with
  |true=>rw[e]at h;cases h
  |false=>
   rw[e]at h
   rw[GL]
   intro z
   rcases GK.mp z with z|z
   ·rw[z]at e;simp at e
   ·exact ef h z
theorem cg.ins {K:Gs} {H F:Hp} {v:V} {x:Gv} {fds:List (Gv×D)} (s:aN F H):cg K H F v (.ins x fds)->∃a C dx fs vs,v= .ref a/\H a=some (.ins C dx fs)/\GJ K GG x=some (some (.ref C))/\(∀p∈vs,fs.lookup p.1=some p.2)/\(∀f v,fs.lookup f=some v->f∈vs.map (·.1))/\RepF K F vs fds:=λh=>by
 obtain⟨a,C,dx,fs,vs,e,h,r⟩:=h.in rfl
 exact⟨a,C,dx,fs,vs,e,s _ _ h,r⟩
section
variable {X:Cx} {a o e:GD} {es:List GD} {fa fo:a9->R D} {fs:a9->R (List D)} {pos Oa p:Hr} {cls f m x:Gv} {C:Gw}
def c_ (cls f:Gv) (fa:a9->R D):a9->R D:=λρ=>fa ρ>>=λd=>match d with
 | .ins y fds=>if y=cls then R.of (fds.lookup f)else .bad
 |_=> .bad
theorem E8 (T:gu X.K cls C) (n:cU X.K C f) (ha:PB ly X a fa) (hb:Hx a f X.env (GW a X.env)=GW a X.env:=by rfl):PQ ly X (.Attribute a f pos) (c_ cls f fa):=λc=>
 PE.weak (pS (ha c) hb) λσ H Q ⟨F,ρ,ri,w⟩=>⟨F,ρ,ri,(aC.bind.mp w).imp λd _ w1 v H1 F1 e1 r1=>by
  cases d with
  |ins y fds=>
   dsimp only at w1
   split at w1
   ·rename_i hy
    subst hy
    obtain⟨d',hd,k⟩:=w1.of
    obtain⟨a,C',dx,fs,vs,rfl,h1,h2,h3,h4,h5⟩:=r1.ins e1.sub
    have ec:C'=C:=by rw[T.ns]at h2;cases h2;rfl
    subst ec
    obtain⟨u,hu,ru⟩:=h5.get hd
    exact⟨a,C',dx,fs,u,rfl,h1,T.cl,n,h3 _ hu,k u H1 F1 e1 ru⟩
   ·exact w1.elim
  |_=>exact w1.elim⟩
structure ck (P:GP) (w:G_) (K:Gs) (mg:Gv->Option Gu) (base:GY) (k:Nat) (cls m:Gv) (n:Nat) (r:List D->R D):Prop where
 ex:∃C f fd ps,dB P w K mg base (iO P w) k f fd ps (vJ K n r)/\gu K cls C/\sH K C m f/\dO K fd ps []
def eX (cls m:Gv) (n:Nat) (r:List D->R D) (fo:a9->R D) (fs:a9->R (List D)):a9->R D:=λρ=>fo ρ>>=λd=>match d with
 | .ins y fds=>if y=cls/\fds.lookup m=none then (fs ρ>>=λds=>if ds.length+1=n then (match r (d::ds)with| .ok z=> .ok z| .err x _=> .err x ρ| .bad=> .bad)else .bad)else .bad
 |_=> .bad
theorem uN {c:cO ly} {r:List D->R D} {n:Nat} {σ:St} {H:Hp} {Q:VK} (T:gu X.K cls C) (h:tQ X.K c (eX cls m n r fo fs) σ H Q):x5 C m (vJ X.K n r) [] (C4 X c) (tQ X.K c fo) (D6 X.K c fs) σ H Q:=by
 obtain⟨F,ρ,ri,w⟩:=h
 refine⟨F,ρ,ri,(aC.bind.mp w).imp λd hd w1 v H1 F1 e1 r1=> ?_⟩
 cases d with
 |ins y fds=>
  dsimp only at w1
  split at w1
  ·rename_i hy
   obtain⟨rfl,hm⟩:=hy
   obtain⟨a,C',dx,QR,vs,rfl,h1,h2,h3,h4,h5⟩:=cg.ins e1.sub (H:=H1) (.inl r1)
   have ec:C'=C:=by rw[T.ns]at h2;cases h2;rfl
   subst ec
   have QT:QR.lookup m=none:=by
    cases e:QR.lookup m with
    |none=>rfl
    |some v=>
     have:=h4 m v e
     rw[h5.names]at this
     exact absurd this (ef hm)
   refine⟨a,dx,QR,rfl,h1,QT,F1,ρ,ri.step e1,(aC.bind.mp w1).imp λds _ w2 us H2 F2 e2 r2=> ?_⟩
   show vJ X.K n r (V.ref a::(us++[])) H2 Q (C4 X c σ)
   rw[Ig]
   split at w2
   ·rename_i hl
    refine⟨by rw[GX,r2.length];exact hl,F2,_,e2.sub, .cons (r1.mono e2.grow) r2,?_⟩
    split at w2
    ·rename_i z hz
     try rw[hz]
     exact λv H' F' e' r'=>w2 v H' F' ((e1.trans e2).trans e') r'
    ·rename_i z _ hz
     try rw[hz]
     exact λcls a H' F' ec e'=>⟨_,ρ,F',ec,ri.step ((e1.trans e2).trans e'),w2⟩
    ·exact w2.elim
   ·exact w2.elim
  ·exact w1.elim
 |_=>exact w1.elim
theorem nQ {k n:Nat} {r:List D->R D} {pl:Kj Bool} (G:ck X.prog X.w X.K X.mg X.base k cls m n r) (hr:bY k X.A) (ho:PQ ly X o fo) (ha:sx ly X (e::es) fs)
  (QD:Gy (e::es) X.env=(false,GW e X.env)::Gy es X.env:=by rfl) (OT:(Hb pos (Gy es X.env)).any (·.1)=false:=by rfl)
  (ht:GW (.Call (.Attribute o m Oa) (e::es) [] pos) X.env=(do
   let ov<-GW o X.env
   J_ Oa.atName
   let (f,first)<-J8 [ov] (JQ ov m pl)
   KJ pos f first (Hb pos (Gy (e::es) X.env)) (Iq pos (HM [] X.env))):=by rfl):
  PQ ly X (.Call (.Attribute o m Oa) (e::es) [] pos) (eX cls m n r fo fs):=by
 obtain⟨C,f,fd,ps,h1,h2,h3,h4⟩:=G.ex
 exact λc=>PE.weak (uq (pl:=pl) (ho c) h2.cl h3 h1 hr h4 .nil (nI c) (ha c) QD OT ht) λσ H Q h=>uN h2 h
theorem qw {k n:Nat} {r:List D->R D} {pl:Kj Bool} (G:ck X.prog X.w X.K X.mg X.base k cls m n r) (hr:bY k X.A) (ho:PQ ly X o fo)
  (ht:GW (.Call (.Attribute o m Oa) [] [] pos) X.env=(do
   let ov<-GW o X.env
   J_ Oa.atName
   let (f,first)<-J8 [ov] (JQ ov m pl)
   KJ pos f first (Hb pos (Gy [] X.env)) (Iq pos (HM [] X.env))):=by rfl):
  PQ ly X (.Call (.Attribute o m Oa) [] [] pos) (eX cls m n r fo ag):=by
 obtain⟨C,f,fd,ps,h1,h2,h3,h4⟩:=G.ex
 refine λc=>PE.weak (x6 (pl:=pl) (ho c) h2.cl h3 h1 hr h4 .nil (nI c) ht) λσ H Q h=> ?_
 obtain⟨F,ρ,ri,w⟩:=uN h2 h
 refine⟨F,ρ,ri,w.imp λd _ k v H1 F1 e1 r1=> ?_⟩
 obtain⟨a,dx,QR,g1,g2,g3,F2,ρ2,S5,w2⟩:=k v H1 F1 e1 r1
 exact⟨a,dx,QR,g1,g2,g3,w2 [] H1 F2 (bf.refl S5.sub) .nil⟩
theorem aB.ghost {O0:List (Gw×Hi)} {σ:St} {H:Hp} {s:Gx} (I:aB X O0 σ H s) {i:Nat} {g:Gv} {v:Option V} (hi:X.N[i]? =some g) (hv:¬ke X.env.scope g):aB X O0 (σ.set i v) H s:=by
 refine {I with loc:= ?_,len:=by rw[LM];exact I.len}
 obtain⟨mm,h1,h2⟩:=I.loc
 refine⟨mm,h1,λj x u e1 e2 e3=> ?_⟩
 by_cases z:i=j
 ·subst z
  rw[hi]at e1
  cases e1
  exact absurd e3 hv
 ·rw[ac z]at e2
  exact h2 j x u e1 e2 e3
def E9 (K:Gs) (i:Nat) (ta tv:TE) (f:Gv):TS:=λD σ H=>tv σ H λy H1=>ta σ H1 λx H2=>∃a C dx fs,x= .ref a/\H2 a=some (.ins C dx fs)/\qX K C/\cU K C f/\fs.length<1000/\
 D.nx (σ.set i (some y)) (b9 H2 a (.ins C dx (e_ f y fs)))
theorem uO {value:GD} {Oh:Hr} {ta tv:TE} {g:Gv} (i:Nat) (hi:X.N[i]? =some g) (hvis:¬ke X.env.scope g) (ha:PE X o ta) (hv:PE X value tv) (hs:HA value (some (.Attribute o f Oh)) pos.line X.env=pure false):
  PS X (.Assign [.Attribute o f Oh] value pos) (E9 X.K i ta tv f):=by
 intro O0 s σ H D I h
 refine Ko (bW (hv O0 s σ H _ I h) λu s1 z=> ?_) hs
 obtain⟨y,H1,I1,ry,q⟩:=z
 refine bW (ha O0 s1 σ H1 _ I1 q) λov s2 z=> ?_
 obtain⟨x,H2,I2,rx,a,C,dx,fs,ex,ea,c,n,l,q2⟩:=z
 subst ex
 obtain rfl:ov=Hc a:=rx
 exact n8 I2 ea c n l ry λs3 I3=>⟨_,_,L2.Pu.aB.ghost I3 hi hvis,q2⟩
theorem pi (f:Gv) (v:V):∀fs:List (Gv×V),(e_ f v fs).map (·.1)=if f∈fs.map (·.1)then fs.map (·.1)else fs.map (·.1)++[f]
 |[]=>rfl
 |(g,x)::r=>by
  show (if g=f then (g,v)::r else (g,x)::e_ f v r).map (·.1)=_
  by_cases e:g=f
  ·subst e;simp
  ·rw[if_neg e,GL,pi f v r]
   by_cases h:f∈r.map (·.1)
   ·rw[if_pos h,if_pos (by rw[GL];exact GU _ h)];rfl
   ·rw[if_neg h,if_neg (by rw[GL];intro z;exact(GK.mp z).elim (λq=>e q.symm) h)];rfl
theorem qx (f:Gv) (v:V) {fs:List (Gv×V)} (h:(fs.map (·.1)).Nodup):((e_ f v fs).map (·.1)).Nodup:=by
 rw[pi]
 split
 ·exact h
 ·rename_i hf
  refine Jr.mpr ⟨h,by simp,λa ha b hb=> ?_⟩
  rw[GS.mp hb]
  intro z;subst z;exact hf ha
theorem cP {α:Type} [DecidableEq α]:∀{l m:List α},l.Nodup->(∀x∈l,x∈m)->l.length<=m.length
 |[],_,_,_=>Il _
 |a::l,m,h,s=>by
  obtain⟨h1,h2⟩:=I_.mp h
  have ha:=s a GO
  have:=cP (m:=m.erase a) h2 λx hx=>(List.mem_erase_of_ne (λz=>h1 (by rw[<-z];exact hx))).mpr (s x (GU _ hx))
  rw[List.length_erase_of_mem ha]at this
  have hp:0<m.length:=List.length_pos_of_mem ha
  rw[GX]
  omega
theorem ic {α:Type} {f:Gv}:∀{fs:List (Gv×α)},f∈fs.map (·.1)->∃v,fs.lookup f=some v
 |(g,x)::r,h=>by
  rw[HS]
  cases e:f==g with
  |true=>exact⟨x,rfl⟩
  |false=>
   rw[GL]at h
   rcases GK.mp h with z|z
   ·rw[z]at e;simp at e
   ·exact ic z
theorem RI.fld {K:Gs} {c:cO ly} {ρ:a9} {σ:St} {H F:Hp} (r:RI K c ρ σ H F) {L:df} (hL:L∈ly) (hρ:ρ[L.x]? =some (some .obj)) {a dx:Gw} {fs:List (Gv×V)} {i:Nat} (hx:σ[L.x]? =some (some (.ref a))) (ha:H a=some (.ins L.C dx fs)) (hf:(f,i)∈L.fl)
  (hn:∀p∈L.fl,p.1=f<->p.2=i) (S_:L.x≠i) (Rl:∀M∈ly,M≠L->M.x≠i/\∀p∈M.fl,p.2≠i) {v:V} {d:D} (hd:cH K F v d) (RV:i<σ.length):
  RI K c (ρ.set i (some (.val d))) (σ.set i (some v)) (b9 H a (.ins L.C dx (e_ f v fs))) F:=by
 obtain⟨b,Sv,QR,k0,k1,k2,k3,k4,k5,k6,k7,k8,k9,Tg⟩:=r.obj L hL hρ
 rw[hx]at k1
 cases k1
 rw[ha]at k2
 cases k2
 have Py:∀{b:Gw} {o:HO},H b=some o->gF K F o d->b≠a:=λ{b o} e q z=>by subst z;rw[ha]at e;cases e;cases q
 refine⟨⟨λx y e=> ?_,λx y e=> ?_,r.ext.grow,r.ext.new⟩,λj e q=> ?_,λj e q=> ?_,λj e q=> ?_,r.bh,λj k e e' x q1 q2 q3 q4=> ?_,by simp[r.len],λM hM hq=> ?_,λM hM M' T1 U1 U2 x q1 q2=> ?_,r.fm, .no λj x O8 g hs w=> ?_,λM hM a h=> ?_⟩
 ·rw[ao (λz=>by rw[z,k4]at e;cases e)];exact r.sub x y e
 ·rw[ao (λz=>by rw[z,k6]at e;cases e)];exact r.ext.keep x y e
 ·rcases aq q with ⟨rfl,z,l⟩|⟨z,q⟩
  ·cases z;exact⟨v,dU RV,hd⟩
  ·rw[ac z];exact r.val j e q
 ·rcases aq q with ⟨rfl,z,l⟩|⟨z,q⟩
  ·cases z
  ·obtain⟨x,o,g1,g2,g3,g4,g5⟩:=r.own j e q
   have nx:x≠a:=λz=>by subst z;rw[ha]at g2;cases g2;cases g5
   exact⟨x,o,by rw[ac z];exact g1,by rw[ao nx];exact g2,g3,g4,g5⟩
 ·rcases aq q with ⟨rfl,z,l⟩|⟨z,q⟩
  ·cases z
  ·rw[ac z];exact r.bor j e q
 ·rcases aq q1 with ⟨rfl,z,l⟩|⟨z,q1⟩
  ·cases z
  ·rcases aq q2 with ⟨rfl,z',l⟩|⟨z',q2⟩
   ·cases z'
   ·rw[ac z]at q3;rw[ac z']at q4
    exact r.dis j k e e' x q1 q2 q3 q4
 ·by_cases QE:M=L
  ·subst QE
   refine⟨a,dx,e_ f v fs,k0,by rw[ac S_.symm];exact hx,au,?_,k4,k5,k6,k7,λp hp=> ?_,λg u hu=> ?_,qx _ _ Tg⟩
   ·rw[ao (λz=>by rw[z,ha]at k3;cases k3)];exact k3
   ·rw[bX]
    by_cases e:p.1=f
    ·rw[if_pos e,(hn p hp).mp e,dU RV];rfl
    ·rw[if_neg e,ac (λz=>e ((hn p hp).mpr z.symm))];exact k8 p hp
   ·rw[bX]at hu
    by_cases e:g=f
    ·subst e;exact IH.mpr ⟨_,hf,rfl⟩
    ·rw[if_neg e]at hu;exact k9 g u hu
  ·have ho:=Rl M hM QE
   rw[ac ho.1.symm]at hq
   obtain⟨b,dy,gs,g0,g1,g2,g3,g4,g5,g6,g7,g8,g9⟩:=r.obj M hM hq
   have nb:b≠a:=λz=>QE (r.odis M hM L hL hq hρ a (by rw[<-z];exact g1) hx)
   have nd:dy≠a:=λz=>by subst z;rw[ha]at g3;cases g3
   refine⟨b,dy,gs,g0,by rw[ac ho.1.symm];exact g1,by rw[ao nb];exact g2,by rw[ao nd];exact g3,g4,g5,g6,g7,λp hp=> ?_,g9⟩
   rw[ac (ho.2 p hp).symm];exact g8 p hp
 ·have Sg:∀M∈ly,M.x≠i:=λM hM=>by
   by_cases QE:M=L
   ·subst QE;exact S_
   ·exact(Rl M hM QE).1
  rw[ac (Sg M hM).symm]at q1 U1
  rw[ac (Sg M' T1).symm]at q2 U2
  exact r.odis M hM M' T1 U1 U2 x q1 q2
 ·rcases aq w with ⟨rfl,z,l⟩|⟨z,w⟩
  ·cases z
  ·have:=r.cel.one j L.x x O8 g hs .obj w hρ rfl
   subst this
   rw[hρ]at w
   cases w
 ·have Sg:M.x≠i:=by
   by_cases QE:M=L
   ·subst QE;exact S_
   ·exact(Rl M hM QE).1
  rw[ac Sg.symm];exact r.pin M hM a h
def kB (x:Nat) (g:a9->R a_):a9->R a_:=λρ=>match ρ[x]? with
 |some (some .obj)=>g ρ
 |_=> .bad
theorem A3 {c:cO ly} {x:Nat} {g:a9->R a_} {ρ:a9} {P:a_->Prop} (w:aC c (kB x g ρ) P):ρ[x]? =some (some .obj)/\aC c (g ρ) P:=by
 unfold kB at w
 split at w
 ·rename_i h;exact⟨h,w⟩
 ·exact w.elim
structure xV (ly:List df) (L:df) (f:Gv) (i:Nat):Prop where
 mem:L∈ly
 fl:(f,i)∈L.fl
 un:∀p∈L.fl,p.1=f<->p.2=i
 x:L.x≠i
 oth:∀M∈ly,M≠L->M.x≠i/\∀p∈M.fl,p.2≠i
 few:L.fl.length<1000
theorem gG {value:GD} {Oh px:Hr} {fv:a9->R D} {y g:Gv} {L:df} (i:Nat) (hC:qX X.K L.C) (n:cU X.K L.C f) (A:xV ly L f i) (hv:PQ ly X value fv) (hN:X.N[L.x]? =some y:=by rfl) (Vd:ke X.env.scope y:=by first|exact Hv rfl|exact Hh (Hv rfl)|exact Hh (Hh rfl)) (hd:(y==("__debug__":Gv))=false:=by decide)
  (P2:(y==("__classdict__":Gv))=false:=by decide) (hi:X.N[i]? =some g:=by rfl) (hvis:¬ke X.env.scope g:=by decide+kernel) (hs:HA value (some (.Attribute (.Name y px) f Oh)) pos.line X.env=pure false:=by rfl):
  kd ly X (.Assign [.Attribute (.Name y px) f Oh] value pos) (kB L.x (bV fv (gN i))):=λc O0 s σ H D I q=>by
 refine uO i hi hvis (pv L.x hN Vd hd P2) (hv c) hs O0 s σ H D I ?_
 obtain⟨F,ρ,ri,w⟩:=q
 obtain⟨hρ,w⟩:=A3 w
 refine⟨F,ρ,ri,(aC.bind.mp w).imp λd _ w1 v H1 F1 e1 r1=> ?_⟩
 have Ra:=ri.step e1
 obtain⟨a,dx,fs,h0,h1,h2,h3,h4,h5,h6,h7,h8,h9,Th⟩:=Ra.obj L A.mem hρ
 have RV:i<σ.length:=by rw[I.len];exact(GV.mp hi).1
 have Oe:fs.length<1000:=by
  have:=cP (m:=L.fl.map (·.1)) Th λx hx=>by
   obtain⟨v,e⟩:=ic hx
   exact h9 x v e
  rw[GA,GA]at this
  exact KP this A.few
 refine⟨.ref a,h1,a,L.C,dx,fs,rfl,h2,hC,n,Oe,?_⟩
 exact w1 _ _ F1 e1.grow (Ra.fld A.mem hρ h1 h2 A.fl A.un A.x A.oth r1 RV)
end
end L2.Pu
namespace L2.Pu
open PySem PySem.Spec PyProof.Rows
variable {ly:List df}
section
variable {X:Cx} {pos px:Hr} {f y:Gv}
def FW (x:Nat) (g:a9->R D):a9->R D:=λρ=>match ρ[x]? with
 |some (some .obj)=>g ρ
 |_=> .bad
end
def cK:List (Gv×Nat)->a9->Option (List (Gv×D))
 |[],_=>some []
 |p::r,ρ=>match ρ[p.2]? with
  |some (some (.val d))=>(cK r ρ).map λt=>(p.1,d)::t
  |_=>none
def gH (n:Nat) (ds:List D):a9:=some Slot.obj::cj n ds
def vS (fl:List (Gv×Nat)) (ρ:a9):R (List (Gv×D)):=match ρ[0]? with
 |some (some Slot.obj)=>R.of (cK fl ρ)
 |_=> .bad
def jm (k n:Nat) (fl:List (Gv×Nat)) (g:a9->R a_) (ds:List D):R (List (Gv×D)):=if ds.length=k then g (gH n ds)>>=λo=>match o with
 | .nx ρ=>vS fl ρ
 |_=> .bad else .bad
def xW (K:Gs) (C:Gw) (cls:Gv) (k:Nat) (mi:List D->R (List (Gv×D))):Sp:=λvs H Q E=>∃F x dx us ds Hz,vs= .ref x::us/\us.length=k/\aN F Hz/\Hz x=none/\Hz dx=none/\dx≠x/\H=b9 (b9 Hz dx (.own x)) x (.ins C dx [])/\Reps K F us ds/\match mi ds with
 | .ok fds=>∀H' F',bf Hz F H' F'->cH K F' (.ref x) (.ins cls fds)->Q .non H'
 | .err z _=>∀ec a H' F',dC K z ec->bf Hz F H' F'->E ec a H'
 | .bad=>False
theorem jT {K:Gs} {c:cO ly} {ρ:a9} {σ:St} {H F:Hp} (ri:RI K c ρ σ H F) {fs:List (Gv×V)}:∀{fl:List (Gv×Nat)} {fds:List (Gv×D)},cK fl ρ=some fds->(∀p∈fl,fs.lookup p.1=(σ[p.2]?).join)->
  ∃vs:List (Gv×V),RepF K F vs fds/\vs.map (·.1)=fl.map (·.1)/\∀p∈vs,fs.lookup p.1=some p.2
 |[],fds,h,_=>by cases h;exact⟨[], .nil,rfl,λp hp=>by cases hp⟩
 |p::fl,fds,h,hl=>by
  unfold cK at h
  split at h
  ·rename_i d hd
   cases e:cK fl ρ with
   |none=>rw[e]at h;cases h
   |some t=>
    rw[e]at h
    cases h
    obtain⟨vs,h1,h2,h3⟩:=jT ri e λq hq=>hl q (GU _ hq)
    obtain⟨v,g1,g2⟩:=ri.val _ d hd
    refine⟨(p.1,v)::vs, .cons g2 h1,by rw[GL,GL,h2],λq hq=> ?_⟩
    rcases GK.mp hq with rfl|hq
    ·have:=hl p GO
     rw[this,g1];rfl
    ·exact h3 q hq
  ·cases h
theorem pj {K:Gs} {N:List Gv} {C x dx:Gw} {fl:List (Gv×Nat)} {Hz F:Hp} {us:List V} {ds:List D} {Er:Gv->a9->Prop} {n:Nat} (hn:N.length=n+1) (s:aN F Hz) (hx:Hz x=none) (U3:Hz dx=none) (Py:dx≠x) (r:Reps K F us ds) (VE:us.length<=n) (hg:∀p∈fl,us.length<p.2):
  RI K (⟨Hz,F,λ_=>none,Er,λ_=>some x,λ_=>none⟩:cO [⟨0,C,fl⟩]) (gH n ds) (dc N (.ref x::us)) (b9 (b9 Hz dx (.own x)) x (.ins C dx [])) F:=by
 have keep:aN Hz (b9 (b9 Hz dx (.own x)) x (.ins C dx [])):=(bR U3).trans (bR (by rw[ao (II Py)];exact hx))
 have hv:∀(i:Nat) sl,(gH n ds)[i]? =some (some sl)->(i=0/\sl= .obj)\/∃j d,i=j+1/\ds[j]? =some d/\sl= .val d:=λi sl h=>by
  cases i with
  |zero=>exact .inl ⟨rfl,by cases h;rfl⟩
  |succ j=>
   have h':(cj n ds)[j]? =some (some sl):=h
   refine .inr ?_
   unfold cj at h'
   rw[JC]at h'
   split at h'
   ·rw[Hg]at h'
    cases e:ds[j]? with
    |none=>rw[e]at h';cases h'
    |some d=>rw[e]at h';simp at h';exact⟨j,d,rfl,e,h'.symm⟩
   ·rw[IQ]at h'
    split at h'<;>simp at h'
 have U4:(dc N (V.ref x::us))[0]? =some (some (V.ref x)):=rfl
 refine⟨⟨s.trans keep,keep,aN.refl _,λ_ h=> .inl h⟩,λi d h=> ?_,λi d h=> ?_,λi d h=> ?_,(λb o e=>by cases e),λi j d d' a h=> ?_,?_,λL hL _=> ?_,λL hL L' QB _ _ a _ _=> ?_,(λ_ _ e=>by cases e), .no λi x O8 f hs h=>(by obtain⟨_,z⟩|⟨j,d',_,_,z⟩:=hv i _ h<;>cases z),λL hL a h=>by rw[GS.mp hL];cases h;exact U4⟩
 ·obtain⟨rfl,z⟩|⟨j,d',rfl,e,z⟩:=hv i _ h
  ·cases z
  cases z
  obtain⟨v,h1,h2⟩:=r.get e
  refine⟨v,?_,h2⟩
  unfold dc
  have hl:j<us.length:=(GV.mp h1).1
  rw[IA (by simpa using hl),Hg]
  show (us[j]?).map some=_
  rw[h1]
  rfl
 ·obtain⟨_,z⟩|⟨j,d',_,_,z⟩:=hv i _ h<;>cases z
 ·obtain⟨_,z⟩|⟨j,d',_,_,z⟩:=hv i _ h<;>cases z
 ·obtain⟨_,z⟩|⟨j,d',_,_,z⟩:=hv i _ h<;>cases z
 ·simp only[gH,cj,dc,GX,Hn,GA,Kl,hn]
  have:=r.length
  omega
 ·rw[GS.mp hL]
  refine⟨x,dx,[],(λb hb=>by cases hb;rfl),U4,au,?_,s.free hx,s.free U3,hx,U3,λp hp=> ?_,(λf v h=>by cases h),NM⟩
  ·rw[ao Py];exact au
  ·have So:=hg p hp
   show none=_
   unfold dc
   rw[JD (by simp;omega),IQ]
   split<;>rfl
 ·rw[GS.mp hL,GS.mp QB]
theorem A4 {K:Gs} {C:Gw} {cls:Gv} {fl:List (Gv×Nat)} {c:cO [⟨0,C,fl⟩]} {ρ:a9} {σ:St} {H F:Hp} {fds:List (Gv×D)} {x:Gw} (ri:RI K c ρ σ H F) (hρ:ρ[0]? =some (some .obj)) (Ve:c.oa 0=some x) (Rf:GJ K GG cls=some (some (.ref C))) (h:cK fl ρ=some fds):
  ∃F',bf c.H0 c.F0 H F'/\cH K F' (.ref x) (.ins cls fds):=by
 obtain⟨a,dx,fs,h0,h1,h2,h3,h4,h5,h6,h7,h8,h9,Th⟩:=ri.obj _ (GS.mpr rfl) hρ
 cases h0 x Ve
 obtain⟨vs,g1,g2,g3⟩:=jT ri h h8
 have Py:dx≠x:=λz=>by rw[z,h2]at h3;cases h3
 have s1:aN F (b9 F dx (.own x)):=bR h5
 have s2:aN (b9 F dx (.own x)) (b9 (b9 F dx (.own x)) x (.ins C dx fs)):=bR (by rw[ao (II Py)];exact h4)
 have sF:=s1.trans s2
 refine⟨b9 (b9 F dx (.own x)) x (.ins C dx fs),⟨λb u e=> ?_,ri.ext.keep,ri.ext.grow.trans sF,λb e=> ?_⟩, .ins au (by rw[ao Py];exact au) Rf g3 (λf v e=>by rw[g2];exact h9 f v e) (g1.mono sF)⟩
 ·by_cases z:b=x
  ·subst z;rw[au]at e;rw[<-e];exact h2
  ·rw[ao z]at e
   by_cases z2:b=dx
   ·subst z2;rw[au]at e;rw[<-e];exact h3
   ·rw[ao z2]at e;exact ri.sub b u e
 ·by_cases z:b=x
  ·subst z;exact .inr h6
  ·rw[ao z]at e
   by_cases z2:b=dx
   ·subst z2;exact .inr h7
   ·rw[ao z2]at e;exact ri.ext.new b e
theorem A5 {P:GP} {w:G_} {K:Gs} {mg:Gv->Option Gu} {base:GY} {x qual cls:Gv} {st:Hl} {f C:Gw} {fd:HX} {N ps:List Gv} {k n m:Nat} {fl:List (Gv×Nat)} {g:a9->R a_} (F:ux K x qual st f fd) (S:aK N ps (ah st))
  (Rf:GJ K GG cls=some (some (.ref C))) (hn:ps.length=n+1) (hm:N.length=m+1) (hg:∀p∈fl,n<p.2) (S6:n<=m)
  (Oo:∀(Oc:Gu) (A:Hd) (outer:List Iz) (s:Gx) (H:Hp) (E:XK),bY k (A.deeper (IE qual (ah st) s.heap.objs.size f Oc))->
   ia [⟨0,C,fl⟩] (gg (iO P w) P w K mg base N qual (ah st) f Oc A outer s H E) (b0 st) g):dB P w K mg base (iO P w) (k+1) f fd ps (xW K C cls n (jm n m fl g)):=by
 refine EG F S (λvs H Q E h=> ?_) (λOc A outer s H vs Q E hr h=> ?_)
 ·obtain⟨Fz,y,dy,us,ds,Hz,rfl,hl,_⟩:=h
  rw[GX,hl,hn]
 ·obtain⟨Fz,y,dy,us,ds,Hz,rfl,hl,sub,hy,U5,Py,rfl,r,w⟩:=h
  refine⟨_,Oo Oc A outer s _ E hr ⟨⟨Hz,Fz,λ_=>none,λz _=>∀ec a H' F',dC K z ec->bf Hz Fz H' F'->E ec a H',λ_=>some y,λ_=>none⟩,qc λz ρ er ec a H' F' σ hc ri=>er ec a H' F' hc ri.ext⟩,?_⟩
  refine⟨Fz,gH m ds,pj hm sub hy U5 Py r (by omega) (λp hp=>by rw[hl];exact hg p hp),?_⟩
  have hd:ds.length=n:=by rw[<-r.length];exact hl
  unfold jm at w
  rw[if_pos hd]at w
  cases e:g (gH m ds)with
  |bad=>rw[e]at w;exact w.elim
  |err c ρ=>rw[e]at w;exact w
  |ok o=>
   rw[e]at w
   cases o with
   |nx ρ=>
    intro σ' H' F' _ Pd
    rw[al]at w
    split at w
    ·rename_i fds hf
     replace hf:vS fl ρ= .ok fds:=hf
     unfold vS at hf
     split at hf
     ·rename_i hρ
      cases e2:cK fl ρ with
      |none=>rw[e2]at hf;cases hf
      |some WU=>
       rw[e2]at hf
       cases hf
       obtain⟨F2,x1,x2⟩:=A4 Pd hρ rfl Rf e2
       exact w H' F2 x1 x2
     ·cases hf
    ·rename_i z ρe hf
     replace hf:vS fl ρ= .err z ρe:=hf
     unfold vS at hf
     split at hf
     ·cases e2:cK fl ρ<;>rw[e2]at hf<;>cases hf
     ·cases hf
    ·exact w.elim
   |_=>exact w.elim
structure fQ (P:GP) (w:G_) (K:Gs) (mg:Gv->Option Gu) (base:GY) (k:Nat) (cls:Gv) (n:Nat) (mi:List D->R (List (Gv×D))):Prop where
 ex:∃C f fd ps,dB P w K mg base (iO P w) k f fd ps (xW K C cls n mi)/\mg cls=some (.ref C)/\Mk K C f/\dO K fd ps []
section
variable {X:Cx} {e:GD} {es:List GD} {fs:a9->R (List D)} {cls:Gv} {p pos:Hr}
def kC (cls:Gv) (n:Nat) (mi:List D->R (List (Gv×D))) (fs:a9->R (List D)):a9->R D:=λρ=>fs ρ>>=λds=>if ds.length=n then (match mi ds with| .ok fds=> .ok (.ins cls fds)| .err x _=> .err x ρ| .bad=> .bad)else .bad
theorem nR {k n:Nat} {mi:List D->R (List (Gv×D))} (G:fQ X.prog X.w X.K X.mg X.base k cls n mi) (hr:bY (k+1) X.A) (ha:sx ly X (e::es) fs) (hg:Gl X cls:=by rfl) (Pe:(cls==("__debug__":Gv))=false:=by decide)
  (he:Gy (e::es) X.env=(false,GW e X.env)::Gy es X.env:=by rfl) (OT:(Hb pos (Gy es X.env)).any (·.1)=false:=by rfl):PQ ly X (.Call (.Name cls p) (e::es) [] pos) (kC cls n mi fs):=by
 obtain⟨C,f,fd,ps,h1,h2,h3,h4⟩:=G.ex
 refine λc=>PE.weak (ur h3 h1 hr hg h2 h4 .nil (nI c) (ha c) Pe he OT) λσ H Q ⟨F,ρ,ri,w⟩=>⟨F,ρ,ri,(aC.bind.mp w).imp λds _ w1 vs H1 F1 e1 r1 x dx hx U3 Py=> ?_⟩
 rw[Ig]
 split at w1
 ·rename_i hl
  refine⟨F1,x,dx,vs,ds,H1,rfl,by rw[r1.length];exact hl,e1.sub,hx,U3,Py,rfl,r1,?_⟩
  split at w1
  ·rename_i fds hm
   exact λH' F' e' r'=>⟨rfl,w1 _ H' F' (e1.trans e') r'⟩
  ·exact λec a H' F' hc e'=>⟨_,ρ,F',hc,ri.step (e1.trans e'),w1⟩
  ·exact w1.elim
 ·exact w1.elim
end
end L2.Pu
namespace L2.Pu
open PySem PySem.Spec PyProof.Rows
variable {ly:List df}
section
variable {X:Cx} {e:GD} {es:List GD} {fs:a9->R (List D)} {x:Gv} {np O4 pos:Hr}
structure bO (K:Gs) (mg:Gv->Option Gu) (x:Gv):Prop where
 ex:∃C,GJ K GG x=some (some (.ref C))/\mg x=some (.ref C)/\qa K C
def bL (x:Gv) (fs:a9->R (List D)):a9->R a_:=λρ=>fs ρ>>=λds=>if ds.length<=lim then .err x ρ else .bad
theorem xX {c:gi ly X} {C:Gw} {σ:St} {H:Hp} {D:kZ} {ρ:a9} {F:Hp} (Rf:GJ X.K GG x=some (some (.ref C)))
  (SW:∀O0 σ ρ H F s a cls x,aB X O0 σ H s->RI X.K c.1 ρ σ H F->Fl X O0 H s.heap a cls->dC X.K x cls->c.1.Er x ρ->X.xe (.ref a) s)
  (ri:RI X.K c.1 ρ σ H F) (w:aC c.1 (bL x fs ρ) (fj X.K c.1 F D)):xt X C (D6 X.K c.1 fs) D σ H:=by
 refine⟨F,ρ,ri,(aC.bind.mp w).imp λds _ w1 vs H1 F1 e1 r1=> ?_⟩
 split at w1
 ·rename_i hl
  exact⟨Ht (by rw[r1.length];exact hl) dW,λO0 s a I fl=>SW O0 σ ρ H1 F1 s a _ x I (ri.step e1) fl ⟨C,rfl,Rf⟩ w1⟩
 ·exact w1.elim
theorem xY {c:cO ly} {ρ:a9} {F:Hp} {D:kZ} (no:∀x ρ,¬c.Er x ρ) (w:aC c (bL x fs ρ) (fj X.K c F D)):False:=by
 unfold bL at w
 cases h:fs ρ with
 |bad=>rw[h]at w;exact w
 |err y ρ'=>rw[h]at w;exact no _ _ w
 |ok ds=>
  rw[h,al]at w
  split at w
  ·exact no _ _ w
  ·exact w
theorem cB (k:bO X.K X.mg x) (hc:X.calm=true) (ha:sx ly X (e::es) fs) (hg:Gl X x:=by rfl) (Pe:(x==("__debug__":Gv))=false:=by decide)
  (he:Gy (e::es) X.env=(false,GW e X.env)::Gy es X.env:=by rfl) (OT:(Hb O4 (Gy es X.env)).any (·.1)=false:=by rfl) (QD:X.stack=X.env::X.outer:=by rfl):kd ly X (.Raise (some (.Call (.Name x np) (e::es) [] O4)) none pos) (bL x fs):=by
 obtain⟨C,h1,h2,h3⟩:=k.ex
 intro c O0 s σ H D I q
 obtain⟨F,ρ,ri,w⟩:=q
 rcases c.2.plain QD with ⟨hp,SW⟩|no
 ·exact xu h3 h2 hp hc (ha c) hg Pe he OT O0 s σ H D I (xX h1 SW ri w)
 ·exact(xY (X:=X) no w).elim
end
def Ea (i:Nat):a_->a_
 | .nx ρ=> .nx (ρ.set i none)
 | .brk ρ=> .brk (ρ.set i none)
 | .cnt ρ=> .cnt (ρ.set i none)
 | .ret d=> .ret d
 | .retc d ρ=> .retc d (ρ.set i none)
def rK (i:Nat) (sub:Gv->Bool) (gh:a9->R a_) (x:Gv) (ρ:a9):R a_:=if sub x=true then (match gh (ρ.set i (some (.val (.exc x))))with
 | .ok o=> .ok (Ea i o)
 |_=> .bad)else .bad
def vT (i:Nat) (sub:Gv->Bool) (g gh:a9->R a_):a9->R a_:=λρ=>match g ρ with
 | .err x ρ'=>rK i sub gh x ρ'
 |r=>r
section
variable {X:Cx} {O0:List (Gw×Hi)} {σ:St} {H:Hp} {s:Gx}
abbrev _root_.L2.Cx.inT (X:Cx) (E:Gu->Gx->Prop) (pn:List (Gw×Hi)):Cx:={X with xe:=E,pn:=pn}
theorem Gk {E:Gu->Gx->Prop} {pn:List (Gw×Hi)} (ok:X.Ok):(X.inT E pn).Ok:=
 ⟨ok.mod,ok.kind,ok.glob,ok.blt,ok.above,ok.inj,ok.has,ok.cab,ok.hd,ok.frames,ok.stk,ok.exf,ok.bs,ok.bsz,ok.noex,ok.exfs,ok.funs,ok.frf⟩
theorem inT {E:Gu->Gx->Prop} (I:aB X O0 σ H s):aB (X.inT E (X.pn++O0)) [] σ H s:=⟨Gk I.ok,I.os,I.bare,I.base,I.loc,I.cell,I.free,I.freeC,λp hp=>I.pin p (by simpa using hp),I.hok,I.len⟩
theorem xZ {E:Gu->Gx->Prop} {PJ:List (Gw×Hi)} (ok:X.Ok) (I:aB (X.inT E (X.pn++O0)) PJ σ H s):aB X O0 σ H s:=⟨ok,I.os,I.bare,I.base,I.loc,I.cell,I.free,I.freeC,λp hp=>I.pin p (HE _ hp),I.hok,I.len⟩
theorem newT {E:Gu->Gx->Prop} {PJ:List (Gw×Hi)} {b:Gw} (n:sZ (X.inT E (X.pn++O0)) PJ H b):sZ X O0 H b:=⟨n.s0,n.no,λp hp=>n.pin p (HE _ hp)⟩
theorem Gm {E:Gu->Gx->Prop} {PJ:List (Gw×Hi)} {h:GY} {a:Gw} {cls:Gu} (f:Fl (X.inT E (X.pn++O0)) PJ H h a cls):Fl X O0 H h a cls:=by
 obtain⟨oe,vs,h1,h2,h3,h4⟩:=f.at_
 refine⟨newT f.new,oe,vs,h1,h2,h3,h4.imp id λ⟨T,fl,e,t,hf⟩=>⟨T,fl,e,⟨newT t.new,t.ne,t.at_⟩,hf⟩⟩
theorem Gn {E:Gu->Gx->Prop} {D:kZ} {f:Flow} (ok:X.Ok) (h:SP (X.inT E (X.pn++O0)) [] D f s):SP X O0 D f s:=by
 cases f with
 |next=>obtain⟨σ',H',I,q⟩:=h;exact⟨σ',H',xZ ok I,q⟩
 |brk=>obtain⟨σ',H',I,q⟩:=h;exact⟨σ',H',xZ ok I,q⟩
 |cont=>obtain⟨σ',H',I,q⟩:=h;exact⟨σ',H',xZ ok I,q⟩
 |ret u=>obtain⟨v,σ',H',I,r,q⟩:=h;exact⟨v,σ',H',xZ ok I,r,q⟩
end
section
variable {K:Gs} {c:cO ly} {ρ:a9} {σ:St} {H F:Hp}
def cO.er (c:cO ly) (F:Hp) (Er:Gv->a9->Prop):cO ly:=⟨c.H0,c.F0,c.B,Er,c.oa,F⟩
theorem RI.er {Er:Gv->a9->Prop} (r:RI K c ρ σ H F):RI K (c.er F Er) ρ σ H F:=⟨r.ext,r.val,r.own,r.bor,r.bh,r.dis,r.len,r.obj,r.odis,aN.refl _,r.cel,r.pin⟩
theorem RI.unEr {F1:Hp} {Er:Gv->a9->Prop} (r:RI K (c.er F1 Er) ρ σ H F) (m:aN c.Fm F1):RI K c ρ σ H F:=⟨r.ext,r.val,r.own,r.bor,r.bh,r.dis,r.len,r.obj,r.odis,m.trans r.fm,r.cel,r.pin⟩
theorem fj.er {D:kZ} {o:a_} {F1:Hp} {Er:Gv->a9->Prop} (m:aN c.Fm F1) (h:fj K c F D o):fj K (c.er F1 Er) F D o:=by
 cases o with
 |nx ρ=>exact λσ' H' F' s r=>h σ' H' F' s (r.unEr m)
 |brk ρ=>exact λσ' H' F' s r=>h σ' H' F' s (r.unEr m)
 |cnt ρ=>exact λσ' H' F' s r=>h σ' H' F' s (r.unEr m)
 |ret d=>exact λv H' F' s e r=>h v H' F' s e r
 |retc d ρ=>exact λv σ' H' F' s e r=>h v σ' H' F' s (e.unEr m) r
end
section
variable {X:Cx} {body QA:List Hl} {b₀:Hl} {g gh:a9->R a_} {cx n:Gv} {np Qs pos:Hr} {sub:Gv->Bool}
structure rL (K:Gs) (mg:Gv->Option Gu) (cx:Gv) (sub:Gv->Bool):Prop where
 ex:∃C,mg cx=some (.ref C)/\∀x cls,sub x=true->dC K x cls->Jw K cls (.ref C)=some true
theorem Eb (i:Nat) (p:gQ X) (hN:X.N.Nodup) (U:rL X.K X.mg cx sub) (hb:∀E pn,ia ly (X.inT E pn) body g) (hh:∀v,ia ly (X.inH v) (b₀::QA) gh) (hi:X.N[i]? =some n:=by rfl) (hk:X.env.scope.names.lookup n=some .local:=by rfl) (hg:Gl X cx:=by rfl)
  (Pe:(cx==("__debug__":Gv))=false:=by decide) (P_:iQ ly i:=by(repeat (first|assumption|exact L2.Pu.dS|refine L2.Pu.d6 ⟨by first|decide|simp,by first|decide|simp⟩ ?_))):kd ly X (.Try body [.ExceptHandler (some (.Name cx np)) (some n) (b₀::QA) Qs] [] [] pos) (vT i sub g gh):=by
 obtain⟨Cc,hm,Vf⟩:=U.ex
 intro c O0 s σ H D I q
 obtain⟨F,ρ,ri,w⟩:=q
 refine wpAny_Try_except ?_
 have ok:=I.ok
 let V_:Gu->Gx->Prop:=λe s₁=>GI (GN X.prog X.w) X.A (MX e X.env) (λ_ s₂=>GI (GN X.prog X.w) X.A (setFlight e none) (λ_ s₃=>GI (GN X.prog X.w) X.A (handleBy e X.env [.ExceptHandler (some (.Name cx np)) (some n) (b₀::QA) Qs]) (SP X O0 D) X.xe s₃) X.xe s₂) X.xe s₁
 let c':cO ly:=c.1.er F λx ρ'=>aC c.1 (rK i sub gh x ρ') (fj X.K c.1 F D)
 have SW:C5 (X.inT V_ (X.pn++O0)) c':=by
  refine .inl ⟨⟨p.st,p.fr,p.ex⟩,λPJ σ' ρ' H' F' s' a cls x I' Pd fl ec er=> ?_⟩
  obtain⟨C,rfl,Rf⟩:=ec
  have Ti:RI X.K c.1 ρ' σ' H' F':=Pd.unEr ri.fm
  have sF:aN F F':=Pd.fm
  refine rg (xZ ok I') p (Gm fl) λh2 I2 f2=> ?_
  replace er:aC c.1 (rK i sub gh x ρ') (fj X.K c.1 F D):=er
  unfold rK at er
  split at er
  ·rename_i hs
   refine vI I2 p f2 hN hi hk hg hm (Vf x _ hs ⟨C,rfl,Rf⟩) Pe λs3 I3=> ?_
   have e2:=bf.lay (o:= .ext (gR a (.ref C))) Ti.sub f2.new.no
   have Ry:=(Ti.step e2).setVal i P_ (cH.exc au Rf)
   split at er
   ·rename_i o ho
    let D2:kZ:={nx:=λσ1 H1=>D.nx (σ1.set i none) H1,rt:=D.rt,bk:=λσ1 H1=>D.bk (σ1.set i none) H1,ct:=λσ1 H1=>D.ct (σ1.set i none) H1}
    have Vg:fj X.K (c.1.er F λ_ _=>False) (b9 F' a (.ext (gR a (.ref C)))) D2 o:=by
     have U6:=sF.trans e2.grow
     cases o with
     |nx ρ1=>exact λσ1 H1 F1 s1 r1=>er _ H1 F1 (U6.trans s1) ((r1.unEr ri.fm).setNone i P_)
     |brk ρ1=>exact λσ1 H1 F1 s1 r1=>er _ H1 F1 (U6.trans s1) ((r1.unEr ri.fm).setNone i P_)
     |cnt ρ1=>exact λσ1 H1 F1 s1 r1=>er _ H1 F1 (U6.trans s1) ((r1.unEr ri.fm).setNone i P_)
     |ret d=>exact λv H1 F1 s1 e1 r1=>er v H1 F1 (U6.trans s1) e1 r1
     |retc d ρ1=>exact λv σ1 H1 F1 s1 e1 r1=>er v _ H1 F1 (U6.trans s1) ((e1.unEr ri.fm).setNone i (v:=none) P_) r1
    have WV:RI X.K (c.1.er F λ_ _=>False) (ρ'.set i (some (.val (.exc x)))) (σ'.set i (some (.ref a))) (b9 H' a (.ext (gR a (.ref C)))) (b9 F' a (.ext (gR a (.ref C)))):=⟨Ry.ext,Ry.val,Ry.own,Ry.bor,Ry.bh,Ry.dis,Ry.len,Ry.obj,Ry.odis,sF.trans e2.grow,Ry.cel,Ry.pin⟩
    refine bW (hh (.ref a) ⟨c.1.er F λ_ _=>False, .no λ_ _ z=>z⟩ O0 s3 _ _ D2 I3 ⟨_,_,WV,by rw[ho];exact Vg⟩) λf s4 q4=> ?_
    have Rm:∀{σ1 H1},aB (X.inH (.ref a)) O0 σ1 H1 s4->(∀s5,aB X O0 (σ1.set i none) H1 s5->SP X O0 D f s5)->GI (GN X.prog X.w) X.A (do bindName X.env n HL;Kz X.env n Qs) (λ_ s5=>SP X O0 D f s5) X.xe s4:=λI4 kk=>vG (I4.outH ok) hN hi hk kk
    cases f with
    |next=>obtain⟨σ1,H1,I4,q5⟩:=q4;exact Rm I4 λs5 I5=>⟨_,H1,I5,q5⟩
    |brk=>obtain⟨σ1,H1,I4,q5⟩:=q4;exact Rm I4 λs5 I5=>⟨_,H1,I5,q5⟩
    |cont=>obtain⟨σ1,H1,I4,q5⟩:=q4;exact Rm I4 λs5 I5=>⟨_,H1,I5,q5⟩
    |ret u=>obtain⟨v,σ1,H1,I4,r,q5⟩:=q4;exact Rm I4 λs5 I5=>⟨v,_,H1,I5,r,q5⟩
   ·exact er.elim
  ·exact er.elim
 have wb:aC c' (g ρ) (fj X.K c' F D):=by
  unfold vT at w
  cases h:g ρ with
  |bad=>rw[h]at w;exact w
  |err x ρ'=>rw[h]at w;exact w
  |ok o=>rw[h]at w;exact fj.er ri.fm w
 refine bW (hb V_ (X.pn++O0) ⟨c',SW⟩ [] s σ H D (inT I) ⟨F,ρ,ri.er,wb⟩) λf s1 q1=> ?_
 have q2:=Gn ok q1
 cases f with
 |next=>exact Kt q2
 |brk=>exact q2
 |cont=>exact q2
 |ret u=>exact q2
end
section
variable {X:Cx} {a:GD} {fa:a9->R D} {x:Gv} {p p2 pos:Hr} {tb:Gv->Option Bool}
structure lZ (K:Gs) (v:Gu) (tb:Gv->Option Bool):Prop where
 ok:∀x b cls,tb x=some b->dC K x cls->HN K cls v=some b/\∃C,cls= .ref C/\qa K C
def nS (tb:Gv->Option Bool) (f:a9->R D):a9->R D:=λρ=>f ρ>>=λd=>match d with
 | .exc x=>R.of ((tb x).map .bl)
 |_=> .bad
def Ec (K:Gs):List V->Hp->VK->Prop:=λxs H Q=>∃a C v c b,xs=[.ref a,v]/\H a=some (.ext (gR a (.ref C)))/\qa K C/\((∃T,v= .ty T/\c= .type T)\/∃C2,v= .ref C2/\c= .ref C2)/\HN K (.ref C) c=some b/\Q (.bl b) H
theorem rM:c7 X (.builtin "isinstance") (Ec X.K):=by
 intro O0 s σ H xs us Q I rv h
 obtain⟨a,C,v,c,b,rfl,ea,k,hc,e,q⟩:=h
 obtain⟨u,w',rfl,ru,QS⟩:=um rv
 cases (show u=Hc a from ru)
 obtain⟨⟨o,g1,g2⟩,_⟩:=(show bp X.prog X.w H s.heap a (.ext (gR a (.ref C)))from I.hok a _ ea)
 have ew:w'=c:=by
  rcases hc with ⟨T,rfl,rfl⟩|⟨C2,rfl,rfl⟩
  ·exact QS
  ·exact QS
 subst ew
 exact HQ (xr k) I.kIn ⟨o,g1,g2⟩ e (λz=>nomatch z) λtk=>⟨.bl b,H,I.tok tk,rfl,q⟩
theorem cg.exc {K:Gs} {H F:Hp} {v:V} {x:Gv} (s:aN F H):cg K H F v (.exc x)->∃a C,v= .ref a/\H a=some (.ext (gR a (.ref C)))/\GJ K GG x=some (some (.ref C)):=λh=>by
 obtain⟨a,C,e,h,n⟩:=h.in rfl
 exact⟨a,C,e,s _ _ h,n⟩
theorem x_ {K:Gs} {c:cO ly} {tv:V} {cv:Gu} {σ:St} {H:Hp} {Q:VK} (T:lZ K cv tb) (hv:(∃T,tv= .ty T/\cv= .type T)\/∃C2,tv= .ref C2/\cv= .ref C2) (h:tQ K c (nS tb fa) σ H Q):
  tB' K c fa σ H λv H1=>Ec K [v,tv] H1 Q:=by
 obtain⟨F,ρ,ri,w⟩:=h
 refine⟨F,ρ,ri,(aC.bind.mp w).imp λd _ w1 v H1 F1 e1 r1=> ?_⟩
 cases d with
 |exc x=>
  obtain⟨d',hd,k⟩:=w1.of
  cases ht:tb x with
  |none=>rw[ht]at hd;cases hd
  |some b=>
   rw[ht]at hd
   cases hd
   obtain⟨a,C,rfl,h1,h2⟩:=r1.exc e1.sub
   obtain⟨g1,C',g2,g3⟩:=T.ok x b (.ref C) ht ⟨C,rfl,h2⟩
   cases g2
   exact⟨a,C,tv,cv,b,rfl,h1,g3,hv,g1,k _ H1 F1 e1 (.bl b)⟩
 |_=>exact w1.elim
theorem Ed {C2:Gw} (T:lZ X.K (.ref C2) tb) (hm:X.mg x=some (.ref C2)) (Sq:X.mg "isinstance"=none) (ha:PB ly X a fa) (SY:Gl X "isinstance":=by rfl) (hg:Gl X x:=by rfl) (Pe:(x==("__debug__":Gv))=false:=by decide)
  (he:Gy [a, .Name x p2] X.env=(false,GW a X.env)::Gy [.Name x p2] X.env:=by rfl) (RM:Gy [.Name x p2] X.env=(false,GW (.Name x p2) X.env)::Gy [] X.env:=by rfl) (OT:(Hb pos (Gy [.Name x p2] X.env)).any (·.1)=false:=by rfl):
  PQ ly X (.Call (.Name "isinstance" p) [a, .Name x p2] [] pos) (nS tb fa):=λc=>
 PE.weak (iM rM SY Sq nA (bt (ha c) (bt (uf hg hm (v:= .ref C2) rfl Pe) cY RM) he) (by decide) (by decide) he OT) λσ H Q h=>x_ T (.inr ⟨C2,rfl,rfl⟩) h
theorem Cy {Ty:String} (T:lZ X.K (.type Ty) tb) (hv:Ho x=some (.type Ty)) (hm:X.mg x=none) (Sq:X.mg "isinstance"=none) (ha:PB ly X a fa) (SY:Gl X "isinstance":=by rfl) (hg:Gl X x:=by rfl) (hn:x≠"__name__":=by decide) (Pe:(x==("__debug__":Gv))=false:=by decide)
  (he:Gy [a, .Name x p2] X.env=(false,GW a X.env)::Gy [.Name x p2] X.env:=by rfl) (RM:Gy [.Name x p2] X.env=(false,GW (.Name x p2) X.env)::Gy [] X.env:=by rfl) (OT:(Hb pos (Gy [.Name x p2] X.env)).any (·.1)=false:=by rfl):
  PQ ly X (.Call (.Name "isinstance" p) [a, .Name x p2] [] pos) (nS tb fa):=λc=>
 PE.weak (iM rM SY Sq nA (bt (ha c) (bt (ug (v:= .ty Ty) hg hm hv rfl hn Pe) cY RM) he) (by decide) (by decide) he OT) λσ H Q h=>x_ T (.inl ⟨Ty,rfl,rfl⟩) h
end
end L2.Pu
namespace L2.Pu
open PySem PySem.Spec PyProof.Rows
variable {ly:List df}
def oI:D->Option Int
 | .tup (.int k::_)=>some k
 |_=>none
def eK (d:D):Int:=(oI d).getD 0
def d8:List D->Option (List Int)
 |[]=>some []
 |d::r=>(oI d).bind λk=>(d8 r).map (k::·)
def tJ (d:D):List D->List D
 |[]=>[d]
 |e::r=>if eK d<=eK e then d::e::r else e::tJ d r
def jG:List D->List D
 |[]=>[]
 |d::r=>tJ d (jG r)
theorem lq (d:D):∀l:List D,(tJ d l).Perm (d::l)
 |[]=> .refl _
 |e::r=>by
  unfold tJ
  split
  ·exact .refl _
  ·exact((lq d r).cons e).trans (.swap d e r)
theorem nT:∀l:List D,(jG l).Perm l
 |[]=> .refl _
 |d::r=>(lq d _).trans ((nT r).cons d)
theorem l_ (d:D):∀{l:List D},l.Pairwise (λa b=>eK a<=eK b)->(tJ d l).Pairwise (λa b=>eK a<=eK b)
 |[],_=>by simp[tJ]
 |e::r,h=>by
  obtain⟨h1,h2⟩:=HR.mp h
  unfold tJ
  split
  ·rename_i hd
   refine HR.mpr ⟨λx hx=> ?_,h⟩
   rcases GK.mp hx with rfl|hx
   ·exact hd
   ·exact Int.le_trans hd (h1 x hx)
  ·rename_i hd
   refine HR.mpr ⟨λx hx=> ?_,l_ d h2⟩
   rcases GK.mp ((lq d r).mem_iff.mp hx)with rfl|hx
   ·omega
   ·exact h1 x hx
theorem kD:∀l:List D,(jG l).Pairwise (λa b=>eK a<=eK b)
 |[]=> .nil
 |d::r=>l_ d (kD r)
theorem m6:∀{l m:List D},l.Perm m->l.Pairwise (λa b=>eK a<eK b)->m.Pairwise (λa b=>eK a<eK b)->l=m
 |[],m,p,_,_=>(Nm p)
 |a::l,[],p,_,_=>absurd p.length_eq (by simp)
 |a::l,b::m,p,h1,h2=>by
  obtain⟨g1,g2⟩:=HR.mp h1
  obtain⟨k1,k2⟩:=HR.mp h2
  have e:a=b:=by
   have ha:a∈b::m:=p.mem_iff.mp GO
   have hb:b∈a::l:=p.mem_iff.mpr GO
   rcases GK.mp ha with z|ha
   ·exact z
   ·rcases GK.mp hb with z|hb
    ·exact z.symm
    ·have:=g1 b hb
     have:=k1 a ha
     omega
  subst e
  rw[m6 (p.cons_inv) g2 k2]
theorem vU {l:List D} (h:l.Pairwise (λa b=>eK a<=eK b)) (nd:(l.map eK).Nodup):l.Pairwise (λa b=>eK a<eK b):=by
 have:=IM.mp nd
 exact(h.and this).imp λ{x y} ⟨a,b⟩=>by omega
theorem rN {l m:List D} (p:l.Perm m) (h:m.Pairwise (λa b=>eK a<eK b)):jG l=m:=by
 have q:=(nT l).trans p
 refine m6 q (vU (kD l) ?_) h
 refine(q.map eK).nodup_iff.mpr (IM.mpr (h.imp λz=>Int.ne_of_lt z))
theorem m7:∀{ds:List D} {ks:List Int},d8 ds=some ks->ks=ds.map eK
 |[],ks,h=>by cases h;rfl
 |d::r,ks,h=>by
  replace h:((oI d).bind λk=>(d8 r).map (k::·))=some ks:=h
  cases e:oI d with
  |none=>rw[e]at h;cases h
  |some k=>
   rw[e]at h
   cases e2:d8 r with
   |none=>rw[e2]at h;cases h
   |some q=>
    rw[e2]at h
    cases h
    rw[GL,<-m7 e2]
    simp[eK,e]
theorem A6 {K:Gs} {H F:Hp} (s:aN F H):∀{ds:List D} {ks:List Int} {vs:List V},d8 ds=some ks->Reps K F vs ds->i6 H vs ks:=by
 intro ds
 induction ds with
 |nil=>intro ks vs h r;cases r.nilI;cases h;exact .nil
 |cons d r ih=>
  intro ks vs h rr
  replace h:((oI d).bind λk=>(d8 r).map (k::·))=some ks:=h
  obtain⟨v0,us,rfl,rv,t⟩:=rr.consI
  obtain⟨k,ds,rfl⟩:∃k ds,d= .tup (.int k::ds):=by
   cases d with
   |tup xs=>
    cases xs with
    |nil=>cases h
    |cons x xs=>
     cases x with
     |int k=>exact⟨k,xs,rfl⟩
     |_=>cases h
   |_=>cases h
  obtain⟨a0,xs,rfl,h1,r2⟩:=rv.tupI
  obtain⟨k1,Ya,rfl,rk,t1⟩:=r2.consI
  cases rk.intI
  ·cases e2:d8 r with
   |none=>rw[e2]at h;cases h
   |some q=>
    rw[e2]at h
    cases h
    exact .cons (s _ _ h1) (ih e2 t)
theorem pk {K:Gs} {F:Hp} {vs:List V} {ds:List D} (h:Reps K F vs ds):∀q:List Nat,(∀i∈q,i<ds.length)->Reps K F (q.map λi=>vs.getD i .non) (q.map λi=>ds.getD i .non)
 |[],_=> .nil
 |i::q,hq=>by
  have hi:=hq i GO
  obtain⟨v,h1,h2⟩:=h.get (i:=i) (d:=ds[i]) (Hm hi)
  refine .cons ?_ (pk h q λj hj=>hq j (GU _ hj))
  show cH K F (vs.getD i .non) (ds.getD i .non)
  rw[Iy,Iy,h1,Hm hi]
  exact h2
theorem rO {ds:List D} {q:List Nat} (p:nE (ds.map eK) q):(q.map λi=>ds.getD i .non)=jG ds:=by
 obtain⟨p1,p2⟩:=p
 rw[GA]at p1
 have hm:∀i∈q,i<ds.length:=λi hi=>HW.mp (p1.mem_iff.mp hi)
 have perm:(q.map λi=>ds.getD i .non).Perm ds:=by
  refine(p1.map λi=>ds.getD i .non).trans ?_
  have e:(Hy ds.length).map (λi=>ds.getD i .non)=ds:=by
   refine Nn (by simp) λi h1 h2=> ?_
   simp[h2]
  rw[e]
 symm
 refine rN perm.symm ?_
 rw[IM]at p2 ⊢
 refine p2.imp_of_mem λ{a b} ha hb z=> ?_
 have ea:(ds.map eK).getD a 0=eK (ds.getD a .non):=by simp[hm a ha]
 have eb:(ds.map eK).getD b 0=eK (ds.getD b .non):=by simp[hm b hb]
 rw[ea,eb]at z
 exact z
def kE:List D->Option D
 |[.lst ds]=>(d8 ds).bind λks=>if ks.Nodup/\ks.length<64 then some (.lst (jG ds))else none
 |[.tup ds]=>(d8 ds).bind λks=>if ks.Nodup/\ks.length<64 then some (.lst (jG ds))else none
 |_=>none
def kF:List V->Hp->VK->Prop:=λxs H Q=>∃p ys ks,xs=[.ref p]/\(H p=some (.lst ys)\/H p=some (.tup ys))/\i6 H ys ks/\ks.Nodup/\ks.length<64/\∀l q,H l=none->nE ks q->Q (.ref l) (b9 H l (.lst (q.map λi=>ys.getD i .non)))
theorem nU {K:Gs} {H F:Hp} {p:Gw} {ys:List V} {ds:List D} {d:D} {Q:VK} (s:aN F H) (hp:H p=some (.lst ys)\/H p=some (.tup ys)) (r:Reps K F ys ds) (h:((d8 ds).bind λks=>if ks.Nodup/\ks.length<64 then some (D.lst (jG ds))else none)=some d)
  (k:∀w H' F',bf H F H' F'->cH K F' w d->Q w H'):kF [.ref p] H Q:=by
 cases e:d8 ds with
 |none=>rw[e]at h;cases h
 |some ks=>
  rw[e]at h
  replace h:(if ks.Nodup/\ks.length<64 then some (D.lst (jG ds))else none)=some d:=h
  split at h
  ·rename_i hk
   cases h
   refine⟨p,ys,ks,rfl,hp,A6 s e r,hk.1,hk.2,λl q hl pl=> ?_⟩
   have ek:=m7 e
   subst ek
   have e2:=bf.lay (o:= .lst (q.map λi=>ys.getD i .non)) s hl
   refine k _ _ _ e2 (.lst au ?_)
   rw[<-rO pl]
   refine(pk r q λi hi=> ?_).mono e2.grow
   have:=HW.mp (pl.1.mem_iff.mp hi)
   simpa using this
  ·cases h
theorem rP {K:Gs}:jN K kF kE:=by
 intro vs ds d H F Q s rv h k
 match ds,h with
 |[.lst xs],h=>
  obtain⟨v,rfl,r⟩:=rv.one
  obtain⟨a,ws,rfl,h1,h2⟩:=r.lst s
  exact nU s (.inl h1) h2 h k
 |[.tup xs],h=>
  obtain⟨v,rfl,r⟩:=rv.one
  obtain⟨a,ws,rfl,h1,h2⟩:=r.tup s
  exact nU s (.inr h1) h2 h k
def eg (ds:List D):Option D:=match fP ds with
 |some d=>some d
 |none=>kE ds
theorem ie {X:Cx} (hc:X.calm=true):c7 X (.builtin "sorted") (λxs H Q=>kA X.K xs H Q\/kF xs H Q):=(qv hc).or q9
theorem i_ {K:Gs}:jN K (λxs H Q=>kA K xs H Q\/kF xs H Q) eg:=by
 intro vs ds d H F Q s rv h k
 unfold eg at h
 cases e:fP ds with
 |some d'=>rw[e]at h;cases h;exact .inl (rH vs ds d H F Q s rv e k)
 |none=>rw[e]at h;exact .inr (rP vs ds d H F Q s rv h k)
def tN (K:Gs) (c:cO ly) (f:a9->R D):TE:=λσ H Q=>∃F ρ,RI K c ρ σ H F/\aC c (f ρ) λd=>∀a o H' F',bf H F H' F'->H a=none->H' a=some o->F' a=none->gF K F' o d->Q (.ref a) H'
def PN (ly:List df) (X:Cx) (e:GD) (f:a9->R D):Prop:=∀c:gi ly X,PE X e (tN X.K c.1 f)
def y0 (K:Gs) (r:List V->Hp->VK->Prop) (g:List D->Option D):Prop:=∀vs ds d H F Q,aN F H->iR K H F vs ds->g ds=some d->(∀a o,H a=none->gF K F o d->Q (.ref a) (b9 H a o))->r vs H Q
section
variable {X:Cx} {a b e:GD} {es:List GD} {fa fb f:a9->R D} {fs:a9->R (List D)} {pos p:Hr} {x:Gv} {id T:String} {rc:List V->Hp->VK->Prop}
theorem uP {K:Gs} {H F H1 F1:Hp} {d:D} {Q:VK} (e1:bf H F H1 F1) (k:∀a o H' F',bf H F H' F'->H a=none->H' a=some o->F' a=none->gF K F' o d->Q (.ref a) H'):∀a o,H1 a=none->gF K F1 o d->Q (.ref a) (b9 H1 a o):=
 λa o ha r=>k a o (b9 H1 a o) F1 (e1.trans (bf.layOwn e1.sub ha)) (e1.keep.free ha) au (e1.sub.free ha) r
theorem EJ {g:List D->Option D} (hc:c7 X (.builtin id) rc) (QX:y0 X.K rc g) (hm:X.mg x=none) (hv:Ho x=some (.builtin id)) (ha:C6 ly X (e::es) fs) (hg:Gl X x:=by rfl) (hn:x≠"__name__":=by decide) (Pe:(x==("__debug__":Gv))=false:=by decide)
  (he:Gy (e::es) X.env=(false,GW e X.env)::Gy es X.env:=by rfl) (OT:(Hb pos (Gy es X.env)).any (·.1)=false:=by rfl):PN ly X (.Call (.Name x p) (e::es) [] pos) (bZ g fs):=λc=>
 PE.weak (iM hc hg hm hv (ha c) hn Pe he OT) λσ H Q ⟨F,ρ,ri,w⟩=>⟨F,ρ,ri,(aC.bind.mp w).imp λds hd w1 vs H1 F1 e1 r1=>by
  obtain⟨d,hd,k⟩:=w1.of
  exact QX vs ds d H1 F1 Q e1.sub r1 hd (uP e1 k)⟩
theorem rQ {g:List D->Option D} (hc:c7 X (.type T) rc) (QX:y0 X.K rc g) (hm:X.mg x=none) (hv:Ho x=some (.type T)) (ha:C6 ly X (e::es) fs) (hg:Gl X x:=by rfl) (hn:x≠"__name__":=by decide) (Pe:(x==("__debug__":Gv))=false:=by decide)
  (he:Gy (e::es) X.env=(false,GW e X.env)::Gy es X.env:=by rfl) (OT:(Hb pos (Gy es X.env)).any (·.1)=false:=by rfl):PN ly X (.Call (.Name x p) (e::es) [] pos) (bZ g fs):=λc=>
 PE.weak (jf hc hg hm hv (ha c) hn Pe he OT) λσ H Q ⟨F,ρ,ri,w⟩=>⟨F,ρ,ri,(aC.bind.mp w).imp λds hd w1 vs H1 F1 e1 r1=>by
  obtain⟨d,hd,k⟩:=w1.of
  exact QX vs ds d H1 F1 Q e1.sub r1 hd (uP e1 k)⟩
def y3 (i:Nat) (f:a9->R D):a9->R a_:=λρ=>f ρ>>=λd=> .ok (.nx (ρ.set i (some (.own d))))
theorem y6 (i:Nat) {x:Gv} {Oh:Hr} (hN:X.N.Nodup) (h:PN ly X e f) (hi:X.N[i]? =some x:=by rfl) (hx:wH X.env.scope x:=by first|exact Hv rfl|exact Hh rfl) (hs:HA e (some (.Name x Oh)) pos.line X.env=pure false:=by rfl)
  (hf:X.fn x=true\/X.env.scope.names.lookup x=some .local:=by first|exact .inl rfl|exact .inr rfl|assumption) (P_:iQ ly i:=by(repeat (first|assumption|exact L2.Pu.dS|refine L2.Pu.d6 ⟨by first|decide|simp,by first|decide|simp⟩ ?_))):kd ly X (.Assign [.Name x Oh] e pos) (y3 i f):=λc=>
 PS.weak (l6 hN hi hx (h c) hs hf) λD σ H ⟨F,ρ,ri,w⟩=>⟨F,ρ,ri,(aC.bind.mp w).imp λd _ w1 a o H1 F1 e1 n1 h1 f1 r1=>by
  refine w1 _ H1 F1 e1.grow ((ri.step e1).setOwn i P_ h1 f1 (ri.ext.keep.free n1) r1 (λj d' _ hj ej=> ?_) (ri.celNe e1.keep n1))
  obtain⟨b,o',k1,k2,_⟩:=ri.own j d' hj
  rw[ej]at k1
  cases k1
  rw[n1]at k2
  cases k2⟩
end
section
variable {K:Gs}
theorem pq:y0 K (λxs H Q=>∃p ys,xs=[.ref p]/\(c9 K H p ys\/fE K H p ys)/\∀l,H l=none->Q (.ref l) (b9 H l (.lst ys))) iX:=by
 intro vs ds d H F Q s rv h k
 match ds,h with
 |[.lst xs],h=>
  obtain⟨v,rfl,r⟩:=rv.one
  obtain⟨a,ws,rfl,h1,h2⟩:=r.lst s
  cases h
  exact⟨a,ws,rfl, .inl (c9.of h1),λl hl=>k _ _ hl (.lst h2)⟩
 |[.tup xs],h=>
  obtain⟨v,rfl,r⟩:=rv.one
  obtain⟨a,ws,rfl,h1,h2⟩:=r.tup s
  cases h
  exact⟨a,ws,rfl, .inr (fE.of h1),λl hl=>k _ _ hl (.lst h2)⟩
 |[.scr ns],h=>
  obtain⟨v,rfl,r⟩:=rv.one
  obtain⟨a,rfl,h1⟩:=r.scr s
  cases h
  exact⟨a,_,rfl, .inl h1,λl hl=>k _ _ hl (.lst (fG ns))⟩
end
end L2.Pu
namespace L2.Pu
open PySem PySem.Spec PyProof.Rows
variable {ly:List df}
structure f8 (K:Gs) (cls m qual:Gv) (st:Hl) (ps:List Gv):Prop where
 ex:∃C f fd,ux K m qual st f fd/\gu K cls C/\sH K C m f/\dO K fd ps []
structure lr (K:Gs) (mg:Gv->Option Gu) (cls qual:Gv) (st:Hl) (ps:List Gv) (fs:List Gv):Prop where
 ex:∃C f fd,ux K "__init__" qual st f fd/\gu K cls C/\mg cls=some (.ref C)/\Mk K C f/\dO K fd ps []/\∀x∈fs,cU K C x
structure cL (K:Gs) (cls:Gv) (fs:List Gv):Prop where
 ex:∃C,gu K cls C/\∀x∈fs,cU K C x
section
variable {P:GP} {w:G_} {K:Gs} {mg:Gv->Option Gu} {base:GY}
theorem gY {cls mm qual:Gv} {st:Hl} {N ps:List Gv} {k n m:Nat} {g:a9->R a_} (A:f8 K cls mm qual st ps) (S:aK N ps (ah st)) (hn:ps.length=n) (hm:N.length=m)
  (Oo:∀(f:Gw) (Oc:Gu) (A:Hd) (outer:List Iz) (s:Gx) (H:Hp) (E:XK),bY k (A.deeper (IE qual (ah st) s.heap.objs.size f Oc))->
   ia [] (gg (iO P w) P w K mg base N qual (ah st) f Oc A outer s H E) (b0 st) g):ck P w K mg base (k+1) cls mm n (bd n m g):=by
 obtain⟨C,f,fd,F,h1,h2,h3⟩:=A.ex
 exact⟨C,f,fd,ps,Cb F S hn hm λOc A outer s H E hr=>Oo f Oc A outer s H E hr,h1,h2,h3⟩
theorem pw {cls qual:Gv} {st:Hl} {N ps fs:List Gv} {k n m:Nat} {fl:List (Gv×Nat)} {g:a9->R a_} (A:lr K mg cls qual st ps fs) (S:aK N ps (ah st)) (hn:ps.length=n+1) (hm:N.length=m+1) (hg:∀p∈fl,n<p.2) (S6:n<=m)
  (Oo:∀(C f:Gw) (Oc:Gu) (A:Hd) (outer:List Iz) (s:Gx) (H:Hp) (E:XK),qX K C->(∀x∈fs,cU K C x)->bY k (A.deeper (IE qual (ah st) s.heap.objs.size f Oc))->
   ia [⟨0,C,fl⟩] (gg (iO P w) P w K mg base N qual (ah st) f Oc A outer s H E) (b0 st) g):fQ P w K mg base (k+1) cls n (jm n m fl g):=by
 obtain⟨C,f,fd,F,h1,h2,h3,h4,h5⟩:=A.ex
 exact⟨C,f,fd,ps,A5 F S h1.ns hn hm hg S6 λOc A outer s H E hr=>Oo C f Oc A outer s H E h1.cl h5 hr,h2,h3,h4⟩
theorem fR {C:Gw} {fl:List (Gv×Nat)} {f:Gv} {i:Nat} (h1:(f,i)∈fl) (h2:∀p∈fl,p.1=f<->p.2=i) (h3:0≠i) (h4:fl.length<1000):xV [⟨0,C,fl⟩] ⟨0,C,fl⟩ f i:=
 ⟨GO,h1,h2,h3,λM hM Py=>absurd (GS.mp hM) Py,h4⟩
theorem A7 {C:Gw} (e1:HV K C t4 "ValueError.__new__"=true) (e2:GQ K (.ref C) "__getattribute__"=some (some (.builtin "BaseException.__getattribute__"))) (e3:GQ K (.ref C) "__getattr__"=some none)
  (e4:GQ K (.ref C) "__class__"=some (some (.builtin "object.__class__"))) (e5:Hq K C (.type "object")=some true) (e6:Hq K C (.type "BaseException")=some true) (e7:Jv K (.ref C) (.ref C)=some true)
  (e8:Jo K (.builtin "object.__class__") "__get__"=some (some (.builtin "getset_descriptor.__get__"))) (e9:JJ K (.builtin "object.__class__")=some true):qa K C:=
 ⟨⟨_,_,_,_,e1,F.excBase_ValueError,by decide⟩,e2,e3,e4,e8,e9,e5,e6,e7⟩
theorem tK {D:Gw} {S4:List Gu} {T2:String} (e:HV K D S4 T2=true):((NR K D).isSome&&M5 K (.ref D)==some (.type "type"))=true:=by
 unfold HV at e
 split at e
 ·rename_i lk
  unfold NR M5
  simp only[lk]
  rfl
 ·cases e
theorem lv {C D:Gw} {b:Bool} {S4:List Gu} {T2:String} (e:HV K D S4 T2=true) (m:Hq K C (.ref D)=some b):Jv K (.ref C) (.ref D)=some b:=by
 unfold Jv
 dsimp only
 rw[if_pos (tK e)]
 exact m
theorem vV {C D:Gw} {b:Bool} {S4:List Gu} {T2:String} (e:HV K D S4 T2=true) (m:Hq K C (.ref D)=some b) (s:Hq K C (.ref C)=some true):HN K (.ref C) (.ref D)=some b:=by
 unfold HN
 split
 ·rename_i h
  have ez:Hc C=Hc D:=eq_of_beq h
  cases ez
  exact s.symm.trans m
 ·exact lv e m
theorem mD:NF "ValueError"=true:=by unfold NF;decide+kernel
theorem vW {C:Gw} {b:Bool} (m:Hq K C (.type "ValueError")=some b):HN K (.ref C) (.type "ValueError")=some b:=by
 unfold HN
 rw[if_neg (by intro h;exact absurd (eq_of_beq h) (λz=>by cases z))]
 unfold Jv
 dsimp only
 rw[if_pos mD]
 exact m
theorem vX {C D:Gw} {b:Bool} {S4:List Gu} {T2:String} (e:HV K D S4 T2=true) (m:Hq K C (.ref D)=some b) (mb:Hq K D (.type "BaseException")=some true):Jw K (.ref C) (.ref D)=some b:=by
 unfold Jw
 rw[if_pos (by show (Hq K D (.type "BaseException")==some true)=true;rw[mb];rfl)]
 exact lv e m
def vY (xs:List Gv) (x:Gv):Bool:=xs.contains x
theorem y7 {cx:Gv} {C:Gw} {xs:List Gv} (hm:mg cx=some (.ref C)) (h:∀x∈xs,∃Ce,GJ K GG x=some (some (.ref Ce))/\Jw K (.ref Ce) (.ref C)=some true):rL K mg cx (vY xs):=by
 refine⟨C,hm,λx cls hx ⟨C',e,hc⟩=> ?_⟩
 obtain⟨Ce,h1,h2⟩:=h x (by simpa[vY]using hx)
 rw[hc]at h1
 cases h1
 rw[e]
 exact h2
def y8 (l:List (Gv×Bool)) (x:Gv):Option Bool:=l.lookup x
theorem pz {α:Type} {x:Gv} {b:α}:∀{l:List (Gv×α)},l.lookup x=some b->(x,b)∈l
 |(k,v)::r,h=>by
  rw[HS]at h
  cases e:x==k with
  |true=>rw[e]at h;cases h;cases eq_of_beq e;exact GO
  |false=>rw[e]at h;exact GU _ (pz h)
theorem rR {v:Gu} {l:List (Gv×Bool)} (h:∀p∈l,∃Ce,GJ K GG p.1=some (some (.ref Ce))/\HN K (.ref Ce) v=some p.2/\qa K Ce):lZ K v (y8 l):=by
 refine⟨λx b cls hb ⟨C',e,hc⟩=> ?_⟩
 obtain⟨Ce,h1,h2,h3⟩:=h _ (pz hb)
 rw[hc]at h1
 cases h1
 subst e
 exact⟨h2,C',rfl,h3⟩
structure kG (K:Gs) (mg:Gv->Option Gu) (x:Gv) (tb:Gv->Option Bool):Prop where
 ex:∃C,mg x=some (.ref C)/\lZ K (.ref C) tb
end
section
variable {X:Cx} {a e o:GD} {es:List GD} {fa f fo:a9->R D} {fs:a9->R (List D)} {cls fld x m:Gv} {p p2 pos Oa:Hr} {xs:List Gv} {tb:Gv->Option Bool}
theorem br (T:cL X.K cls xs) (hf:fld∈xs) (ha:PB ly X a fa) (hb:Hx a fld X.env (GW a X.env)=GW a X.env:=by rfl):PQ ly X (.Attribute a fld pos) (c_ cls fld fa):=by
 obtain⟨C,h1,h2⟩:=T.ex
 exact E8 h1 (h2 fld hf) ha hb
theorem lw (T:kG X.K X.mg x tb) (Sq:X.mg "isinstance"=none) (ha:PB ly X a fa) (SY:Gl X "isinstance":=by rfl) (hg:Gl X x:=by rfl) (Pe:(x==("__debug__":Gv))=false:=by decide)
  (he:Gy [a, .Name x p2] X.env=(false,GW a X.env)::Gy [.Name x p2] X.env:=by rfl) (RM:Gy [.Name x p2] X.env=(false,GW (.Name x p2) X.env)::Gy [] X.env:=by rfl) (OT:(Hb pos (Gy [.Name x p2] X.env)).any (·.1)=false:=by rfl):
  PQ ly X (.Call (.Name "isinstance" p) [a, .Name x p2] [] pos) (nS tb fa):=by
 obtain⟨C,h1,h2⟩:=T.ex
 exact Ed h2 h1 Sq ha SY hg Pe he RM OT
def gw (f:a9->R D):a9->R a_:=λρ=>f ρ>>=λ_=> .ok (.nx ρ)
theorem lz (h:PQ ly X e f) (Qr:HA e none pos.line X.env=pure false:=by rfl):kd ly X (.Expr e pos) (gw f):=λc=>
 PS.weak (gl (h c) Qr) λD σ H ⟨F,ρ,ri,w⟩=>⟨F,ρ,ri,(aC.bind.mp w).imp λd _ w1 v H1 F1 e1 r1=>w1 σ H1 F1 e1.grow (ri.step e1)⟩
end
theorem Cz {P:GP} {w:G_} {outer:List Iz} {H:Hp} {s s':Gx} {e:Gu} (h:iO P w outer H s (λ_ _ _=>False) e s'):False:=by
 obtain⟨_,_,_,_,_,_,_,_,_,z⟩:=h
 exact z
theorem mE:Ho "ValueError"=some (.type "ValueError"):=by decide+kernel
end L2.Pu
namespace L2.Pu
open PySem PySem.Spec PyProof.Rows
variable {ly:List df}
theorem RI.up {K:Gs} {c:cO ly} {ρ:a9} {σ:St} {H F H':Hp} (r:RI K c ρ σ H F) (e:aN H H'):RI K c ρ σ H' F:=r.step ⟨r.sub.trans e,e,aN.refl _,λ_ h=> .inl h⟩
def y9:D->Bool
 | .non=>true
 | .bl _=>true
 | .int _=>true
 | .str _=>true
 |_=>false
theorem ya {K:Gs} {F F':Hp} {v:V} {d:D} (h:y9 d=true) (r:cH K F v d):cH K F' v d:=by
 cases r with
 |non=>exact .non
 |bl b=>exact .bl b
 |int i=>exact .int i
 |str x=>exact .str x
 |_=>cases h
section
variable {X:Cx} {e:GD} {es:List GD} {f:a9->R D} {g:a9->R Bool} {pos:Hr}
def uQ (L:List Nat) (f:a9->R D):a9->R D:=λρ=>f (frz L ρ)>>=λd=>if y9 d=true then .ok d else .bad
theorem rS {H F H':Hp} (s:aN F H) (e:aN H H'):bf H F H' F:=⟨s.trans e,e,aN.refl _,λ_ h=> .inl h⟩
theorem CA (L:List Nat) (h:PQ ly X e f):PQ ly X e (uQ L f):=λc=>PE.weak (h c) λσ H Q ⟨F,ρ,ri,w⟩=>by
 obtain⟨F',s,Pd⟩:=ri.frz L
 refine⟨F',_,Pd,(aC.bind.mp w).imp λd _ w1 v H1 F1 e1 r1=> ?_⟩
 split at w1
 ·rename_i hd
  exact w1 v H1 F (rS ri.sub e1.keep) (ya hd r1)
 ·exact w1.elim
end
section
variable {X:Cx} {e:GD} {f:a9->R D} {pos:Hr}
end
end L2.Pu
namespace L2
open PySem PySem.Spec PyProof.Rows
section
variable {X:Cx} {tg:GD}
end
end L2
namespace L2.Pu
open PySem PySem.Spec PyProof.Rows
variable {ly:List df}
section
variable {X:Cx} {a b d:GD} {fs:a9->R (List D)} {pos:Hr}
end
end L2.Pu
namespace L2
open PySem PySem.Spec PyProof.Rows
end L2
namespace L2.Pu
open PySem PySem.Spec PyProof.Rows
variable {ly:List df}
end L2.Pu
namespace L2.Pu
section
variable {α:Type} {P:List α->Prop}
theorem Go (h:P []):∀us:List α,us.length=0->P us:=λus e=>by
 rw[LF.mp e];exact h
theorem Ee {n:Nat} (h:∀a us,us.length=n->P (a::us)):∀us:List α,us.length=n+1->P us:=λus e=>by
 cases us with
 |nil=>cases e
 |cons a us=>exact h a us (Nat.succ.inj e)
theorem FX (h:∀a,P [a]):∀us:List α,us.length=1->P us:=Ee λa=>Go (P:=λus=>P (a::us)) (h a)
theorem FY (h:∀a b,P [a,b]):∀us:List α,us.length=2->P us:=Ee λa=>FX (P:=λus=>P (a::us)) (h a)
theorem FZ (h:∀a b c,P [a,b,c]):∀us:List α,us.length=3->P us:=Ee λa=>FY (P:=λus=>P (a::us)) (h a)
theorem F_ (h:∀a b c d,P [a,b,c,d]):∀us:List α,us.length=4->P us:=Ee λa=>FZ (P:=λus=>P (a::us)) (h a)
theorem Gp (h:∀a b c d e,P [a,b,c,d,e]):∀us:List α,us.length=5->P us:=Ee λa=>F_ (P:=λus=>P (a::us)) (h a)
end
end L2.Pu
namespace L2
open PySem PySem.Spec PyProof.Rows
end L2
namespace L2.Pu
open PySem PySem.Spec PyProof.Rows
variable {ly:List df}
end L2.Pu
namespace L2.Pu
open PySem PySem.Spec PyProof.Rows
variable {ly:List df}
def Slot.kind:Slot->Nat
 | .own _=>1
 | .cel .. =>2
 |_=>0
def eh (ρ:a9):List Nat->Option (List Slot)
 |[]=>some []
 |i::r=>match ρ[i]? with
  |some (some s)=>(eh ρ r).map λt=>s::t
  |_=>none
def rT (ρ:a9):List Nat->List Slot->a9
 |i::is,s::ss=>rT (ρ.set i (some s)) is ss
 |_,_=>ρ
theorem rV:∀(is:List Nat) (ss:List Slot) (ρ:a9),(rT ρ is ss).length=ρ.length
 |[],ss,ρ=>by cases ss<;>rfl
 |i::is,[],ρ=>rfl
 |i::is,s::ss,ρ=>by
  show (rT (ρ.set i (some s)) is ss).length=_
  rw[rV is ss];simp
theorem rW:∀{is:List Nat} {ss:List Slot} {ρ:a9} {j:Nat} {s:Slot},is.Nodup->ss.length=is.length->(rT ρ is ss)[j]? =some (some s)->(∃k:Nat,is[k]? =some j/\ss[k]? =some s)\/(j∉is/\ρ[j]? =some (some s))
 |[],ss,ρ,j,s,_,_,h=>by
  refine .inr ⟨by simp,?_⟩
  cases ss<;>exact h
 |i::is,[],ρ,j,s,_,hl,h=>by simp at hl
 |i::is,t::ss,ρ,j,s,nd,hl,h=>by
  obtain⟨n1,n2⟩:=I_.mp nd
  rcases rW (ρ:=ρ.set i (some t)) n2 (by simpa using hl) h with ⟨k,h1,h2⟩|⟨h1,h2⟩
  ·exact .inl ⟨k+1,h1,h2⟩
  ·rcases aq h2 with ⟨rfl,z,_⟩|⟨z,h2⟩
   ·cases z;exact .inl ⟨0,rfl,rfl⟩
   ·exact .inr ⟨λm=>(GK.mp m).elim (λq=>z q.symm) h1,h2⟩
inductive At (ρ:a9) (σ:St):List Nat->List Slot->List Gw->Prop
 |nil:At ρ σ [] [] []
 |cons {i:Nat} {s:Slot} {a:Gw} {is:List Nat} {ss:List Slot} {as:List Gw}:ρ[i]? =some (some s)->s.kind≠0->σ[i]? =some (some (.ref a))->At ρ σ is ss as->At ρ σ (i::is) (s::ss) (a::as)
theorem At.idx {ρ:a9} {σ:St} {is:List Nat} {ss:List Slot} {as:List Gw} (h:At ρ σ is ss as):∀{k i:Nat},is[k]? =some i->∃s a,ss[k]? =some s/\as[k]? =some a/\ρ[i]? =some (some s)/\s.kind≠0/\σ[i]? =some (some (.ref a)):=by
 induction h with
 |nil=>intro k i e;simp at e
 |cons h1 h2 h3 _ ih=>
  intro k i e
  cases k with
  |zero=>cases e;exact⟨_,_,rfl,rfl,h1,h2,h3⟩
  |succ k=>exact ih e
theorem At.lens {ρ:a9} {σ:St} {is:List Nat} {ss:List Slot} {as:List Gw} (h:At ρ σ is ss as):ss.length=is.length/\as.length=is.length:=by
 induction h with
 |nil=>exact⟨rfl,rfl⟩
 |cons _ _ _ _ ih=>exact⟨by simp[ih.1],by simp[ih.2]⟩
theorem At.get {ρ:a9} {σ:St} {is:List Nat} {ss:List Slot} {as:List Gw} (h:At ρ σ is ss as) {k:Nat} {s:Slot} (e:ss[k]? =some s):∃i a,is[k]? =some i/\as[k]? =some a/\ρ[i]? =some (some s)/\s.kind≠0/\σ[i]? =some (some (.ref a)):=by
 have hk:k<is.length:=by rw[<-h.lens.1];exact(GV.mp e).1
 obtain⟨s',a,h1,h2,h3⟩:=h.idx (k:=k) (i:=is[k]) (by simp[hk])
 rw[e]at h1
 cases h1
 exact⟨is[k],a,by simp[hk],h2,h3⟩
def dN (H:Hp) (ρ:a9) (σ:St) (i:Nat) (z:Gw):Prop:=
 (∃d,ρ[i]? =some (some (.own d))/\σ[i]? =some (some (.ref z)))\/∃x O8 f hs a C dx fs,ρ[i]? =some (some (.cel x O8 f hs))/\σ[i]? =some (some (.ref a))/\H a=some (.ins C dx fs)/\(z=a\/z=dx\/fs.lookup f=some (.ref z))
open Classical in
noncomputable def ig (H:Hp) (ρ:a9) (σ:St) (is:List Nat):Hp:=λz=>if ∃i∈is,dN H ρ σ i z then none else H z
theorem j0 {H:Hp} {ρ:a9} {σ:St} {is:List Nat} {z:Gw} {i:Nat} (hi:i∈is) (h:dN H ρ σ i z):ig H ρ σ is z=none:=if_pos ⟨i,hi,h⟩
theorem A8 {H:Hp} {ρ:a9} {σ:St} {is:List Nat} {z:Gw} (h:∀i∈is,¬dN H ρ σ i z):ig H ρ σ is z=H z:=if_neg λ⟨i,hi,o⟩=>h i hi o
theorem pA {H:Hp} {ρ:a9} {σ:St} {is:List Nat} {z:Gw} {u:HO} (h:ig H ρ σ is z=some u):H z=some u:=by
 unfold ig at h
 split at h
 ·cases h
 ·exact h
section
variable {K:Gs} {c:cO ly} {ρ:a9} {σ:St} {H F:Hp} {i j:Nat} {z:Gw}
theorem RI.celIn (r:RI K c ρ σ H F) {x:Gv} {O8:List (Gv×D)} {f:Gv} {hs:List D} {a:Gw} {C dx:Gw} {fs:List (Gv×V)} (h1:ρ[i]? =some (some (.cel x O8 f hs))) (h2:σ[i]? =some (some (.ref a))) (h3:H a=some (.ins C dx fs)):
  ∃b,iP K c.H0 H F a dx b x O8 f hs/\fs.lookup f=some (.ref b)/\∀(j:Nat) d,ρ[j]? =some (some (.own d))->σ[j]? ≠some (some (.ref b)):=by
 obtain⟨a',Sv,b,k1,k2,k3⟩:=r.cel.ex i x O8 f hs h1
 rw[h2]at k1
 cases k1
 obtain⟨C',QR,vs,us,g1,g2,g3,g4⟩:=k2.ex
 rw[h3]at g1
 cases g1
 exact⟨b,k2,g3,k3⟩
theorem RI.owns (r:RI K c ρ σ H F) (o:dN H ρ σ i z):c.H0 z=none/\F z=none/\∃u,H z=some u:=by
 rcases o with ⟨d,h1,h2⟩|⟨x,O8,f,hs,a,C,dx,fs,h1,h2,h3,h4⟩
 ·obtain⟨p,u,k1,k2,k3,k4,_⟩:=r.own i d h1
  rw[h2]at k1
  cases k1
  exact⟨k4,k3,u,k2⟩
 ·obtain⟨b,k1,k2,_⟩:=r.celIn h1 h2 h3
  rcases h4 with rfl|rfl|h4
  ·exact⟨k1.za,k1.fa,_,h3⟩
  ·exact⟨k1.zd,k1.fd,_,k1.own⟩
  ·rw[k2]at h4
   cases h4
   obtain⟨C',QR,vs,us,g1,g2,g3,g4,_⟩:=k1.ex
   exact⟨k1.zb,k1.fb,_,g4⟩
theorem RI.owns_inj (r:RI K c ρ σ H F) (o:dN H ρ σ i z) (o':dN H ρ σ j z):i=j:=by
 have oc:∀{i j:Nat},(∃d,ρ[i]? =some (some (.own d))/\σ[i]? =some (some (.ref z)))->(∃x O8 f hs a C dx fs,ρ[j]? =some (some (.cel x O8 f hs))/\σ[j]? =some (some (.ref a))/\H a=some (.ins C dx fs)/\(z=a\/z=dx\/fs.lookup f=some (.ref z)))->False:=by
  rintro i j ⟨d,h1,h2⟩ ⟨x,O8,f,hs,a,C,dx,fs,k1,k2,k3,k4⟩
  obtain⟨p,u,g1,g2,g3,g4,g5⟩:=r.own i d h1
  rw[h2]at g1
  cases g1
  obtain⟨b,m1,m2,m3⟩:=r.celIn k1 k2 k3
  rcases k4 with rfl|rfl|k4
  ·rw[k3]at g2;cases g2;cases g5
  ·rw[m1.own]at g2;cases g2;cases g5
  ·rw[m2]at k4;cases k4;exact m3 i d h1 h2
 rcases o with h|h
 ·rcases o' with k|k
  ·obtain⟨d,h1,h2⟩:=h
   obtain⟨d',k1,k2⟩:=k
   exact r.dis i j d d' z h1 k1 h2 k2
  ·exact(oc h k).elim
 ·rcases o' with k|k
  ·exact(oc k h).elim
  ·obtain⟨x,O8,f,hs,a,C,dx,fs,h1,_⟩:=h
   obtain⟨x',Rz,f',OB,a',C',Sv,QR,k1,_⟩:=k
   exact r.cel.one i j x O8 f hs _ h1 k1 rfl
end
abbrev MC (Hz F:Hp):cO []:=⟨Hz,F,λ_=>none,λ_ _=>False,λ_=>none,λ_=>none⟩
def A9 (K:Gs) (Hz F:Hp) (ss:List Slot) (as:List Gw) (H' F':Hp):Prop:=RI K (MC Hz F) (ss.map some) (as.map λa=>some (.ref a)) H' F'
theorem map_some {α β:Type} {l:List α} {g:α->β} {k:Nat} {b:β} (h:(l.map g)[k]? =some b):∃a,l[k]? =some a/\g a=b:=by
 rw[Hg]at h
 cases e:l[k]? with
 |none=>rw[e]at h;cases h
 |some a=>rw[e]at h;exact⟨a,rfl,by simpa using h⟩
theorem jn {α β:Type} {l:List α} {g:α->β} {k:Nat} {a:α} (h:l[k]? =some a):(l.map g)[k]? =some (g a):=by rw[Hg,h];rfl
theorem yb {is:List Nat} (nd:is.Nodup) {k k' i:Nat} (h:is[k]? =some i) (h':is[k']? =some i):k=k':=by
 obtain⟨l,e⟩:=GV.mp h
 obtain⟨l',e'⟩:=GV.mp h'
 exact(Lm nd).mp (e.trans e'.symm)
section
variable {K:Gs} {c:cO ly} {ρ:a9} {σ:St} {H F H' F':Hp} {is:List Nat} {ss ss':List Slot} {as:List Gw}
theorem RI.split (r:RI K c ρ σ H F) (A:At ρ σ is ss as) (nd:is.Nodup):A9 K (ig H ρ σ is) F ss as H F:=by
 have got:∀{k:Nat} {s:Slot},(ss.map some)[k]? =some (some s)->∃i a,is[k]? =some i/\as[k]? =some a/\ρ[i]? =some (some s)/\s.kind≠0/\σ[i]? =some (some (.ref a)):=λ{k s} h=>by
  obtain⟨s',h1,h2⟩:=map_some h
  cases h2
  exact A.get h1
 have QF:∀{k:Nat} {a:Gw},as[k]? =some a->(as.map λa=>some (V.ref a))[k]? =some (some (.ref a)):=λh=>jn h
 have Vh:∀{k:Nat} {a a':Gw},as[k]? =some a->(as.map λa=>some (V.ref a))[k]? =some (some (.ref a'))->a=a':=λ{k a a'} h h'=>by
  rw[QF h]at h';cases h';rfl
 refine⟨⟨r.sub,λz u e=>pA e,aN.refl _,λ_ h=> .inl h⟩,λk d h=> ?_,λk d h=> ?_,λk d h=> ?_,(λ_ _ e=>by cases e),λk k' d d' a h h' e e'=> ?_,?_,(λL h=>by cases h),(λL h=>by cases h),(λ_ _ e=>by cases e),⟨λk x O8 f hs h=> ?_,λk k' x O8 f hs s h h' OB=> ?_⟩,(λL h=>by cases h)⟩
 ·obtain⟨i,a,_,_,_,z,_⟩:=got h;exact absurd rfl z
 ·obtain⟨i,a,h1,h2,h3,h4,h5⟩:=got h
  obtain⟨p,u,k1,k2,k3,k4,k5⟩:=r.own i d h3
  rw[h5]at k1
  cases k1
  exact⟨a,u,QF h2,k2,k3,j0 (Im h1) (.inl ⟨d,h3,h5⟩),k5⟩
 ·obtain⟨i,a,_,_,_,z,_⟩:=got h;exact absurd rfl z
 ·obtain⟨i1,a1,h1,h2,h3,h4,h5⟩:=got h
  obtain⟨i2,a2,g1,g2,g3,g4,g5⟩:=got h'
  cases Vh h2 e
  cases Vh g2 e'
  cases r.dis i1 i2 d d' _ h3 g3 h5 g5
  exact yb nd h1 g1
 ·simp only[GA];rw[A.lens.1,A.lens.2]
 ·obtain⟨i,a,h1,h2,h3,h4,h5⟩:=got h
  obtain⟨a',dx,b,k1,k2,k3⟩:=r.cel.ex i x O8 f hs h3
  rw[h5]at k1
  cases k1
  have U7:=k2
  obtain⟨C,fs,vs,us,g1,g2,g3,g4⟩:=k2.ex
  have o:∀z,(z=a\/z=dx\/fs.lookup f=some (.ref z))->ig H ρ σ is z=none:=λz hz=>j0 (Im h1) (.inr ⟨x,O8,f,hs,a,C,dx,fs,h3,h5,g1,hz⟩)
  refine⟨a,dx,b,QF h2,⟨k2.ex,k2.own,k2.fa,k2.fd,k2.fb,o a (.inl rfl),o dx (.inr (.inl rfl)),o b (.inr (.inr g3))⟩,λk' d h' e=> ?_⟩
  obtain⟨i2,a2,m1,m2,m3,m4,m5⟩:=got h'
  cases Vh m2 e
  exact k3 i2 d m3 m5
 ·obtain⟨i1,a1,h1,h2,h3,h4,h5⟩:=got h
  obtain⟨i2,a2,g1,g2,g3,g4,g5⟩:=got h'
  cases r.cel.one i1 i2 x O8 f hs s h3 g3 OB
  exact yb nd h1 g1
theorem yc {s:Slot} (h:s.kind=2):∃x O8 f hs,s= .cel x O8 f hs:=by cases s<;>first|exact⟨_,_,_,_,rfl⟩|cases h
theorem RI.join (r:RI K c ρ σ H F) (A:At ρ σ is ss as) (nd:is.Nodup) (m:A9 K (ig H ρ σ is) F ss' as H' F') (hk:ss'.map Slot.kind=ss.map Slot.kind):RI K c (rT ρ is ss') σ H' F':=by
 have hl:ss'.length=is.length:=by rw[<-A.lens.1,<-GA (f:=Slot.kind),hk,GA]
 have Px:∀{k:Nat} {s:Slot},ss'[k]? =some s->∃s0 i a,is[k]? =some i/\as[k]? =some a/\ρ[i]? =some (some s0)/\s0.kind=s.kind/\s.kind≠0/\σ[i]? =some (some (.ref a)):=λ{k s} h=>by
  have h1:(ss.map Slot.kind)[k]? =some s.kind:=by rw[<-hk];exact jn h
  obtain⟨s0,g1,g2⟩:=map_some h1
  obtain⟨i,a,k1,k2,k3,k4,k5⟩:=A.get g1
  exact⟨s0,i,a,k1,k2,k3,g2,by rw[<-g2];exact k4,k5⟩
 have ms:∀{k:Nat} {s:Slot},ss'[k]? =some s->(ss'.map some)[k]? =some (some s):=λh=>jn h
 have QF:∀{k:Nat} {a:Gw},as[k]? =some a->(as.map λa=>some (V.ref a))[k]? =some (some (.ref a)):=λh=>jn h
 have hz:∀{z:Gw},ig H ρ σ is z=none->c.H0 z=none:=λ{z} e=>by
  unfold ig at e
  split at e
  ·rename_i h
   obtain⟨i,hi,o⟩:=h
   exact(r.owns o).1
  ·exact r.ext.keep.free e
 have kz:∀{z:Gw} {u:HO},H z=some u->(∀i∈is,¬dN H ρ σ i z)->ig H ρ σ is z=some u:=λh n=>by rw[A8 n];exact h
 have me:=m.ext
 have Qg:∀{z:Gw} {u:HO},H z=some u->(∀i∈is,¬dN H ρ σ i z)->H' z=some u:=λh n=>me.keep _ _ (kz h n)
 have RA:∀{z:Gw} {u:HO},H z=some u->(∀i∈is,¬dN H ρ σ i z)->F z=none->F' z=none:=λh n f=>me.out (kz h n) f
 have RW:∀{j:Nat} {z:Gw},j∉is->dN H ρ σ j z->∀i∈is,¬dN H ρ σ i z:=λ{j z} hj o i hi o'=>hj (by rw[r.owns_inj o o'];exact hi)
 have PK:∀{j:Nat} {s:Slot},(rT ρ is ss')[j]? =some (some s)->(∃k:Nat,is[k]? =some j/\ss'[k]? =some s)\/(j∉is/\ρ[j]? =some (some s)):=λh=>rW nd hl h
 have RB:∀{k j:Nat} {d:D},is[k]? =some j->ss'[k]? =some (.own d)->∃a o,σ[j]? =some (some (.ref a))/\as[k]? =some a/\H' a=some o/\F' a=none/\ig H ρ σ is a=none/\gF K F' o d:=λ{k j d} h1 h2=>by
  obtain⟨s0,i,a,k1,k2,k3,k4,k5,k6⟩:=Px h2
  rw[h1]at k1
  cases k1
  obtain⟨p,u,g1,g2,g3,g4,g5⟩:=m.own k d (ms h2)
  rw[QF k2]at g1
  cases g1
  exact⟨a,u,k6,k2,g2,g3,g4,g5⟩
 have T3:∀{j:Nat} {d:D} {p:Gw} {u:HO},j∉is->ρ[j]? =some (some (.own d))->σ[j]? =some (some (.ref p))->H p=some u->ig H ρ σ is p=some u:=λhj h1 h2 h3=>kz h3 (RW hj (.inl ⟨_,h1,h2⟩))
 refine⟨⟨me.sub,λz u e=>Qg (r.ext.keep z u e) λi hi o=>(by rw[(r.owns o).1]at e;cases e),r.ext.grow.trans me.grow,λz e=>(me.new z e).elim (λq=>r.ext.new z q) λq=> .inr (hz q)⟩,λj d h=> ?_,λj d h=> ?_,λj d h=> ?_,r.bh,λj j' d d' p h h' e e'=> ?_,?_,λL hL h=> ?_,λL hL L' QB h h'=> ?_,r.fm.trans me.grow,⟨λj x O8 f hs h=> ?_,λj j' x O8 f hs s h h' OB=> ?_⟩,r.pin⟩
 ·rcases PK h with ⟨k,h1,h2⟩|⟨_,h2⟩
  ·obtain⟨_,_,_,_,_,_,_,z,_⟩:=Px h2;exact absurd rfl z
  ·obtain⟨v,k1,k2⟩:=r.val j d h2;exact⟨v,k1,k2.mono me.grow⟩
 ·rcases PK h with ⟨k,h1,h2⟩|⟨hj,h2⟩
  ·obtain⟨a,o,k1,k2,k3,k4,k5,k6⟩:=RB h1 h2
   exact⟨a,o,k1,k3,k4,hz k5,k6⟩
  ·obtain⟨p,u,k1,k2,k3,k4,k5⟩:=r.own j d h2
   have n:=RW hj (.inl ⟨d,h2,k1⟩)
   exact⟨p,u,k1,Qg k2 n,RA k2 n k3,k4,k5.mono me.grow⟩
 ·rcases PK h with ⟨k,h1,h2⟩|⟨_,h2⟩
  ·obtain⟨_,_,_,_,_,_,_,z,_⟩:=Px h2;exact absurd rfl z
  ·exact r.bor j d h2
 ·rcases PK h with ⟨k,h1,h2⟩|⟨hj,h2⟩
  ·obtain⟨a,o,k1,k2,k3,k4,k5,k6⟩:=RB h1 h2
   rw[k1]at e
   cases e
   rcases PK h' with ⟨k',QG,PL⟩|⟨Ri,PL⟩
   ·obtain⟨a',o',Vi,U7,WW,WX,Vj,WY⟩:=RB QG PL
    rw[Vi]at e'
    cases e'
    have:=m.dis k k' d d' p (ms h2) (ms PL) (QF k2) (QF U7)
    subst this
    rw[h1]at QG
    exact HG QG
   ·obtain⟨p',u,g1,g2,g3,g4,g5⟩:=r.own j' d' PL
    rw[e']at g1
    cases g1
    rw[T3 Ri PL e' g2]at k5
    cases k5
  ·rcases PK h' with ⟨k',QG,PL⟩|⟨Ri,PL⟩
   ·obtain⟨a',o',Vi,U7,WW,WX,Vj,WY⟩:=RB QG PL
    rw[Vi]at e'
    cases e'
    obtain⟨p',u,g1,g2,g3,g4,g5⟩:=r.own j d h2
    rw[e]at g1
    cases g1
    rw[T3 hj h2 e g2]at Vj
    cases Vj
   ·exact r.dis j j' d d' p h2 PL e e'
 ·rw[rV];exact r.len
 ·rcases PK h with ⟨k,h1,h2⟩|⟨hj,h2⟩
  ·obtain⟨_,_,_,_,_,_,_,z,_⟩:=Px h2;exact absurd rfl z
  ·obtain⟨a,dx,fs,k0,k1,k2,k3,k4,k5,k6⟩:=r.obj L hL h2
   have no:∀{z:Gw} {u:HO},H z=some u->(∀d,¬gF K F u d)->∀i∈is,¬dN H ρ σ i z:=λ{z u} hz nr i hi o=>by
    rcases o with ⟨d,g1,g2⟩|⟨x,O8,f,hs,a,C,dx,fs,g1,_⟩
    ·obtain⟨p,u',q1,q2,_,_,q5⟩:=r.own i d g1
     rw[g2]at q1
     cases q1
     rw[hz]at q2
     cases q2
     exact nr d q5
    ·exact hj (by rw[<-r.cel.one i L.x x O8 f hs _ g1 h2 rfl];exact hi)
   have na:=no k2 (λd q=>by cases q)
   have nd:=no k3 (λd q=>by cases q)
   exact⟨a,dx,fs,k0,k1,Qg k2 na,Qg k3 nd,RA k2 na k4,RA k3 nd k5,k6⟩
 ·refine r.odis L hL L' QB ?_ ?_
  ·rcases PK h with ⟨k,h1,h2⟩|⟨_,h2⟩
   ·obtain⟨_,_,_,_,_,_,_,z,_⟩:=Px h2;exact absurd rfl z
   ·exact h2
  ·rcases PK h' with ⟨k,h1,h2⟩|⟨_,h2⟩
   ·obtain⟨_,_,_,_,_,_,_,z,_⟩:=Px h2;exact absurd rfl z
   ·exact h2
 ·rcases PK h with ⟨k,h1,h2⟩|⟨hj,h2⟩
  ·obtain⟨s0,i,a,k1,k2,k3,k4,k5,k6⟩:=Px h2
   rw[h1]at k1
   cases k1
   obtain⟨a',dx,b,g1,g2,g3⟩:=m.cel.ex k x O8 f hs (ms h2)
   rw[QF k2]at g1
   cases g1
   refine⟨a,dx,b,k6,⟨g2.ex,g2.own,g2.fa,g2.fd,g2.fb,hz g2.za,hz g2.zd,hz g2.zb⟩,λj' d h' e=> ?_⟩
   rcases PK h' with ⟨k',QG,PL⟩|⟨Ri,PL⟩
   ·obtain⟨a',o',q1,q2,_⟩:=RB QG PL
    rw[q1]at e
    cases e
    exact g3 k' d (ms PL) (QF q2)
   ·obtain⟨p',u,q1,q2,_⟩:=r.own j' d PL
    rw[e]at q1
    cases q1
    have:ig H ρ σ is b=none:=g2.zb
    rw[T3 Ri PL e q2]at this
    cases this
  ·obtain⟨a,dx,b,g1,g2,g3⟩:=r.cel.ex j x O8 f hs h2
   have Yb:=g2
   obtain⟨C,fs,vs,us,q1,q2,q3,q4,q5,q6,q7⟩:=g2.ex
   have ow:∀z,(z=a\/z=dx\/fs.lookup f=some (.ref z))->∀i∈is,¬dN H ρ σ i z:=λz hz=>RW hj (.inr ⟨x,O8,f,hs,a,C,dx,fs,h2,g1,q1,hz⟩)
   have na:=ow a (.inl rfl)
   have nd:=ow dx (.inr (.inl rfl))
   have nb:=ow b (.inr (.inr q3))
   refine⟨a,dx,b,g1,⟨⟨C,fs,vs,us,Qg q1 na,q2,q3,Qg q4 nb,q5.mono me.grow,q6.mono me.grow,q7⟩,Qg g2.own nd,RA q1 na g2.fa,RA g2.own nd g2.fd,RA q4 nb g2.fb,g2.za,g2.zd,g2.zb⟩,λj' d h' e=> ?_⟩
   rcases PK h' with ⟨k',QG,PL⟩|⟨Ri,PL⟩
   ·obtain⟨a',o',w1,w2,w3,w4,w5,w6⟩:=RB QG PL
    rw[w1]at e
    cases e
    rw[kz q4 nb]at w5
    cases w5
   ·exact g3 j' d PL e
 ·have U8:∀{k:Nat} {s:Slot},ss'[k]? =some s->s.single=true->∃x O8 f hs i,is[k]? =some i/\ρ[i]? =some (some (.cel x O8 f hs)):=λ{k s} h hs=>by
   obtain⟨s0,i,a,k1,k2,k3,k4,k5,k6⟩:=Px h
   have:s.kind=2:=by cases s<;>first|rfl|exact absurd rfl k5|cases hs
   rw[this]at k4
   obtain⟨x,O8,f,hs,rfl⟩:=yc k4
   exact⟨x,O8,f,hs,i,k1,k3⟩
  rcases PK h with ⟨k,h1,h2⟩|⟨hj,h2⟩
  ·rcases PK h' with ⟨k',QG,PL⟩|⟨Ri,PL⟩
   ·have:=m.cel.one k k' x O8 f hs s (ms h2) (ms PL) OB
    subst this
    rw[h1]at QG
    exact HG QG
   ·obtain⟨x0,U9,f0,U4,i,g1,g2⟩:=U8 h2 rfl
    have:=r.cel.one i j' x0 U9 f0 U4 s g2 PL OB
    subst this
    exact absurd (Im g1) Ri
  ·rcases PK h' with ⟨k',QG,PL⟩|⟨Ri,PL⟩
   ·obtain⟨x0,U9,f0,U4,i,g1,g2⟩:=U8 PL OB
    have:=r.cel.one j i x O8 f hs _ h2 g2 rfl
    subst this
    exact absurd (Im g1) hj
   ·exact r.cel.one j j' x O8 f hs s h2 PL OB
end
end L2.Pu
namespace L2.Pu
open PySem PySem.Spec PyProof.Rows
variable {ly:List df}
def cq:Nat->a9->Option (List Slot)
 |0,_=>some []
 |n+1,some s::ρ=>(cq n ρ).map λt=>s::t
 |_+1,_=>none
theorem pB:∀{n:Nat} {ρ:a9} {ss:List Slot},cq n ρ=some ss->ss.length=n/\∀(k:Nat) s,ss[k]? =some s->ρ[k]? =some (some s)
 |0,ρ,ss,h=>by cases h;exact⟨rfl,λk s e=>by simp at e⟩
 |n+1,some s::ρ,ss,h=>by
  unfold cq at h
  cases e:cq n ρ with
  |none=>rw[e]at h;cases h
  |some t=>
   rw[e]at h
   cases h
   obtain⟨h1,h2⟩:=pB e
   refine⟨by simp[h1],λk s' e'=> ?_⟩
   cases k with
   |zero=>cases e';rfl
   |succ k=>exact h2 k s' e'
 |n+1,none::ρ,ss,h=>by cases h
 |n+1,[],ss,h=>by cases h
def eo (n:Nat) (ss:List Slot) (ds:List D):a9:=ss.map some++cj n ds
def j3 (nm k n:Nat) (g:a9->R a_) (ss:List Slot) (ds:List D):R (D×List Slot):=if ss.length=nm/\ds.length=k then (match g (eo n ss ds)with
 | .ok (.retc d ρ)=>(match cq nm ρ with|some ss'=> .ok (d,ss')|none=> .bad)
 | .ok (.nx ρ)=>(match cq nm ρ with|some ss'=> .ok (.non,ss')|none=> .bad)
 | .err z ρ=> .err z ρ
 |_=> .bad)else .bad
def EK (K:Gs) (nm n:Nat) (m:List Slot->List D->R (D×List Slot)):Sp:=λvs H Q E=>∃F as ws ss ds Hz,vs=as.map V.ref++ws/\as.length=nm/\ws.length=n/\A9 K Hz F ss as H F/\(∀s∈ss,s.kind≠0)/\Reps K F ws ds/\match m ss ds with
 | .ok r=>∀v H' F',A9 K Hz F r.2 as H' F'->cH K F' v r.1->Q v H'
 | .err z ρe=>∃ss',cq nm ρe=some ss'/\∀ec q H' F',dC K z ec->A9 K Hz F ss' as H' F'->E ec q H'
 | .bad=>False
theorem RI.restrict {K:Gs} {c:cO ly} {ρ:a9} {σ:St} {H F:Hp} {nm:Nat} {ss:List Slot} {as:List Gw} (r:RI K c ρ σ H F) (hB:c.B=λ_=>none) (ht:cq nm ρ=some ss) (hl:as.length=nm) (hσ:∀(j:Nat) a,as[j]? =some a->σ[j]? =some (some (.ref a))):A9 K c.H0 c.F0 ss as H F:=by
 obtain⟨t1,t2⟩:=pB ht
 have up:∀{k:Nat} {s:Slot},(ss.map some)[k]? =some (some s)->ρ[k]? =some (some s)/\k<as.length:=λ{k s} h=>by
  obtain⟨s',h1,h2⟩:=map_some h
  cases h2
  exact⟨t2 k s h1,by rw[hl,<-t1];exact(GV.mp h1).1⟩
 have at_:∀{k:Nat},k<as.length->(as.map λa=>some (V.ref a))[k]? =σ[k]? :=λ{k} h=>by
  have:as[k]? =some as[k]:=Hm h
  rw[hσ k _ this,jn this]
 refine⟨r.ext,λk d h=> ?_,λk d h=> ?_,λk d h=> ?_,(λ_ _ e=>by cases e),λk k' d d' a h h' e e'=> ?_,?_,(λL h=>by cases h),(λL h=>by cases h),(λ_ _ e=>by cases e),⟨λk x O8 f hs h=> ?_,λk k' x O8 f hs s h h' OB=> ?_⟩,(λL h=>by cases h)⟩
 ·obtain⟨h1,h2⟩:=up h
  rw[at_ h2];exact r.val k d h1
 ·obtain⟨h1,h2⟩:=up h
  rw[at_ h2];exact r.own k d h1
 ·obtain⟨h1,h2⟩:=up h
  obtain⟨a,o,_,z,_⟩:=r.bor k d h1
  rw[hB]at z
  cases z
 ·obtain⟨h1,h2⟩:=up h
  obtain⟨g1,g2⟩:=up h'
  rw[at_ h2]at e
  rw[at_ g2]at e'
  exact r.dis k k' d d' a h1 g1 e e'
 ·simp only[GA];rw[t1,hl]
 ·obtain⟨h1,h2⟩:=up h
  obtain⟨a,dx,b,k1,k2,k3⟩:=r.cel.ex k x O8 f hs h1
  refine⟨a,dx,b,by rw[at_ h2];exact k1,k2,λj d hj e=> ?_⟩
  obtain⟨g1,g2⟩:=up hj
  rw[at_ g2]at e
  exact k3 j d g1 e
 ·exact r.cel.one k k' x O8 f hs s (up h).1 (up h').1 OB
theorem vZ {K:Gs} {N:List Gv} {Hz F H:Hp} {ss:List Slot} {as:List Gw} {ws:List V} {ds:List D} {Er:Gv->a9->Prop} {nm m:Nat} (mr:A9 K Hz F ss as H F) (hk:∀s∈ss,s.kind≠0) (r:Reps K F ws ds) (hl:as.length=nm) (hN:N.length=nm+m) (hw:ws.length<=m)
  (Ua:∀L∈ly,L.x<nm):RI K (⟨Hz,F,λ_=>none,Er,λj=>as[j]?,λ_=>none⟩:cO ly) (eo m ss ds) (dc N (as.map V.ref++ws)) H F:=by
 have Vk:ss.length=as.length:=by have:=mr.len;simpa using this
 have pre:∀{i:Nat},i<as.length->(dc N (as.map V.ref++ws))[i]? =(as.map λa=>some (V.ref a))[i]? :=λ{i} h=>by
  unfold dc
  rw[HB,K8,IA (by simpa using h),Ia];rfl
 have hv:∀{i:Nat} {sl:Slot},(eo m ss ds)[i]? =some (some sl)->((ss.map some)[i]? =some (some sl)/\i<as.length/\sl.kind≠0)\/∃(j:Nat) (d:D),i=as.length+j/\ds[j]? =some d/\sl= .val d:=λ{i sl} h=>by
  unfold eo at h
  rw[JC]at h
  split at h
  ·rename_i hi
   obtain⟨s',h1,h2⟩:=map_some h
   cases h2
   exact .inl ⟨h,by rw[<-Vk];simpa using hi,hk _ (Im h1)⟩
  ·rename_i hi
   refine .inr ⟨i - as.length,?_⟩
   have e:(ss.map (some:Slot->Option Slot)).length=as.length:=by simp[Vk]
   rw[e]at h
   unfold cj at h
   rw[JC]at h
   split at h
   ·rw[Hg]at h
    cases e2:ds[i - as.length]? with
    |none=>rw[e2]at h;cases h
    |some d=>rw[e2]at h;simp at h;exact⟨d,by simp at hi;omega,rfl,h.symm⟩
   ·rw[IQ]at h
    split at h<;>simp at h
 have QY:∀{i:Nat} {sl:Slot},(eo m ss ds)[i]? =some (some sl)->(∀d,sl≠ .val d)->(ss.map some)[i]? =some (some sl)/\i<as.length:=λh n=>by
  rcases hv h with ⟨a,b,_⟩|⟨j,d,_,_,z⟩
  ·exact⟨a,b⟩
  ·exact absurd z (n d)
 refine⟨mr.ext,λi d h=> ?_,λi d h=> ?_,λi d h=> ?_,(λ_ _ e=>by cases e),λi j d d' a h h' e e'=> ?_,?_,λL hL h=> ?_,λL hL L' QB h _=> ?_,(λ_ _ e=>by cases e),⟨λi x O8 f hs h=> ?_,λi j x O8 f hs s h h' OB=> ?_⟩,λL hL a h=> ?_⟩
 ·rcases hv h with ⟨a,b,z⟩|⟨j,d',rfl,e,z⟩
  ·exact absurd rfl z
  ·cases z
   obtain⟨v,h1,h2⟩:=r.get e
   refine⟨v,?_,h2⟩
   unfold dc
   have hj:j<ws.length:=(GV.mp h1).1
   rw[HB,K8,JD (by simp),IA (by simp;omega)]
   simp[h1]
 ·obtain⟨h1,h2⟩:=QY h (λd' z=>by cases z)
  rw[pre h2];exact mr.own i d h1
 ·obtain⟨h1,h2⟩:=QY h (λd' z=>by cases z)
  obtain⟨a,o,_,z,_⟩:=mr.bor i d h1
  cases z
 ·obtain⟨h1,h2⟩:=QY h (λd' z=>by cases z)
  obtain⟨g1,g2⟩:=QY h' (λd' z=>by cases z)
  rw[pre h2]at e
  rw[pre g2]at e'
  exact mr.dis i j d d' a h1 g1 e e'
 ·have:=r.length
  simp only[eo,cj,dc,Hn,GA,Kl,Vk]
  omega
 ·rcases hv h with ⟨a,b,z⟩|⟨j,d',_,_,z⟩
  ·exact absurd rfl z
  ·cases z
 ·rcases hv h with ⟨a,b,z⟩|⟨j,d',_,_,z⟩
  ·exact absurd rfl z
  ·cases z
 ·obtain⟨h1,h2⟩:=QY h (λd' z=>by cases z)
  obtain⟨a,dx,b,k1,k2,k3⟩:=mr.cel.ex i x O8 f hs h1
  refine⟨a,dx,b,by rw[pre h2];exact k1,k2,λj d hj e=> ?_⟩
  obtain⟨g1,g2⟩:=QY hj (λd' z=>by cases z)
  rw[pre g2]at e
  exact k3 j d g1 e
 ·exact mr.cel.one i j x O8 f hs s (QY h (λd' z=>by cases z)).1 (QY h' (λd' z=>by subst z;cases OB)).1 OB
 ·have:=Ua L hL
  rw[pre (by omega)]
  exact jn (show as[L.x]? =some a from h)
theorem Ef {P:GP} {w:G_} {K:Gs} {mg:Gv->Option Gu} {base:GY} {x qual:Gv} {st:Hl} {f:Gw} {fd:HX} {N ps:List Gv} {k nm n m:Nat} {g:a9->R a_} (F:ux K x qual st f fd) (S:aK N ps (ah st))
  (hn:ps.length=nm+n) (hm:N.length=nm+m) (S6:n<=m) (Ua:∀j,j<nm->∃L∈ly,L.x=j) (T4:∀L∈ly,L.x<nm)
  (Oo:∀(Oc:Gu) (A:Hd) (outer:List Iz) (s:Gx) (H:Hp) (E:XK),bY k (A.deeper (IE qual (ah st) s.heap.objs.size f Oc))->
   ia ly (gg (iO P w) P w K mg base N qual (ah st) f Oc A outer s H E) (b0 st) g):dB P w K mg base (iO P w) (k+1) f fd ps (EK K nm n (j3 nm n m g)):=by
 refine EG F S (λvs H Q E h=> ?_) (λOc A outer s H vs Q E hr h=> ?_)
 ·obtain⟨Fz,as,ws,ss,ds,Hz,rfl,h1,h2,_⟩:=h
  rw[Hn,GA,h1,h2,hn]
 ·obtain⟨Fz,as,ws,ss,ds,Hz,rfl,h1,h2,mr,hk,r,w⟩:=h
  let c:cO ly:=⟨Hz,Fz,λ_=>none,λz ρe=>∃ss',cq nm ρe=some ss'/\∀ec q H' F',dC K z ec->A9 K Hz Fz ss' as H' F'->E ec q H',λj=>as[j]?,λ_=>none⟩
  have back:∀{ρ σ H' F' ss'},RI K c ρ σ H' F'->cq nm ρ=some ss'->A9 K Hz Fz ss' as H' F':=λ{ρ σ H' F' ss'} ri t=>ri.restrict rfl t h1 λj a e=>by
   have hj:j<nm:=by rw[<-h1];exact(GV.mp e).1
   obtain⟨L,hL,rfl⟩:=Ua j hj
   exact ri.pin L hL a e
  refine⟨_,Oo Oc A outer s H E hr ⟨c,qc λz ρ er ec a H' F' σ hc ri=> ?_⟩,?_⟩
  ·obtain⟨ss',t,q⟩:=er
   exact q ec a H' F' hc (back ri t)
  refine⟨Fz,eo m ss ds,vZ mr hk r h1 hm (by omega) T4,?_⟩
  have hd:ss.length=nm/\ds.length=n:=⟨by have:=mr.len;simp only[GA]at this;omega,by rw[<-r.length];exact h2⟩
  unfold j3 at w
  rw[if_pos hd]at w
  cases e:g (eo m ss ds)with
  |bad=>rw[e]at w;exact w.elim
  |err z ρ=>rw[e]at w;exact w
  |ok o=>
   rw[e]at w
   cases o with
   |retc d ρ=>
    intro v σ' H' F' _ Pd rv
    dsimp only at w
    cases t:cq nm ρ with
    |none=>rw[t]at w;exact w.elim
    |some ss'=>rw[t]at w;exact w v H' F' (back Pd t) rv
   |nx ρ=>
    intro σ' H' F' _ Pd
    dsimp only at w
    cases t:cq nm ρ with
    |none=>rw[t]at w;exact w.elim
    |some ss'=>rw[t]at w;exact w .non H' F' (back Pd t) .non
   |_=>exact w.elim
structure Eg (P:GP) (w:G_) (K:Gs) (mg:Gv->Option Gu) (base:GY) (k:Nat) (x:Gv) (nm n:Nat) (m:List Slot->List D->R (D×List Slot)):Prop where
 ex:∃f fd ps,dB P w K mg base (iO P w) k f fd ps (EK K nm n m)/\mg x=some (.ref f)/\HC K (.ref f)=true/\dO K fd ps []
structure fq (P:GP) (w:G_) (K:Gs) (mg:Gv->Option Gu) (base:GY) (k:Nat) (cls mm:Gv) (n:Nat) (m:List Slot->List D->R (D×List Slot)):Prop where
 ex:∃C f fd ps,dB P w K mg base (iO P w) k f fd ps (EK K 1 n m)/\gu K cls C/\sH K C mm f/\dO K fd ps []
section
variable {P:GP} {w:G_} {K:Gs} {mg:Gv->Option Gu} {base:GY}
theorem CB {x:Gv} {st:Hl} {N ps:List Gv} {k nm n m:Nat} {g:a9->R a_} (ly:List df) (A:eG K mg x st ps) (S:aK N ps (ah st)) (hn:ps.length=nm+n) (hm:N.length=nm+m) (S6:n<=m) (Ua:∀j,j<nm->∃L∈ly,L.x=j) (T4:∀L∈ly,L.x<nm)
  (Oo:∀(f:Gw) (Oc:Gu) (A:Hd) (outer:List Iz) (s:Gx) (H:Hp) (E:XK),bY k (A.deeper (IE x (ah st) s.heap.objs.size f Oc))->
   ia ly (gg (iO P w) P w K mg base N x (ah st) f Oc A outer s H E) (b0 st) g):Eg P w K mg base (k+1) x nm n (j3 nm n m g):=by
 obtain⟨f,fd,F,h1,h2⟩:=A.ex
 exact⟨f,fd,ps,Ef F S hn hm S6 Ua T4 λOc A outer s H E hr=>Oo f Oc A outer s H E hr,h1,F.kp,h2⟩
theorem kH {cls mm qual:Gv} {st:Hl} {N ps:List Gv} {k n m:Nat} {g:a9->R a_} (A:f8 K cls mm qual st ps) (S:aK N ps (ah st)) (hn:ps.length=1+n) (hm:N.length=1+m) (S6:n<=m)
  (Oo:∀(f:Gw) (Oc:Gu) (A:Hd) (outer:List Iz) (s:Gx) (H:Hp) (E:XK),bY k (A.deeper (IE qual (ah st) s.heap.objs.size f Oc))->
   ia [⟨0,0,[]⟩] (gg (iO P w) P w K mg base N qual (ah st) f Oc A outer s H E) (b0 st) g):fq P w K mg base (k+1) cls mm n (j3 1 n m g):=by
 obtain⟨C,f,fd,F,h1,h2,h3⟩:=A.ex
 exact⟨C,f,fd,ps,Ef F S hn hm S6 (λj hj=>⟨_,GS.mpr rfl,by show (0:Nat)=j;omega⟩) (λL hL=>by rw[GS.mp hL];exact Nat.zero_lt_one) λOc A outer s H E hr=>Oo f Oc A outer s H E hr,h1,h2,h3⟩
end
def iF (is:List Nat) (m:List Slot->List D->R (D×List Slot)) (n:Nat) (fs:a9->R (List D)):a9->R (D×a9):=λρ=>match eh ρ is with
 |some ss=>if (ss.all λs=>s.kind != 0)=true/\is.Nodup then (fs ρ>>=λds=>if ds.length=n then (match m ss ds with
  | .ok r=>if r.2.map Slot.kind=ss.map Slot.kind then .ok (r.1,rT ρ is r.2)else .bad
  | .err z ρe=>(match cq is.length ρe with
   |some ss'=>if ss'.map Slot.kind=ss.map Slot.kind then .err z (rT ρ is ss')else .bad
   |none=> .bad)
  | .bad=> .bad)else .bad)else .bad
 |none=> .bad
def tX (K:Gs) (c:cO ly) (fx:a9->R (D×a9)):TE:=λσ H Q=>∃F ρ,RI K c ρ σ H F/\aC c (fx ρ) λr=>∀v H' F',aN F F'->RI K c r.2 σ H' F'->cH K F' v r.1->Q v H'
def PX (ly:List df) (X:Cx) (e:GD) (fx:a9->R (D×a9)):Prop:=∀c:gi ly X,PE X e (tX X.K c.1 fx)
theorem At.of {K:Gs} {c:cO ly} {ρ:a9} {σ:St} {H F:Hp} (r:RI K c ρ σ H F):∀{is:List Nat} {ss:List Slot},eh ρ is=some ss->(ss.all λs=>s.kind != 0)=true->∃as,At ρ σ is ss as
 |[],ss,h,_=>by cases h;exact⟨[], .nil⟩
 |i::is,ss,h,k=>by
  unfold eh at h
  split at h
  ·rename_i s hs
   cases e:eh ρ is with
   |none=>rw[e]at h;cases h
   |some t=>
    rw[e]at h
    cases h
    rw[J3,HZ]at k
    obtain⟨as,A⟩:=At.of r e k.2
    have hk:s.kind≠0:=by simpa using k.1
    have:∃a,σ[i]? =some (some (.ref a)):=by
     cases s with
     |own d=>obtain⟨a,o,h1,_⟩:=r.own i d hs;exact⟨a,h1⟩
     |cel x O8 f OB=>obtain⟨a,dx,b,h1,_⟩:=r.cel.ex i x O8 f OB hs;exact⟨a,h1⟩
     |_=>exact absurd rfl hk
    obtain⟨a,ha⟩:=this
    exact⟨a::as, .cons hs hk ha A⟩
  ·cases h
section
variable {X:Cx} {e:GD} {es:List GD} {fs:a9->R (List D)} {is:List Nat} {p pos Oa:Hr} {x m:Gv}
theorem yd {c:gi ly X} {mf:List Slot->List D->R (D×List Slot)} {n:Nat} {ρ:a9} {σ:St} {H F:Hp} {Q:VK} (ri:RI X.K c.1 ρ σ H F) (w:aC c.1 (iF is mf n fs ρ) λr=>∀v H' F',aN F F'->RI X.K c.1 r.2 σ H' F'->cH X.K F' v r.1->Q v H'):
  ∃ss as,At ρ σ is ss as/\D6 X.K c.1 fs σ H λvs H1=>EK X.K is.length n mf (as.map V.ref++vs) H1 Q (C4 X c.1 σ):=by
 unfold iF at w
 split at w
 ·rename_i ss hs
  split at w
  ·rename_i hk
   obtain⟨hk,nd⟩:=hk
   obtain⟨as,A⟩:=At.of ri hs hk
   refine⟨ss,as,A,F,ρ,ri,(aC.bind.mp w).imp λds _ w1 vs H1 F1 e1 r1=> ?_⟩
   split at w1
   ·rename_i hl
    have r':=ri.step e1
    refine⟨F1,as,vs,ss,ds,ig H1 ρ σ is,rfl,A.lens.2,by rw[r1.length];exact hl,r'.split A nd,λs OB=>by have:=Kh.mp hk s OB;simpa using this,r1,?_⟩
    split at w1
    ·rename_i r hr
     split at w1
     ·rename_i SK
      intro v H' F' mr rv
      exact w1 v H' F' (e1.grow.trans mr.ext.grow) (r'.join A nd mr SK) rv
     ·exact w1.elim
    ·rename_i z ρe hr
     split at w1
     ·rename_i ss' ht
      split at w1
      ·rename_i SK
       exact⟨ss',ht,λec q H' F' hc mr=>⟨z,_,F',hc,r'.join A nd mr SK,w1⟩⟩
      ·exact w1.elim
     ·exact w1.elim
    ·exact w1.elim
   ·exact w1.elim
  ·exact w.elim
 ·exact w.elim
def tL:List Nat->TA->TA
 |[],t=>t
 |i::is,t=>AI (wL i) (tL is t)
theorem pC {t:TA} {ρ:a9} {σ:St} {H:Hp}:∀{is:List Nat} {ss:List Slot} {as:List Gw} {Q:List V->Hp->Prop},At ρ σ is ss as->t σ H (λvs H1=>Q (as.map V.ref++vs) H1)->tL is t σ H Q
 |[],_,_,Q, .nil,h=>h
 |i::is,_,_,Q, .cons h1 h2 h3 A,h=>⟨_,h3,pC A h⟩
def EL (ly:List df) (X:Cx) (es:List GD) (is:List Nat) (fs:a9->R (List D)):Prop:=∀c:gi ly X,PA X es (tL is (D6 X.K c.1 fs))
theorem CC (h:sx ly X es fs):EL ly X es [] fs:=λc=>h c
theorem Aa (i:Nat) (h:EL ly X es is fs) (hN:X.N[i]? =some x:=by rfl) (hv:ke X.env.scope x:=by first|exact Hv rfl|exact Hh (Hv rfl)|exact Hh (Hh rfl)) (hd:(x==("__debug__":Gv))=false:=by decide)
  (P2:(x==("__classdict__":Gv))=false:=by decide) (hs:Gy (.Name x p::es) X.env=(false,GW (.Name x p) X.env)::Gy es X.env:=by rfl):EL ly X (.Name x p::es) (i::is) fs:=λc=>bt (pv i hN hv hd P2) (h c) hs
theorem FG {k n:Nat} {mf:List Slot->List D->R (D×List Slot)} (G:Eg X.prog X.w X.K X.mg X.base k x is.length n mf) (hr:bY k X.A) (ha:EL ly X (e::es) is fs) (hg:Gl X x:=by rfl) (Pe:(x==("__debug__":Gv))=false:=by decide)
  (he:Gy (e::es) X.env=(false,GW e X.env)::Gy es X.env:=by rfl) (OT:(Hb pos (Gy es X.env)).any (·.1)=false:=by rfl):PX ly X (.Call (.Name x p) (e::es) [] pos) (iF is mf n fs):=λc=>by
 obtain⟨f,fd,ps,h1,h2,h3,h4⟩:=G.ex
 refine PE.weak (uo h1 hr hg h2 h3 h4 .nil (nI c) (ha c) Pe he OT) λσ H Q q=> ?_
 obtain⟨F,ρ,ri,w⟩:=q
 obtain⟨ss,as,A,t⟩:=yd ri w
 refine pC A ?_
 obtain⟨F0,ρ0,Ti,w0⟩:=t
 exact⟨F0,ρ0,Ti,w0.imp λds _ k vs H1 F1 e1 r1=>by dsimp only;rw[Ig];exact k vs H1 F1 e1 r1⟩
def kI (i:Nat) (cls m:Gv) (fx:a9->R (D×a9)):a9->R (D×a9):=λρ=>match ρ[i]? with
 |some (some (.cel y O8 f hs))=>if y=cls/\m≠f/\O8.lookup m=none then fx ρ else .bad
 |_=> .bad
theorem Ab {c:gi ly X} {i:Nat} {cls:Gv} {fx:a9->R (D×a9)} {ρ:a9} {σ:St} {H F:Hp} {C:Gw} {P:D×a9->Prop} (T:gu X.K cls C) (ri:RI X.K c.1 ρ σ H F) (w:aC c.1 (kI i cls m fx ρ) P):
  ∃a dx fs,σ[i]? =some (some (.ref a))/\H a=some (.ins C dx fs)/\fs.lookup m=none/\aC c.1 (fx ρ) P:=by
 unfold kI at w
 split at w
 ·rename_i y O8 f hs hi
  split at w
  ·rename_i hc
   obtain⟨rfl,h1,h2⟩:=hc
   obtain⟨a,dx,b,k1,k2,k3⟩:=ri.cel.ex i y O8 f hs hi
   obtain⟨C',fs,vs,us,g1,g2,g3,g4,g5,g6,g7,g8,_⟩:=k2.ex
   have:C'=C:=by have:=T.ns;rw[g2]at this;cases this;rfl
   subst this
   refine⟨a,dx,fs,k1,g1,?_,w⟩
   cases q:fs.lookup m with
   |none=>rfl
   |some v=>
    rcases g8 m v q with z|z
    ·exact absurd z h1
    ·rw[g6.names]at z
     exact absurd z (ef h2)
  ·exact w.elim
 ·exact w.elim
theorem lA (i:Nat) {cls y:Gv} {py:Hr} {k n:Nat} {mf:List Slot->List D->R (D×List Slot)} {pl:Kj Bool} (G:fq X.prog X.w X.K X.mg X.base k cls m n mf) (hr:bY k X.A) (ha:sx ly X (e::es) fs)
  (hN:X.N[i]? =some y:=by rfl) (hv:ke X.env.scope y:=by first|exact Hv rfl|exact Hh (Hv rfl)|exact Hh (Hh rfl)) (hd:(y==("__debug__":Gv))=false:=by decide) (P2:(y==("__classdict__":Gv))=false:=by decide)
  (QD:Gy (e::es) X.env=(false,GW e X.env)::Gy es X.env:=by rfl) (OT:(Hb pos (Gy es X.env)).any (·.1)=false:=by rfl)
  (ht:GW (.Call (.Attribute (.Name y py) m Oa) (e::es) [] pos) X.env=(do
   let ov<-GW (.Name y py) X.env
   J_ Oa.atName
   let (f,first)<-J8 [ov] (JQ ov m pl)
   KJ pos f first (Hb pos (Gy (e::es) X.env)) (Iq pos (HM [] X.env))):=by rfl):
  PX ly X (.Call (.Attribute (.Name y py) m Oa) (e::es) [] pos) (kI i cls m (iF [i] mf n fs)):=λc=>by
 obtain⟨C,f,fd,ps,h1,h2,h3,h4⟩:=G.ex
 refine PE.weak (uq (pv i hN hv hd P2) h2.cl h3 h1 hr h4 .nil (nI c) (ha c) QD OT ht) λσ H Q q=> ?_
 obtain⟨F,ρ,ri,w⟩:=q
 obtain⟨a,dx,QR,k1,k2,k3,w⟩:=Ab h2 ri w
 obtain⟨ss,as,A,t⟩:=yd ri w
 cases A with
 |cons q1 q2 q3 A0=>
  cases A0
  rw[k1]at q3
  cases q3
  refine⟨.ref a,k1,a,dx,QR,rfl,k2,k3,?_⟩
  obtain⟨F0,ρ0,Ti,w0⟩:=t
  exact⟨F0,ρ0,Ti,w0.imp λds _ k vs H1 F1 e1 r1=>by dsimp only;rw[Ig];exact k vs H1 F1 e1 r1⟩
end
end L2.Pu
namespace L2.Pu
open PySem PySem.Spec PyProof.Rows
variable {ly:List df}
def ye (g:Gv) (d:D) (O8:List (Gv×D)):List (Gv×D):=O8.map λp=>if p.1=g then (p.1,d)else p
section
variable {K:Gs} {c:cO ly} {ρ:a9} {σ:St} {H F:Hp} {i:Nat} {z:Gw}
theorem RepF.put {vs:List (Gv×V)} {O8:List (Gv×D)} {g:Gv} {v:V} {d:D} (h:RepF K F vs O8) (r:cH K F v d):RepF K F (vs.map λp=>if p.1=g then (p.1,v)else p) (ye g d O8):=by
 induction O8 generalizing vs with
 |nil=>rw[h.nilI];exact .nil
 |cons p O8 ih=>
  obtain⟨k,x⟩:=p
  obtain⟨u,us,rfl,h1,h2⟩:=h.consI
  have:=ih h2
  unfold ye at this ⊢
  rw[GL,GL]
  dsimp only
  by_cases e:k=g
  ·rw[if_pos e,if_pos e];exact .cons r this
  ·rw[if_neg e,if_neg e];exact .cons h1 this
theorem RI.celUpd (r:RI K c ρ σ H F) {x x':Gv} {O8 Rz:List (Gv×D)} {f f':Gv} {hs OB:List D} {a dx b:Gw} {o':HO} (hi:ρ[i]? =some (some (.cel x O8 f hs))) (h1:σ[i]? =some (some (.ref a))) (hz:dN H ρ σ i z)
  (A':iP K (ig H ρ σ [i]) (b9 H z o') F a dx b x' Rz f' OB):RI K c (ρ.set i (some (.cel x' Rz f' OB))) σ (b9 H z o') F:=by
 refine r.join (is:=[i]) (ss:=[.cel x O8 f hs]) (ss':=[.cel x' Rz f' OB]) (as:=[a]) (.cons hi (by intro e;cases e) h1 .nil) (by simp) ?_ rfl
 have WZ:ig H ρ σ [i] z=none:=j0 (GS.mpr rfl) hz
 have only:∀{k:Nat} {s:Slot},(([Slot.cel x' Rz f' OB]:List Slot).map some)[k]? =some (some s)->k=0/\s= .cel x' Rz f' OB:=λ{k s} h=>by
  cases k with
  |zero=>cases h;exact⟨rfl,rfl⟩
  |succ k=>simp at h
 refine⟨⟨λy u e=> ?_,λy u e=> ?_,aN.refl _,λ_ h=> .inl h⟩,λk d h=> ?_,λk d h=> ?_,λk d h=> ?_,(λ_ _ e=>by cases e),λk k' d d' a h=> ?_,rfl,(λL h=>by cases h),(λL h=>by cases h),(λ_ _ e=>by cases e),⟨λk y vd g hh h=> ?_,λk k' y vd g hh s h h' _=> ?_⟩,(λL h=>by cases h)⟩
 ·rw[ao (λq=>by rw[q,(r.owns hz).2.1]at e;cases e)];exact r.sub y u e
 ·have e':ig H ρ σ [i] y=some u:=e
  rw[ao (λq=>by rw[q,WZ]at e';cases e')];exact pA e'
 ·obtain⟨_,q⟩:=only h;cases q
 ·obtain⟨_,q⟩:=only h;cases q
 ·obtain⟨_,q⟩:=only h;cases q
 ·obtain⟨_,q⟩:=only h;cases q
 ·obtain⟨rfl,q⟩:=only h
  cases q
  exact⟨a,dx,b,rfl,A',λj d hj=>by obtain⟨_,q⟩:=only hj;cases q⟩
 ·rw[(only h).1,(only h').1]
end
section
variable {X:Cx} {a b e value:GD} {es:List GD} {fa fb f fv:a9->R D} {fs:a9->R (List D)} {pos px Oa RX O4 Oh:Hr} {y g cls:Gv} {xs:List Gv}
def cr (i:Nat) (cls g:Gv):a9->R D:=λρ=>match ρ[i]? with
 |some (some (.cel x O8 _ _))=>if x=cls then R.of (O8.lookup g)else .bad
 |_=> .bad
theorem mP {K:Gs} {c:cO ly} {ρ:a9} {σ:St} {H F:Hp} {i:Nat} {C:Gw} {x:Gv} {O8:List (Gv×D)} {f:Gv} {hs:List D} (ri:RI K c ρ σ H F) (T:gu K x C) (hi:ρ[i]? =some (some (.cel x O8 f hs))):
  ∃a dx b fs vs us,σ[i]? =some (some (.ref a))/\H a=some (.ins C dx fs)/\iP K c.H0 H F a dx b x O8 f hs/\fs.lookup f=some (.ref b)/\H b=some (.lst us)/\Reps K F us hs/\RepF K F vs O8/\(∀p∈vs,fs.lookup p.1=some p.2)/\
   (∀g v,fs.lookup g=some v->g=f\/g∈vs.map (·.1))/\(fs.map (·.1)).Nodup/\f∉vs.map (·.1):=by
 obtain⟨a,dx,b,k1,k2,k3⟩:=ri.cel.ex i x O8 f hs hi
 obtain⟨C',fs,vs,us,g1,g2,g3⟩:=k2.ex
 have:C'=C:=by have:=T.ns;rw[g2]at this;cases this;rfl
 subst this
 exact⟨a,dx,b,fs,vs,us,k1,g1,k2,g3⟩
theorem di (i:Nat) (T:cL X.K cls xs) (hx:g∈xs) (hN:X.N[i]? =some y:=by rfl) (hv:ke X.env.scope y:=by first|exact Hv rfl|exact Hh (Hv rfl)|exact Hh (Hh rfl)) (hd:(y==("__debug__":Gv))=false:=by decide)
  (P2:(y==("__classdict__":Gv))=false:=by decide) (hb:Hx (.Name y px) g X.env (GW (.Name y px) X.env)=GW (.Name y px) X.env:=by rfl):PQ ly X (.Attribute (.Name y px) g pos) (cr i cls g):=by
 obtain⟨C,h1,h2⟩:=T.ex
 exact λc=>PE.weak (pS (pv i hN hv hd P2) hb) λσ H Q ⟨F,ρ,ri,w⟩=>by
  unfold cr at w
  split at w
  ·rename_i x O8 f hs hi
   split at w
   ·rename_i hc
    subst hc
    obtain⟨d,hd,k⟩:=w.of
    obtain⟨a,dx,b,fs,vs,us,k1,k2,k3,k4,k5,k6,k7,k8,_⟩:=mP ri h1 hi
    obtain⟨v,m1,m2⟩:=k7.get hd
    exact⟨.ref a,k1,a,C,dx,fs,v,rfl,k2,h1.cl,h2 g hx,k8 _ m1,k v H F (bf.refl ri.sub) m2⟩
   ·exact w.elim
  ·exact w.elim
def nV (i:Nat) (cls g:Gv):a9->R D:=λρ=>match ρ[i]? with
 |some (some (.cel x _ f hs))=>if x=cls/\f=g then .ok (.lst hs)else .bad
 |_=> .bad
theorem CD (i:Nat) (T:cL X.K cls xs) (hx:g∈xs) (hN:X.N[i]? =some y:=by rfl) (hv:ke X.env.scope y:=by first|exact Hv rfl|exact Hh (Hv rfl)|exact Hh (Hh rfl)) (hd:(y==("__debug__":Gv))=false:=by decide)
  (P2:(y==("__classdict__":Gv))=false:=by decide) (hb:Hx (.Name y px) g X.env (GW (.Name y px) X.env)=GW (.Name y px) X.env:=by rfl):PB ly X (.Attribute (.Name y px) g pos) (nV i cls g):=by
 obtain⟨C,h1,h2⟩:=T.ex
 exact λc=>PE.weak (pS (pv i hN hv hd P2) hb) λσ H Q ⟨F,ρ,ri,w⟩=>by
  unfold nV at w
  split at w
  ·rename_i x O8 f hs hi
   split at w
   ·rename_i hc
    obtain⟨rfl,rfl⟩:=hc
    obtain⟨a,dx,b,fs,vs,us,k1,k2,k3,k4,k5,k6,_⟩:=mP ri h1 hi
    exact⟨.ref a,k1,a,C,dx,fs, .ref b,rfl,k2,h1.cl,h2 _ hx,k4,w (.ref b) H F (bf.refl ri.sub) (.inr ⟨b, .lst us,rfl,k5, .lst k6⟩)⟩
   ·exact w.elim
  ·exact w.elim
def qy (i:Nat) (cls g:Gv) (fv:a9->R D):a9->R a_:=λρ=>match ρ[i]? with
 |some (some (.cel x O8 f hs))=>fv ρ>>=λd=>if x=cls/\(O8.lookup g).isSome=true/\O8.length<900 then .ok (.nx (ρ.set i (some (.cel x (ye g d O8) f hs))))else .bad
 |_=> .bad
theorem rX {α:Type} {g:Gv}:∀{l:List (Gv×α)},(l.lookup g).isSome=true->g∈l.map (·.1)
 |(k,v)::r,h=>by
  rw[HS]at h
  cases e:g==k with
  |true=>rw[eq_of_beq e];exact GO
  |false=>rw[e]at h;exact GU _ (rX h)
theorem yf (i:Nat) (T:cL X.K cls xs) (hx:g∈xs) (hv:PQ ly X value fv) (hN:X.N[i]? =some y:=by rfl) (W_:ke X.env.scope y:=by first|exact Hv rfl|exact Hh (Hv rfl)|exact Hh (Hh rfl)) (hd:(y==("__debug__":Gv))=false:=by decide)
  (P2:(y==("__classdict__":Gv))=false:=by decide) (hs:HA value (some (.Attribute (.Name y px) g Oh)) pos.line X.env=pure false:=by rfl):kd ly X (.Assign [.Attribute (.Name y px) g Oh] value pos) (qy i cls g fv):=by
 obtain⟨C,h1,h2⟩:=T.ex
 exact λc=>PS.weak (BD (pv i hN W_ hd P2) (hv c) hs) λD σ H ⟨F,ρ,ri,w⟩=>by
  unfold qy at w
  split at w
  ·rename_i x O8 f hs hi
   refine⟨F,ρ,ri,(aC.bind.mp w).imp λd _ w1 v H1 F1 e1 r1=> ?_⟩
   split at w1
   ·rename_i hc
    obtain⟨rfl,hl,Oe⟩:=hc
    have Ra:=ri.step e1
    obtain⟨a,dx,b,fs,vs,us,k1,k2,k3,k4,k5,k6,k7,k8,k9,Tg,W0⟩:=mP Ra h1 hi
    have Vl:g∈vs.map (·.1):=by rw[k7.names];exact rX hl
    have Xa:g≠f:=λz=>by rw[z]at Vl;exact W0 Vl
    have Ub:fs.length<1000:=by
     have:(fs.map (·.1)).length<=(f::vs.map (·.1)).length:=cP Tg λq hq=>by
      obtain⟨u,hu⟩:=ic hq
      rcases k9 q u hu with z|z
      ·rw[z];exact GO
      ·exact GU _ z
     rw[GA,GX,k7.names,GA]at this
     omega
    refine⟨_,k1,a,C,dx,fs,rfl,k2,h1.cl,h2 g hx,Ub,?_⟩
    have oa:dN H1 ρ σ i a:= .inr ⟨x,O8,f,hs,a,C,dx,fs,hi,k1,k2, .inl rfl⟩
    have cz:∀z,(z=a\/z=dx\/fs.lookup f=some (.ref z))->ig H1 ρ σ [i] z=none:=λz hz=>j0 (GS.mpr rfl) (.inr ⟨x,O8,f,hs,a,C,dx,fs,hi,k1,k2,hz⟩)
    have Xb:dx≠a:=λz=>by have:=k3.own;rw[z,k2]at this;cases this
    have Xc:b≠a:=λz=>by rw[z,k2]at k5;cases k5
    refine w1 σ _ F1 e1.grow (Ra.celUpd (dx:=dx) (b:=b) hi k1 oa ⟨⟨C,e_ g v fs,vs.map (λp=>if p.1=g then (p.1,v)else p),us,au,h1.ns,?_,?_,k6,k7.put r1,λp hp=> ?_,λq u hq=> ?_,qx _ _ Tg,?_⟩,?_,k3.fa,k3.fd,k3.fb,cz a (.inl rfl),cz dx (.inr (.inl rfl)),cz b (.inr (.inr k4))⟩)
    ·rw[bX,if_neg (II Xa)];exact k4
    ·rw[ao Xc];exact k5
    ·obtain⟨q,hq,rfl⟩:=IH.mp hp
     rw[bX]
     by_cases z:q.1=g
     ·rw[if_pos z,if_pos z]
     ·rw[if_neg z,if_neg z];exact k8 q hq
    ·have Rx:(vs.map (λp=>if p.1=g then (p.1,v)else p)).map (·.1)=vs.map (·.1):=by
      rw[Ia];refine KH λp _=> ?_
      show (if p.1=g then (p.1,v)else p).1=p.1
      split<;>rfl
     rw[Rx]
     rw[bX]at hq
     by_cases z:q=g
     ·rw[z];exact .inr Vl
     ·rw[if_neg z]at hq;exact k9 q u hq
    ·have Rx:(vs.map (λp=>if p.1=g then (p.1,v)else p)).map (·.1)=vs.map (·.1):=by
      rw[Ia];refine KH λp _=> ?_
      show (if p.1=g then (p.1,v)else p).1=p.1
      split<;>rfl
     rw[Rx];exact W0
    ·rw[ao Xb];exact k3.own
   ·exact w1.elim
  ·exact w.elim
theorem Ac {K:Gs} {c:cO ly} {ρ:a9} {σ:St} {H F:Hp} {i:Nat} {C:Gw} {x:Gv} {O8:List (Gv×D)} {f:Gv} {hs OB:List D} {a dx b:Gw} {fs:List (Gv×V)} {us Vm:List V} (ri:RI K c ρ σ H F) (hi:ρ[i]? =some (some (.cel x O8 f hs))) (k1:σ[i]? =some (some (.ref a))) (k2:H a=some (.ins C dx fs))
  (k3:iP K c.H0 H F a dx b x O8 f hs) (k4:fs.lookup f=some (.ref b)) (k5:H b=some (.lst us)) (q:Reps K F Vm OB):RI K c (ρ.set i (some (.cel x O8 f OB))) σ (b9 H b (.lst Vm)) F:=by
 have cz:∀z,(z=a\/z=dx\/fs.lookup f=some (.ref z))->dN H ρ σ i z:=λz hz=> .inr ⟨x,O8,f,hs,a,C,dx,fs,hi,k1,k2,hz⟩
 have cy:∀z,dN H ρ σ i z->ig H ρ σ [i] z=none:=λz o=>j0 (GS.mpr rfl) o
 have Xd:a≠b:=λz=>by rw[<-z,k2]at k5;cases k5
 have Xe:dx≠b:=λz=>by have:=k3.own;rw[z,k5]at this;cases this
 obtain⟨C',QR,vs,Yc,g1,g2,g3,g4,g5,g6,g7⟩:=k3.ex
 rw[k2]at g1
 cases g1
 exact ri.celUpd (dx:=dx) (b:=b) hi k1 (cz b (.inr (.inr k4))) ⟨⟨C,fs,vs,Vm,by rw[ao Xd];exact k2,g2,k4,au,q,g6,g7⟩,by rw[ao Xe];exact k3.own,k3.fa,k3.fd,k3.fb,cy _ (cz a (.inl rfl)),cy _ (cz dx (.inr (.inl rfl))),cy _ (cz b (.inr (.inr k4)))⟩
def mQ (i:Nat) (cls g:Gv) (f:a9->R D):a9->R a_:=λρ=>match ρ[i]? with
 |some (some (.cel x O8 h hs))=>if x=cls/\h=g then (f ρ>>=λd=>if hs.length<lim then .ok (.nx (ρ.set i (some (.cel x O8 h (hs++[d])))))else .bad)else .bad
 |_=> .bad
theorem yg (i:Nat) (T:cL X.K cls xs) (hx:g∈xs) (h:PQ ly X e f) (hN:X.N[i]? =some y:=by rfl) (hv:ke X.env.scope y:=by first|exact Hv rfl|exact Hh (Hv rfl)|exact Hh (Hh rfl)) (hd:(y==("__debug__":Gv))=false:=by decide)
  (P2:(y==("__classdict__":Gv))=false:=by decide) (hb:Hx (.Name y px) g X.env (GW (.Name y px) X.env)=GW (.Name y px) X.env:=by rfl)
  (Ot:Hx (.Attribute (.Name y px) g RX) "append" X.env (GW (.Attribute (.Name y px) g RX) X.env)=GW (.Attribute (.Name y px) g RX) X.env:=by rfl)
  (Pg:((Hb O4 (Gy [e] X.env)).all (λx=> !x.1)&&(Iq O4 (HM [] X.env)).all (λx=>x.1.isSome)
   &&decide (([e]:List GD).length+([]:List Ii).length+(if ([]:List Ii).isEmpty then 0 else 1)<30))=true:=by rfl)
  (Ou:(Oa.endLine==O4.line)=true:=by rfl) (hs:Gy [e] X.env=(false,GW e X.env)::Gy [] X.env:=by rfl) (Oi:(Hb O4 (Gy [] X.env)).any (·.1)=false:=by rfl)
  (Qr:HA (.Call (.Attribute (.Attribute (.Name y px) g RX) "append" Oa) [e] [] O4) none pos.line X.env=pure false:=by rfl):kd ly X (.Expr (.Call (.Attribute (.Attribute (.Name y px) g RX) "append" Oa) [e] [] O4) pos) (mQ i cls g f):=by
 obtain⟨C,h1,h2⟩:=T.ex
 exact λc=>PS.weak (gl (nc HI JW JX jg (pS (pv i hN hv hd P2) hb) (bt (h c) cY hs) Ot Pg Ou hs Oi) Qr) λD σ H ⟨F,ρ,ri,w⟩=>by
  unfold mQ at w
  split at w
  ·rename_i x O8 f' hs hi
   split at w
   ·rename_i hc
    obtain⟨rfl,rfl⟩:=hc
    obtain⟨a,dx,b,fs,vs,us,k1,k2,k3,k4,k5,k6,_⟩:=mP ri h1 hi
    refine⟨.ref a,k1,a,C,dx,fs, .ref b,rfl,k2,h1.cl,h2 _ hx,k4, .inl ⟨rfl,us,c9.of k5⟩,F,ρ,ri,(aC.bind.mp w).imp λd _ w1 v H1 F1 e1 r1=> ?_⟩
    split at w1
    ·rename_i hl
     refine⟨b,us,v,rfl,rfl,e1.keep _ _ k5,Hf (by rw[k6.length];exact hl) dW,?_⟩
     exact w1 σ _ F1 e1.grow (Ac (ri.step e1) hi k1 (e1.keep _ _ k2) (k3.step e1) k4 (e1.keep _ _ k5) ((k6.mono e1.grow).append (.cons r1 .nil)))
    ·exact w1.elim
   ·exact w.elim
  ·exact w.elim
theorem Reps.dropLast {K:Gs} {F:Hp} {vs:List V} {ds:List D} (h:Reps K F vs ds):Reps K F vs.dropLast ds.dropLast:=by
 rw[M8,M8,h.length];exact h.take _
variable {fx:a9->R (D×a9)}
def nW (f:a9->R D):a9->R a_:=λρ=>f ρ>>=λd=> .ok (.retc d ρ)
theorem tM (h:PQ ly X e f):kd ly X (.Return (some e) pos) (nW f):=λc=>PS.weak (sy (h c)) λD σ H ⟨F,ρ,ri,w⟩=>
 ⟨F,ρ,ri,(aC.bind.mp w).imp λd _ w1 v H' F' e r=>w1 v σ H' F' e.grow (ri.step e) r⟩
def m8 (fx:a9->R (D×a9)):a9->R a_:=λρ=>fx ρ>>=λr=> .ok (.retc r.1 r.2)
theorem CF (h:PX ly X e fx):kd ly X (.Return (some e) pos) (m8 fx):=λc=>PS.weak (sy (h c)) λD σ H ⟨F,ρ,ri,w⟩=>
 ⟨F,ρ,ri,(aC.bind.mp w).imp λr _ w1 v H' F' e Pd rv=>w1 v σ H' F' e Pd rv⟩
def gI (fx:a9->R (D×a9)):a9->R a_:=λρ=>fx ρ>>=λr=> .ok (.nx r.2)
theorem mR (h:PX ly X e fx) (Qr:HA e none pos.line X.env=pure false:=by rfl):kd ly X (.Expr e pos) (gI fx):=λc=>PS.weak (gl (h c) Qr) λD σ H ⟨F,ρ,ri,w⟩=>
 ⟨F,ρ,ri,(aC.bind.mp w).imp λr _ w1 v H' F' e Pd rv=>w1 σ H' F' e Pd⟩
def uR (i:Nat) (fx:a9->R (D×a9)):a9->R a_:=λρ=>fx ρ>>=λr=> .ok (.nx (r.2.set i (some (.val r.1))))
theorem CG (i:Nat) {x:Gv} (hN:X.N.Nodup) (he:PX ly X e fx) (hi:X.N[i]? =some x:=by rfl) (hx:wH X.env.scope x:=by first|exact Hv rfl|exact Hh rfl) (hs:HA e (some (.Name x Oh)) pos.line X.env=pure false:=by rfl)
  (hf:X.fn x=true\/X.env.scope.names.lookup x=some .local:=by first|exact .inl rfl|exact .inr rfl|assumption) (P_:iQ ly i:=by(repeat (first|assumption|exact L2.Pu.dS|refine L2.Pu.d6 ⟨by first|decide|simp,by first|decide|simp⟩ ?_))):kd ly X (.Assign [.Name x Oh] e pos) (uR i fx):=λc=>
 PS.weak (l6 hN hi hx (he c) hs hf) λD σ H ⟨F,ρ,ri,w⟩=>⟨F,ρ,ri,(aC.bind.mp w).imp λr _ w1 v H' F' e Pd rv=>w1 _ H' F' e (Pd.setVal i P_ rv)⟩
def j4 (f:a9->R D) (fx:a9->R (D×a9)):a9->R (D×a9):=λρ=>f ρ>>=λd=>fx ρ>>=λr=> .ok (.lst [d,r.1],r.2)
theorem CH (h:PQ ly X a f) (hx:PX ly X b fx) (hs:Gy [a,b] X.env=(false,GW a X.env)::Gy [b] X.env:=by rfl) (Sm:Gy [b] X.env=(false,GW b X.env)::Gy [] X.env:=by rfl):PX ly X (.List [a,b] pos) (j4 f fx):=λc=>
 PE.weak (pT (bt (h c) (bt (hx c) cY Sm) hs)) λσ H Q ⟨F,ρ,ri,w⟩=>⟨F,ρ,ri,(aC.bind.mp w).imp λd _ w1 v H1 F1 e1 r1=>⟨F1,ρ,ri.step e1,(aC.bind.mp w1).imp λr _ w2 u H2 F2 e2 S5 r2=>by
  refine⟨by show 2<=sizeLine;exact Ht (by decide) dW,λp hp=> ?_⟩
  have e3:=bf.lay (o:= .lst [v,u]) S5.sub hp
  exact w2 _ _ _ ((e1.grow.trans e2).trans e3.grow) (S5.step e3) (.lst au (.cons ((r1.mono e2).mono e3.grow) (.cons (r2.mono e3.grow) .nil)))⟩⟩
def G0 (K:Gs) (c:cO ly) (gx:a9->R (Bool×a9)):TT:=λσ H Q=>∃F ρ,RI K c ρ σ H F/\aC c (gx ρ) λr=>∀H' F',aN F F'->RI K c r.2 σ H' F'->Q r.1 H'
def Gq (ly:List df) (X:Cx) (e:GD) (gx:a9->R (Bool×a9)):Prop:=∀c:gi ly X,PT X e (G0 X.K c.1 gx)
end
end L2.Pu
namespace L2.Pu
open PySem PySem.Spec PyProof.Rows
variable {ly:List df}
mutual
inductive gZ (f:Gv):D->Prop
 |non:gZ f .non
 |bl (b:Bool):gZ f (.bl b)
 |int (i:Int):gZ f (.int i)
 |str (x:Gv):gZ f (.str x)
 |tup {ds:List D}:Cleans f ds->gZ f (.tup ds)
 |ins {x:Gv} {fds:List (Gv×D)}:fds.lookup f=none->CleanF f fds->gZ f (.ins x fds)
inductive Cleans (f:Gv):List D->Prop
 |nil:Cleans f []
 |cons {d:D} {ds:List D}:gZ f d->Cleans f ds->Cleans f (d::ds)
inductive CleanF (f:Gv):List (Gv×D)->Prop
 |nil:CleanF f []
 |cons {k:Gv} {d:D} {ds:List (Gv×D)}:gZ f d->CleanF f ds->CleanF f ((k,d)::ds)
end
open Classical in
noncomputable def ii (F:Hp) (Ow:Gw->Prop):Hp:=λz=>if Ow z then none else F z
theorem kJ {F:Hp} {Ow:Gw->Prop} {z:Gw} (h:¬Ow z):ii F Ow z=F z:=if_neg h
theorem nX {F:Hp} {Ow:Gw->Prop} {z:Gw} {u:HO} (h:ii F Ow z=some u):¬Ow z/\F z=some u:=by
 unfold ii at h
 split at h
 ·cases h
 ·rename_i n;exact⟨n,h⟩
theorem cH.cut {K:Gs} {F:Hp} {Ow:Gw->Prop} {f:Gv} (hn:∀z,Ow z->∀vs,F z≠some (.tup vs)) (hi:∀z,Ow z->∀C dx fs,F z=some (.ins C dx fs)->fs.lookup f≠none) (ho:∀z a,Ow z->F z=some (.own a)->Ow a) {v:V} {d:D} (h:cH K F v d):gZ f d->cH K (ii F Ow) v d:=by
 refine cH.rec (motive_1:=λv d _=>gZ f d->cH K (ii F Ow) v d) (motive_2:=λv d _=>Cleans f d->Reps K (ii F Ow) v d) (motive_3:=λv d _=>True) (motive_4:=λv d _=>CleanF f d->RepF K (ii F Ow) v d)
  (λ_=> .non) (λb _=> .bl b) (λi _=> .int i) (λx _=> .str x) (λ{a vs ds} h _ ih c=> ?_) (λh _ ih c=>by cases c) (λh c=>by cases c) (λh _ n ih c=>by cases c) (λ{a C dx x fs vs fds} h1 h2 h3 h4 h5 h6 ih c=> ?_) (λh n c=>by cases c) (λ_=> .nil) (λ_ _ ih Vn c=> ?_) trivial (λ_ _ _ _=>trivial) (λ_=> .nil) (λ_ _ ih Vn c=> ?_) h
 ·cases c with
  |tup c=>exact .tup (by rw[kJ (λo=>hn a o vs h)];exact h) (ih c)
 ·cases c with
  |ins cl c=>
   have na:¬Ow a:=λo=>by
    refine hi a o C dx fs h1 ?_
    cases q:fs.lookup f with
    |none=>rfl
    |some u=>
     have:=h5 f u q
     rw[h6.names]at this
     exact absurd this (ef cl)
   have nd:¬Ow dx:=λo=>na (ho dx a o h2)
   exact .ins (by rw[kJ na];exact h1) (by rw[kJ nd];exact h2) h3 h4 h5 (ih c)
 ·cases c with
  |cons c1 c2=>exact .cons (ih c1) (Vn c2)
 ·cases c with
  |cons c1 c2=>exact .cons (ih c1) (Vn c2)
def Slot.frozen:Slot->Slot
 | .own d=> .val d
 | .cel x O8 f hs=> .val (.ins x (O8++[(f, .lst hs)]))
 |s=>s
theorem qz (s:Slot):s.frozen.frozen=s.frozen:=by cases s<;>rfl
def nY (i:Nat) (ρ:a9):a9:=match ρ[i]? with
 |some (some s)=>ρ.set i (some s.frozen)
 |_=>ρ
def kK (L:List Nat) (ρ:a9):a9:=L.foldl (λr i=>nY i r) ρ
theorem v_ (i:Nat) (ρ:a9):(nY i ρ).length=ρ.length:=by
 unfold nY
 split
 ·simp
 ·rfl
theorem pD:∀(L:List Nat) (ρ:a9),(kK L ρ).length=ρ.length
 |[],ρ=>rfl
 |i::L,ρ=>(pD L (nY i ρ)).trans (v_ i ρ)
theorem pE {i j:Nat} {ρ:a9} {s:Slot} (h:(nY i ρ)[j]? =some (some s)):(i=j/\∃s0,ρ[j]? =some (some s0)/\s=s0.frozen)\/(i≠j/\ρ[j]? =some (some s)):=by
 unfold nY at h
 split at h
 ·rename_i s0 hs
  rcases aq h with ⟨rfl,z,_⟩|⟨z,h⟩
  ·cases z;exact .inl ⟨rfl,s0,hs,rfl⟩
  ·exact .inr ⟨z,h⟩
 ·rename_i n
  refine .inr ⟨λe=> ?_,h⟩
  subst e
  exact n s h
theorem cQ:∀{L:List Nat} {j:Nat} {ρ:a9} {s:Slot},(kK L ρ)[j]? =some (some s)->(j∈L/\∃s0,ρ[j]? =some (some s0)/\s=s0.frozen)\/(j∉L/\ρ[j]? =some (some s))
 |[],j,ρ,s,h=> .inr ⟨by simp,h⟩
 |i::L,j,ρ,s,h=>by
  rcases cQ (L:=L) (ρ:=nY i ρ) h with ⟨h1,s0,h2,h3⟩|⟨h1,h2⟩
  ·refine .inl ⟨GU _ h1,?_⟩
   rcases pE h2 with ⟨rfl,s1,g1,g2⟩|⟨_,g1⟩
   ·exact⟨s1,g1,by rw[h3,g2,qz]⟩
   ·exact⟨s0,g1,h3⟩
  ·rcases pE h2 with ⟨rfl,s1,g1,g2⟩|⟨n,g1⟩
   ·exact .inl ⟨GO,s1,g1,g2⟩
   ·exact .inr ⟨λm=>(GK.mp m).elim (λq=>n q.symm) h1,g1⟩
open Classical in
noncomputable def j5 (H F:Hp) (ρ:a9) (σ:St) (L:List Nat):Hp:=λz=>if ∃i∈L,dN H ρ σ i z then H z else F z
section
variable {K:Gs} {c:cO ly} {ρ:a9} {σ:St} {H F H' F':Hp} {L:List Nat}
theorem jp {i:Nat} {z:Gw} (hi:i∈L) (h:dN H ρ σ i z):j5 H F ρ σ L z=H z:=if_pos ⟨i,hi,h⟩
theorem fS {z:Gw} (h:¬∃i∈L,dN H ρ σ i z):j5 H F ρ σ L z=F z:=if_neg h
theorem RepF.snoc {vs:List (Gv×V)} {O8:List (Gv×D)} {f:Gv} {v:V} {d:D} (h:RepF K F vs O8) (r:cH K F v d):RepF K F (vs++[(f,v)]) (O8++[(f,d)]):=by
 induction O8 generalizing vs with
 |nil=>rw[h.nilI];exact .cons r .nil
 |cons p O8 ih=>
  obtain⟨k,x⟩:=p
  obtain⟨u,us,rfl,h1,h2⟩:=h.consI
  exact .cons h1 (ih h2)
theorem RI.lend (r:RI K c ρ σ H F) (L:List Nat):aN F (j5 H F ρ σ L)/\RI K c (kK L ρ) σ H (j5 H F ρ σ L):=by
 have grow:aN F (j5 H F ρ σ L):=λz u e=>by
  by_cases o:∃i∈L,dN H ρ σ i z
  ·obtain⟨i,hi,o⟩:=o
   rw[(r.owns o).2.1]at e
   cases e
  ·rw[fS o];exact e
 have out:∀{j:Nat} {z:Gw},j∉L->dN H ρ σ j z->j5 H F ρ σ L z=none:=λ{j z} hj o=>by
  rw[fS (λ⟨i,hi,o'⟩=>hj (by rw[r.owns_inj o o'];exact hi))]
  exact(r.owns o).2.1
 refine⟨grow,⟨⟨λz u e=> ?_,r.ext.keep,r.ext.grow.trans grow,λz e=> ?_⟩,λj d h=> ?_,λj d h=> ?_,λj d h=> ?_,r.bh,λj j' d d' a h h'=> ?_,?_,λM hM h=> ?_,λM hM M' T1 h h'=> ?_,r.fm.trans grow,⟨λj x O8 f hs h=> ?_,λj j' x O8 f hs s h h' OB=> ?_⟩,r.pin⟩⟩
 ·by_cases o:∃i∈L,dN H ρ σ i z
  ·obtain⟨i,hi,o⟩:=o
   rw[jp hi o]at e;exact e
  ·rw[fS o]at e;exact r.sub z u e
 ·by_cases o:∃i∈L,dN H ρ σ i z
  ·obtain⟨i,hi,o⟩:=o
   exact .inr (r.owns o).1
  ·rw[fS o]at e;exact r.ext.new z e
 ·rcases cQ h with ⟨hj,s0,h1,h2⟩|⟨_,h1⟩
  ·cases s0 with
   |val d'=>cases h2;obtain⟨v,k1,k2⟩:=r.val j d h1;exact⟨v,k1,k2.mono grow⟩
   |own d'=>
    cases h2
    obtain⟨a,o,k1,k2,k3,k4,k5⟩:=r.own j d h1
    have fa:j5 H F ρ σ L a=some o:=by rw[jp hj (.inl ⟨d,h1,k1⟩)];exact k2
    refine⟨.ref a,k1,?_⟩
    cases k5 with
    |lst q=>exact .lst fa (q.mono grow)
    |dic q n=>exact .dic fa (q.mono grow) n
   |cel x O8 f hs=>
    cases h2
    obtain⟨a,dx,b,k1,k2,k3⟩:=r.cel.ex j x O8 f hs h1
    have U7:=k2
    obtain⟨C,fs,vs,us,g1,g2,g3,g4,g5,g6,g7,g8,g9,VV⟩:=k2.ex
    have ow:∀z,(z=a\/z=dx\/fs.lookup f=some (.ref z))->j5 H F ρ σ L z=H z:=λz hz=>jp hj (.inr ⟨x,O8,f,hs,a,C,dx,fs,h1,k1,g1,hz⟩)
    refine⟨.ref a,k1, .ins (by rw[ow a (.inl rfl)];exact g1) (by rw[ow dx (.inr (.inl rfl))];exact k2.own) g2 (vs:=vs++[(f, .ref b)]) (λp hp=> ?_) (λg v hg=> ?_) ((g6.mono grow).snoc (.lst (by rw[ow b (.inr (.inr g3))];exact g4) (g5.mono grow)))⟩
    ·rcases HP.mp hp with q|q
     ·exact g7 p q
     ·rw[GS.mp q];exact g3
    ·rw[HB]
     rcases g8 g v hg with q|q
     ·rw[q];exact Hk _ GO
     ·exact HE _ q
   |bor d'=>cases h2
   |obj=>cases h2
  ·obtain⟨v,k1,k2⟩:=r.val j d h1;exact⟨v,k1,k2.mono grow⟩
 ·rcases cQ h with ⟨hj,s0,h1,h2⟩|⟨hj,h1⟩
  ·cases s0<;>cases h2
  ·obtain⟨a,o,k1,k2,k3,k4,k5⟩:=r.own j d h1
   exact⟨a,o,k1,k2,out hj (.inl ⟨d,h1,k1⟩),k4,k5.mono grow⟩
 ·rcases cQ h with ⟨hj,s0,h1,h2⟩|⟨hj,h1⟩
  ·cases s0 with
   |bor d'=>cases h2;exact r.bor j d h1
   |_=>cases h2
  ·exact r.bor j d h1
 ·have un:∀{j:Nat} {d:D},(kK L ρ)[j]? =some (some (.own d))->ρ[j]? =some (some (.own d)):=λh=>by
   rcases cQ h with ⟨hj,s0,h1,h2⟩|⟨hj,h1⟩
   ·cases s0<;>cases h2
   ·exact h1
  exact r.dis j j' d d' a (un h) (un h')
 ·rw[pD];exact r.len
 ·have h1:ρ[M.x]? =some (some .obj):=by
   rcases cQ h with ⟨hj,s0,h1,h2⟩|⟨hj,h1⟩
   ·cases s0 with
    |obj=>exact h1
    |_=>cases h2
   ·exact h1
  obtain⟨a,dx,fs,k0,k1,k2,k3,k4,k5,k6⟩:=r.obj M hM h1
  have no:∀{z:Gw} {u:HO},H z=some u->(∀d,¬gF K F u d)->F z=none->j5 H F ρ σ L z=none:=λ{z u} hz nr hf=>by
   rw[fS]
   ·exact hf
   ·rintro⟨i,hi,o⟩
    rcases o with ⟨d,g1,g2⟩|⟨x,O8,f,hs,a,C,dx,fs,g1,_⟩
    ·obtain⟨p,u',q1,q2,_,_,q5⟩:=r.own i d g1
     rw[g2]at q1
     cases q1
     rw[hz]at q2
     cases q2
     exact nr d q5
    ·have:=r.cel.one i M.x x O8 f hs _ g1 h1 rfl
     subst this
     rw[h1]at g1
     cases g1
  exact⟨a,dx,fs,k0,k1,k2,k3,no k2 (λd q=>by cases q) k4,no k3 (λd q=>by cases q) k5,k6⟩
 ·have un:∀{j:Nat},(kK L ρ)[j]? =some (some .obj)->ρ[j]? =some (some .obj):=λh=>by
   rcases cQ h with ⟨hj,s0,h1,h2⟩|⟨hj,h1⟩
   ·cases s0 with
    |obj=>exact h1
    |_=>cases h2
   ·exact h1
  exact r.odis M hM M' T1 (un h) (un h')
 ·rcases cQ h with ⟨hj,s0,h1,h2⟩|⟨hj,h1⟩
  ·cases s0<;>cases h2
  ·obtain⟨a,dx,b,k1,k2,k3⟩:=r.cel.ex j x O8 f hs h1
   have U7:=k2
   obtain⟨C,fs,vs,us,g1,g2,g3,g4,g5,g6,g7⟩:=k2.ex
   have ow:∀z,(z=a\/z=dx\/fs.lookup f=some (.ref z))->j5 H F ρ σ L z=none:=λz hz=>out hj (.inr ⟨x,O8,f,hs,a,C,dx,fs,h1,k1,g1,hz⟩)
   refine⟨a,dx,b,k1,⟨⟨C,fs,vs,us,g1,g2,g3,g4,g5.mono grow,g6.mono grow,g7⟩,k2.own,ow a (.inl rfl),ow dx (.inr (.inl rfl)),ow b (.inr (.inr g3)),k2.za,k2.zd,k2.zb⟩,λj' d h'=> ?_⟩
   rcases cQ h' with ⟨Ri,s0,QG,PL⟩|⟨Ri,QG⟩
   ·cases s0<;>cases PL
   ·exact k3 j' d QG
 ·have un:∀{j:Nat} {s:Slot},(kK L ρ)[j]? =some (some s)->s.single=true->ρ[j]? =some (some s):=λh hs=>by
   rcases cQ h with ⟨hj,s0,h1,h2⟩|⟨hj,h1⟩
   ·cases s0 with
    |obj=>rw[h2];exact h1
    |_=>rw[h2]at hs;cases hs
   ·exact h1
  exact r.cel.one j j' x O8 f hs s (un h rfl) (un h' OB) OB
def uS (f:Gv) (ρ:a9) (i:Nat):Bool:=match ρ[i]? with
 |some (some (.cel _ _ g _))=>g==f
 |_=>true
theorem RI.unlend (r:RI K c ρ σ H F) {f:Gv} (hc:L.all (uS f ρ)=true) (e:bf H (j5 H F ρ σ L) H' F') {v:V} {d:D} (q:cH K F' v d) (cl:gZ f d):∃F2,bf H F H' F2/\cH K F2 v d:=by
 have up:∀{i:Nat} {z:Gw} {u:HO},i∈L->dN H ρ σ i z->H z=some u->F' z=some u:=λhi o h=>e.grow _ _ (by rw[jp hi o];exact h)
 have Px:∀{i:Nat} {z:Gw},i∈L->dN H ρ σ i z->(∃d,gF K F (Option.getD (H z) (.own 0)) d/\∃u,H z=some u)\/(∃C dx fs,H z=some (.ins C dx fs)/\fs.lookup f≠none)\/(∃a,H z=some (.own a)/\dN H ρ σ i a)\/∃us,H z=some (.lst us):=λ{i z} hi o=>by
  rcases o with ⟨d,g1,g2⟩|⟨x,O8,g,hs,a,C,dx,fs,g1,g2,g3,g4⟩
  ·obtain⟨p,u,q1,q2,_,_,q5⟩:=r.own i d g1
   rw[g2]at q1
   cases q1
   exact .inl ⟨d,by rw[q2];exact q5,u,q2⟩
  ·obtain⟨b,m1,m2,m3⟩:=r.celIn g1 g2 g3
   have hg:g=f:=by
    have:=Kh.mp hc i hi
    unfold uS at this
    rw[g1]at this
    simpa using this
   rcases g4 with rfl|rfl|g4
   ·exact .inr (.inl ⟨C,dx,fs,g3,by rw[<-hg,m2];simp⟩)
   ·exact .inr (.inr (.inl ⟨a,m1.own, .inr ⟨x,O8,g,hs,a,C,_,fs,g1,g2,g3, .inl rfl⟩⟩))
   ·rw[m2]at g4
    cases g4
    obtain⟨C',QR,vs,us,q1,q2,q3,q4,_⟩:=m1.ex
    exact .inr (.inr (.inr ⟨us,q4⟩))
 refine⟨ii F' (λz=>∃i∈L,dN H ρ σ i z),⟨λz u h=>e.sub z u (nX h).2,e.keep,λz u h=> ?_,λz h=> ?_⟩,q.cut (f:=f) ?_ ?_ ?_ cl⟩
 ·have no:¬∃i∈L,dN H ρ σ i z:=λ⟨i,hi,o⟩=>by rw[(r.owns o).2.1]at h;cases h
  rw[kJ no]
  exact e.grow z u (by rw[fS no];exact h)
 ·cases w:ii F' (λz=>∃i∈L,dN H ρ σ i z) z with
  |none=>exact absurd w h
  |some u=>
   obtain⟨no,w2⟩:=nX w
   rcases e.new z (by rw[w2];simp)with k|k
   ·rw[fS no]at k;exact .inl k
   ·exact .inr k
 ·rintro z ⟨i,hi,o⟩ vs h
  obtain⟨_,_,u,hu⟩:=r.owns o
  rw[up hi o hu]at h
  cases h
  rcases Px hi o with ⟨d,k,_⟩|⟨C,dx,fs,k,_⟩|⟨a,k,_⟩|⟨us,k⟩
  ·rw[hu]at k;cases k
  ·rw[hu]at k;cases k
  ·rw[hu]at k;cases k
  ·rw[hu]at k;cases k
 ·rintro z ⟨i,hi,o⟩ C dx fs h
  obtain⟨_,_,u,hu⟩:=r.owns o
  rw[up hi o hu]at h
  cases h
  rcases Px hi o with ⟨d,k,_⟩|⟨C',Sv,QR,k,k2⟩|⟨a,k,_⟩|⟨us,k⟩
  ·rw[hu]at k;cases k
  ·rw[hu]at k;cases k;exact k2
  ·rw[hu]at k;cases k
  ·rw[hu]at k;cases k
 ·rintro z a ⟨i,hi,o⟩ h
  obtain⟨_,_,u,hu⟩:=r.owns o
  rw[up hi o hu]at h
  cases h
  rcases Px hi o with ⟨d,k,_⟩|⟨C',Sv,QR,k,k2⟩|⟨a',k,k2⟩|⟨us,k⟩
  ·rw[hu]at k;cases k
  ·rw[hu]at k;cases k
  ·rw[hu]at k;cases k;exact⟨i,hi,k2⟩
  ·rw[hu]at k;cases k
end
section
variable {X:Cx} {e:GD} {es:List GD} {f:a9->R D} {g:a9->R Bool} {pos:Hr}
open Classical in
noncomputable def nZ (x:Gv) (L:List Nat) (f:a9->R D):a9->R D:=λρ=>if L.all (uS x ρ)=true then (f (kK L ρ)>>=λd=>if gZ x d then .ok d else .bad)else .bad
theorem Ad (x:Gv) (L:List Nat) (h:PQ ly X e f):PQ ly X e (nZ x L f):=λc=>PE.weak (h c) λσ H Q ⟨F,ρ,ri,w⟩=>by
 unfold nZ at w
 split at w
 ·rename_i hc
  obtain⟨s,Pd⟩:=ri.lend L
  refine⟨_,_,Pd,(aC.bind.mp w).imp λd _ w1 v H1 F1 e1 r1=> ?_⟩
  split at w1
  ·rename_i cl
   obtain⟨F2,e2,r2⟩:=ri.unlend hc e1 r1 cl
   exact w1 v H1 F2 e2 r2
  ·exact w1.elim
 ·exact w.elim
def lB (L:List Nat) (g:a9->R Bool):a9->R Bool:=λρ=>g (kK L ρ)
theorem mS (L:List Nat) (h:rh ly X e g):rh ly X e (lB L g):=λc=>PT.weak (h c) λσ H Q ⟨F,ρ,ri,w⟩=>by
 obtain⟨s,Pd⟩:=ri.lend L
 exact⟨_,_,Pd,aC.imp w λb _ w1 H1 F1 e1=>w1 H1 F (rS ri.sub e1.keep)⟩
end
end L2.Pu
namespace L2.Pu
open PySem PySem.Spec PyProof.Rows
variable {ly:List df}
theorem RI.fldO {K:Gs} {c:cO ly} {ρ:a9} {σ:St} {H F:Hp} (r:RI K c ρ σ H F) {f:Gv} {L:df} (hL:L∈ly) (hρ:ρ[L.x]? =some (some .obj)) {a dx p:Gw} {fs:List (Gv×V)} {i:Nat} {o:HO} {d:D} (hx:σ[L.x]? =some (some (.ref a))) (ha:H a=some (.ins L.C dx fs)) (hf:(f,i)∈L.fl)
  (hn:∀p∈L.fl,p.1=f<->p.2=i) (S_:L.x≠i) (Rl:∀M∈ly,M≠L->M.x≠i/\∀p∈M.fl,p.2≠i) (RV:i<σ.length) (hp:H p=some o) (fp:F p=none) (zp:c.H0 p=none) (ro:gF K F o d) (ne:∀(j:Nat) d',ρ[j]? =some (some (.own d'))->σ[j]? ≠some (some (.ref p))):
  RI K c (ρ.set i (some (.own d))) (σ.set i (some (.ref p))) (b9 H a (.ins L.C dx (e_ f (.ref p) fs))) F:=by
 obtain⟨b,Sv,QR,k0,k1,k2,k3,k4,k5,k6,k7,k8,k9,Tg⟩:=r.obj L hL hρ
 rw[hx]at k1
 cases k1
 rw[ha]at k2
 cases k2
 have Xf:p≠a:=λz=>by subst z;rw[ha]at hp;cases hp;cases ro
 refine⟨⟨λx y e=> ?_,λx y e=> ?_,r.ext.grow,r.ext.new⟩,λj e q=> ?_,λj e q=> ?_,λj e q=> ?_,r.bh,λj k e e' x q1 q2 q3 q4=> ?_,by simp[r.len],λM hM hq=> ?_,λM hM M' T1 U1 U2 x q1 q2=> ?_,r.fm, .no λj x O8 g hs w=> ?_,λM hM a h=> ?_⟩
 ·rw[ao (λz=>by rw[z,k4]at e;cases e)];exact r.sub x y e
 ·rw[ao (λz=>by rw[z,k6]at e;cases e)];exact r.ext.keep x y e
 ·rcases aq q with ⟨rfl,z,l⟩|⟨z,q⟩
  ·cases z
  ·rw[ac z];exact r.val j e q
 ·rcases aq q with ⟨rfl,z,l⟩|⟨z,q⟩
  ·cases z;exact⟨p,o,dU RV,by rw[ao Xf];exact hp,fp,zp,ro⟩
  ·obtain⟨x,o,g1,g2,g3,g4,g5⟩:=r.own j e q
   have nx:x≠a:=λz=>by subst z;rw[ha]at g2;cases g2;cases g5
   exact⟨x,o,by rw[ac z];exact g1,by rw[ao nx];exact g2,g3,g4,g5⟩
 ·rcases aq q with ⟨rfl,z,l⟩|⟨z,q⟩
  ·cases z
  ·rw[ac z];exact r.bor j e q
 ·rcases aq q1 with ⟨rfl,z,l⟩|⟨z,q1⟩
  ·rw[dU RV]at q3
   cases q3
   rcases aq q2 with ⟨rfl,z',l⟩|⟨z',q2⟩
   ·rfl
   ·rw[ac z']at q4;exact absurd q4 (ne k e' q2)
  ·rw[ac z]at q3
   rcases aq q2 with ⟨rfl,z',l⟩|⟨z',q2⟩
   ·rw[dU RV]at q4
    cases q4
    exact absurd q3 (ne j e q1)
   ·rw[ac z']at q4
    exact r.dis j k e e' x q1 q2 q3 q4
 ·by_cases QE:M=L
  ·subst QE
   refine⟨a,dx,e_ f (.ref p) fs,k0,by rw[ac S_.symm];exact hx,au,?_,k4,k5,k6,k7,λp hp=> ?_,λg u hu=> ?_,qx _ _ Tg⟩
   ·rw[ao (λz=>by rw[z,ha]at k3;cases k3)];exact k3
   ·rw[bX]
    by_cases e:p.1=f
    ·rw[if_pos e,(hn p hp).mp e,dU RV];rfl
    ·rw[if_neg e,ac (λz=>e ((hn p hp).mpr z.symm))];exact k8 p hp
   ·rw[bX]at hu
    by_cases e:g=f
    ·subst e;exact IH.mpr ⟨_,hf,rfl⟩
    ·rw[if_neg e]at hu;exact k9 g u hu
  ·have ho:=Rl M hM QE
   rw[ac ho.1.symm]at hq
   obtain⟨b,dy,gs,g0,g1,g2,g3,g4,g5,g6,g7,g8,g9⟩:=r.obj M hM hq
   have nb:b≠a:=λz=>QE (r.odis M hM L hL hq hρ a (by rw[<-z];exact g1) hx)
   have nd:dy≠a:=λz=>by subst z;rw[ha]at g3;cases g3
   refine⟨b,dy,gs,g0,by rw[ac ho.1.symm];exact g1,by rw[ao nb];exact g2,by rw[ao nd];exact g3,g4,g5,g6,g7,λp hp=> ?_,g9⟩
   rw[ac (ho.2 p hp).symm];exact g8 p hp
 ·have Sg:∀M∈ly,M.x≠i:=λM hM=>by
   by_cases QE:M=L
   ·subst QE;exact S_
   ·exact(Rl M hM QE).1
  rw[ac (Sg M hM).symm]at q1 U1
  rw[ac (Sg M' T1).symm]at q2 U2
  exact r.odis M hM M' T1 U1 U2 x q1 q2
 ·rcases aq w with ⟨rfl,z,l⟩|⟨z,w⟩
  ·cases z
  ·have:=r.cel.one j L.x x O8 g hs .obj w hρ rfl
   subst this
   rw[hρ]at w
   cases w
 ·have Sg:M.x≠i:=by
   by_cases QE:M=L
   ·subst QE;exact S_
   ·exact(Rl M hM QE).1
  rw[ac Sg.symm];exact r.pin M hM a h
section
variable {X:Cx} {pos Oh px pl:Hr} {f y g:Gv}
def yh (x i:Nat):a9->R a_:=λρ=>match ρ[x]? with
 |some (some .obj)=> .ok (.nx (ρ.set i (some (.own (.lst [])))))
 |_=> .bad
theorem CI {L:df} (i:Nat) (hC:qX X.K L.C) (n:cU X.K L.C f) (A:xV ly L f i) (hN:X.N[L.x]? =some y:=by rfl) (Vd:ke X.env.scope y:=by first|exact Hv rfl|exact Hh (Hv rfl)|exact Hh (Hh rfl)) (hd:(y==("__debug__":Gv))=false:=by decide)
  (P2:(y==("__classdict__":Gv))=false:=by decide) (hi:X.N[i]? =some g:=by rfl) (hvis:¬ke X.env.scope g:=by decide+kernel) (hs:HA (.List [] pl) (some (.Attribute (.Name y px) f Oh)) pos.line X.env=pure false:=by rfl):
  kd ly X (.Assign [.Attribute (.Name y px) f Oh] (.List [] pl) pos) (yh L.x i):=by
 intro c O0 s σ H D I q
 obtain⟨F,ρ,ri,w⟩:=q
 have RV:i<σ.length:=by rw[I.len];exact(GV.mp hi).1
 unfold yh at w
 split at w
 ·rename_i hρ
  refine uO i hi hvis (pv L.x hN Vd hd P2) (pT cY) hs O0 s σ H D I ⟨Il _,λp hp=> ?_⟩
  have Ra:=ri.step (bf.layOwn ri.sub (o:= .lst []) hp)
  obtain⟨a,dx,fs,h0,h1,h2,h3,h4,h5,h6,h7,h8,h9,Th⟩:=Ra.obj L A.mem hρ
  have Oe:fs.length<1000:=by
   have:(fs.map (·.1)).length<=(L.fl.map (·.1)).length:=cP Th λq hq=>by
    obtain⟨u,hu⟩:=ic hq
    exact h9 q u hu
   rw[GA,GA]at this
   exact KP this A.few
  refine⟨_,h1,a,L.C,dx,fs,rfl,h2,hC,n,Oe,?_⟩
  refine w _ _ F (aN.refl _) (Ra.fldO A.mem hρ h1 h2 A.fl A.un A.x A.oth RV au (ri.sub.free hp) (ri.ext.keep.free hp) (.lst .nil) λj d' hj e=> ?_)
  obtain⟨b,o',q1,q2,_⟩:=ri.own j d' hj
  rw[e]at q1
  cases q1
  rw[hp]at q2
  cases q2
 ·exact w.elim
end
def oJ (fl:List (Gv×Nat)) (fo:Gv) (io:Nat) (ρ:a9):R (List (Gv×D)×Gv×List D):=match ρ[0]? with
 |some (some Slot.obj)=>(match ρ[io]? with
  |some (some (.own (.lst hs)))=>(match cK fl ρ with
   |some fds=> .ok (fds,fo,hs)
   |none=> .bad)
  |_=> .bad)
 |_=> .bad
def j6 (k n:Nat) (fl:List (Gv×Nat)) (fo:Gv) (io:Nat) (g:a9->R a_) (ds:List D):R (List (Gv×D)×Gv×List D):=if ds.length=k then g (gH n ds)>>=λo=>match o with
 | .nx ρ=>oJ fl fo io ρ
 |_=> .bad else .bad
def uT (K:Gs) (C:Gw) (cls:Gv) (k:Nat) (mi:List D->R (List (Gv×D)×Gv×List D)):Sp:=λvs H Q E=>∃F x dx us ds Hz,vs= .ref x::us/\us.length=k/\aN F Hz/\Hz x=none/\Hz dx=none/\dx≠x/\H=b9 (b9 Hz dx (.own x)) x (.ins C dx [])/\Reps K F us ds/\match mi ds with
 | .ok r=>∀H' F' Sv b,bf Hz F H' F'->iP K Hz H' F' x Sv b cls r.1 r.2.1 r.2.2->Q .non H'
 | .err z _=>∀ec a H' F',dC K z ec->bf Hz F H' F'->E ec a H'
 | .bad=>False
theorem Ae {K:Gs} {C:Gw} {cls fo:Gv} {io:Nat} {fl:List (Gv×Nat)} {c:cO [⟨0,C,fl++[(fo,io)]⟩]} {ρ:a9} {σ:St} {H F:Hp} {fds:List (Gv×D)} {hs:List D} {x:Gw} (ri:RI K c ρ σ H F) (hρ:ρ[0]? =some (some .obj)) (Ve:c.oa 0=some x) (Rf:GJ K GG cls=some (some (.ref C)))
  (ho:ρ[io]? =some (some (.own (.lst hs)))) (h:cK fl ρ=some fds) (Uc:fo∉fl.map (·.1)):∃dx b,iP K c.H0 H F x dx b cls fds fo hs:=by
 obtain⟨a,dx,fs,h0,h1,h2,h3,h4,h5,h6,h7,h8,h9,Th⟩:=ri.obj _ (GS.mpr rfl) hρ
 cases h0 x Ve
 obtain⟨vs,g1,g2,g3⟩:=jT ri h λp hp=>h8 p (HE _ hp)
 obtain⟨b,o,k1,k2,k3,k4,k5⟩:=ri.own io _ ho
 cases k5 with
 |lst q=>
  have lf:fs.lookup fo=some (.ref b):=by
   have:=h8 (fo,io) (Hk _ GO)
   rw[this]
   show (σ[io]?).join=_
   rw[k1];rfl
  refine⟨dx,b,⟨⟨C,fs,vs,_,h2,Rf,lf,k2,q,g1,g3,λg v hg=> ?_,Th,by rw[g2];exact Uc⟩,h3,h4,h5,k3,h6,h7,k4⟩⟩
  have:=h9 g v hg
  rw[HB]at this
  rcases HP.mp this with z|z
  ·exact .inr (by rw[g2];exact z)
  ·exact .inl (GS.mp z)
theorem yi {P:GP} {w:G_} {K:Gs} {mg:Gv->Option Gu} {base:GY} {x qual cls fo:Gv} {st:Hl} {f C:Gw} {fd:HX} {N ps:List Gv} {k n m io:Nat} {fl:List (Gv×Nat)} {g:a9->R a_} (F:ux K x qual st f fd) (S:aK N ps (ah st))
  (Rf:GJ K GG cls=some (some (.ref C))) (hn:ps.length=n+1) (hm:N.length=m+1) (hg:∀p∈fl++[(fo,io)],n<p.2) (S6:n<=m) (Uc:fo∉fl.map (·.1))
  (Oo:∀(Oc:Gu) (A:Hd) (outer:List Iz) (s:Gx) (H:Hp) (E:XK),bY k (A.deeper (IE qual (ah st) s.heap.objs.size f Oc))->
   ia [⟨0,C,fl++[(fo,io)]⟩] (gg (iO P w) P w K mg base N qual (ah st) f Oc A outer s H E) (b0 st) g):dB P w K mg base (iO P w) (k+1) f fd ps (uT K C cls n (j6 n m fl fo io g)):=by
 refine EG F S (λvs H Q E h=> ?_) (λOc A outer s H vs Q E hr h=> ?_)
 ·obtain⟨Fz,y,dy,us,ds,Hz,rfl,hl,_⟩:=h
  rw[GX,hl,hn]
 ·obtain⟨Fz,y,dy,us,ds,Hz,rfl,hl,sub,hy,U5,Py,rfl,r,w⟩:=h
  refine⟨_,Oo Oc A outer s _ E hr ⟨⟨Hz,Fz,λ_=>none,λz _=>∀ec a H' F',dC K z ec->bf Hz Fz H' F'->E ec a H',λ_=>some y,λ_=>none⟩,qc λz ρ er ec a H' F' σ hc ri=>er ec a H' F' hc ri.ext⟩,?_⟩
  refine⟨Fz,gH m ds,pj hm sub hy U5 Py r (by omega) (λp hp=>by rw[hl];exact hg p hp),?_⟩
  have hd:ds.length=n:=by rw[<-r.length];exact hl
  unfold j6 at w
  rw[if_pos hd]at w
  cases e:g (gH m ds)with
  |bad=>rw[e]at w;exact w.elim
  |err c ρ=>rw[e]at w;exact w
  |ok o=>
   rw[e]at w
   cases o with
   |nx ρ=>
    intro σ' H' F' _ Pd
    rw[al]at w
    cases hρ:ρ[0]? with
    |none=>simp only[oJ,hρ]at w
    |some s0=>
     cases s0 with
     |none=>simp only[oJ,hρ]at w
     |some s0=>
      cases s0 with
      |obj=>
       cases ho:ρ[io]? with
       |none=>simp only[oJ,hρ,ho]at w
       |some s1=>
        cases s1 with
        |none=>simp only[oJ,hρ,ho]at w
        |some s1=>
         cases s1 with
         |own d=>
          cases d with
          |lst hs=>
           cases e2:cK fl ρ with
           |none=>simp only[oJ,hρ,ho,e2]at w
           |some WU=>
            simp only[oJ,hρ,ho,e2]at w
            obtain⟨dx,b,A⟩:=Ae Pd hρ rfl Rf ho e2 Uc
            exact w H' F' dx b Pd.ext A
          |_=>simp only[oJ,hρ,ho]at w
         |_=>simp only[oJ,hρ,ho]at w
      |_=>simp only[oJ,hρ]at w
   |_=>exact w.elim
structure rY (P:GP) (w:G_) (K:Gs) (mg:Gv->Option Gu) (base:GY) (k:Nat) (cls:Gv) (n:Nat) (mi:List D->R (List (Gv×D)×Gv×List D)):Prop where
 ex:∃C f fd ps,dB P w K mg base (iO P w) k f fd ps (uT K C cls n mi)/\mg cls=some (.ref C)/\Mk K C f/\dO K fd ps []
theorem yj {P:GP} {w:G_} {K:Gs} {mg:Gv->Option Gu} {base:GY} {cls qual fo:Gv} {st:Hl} {N ps fs:List Gv} {k n m io:Nat} {fl:List (Gv×Nat)} {g:a9->R a_} (A:lr K mg cls qual st ps fs) (S:aK N ps (ah st)) (hn:ps.length=n+1) (hm:N.length=m+1) (hg:∀p∈fl++[(fo,io)],n<p.2) (S6:n<=m) (Uc:fo∉fl.map (·.1))
  (Oo:∀(C f:Gw) (Oc:Gu) (A:Hd) (outer:List Iz) (s:Gx) (H:Hp) (E:XK),qX K C->(∀x∈fs,cU K C x)->bY k (A.deeper (IE qual (ah st) s.heap.objs.size f Oc))->
   ia [⟨0,C,fl++[(fo,io)]⟩] (gg (iO P w) P w K mg base N qual (ah st) f Oc A outer s H E) (b0 st) g):rY P w K mg base (k+1) cls n (j6 n m fl fo io g):=by
 obtain⟨C,f,fd,F,h1,h2,h3,h4,h5⟩:=A.ex
 exact⟨C,f,fd,ps,yi F S h1.ns hn hm hg S6 Uc λOc A outer s H E hr=>Oo C f Oc A outer s H E h1.cl h5 hr,h2,h3,h4⟩
def EM (i:Nat) (ρ:a9):Bool:=(Hy ρ.length).all λj=>j==i||(match ρ[j]? with
 |some (some s)=> !s.single
 |_=>true)
theorem qA {i j:Nat} {ρ:a9} {s:Slot} (h:EM i ρ=true) (hs:ρ[j]? =some (some s)) (hj:j≠i):s.single=false:=by
 have:=Kh.mp h j (HW.mpr (GV.mp hs).1)
 rw[hs]at this
 simpa[hj]using this
theorem RI.setCel {K:Gs} {c:cO ly} {ρ:a9} {σ:St} {H F:Hp} (r:RI K c ρ σ H F) (i:Nat) {a dx b:Gw} {x:Gv} {O8:List (Gv×D)} {f:Gv} {hs:List D} (hf:iQ ly i) (hn:EM i ρ=true) (A:iP K c.H0 H F a dx b x O8 f hs) (ne:∀(j:Nat) d',ρ[j]? =some (some (.own d'))->σ[j]? ≠some (some (.ref b))):
  RI K c (ρ.set i (some (.cel x O8 f hs))) (σ.set i (some (.ref a))) H F where
 obj:=λL hL hρ=>by
  rw[ac (hf L hL).1.symm]at hρ
  have:=qA hn hρ (hf L hL).1
  cases this
 odis:=λL hL L' QB q1 q2 b k1 k2=>by
  rw[ac (hf L hL).1.symm]at k1 q1
  rw[ac (hf L' QB).1.symm]at k2 q2
  exact r.odis L hL L' QB q1 q2 b k1 k2
 fm:=r.fm
 ext:=r.ext
 val:=λj e q=>by
  rcases aq q with ⟨rfl,z,l⟩|⟨z,q⟩
  ·cases z
  ·rw[ac z];exact r.val j e q
 own:=λj e q=>by
  rcases aq q with ⟨rfl,z,l⟩|⟨z,q⟩
  ·cases z
  ·rw[ac z];exact r.own j e q
 bor:=λj e q=>by
  rcases aq q with ⟨rfl,z,l⟩|⟨z,q⟩
  ·cases z
  ·rw[ac z];exact r.bor j e q
 bh:=r.bh
 dis:=λj k e e' a q1 q2 q3 q4=>by
  rcases aq q1 with ⟨rfl,z,l⟩|⟨z,q1⟩
  ·cases z
  ·rcases aq q2 with ⟨rfl,z',l⟩|⟨z',q2⟩
   ·cases z'
   ·rw[ac z]at q3;rw[ac z']at q4
    exact r.dis j k e e' a q1 q2 q3 q4
 len:=by simp[r.len]
 pin:=λL hL b h=>by rw[ac (hf L hL).1.symm];exact r.pin L hL b h
 cel:=by
  refine⟨λj y vd g hh q=> ?_,λj k y vd g hh s q1 q2 OB=> ?_⟩
  ·rcases aq q with ⟨rfl,z,l⟩|⟨z,q⟩
   ·cases z
    refine⟨a,dx,b,dU (by rw[<-r.len];exact l),A,λk d hk=> ?_⟩
    rcases aq hk with ⟨rfl,z',l'⟩|⟨z',hk⟩
    ·cases z'
    ·rw[ac z'];exact ne k d hk
   ·have:=qA hn q (II z)
    cases this
  ·rcases aq q1 with ⟨rfl,z,l⟩|⟨z,q1⟩
   ·rcases aq q2 with ⟨rfl,z',l'⟩|⟨z',q2⟩
    ·rfl
    ·have:=qA hn q2 (II z')
     rw[OB]at this
     cases this
   ·have:=qA hn q1 (II z)
    cases this
section
variable {X:Cx} {e:GD} {es:List GD} {fs:a9->R (List D)} {cls:Gv} {p pos Qf Oh:Hr}
def qB (i:Nat) (cls:Gv) (n:Nat) (mi:List D->R (List (Gv×D)×Gv×List D)) (fs:a9->R (List D)):a9->R a_:=λρ=>if EM i ρ=true then (fs ρ>>=λds=>if ds.length=n then (match mi ds with
 | .ok r=> .ok (.nx (ρ.set i (some (.cel cls r.1 r.2.1 r.2.2))))
 | .err x _=> .err x ρ
 | .bad=> .bad)else .bad)else .bad
theorem Af (i:Nat) {x:Gv} {k n:Nat} {mi:List D->R (List (Gv×D)×Gv×List D)} (Xg:X.N.Nodup) (G:rY X.prog X.w X.K X.mg X.base k cls n mi) (hr:bY (k+1) X.A) (ha:sx ly X (e::es) fs) (hi:X.N[i]? =some x:=by rfl) (hx:wH X.env.scope x:=by first|exact Hv rfl|exact Hh rfl)
  (hs:HA (.Call (.Name cls p) (e::es) [] pos) (some (.Name x Oh)) Qf.line X.env=pure false:=by rfl) (hf:X.fn x=true\/X.env.scope.names.lookup x=some .local:=by first|exact .inl rfl|exact .inr rfl|assumption)
  (hg:Gl X cls:=by rfl) (Pe:(cls==("__debug__":Gv))=false:=by decide) (he:Gy (e::es) X.env=(false,GW e X.env)::Gy es X.env:=by rfl) (OT:(Hb pos (Gy es X.env)).any (·.1)=false:=by rfl)
  (P_:iQ ly i:=by(repeat (first|assumption|exact L2.Pu.dS|refine L2.Pu.d6 ⟨by first|decide|simp,by first|decide|simp⟩ ?_))):kd ly X (.Assign [.Name x Oh] (.Call (.Name cls p) (e::es) [] pos) Qf) (qB i cls n mi fs):=by
 obtain⟨C,f,fd,ps,h1,h2,h3,h4⟩:=G.ex
 refine λc=>PS.weak (l6 Xg hi hx (ur h3 h1 hr hg h2 h4 .nil (nI c) (ha c) Pe he OT) hs hf) λD σ H q=> ?_
 obtain⟨F,ρ,ri,w⟩:=q
 unfold qB at w
 split at w
 ·rename_i hn
  refine⟨F,ρ,ri,(aC.bind.mp w).imp λds _ w1 vs H1 F1 e1 r1 y dy hy U5 Py=> ?_⟩
  rw[Ig]
  split at w1
  ·rename_i hl
   have Ra:=ri.step e1
   refine⟨F1,y,dy,vs,ds,H1,rfl,by rw[r1.length];exact hl,e1.sub,hy,U5,Py,rfl,r1,?_⟩
   split at w1
   ·rename_i r hm
    intro H' F' Sv b e' A
    refine⟨rfl,?_⟩
    have kf:∀{z:Gw},H1 z=none->c.1.H0 z=none:=λh=>Ra.ext.keep.free h
    refine w1 _ H' F' (e1.grow.trans e'.grow) ((Ra.step e').setCel i P_ hn ⟨A.ex,A.own,A.fa,A.fd,A.fb,kf A.za,kf A.zd,kf A.zb⟩ λj d' hj ej=> ?_)
    obtain⟨q,o,q1,q2,_⟩:=Ra.own j d' hj
    rw[ej]at q1
    cases q1
    have:=A.zb
    rw[q2]at this
    cases this
   ·exact λec a H' F' hc e'=>⟨_,ρ,F',hc,Ra.step e',w1⟩
   ·exact w1.elim
  ·exact w1.elim
 ·exact w.elim
end
end L2.Pu
namespace L2.Pu
open PySem PySem.Spec PyProof.Rows
variable {ly:List df}
section
variable {K:Gs} {F:Hp}
def fU:List D->Option (List Bool)
 |[]=>some []
 | .bl b::r=>(fU r).map (b::·)
 |_=>none
theorem lC:∀{ds:List D} {bs:List Bool} {vs:List V},fU ds=some bs->Reps K F vs ds->vs=bs.map V.bl:=by
 intro ds
 induction ds with
 |nil=>intro bs vs h r;cases h;rw[r.nilI];rfl
 |cons d r ih=>
  intro bs vs h g
  obtain⟨v,us,rfl,r1,t⟩:=g.consI
  cases d with
  |bl b=>
   cases r1
   replace h:(fU r).map (b::·)=some bs:=h
   cases e:fU r with
   |none=>rw[e]at h;cases h
   |some ms=>rw[e]at h;cases h;rw[ih e t];rfl
  |_=>cases h
theorem w8 (bs:List Bool):fU (bs.map .bl)=some bs:=by
 induction bs with
 |nil=>rfl
 |cons n r ih=>show (fU (r.map D.bl)).map (n::·)=_;rw[ih];rfl
def qC:List D->Option D
 |[.lst ds]=>(fU ds).map λbs=> .bl (bs.any id)
 |_=>none
theorem jq:jN K (λxs H Q=>∃(p:Gw) (bs:List Bool),xs=[.ref p]/\c9 K H p (bs.map V.bl)/\Q (.bl (bs.any id)) H) qC:=by
 intro vs ds d H F Q s rv h k
 match ds,h with
 |[.lst xs],h=>
  obtain⟨v,rfl,r⟩:=rv.one
  obtain⟨a,ws,rfl,h1,h2⟩:=r.lst s
  replace h:(fU xs).map (λbs=>D.bl (bs.any id))=some d:=h
  cases e:fU xs with
  |none=>rw[e]at h;cases h
  |some bs=>
   rw[e]at h
   cases h
   rw[lC e h2]at h1
   exact⟨a,bs,rfl,c9.of h1,k _ H F (bf.refl s) (.bl _)⟩
theorem g_:Ho "any"=some (.builtin "any"):=by decide+kernel
end
section
variable {X:Cx} {a o e:GD} {fa fo fk:a9->R D} {Oa O4 pos Pz p1 p2:Hr}
def mT (f:a9->R D):a9->R D:=λρ=>f ρ>>=λd=>match d with
 | .lst ds=>(match bw ds with|some ns=>if ns.length<4000 then .ok (.int (dR ns))else .bad|none=> .bad)
 | .tup ds=>(match bw ds with|some ns=>if ns.length<4000 then .ok (.int (dR ns))else .bad|none=> .bad)
 |_=> .bad
theorem yk (hc:X.calm=true) (TU:X.mg "len"=none) (Sr:X.mg "set"=none) (ha:PB ly X a fa) (TV:Gl X "len":=by rfl) (V2:Gl X "set":=by rfl)
  (SR:Gy [a] X.env=(false,GW a X.env)::Gy [] X.env:=by rfl) (RT:(Hb Pz (Gy [] X.env)).any (·.1)=false:=by rfl)
  (RM:Gy [.Call (.Name "set" p2) [a] [] Pz] X.env=(false,GW (.Call (.Name "set" p2) [a] [] Pz) X.env)::Gy [] X.env:=by rfl) (SS:(Hb pos (Gy [] X.env)).any (·.1)=false:=by rfl):
  PQ ly X (.Call (.Name "len" p1) [.Call (.Name "set" p2) [a] [] Pz] [] pos) (mT fa):=λc=>
 PE.weak (vF hc (ha c) TU Sr TV V2 SR RT RM SS) λσ H Q ⟨F,ρ,ri,w⟩=>⟨F,ρ,ri,(aC.bind.mp w).imp λd _ w1 v H1 F1 e1 r1=>by
  cases d with
  |lst ds=>
   obtain⟨p,vs,rfl,h1,h2⟩:=r1.lst e1.sub
   cases q:bw ds with
   |none=>simp only[q]at w1;exact w1.elim
   |some ns=>
    simp only[q]at w1
    split at w1
    ·rename_i hl
     rw[dE q h2]at h1
     exact⟨p,ns,rfl, .inl (c9.of h1),hl,w1 _ H1 F1 e1 (.int _)⟩
    ·exact w1.elim
  |tup ds=>
   obtain⟨p,vs,rfl,h1,h2⟩:=r1.tup e1.sub
   cases q:bw ds with
   |none=>simp only[q]at w1;exact w1.elim
   |some ns=>
    simp only[q]at w1
    split at w1
    ·rename_i hl
     rw[dE q h2]at h1
     exact⟨p,ns,rfl, .inr (fE.of h1),hl,w1 _ H1 F1 e1 (.int _)⟩
    ·exact w1.elim
  |_=>exact w1.elim⟩
def B3 (fo fk:a9->R D):a9->R D:=λρ=>fo ρ>>=λd=>match d with
 | .lst ds=>fk ρ>>=λk=>(match fU ds,k with
  |some bs, .bl b=> .ok (.int (bs.count b))
  |_,_=> .bad)
 |_=> .bad
def B4 (fo fk:a9->R D):a9->R D:=λρ=>fo ρ>>=λd=>match d with
 | .lst ds=>fk ρ>>=λk=>(match fU ds,k with
  |some bs, .bl b=>if b∈bs/\bs.length<1000 then .ok (.int (bs.idxOf b))else .bad
  |_,_=> .bad)
 |_=> .bad
theorem CJ (ho:PB ly X o fo) (hk:PQ ly X a fk) (Ot:Hx o "count" X.env (GW o X.env)=GW o X.env:=by rfl)
  (Pg:((Hb O4 (Gy [a] X.env)).all (λx=> !x.1)&&(Iq O4 (HM [] X.env)).all (λx=>x.1.isSome)
   &&decide (([a]:List GD).length+([]:List Ii).length+(if ([]:List Ii).isEmpty then 0 else 1)<30))=true:=by rfl)
  (Ou:(Oa.endLine==O4.line)=true:=by rfl) (hs:Gy [a] X.env=(false,GW a X.env)::Gy [] X.env:=by rfl) (Oi:(Hb O4 (Gy [] X.env)).any (·.1)=false:=by rfl):
  PQ ly X (.Call (.Attribute o "count" Oa) [a] [] O4) (B3 fo fk):=λc=>
 PE.weak (nc HI Jf LH vB (ho c) (bt (hk c) cY hs) Ot Pg Ou hs Oi) λσ H Q ⟨F,ρ,ri,w⟩=>⟨F,ρ,ri,(aC.bind.mp w).imp λd _ w1 v H1 F1 e1 r1=>by
  cases d with
  |lst ds=>
   obtain⟨p,vs,rfl,h1,h2⟩:=r1.lst e1.sub
   refine⟨.inl ⟨rfl,vs,c9.of h1⟩,F1,ρ,ri.step e1,(aC.bind.mp w1).imp λk _ w2 u H2 F2 e2 r2=> ?_⟩
   cases q:fU ds with
   |none=>simp only[q]at w2;exact w2.elim
   |some bs=>
    cases k with
    |bl b=>
     cases r2
     simp only[q]at w2
     rw[lC q h2]at h1
     exact⟨p,b,bs,rfl,rfl,c9.of (e2.keep _ _ h1),w2 _ H2 F2 (e1.trans e2) (.int _)⟩
    |_=>simp only[q]at w2;exact w2.elim
  |_=>exact w1.elim⟩
theorem CK (ho:PB ly X o fo) (hk:PQ ly X a fk) (Ot:Hx o "index" X.env (GW o X.env)=GW o X.env:=by rfl)
  (Pg:((Hb O4 (Gy [a] X.env)).all (λx=> !x.1)&&(Iq O4 (HM [] X.env)).all (λx=>x.1.isSome)
   &&decide (([a]:List GD).length+([]:List Ii).length+(if ([]:List Ii).isEmpty then 0 else 1)<30))=true:=by rfl)
  (Ou:(Oa.endLine==O4.line)=true:=by rfl) (hs:Gy [a] X.env=(false,GW a X.env)::Gy [] X.env:=by rfl) (Oi:(Hb O4 (Gy [] X.env)).any (·.1)=false:=by rfl):
  PQ ly X (.Call (.Attribute o "index" Oa) [a] [] O4) (B4 fo fk):=λc=>
 PE.weak (nc HI LG PySem.F.type_list_index vC (ho c) (bt (hk c) cY hs) Ot Pg Ou hs Oi) λσ H Q ⟨F,ρ,ri,w⟩=>⟨F,ρ,ri,(aC.bind.mp w).imp λd _ w1 v H1 F1 e1 r1=>by
  cases d with
  |lst ds=>
   obtain⟨p,vs,rfl,h1,h2⟩:=r1.lst e1.sub
   refine⟨.inl ⟨rfl,vs,c9.of h1⟩,F1,ρ,ri.step e1,(aC.bind.mp w1).imp λk _ w2 u H2 F2 e2 r2=> ?_⟩
   cases q:fU ds with
   |none=>simp only[q]at w2;exact w2.elim
   |some bs=>
    cases k with
    |bl b=>
     cases r2
     simp only[q]at w2
     split at w2
     ·rename_i hb
      rw[lC q h2]at h1
      exact⟨p,b,bs,rfl,rfl,c9.of (e2.keep _ _ h1),hb.1,hb.2,w2 _ H2 F2 (e1.trans e2) (.int _)⟩
     ·exact w2.elim
    |_=>simp only[q]at w2;exact w2.elim
  |_=>exact w1.elim⟩
end
end L2.Pu
namespace L2
open PySem PySem.Spec PyProof.Rows
section
variable {X:Cx}
def CL (k:Int):Gu->Bool
 | .int b _=>b==k
 |_=>false
theorem qD {k:Int}:∀{ns:List Int} {its:List Gu},aL (ns.map V.int) its->its.countP (CL k)=ns.count k
 |[],its,r=>by cases r;rfl
 |b::bs,its,r=>by
  cases r with
  |cons h t=>obtain⟨u,rfl⟩:=h;rw[Nj,NB,qD t];rfl
def uU (K:Gs):V->List V->Hp->VK->Prop:=λx vs H Q=>∃(l:Gw) (k:Int) (ns:List Int),x= .ref l/\vs=[.int k]/\c9 K H l (ns.map V.int)/\Q (.int (ns.count k)) H
theorem w9:zt X "list.count" (uU X.K):=by
 intro O0 s σ H x vs v us Q I rx rv h
 obtain⟨l,k,bs,rfl,rfl,hx,q⟩:=h
 cases rx
 obtain⟨u,rfl,ru⟩:=rv.one
 obtain⟨tk,rfl⟩:=ru
 obtain⟨its,r,ht,hz⟩:=I.list hx
 obtain⟨⟨cls,dd,data,sl⟩,ho,hc,n,hd⟩:=ht.isList
 simp only at hc hd
 subst hc hd
 refine IX Jf ⟨_,ho,rfl⟩ Ly (Lf _ _) (Lz l its.toArray n dd sl (.int k tk) (CL k)) ⟨ho,λy hy=> ?_,?_⟩
 ·obtain⟨i,hi,e⟩:=IS (show y∈its by simpa using hy)
  obtain⟨t,rfl⟩:=i7 r (i:=i) (v:=y) (by rw[Hm hi,e])
  exact Kd _ t k tk
 ·rw[show its.toArray.toList=its from rfl,qD r]
  exact⟨.int _,H,I.tok _,⟨_,rfl⟩,q⟩
def j7 {α:Type} (xs:List α) (k:Nat) (y:α):List α:=xs.take k++y::xs.drop k
theorem pF {α:Type} (xs:List α) (k:Nat) (y:α):(j7 xs k y).length=xs.length+1:=by
 unfold j7;rw[Hn,GX,Kf,Lq];omega
def Ag:V->List V->Hp->VK->Prop:=λx vs H Q=>∃l xs i y,x= .ref l/\vs=[.int i,y]/\H l=some (.lst xs)/\0<=i/\i<=(xs.length:Int)/\xs.length<sizeLine/\Q .non (b9 H l (.lst (j7 xs i.toNat y)))
theorem wa:zt X "list.insert" Ag:=by
 intro O0 s σ H x vs v us Q I rx rv h
 obtain⟨l,xs,i,y,rfl,rfl,hH,h0,h1,hz,q⟩:=h
 cases rx
 obtain⟨u,w,rfl,ru,Xh⟩:=rv.two
 obtain⟨t,rfl⟩:=ru
 obtain⟨z,its,n,r,hl,e⟩:=I.lstM hH
 have Yd:(sizeLine:Int)<2 ^63:=by decide
 have SH:¬(!K_ i)=true:=by
  rw[M7 (by omega) (by omega)]
  exact H9
 refine IX F.slot_list_insert ⟨_,e,rfl⟩ F.entry_list_insert (F.args_list_insert_3 _ _ _) (AutoListH.list_insert_list_int_val_1 l its.toArray n i t w SH (by rw[GB];omega)) ⟨e,?_⟩
 refine⟨.non,_,I.lset (its':=j7 its i.toNat w) hH e ?_ ((r.take _).append (.cons Xh (r.drop _))) ?_,rfl,q⟩
 ·show (its.toArray.extract 0 (if i<0 then _ else min i.toNat its.toArray.size)).push w++its.toArray.extract (if i<0 then _ else min i.toNat its.toArray.size)=_
  rw[if_neg (by omega),Nat.min_eq_left (by rw[GB];omega)]
  apply Array.ext'
  simp[j7]
  exact L_ (by simp)
 ·show (j7 xs i.toNat y).length<=_
  rw[pF]
  omega
def Eh (K:Gs):R2:=λx y H Q=>∃p q xs,x= .ref p/\y= .ref q/\c9 K H p xs/\c9 K H q []/\Q (.bl (!xs.isEmpty)) H
theorem ij (hu:X.A.units+1<Jp):ju X (Ir .NotEq) (Eh X.K):=by
 intro O0 s σ H x y v u Q I rx ry h
 obtain⟨p,q,xs,rfl,rfl,h1,h2,k⟩:=h
 cases rx
 cases ry
 obtain⟨its,r,pl,hz⟩:=I.list h1
 obtain⟨Qq,r2,W2,Ye⟩:=I.list h2
 cases r2
 have l:=r.length
 cases xs with
 |nil=>
  cases its with
  |nil=>exact SeqAt.RcNeAt.lists (e:=λ_=>true) pl.isList W2.isList rfl (by omega) (λj a b=>by simp at b) X.prog X.w X.xe (EP X O0 σ Q) ⟨.bl _,H,I,rfl,by simpa using k⟩
  |cons a b=>cases l
 |cons a b=>
  cases its with
  |nil=>cases l
  |cons c d=>exact SeqAt.RcNeAt.lists_lengths pl.isList W2.isList (by simp) (by omega) X.prog X.w X.xe (EP X O0 σ Q) ⟨.bl _,H,I,rfl,by simpa using k⟩
end
end L2
namespace L2.Pu
open PySem PySem.Spec PyProof.Rows
variable {ly:List df}
section
variable {K:Gs} {F:Hp}
def Gr:List D->Option D
 |[.lst ds]=>(fU ds).map λbs=> .bl (bs.all id)
 |_=>none
def gk:D->D->Option D
 | .lst ds, .lst []=>some (.bl (!ds.isEmpty))
 |_,_=>none
theorem fD:i8 K (Eh K) gk:=by
 intro v u x y d H F Q s rx ry h k
 unfold gk at h
 split at h
 ·rename_i ds
  cases h
  obtain⟨p,vs,rfl,h1,h2⟩:=rx.lst s
  obtain⟨q,us,rfl,h3,h4⟩:=ry.lst s
  rw[h4.nilI]at h3
  refine⟨p,q,vs,rfl,rfl,c9.of h1,c9.of h3,?_⟩
  have l:=h2.length
  have e:vs.isEmpty=ds.isEmpty:=by
   cases vs<;>cases ds<;>first|rfl|cases l
  rw[e]
  exact k _ H F (bf.refl s) (.bl _)
 ·cases h
end
section
variable {X:Cx} {a b o e:GD} {fa fb fo fk:a9->R D} {Oa O4 pos:Hr}
def G3 (fo fk:a9->R D):a9->R D:=λρ=>fo ρ>>=λd=>match d with
 | .lst ds=>fk ρ>>=λk=>(match bw ds,k with
  |some bs, .int b=> .ok (.int (bs.count b))
  |_,_=> .bad)
 |_=> .bad
def mF (i:Nat) (fa fb:a9->R D):a9->R a_:=λρ=>match ρ[i]? with
 |some (some (.own (.lst ds)))=>fa ρ>>=λk=>fb ρ>>=λd=>match k with
  | .int j=>if 0<=j/\j<=(ds.length:Int)/\ds.length<lim then .ok (.nx (ρ.set i (some (.own (.lst (j7 ds j.toNat d))))))else .bad
  |_=> .bad
 |_=> .bad
theorem kL (i:Nat) {x:Gv} {px Oa O4:Hr} (ha:PQ ly X a fa) (hb:PQ ly X b fb) (hN:X.N[i]? =some x:=by rfl) (hv:ke X.env.scope x:=by first|exact Hv rfl|exact Hh (Hv rfl)|exact Hh (Hh rfl)) (hd:(x==("__debug__":Gv))=false:=by decide)
  (P2:(x==("__classdict__":Gv))=false:=by decide) (Ot:Hx (.Name x px) "insert" X.env (GW (.Name x px) X.env)=GW (.Name x px) X.env:=by rfl)
  (Pg:((Hb O4 (Gy [a,b] X.env)).all (λx=> !x.1)&&(Iq O4 (HM [] X.env)).all (λx=>x.1.isSome)
   &&decide (([a,b]:List GD).length+([]:List Ii).length+(if ([]:List Ii).isEmpty then 0 else 1)<30))=true:=by rfl)
  (Ou:(Oa.endLine==O4.line)=true:=by rfl) (hs:Gy [a,b] X.env=(false,GW a X.env)::Gy [b] X.env:=by rfl) (Sm:Gy [b] X.env=(false,GW b X.env)::Gy [] X.env:=by rfl) (Oi:(Hb O4 (Gy [b] X.env)).any (·.1)=false:=by rfl)
  (Qr:HA (.Call (.Attribute (.Name x px) "insert" Oa) [a,b] [] O4) none pos.line X.env=pure false:=by rfl):kd ly X (.Expr (.Call (.Attribute (.Name x px) "insert" Oa) [a,b] [] O4) pos) (mF i fa fb):=λc=>
 PS.weak (gl (nc HI PySem.F.slot_list_insert PySem.F.type_list_insert wa (pv i hN hv hd P2) (bt (ha c) (bt (hb c) cY Sm) hs) Ot Pg Ou hs Oi) Qr) λD σ H ⟨F,ρ,ri,w⟩=>by
  unfold mF at w
  split at w
  ·rename_i ds hi
   obtain⟨p,vs,h1,h2,h3⟩:=ri.ownL hi
   refine⟨_,h1, .inl ⟨rfl,vs,c9.of h2⟩,F,ρ,ri,(aC.bind.mp w).imp λk _ w1 v H1 F1 e1 r1=>⟨F1,ρ,ri.step e1,(aC.bind.mp w1).imp λd _ w2 u H2 F2 e2 r2=> ?_⟩⟩
   cases k with
   |int j=>
    cases r1
    dsimp only at w2
    split at w2
    ·rename_i hl
     have Rj:=e1.trans e2
     have Oe:=h3.length
     refine⟨p,vs,j,u,rfl,rfl,Rj.keep _ _ h2,hl.1,by rw[Oe];exact hl.2.1,Hf (by rw[Oe];exact hl.2.2) dW,?_⟩
     exact w2 σ _ F2 Rj.grow ((ri.step Rj).change (o:= .lst vs) hi h1 (.lst (((h3.mono Rj.grow).take _).append (.cons r2 ((h3.mono Rj.grow).drop _)))))
    ·exact w2.elim
   |_=>exact w2.elim
  ·exact w.elim
end
end L2.Pu
namespace L2.Pu
open PySem PySem.Spec PyProof.Rows
variable {ly:List df}
section
variable {X:Cx} {Q6 tg Oj:GD} {PZ:List GD} {scope:IP} {pos:Hr} {fi:a9->R (List D)} {g:D->a9->R a9} {gt:a9->R Bool} {fe:a9->R D}
end
end L2.Pu
namespace L2
open PySem PySem.Spec PyProof.Rows
section
variable {X:Cx} {O0:List (Gw×Hi)} {σ:St} {H:Hp} {s:Gx}
theorem wc:c7 X (.builtin "abs") (λxs H Q=>∃i,xs=[.int i]/\Q (.int (if i<0 then -i else i)) H):=by
 intro O0 s σ H xs us Q I r h
 obtain⟨i,rfl,q⟩:=h
 obtain⟨u,rfl,t,rfl⟩:=gO r
 exact call_abs_int λu tk=>⟨.int _,H,I.tok _,⟨_,rfl⟩,q⟩
end
end L2
namespace L2.Pu
open PySem PySem.Spec PyProof.Rows
variable {ly:List df}
def Ei:List D->Option D
 |[.int i]=>some (.int (if i<0 then -i else i))
 |_=>none
theorem Ah {K:Gs}:jN K (λxs H Q=>∃i,xs=[.int i]/\Q (.int (if i<0 then -i else i)) H) Ei:=by
 intro vs ds d H F Q s rv h k
 match ds,h with
 |[.int i],h=>
  obtain⟨v,rfl,r⟩:=rv.one
  cases r.int
  cases h
  exact⟨i,rfl,k _ H F (bf.refl s) (.int _)⟩
theorem wd:Ho "abs"=some (.builtin "abs"):=by decide+kernel
section
variable {X:Cx} {a b e:GD} {f fk fv:a9->R D} {pos:Hr}
end
end L2.Pu
namespace L2
open PySem PySem.Spec PyProof.Rows
section
variable {X:Cx} {O0:List (Gw×Hi)} {σ:St} {H:Hp} {s:Gx} {h':GY}
variable {o:GD} {to:TE} {p1 Oa O4 pos:Hr}
end
end L2
namespace L2.Pu
open PySem PySem.Spec PyProof.Rows
variable {ly:List df}
section
variable {K:Gs} {F:Hp}
end
section
variable {X:Cx} {o:GD} {fo:a9->R D} {p1 Oa O4 pos:Hr}
end
end L2.Pu
namespace L2.Pu
open PySem PySem.Spec PyProof.Rows
variable {ly:List df}
section
variable {X:Cx} {e:GD} {f:a9->R D} {pos:Hr}
def pG (i:Nat) (fk:a9->R D):a9->R a_:=λρ=>match ρ[i]? with
 |some (some (.own (.lst ds)))=>fk ρ>>=λk=>match k with
  | .int n=>if n.natAbs<=lim then (match KO n ds.length with
   |some m=>(match ds[m]? with
    |some _=> .ok (.nx (ρ.set i (some (.own (.lst (ds.eraseIdx m))))))
    |none=> .bad)
   |none=> .bad)else .bad
  |_=> .bad
 |_=> .bad
theorem CM (i:Nat) {x:Gv} {px Oa O4:Hr} (h:PQ ly X e f) (hN:X.N[i]? =some x:=by rfl) (hv:ke X.env.scope x:=by first|exact Hv rfl|exact Hh (Hv rfl)|exact Hh (Hh rfl)) (hd:(x==("__debug__":Gv))=false:=by decide)
  (P2:(x==("__classdict__":Gv))=false:=by decide) (Ot:Hx (.Name x px) "pop" X.env (GW (.Name x px) X.env)=GW (.Name x px) X.env:=by rfl)
  (Pg:((Hb O4 (Gy [e] X.env)).all (λx=> !x.1)&&(Iq O4 (HM [] X.env)).all (λx=>x.1.isSome)
   &&decide (([e]:List GD).length+([]:List Ii).length+(if ([]:List Ii).isEmpty then 0 else 1)<30))=true:=by rfl)
  (Ou:(Oa.endLine==O4.line)=true:=by rfl) (hs:Gy [e] X.env=(false,GW e X.env)::Gy [] X.env:=by rfl) (Oi:(Hb O4 (Gy [] X.env)).any (·.1)=false:=by rfl)
  (Qr:HA (.Call (.Attribute (.Name x px) "pop" Oa) [e] [] O4) none pos.line X.env=pure false:=by rfl):kd ly X (.Expr (.Call (.Attribute (.Name x px) "pop" Oa) [e] [] O4) pos) (pG i f):=λc=>
 PS.weak (gl (nc HI M9 Ma xf (pv i hN hv hd P2) (bt (h c) cY hs) Ot Pg Ou hs Oi) Qr) λD σ H ⟨F,ρ,ri,w⟩=>by
  unfold pG at w
  split at w
  ·rename_i ds hi
   obtain⟨a,vs,h1,h2,h3⟩:=ri.ownL hi
   refine⟨_,h1, .inl ⟨rfl,vs,c9.of h2⟩,F,ρ,ri,(aC.bind.mp w).imp λk _ w1 v H1 F1 e1 r1=> ?_⟩
   cases k with
   |int n=>
    cases r1
    dsimp only at w1
    split at w1
    ·rename_i hn
     split at w1
     ·rename_i m hm
      split at w1
      ·rename_i d To
       obtain⟨v,SD,rv⟩:=h3.get To
       refine⟨a,vs,n,m,v,rfl,rfl,e1.keep _ _ h2,by have:=ji hn;omega,by have:=ji hn;omega,by rw[h3.length];exact hm,SD,?_⟩
       exact w1 _ _ F1 e1.grow ((ri.step e1).change (o:= .lst vs) hi h1 (.lst ((h3.mono e1.grow).eraseIdx m)))
      ·exact w1.elim
     ·exact w1.elim
    ·exact w1.elim
   |_=>exact w1.elim
  ·exact w.elim
def pH (i:Nat):a9->R a_:=λρ=>match ρ[i]? with
 |some (some (.own (.lst ds)))=>(match ds[ds.length - 1]? with
  |some _=> .ok (.nx (ρ.set i (some (.own (.lst ds.dropLast)))))
  |none=> .bad)
 |_=> .bad
theorem CN (i:Nat) {x:Gv} {px Oa O4:Hr} (hN:X.N[i]? =some x:=by rfl) (hv:ke X.env.scope x:=by first|exact Hv rfl|exact Hh (Hv rfl)|exact Hh (Hh rfl)) (hd:(x==("__debug__":Gv))=false:=by decide)
  (P2:(x==("__classdict__":Gv))=false:=by decide) (Ot:Hx (.Name x px) "pop" X.env (GW (.Name x px) X.env)=GW (.Name x px) X.env:=by rfl)
  (Ou:(Oa.endLine==O4.line)=true:=by rfl)
  (Qr:HA (.Call (.Attribute (.Name x px) "pop" Oa) [] [] O4) none pos.line X.env=pure false:=by rfl):kd ly X (.Expr (.Call (.Attribute (.Name x px) "pop" Oa) [] [] O4) pos) (pH i):=λc=>
 PS.weak (gl (BL HI M9 Ma BM (pv i hN hv hd P2) Ot Ou) Qr) λD σ H ⟨F,ρ,ri,w⟩=>by
  unfold pH at w
  split at w
  ·rename_i ds hi
   obtain⟨a,vs,h1,h2,h3⟩:=ri.ownL hi
   split at w
   ·rename_i d hd
    obtain⟨v,m1,m2⟩:=h3.get hd
    refine⟨_,h1, .inl ⟨rfl,vs,c9.of h2⟩,a,vs,v,rfl,rfl,h2,by rw[h3.length];exact m1,?_⟩
    exact w _ _ F (aN.refl _) (ri.change (o:= .lst vs) hi h1 (.lst h3.dropLast))
   ·exact w.elim
  ·exact w.elim
end
end L2.Pu
namespace L2.Pu
open PySem PySem.Spec PyProof.Rows
variable {ly:List df}
section
variable {X:Cx} {a b e:GD} {rest:List GD} {f:a9->R D} {fx fy:a9->R (D×a9)} {gx gy:a9->R (Bool×a9)} {g:a9->R Bool} {pos:Hr}
def rZ (i:Nat) (fx:a9->R (D×a9)):a9->R a_:=λρ=>match ρ[i]? with
 |some (some (.own (.lst _)))=>fx ρ>>=λr=>match r.2[i]? with
  |some (some (.own (.lst ds)))=>if ds.length<lim then .ok (.nx (r.2.set i (some (.own (.lst (ds++[r.1]))))))else .bad
  |_=> .bad
 |_=> .bad
theorem we (i:Nat) {x:Gv} {px Oa O4:Hr} (h:PX ly X e fx) (hN:X.N[i]? =some x:=by rfl) (hv:ke X.env.scope x:=by first|exact Hv rfl|exact Hh (Hv rfl)|exact Hh (Hh rfl)) (hd:(x==("__debug__":Gv))=false:=by decide)
  (P2:(x==("__classdict__":Gv))=false:=by decide) (Ot:Hx (.Name x px) "append" X.env (GW (.Name x px) X.env)=GW (.Name x px) X.env:=by rfl)
  (Pg:((Hb O4 (Gy [e] X.env)).all (λx=> !x.1)&&(Iq O4 (HM [] X.env)).all (λx=>x.1.isSome)
   &&decide (([e]:List GD).length+([]:List Ii).length+(if ([]:List Ii).isEmpty then 0 else 1)<30))=true:=by rfl)
  (Ou:(Oa.endLine==O4.line)=true:=by rfl) (hs:Gy [e] X.env=(false,GW e X.env)::Gy [] X.env:=by rfl) (Oi:(Hb O4 (Gy [] X.env)).any (·.1)=false:=by rfl)
  (Qr:HA (.Call (.Attribute (.Name x px) "append" Oa) [e] [] O4) none pos.line X.env=pure false:=by rfl):kd ly X (.Expr (.Call (.Attribute (.Name x px) "append" Oa) [e] [] O4) pos) (rZ i fx):=λc=>
 PS.weak (gl (nc HI JW JX jg (pv i hN hv hd P2) (bt (h c) cY hs) Ot Pg Ou hs Oi) Qr) λD σ H ⟨F,ρ,ri,w⟩=>by
  unfold rZ at w
  split at w
  ·rename_i ds hi
   obtain⟨a,vs,h1,h2,h3⟩:=ri.ownL hi
   refine⟨_,h1, .inl ⟨rfl,vs,c9.of h2⟩,F,ρ,ri,(aC.bind.mp w).imp λr _ w1 v H1 F1 e1 Ra r1=> ?_⟩
   split at w1
   ·rename_i ds' QV
    obtain⟨a',SV,QG,PL,W3⟩:=Ra.ownL QV
    have ea:=h1.symm.trans QG
    cases ea
    split at w1
    ·rename_i hl
     refine⟨a,SV,v,rfl,rfl,PL,Hf (by rw[W3.length];exact hl) dW,?_⟩
     exact w1 σ _ F1 e1 (Ra.change (o:= .lst SV) QV QG (.lst (W3.append (.cons r1 .nil))))
    ·exact w1.elim
   ·exact w1.elim
  ·exact w.elim
def G4 (ly:List df) (X:Cx) (e:GD) (gx:a9->R (Bool×a9)):Prop:=∀c:gi ly X,PW X e (G0 X.K c.1 gx)
theorem G4.t (h:G4 ly X e gx):Gq ly X e gx:=λc=>(h c).pt
end
end L2.Pu
namespace L2.Pu
open PySem PySem.Spec PyProof.Rows
section
variable {K:Gs} {mg:Gv->Option Gu} {h:GY}
def UF (K:Gs) (x:Gv) (st:Hl):Prop:=∃(f:Gw) (oc:Gu) (od:Option Gw) (kV P5 pm:Gu) (an:Option Gw) (Oc ct:Gu) (Qp:Array (Option Gu)),GJ K GG x=some (some (.ref f))/\K.lookup f=some ⟨oc,od, .func (HJ x x (cw st) (b0 st) (ah st) .none kV P5 pm an Oc ct),Qp⟩/\J9 K Oc x=true/\HC K (.ref f)=true
def qE (K:Gs) (C:Gw) (m qual:Gv) (st:Hl):Prop:=∃(f:Gw) (oc:Gu) (od:Option Gw) (kV P5 pm:Gu) (an:Option Gw) (Oc ct:Gu) (Qp:Array (Option Gu)),GQ K (.ref C) m=some (some (.ref f))/\K.lookup f=some ⟨oc,od, .func (HJ m qual (cw st) (b0 st) (ah st) .none kV P5 pm an Oc ct),Qp⟩/\J9 K Oc qual=true/\HC K (.ref f)=true/\Ku K (.ref f)=true
def BA (x qual:Gv) (st:Hl) (ps:List Gv):Prop:=∀(kV P5 pm:Gu) (an:Option Gw) (Oc ct:Gu) (us:List Gu),us.length=ps.length->J0 (HJ x qual (cw st) (b0 st) (ah st) .none kV P5 pm an Oc ct) ⟨us,[]⟩=pure (ps.zip us)
theorem UF.at {x:Gv} {st:Hl} {ps:List Gv} (u:UF K x st) (X:K.In h) (G:h.Ns GG mg) (hb:BA x x st ps):eG K mg x st ps:=by
 obtain⟨f,oc,od,kV,P5,pm,an,Oc,ct,Qp,h1,h2,h3,h4⟩:=u
 exact⟨_,_,jL (st:=st) h2 h3 h4,Hu X G h1,(jL (st:=st) h2 h3 h4).binds hb⟩
theorem qE.at {C:Gw} {cls m qual:Gv} {st:Hl} {ps:List Gv} (u:qE K C m qual st) (c:gu K cls C) (hb:BA m qual st ps):f8 K cls m qual st ps:=by
 obtain⟨f,oc,od,kV,P5,pm,an,Oc,ct,Qp,h1,h2,h3,h4,h5⟩:=u
 exact⟨_,_,_,jL (st:=st) h2 h3 h4,c,⟨h1,h5,h4⟩,(jL (st:=st) h2 h3 h4).binds hb⟩
theorem qE.mk {C:Gw} {cls qual:Gv} {st:Hl} {ps fs:List Gv} (u:qE K C "__init__" qual st) (c:gu K cls C) (hm:mg cls=some (.ref C)) (p5:Jj K C=true) (p6:HC K (.ref C)=true) (no:∀x∈fs,cU K C x) (hb:BA "__init__" qual st ps):lr K mg cls qual st ps fs:=by
 obtain⟨f,oc,od,kV,P5,pm,an,Oc,ct,Qp,h1,h2,h3,h4,h5⟩:=u
 exact⟨_,_,_,jL (st:=st) h2 h3 h4,c,hm,⟨p5,h1,h5,p6⟩,(jL (st:=st) h2 h3 h4).binds hb,no⟩
def Ai (K:Gs) (C:Gw):Prop:=HV K C t4 "ValueError.__new__"=true/\GQ K (.ref C) "__getattribute__"=some (some (.builtin "BaseException.__getattribute__"))/\GQ K (.ref C) "__getattr__"=some none/\GQ K (.ref C) "__class__"=some (some (.builtin "object.__class__"))/\
 Hq K C (.type "object")=some true/\Hq K C (.type "BaseException")=some true/\Hq K C (.ref C)=some true
def tO (K:Gs):List Gw->Prop
 |[]=>True
 |C::r=>Ai K C/\tO K r
def qF (K:Gs):List Gv->List Gw->Prop
 |[],[]=>True
 |x::xs,C::Cs=>GJ K GG x=some (some (.ref C))/\qF K xs Cs
 |_,_=>False
def kM (K:Gs) (v:Gu) (f:Nat->Bool):Nat->List Gw->Prop
 |_,[]=>True
 |i,C::r=>Hq K C v=some (f i)/\kM K v f (i+1) r
def wg {α:Type} (f:Nat->Bool):Nat->List α->List (α×Bool)
 |_,[]=>[]
 |i,x::r=>(x,f i)::wg f (i+1) r
def Dc (K:Gs):Prop:=Jo K (.builtin "object.__class__") "__get__"=some (some (.builtin "getset_descriptor.__get__"))/\JJ K (.builtin "object.__class__")=some true
theorem Ai.ok {C:Gw} (e:Ai K C) (s:Dc K):qa K C:=by
 obtain⟨e1,e2,e3,e4,e5,e6,e7⟩:=e
 exact A7 e1 e2 e3 e4 e5 e6 (lv e1 e7) s.1 s.2
theorem lD {v:Gu} {f:Nat->Bool} (s:Dc K) (hk:∀C b,Hq K C v=some b->Hq K C (.ref C)=some true->HN K (.ref C) v=some b):∀{xs:List Gv} {Cs:List Gw} {i:Nat},qF K xs Cs->tO K Cs->kM K v f i Cs->
  ∀p∈wg f i xs,∃Ce,GJ K GG p.1=some (some (.ref Ce))/\HN K (.ref Ce) v=some p.2/\qa K Ce
 |[],[],i,n,e,r,p,hp=>by cases hp
 |[],_::_,i,n,e,r,p,hp=>n.elim
 |_::_,[],i,n,e,r,p,hp=>n.elim
 |x::xs,C::Cs,i,n,e,r,p,hp=>by
  rcases GK.mp hp with rfl|hp
  ·exact⟨C,n.1,hk C _ r.1 e.1.2.2.2.2.2.2,e.1.ok s⟩
  ·exact lD s hk n.2 e.2 r.2 p hp
theorem hE {x:Gv} {C:Gw} {f:Nat->Bool} {xs:List Gv} {Cs:List Gw} (s:Dc K) (N:qF K xs Cs) (E:tO K Cs) (hm:mg x=some (.ref C)) (e1:HV K C t4 "ValueError.__new__"=true) (R:kM K (.ref C) f 0 Cs):kG K mg x (y8 (wg f 0 xs)):=
 ⟨_,hm,rR (lD s (λ_ _ m q=>vV e1 m q) N E R)⟩
theorem Aj {f:Nat->Bool} {xs:List Gv} {Cs:List Gw} (s:Dc K) (N:qF K xs Cs) (E:tO K Cs) (R:kM K (.type "ValueError") f 0 Cs):lZ K (.type "ValueError") (y8 (wg f 0 xs)):=
 rR (lD s (λ_ _ m _=>vW m) N E R)
theorem cb (s:Dc K) (X:K.In h) (G:h.Ns GG mg):∀{xs:List Gv} {Cs:List Gw},qF K xs Cs->tO K Cs->∀x∈xs,bO K mg x
 |[],[],n,e,x,hx=>by cases hx
 |[],_::_,n,e,x,hx=>n.elim
 |_::_,[],n,e,x,hx=>n.elim
 |y::xs,C::Cs,n,e,x,hx=>by
  rcases GK.mp hx with rfl|hx
  ·exact⟨C,n.1,Hu X G n.1,e.1.ok s⟩
  ·exact cb s X G n.2 e.2 x hx
theorem d9:∀{xs:List Gv} {Cs:List Gw},qF K xs Cs->tO K Cs->∀(x:Gv) (C:Gw),(xs.zip Cs).lookup x=some C->GJ K GG x=some (some (.ref C))/\Ai K C
 |[],Cs,n,e,x,C,hx=>by cases hx
 |_::_,[],n,e,x,C,hx=>n.elim
 |y::xs,C'::Cs,n,e,x,C,hx=>by
  rw[List.zip_cons_cons,HS]at hx
  cases q:x==y with
  |true=>rw[q]at hx;cases hx;rw[eq_of_beq q];exact⟨n.1,e.1⟩
  |false=>rw[q]at hx;exact d9 n.2 e.2 x C hx
theorem wj {cx:Gv} {D:Gw} (hm:mg cx=some (.ref D)) (e1:HV K D t4 "ValueError.__new__"=true) (e6:Hq K D (.type "BaseException")=some true) {xs:List Gv} {Cs:List Gw} (N:qF K xs Cs) (R:kM K (.ref D) (λ_=>true) 0 Cs):rL K mg cx (vY xs):=by
 refine y7 hm ?_
 have:∀{xs:List Gv} {Cs:List Gw} {i:Nat},qF K xs Cs->kM K (.ref D) (λ_=>true) i Cs->∀x∈xs,∃Ce,GJ K GG x=some (some (.ref Ce))/\Jw K (.ref Ce) (.ref D)=some true:=by
  intro xs
  induction xs with
  |nil=>intro Cs i n r x hx;cases hx
  |cons y xs ih=>
   intro Cs i n r x hx
   cases Cs with
   |nil=>exact n.elim
   |cons C Cs=>
    rcases GK.mp hx with rfl|hx
    ·exact⟨C,n.1,vX e1 r.1 e6⟩
    ·exact ih n.2 r.2 x hx
 exact this N R
end
section
variable {x qual:Gv} {st:Hl}
theorem b1 {p:Gv} (h:∀kV P5 pm an Oc ct a,J0 (HJ x qual (cw st) (b0 st) (ah st) .none kV P5 pm an Oc ct) ⟨[a],[]⟩=pure [(p,a)]:=by intros;rfl):BA x qual st [p]:=λ_ _ _ _ _ _=>FX (P:=λus=>J0 _ ⟨us,[]⟩=pure (Mt _ us)) (h _ _ _ _ _ _)
theorem b2 {p q:Gv} (h:∀kV P5 pm an Oc ct a b,J0 (HJ x qual (cw st) (b0 st) (ah st) .none kV P5 pm an Oc ct) ⟨[a,b],[]⟩=pure [(p,a),(q,b)]:=by intros;rfl):BA x qual st [p,q]:=λ_ _ _ _ _ _=>FY (P:=λus=>J0 _ ⟨us,[]⟩=pure (Mt _ us)) (h _ _ _ _ _ _)
theorem b3 {p q r:Gv} (h:∀kV P5 pm an Oc ct a b c,J0 (HJ x qual (cw st) (b0 st) (ah st) .none kV P5 pm an Oc ct) ⟨[a,b,c],[]⟩=pure [(p,a),(q,b),(r,c)]:=by intros;rfl):BA x qual st [p,q,r]:=λ_ _ _ _ _ _=>FZ (P:=λus=>J0 _ ⟨us,[]⟩=pure (Mt _ us)) (h _ _ _ _ _ _)
theorem b4 {p q r t:Gv} (h:∀kV P5 pm an Oc ct a b c d,J0 (HJ x qual (cw st) (b0 st) (ah st) .none kV P5 pm an Oc ct) ⟨[a,b,c,d],[]⟩=pure [(p,a),(q,b),(r,c),(t,d)]:=by intros;rfl):BA x qual st [p,q,r,t]:=λ_ _ _ _ _ _=>F_ (P:=λus=>J0 _ ⟨us,[]⟩=pure (Mt _ us)) (h _ _ _ _ _ _)
theorem b5 {p q r t u:Gv} (h:∀kV P5 pm an Oc ct a b c d e,J0 (HJ x qual (cw st) (b0 st) (ah st) .none kV P5 pm an Oc ct) ⟨[a,b,c,d,e],[]⟩=pure [(p,a),(q,b),(r,c),(t,d),(u,e)]:=by intros;rfl):BA x qual st [p,q,r,t,u]:=λ_ _ _ _ _ _=>Gp (P:=λus=>J0 _ ⟨us,[]⟩=pure (Mt _ us)) (h _ _ _ _ _ _)
end
end L2.Pu
namespace L2.Pu
open PySem PySem.Spec PyProof.Rows
variable {ly:List df}
section
variable {X:Cx} {a b e:GD} {es:List GD} {st:Hl} {rest:List Hl} {f:a9->R D} {fs:a9->R (List D)} {g:a9->R a_} {gn:a9->R D} {pos p:Hr} {x:Gv}
end
section
variable {P:GP} {w:G_} {K:Gs} {mg:Gv->Option Gu} {base:GY}
end
end L2.Pu
namespace L2
open PySem PySem.Spec PyProof.Rows
section
variable {X:Cx}
end
end L2
namespace L2.Pu
open PySem PySem.Spec PyProof.Rows
end L2.Pu
namespace L2
open PySem PySem.Spec PyProof.Rows L2.Pu
section
variable {X:Cx} {o e:GD} {es:List GD} {to:TE} {t:TA} {Oa O4:Hr}
def uV:V->List V->Hp->VK->Prop:=λx vs H Q=>∃(l:Gw) (k:Int) (ns:List Int),x= .ref l/\vs=[.int k]/\H l=some (.tup (ns.map V.int))/\Q (.int (ns.count k)) H
theorem wk:zt X "tuple.count" uV:=by
 intro O0 s σ H x vs v us Q I rx rv h
 obtain⟨l,k,bs,rfl,rfl,hx,q⟩:=h
 cases rx
 obtain⟨u,rfl,ru⟩:=rv.one
 obtain⟨tk,rfl⟩:=ru
 obtain⟨hz,its,r,⟨cls,dd,data,sl⟩,ho,hc,n,hd,_⟩:=(show bp X.prog X.w H s.heap l (.tup (bs.map V.int))from I.hok l _ hx)
 simp only at hc hd
 subst hc hd
 refine IX LB ⟨_,ho,rfl⟩ PySem.F.entry_tuple_count (PySem.F.args_tuple_count_2 _ _) (PySem.SeqAt.tuple_countAt l its.toArray n dd sl (.int k tk) (CL k)) ⟨ho,λy hy=> ?_,?_⟩
 ·obtain⟨i,hi,e⟩:=IS (show y∈its by simpa using hy)
  obtain⟨t,rfl⟩:=i7 r (i:=i) (v:=y) (by rw[Hm hi,e])
  exact Kd _ t k tk
 ·rw[show its.toArray.toList=its from rfl,qD r]
  exact⟨.int _,H,I.tok _,⟨_,rfl⟩,q⟩
theorem CO (ho:PE X o to) (ha:PA X (e::es) t) (Ot:Hx o "count" X.env (GW o X.env)=GW o X.env)
  (Pg:((Hb O4 (Gy (e::es) X.env)).all (λx=> !x.1)&&(Iq O4 (HM [] X.env)).all (λx=>x.1.isSome)
   &&decide ((e::es).length+([]:List Ii).length+(if ([]:List Ii).isEmpty then 0 else 1)<30))=true)
  (Ou:(Oa.endLine==O4.line)=true) (hs:Gy (e::es) X.env=(false,GW e X.env)::Gy es X.env) (Oi:(Hb O4 (Gy es X.env)).any (·.1)=false):
  PE X (.Call (.Attribute o "count" Oa) (e::es) [] O4) (λσ H Q=>to σ H λx H1=>(ED X.K "list" x H1/\t σ H1 λxs H2=>uU X.K x xs H2 Q)\/∃p vs,x= .ref p/\H1 p=some (.tup vs)/\t σ H1 λxs H2=>uV x xs H2 Q):=by
 intro O0 s σ H Q I h
 refine LZ Ot Pg Ou rfl (bW (ho O0 s σ H _ I h) λv s1 z_=> ?_)
 obtain⟨x,H1,I1,r1,z⟩:=z_
 rcases z with ⟨ty,q1⟩|⟨p,vs,rfl,hp,q1⟩
 ·obtain⟨h1,h2⟩:=sS I1 r1 ty
  refine⟨"list","list.count",HI,Jf,LH,h1,h2,?_⟩
  have hA:=ha O4 O0 s1 σ H1 _ I1 q1
  rw[hs]at hA ⊢
  refine Jl (by show (false||(Hb O4 (Gy es X.env)).any (·.1))=false;rw[Oi]<;>rfl) (JA ?_)
  exact bW hA λus s2 ⟨vs,H2,I2,r2,q2⟩=>w9 O0 s2 σ H2 x vs v us Q I2 r1 r2 q2
 ·cases r1
  obtain⟨hz,its,r,ob,S1,hc,n,hd,Xi⟩:=(show bp X.prog X.w H1 s1.heap p (.tup vs)from I1.hok p _ hp)
  refine⟨"tuple","tuple.count",PySem.F.plainAttrs_tuple,LB,PySem.F.type_tuple_count,⟨ob,S1,hc⟩,λa e=>by cases e;exact⟨ob,S1,Xi⟩,?_⟩
  have hA:=ha O4 O0 s1 σ H1 _ I1 q1
  rw[hs]at hA ⊢
  refine Jl (by show (false||(Hb O4 (Gy es X.env)).any (·.1))=false;rw[Oi]<;>rfl) (JA ?_)
  exact bW hA λus s2 ⟨SV,H2,I2,r2,q2⟩=>wk O0 s2 σ H2 (.ref p) SV (.ref p) us Q I2 rfl r2 q2
end
end L2
namespace L2.Pu
open PySem PySem.Spec PyProof.Rows
variable {ly:List df} {X:Cx} {a o:GD} {fo fk:a9->R D} {Oa O4:Hr}
def uW (fo fk:a9->R D):a9->R D:=λρ=>fo ρ>>=λd=>match d with
 | .lst ds=>fk ρ>>=λk=>(match bw ds,k with
  |some bs, .int b=> .ok (.int (bs.count b))
  |_,_=> .bad)
 | .tup ds=>fk ρ>>=λk=>(match bw ds,k with
  |some bs, .int b=> .ok (.int (bs.count b))
  |_,_=> .bad)
 |_=> .bad
theorem CP (ho:PB ly X o fo) (hk:PQ ly X a fk) (Ot:Hx o "count" X.env (GW o X.env)=GW o X.env:=by rfl)
  (Pg:((Hb O4 (Gy [a] X.env)).all (λx=> !x.1)&&(Iq O4 (HM [] X.env)).all (λx=>x.1.isSome)
   &&decide (([a]:List GD).length+([]:List Ii).length+(if ([]:List Ii).isEmpty then 0 else 1)<30))=true:=by rfl)
  (Ou:(Oa.endLine==O4.line)=true:=by rfl) (hs:Gy [a] X.env=(false,GW a X.env)::Gy [] X.env:=by rfl) (Oi:(Hb O4 (Gy [] X.env)).any (·.1)=false:=by rfl):
  PQ ly X (.Call (.Attribute o "count" Oa) [a] [] O4) (uW fo fk):=λc=>
 PE.weak (CO (ho c) (bt (hk c) cY hs) Ot Pg Ou hs Oi) λσ H Q ⟨F,ρ,ri,w⟩=>⟨F,ρ,ri,(aC.bind.mp w).imp λd _ w1 v H1 F1 e1 r1=>by
  cases d with
  |lst ds=>
   obtain⟨p,vs,rfl,h1,h2⟩:=r1.lst e1.sub
   refine .inl ⟨.inl ⟨rfl,vs,c9.of h1⟩,F1,ρ,ri.step e1,(aC.bind.mp w1).imp λk _ w2 u H2 F2 e2 r2=> ?_⟩
   cases q:bw ds with
   |none=>simp only[q]at w2;exact w2.elim
   |some bs=>
    cases k with
    |int b=>
     cases r2
     simp only[q]at w2
     rw[dE q h2]at h1
     exact⟨p,b,bs,rfl,rfl,c9.of (e2.keep _ _ h1),w2 _ H2 F2 (e1.trans e2) (.int _)⟩
    |_=>simp only[q]at w2;exact w2.elim
  |tup ds=>
   obtain⟨p,vs,rfl,h1,h2⟩:=r1.tup e1.sub
   refine .inr ⟨p,vs,rfl,h1,F1,ρ,ri.step e1,(aC.bind.mp w1).imp λk _ w2 u H2 F2 e2 r2=> ?_⟩
   cases q:bw ds with
   |none=>simp only[q]at w2;exact w2.elim
   |some bs=>
    cases k with
    |int b=>
     cases r2
     simp only[q]at w2
     rw[dE q h2]at h1
     exact⟨p,b,bs,rfl,rfl,e2.keep _ _ h1,w2 _ H2 F2 (e1.trans e2) (.int _)⟩
    |_=>simp only[q]at w2;exact w2.elim
  |_=>exact w1.elim⟩
end L2.Pu
namespace L2.Pu
open PySem PySem.Spec PyProof.Rows
section
variable {K:Gs} {f:Gw} {oc:Gu} {od:Option Gw} {kV P5 pm:Gu} {an:Option Gw} {Oc ct:Gu} {Qp:Array (Option Gu)} {x qual:Gv} {st:Hl} {C:Gw}
theorem UF.of (h1:GJ K GG x=some (some (.ref f))) (h2:K.lookup f=some ⟨oc,od, .func (HJ x x (cw st) (b0 st) (ah st) .none kV P5 pm an Oc ct),Qp⟩) (h3:J9 K Oc x=true) (h4:HC K (.ref f)=true):UF K x st:=
 ⟨f,oc,od,kV,P5,pm,an,Oc,ct,Qp,h1,h2,h3,h4⟩
theorem qE.of (h1:GQ K (.ref C) x=some (some (.ref f))) (h2:K.lookup f=some ⟨oc,od, .func (HJ x qual (cw st) (b0 st) (ah st) .none kV P5 pm an Oc ct),Qp⟩) (h3:J9 K Oc qual=true) (h4:HC K (.ref f)=true) (h5:Ku K (.ref f)=true):qE K C x qual st:=
 ⟨f,oc,od,kV,P5,pm,an,Oc,ct,Qp,h1,h2,h3,h4,h5⟩
end
end L2.Pu
namespace L2
open PySem PySem.Spec PyProof.Rows
section
variable {X:Cx}
theorem n_ {ns:List Int} {i:Nat} (h:i<ns.length):ns.getD i 0∈ns:=by
 rw[Iy,Hm h];exact JB h
theorem o0 {ns:List Int} {a:Int} (h:a∈ns):∃i,i<ns.length/\a=ns.getD i 0:=by
 obtain⟨i,hi,e⟩:=IS h
 exact⟨i,hi,by rw[Iy,Hm hi];exact e.symm⟩
theorem wl (hc:X.calm=true):c7 X (.builtin "min") (λxs H Q=>∃(p:Gw) (ns:List Int) (m:Int),xs=[.ref p]/\c9 X.K H p (ns.map V.int)/\ns.min? =some m/\Q (.int m) H):=by
 intro O0 s σ H xs us Q I rv h
 obtain⟨p,ns,m,rfl,hx,hm,q⟩:=h
 obtain⟨u,rfl,ru⟩:=gO rv
 cases ru
 obtain⟨its,r,ht,hz⟩:=I.list hx
 have hl:=ht.isList
 have Qa:p<s.heap.objs.size:=by obtain⟨_,e,_⟩:=hl;exact GR e
 have Oe:=r.length
 rw[GA]at Oe
 have Qs:0<ns.length:=by cases ns with|nil=>cases hm|cons _ _=>exact Nat.succ_pos _
 refine call_min_walk (Jm hl ?_)
 refine⟨s.heap.objs.size,[s.heap.objs.size,p],[s.heap.objs.size],its.toArray.size,_,_,_,rfl,Ms (A:=X.A.in1) (I.ok.hd hc) _ p (Hj Qa) its.toArray,⟨⟨_,He _ rfl,rfl,rfl⟩,hl.push _⟩,λb hb=> ?_,by rw[GB,<-Oe];exact Qs,CmpOf.ints_lt (λk=>ns.getD k 0) (λk v hv=>i7 (ns:=ns) r (by simpa using hv)),λv h' tk hP hk=> ?_⟩
 ·show b<(s.heap.push _).objs.size
  rw[IU]
  rcases GK.mp hb with rfl|hb
  ·exact Jz _
  ·rw[GS.mp hb];exact IL Qa
 ·obtain⟨t,rfl⟩:=i7 (ns:=ns) r (i:=Mb (λi j=>decide (ns.getD i 0<ns.getD j 0)) (its.toArray.size - 1)) (by rw[<-Mc];exact hP)
  refine⟨.int m,H,I.kept (lg hk),⟨t,?_⟩,q⟩
  obtain⟨h1,h2⟩:=argBest_lt (λk=>ns.getD k 0) (its.toArray.size - 1)
  obtain⟨m1,m2⟩:=Md.mp hm
  have hi:Mb (λi j=>decide (ns.getD i 0<ns.getD j 0)) (its.toArray.size - 1)<ns.length:=by
   have e:its.toArray.size=ns.length:=by rw[GB,Oe]
   rw[e]at h1 ⊢;omega
  obtain⟨j,hj,ej⟩:=o0 m1
  have a1:=h2 j (by rw[GB,<-Oe];omega)
  have a2:=m2 _ (n_ hi)
  have:ns.getD (Mb (λi j=>decide (ns.getD i 0<ns.getD j 0)) (its.toArray.size - 1)) 0=m:=by
   omega
  rw[this]
theorem wm (hc:X.calm=true):c7 X (.builtin "max") (λxs H Q=>∃(p:Gw) (ns:List Int) (m:Int),xs=[.ref p]/\c9 X.K H p (ns.map V.int)/\ns.max? =some m/\Q (.int m) H):=by
 intro O0 s σ H xs us Q I rv h
 obtain⟨p,ns,m,rfl,hx,hm,q⟩:=h
 obtain⟨u,rfl,ru⟩:=gO rv
 cases ru
 obtain⟨its,r,ht,hz⟩:=I.list hx
 have hl:=ht.isList
 have Qa:p<s.heap.objs.size:=by obtain⟨_,e,_⟩:=hl;exact GR e
 have Oe:=r.length
 rw[GA]at Oe
 have Qs:0<ns.length:=by cases ns with|nil=>cases hm|cons _ _=>exact Nat.succ_pos _
 refine call_max_walk (Jm hl ?_)
 refine⟨s.heap.objs.size,[s.heap.objs.size,p],[s.heap.objs.size],its.toArray.size,_,_,_,rfl,Ms (A:=X.A.in1) (I.ok.hd hc) _ p (Hj Qa) its.toArray,⟨⟨_,He _ rfl,rfl,rfl⟩,hl.push _⟩,λb hb=> ?_,by rw[GB,<-Oe];exact Qs,CmpOf.ints_gt (λk=>ns.getD k 0) (λk v hv=>i7 (ns:=ns) r (by simpa using hv)),λv h' tk hP hk=> ?_⟩
 ·show b<(s.heap.push _).objs.size
  rw[IU]
  rcases GK.mp hb with rfl|hb
  ·exact Jz _
  ·rw[GS.mp hb];exact IL Qa
 ·obtain⟨t,rfl⟩:=i7 (ns:=ns) r (i:=Mb (λi j=>decide (ns.getD i 0>ns.getD j 0)) (its.toArray.size - 1)) (by rw[<-Mc];exact hP)
  refine⟨.int m,H,I.kept (lg hk),⟨t,?_⟩,q⟩
  obtain⟨h1,h2⟩:=argBest_gt (λk=>ns.getD k 0) (its.toArray.size - 1)
  obtain⟨m1,m2⟩:=Mf.mp hm
  have hi:Mb (λi j=>decide (ns.getD i 0>ns.getD j 0)) (its.toArray.size - 1)<ns.length:=by
   have e:its.toArray.size=ns.length:=by rw[GB,Oe]
   rw[e]at h1 ⊢;omega
  obtain⟨j,hj,ej⟩:=o0 m1
  have a1:=h2 j (by rw[GB,<-Oe];omega)
  have a2:=m2 _ (n_ hi)
  have:ns.getD (Mb (λi j=>decide (ns.getD i 0>ns.getD j 0)) (its.toArray.size - 1)) 0=m:=by
   omega
  rw[this]
end
end L2
namespace L2.Pu
open PySem PySem.Spec PyProof.Rows
section
variable {K:Gs}
def uX:List D->Option D
 |[.lst ds]=>(bw ds).bind λns=>ns.min?.map .int
 |_=>none
def uY:List D->Option D
 |[.lst ds]=>(bw ds).bind λns=>ns.max?.map .int
 |_=>none
theorem yl:jN K (λxs H Q=>∃(p:Gw) (ns:List Int) (m:Int),xs=[.ref p]/\c9 K H p (ns.map V.int)/\ns.min? =some m/\Q (.int m) H) uX:=by
 intro vs ds d H F Q s rv h k
 match ds,h with
 |[.lst xs],h=>
  obtain⟨v,rfl,r⟩:=rv.one
  obtain⟨a,ws,rfl,h1,h2⟩:=r.lst s
  replace h:((bw xs).bind λns=>ns.min?.map D.int)=some d:=h
  cases e:bw xs with
  |none=>rw[e]at h;cases h
  |some ns=>
   rw[e]at h
   dsimp only[M1]at h
   cases e2:ns.min? with
   |none=>rw[e2]at h;cases h
   |some m=>
    rw[e2]at h
    cases h
    rw[dE e h2]at h1
    exact⟨a,ns,m,rfl,c9.of h1,e2,k _ H F (bf.refl s) (.int _)⟩
theorem ym:jN K (λxs H Q=>∃(p:Gw) (ns:List Int) (m:Int),xs=[.ref p]/\c9 K H p (ns.map V.int)/\ns.max? =some m/\Q (.int m) H) uY:=by
 intro vs ds d H F Q s rv h k
 match ds,h with
 |[.lst xs],h=>
  obtain⟨v,rfl,r⟩:=rv.one
  obtain⟨a,ws,rfl,h1,h2⟩:=r.lst s
  replace h:((bw xs).bind λns=>ns.max?.map D.int)=some d:=h
  cases e:bw xs with
  |none=>rw[e]at h;cases h
  |some ns=>
   rw[e]at h
   dsimp only[M1]at h
   cases e2:ns.max? with
   |none=>rw[e2]at h;cases h
   |some m=>
    rw[e2]at h
    cases h
    rw[dE e h2]at h1
    exact⟨a,ns,m,rfl,c9.of h1,e2,k _ H F (bf.refl s) (.int _)⟩
end
end L2.Pu
namespace My
open PySem PySem.Spec PyProof.Rows L2 L2.Pu
def m9 (i:Nat):Hl:=PySem.Challenge.pw_tankbalance_k22_day_refused.main.body.getD i (.Pass ⟨0,0,0,0⟩)
abbrev RL:List Gv:=["BadTanks","UnknownDay","UnknownPlace","SamePlace","WrongRises","UnknownStream","Twice","AlreadyMetered","NotMetered","ReadingMissing","OutOfRange","TooManyStreams","TooManyMeters","TooManyDays","TooManyDeeds"]
abbrev tb (k:Nat):Gv->Option Bool:=y8 (wg (·==k) 0 RL)
abbrev FH:Gv->Option Bool:=y8 (wg (λ_=>true) 0 RL)
abbrev o1:List Gv:=["tanks","streams","rises","readings"]
abbrev b7:List Gv:=["came","streams","meters","passed"]
abbrev cR:List Gv:=["tanks","now","history"]
abbrev ik:Hl:=dv (m9 19) 0
def o3:a9->R a_:=
 aA (kB 0 (bV (aw 1) (gN 5)))
  (aA (kB 0 (bV (bZ ee (a7 (bZ eg (a7 (ae 2) (ag))) (ag))) (gN 6)))
  (aA (kB 0 (bV (bZ ee (a7 (ae 3) (ag))) (gN 7)))
  (kB 0 (bV (bZ ee (a7 (bZ eg (a7 (ae 4) (ag))) (ag))) (gN 8)))))
def ma:List (Gv×Nat):=[("tanks",5),("streams",6),("rises",7),("readings",8)]
def eL:List D->R (List (Gv×D)):=jm 4 8 ma o3
abbrev dA:Hl:=dv (m9 28) 0
def mG:a9->R a_:=
 aA (kB 0 (bV (aw 1) (gN 5)))
  (aA (kB 0 (bV (aw 2) (gN 6)))
  (aA (kB 0 (bV (aw 3) (gN 7)))
  (kB 0 (bV (aw 4) (gN 8)))))
def lE:List (Gv×Nat):=[("came",5),("streams",6),("meters",7),("passed",8)]
def aS:List D->R (List (Gv×D)):=jm 4 8 lE mG
abbrev cC:Hl:=dv (m9 28) 1
def cD:a9->R a_:=
 aA (bV (f2 bK (c_ "Standing" "came" (ae 0)) (fC (.int 1))) (gN 3))
  (cn (kC "Standing" 4 aS (a7 (aw 3) (a7 (f2 bK (c_ "Standing" "streams" (ae 0)) (eE (a7 (eE (a7 (aw 3) (a7 (aw 1) (a7 (aw 2) (ag))))) (ag)))) (a7 (c_ "Standing" "meters" (ae 0)) (a7 (c_ "Standing" "passed" (ae 0)) (ag)))))))
def bj:List D->R D:=bd 3 4 cD
abbrev cE:Hl:=dv (m9 28) 3
def il:a9->R a_:=
 cn (kC "Standing" 4 aS (a7 (c_ "Standing" "came" (ae 0)) (a7 (c_ "Standing" "streams" (ae 0)) (a7 (f2 bK (c_ "Standing" "meters" (ae 0)) (bZ ee (a7 (ae 1) (ag)))) (a7 (c_ "Standing" "passed" (ae 0)) (ag))))))
def bn:List D->R D:=bd 2 2 il
abbrev dk:Hl:=dv (m9 28) 5
def jA:a9->R a_:=
 cn (kC "Standing" 4 aS (a7 (c_ "Standing" "came" (ae 0)) (a7 (c_ "Standing" "streams" (ae 0)) (a7 (c_ "Standing" "meters" (ae 0)) (a7 (f2 bK (c_ "Standing" "passed" (ae 0)) (eE (a7 (aw 1) (ag)))) (ag))))))
def bH:List D->R D:=bd 2 2 jA
abbrev f9:Hl:=m9 30
def mH:a9->R a_:=
 aA (dr (fA (bZ qC (a7 (fL (bN ["tanks","places"] [(".0", .local),("place", .local),("OUTSIDE", .globalImplicit),("tanks", .free)] (dD (aw 1)) (gN 1) (gj) (zS (f2 xE (ae 1) (fC (.int 0))) (f2 wJ (ae 1) (ae 3))))) (ag))))
  (bL "UnknownPlace" (a7 (fC (.str "a place is neither the outside nor one of the tanks")) (ag)))
  (aQ))
  (dr (fT (f2 kY (f2 bq (ae 1) (fC (.int 0))) (f2 bq (ae 1) (fC (.int 1)))))
  (bL "SamePlace" (a7 (fC (.str "a stream leads from one place to another one")) (ag)))
  (aQ))
def cM:List D->R D:=bd 2 2 mH
abbrev eM:Hl:=m9 31
def lF:a9->R a_:=
 aA (lj 2 (bN ["standing","numbers","there"] [(".0", .local),("stream", .local)] (dD (c_ "Standing" "streams" (ae 0))) (gN 1) (gj) (f2 bq (ae 1) (fC (.int 0)))))
  (aA (dr (fA (bZ qC (a7 (fL (bN ["standing","numbers","there"] [(".0", .local),("number", .local),("there", .free)] (dD (aw 1)) (gN 1) (gj) (f2 (jz true) (ae 1) (ae 2)))) (ag))))
  (bL "UnknownStream" (a7 (fC (.str "a stream that is named is not there")) (ag)))
  (aQ))
  (dr (fT (f2 xE (mT (ae 1)) (bZ bP (a7 (ae 1) (ag)))))
  (bL "Twice" (a7 (fC (.str "a stream is named twice")) (ag)))
  (aQ)))
def bx:List D->R D:=bd 2 3 lF
abbrev dF:Hl:=m9 32
def jU:a9->R a_:=
 dr (fA (bZ qC (a7 (fL (bN ["standing","numbers"] [(".0", .local),("number", .local),("standing", .free)] (dD (aw 1)) (gN 1) (gj) (f2 (jz true) (ae 1) (c_ "Standing" "meters" (ae 2))))) (ag))))
  (bL "NotMetered" (a7 (fC (.str "a stream that is named has no meter")) (ag)))
  (aQ)
def bU:List D->R D:=bd 2 2 jU
abbrev eN:Hl:=m9 33
def lG:a9->R a_:=
 dr (fA (bZ qC (a7 (fL (bN ["amounts"] [(".0", .local),("amount", .local),("abs", .globalImplicit),("MOST_AMOUNT", .globalImplicit)] (dD (aw 0)) (gN 1) (gj) (f2 wJ (bZ Ei (a7 (ae 1) (ag))) (fC (.int 1000))))) (ag))))
  (bL "OutOfRange" (a7 (fC (.str "a rise or a reading lies out of range")) (ag)))
  (aQ)
def bQ:List D->R D:=bd 1 1 lG
abbrev eS:Hl:=dv (m9 34) 0
def gJ:a9->R a_:=
 aA (dr (uG (fT (f2 xE (ae 1) (fC (.int 0)))) (fT (f2 wJ (ae 1) (fC (.int 7)))))
  (bL "BadTanks" (a7 (fC (.str "a cellar can't have that many tanks")) (ag)))
  (aQ))
  (aA (kB 0 (bV (aw 1) (gN 2)))
  (aA (kB 0 (bV (kC "Standing" 4 aS (a7 (fC (.int 0)) (a7 (eE (ag)) (a7 (eE (ag)) (a7 (eE (ag)) (ag)))))) (gN 3)))
  (yh 0 4)))
def o4:List (Gv×Nat):=[("tanks",2),("now",3)]
def cS:List D->R (List (Gv×D)×Gv×List D):=j6 1 4 o4 "history" 4 gJ
abbrev dG:Hl:=dv (m9 34) 1
def dH:a9->R a_:=
 aA (dr (fT (f2 Cg (bZ bP (a7 (nV 0 "Cellar" "history") (ag))) (fC (.int 60))))
  (bL "TooManyDeeds" (a7 (fC (.str "no more deeds can be kept")) (ag)))
  (aQ))
  (aA (mQ 0 "Cellar" "history" (eE (a7 (aw 1) (a7 (cr 0 "Cellar" "now") (ag)))))
  (qy 0 "Cellar" "now" (aw 2)))
def aP:List Slot->List D->R (D×List Slot):=j3 1 2 2 dH
abbrev cV:Hl:=dv (m9 34) 2
def iG:a9->R a_:=
 aA (gw (aO cM 2 (a7 (cr 0 "Cellar" "tanks") (a7 (eE (a7 (aw 1) (a7 (aw 2) (ag)))) (ag)))))
  (aA (dr (fT (f2 Cg (bZ bP (a7 (c_ "Standing" "streams" (cr 0 "Cellar" "now")) (ag))) (fC (.int 12))))
  (bL "TooManyStreams" (a7 (fC (.str "no more streams can be there")) (ag)))
  (aQ))
  (aA (gI (kI 0 "Cellar" "keep_deed" (iF [0] aP 2 (a7 (eE (a7 (fC (.str "stream comes")) (a7 (aw 1) (a7 (aw 2) (ag))))) (a7 (eX "Standing" "with_stream" 3 bj (cr 0 "Cellar" "now") (a7 (aw 1) (a7 (aw 2) (ag)))) (ag))))))
  (nW (c_ "Standing" "came" (cr 0 "Cellar" "now")))))
def bu:List Slot->List D->R (D×List Slot):=j3 1 2 2 iG
abbrev d0:Hl:=dv (m9 34) 4
def j8:a9->R a_:=
 aA (gw (aO bx 2 (a7 (cr 0 "Cellar" "now") (a7 (aw 1) (ag)))))
  (aA (dr (lB [0] (fA (bZ qC (a7 (fL (bN ["self","numbers"] [(".0", .local),("number", .local),("self", .free)] (dD (aw 1)) (gN 1) (gj) (f2 (jz false) (ae 1) (c_ "Standing" "meters" (c_ "Cellar" "now" (ae 2)))))) (ag)))))
  (bL "AlreadyMetered" (a7 (fC (.str "a stream that is named has a meter already")) (ag)))
  (aQ))
  (aA (dr (fT (f2 wJ (f2 bK (bZ bP (a7 (c_ "Standing" "meters" (cr 0 "Cellar" "now")) (ag))) (bZ bP (a7 (ae 1) (ag)))) (fC (.int 10))))
  (bL "TooManyMeters" (a7 (fC (.str "no more meters can be there")) (ag)))
  (aQ))
  (gI (kI 0 "Cellar" "keep_deed" (iF [0] aP 2 (a7 (eE (a7 (fC (.str "meters come")) (a7 (bZ ee (a7 (ae 1) (ag))) (ag)))) (a7 (eX "Standing" "with_meters" 2 bn (cr 0 "Cellar" "now") (a7 (aw 1) (ag))) (ag))))))))
def bB:List Slot->List D->R (D×List Slot):=j3 1 1 1 j8
abbrev dJ:Hl:=dv (m9 34) 10
def jV:a9->R a_:=
 cn (bZ bP (a7 (c_ "Standing" "passed" (c_ "Cellar" "now" (ae 0))) (ag)))
def aH:List D->R D:=bd 1 1 jV
abbrev dm:Hl:=dv (m9 34) 6
def jB:a9->R a_:=
 aA (dr (fT (f2 AZ (bZ bP (a7 (ae 1) (ag))) (cr 0 "Cellar" "tanks")))
  (bL "WrongRises" (a7 (fC (.str "each tank has one rise")) (ag)))
  (aQ))
  (aA (lj 3 (bN ["self","rises","readings","numbers","day"] [(".0", .local),("pair", .local)] (dD (aw 2)) (gN 1) (gj) (f2 bq (ae 1) (fC (.int 0)))))
  (aA (gT [3] (gw (aO bx 2 (a7 (cr 0 "Cellar" "now") (a7 (aw 3) (ag))))))
  (aA (gT [3] (gw (aO bU 2 (a7 (cr 0 "Cellar" "now") (a7 (aw 3) (ag))))))
  (aA (dr (fA (bZ qC (a7 (fL (bN ["self","rises","readings","numbers","day"] [(".0", .local),("meter", .local),("numbers", .free)] (dD (c_ "Standing" "meters" (cr 0 "Cellar" "now"))) (gN 1) (gj) (f2 (jz true) (ae 1) (ae 2)))) (ag))))
  (bL "ReadingMissing" (a7 (fC (.str "a stream that has a meter has no reading")) (ag)))
  (aQ))
  (aA (gw (aO bQ 1 (a7 (aw 1) (ag))))
  (aA (gw (aO bQ 1 (a7 (fL (bN ["self","rises","readings","numbers","day"] [(".0", .local),("pair", .local)] (dD (aw 2)) (gN 1) (gj) (f2 bq (ae 1) (fC (.int 1))))) (ag))))
  (aA (dr (fT (f2 Cg (bZ bP (a7 (c_ "Standing" "passed" (cr 0 "Cellar" "now")) (ag))) (fC (.int 12))))
  (bL "TooManyDays" (a7 (fC (.str "no more days can be kept")) (ag)))
  (aQ))
  (aA (bV (kC "Day" 4 eL (a7 (cr 0 "Cellar" "tanks") (a7 (c_ "Standing" "streams" (cr 0 "Cellar" "now")) (a7 (aw 1) (a7 (aw 2) (ag)))))) (gN 4))
  (aA (gI (kI 0 "Cellar" "keep_deed" (iF [0] aP 2 (a7 (eE (a7 (fC (.str "day passes")) (a7 (bZ ee (a7 (ae 1) (ag))) (a7 (bZ ee (a7 (ae 2) (ag))) (ag))))) (a7 (eX "Standing" "with_day" 2 bH (cr 0 "Cellar" "now") (a7 (aw 4) (ag))) (ag))))))
  (nW (nZ "history" [0] (eX "Cellar" "days_gone" 1 aH (aw 0) ag))))))))))))
def aR:List Slot->List D->R (D×List Slot):=j3 1 2 4 jB
abbrev im:Hl:=dv (m9 34) 11
def ip:a9->R a_:=
 aA (dr (uG (fT (f2 xE (ae 1) (fC (.int 1)))) (fT (f2 wJ (ae 1) (eX "Cellar" "days_gone" 1 aH (aw 0) ag))))
  (bL "UnknownDay" (a7 (fC (.str "no day has that number")) (ag)))
  (aQ))
  (cn (f2 bq (c_ "Standing" "passed" (c_ "Cellar" "now" (ae 0))) (f2 vN (ae 1) (fC (.int 1)))))
def cF:List D->R D:=bd 2 2 ip
abbrev o5:Hl:=m9 36
def r_:a9->R a_:=
 aA (dr (fT (f2 xE (ae 1) (bZ bP (a7 (ae 0) (ag)))))
  (cn (f2 bq (ae 0) (ae 1)))
  (aQ))
  (cn (fC (.int 0)))
def cN:List D->R D:=bd 2 2 r_
abbrev jW:Hl:=m9 37
def jX:a9->R a_:=
 aA (dr (fT (f2 kY (f2 aZ (aO cN 2 (a7 (aw 0) (a7 (fC (.int 0)) (ag)))) (fC (.int 2))) (fC (.int 0))))
  (cn (aO cN 2 (a7 (aw 0) (a7 (aw 1) (ag)))))
  (aQ))
  (aA (bV (f2 aZ (f2 jR (f2 bK (f2 bK (f2 bK (aO cN 2 (a7 (aw 0) (a7 (aw 1) (ag)))) (f2 bg (aO cN 2 (a7 (aw 0) (a7 (fC (.int 0)) (ag)))) (fC (.int 2)))) (f2 jR (fC (.int 7919)) (ae 1))) (fC (.int 1))) (fC (.int 48271))) (fC (.int 2147483647))) (gN 2))
  (cn (f2 aZ (f2 jR (f2 bK (ae 2) (ae 1)) (fC (.int 69621))) (fC (.int 2147483647)))))
def aI:List D->R D:=bd 2 3 jX
abbrev gK:Hl:=m9 38
def eu:a9->R a_:=
 dr (fA (ae 1))
  (aA (bV (f2 aZ (f2 jR (f2 bK (f2 bK (ae 0) (f2 jR (fC (.int 7919)) (ae 6))) (fC (.int 1))) (fC (.int 48271))) (fC (.int 2147483647))) (gN 7))
  (t7 4 (f2 aZ (f2 aZ (f2 jR (f2 bK (ae 7) (ae 6)) (fC (.int 69621))) (fC (.int 2147483647))) (ae 3))))
  (aA (t7 4 (f2 aZ (ae 5) (ae 3)))
  (bV (f2 bg (ae 5) (ae 3)) (gN 5)))
def gL:a9->R a_:=
 aA (iB 4 (ag))
  (aA (bV (aw 0) (gN 5))
  (aA (li (dX (a7 (aw 2) (ag))) (gN 6) (eu))
  (gT [4] (cn (aw 4)))))
def cT:List D->R D:=bd 4 8 gL
abbrev iq:Hl:=m9 39
def gz (QH:List D->R D):a9->R a_:=
 dr (jy (fA (aO QH 2 (a7 (f2 bq (ae 0) (ae 2)) (a7 (f2 bq (ae 1) (ae 2)) (ag))))))
  (cn (fC (.bl false)))
  (aQ)
def fV (QH:List D->R D):a9->R a_:=
 aA (dr (fA (tz "tuple" (ae 1)))
  (aA (dr (uG (jy (fA (tz "tuple" (ae 0)))) (fT (f2 AZ (bZ bP (a7 (ae 0) (ag))) (bZ bP (a7 (ae 1) (ag))))))
  (cn (fC (.bl false)))
  (aQ))
  (aA (li (dX (a7 (bZ bP (a7 (ae 1) (ag))) (ag))) (gN 2) (gz QH))
  (cn (fC (.bl true)))))
  (aQ))
  (cn (rl (tz "int" (ae 0)) (rl (rm (tz "bool" (ae 0))) (f2 kY (ae 0) (ae 1)))))
def d3:Nat->List D->R D
 |0=>λ_=> .bad
 |n+1=>bd 2 3 (fV (d3 n))
def bG:List D->R D:=d3 8
abbrev ir:Hl:=m9 40
def qG:a9->R a_:=
 cn (f2 bq (bE (a7 (fC (.int 1000)) (a7 (f1 ll (fC (.int 1000))) (a7 (f2 vN (f2 aZ (f2 bg (ae 0) (fC (.int 6))) (fC (.int 2001))) (fC (.int 1000))) (ag))))) (bZ xI (a7 (fC (.int 2)) (a7 (f2 aZ (ae 0) (fC (.int 6))) (ag)))))
def cG:List D->R D:=bd 1 1 qG
abbrev eA:Hl:=m9 41
def eB:a9->R a_:=
 aA (y3 2 (bZ iX (a7 (ae 1) (ag))))
  (aA (bV (aO aI 2 (a7 (aw 0) (a7 (fC (.int 12)) (ag)))) (gN 3))
  (aA (dr (fT (f2 kY (f2 aZ (aO aI 2 (a7 (aw 0) (a7 (fC (.int 11)) (ag)))) (fC (.int 6))) (fC (.int 1))))
  (mF 2 (f2 aZ (ae 3) (f2 bK (bZ bP (a7 (ae 2) (ag))) (fC (.int 1)))) (fC (.int 5)))
  (dr (iS (fT (f2 kY (f2 aZ (aO aI 2 (a7 (aw 0) (a7 (fC (.int 11)) (ag)))) (fC (.int 6))) (fC (.int 2)))) (fT (f2 gk (ae 2) (bE (ag)))))
  (pH 2)
  (aQ)))
  (aA (dr (iS (fT (f2 kY (f2 aZ (aO aI 2 (a7 (aw 0) (a7 (fC (.int 13)) (ag)))) (fC (.int 3))) (fC (.int 1)))) (fT (f2 gk (ae 2) (bE (ag)))))
  (aA (bV (f2 bK (fC (.int 1001)) (f2 aZ (f2 bg (ae 3) (fC (.int 16))) (f2 bq (bE (a7 (f2 qe (fC (.int 10)) (fC (.int 20))) (a7 (fC (.int 2)) (ag)))) (f2 aZ (f2 bg (ae 3) (fC (.int 8))) (fC (.int 2)))))) (gN 4))
  (rn 2 (f2 aZ (f2 bg (ae 3) (fC (.int 32))) (bZ bP (a7 (ae 2) (ag)))) (f2 bq (bE (a7 (aw 4) (a7 (f1 ll (ae 4)) (ag)))) (f2 aZ (f2 bg (aO aI 2 (a7 (aw 0) (a7 (fC (.int 13)) (ag)))) (fC (.int 3))) (fC (.int 2))))))
  (aQ))
  (gT [2] (cn (aw 2))))))
def c5:List D->R D:=bd 2 5 eB
abbrev d4:Hl:=m9 42
def d5:a9->R a_:=
 aA (y3 4 (bZ iX (a7 (ae 3) (ag))))
  (aA (lj 5 (bN ["_law_script","_law_bare","_law_others","_law_readings","_law_row","_law_spot","_law_twice","_law_more","_law_k"] [(".0", .local),("_law_k", .local),("_law_cell", .globalImplicit),("_law_script", .free)] (dX (a7 (fC (.int 5)) (ag))) (gN 1) (gj) (aO aI 2 (a7 (aw 3) (a7 (f2 bK (fC (.int 20)) (ae 1)) (ag))))))
  (aA (dr (iS (fT (f2 kY (f2 aZ (f2 bq (ae 5) (fC (.int 0))) (fC (.int 3))) (fC (.int 1)))) (fT (f2 gk (ae 4) (bE (ag)))))
  (pG 4 (f2 aZ (f2 bg (f2 bq (ae 5) (fC (.int 0))) (fC (.int 3))) (bZ bP (a7 (ae 4) (ag)))))
  (aQ))
  (aA (dr (iS (fT (f2 kY (f2 aZ (f2 bq (ae 5) (fC (.int 1))) (fC (.int 3))) (fC (.int 1)))) (fT (f2 gk (ae 4) (bE (ag)))))
  (aA (bV (f2 bq (ae 4) (f2 aZ (f2 bg (f2 bq (ae 5) (fC (.int 1))) (fC (.int 3))) (bZ bP (a7 (ae 4) (ag))))) (gN 6))
  (mF 4 (f2 aZ (f2 bg (f2 bq (ae 5) (fC (.int 1))) (fC (.int 60))) (f2 bK (bZ bP (a7 (ae 4) (ag))) (fC (.int 1)))) (eE (a7 (f2 bq (ae 6) (fC (.int 0))) (a7 (f2 jR (f2 aZ (f2 bg (f2 bq (ae 5) (fC (.int 1))) (fC (.int 2000))) (fC (.int 2))) (f2 bq (ae 6) (fC (.int 1)))) (ag))))))
  (aQ))
  (aA (dr (iS (fT (f2 kY (f2 aZ (f2 bq (ae 5) (fC (.int 2))) (fC (.int 3))) (fC (.int 1)))) (fT (f2 gk (ae 1) (bE (ag)))))
  (mF 4 (f2 aZ (f2 bg (f2 bq (ae 5) (fC (.int 2))) (fC (.int 3))) (f2 bK (bZ bP (a7 (ae 4) (ag))) (fC (.int 1)))) (eE (a7 (f2 bq (ae 1) (f2 aZ (f2 bg (f2 bq (ae 5) (fC (.int 2))) (fC (.int 60))) (bZ bP (a7 (ae 1) (ag))))) (a7 (fC (.int 4)) (ag)))))
  (aQ))
  (aA (dr (fT (f2 kY (f2 aZ (f2 bq (ae 5) (fC (.int 3))) (fC (.int 3))) (fC (.int 1))))
  (mF 4 (f2 aZ (f2 bg (f2 bq (ae 5) (fC (.int 3))) (fC (.int 3))) (f2 bK (bZ bP (a7 (ae 4) (ag))) (fC (.int 1)))) (eE (a7 (f2 bq (ae 2) (f2 aZ (f2 bg (f2 bq (ae 5) (fC (.int 3))) (fC (.int 60))) (bZ bP (a7 (ae 2) (ag))))) (a7 (fC (.int 1002)) (ag)))))
  (aQ))
  (aA (dr (iS (fT (f2 kY (f2 aZ (f2 bq (ae 5) (fC (.int 4))) (fC (.int 3))) (fC (.int 1)))) (fT (f2 gk (ae 4) (bE (ag)))))
  (aA (bV (f2 bK (fC (.int 1001)) (f2 aZ (f2 bg (f2 bq (ae 5) (fC (.int 4))) (fC (.int 360))) (f2 bq (bE (a7 (f2 qe (fC (.int 10)) (fC (.int 20))) (a7 (fC (.int 2)) (ag)))) (f2 aZ (f2 bg (f2 bq (ae 5) (fC (.int 4))) (fC (.int 6))) (fC (.int 2)))))) (gN 7))
  (aA (bV (f2 aZ (f2 bg (f2 bq (ae 5) (fC (.int 4))) (fC (.int 12))) (bZ bP (a7 (ae 4) (ag)))) (gN 8))
  (rn 4 (aw 8) (eE (a7 (f2 bq (f2 bq (ae 4) (ae 8)) (fC (.int 0))) (a7 (f2 bq (bE (a7 (aw 7) (a7 (f1 ll (ae 7)) (ag)))) (f2 aZ (f2 bg (f2 bq (ae 5) (fC (.int 4))) (fC (.int 3))) (fC (.int 2)))) (ag)))))))
  (aQ))
  (gT [4] (cn (aw 4)))))))))
def bC:List D->R D:=bd 4 9 d5
abbrev jY:Hl:=m9 43
def fW:a9->R a_:=
 aA (iB 3 (ag))
  (aA (vT 4 (vY RL)
  (m8 (j4 (fC (.str "")) (kI 0 "Cellar" "day_passes" (iF [0] aR 2 (a7 (aw 1) (a7 (aw 2) (ag)))))))
  (aA (iB 3 (a7 (nS (tb 4) (ae 4)) (a7 (nS (tb 5) (ae 4)) (a7 (nS (tb 6) (ae 4)) (ag)))))
  (aA (bV (f2 bK (ae 3) (bE (a7 (nS (tb 8) (ae 4)) (a7 (nS (tb 9) (ae 4)) (a7 (nS (tb 10) (ae 4)) (ag)))))) (gN 3))
  (bV (f2 bK (ae 3) (bE (a7 (rm (nS FH (ae 4))) (ag)))) (gN 3)))))
  (aA (iB 5 (a7 (fC (.str "WrongRises")) (a7 (fC (.str "UnknownStream")) (a7 (fC (.str "Twice")) (a7 (fC (.str "NotMetered")) (a7 (fC (.str "ReadingMissing")) (a7 (fC (.str "OutOfRange")) (a7 (fC (.str "another")) (ag)))))))))
  (aA (bV (fC (.str "another")) (gN 6))
  (aA (dr (fT (f2 kY (B3 (ae 3) (fC (.bl true))) (fC (.int 1))))
  (bV (f2 bq (ae 5) (B4 (ae 3) (fC (.bl true)))) (gN 6))
  (aQ))
  (nW (bE (a7 (aw 6) (a7 (fC .non) (ag)))))))))
def eO:List Slot->List D->R (D×List Slot):=j3 1 2 6 fW
abbrev fX:Hl:=m9 44
def o6:a9->R a_:=
 aA (lj 5 (bN ["_law_n","_law_there","_law_meters","_law_rises","_law_readings","_law_named","_law_amounts"] [(".0", .local),("_law_row", .local)] (dD (aw 4)) (gN 1) (gj) (f2 bq (ae 1) (fC (.int 0)))))
  (aA (dr (fT (f2 AZ (bZ bP (a7 (ae 3) (ag))) (ae 0)))
  (cn (fC (.str "WrongRises")))
  (aQ))
  (aA (gT [5] (dr (fT (f2 gk (fL (bN ["_law_n","_law_there","_law_meters","_law_rises","_law_readings","_law_named","_law_amounts"] [(".0", .local),("_law_number", .local),("_law_there", .free)] (dD (aw 5)) (gN 1) (fT (f2 (jz true) (ae 1) (ae 2))) (aw 1))) (bE (ag))))
  (cn (fC (.str "UnknownStream")))
  (aQ)))
  (aA (gT [5] (dr (fT (f2 gk (fL (bN ["_law_n","_law_there","_law_meters","_law_rises","_law_readings","_law_named","_law_amounts"] [(".0", .local),("_law_number", .local),("_law_named", .free)] (dD (aw 5)) (gN 1) (fT (f2 wJ (uW (ae 2) (aw 1)) (fC (.int 1)))) (aw 1))) (bE (ag))))
  (cn (fC (.str "Twice")))
  (aQ)))
  (aA (gT [5] (dr (fT (f2 gk (fL (bN ["_law_n","_law_there","_law_meters","_law_rises","_law_readings","_law_named","_law_amounts"] [(".0", .local),("_law_number", .local),("_law_meters", .free)] (dD (aw 5)) (gN 1) (fT (f2 (jz true) (ae 1) (ae 2))) (aw 1))) (bE (ag))))
  (cn (fC (.str "NotMetered")))
  (aQ)))
  (aA (dr (fT (f2 xE (bZ bP (a7 (ae 5) (ag))) (bZ bP (a7 (ae 2) (ag)))))
  (cn (fC (.str "ReadingMissing")))
  (aQ))
  (aA (bV (f2 bK (bZ iX (a7 (ae 3) (ag))) (fL (bN ["_law_n","_law_there","_law_meters","_law_rises","_law_readings","_law_named","_law_amounts"] [(".0", .local),("_law_row", .local)] (dD (aw 4)) (gN 1) (gj) (f2 bq (ae 1) (fC (.int 1)))))) (gN 6))
  (aA (dr (uG (fT (f2 xE (bZ uX (a7 (f2 bK (ae 6) (bE (a7 (fC (.int 0)) (ag)))) (ag))) (f1 ll (fC (.int 1000))))) (fT (f2 wJ (bZ uY (a7 (f2 bK (ae 6) (bE (a7 (fC (.int 0)) (ag)))) (ag))) (fC (.int 1000)))))
  (cn (fC (.str "OutOfRange")))
  (aQ))
  (cn (fC (.str ""))))))))))
def cm:List D->R D:=bd 5 7 o6
abbrev o7:Hl:=m9 45
def qH:a9->R a_:=
 rZ 4 (kI 2 "Cellar" "stream_comes" (iF [2] bu 2 (a7 (f2 aZ (ae 5) (f2 bK (ae 1) (fC (.int 1)))) (a7 (f2 aZ (f2 bK (ae 5) (fC (.int 1))) (f2 bK (ae 1) (fC (.int 1)))) (ag)))))
def j9:a9->R a_:=
 aA (bV (uQ [4] (aO cm 5 (a7 (aw 1) (a7 (aw 4) (a7 (aw 7) (a7 (aw 14) (a7 (aw 15) (ag)))))))) (gN 16))
  (aA (uR 17 (iF [2] eO 2 (a7 (bZ iX (a7 (ae 14) (ag))) (a7 (bZ iX (a7 (ae 15) (ag))) (ag)))))
  (aA (dr (fT (f2 AZ (f2 bq (ae 17) (fC (.int 0))) (ae 16)))
  (cn (fC (.bl false)))
  (aQ))
  (aA (dr (fT (f2 kY (ae 16) (fC (.str ""))))
  (aA (bV (f2 bK (ae 13) (fC (.int 1))) (gN 13))
  (aA (dr (lB [2] (uG (jy (fA (aO bG 2 (a7 (f2 bq (ae 17) (fC (.int 1))) (a7 (aw 13) (ag)))))) (jy (fA (aO bG 2 (a7 (c_ "Day" "rises" (eX "Cellar" "day" 2 cF (aw 2) (a7 (aw 13) (ag)))) (a7 (bZ ee (a7 (ae 14) (ag))) (ag))))))))
  (cn (fC (.bl false)))
  (aQ))
  (dr (lB [2] (jy (fA (aO bG 2 (a7 (c_ "Day" "readings" (eX "Cellar" "day" 2 cF (aw 2) (a7 (aw 13) (ag)))) (a7 (bZ ee (a7 (bZ eg (a7 (ae 15) (ag))) (ag))) (ag)))))))
  (cn (fC (.bl false)))
  (aQ))))
  (aQ))
  (dr (lB [2] (jy (fA (aO bG 2 (a7 (eX "Cellar" "days_gone" 1 aH (aw 2) ag) (a7 (aw 13) (ag)))))))
  (cn (fC (.bl false)))
  (aQ)))))
def yn:a9->R a_:=
 aA (bV (f2 aZ (aO aI 2 (a7 (aw 0) (a7 (fC (.int 1)) (ag)))) (fC (.int 8))) (gN 1))
  (aA (qB 2 "Cellar" 1 cS (a7 (aw 1) (ag)))
  (aA (bV (f2 kY (f2 aZ (aO cN 2 (a7 (aw 0) (a7 (fC (.int 0)) (ag)))) (fC (.int 2))) (fC (.int 1))) (gN 3))
  (aA (iB 4 (ag))
  (aA (li (dX (a7 (f2 jR (bZ xI (a7 (ae 1) (a7 (fC (.int 1)) (ag)))) (f2 aZ (aO aI 2 (a7 (aw 0) (a7 (fC (.int 2)) (ag)))) (fC (.int 13)))) (ag))) (gN 5) (qH))
  (aA (bV (aO cT 4 (a7 (aO aI 2 (a7 (aw 0) (a7 (fC (.int 3)) (ag)))) (a7 (aw 3) (a7 (bZ bP (a7 (ae 4) (ag))) (a7 (fC (.int 3)) (ag)))))) (gN 6))
  (aA (gT [4] (bV (FF (fL (bN ["_law_script","_law_n","_law_cellar","_law_mixed","_law_there","_law_k","_law_fitted","_law_meters","_law_bare","_law_others","_law_cells","_law_good","_law_wrong","_law_gone","_law_rises","_law_readings","_law_word","_law_found"] [(".0", .local),("_law_number", .local),("_law_fitted", .free)] (dD (aw 4)) (gN 1) (fT (f2 wJ (f2 bq (ae 2) (f2 vN (ae 1) (fC (.int 1)))) (fC (.int 0)))) (aw 1))) (B1) (B2 (fC (.int 10)))) (gN 7)))
  (aA (gI (kI 2 "Cellar" "meters_come" (iF [2] bB 1 (a7 (aw 7) (ag)))))
  (aA (gT [4] (lj 8 (bN ["_law_script","_law_n","_law_cellar","_law_mixed","_law_there","_law_k","_law_fitted","_law_meters","_law_bare","_law_others","_law_cells","_law_good","_law_wrong","_law_gone","_law_rises","_law_readings","_law_word","_law_found"] [(".0", .local),("_law_number", .local),("_law_meters", .free)] (dD (aw 4)) (gN 1) (fT (f2 (jz true) (ae 1) (ae 2))) (aw 1))))
  (aA (bV (f2 bK (bE (a7 (f1 ll (fC (.int 1))) (a7 (fC (.int 0)) (a7 (f2 qe (fC (.int 10)) (fC (.int 20))) (ag))))) (jS (a7 (f2 bK (bZ bP (a7 (ae 4) (ag))) (fC (.int 1))) (a7 (fC (.int 62)) (ag))))) (gN 9))
  (aA (bV (aO cT 4 (a7 (aO aI 2 (a7 (aw 0) (a7 (fC (.int 4)) (ag)))) (a7 (aw 3) (a7 (f2 bK (ae 1) (bZ bP (a7 (ae 7) (ag)))) (a7 (fC (.int 12006)) (ag)))))) (gN 10))
  (aA (iB 11 (a7 (fL (bN ["_law_script","_law_n","_law_cellar","_law_mixed","_law_there","_law_k","_law_fitted","_law_meters","_law_bare","_law_others","_law_cells","_law_good","_law_wrong","_law_gone","_law_rises","_law_readings","_law_word","_law_found"] [(".0", .local),("_law_k", .local),("_law_amount", .globalImplicit),("_law_cells", .free)] (dX (a7 (aw 1) (ag))) (gN 1) (gj) (aO cG 1 (a7 (f2 bq (ae 3) (ae 1)) (ag))))) (ag)))
  (aA (t7 11 (fL (bN ["_law_script","_law_n","_law_cellar","_law_mixed","_law_there","_law_k","_law_fitted","_law_meters","_law_bare","_law_others","_law_cells","_law_good","_law_wrong","_law_gone","_law_rises","_law_readings","_law_word","_law_found"] [(".0", .local),("_law_k", .local),("_law_amount", .globalImplicit),("_law_cells", .free),("_law_meters", .free),("_law_n", .free)] (dX (a7 (bZ bP (a7 (ae 7) (ag))) (ag))) (gN 1) (gj) (eE (a7 (f2 bq (ae 4) (ae 1)) (a7 (aO cG 1 (a7 (f2 bq (ae 3) (f2 bK (ae 5) (ae 1))) (ag))) (ag)))))))
  (aA (gT [8] (iB 12 (a7 (aO c5 2 (a7 (aw 0) (a7 (f2 bq (ae 11) (fC (.int 0))) (ag)))) (a7 (aO bC 4 (a7 (aw 0) (a7 (aw 8) (a7 (aw 9) (a7 (f2 bq (ae 11) (fC (.int 1))) (ag)))))) (ag)))))
  (aA (bV (fC (.int 0)) (gN 13))
  (aA (gT [11] (li (dD (bE (a7 (bE (a7 (f2 bq (ae 12) (fC (.int 0))) (a7 (f2 bq (ae 11) (fC (.int 1))) (ag)))) (a7 (bE (a7 (f2 bq (ae 11) (fC (.int 0))) (a7 (f2 bq (ae 12) (fC (.int 1))) (ag)))) (a7 (bE (a7 (f2 bq (ae 12) (fC (.int 0))) (a7 (f2 bq (ae 12) (fC (.int 1))) (ag)))) (a7 (aw 11) (ag))))))) (xz 2 (nL (gN 14) (nL (gN 15) (xy)))) (j9)))
  (cn (fC (.bl true))))))))))))))))))
def pI:List D->R D:=bd 1 18 yn
end My
namespace My
open PySem PySem.Spec PyProof.Rows L2 L2.Pu
section
variable {P:GP} {w:G_} {K:Gs} {mg:Gv->Option Gu} {base:GY}
abbrev BN:List Gv:=["ValueError","abs","any","bool","int","isinstance","len","list","max","min","range","set","sorted","tuple"]
theorem mh:aK ["self","tanks","streams","rises","readings","self.tanks","self.streams","self.rises","self.readings"] ["self","tanks","streams","rises","readings"] (ah ik):=⟨rfl,rfl,rfl,by decide+kernel,rfl,by decide+kernel,by decide+kernel⟩
theorem gA:∀g∈(["self.tanks","self.streams","self.rises","self.readings"]:List Gv),¬ke (ah ik) g:=by unfold ke;decide+kernel
theorem s9 (A:lr K mg "Day" "Day.__init__" ik ["self","tanks","streams","rises","readings"] o1) (B:Bl mg BN):fQ P w K mg base 1 "Day" 4 eL:=by
 refine pw A mh rfl rfl (by decide) (by decide) λC f Oc A outer s H E hC QT hr=> ?_
 have hu:=cp hr
 have S:=mh
 exact aj (gG 5 hC (QT "tanks" (by decide)) (fR (by decide) (by decide) (by decide) (by decide)) (ax 1) (hvis:=gA "self.tanks" (by decide))) (aj (gG 6 hC (QT "streams" (by decide)) (fR (by decide) (by decide) (by decide) (by decide)) (cI bz d7 (B.no "tuple" (by decide)) L2.Pu.bT (ay (PQ.bo (aF (ie rfl) i_ (B.no "sorted" (by decide)) L2.Pu.iY (ay (af 2) (aD)))) (aD))) (hvis:=gA "self.streams" (by decide))) (aj (gG 7 hC (QT "rises" (by decide)) (fR (by decide) (by decide) (by decide) (by decide)) (cI bz d7 (B.no "tuple" (by decide)) L2.Pu.bT (ay (af 3) (aD))) (hvis:=gA "self.rises" (by decide))) (av (gG 8 hC (QT "readings" (by decide)) (fR (by decide) (by decide) (by decide) (by decide)) (cI bz d7 (B.no "tuple" (by decide)) L2.Pu.bT (ay (PQ.bo (aF (ie rfl) i_ (B.no "sorted" (by decide)) L2.Pu.iY (ay (af 4) (aD)))) (aD))) (hvis:=gA "self.readings" (by decide))))))
theorem hG:aK ["self","came","streams","meters","passed","self.came","self.streams","self.meters","self.passed"] ["self","came","streams","meters","passed"] (ah dA):=⟨rfl,rfl,rfl,by decide+kernel,rfl,by decide+kernel,by decide+kernel⟩
theorem da:∀g∈(["self.came","self.streams","self.meters","self.passed"]:List Gv),¬ke (ah dA) g:=by unfold ke;decide+kernel
theorem lH (A:lr K mg "Standing" "Standing.__init__" dA ["self","came","streams","meters","passed"] b7) (B:Bl mg BN):fQ P w K mg base 1 "Standing" 4 aS:=by
 refine pw A hG rfl rfl (by decide) (by decide) λC f Oc A outer s H E hC QT hr=> ?_
 have hu:=cp hr
 have S:=hG
 exact aj (gG 5 hC (QT "came" (by decide)) (fR (by decide) (by decide) (by decide) (by decide)) (ax 1) (hvis:=da "self.came" (by decide))) (aj (gG 6 hC (QT "streams" (by decide)) (fR (by decide) (by decide) (by decide) (by decide)) (ax 2) (hvis:=da "self.streams" (by decide))) (aj (gG 7 hC (QT "meters" (by decide)) (fR (by decide) (by decide) (by decide) (by decide)) (ax 3) (hvis:=da "self.meters" (by decide))) (av (gG 8 hC (QT "passed" (by decide)) (fR (by decide) (by decide) (by decide) (by decide)) (ax 4) (hvis:=da "self.passed" (by decide))))))
theorem dL:aK ["self","source","target","number"] ["self","source","target"] (ah cC):=⟨rfl,rfl,rfl,by decide+kernel,rfl,by decide+kernel,by decide+kernel⟩
theorem hJ (A:f8 K "Standing" "with_stream" "Standing.with_stream" cC ["self","source","target"]) (B:Bl mg BN) (O5:fQ P w K mg base 1 "Standing" 4 aS) (O1:cL K "Standing" b7):ck P w K mg base 3 "Standing" "with_stream" 3 bj:=by
 refine gY A dL rfl rfl λf Oc A outer s H E hr=> ?_
 have hu:=cp hr
 have S:=dL
 exact aj (cJ 3 S.nd (ar aU aV (PQ.bo (br O1 (by decide) (af 0))) (PQ.bo (ak)))) (av (b_ (nR O5 (hr.mono (by decide)) (a8 (ax 3) (a8 (ar aU aV (PQ.bo (br O1 (by decide) (af 0))) (PQ.bo (fg (a8 (fg (a8 (ax 3) (a8 (ax 1) (a8 (ax 2) (ai))))) (ai))))) (a8 (br O1 (by decide) (af 0)) (a8 (br O1 (by decide) (af 0)) (ai))))))))
theorem dM:aK ["self","numbers"] ["self","numbers"] (ah cE):=⟨rfl,rfl,rfl,by decide+kernel,rfl,by decide+kernel,by decide+kernel⟩
theorem hU (A:f8 K "Standing" "with_meters" "Standing.with_meters" cE ["self","numbers"]) (B:Bl mg BN) (O5:fQ P w K mg base 1 "Standing" 4 aS) (O1:cL K "Standing" b7):ck P w K mg base 3 "Standing" "with_meters" 2 bn:=by
 refine gY A dM rfl rfl λf Oc A outer s H E hr=> ?_
 have hu:=cp hr
 have S:=dM
 exact av (b_ (nR O5 (hr.mono (by decide)) (a8 (br O1 (by decide) (af 0)) (a8 (br O1 (by decide) (af 0)) (a8 (ar aU aV (PQ.bo (br O1 (by decide) (af 0))) (PQ.bo (cI bz d7 (B.no "tuple" (by decide)) L2.Pu.bT (ay (af 1) (aD))))) (a8 (br O1 (by decide) (af 0)) (ai)))))))
theorem eY:aK ["self","day"] ["self","day"] (ah dk):=⟨rfl,rfl,rfl,by decide+kernel,rfl,by decide+kernel,by decide+kernel⟩
theorem ja (A:f8 K "Standing" "with_day" "Standing.with_day" dk ["self","day"]) (B:Bl mg BN) (O5:fQ P w K mg base 1 "Standing" 4 aS) (O1:cL K "Standing" b7):ck P w K mg base 3 "Standing" "with_day" 2 bH:=by
 refine gY A eY rfl rfl λf Oc A outer s H E hr=> ?_
 have hu:=cp hr
 have S:=eY
 exact av (b_ (nR O5 (hr.mono (by decide)) (a8 (br O1 (by decide) (af 0)) (a8 (br O1 (by decide) (af 0)) (a8 (br O1 (by decide) (af 0)) (a8 (ar aU aV (PQ.bo (br O1 (by decide) (af 0))) (PQ.bo (fg (a8 (ax 1) (ai))))) (ai)))))))
theorem hV:aK ["tanks","places"] ["tanks","places"] (ah f9):=⟨rfl,rfl,rfl,by decide+kernel,rfl,by decide+kernel,by decide+kernel⟩
theorem lI (A:eG K mg "refuse_places" f9 ["tanks","places"]) (B:Bl mg BN) {Q2:JP} (PM:mg "OUTSIDE"=some (.int 0 Q2)) (PF:bO K mg "SamePlace") (OX:bO K mg "UnknownPlace"):bS P w K mg base 1 "refuse_places" 2 cM:=by
 refine dz A hV rfl rfl λf Oc A outer s H E hr=> ?_
 have hu:=cp hr
 have S:=hV
 exact aj (ci (gp (PQ.bo (aF (fF rfl) jq (B.no "any" (by decide)) L2.Pu.g_ (ay (PQ.bo (dZ (aT.of rfl (by first|decide+kernel|rfl)) rfl (eW (ax 1)) (λ_ _ _=>bJ 1 (show ([".0","place","OUTSIDE","tanks"]:List Gv).Nodup by decide+kernel)) (λ_ _ _=>dY) (λ_ _ _=>Fv (nJ n5 jQ (af 1) (PQ.bo (i9 rfl PM))) (AS (nJ lR iW (af 1) (af 3)))))) (aD))))) (av (cB OX rfl (a8 (bA) (ai)))) (aX)) (av (ci (ba gm d_ (PQ.bo (bv hu (af 1) (PQ.bo (ak)))) (PQ.bo (bv hu (af 1) (PQ.bo (ak))))) (av (cB PF rfl (a8 (bA) (ai)))) (aX)))
theorem gB:aK ["standing","numbers","there"] ["standing","numbers"] (ah eM):=⟨rfl,rfl,rfl,by decide+kernel,rfl,by decide+kernel,by decide+kernel⟩
theorem kN (A:eG K mg "refuse_numbers" eM ["standing","numbers"]) (B:Bl mg BN) (QI:bO K mg "Twice") (OO:bO K mg "UnknownStream") (O1:cL K "Standing" b7):bS P w K mg base 1 "refuse_numbers" 2 bx:=by
 refine dz A gB rfl rfl λf Oc A outer s H E hr=> ?_
 have hu:=cp hr
 have S:=gB
 exact aj (qu 2 (aT.of rfl (by first|decide+kernel|rfl)) rfl S.nd (eW (br O1 (by decide) (af 0))) (λ_ _ _=>bJ 1 (show ([".0","stream"]:List Gv).Nodup by decide+kernel)) (λ_ _ _=>dY) (λ_ _ _=>bv hu (af 1) (PQ.bo (ak)))) (aj (ci (gp (PQ.bo (aF (fF rfl) jq (B.no "any" (by decide)) L2.Pu.g_ (ay (PQ.bo (dZ (aT.of rfl (by first|decide+kernel|rfl)) rfl (eW (ax 1)) (λ_ _ _=>bJ 1 (show ([".0","number","there"]:List Gv).Nodup by decide+kernel)) (λ_ _ _=>dY) (λ_ _ _=>qj hu (af 1) (af 2)))) (aD))))) (av (cB OO rfl (a8 (bA) (ai)))) (aX)) (av (ci (ba n5 jQ (PQ.bo (yk rfl (B.no "len" (by decide)) (B.no "set" (by decide)) (af 1))) (PQ.bo (aF aG aY (B.no "len" (by decide)) Ha (ay (af 1) (aD))))) (av (cB QI rfl (a8 (bA) (ai)))) (aX))))
theorem ft:aK ["standing","numbers"] ["standing","numbers"] (ah dF):=⟨rfl,rfl,rfl,by decide+kernel,rfl,by decide+kernel,by decide+kernel⟩
theorem jC (A:eG K mg "refuse_unmetered" dF ["standing","numbers"]) (B:Bl mg BN) (Ph:bO K mg "NotMetered") (O1:cL K "Standing" b7):bS P w K mg base 1 "refuse_unmetered" 2 bU:=by
 refine dz A ft rfl rfl λf Oc A outer s H E hr=> ?_
 have hu:=cp hr
 have S:=ft
 exact av (ci (gp (PQ.bo (aF (fF rfl) jq (B.no "any" (by decide)) L2.Pu.g_ (ay (PQ.bo (dZ (aT.of rfl (by first|decide+kernel|rfl)) rfl (eW (ax 1)) (λ_ _ _=>bJ 1 (show ([".0","number","standing"]:List Gv).Nodup by decide+kernel)) (λ_ _ _=>dY) (λ_ _ _=>qj hu (af 1) (PQ.bo (br O1 (by decide) (af 2)))))) (aD))))) (av (cB Ph rfl (a8 (bA) (ai)))) (aX))
theorem gC:aK ["amounts"] ["amounts"] (ah eN):=⟨rfl,rfl,rfl,by decide+kernel,rfl,by decide+kernel,by decide+kernel⟩
theorem kO (A:eG K mg "refuse_amounts" eN ["amounts"]) (B:Bl mg BN) {P6:JP} (OY:mg "MOST_AMOUNT"=some (.int 1000 P6)) (Pj:bO K mg "OutOfRange"):bS P w K mg base 1 "refuse_amounts" 1 bQ:=by
 refine dz A gC rfl rfl λf Oc A outer s H E hr=> ?_
 have hu:=cp hr
 have S:=gC
 exact av (ci (gp (PQ.bo (aF (fF rfl) jq (B.no "any" (by decide)) L2.Pu.g_ (ay (PQ.bo (dZ (aT.of rfl (by first|decide+kernel|rfl)) rfl (eW (ax 0)) (λ_ _ _=>bJ 1 (show ([".0","amount","abs","MOST_AMOUNT"]:List Gv).Nodup by decide+kernel)) (λ_ _ _=>dY) (λ_ _ _=>nJ lR iW (PQ.bo (aF wc Ah (B.no "abs" (by decide)) L2.Pu.wd (ay (af 1) (aD)))) (PQ.bo (i9 rfl OY))))) (aD))))) (av (cB Pj rfl (a8 (bA) (ai)))) (aX))
theorem jb:aK ["self","tanks","self.tanks","self.now","self.history"] ["self","tanks"] (ah eS):=⟨rfl,rfl,rfl,by decide+kernel,rfl,by decide+kernel,by decide+kernel⟩
theorem fY:∀g∈(["self.tanks","self.now","self.history"]:List Gv),¬ke (ah eS) g:=by unfold ke;decide+kernel
theorem o8 (A:lr K mg "Cellar" "Cellar.__init__" eS ["self","tanks"] cR) (B:Bl mg BN) (O5:fQ P w K mg base 1 "Standing" 4 aS) {Pk:JP} (P7:mg "MOST_TANKS"=some (.int 7 Pk)) (PR:bO K mg "BadTanks"):rY P w K mg base 3 "Cellar" 1 cS:=by
 refine yj A jb rfl rfl (by decide) (by decide) (by decide) λC f Oc A outer s H E hC QT hr=> ?_
 have hu:=cp hr
 have S:=jb
 exact aj (ci (qb.t (xx (ba n5 jQ (af 1) (PQ.bo (ak))) (rj (ba lR iW (af 1) (PQ.bo (i9 rfl P7)))))) (av (cB PR rfl (a8 (bA) (ai)))) (aX)) (aj (gG 2 hC (QT "tanks" (by decide)) (fR (by decide) (by decide) (by decide) (by decide)) (ax 1) (hvis:=fY "self.tanks" (by decide))) (aj (gG 3 hC (QT "now" (by decide)) (fR (by decide) (by decide) (by decide) (by decide)) (nR O5 (hr.mono (by decide)) (a8 (ak) (a8 (fg (ai)) (a8 (fg (ai)) (a8 (fg (ai)) (ai)))))) (hvis:=fY "self.now" (by decide))) (av (CI 4 hC (QT "history" (by decide)) (fR (by decide) (by decide) (by decide) (by decide)) (hvis:=fY "self.history" (by decide))))))
theorem fu:aK ["self","deed","after"] ["self","deed","after"] (ah dG):=⟨rfl,rfl,rfl,by decide+kernel,rfl,by decide+kernel,by decide+kernel⟩
theorem jD (A:f8 K "Cellar" "keep_deed" "Cellar.keep_deed" dG ["self","deed","after"]) (B:Bl mg BN) {Pl:JP} (P8:mg "MOST_DEEDS"=some (.int 60 Pl)) (OZ:bO K mg "TooManyDeeds") (O3:cL K "Cellar" cR):fq P w K mg base 1 "Cellar" "keep_deed" 2 aP:=by
 refine kH A fu rfl rfl (by decide) λf Oc A outer s H E hr=> ?_
 have hu:=cp hr
 have S:=fu
 exact aj (ci (ba wX tj (PQ.bo (aF aG aY (B.no "len" (by decide)) Ha (ay (CD 0 O3 (by decide)) (aD)))) (PQ.bo (i9 rfl P8))) (av (cB OZ rfl (a8 (bA) (ai)))) (aX)) (aj (yg 0 O3 (by decide) (fg (a8 (ax 1) (a8 (di 0 O3 (by decide)) (ai))))) (av (yf 0 O3 (by decide) (ax 2))))
theorem eC:aK ["self","source","target"] ["self","source","target"] (ah cV):=⟨rfl,rfl,rfl,by decide+kernel,rfl,by decide+kernel,by decide+kernel⟩
theorem iu (A:f8 K "Cellar" "stream_comes" "Cellar.stream_comes" cV ["self","source","target"]) (B:Bl mg BN) (OP:bS P w K mg base 1 "refuse_places" 2 cM) (O6:fq P w K mg base 1 "Cellar" "keep_deed" 2 aP) (Ol:ck P w K mg base 3 "Standing" "with_stream" 3 bj) {O_:JP} (OQ:mg "MOST_STREAMS"=some (.int 12 O_)) (OG:bO K mg "TooManyStreams") (O3:cL K "Cellar" cR) (O1:cL K "Standing" b7):fq P w K mg base 4 "Cellar" "stream_comes" 2 bu:=by
 refine kH A eC rfl rfl (by decide) λf Oc A outer s H E hr=> ?_
 have hu:=cp hr
 have S:=eC
 exact aj (lz (dg OP (hr.mono (by decide)) (a8 (di 0 O3 (by decide)) (a8 (fg (a8 (ax 1) (a8 (ax 2) (ai)))) (ai))))) (aj (ci (ba wX tj (PQ.bo (aF aG aY (B.no "len" (by decide)) Ha (ay (PQ.bo (br O1 (by decide) (PQ.bo (di 0 O3 (by decide))))) (aD)))) (PQ.bo (i9 rfl OQ))) (av (cB OG rfl (a8 (bA) (ai)))) (aX)) (aj (mR (lA 0 O6 (hr.mono (by decide)) (a8 (fg (a8 (bA) (a8 (ax 1) (a8 (ax 2) (ai))))) (a8 (nQ Ol (hr.mono (by decide)) (di 0 O3 (by decide)) (a8 (ax 1) (a8 (ax 2) (ai)))) (ai))))) (av (tM (br O1 (by decide) (PQ.bo (di 0 O3 (by decide))))))))
theorem eI:aK ["self","numbers"] ["self","numbers"] (ah d0):=⟨rfl,rfl,rfl,by decide+kernel,rfl,by decide+kernel,by decide+kernel⟩
theorem iH (A:f8 K "Cellar" "meters_come" "Cellar.meters_come" d0 ["self","numbers"]) (B:Bl mg BN) (Og:bS P w K mg base 1 "refuse_numbers" 2 bx) (O6:fq P w K mg base 1 "Cellar" "keep_deed" 2 aP) (Om:ck P w K mg base 3 "Standing" "with_meters" 2 bn) {P9:JP} (P0:mg "MOST_METERS"=some (.int 10 P9)) (OH:bO K mg "AlreadyMetered") (OR:bO K mg "TooManyMeters") (O3:cL K "Cellar" cR) (O1:cL K "Standing" b7):fq P w K mg base 4 "Cellar" "meters_come" 1 bB:=by
 refine kH A eI rfl rfl (by decide) λf Oc A outer s H E hr=> ?_
 have hu:=cp hr
 have S:=eI
 exact aj (lz (dg Og (hr.mono (by decide)) (a8 (di 0 O3 (by decide)) (a8 (ax 1) (ai))))) (aj (ci (mS [0] (gp (PQ.bo (aF (fF rfl) jq (B.no "any" (by decide)) L2.Pu.g_ (ay (PQ.bo (dZ (aT.of rfl (by first|decide+kernel|rfl)) rfl (eW (ax 1)) (λ_ _ _=>bJ 1 (show ([".0","number","self"]:List Gv).Nodup by decide+kernel)) (λ_ _ _=>dY) (λ_ _ _=>FC hu (af 1) (PQ.bo (br O1 (by decide) (PQ.bo (br O3 (by decide) (af 2)))))))) (aD)))))) (av (cB OH rfl (a8 (bA) (ai)))) (aX)) (aj (ci (ba lR iW (PQ.bo (ar aU aV (PQ.bo (aF aG aY (B.no "len" (by decide)) Ha (ay (PQ.bo (br O1 (by decide) (PQ.bo (di 0 O3 (by decide))))) (aD)))) (PQ.bo (aF aG aY (B.no "len" (by decide)) Ha (ay (af 1) (aD)))))) (PQ.bo (i9 rfl P0))) (av (cB OR rfl (a8 (bA) (ai)))) (aX)) (av (mR (lA 0 O6 (hr.mono (by decide)) (a8 (fg (a8 (bA) (a8 (cI bz d7 (B.no "tuple" (by decide)) L2.Pu.bT (ay (af 1) (aD))) (ai)))) (a8 (nQ Om (hr.mono (by decide)) (di 0 O3 (by decide)) (a8 (ax 1) (ai))) (ai))))))))
theorem fw:aK ["self"] ["self"] (ah dJ):=⟨rfl,rfl,rfl,by decide+kernel,rfl,by decide+kernel,by decide+kernel⟩
theorem jE (A:f8 K "Cellar" "days_gone" "Cellar.days_gone" dJ ["self"]) (B:Bl mg BN) (O3:cL K "Cellar" cR) (O1:cL K "Standing" b7):ck P w K mg base 1 "Cellar" "days_gone" 1 aH:=by
 refine gY A fw rfl rfl λf Oc A outer s H E hr=> ?_
 have hu:=cp hr
 have S:=fw
 exact av (b_ (aF aG aY (B.no "len" (by decide)) Ha (ay (PQ.bo (br O1 (by decide) (PQ.bo (br O3 (by decide) (af 0))))) (aD))))
theorem eZ:aK ["self","rises","readings","numbers","day"] ["self","rises","readings"] (ah dm):=⟨rfl,rfl,rfl,by decide+kernel,rfl,by decide+kernel,by decide+kernel⟩
theorem jc (A:f8 K "Cellar" "day_passes" "Cellar.day_passes" dm ["self","rises","readings"]) (B:Bl mg BN) (Og:bS P w K mg base 1 "refuse_numbers" 2 bx) (OC:bS P w K mg base 1 "refuse_unmetered" 2 bU) (Oy:bS P w K mg base 1 "refuse_amounts" 1 bQ) (PU:fQ P w K mg base 1 "Day" 4 eL) (O6:fq P w K mg base 1 "Cellar" "keep_deed" 2 aP) (Oz:ck P w K mg base 3 "Standing" "with_day" 2 bH) (O7:ck P w K mg base 1 "Cellar" "days_gone" 1 aH) {PH:JP} (Pm:mg "MOST_DAYS"=some (.int 12 PH)) (OI:bO K mg "ReadingMissing") (Pa:bO K mg "TooManyDays") (Pn:bO K mg "WrongRises") (O3:cL K "Cellar" cR) (O1:cL K "Standing" b7):fq P w K mg base 4 "Cellar" "day_passes" 2 aR:=by
 refine kH A eZ rfl rfl (by decide) λf Oc A outer s H E hr=> ?_
 have hu:=cp hr
 have S:=eZ
 exact aj (ci (ba ul qh (PQ.bo (aF aG aY (B.no "len" (by decide)) Ha (ay (af 1) (aD)))) (PQ.bo (di 0 O3 (by decide)))) (av (cB Pn rfl (a8 (bA) (ai)))) (aX)) (aj (qu 3 (aT.of rfl (by first|decide+kernel|rfl)) rfl S.nd (eW (ax 2)) (λ_ _ _=>bJ 1 (show ([".0","pair"]:List Gv).Nodup by decide+kernel)) (λ_ _ _=>dY) (λ_ _ _=>bv hu (af 1) (PQ.bo (ak)))) (aj (iA [3] (lz (dg Og (hr.mono (by decide)) (a8 (di 0 O3 (by decide)) (a8 (ax 3) (ai)))))) (aj (iA [3] (lz (dg OC (hr.mono (by decide)) (a8 (di 0 O3 (by decide)) (a8 (ax 3) (ai)))))) (aj (ci (gp (PQ.bo (aF (fF rfl) jq (B.no "any" (by decide)) L2.Pu.g_ (ay (PQ.bo (dZ (aT.of rfl (by first|decide+kernel|rfl)) rfl (eW (br O1 (by decide) (PQ.bo (di 0 O3 (by decide))))) (λ_ _ _=>bJ 1 (show ([".0","meter","numbers"]:List Gv).Nodup by decide+kernel)) (λ_ _ _=>dY) (λ_ _ _=>qj hu (af 1) (af 2)))) (aD))))) (av (cB OI rfl (a8 (bA) (ai)))) (aX)) (aj (lz (dg Oy (hr.mono (by decide)) (a8 (ax 1) (ai)))) (aj (lz (dg Oy (hr.mono (by decide)) (a8 (dZ (aT.of rfl (by first|decide+kernel|rfl)) rfl (eW (ax 2)) (λ_ _ _=>bJ 1 (show ([".0","pair"]:List Gv).Nodup by decide+kernel)) (λ_ _ _=>dY) (λ_ _ _=>bv hu (af 1) (PQ.bo (ak)))) (ai)))) (aj (ci (ba wX tj (PQ.bo (aF aG aY (B.no "len" (by decide)) Ha (ay (PQ.bo (br O1 (by decide) (PQ.bo (di 0 O3 (by decide))))) (aD)))) (PQ.bo (i9 rfl Pm))) (av (cB Pa rfl (a8 (bA) (ai)))) (aX)) (aj (cJ 4 S.nd (nR PU (hr.mono (by decide)) (a8 (di 0 O3 (by decide)) (a8 (br O1 (by decide) (PQ.bo (di 0 O3 (by decide)))) (a8 (ax 1) (a8 (ax 2) (ai))))))) (aj (mR (lA 0 O6 (hr.mono (by decide)) (a8 (fg (a8 (bA) (a8 (cI bz d7 (B.no "tuple" (by decide)) L2.Pu.bT (ay (af 1) (aD))) (a8 (cI bz d7 (B.no "tuple" (by decide)) L2.Pu.bT (ay (af 2) (aD))) (ai))))) (a8 (nQ Oz (hr.mono (by decide)) (di 0 O3 (by decide)) (a8 (ax 4) (ai))) (ai))))) (av (tM (Ad "history" [0] (qw O7 (hr.mono (by decide)) (ax 0))))))))))))))
theorem jH:aK ["self","number"] ["self","number"] (ah im):=⟨rfl,rfl,rfl,by decide+kernel,rfl,by decide+kernel,by decide+kernel⟩
theorem oK (A:f8 K "Cellar" "day" "Cellar.day" im ["self","number"]) (B:Bl mg BN) (O7:ck P w K mg base 1 "Cellar" "days_gone" 1 aH) (Po:bO K mg "UnknownDay") (O3:cL K "Cellar" cR) (O1:cL K "Standing" b7):ck P w K mg base 2 "Cellar" "day" 2 cF:=by
 refine gY A jH rfl rfl λf Oc A outer s H E hr=> ?_
 have hu:=cp hr
 have S:=jH
 exact aj (ci (qb.t (xx (ba n5 jQ (af 1) (PQ.bo (ak))) (rj (ba lR iW (af 1) (PQ.bo (qw O7 (hr.mono (by decide)) (ax 0))))))) (av (cB Po rfl (a8 (bA) (ai)))) (aX)) (av (b_ (bv hu (PQ.bo (br O1 (by decide) (PQ.bo (br O3 (by decide) (af 0))))) (PQ.bo (ar sC qf (af 1) (PQ.bo (ak)))))))
theorem pJ:aK ["_law_script","_law_k"] ["_law_script","_law_k"] (ah o5):=⟨rfl,rfl,rfl,by decide+kernel,rfl,by decide+kernel,by decide+kernel⟩
theorem wo (A:eG K mg "_law_at" o5 ["_law_script","_law_k"]) (B:Bl mg BN):bS P w K mg base 1 "_law_at" 2 cN:=by
 refine dz A pJ rfl rfl λf Oc A outer s H E hr=> ?_
 have hu:=cp hr
 have S:=pJ
 exact aj (ci (ba n5 jQ (af 1) (PQ.bo (aF aG aY (B.no "len" (by decide)) Ha (ay (af 0) (aD))))) (av (b_ (bv hu (af 0) (af 1)))) (aX)) (av (b_ (ak)))
theorem mj:aK ["_law_script","_law_k","_law_mixed"] ["_law_script","_law_k"] (ah jW):=⟨rfl,rfl,rfl,by decide+kernel,rfl,by decide+kernel,by decide+kernel⟩
theorem sd (A:eG K mg "_law_cell" jW ["_law_script","_law_k"]) (B:Bl mg BN) (OE:bS P w K mg base 1 "_law_at" 2 cN):bS P w K mg base 2 "_law_cell" 2 aI:=by
 refine dz A mj rfl rfl λf Oc A outer s H E hr=> ?_
 have hu:=cp hr
 have S:=mj
 exact aj (ci (ba gm d_ (PQ.bo (ar aW aM (PQ.bo (dg OE (hr.mono (by decide)) (a8 (ax 0) (a8 (ak) (ai))))) (PQ.bo (ak)))) (PQ.bo (ak))) (av (b_ (dg OE (hr.mono (by decide)) (a8 (ax 0) (a8 (ax 1) (ai)))))) (aX)) (aj (cJ 2 S.nd (ar aW aM (PQ.bo (ar gq gr (PQ.bo (ar aU aV (PQ.bo (ar aU aV (PQ.bo (ar aU aV (PQ.bo (dg OE (hr.mono (by decide)) (a8 (ax 0) (a8 (ax 1) (ai))))) (PQ.bo (ar bI bi (PQ.bo (dg OE (hr.mono (by decide)) (a8 (ax 0) (a8 (ak) (ai))))) (PQ.bo (ak)))))) (PQ.bo (ar gq gr (PQ.bo (ak)) (af 1))))) (PQ.bo (ak)))) (PQ.bo (ak)))) (PQ.bo (ak)))) (av (b_ (ar aW aM (PQ.bo (ar gq gr (PQ.bo (ar aU aV (af 2) (af 1))) (PQ.bo (ak)))) (PQ.bo (ak))))))
theorem jd:aK ["_law_cell_here","_law_mixed","_law_many","_law_size","_law_found","_law_rest","_law_k","_law_one"] ["_law_cell_here","_law_mixed","_law_many","_law_size"] (ah gK):=⟨rfl,rfl,rfl,by decide+kernel,rfl,by decide+kernel,by decide+kernel⟩
theorem o9 (A:eG K mg "_law_figures" gK ["_law_cell_here","_law_mixed","_law_many","_law_size"]) (B:Bl mg BN):bS P w K mg base 1 "_law_figures" 4 cT:=by
 refine dz A jd rfl rfl λf Oc A outer s H E hr=> ?_
 have hu:=cp hr
 have S:=jd
 exact aj (jO 4 S.nd (ai)) (aj (cJ 5 S.nd (ax 0)) (aj (uI Ka rfl (gU (B.no "range" (by decide)) (a8 (ax 2) (ai))) (bJ 6 S.nd) (av (ci (gp (af 1)) (aj (cJ 7 S.nd (ar aW aM (PQ.bo (ar gq gr (PQ.bo (ar aU aV (PQ.bo (ar aU aV (af 0) (PQ.bo (ar gq gr (PQ.bo (ak)) (af 6))))) (PQ.bo (ak)))) (PQ.bo (ak)))) (PQ.bo (ak)))) (av (nN 4 (ar aW aM (PQ.bo (ar aW aM (PQ.bo (ar gq gr (PQ.bo (ar aU aV (af 7) (af 6))) (PQ.bo (ak)))) (PQ.bo (ak)))) (af 3))))) (aj (nN 4 (ar aW aM (af 5) (af 3))) (av (cJ 5 S.nd (ar bI bi (af 5) (af 3)))))))) (av (iA [4] (b_ (ax 4))))))
theorem ml:aK ["_law_found","_law_due","_law_k"] ["_law_found","_law_due"] (ah iq):=⟨rfl,rfl,rfl,by decide+kernel,rfl,by decide+kernel,by decide+kernel⟩
theorem kP (A:eG K mg "_law_same" iq ["_law_found","_law_due"]) (B:Bl mg BN):∀n:Nat,bS P w K mg base n "_law_same" 2 (d3 n)
 |0=>xK A rfl
 |n+1=>by
  have Vo:=kP A B n
  refine dz A ml rfl rfl λf Oc A outer s H E hr=> ?_
  have hu:=cp hr
  have S:=ml
  exact aj (ci (gp (PQ.bo (uK (.inr (.inr (.inr (.inl rfl)))) (B.no "isinstance" (by decide)) (B.no "tuple" (by decide)) L2.Pu.bT (af 1)))) (aj (ci (qb.t (xx (pe (gp (PQ.bo (uK (.inr (.inr (.inr (.inl rfl)))) (B.no "isinstance" (by decide)) (B.no "tuple" (by decide)) L2.Pu.bT (af 0))))) (rj (ba ul qh (PQ.bo (aF aG aY (B.no "len" (by decide)) Ha (ay (af 0) (aD)))) (PQ.bo (aF aG aY (B.no "len" (by decide)) Ha (ay (af 1) (aD)))))))) (av (b_ (oG))) (aX)) (aj (uI Ka rfl (gU (B.no "range" (by decide)) (a8 (aF aG aY (B.no "len" (by decide)) Ha (ay (af 1) (aD))) (ai))) (bJ 2 S.nd) (av (ci (pe (gp (PQ.bo (dg Vo (hr.mono (by omega)) (a8 (bv hu (af 0) (af 2)) (a8 (bv hu (af 1) (af 2)) (ai))))))) (av (b_ (oG))) (aX)))) (av (b_ (oG))))) (aX)) (av (b_ (AT (uK (.inr (.inl rfl)) (B.no "isinstance" (by decide)) (B.no "int" (by decide)) L2.Pu.xL (af 0)) (AT (AU (uK (.inl rfl) (B.no "isinstance" (by decide)) (B.no "bool" (by decide)) L2.Pu.vR (af 0))) (AS (nJ gm d_ (af 0) (af 1)))))))
theorem se (A:eG K mg "_law_same" iq ["_law_found","_law_due"]) (B:Bl mg BN):bS P w K mg base 8 "_law_same" 2 bG:=(kP A B 8).mono (by decide)
theorem jI:aK ["_law_cell_here"] ["_law_cell_here"] (ah ir):=⟨rfl,rfl,rfl,by decide+kernel,rfl,by decide+kernel,by decide+kernel⟩
theorem oM (A:eG K mg "_law_amount" ir ["_law_cell_here"]) (B:Bl mg BN):bS P w K mg base 1 "_law_amount" 1 cG:=by
 refine dz A jI rfl rfl λf Oc A outer s H E hr=> ?_
 have hu:=cp hr
 have S:=jI
 exact av (b_ (bv hu (PQ.bo (cW (a8 (ak) (a8 (xw n4 ku (PQ.bo (ak))) (a8 (ar sC qf (PQ.bo (ar aW aM (PQ.bo (ar bI bi (af 0) (PQ.bo (ak)))) (PQ.bo (ak)))) (PQ.bo (ak))) (ai)))))) (PQ.bo (aF (oS rfl) uJ (B.no "min" (by decide)) L2.Pu.nP (ay (PQ.bo (ak)) (ay (PQ.bo (ar aW aM (af 0) (PQ.bo (ak)))) (aD)))))))
theorem fZ:aK ["_law_script","_law_rises","_law_row","_law_spot","_law_more"] ["_law_script","_law_rises"] (ah eA):=⟨rfl,rfl,rfl,by decide+kernel,rfl,by decide+kernel,by decide+kernel⟩
theorem jZ (A:eG K mg "_law_wrong_rises" eA ["_law_script","_law_rises"]) (B:Bl mg BN) (Ob:bS P w K mg base 2 "_law_cell" 2 aI):bS P w K mg base 3 "_law_wrong_rises" 2 c5:=by
 refine dz A fZ rfl rfl λf Oc A outer s H E hr=> ?_
 have hu:=cp hr
 have S:=fZ
 exact aj (y6 2 S.nd (rQ dP pq (B.no "list" (by decide)) L2.Pu.fH (ay (af 1) (aD)))) (aj (cJ 3 S.nd (dg Ob (hr.mono (by decide)) (a8 (ax 0) (a8 (ak) (ai))))) (aj (ci (ba gm d_ (PQ.bo (ar aW aM (PQ.bo (dg Ob (hr.mono (by decide)) (a8 (ax 0) (a8 (ak) (ai))))) (PQ.bo (ak)))) (PQ.bo (ak))) (av (kL 2 (ar aW aM (af 3) (PQ.bo (ar aU aV (PQ.bo (aF aG aY (B.no "len" (by decide)) Ha (ay (af 2) (aD)))) (PQ.bo (ak))))) (ak))) (av (ci (qb.t (pc (ba gm d_ (PQ.bo (ar aW aM (PQ.bo (dg Ob (hr.mono (by decide)) (a8 (ax 0) (a8 (ak) (ai))))) (PQ.bo (ak)))) (PQ.bo (ak))) (lh (ba (ij hu) fD (af 2) (PQ.bo (cW (ai))))))) (av (CN 2)) (aX)))) (aj (ci (qb.t (pc (ba gm d_ (PQ.bo (ar aW aM (PQ.bo (dg Ob (hr.mono (by decide)) (a8 (ax 0) (a8 (ak) (ai))))) (PQ.bo (ak)))) (PQ.bo (ak))) (lh (ba (ij hu) fD (af 2) (PQ.bo (cW (ai))))))) (aj (cJ 4 S.nd (ar aU aV (PQ.bo (ak)) (PQ.bo (ar aW aM (PQ.bo (ar bI bi (af 3) (PQ.bo (ak)))) (PQ.bo (bv hu (PQ.bo (cW (a8 (ar sD qg (PQ.bo (ak)) (PQ.bo (ak))) (a8 (ak) (ai))))) (PQ.bo (ar aW aM (PQ.bo (ar bI bi (af 3) (PQ.bo (ak)))) (PQ.bo (ak)))))))))) (av (AW 2 hu (ar aW aM (PQ.bo (ar bI bi (af 3) (PQ.bo (ak)))) (PQ.bo (aF aG aY (B.no "len" (by decide)) Ha (ay (af 2) (aD))))) (bv hu (PQ.bo (cW (a8 (ax 4) (a8 (xw n4 ku (af 4)) (ai))))) (PQ.bo (ar aW aM (PQ.bo (ar bI bi (PQ.bo (dg Ob (hr.mono (by decide)) (a8 (ax 0) (a8 (ak) (ai))))) (PQ.bo (ak)))) (PQ.bo (ak)))))))) (aX)) (av (iA [2] (b_ (ax 2)))))))
theorem eJ:aK ["_law_script","_law_bare","_law_others","_law_readings","_law_row","_law_spot","_law_twice","_law_more","_law_k"] ["_law_script","_law_bare","_law_others","_law_readings"] (ah d4):=⟨rfl,rfl,rfl,by decide+kernel,rfl,by decide+kernel,by decide+kernel⟩
theorem iI (A:eG K mg "_law_wrong_readings" d4 ["_law_script","_law_bare","_law_others","_law_readings"]) (B:Bl mg BN) (Ob:bS P w K mg base 2 "_law_cell" 2 aI):bS P w K mg base 3 "_law_wrong_readings" 4 bC:=by
 refine dz A eJ rfl rfl λf Oc A outer s H E hr=> ?_
 have hu:=cp hr
 have S:=eJ
 exact aj (y6 4 S.nd (rQ dP pq (B.no "list" (by decide)) L2.Pu.fH (ay (af 3) (aD)))) (aj (xD 5 (aT.of rfl (by first|decide+kernel|rfl)) rfl S.nd (gU (B.no "range" (by decide)) (a8 (ak) (ai))) (λ_ _ _=>bJ 1 (show ([".0","_law_k","_law_cell","_law_script"]:List Gv).Nodup by decide+kernel)) (λ_ _ _=>dY) (λ_ _ _=>dg Ob (hr.mono (by decide)) (a8 (ax 3) (a8 (ar aU aV (PQ.bo (ak)) (af 1)) (ai))))) (aj (ci (qb.t (pc (ba gm d_ (PQ.bo (ar aW aM (PQ.bo (bv hu (af 5) (PQ.bo (ak)))) (PQ.bo (ak)))) (PQ.bo (ak))) (lh (ba (ij hu) fD (af 4) (PQ.bo (cW (ai))))))) (av (CM 4 (ar aW aM (PQ.bo (ar bI bi (PQ.bo (bv hu (af 5) (PQ.bo (ak)))) (PQ.bo (ak)))) (PQ.bo (aF aG aY (B.no "len" (by decide)) Ha (ay (af 4) (aD))))))) (aX)) (aj (ci (qb.t (pc (ba gm d_ (PQ.bo (ar aW aM (PQ.bo (bv hu (af 5) (PQ.bo (ak)))) (PQ.bo (ak)))) (PQ.bo (ak))) (lh (ba (ij hu) fD (af 4) (PQ.bo (cW (ai))))))) (aj (cJ 6 S.nd (bv hu (af 4) (PQ.bo (ar aW aM (PQ.bo (ar bI bi (PQ.bo (bv hu (af 5) (PQ.bo (ak)))) (PQ.bo (ak)))) (PQ.bo (aF aG aY (B.no "len" (by decide)) Ha (ay (af 4) (aD)))))))) (av (kL 4 (ar aW aM (PQ.bo (ar bI bi (PQ.bo (bv hu (af 5) (PQ.bo (ak)))) (PQ.bo (ak)))) (PQ.bo (ar aU aV (PQ.bo (aF aG aY (B.no "len" (by decide)) Ha (ay (af 4) (aD)))) (PQ.bo (ak))))) (fg (a8 (bv hu (af 6) (PQ.bo (ak))) (a8 (ar gq gr (PQ.bo (ar aW aM (PQ.bo (ar bI bi (PQ.bo (bv hu (af 5) (PQ.bo (ak)))) (PQ.bo (ak)))) (PQ.bo (ak)))) (PQ.bo (bv hu (af 6) (PQ.bo (ak))))) (ai))))))) (aX)) (aj (ci (qb.t (pc (ba gm d_ (PQ.bo (ar aW aM (PQ.bo (bv hu (af 5) (PQ.bo (ak)))) (PQ.bo (ak)))) (PQ.bo (ak))) (lh (ba (ij hu) fD (af 1) (PQ.bo (cW (ai))))))) (av (kL 4 (ar aW aM (PQ.bo (ar bI bi (PQ.bo (bv hu (af 5) (PQ.bo (ak)))) (PQ.bo (ak)))) (PQ.bo (ar aU aV (PQ.bo (aF aG aY (B.no "len" (by decide)) Ha (ay (af 4) (aD)))) (PQ.bo (ak))))) (fg (a8 (bv hu (af 1) (PQ.bo (ar aW aM (PQ.bo (ar bI bi (PQ.bo (bv hu (af 5) (PQ.bo (ak)))) (PQ.bo (ak)))) (PQ.bo (aF aG aY (B.no "len" (by decide)) Ha (ay (af 1) (aD))))))) (a8 (ak) (ai)))))) (aX)) (aj (ci (ba gm d_ (PQ.bo (ar aW aM (PQ.bo (bv hu (af 5) (PQ.bo (ak)))) (PQ.bo (ak)))) (PQ.bo (ak))) (av (kL 4 (ar aW aM (PQ.bo (ar bI bi (PQ.bo (bv hu (af 5) (PQ.bo (ak)))) (PQ.bo (ak)))) (PQ.bo (ar aU aV (PQ.bo (aF aG aY (B.no "len" (by decide)) Ha (ay (af 4) (aD)))) (PQ.bo (ak))))) (fg (a8 (bv hu (af 2) (PQ.bo (ar aW aM (PQ.bo (ar bI bi (PQ.bo (bv hu (af 5) (PQ.bo (ak)))) (PQ.bo (ak)))) (PQ.bo (aF aG aY (B.no "len" (by decide)) Ha (ay (af 2) (aD))))))) (a8 (ak) (ai)))))) (aX)) (aj (ci (qb.t (pc (ba gm d_ (PQ.bo (ar aW aM (PQ.bo (bv hu (af 5) (PQ.bo (ak)))) (PQ.bo (ak)))) (PQ.bo (ak))) (lh (ba (ij hu) fD (af 4) (PQ.bo (cW (ai))))))) (aj (cJ 7 S.nd (ar aU aV (PQ.bo (ak)) (PQ.bo (ar aW aM (PQ.bo (ar bI bi (PQ.bo (bv hu (af 5) (PQ.bo (ak)))) (PQ.bo (ak)))) (PQ.bo (bv hu (PQ.bo (cW (a8 (ar sD qg (PQ.bo (ak)) (PQ.bo (ak))) (a8 (ak) (ai))))) (PQ.bo (ar aW aM (PQ.bo (ar bI bi (PQ.bo (bv hu (af 5) (PQ.bo (ak)))) (PQ.bo (ak)))) (PQ.bo (ak)))))))))) (aj (cJ 8 S.nd (ar aW aM (PQ.bo (ar bI bi (PQ.bo (bv hu (af 5) (PQ.bo (ak)))) (PQ.bo (ak)))) (PQ.bo (aF aG aY (B.no "len" (by decide)) Ha (ay (af 4) (aD)))))) (av (AW 4 hu (ax 8) (fg (a8 (bv hu (PQ.bo (bv hu (af 4) (af 8))) (PQ.bo (ak))) (a8 (bv hu (PQ.bo (cW (a8 (ax 7) (a8 (xw n4 ku (af 7)) (ai))))) (PQ.bo (ar aW aM (PQ.bo (ar bI bi (PQ.bo (bv hu (af 5) (PQ.bo (ak)))) (PQ.bo (ak)))) (PQ.bo (ak))))) (ai)))))))) (aX)) (av (iA [4] (b_ (ax 4))))))))))
theorem mq:aK ["_law_cellar","_law_rises","_law_readings","_law_kinds","e","_law_words","_law_word"] ["_law_cellar","_law_rises","_law_readings"] (ah jY):=⟨rfl,rfl,rfl,by decide+kernel,rfl,by decide+kernel,by decide+kernel⟩
theorem sf (A:eG K mg "_law_done" jY ["_law_cellar","_law_rises","_law_readings"]) (B:Bl mg BN) (OA:fq P w K mg base 4 "Cellar" "day_passes" 2 aR) (Pp:kG K mg "NotMetered" (tb 8)) (Pq:kG K mg "OutOfRange" (tb 10)) (OJ:kG K mg "ReadingMissing" (tb 9)) (QJ:kG K mg "Twice" (tb 6)) (OS:kG K mg "UnknownStream" (tb 5)) (Pt:lZ K (.type "ValueError") FH) (Pw:kG K mg "WrongRises" (tb 4)) (Pb:rL K mg "CellarError" (vY RL)):Eg P w K mg base 5 "_law_done" 1 2 eO:=by
 refine CB [⟨0,0,[]⟩] A mq rfl rfl (by decide) (by decide) (by decide) λf Oc A outer s H E hr=> ?_
 have hu:=cp hr
 have S:=mq
 exact aj (jO 3 S.nd (ai)) (aj (Eb 4 nH S.nd Pb (λ_ _=>av (CF (CH (bA) (lA 0 OA (hr.mono (by decide)) (a8 (ax 1) (a8 (ax 2) (ai))))))) (λ_=>aj (jO 3 S.nd (a8 (lw Pw (B.no "isinstance" (by decide)) (af 4)) (a8 (lw OS (B.no "isinstance" (by decide)) (af 4)) (a8 (lw QJ (B.no "isinstance" (by decide)) (af 4)) (ai))))) (aj (cJ 3 S.nd (ar aU aV (af 3) (PQ.bo (cW (a8 (lw Pp (B.no "isinstance" (by decide)) (af 4)) (a8 (lw OJ (B.no "isinstance" (by decide)) (af 4)) (a8 (lw Pq (B.no "isinstance" (by decide)) (af 4)) (ai)))))))) (av (cJ 3 S.nd (ar aU aV (af 3) (PQ.bo (cW (a8 (AU (Cy Pt L2.Pu.mE (B.no "ValueError" (by decide)) (B.no "isinstance" (by decide)) (af 4))) (ai)))))))))) (aj (jO 5 S.nd (a8 (bA) (a8 (bA) (a8 (bA) (a8 (bA) (a8 (bA) (a8 (bA) (a8 (bA) (ai))))))))) (aj (cJ 6 S.nd (bA)) (aj (ci (ba gm d_ (PQ.bo (CJ (af 3) (oG))) (PQ.bo (ak))) (av (cJ 6 S.nd (bv hu (af 5) (PQ.bo (CK (af 3) (oG)))))) (aX)) (av (tM (cW (a8 (ax 6) (a8 (DX) (ai))))))))))
theorem iD:aK ["_law_n","_law_there","_law_meters","_law_rises","_law_readings","_law_named","_law_amounts"] ["_law_n","_law_there","_law_meters","_law_rises","_law_readings"] (ah fX):=⟨rfl,rfl,rfl,by decide+kernel,rfl,by decide+kernel,by decide+kernel⟩
theorem mI (A:eG K mg "_law_due_word" fX ["_law_n","_law_there","_law_meters","_law_rises","_law_readings"]) (B:Bl mg BN):bS P w K mg base 1 "_law_due_word" 5 cm:=by
 refine dz A iD rfl rfl λf Oc A outer s H E hr=> ?_
 have hu:=cp hr
 have S:=iD
 exact aj (qu 5 (aT.of rfl (by first|decide+kernel|rfl)) rfl S.nd (eW (ax 4)) (λ_ _ _=>bJ 1 (show ([".0","_law_row"]:List Gv).Nodup by decide+kernel)) (λ_ _ _=>dY) (λ_ _ _=>bv hu (af 1) (PQ.bo (ak)))) (aj (ci (ba ul qh (PQ.bo (aF aG aY (B.no "len" (by decide)) Ha (ay (af 3) (aD)))) (af 0)) (av (b_ (bA))) (aX)) (aj (iA [5] (ci (ba (ij hu) fD (PQ.bo (dZ (aT.of rfl (by first|decide+kernel|rfl)) rfl (eW (ax 5)) (λ_ _ _=>bJ 1 (show ([".0","_law_number","_law_there"]:List Gv).Nodup by decide+kernel)) (λ_ _ _=>nM (qk hu (af 1) (af 2))) (λ_ _ _=>ax 1))) (PQ.bo (cW (ai)))) (av (b_ (bA))) (aX))) (aj (iA [5] (ci (ba (ij hu) fD (PQ.bo (dZ (aT.of rfl (by first|decide+kernel|rfl)) rfl (eW (ax 5)) (λ_ _ _=>bJ 1 (show ([".0","_law_number","_law_named"]:List Gv).Nodup by decide+kernel)) (λ_ _ _=>nM (ba lR iW (PQ.bo (CP (af 2) (ax 1))) (PQ.bo (ak)))) (λ_ _ _=>ax 1))) (PQ.bo (cW (ai)))) (av (b_ (bA))) (aX))) (aj (iA [5] (ci (ba (ij hu) fD (PQ.bo (dZ (aT.of rfl (by first|decide+kernel|rfl)) rfl (eW (ax 5)) (λ_ _ _=>bJ 1 (show ([".0","_law_number","_law_meters"]:List Gv).Nodup by decide+kernel)) (λ_ _ _=>nM (qk hu (af 1) (af 2))) (λ_ _ _=>ax 1))) (PQ.bo (cW (ai)))) (av (b_ (bA))) (aX))) (aj (ci (ba n5 jQ (PQ.bo (aF aG aY (B.no "len" (by decide)) Ha (ay (af 5) (aD)))) (PQ.bo (aF aG aY (B.no "len" (by decide)) Ha (ay (af 2) (aD))))) (av (b_ (bA))) (aX)) (aj (cJ 6 S.nd (ar aU aV (PQ.bo (cI dP nO (B.no "list" (by decide)) L2.Pu.fH (ay (af 3) (aD)))) (PQ.bo (dZ (aT.of rfl (by first|decide+kernel|rfl)) rfl (eW (ax 4)) (λ_ _ _=>bJ 1 (show ([".0","_law_row"]:List Gv).Nodup by decide+kernel)) (λ_ _ _=>dY) (λ_ _ _=>bv hu (af 1) (PQ.bo (ak))))))) (aj (ci (qb.t (xx (ba n5 jQ (PQ.bo (aF (wl rfl) yl (B.no "min" (by decide)) L2.Pu.nP (ay (PQ.bo (ar aU aV (af 6) (PQ.bo (cW (a8 (ak) (ai)))))) (aD)))) (PQ.bo (xw n4 ku (PQ.bo (ak))))) (rj (ba lR iW (PQ.bo (aF (wm rfl) ym (B.no "max" (by decide)) L2.Pu.xM (ay (PQ.bo (ar aU aV (af 6) (PQ.bo (cW (a8 (ak) (ai)))))) (aD)))) (PQ.bo (ak)))))) (av (b_ (bA))) (aX)) (av (b_ (bA))))))))))
theorem yo:aK ["_law_script","_law_n","_law_cellar","_law_mixed","_law_there","_law_k","_law_fitted","_law_meters","_law_bare","_law_others","_law_cells","_law_good","_law_wrong","_law_gone","_law_rises","_law_readings","_law_word","_law_found"] ["_law_script"] (ah o7):=⟨rfl,rfl,rfl,by decide+kernel,rfl,by decide+kernel,by decide+kernel⟩
theorem CQ {f:Gw} {fd:HX} (F:ux K "law" "law" o7 f fd) (B:Bl mg BN) (Ob:bS P w K mg base 2 "_law_cell" 2 aI) (Pc:rY P w K mg base 3 "Cellar" 1 cS) (OE:bS P w K mg base 1 "_law_at" 2 cN) (Oq:fq P w K mg base 4 "Cellar" "stream_comes" 2 bu) (OL:bS P w K mg base 1 "_law_figures" 4 cT) (Ov:fq P w K mg base 4 "Cellar" "meters_come" 1 bB) (OU:bS P w K mg base 1 "_law_amount" 1 cG) (OF:bS P w K mg base 3 "_law_wrong_rises" 2 c5) (Ox:bS P w K mg base 3 "_law_wrong_readings" 4 bC) (P1:bS P w K mg base 1 "_law_due_word" 5 cm) (PV:Eg P w K mg base 5 "_law_done" 1 2 eO) (OK:bS P w K mg base 8 "_law_same" 2 bG) (OV:ck P w K mg base 2 "Cellar" "day" 2 cF) (O7:ck P w K mg base 1 "Cellar" "days_gone" 1 aH) (Ru:cL K "Day" o1):dB P w K mg base (iO P w) 9 f fd ["_law_script"] (vJ K 1 pI):=by
 refine Cb F yo rfl rfl λOc A outer s H E hr=> ?_
 have hu:=cp hr
 have S:=yo
 exact aj (cJ 1 S.nd (ar aW aM (PQ.bo (dg Ob (hr.mono (by decide)) (a8 (ax 0) (a8 (ak) (ai))))) (PQ.bo (ak)))) (aj (Af 2 S.nd Pc (hr.mono (by decide)) (a8 (ax 1) (ai))) (aj (cJ 3 S.nd (nJ gm d_ (PQ.bo (ar aW aM (PQ.bo (dg OE (hr.mono (by decide)) (a8 (ax 0) (a8 (ak) (ai))))) (PQ.bo (ak)))) (PQ.bo (ak)))) (aj (jO 4 S.nd (ai)) (aj (uI Ka rfl (gU (B.no "range" (by decide)) (a8 (ar gq gr (PQ.bo (aF (oS rfl) uJ (B.no "min" (by decide)) L2.Pu.nP (ay (af 1) (ay (PQ.bo (ak)) (aD))))) (PQ.bo (ar aW aM (PQ.bo (dg Ob (hr.mono (by decide)) (a8 (ax 0) (a8 (ak) (ai))))) (PQ.bo (ak))))) (ai))) (bJ 5 S.nd) (av (we 4 (lA 2 Oq (hr.mono (by decide)) (a8 (ar aW aM (af 5) (PQ.bo (ar aU aV (af 1) (PQ.bo (ak))))) (a8 (ar aW aM (PQ.bo (ar aU aV (af 5) (PQ.bo (ak)))) (PQ.bo (ar aU aV (af 1) (PQ.bo (ak))))) (ai))))))) (aj (cJ 6 S.nd (dg OL (hr.mono (by decide)) (a8 (dg Ob (hr.mono (by decide)) (a8 (ax 0) (a8 (ak) (ai)))) (a8 (ax 3) (a8 (aF aG aY (B.no "len" (by decide)) Ha (ay (af 4) (aD))) (a8 (ak) (ai))))))) (aj (iA [4] (cJ 7 S.nd (zV (PQ.bo (dZ (aT.of rfl (by first|decide+kernel|rfl)) rfl (eW (ax 4)) (λ_ _ _=>bJ 1 (show ([".0","_law_number","_law_fitted"]:List Gv).Nodup by decide+kernel)) (λ_ _ _=>nM (ba lR iW (PQ.bo (bv hu (af 2) (PQ.bo (ar sC qf (af 1) (PQ.bo (ak)))))) (PQ.bo (ak)))) (λ_ _ _=>ax 1))) (Cm) (Cn (ak))))) (aj (mR (lA 2 Ov (hr.mono (by decide)) (a8 (ax 7) (ai)))) (aj (iA [4] (xD 8 (aT.of rfl (by first|decide+kernel|rfl)) rfl S.nd (eW (ax 4)) (λ_ _ _=>bJ 1 (show ([".0","_law_number","_law_meters"]:List Gv).Nodup by decide+kernel)) (λ_ _ _=>nM (qk hu (af 1) (af 2))) (λ_ _ _=>ax 1))) (aj (cJ 9 S.nd (ar aU aV (PQ.bo (cW (a8 (xw n4 ku (PQ.bo (ak))) (a8 (ak) (a8 (ar sD qg (PQ.bo (ak)) (PQ.bo (ak))) (ai)))))) (PQ.bo (rJ rfl (B.no "list" (by decide)) (B.no "range" (by decide)) (a8 (ar aU aV (PQ.bo (aF aG aY (B.no "len" (by decide)) Ha (ay (af 4) (aD)))) (PQ.bo (ak))) (a8 (ak) (ai))))))) (aj (cJ 10 S.nd (dg OL (hr.mono (by decide)) (a8 (dg Ob (hr.mono (by decide)) (a8 (ax 0) (a8 (ak) (ai)))) (a8 (ax 3) (a8 (ar aU aV (af 1) (PQ.bo (aF aG aY (B.no "len" (by decide)) Ha (ay (af 7) (aD))))) (a8 (ak) (ai))))))) (aj (jO 11 S.nd (a8 (dZ (aT.of rfl (by first|decide+kernel|rfl)) rfl (gU (B.no "range" (by decide)) (a8 (ax 1) (ai))) (λ_ _ _=>bJ 1 (show ([".0","_law_k","_law_amount","_law_cells"]:List Gv).Nodup by decide+kernel)) (λ_ _ _=>dY) (λ_ _ _=>dg OU (hr.mono (by decide)) (a8 (bv hu (af 3) (af 1)) (ai)))) (ai))) (aj (nN 11 (dZ (aT.of rfl (by first|decide+kernel|rfl)) rfl (gU (B.no "range" (by decide)) (a8 (aF aG aY (B.no "len" (by decide)) Ha (ay (af 7) (aD))) (ai))) (λ_ _ _=>bJ 1 (show ([".0","_law_k","_law_amount","_law_cells","_law_meters","_law_n"]:List Gv).Nodup by decide+kernel)) (λ_ _ _=>dY) (λ_ _ _=>fg (a8 (bv hu (af 4) (af 1)) (a8 (dg OU (hr.mono (by decide)) (a8 (bv hu (af 3) (PQ.bo (ar aU aV (af 5) (af 1)))) (ai))) (ai)))))) (aj (iA [8] (jO 12 S.nd (a8 (dg OF (hr.mono (by decide)) (a8 (ax 0) (a8 (bv hu (af 11) (PQ.bo (ak))) (ai)))) (a8 (dg Ox (hr.mono (by decide)) (a8 (ax 0) (a8 (ax 8) (a8 (ax 9) (a8 (bv hu (af 11) (PQ.bo (ak))) (ai)))))) (ai))))) (aj (cJ 13 S.nd (ak)) (aj (iA [11] (uI Ka rfl (eW (cW (a8 (cW (a8 (bv hu (af 12) (PQ.bo (ak))) (a8 (bv hu (af 11) (PQ.bo (ak))) (ai)))) (a8 (cW (a8 (bv hu (af 11) (PQ.bo (ak))) (a8 (bv hu (af 12) (PQ.bo (ak))) (ai)))) (a8 (cW (a8 (bv hu (af 12) (PQ.bo (ak))) (a8 (bv hu (af 12) (PQ.bo (ak))) (ai)))) (a8 (ax 11) (ai))))))) (DZ rfl (uH (bJ 14 S.nd) (uH (bJ 15 S.nd) (C9)))) (aj (cJ 16 S.nd (CA [4] (dg P1 (hr.mono (by decide)) (a8 (ax 1) (a8 (ax 4) (a8 (ax 7) (a8 (ax 14) (a8 (ax 15) (ai))))))))) (aj (CG 17 S.nd (FG PV (hr.mono (by decide)) (Aa 2 (CC (a8 (cI dP nO (B.no "list" (by decide)) L2.Pu.fH (ay (af 14) (aD))) (a8 (cI dP nO (B.no "list" (by decide)) L2.Pu.fH (ay (af 15) (aD))) (ai))))))) (aj (ci (ba ul qh (PQ.bo (bv hu (af 17) (PQ.bo (ak)))) (af 16)) (av (b_ (oG))) (aX)) (aj (ci (ba gm d_ (af 16) (PQ.bo (bA))) (aj (cJ 13 S.nd (ar aU aV (af 13) (PQ.bo (ak)))) (aj (ci (mS [2] (qb.t (xx (pe (gp (PQ.bo (dg OK (hr.mono (by decide)) (a8 (bv hu (af 17) (PQ.bo (ak))) (a8 (ax 13) (ai))))))) (rj (pe (gp (PQ.bo (dg OK (hr.mono (by decide)) (a8 (br Ru (by decide) (PQ.bo (nQ OV (hr.mono (by decide)) (ax 2) (a8 (ax 13) (ai))))) (a8 (cI bz d7 (B.no "tuple" (by decide)) L2.Pu.bT (ay (af 14) (aD))) (ai))))))))))) (av (b_ (oG))) (aX)) (av (ci (mS [2] (pe (gp (PQ.bo (dg OK (hr.mono (by decide)) (a8 (br Ru (by decide) (PQ.bo (nQ OV (hr.mono (by decide)) (ax 2) (a8 (ax 13) (ai))))) (a8 (cI bz d7 (B.no "tuple" (by decide)) L2.Pu.bT (ay (PQ.bo (aF (ie rfl) i_ (B.no "sorted" (by decide)) L2.Pu.iY (ay (af 15) (aD)))) (aD))) (ai)))))))) (av (b_ (oG))) (aX))))) (aX)) (av (ci (mS [2] (pe (gp (PQ.bo (dg OK (hr.mono (by decide)) (a8 (qw O7 (hr.mono (by decide)) (ax 2)) (a8 (ax 13) (ai)))))))) (av (b_ (oG))) (aX))))))))) (av (b_ (oG))))))))))))))))))
theorem CS {l:LP} {h:GY} {fa P4 O9 Of OM X0 X1 X2 X3 X4 X5 X6 X7 X8 X9 RY S7 S8 S9 Sa:Gw} (X:K.In h) (G:h.Ns GG mg) (Xj:mg "law"=some (.ref fa))
  (Sw:GJ K GG "Day"=some (some (.ref P4)))
  (Qh:GJ K GG "Standing"=some (some (.ref O9)))
  (QZ:GJ K GG "Cellar"=some (some (.ref Of)))
  (Qt:GJ K GG "CellarError"=some (some (.ref OM)))
  (N:qF K RL [X0,X1,X2,X3,X4,X5,X6,X7,X8,X9,RY,S7,S8,S9,Sa])
  (T5:IT K P4 MP=true)
  (T6:J4 K P4=true)
  (T7:Jn K P4=true)
  (T8:GQ K (.ref P4) "__setattr__"=some (some (.builtin "object.__setattr__")))
  (Q_:GQ K (.ref P4) "tanks"=some none)
  (Qu:GQ K (.ref P4) "streams"=some none)
  (R0:GQ K (.ref P4) "rises"=some none)
  (Qi:GQ K (.ref P4) "readings"=some none)
  (T9:Jj K P4=true)
  (Ta:HC K (.ref P4)=true)
  (R1:IT K O9 MP=true)
  (R3:J4 K O9=true)
  (R4:Jn K O9=true)
  (R5:GQ K (.ref O9) "__setattr__"=some (some (.builtin "object.__setattr__")))
  (Qb:GQ K (.ref O9) "came"=some none)
  (PY:GQ K (.ref O9) "streams"=some none)
  (Q0:GQ K (.ref O9) "meters"=some none)
  (Q1:GQ K (.ref O9) "passed"=some none)
  (R6:Jj K O9=true)
  (R7:HC K (.ref O9)=true)
  (RC:IT K Of MP=true)
  (RD:J4 K Of=true)
  (RE:Jn K Of=true)
  (RF:GQ K (.ref Of) "__setattr__"=some (some (.builtin "object.__setattr__")))
  (Qj:GQ K (.ref Of) "tanks"=some none)
  (QK:GQ K (.ref Of) "now"=some none)
  (Q3:GQ K (.ref Of) "history"=some none)
  (RG:Jj K Of=true)
  (RH:HC K (.ref Of)=true)
  (u1:qE K P4 "__init__" "Day.__init__" ik)
  (u2:qE K O9 "__init__" "Standing.__init__" dA)
  (u3:qE K O9 "with_stream" "Standing.with_stream" cC)
  (u4:qE K O9 "with_meters" "Standing.with_meters" cE)
  (u5:qE K O9 "with_day" "Standing.with_day" dk)
  (u6:UF K "refuse_places" f9)
  (u7:UF K "refuse_numbers" eM)
  (u8:UF K "refuse_unmetered" dF)
  (u9:UF K "refuse_amounts" eN)
  (u10:qE K Of "__init__" "Cellar.__init__" eS)
  (u11:qE K Of "keep_deed" "Cellar.keep_deed" dG)
  (u12:qE K Of "stream_comes" "Cellar.stream_comes" cV)
  (Xk:qE K Of "meters_come" "Cellar.meters_come" d0)
  (Xl:qE K Of "days_gone" "Cellar.days_gone" dJ)
  (Xm:qE K Of "day_passes" "Cellar.day_passes" dm)
  (Xn:qE K Of "day" "Cellar.day" im)
  (Xo:UF K "_law_at" o5)
  (Xp:UF K "_law_cell" jW)
  (Xq:UF K "_law_figures" gK)
  (Xr:UF K "_law_same" iq)
  (Xs:UF K "_law_amount" ir)
  (Xt:UF K "_law_wrong_rises" eA)
  (Xu:UF K "_law_wrong_readings" d4)
  (Xv:UF K "_law_done" jY)
  (Xw:UF K "_law_due_word" fX)
  (Xx:UF K "law" o7)
  (Z:Dc K)
  (E:tO K [X0,X1,X2,X3,X4,X5,X6,X7,X8,X9,RY,S7,S8,S9,Sa])
  (Qk:HV K OM t4 "ValueError.__new__"=true)
  (Ql:Hq K OM (.type "BaseException")=some true)
  (QL:kM K (.ref X8) (·==8) 0 [X0,X1,X2,X3,X4,X5,X6,X7,X8,X9,RY,S7,S8,S9,Sa])
  (QM:kM K (.ref RY) (·==10) 0 [X0,X1,X2,X3,X4,X5,X6,X7,X8,X9,RY,S7,S8,S9,Sa])
  (Q4:kM K (.ref X9) (·==9) 0 [X0,X1,X2,X3,X4,X5,X6,X7,X8,X9,RY,S7,S8,S9,Sa])
  (Sh:kM K (.ref X6) (·==6) 0 [X0,X1,X2,X3,X4,X5,X6,X7,X8,X9,RY,S7,S8,S9,Sa])
  (Qc:kM K (.ref X5) (·==5) 0 [X0,X1,X2,X3,X4,X5,X6,X7,X8,X9,RY,S7,S8,S9,Sa])
  (QN:kM K (.type "ValueError") (λ_=>true) 0 [X0,X1,X2,X3,X4,X5,X6,X7,X8,X9,RY,S7,S8,S9,Sa])
  (QO:kM K (.ref X4) (·==4) 0 [X0,X1,X2,X3,X4,X5,X6,X7,X8,X9,RY,S7,S8,S9,Sa])
  (Qv:kM K (.ref OM) (λ_=>true) 0 [X0,X1,X2,X3,X4,X5,X6,X7,X8,X9,RY,S7,S8,S9,Sa])
  {P6:JP}
  (Qw:GJ K GG "MOST_AMOUNT"=some (some (.int 1000 P6)))
  {PH:JP}
  (R8:GJ K GG "MOST_DAYS"=some (some (.int 12 PH)))
  {Pl:JP}
  (QP:GJ K GG "MOST_DEEDS"=some (some (.int 60 Pl)))
  {P9:JP}
  (Qx:GJ K GG "MOST_METERS"=some (some (.int 10 P9)))
  {O_:JP}
  (Qm:GJ K GG "MOST_STREAMS"=some (some (.int 12 O_)))
  {Pk:JP}
  (QQ:GJ K GG "MOST_TANKS"=some (some (.int 7 Pk)))
  {Q2:JP}
  (RJ:GJ K GG "OUTSIDE"=some (some (.int 0 Q2)))
  (z0:GJ K GG "ValueError"=some none)
  (z1:GJ K GG "abs"=some none)
  (z2:GJ K GG "any"=some none)
  (z3:GJ K GG "bool"=some none)
  (z4:GJ K GG "int"=some none)
  (z5:GJ K GG "isinstance"=some none)
  (z6:GJ K GG "len"=some none)
  (z7:GJ K GG "list"=some none)
  (z8:GJ K GG "max"=some none)
  (z9:GJ K GG "min"=some none)
  (Xy:GJ K GG "range"=some none)
  (Xz:GJ K GG "set"=some none)
  (XA:GJ K GG "sorted"=some none)
  (XB:GJ K GG "tuple"=some none)
  :∃fd:HX,(∀(s:Gx) (v:Gu),M6 s fd ⟨[v],[]⟩ [("_law_script",v)])/\∀base:GY,K.In base->base.Ns GG mg->dB l.prog w K mg base (iO l.prog w) 9 fa fd ["_law_script"] (vJ K 1 pI):=by
 obtain⟨f0,Yf,Yg,XC,XD,XE,XF,XG,XH,Yh,a0,l0,c0,k0⟩:=Xx
 have e:=Xj.symm.trans (Hu X G a0)
 cases e
 have B:Bl mg BN:=⟨λx hx=>by
  simp only[BN,GK,IV,or_false]at hx
  rcases hx with rfl|rfl|rfl|rfl|rfl|rfl|rfl|rfl|rfl|rfl|rfl|rfl|rfl|rfl
  ·exact Hw X G z0
  ·exact Hw X G z1
  ·exact Hw X G z2
  ·exact Hw X G z3
  ·exact Hw X G z4
  ·exact Hw X G z5
  ·exact Hw X G z6
  ·exact Hw X G z7
  ·exact Hw X G z8
  ·exact Hw X G z9
  ·exact Hw X G Xy
  ·exact Hw X G Xz
  ·exact Hw X G XA
  ·exact Hw X G XB⟩
 have RZ:gu K "Day" P4:=⟨Sw,T5,T6,T7,T8⟩
 have R_:∀x∈o1,cU K P4 x:=λx hx=>by
  simp only[o1,GK,IV,or_false]at hx
  rcases hx with rfl|rfl|rfl|rfl
  ·exact Q_
  ·exact Qu
  ·exact R0
  ·exact Qi
 have Ru:cL K "Day" o1:=⟨_,RZ,R_⟩
 have ON:gu K "Standing" O9:=⟨Qh,R1,R3,R4,R5⟩
 have Q8:∀x∈b7,cU K O9 x:=λx hx=>by
  simp only[b7,GK,IV,or_false]at hx
  rcases hx with rfl|rfl|rfl|rfl
  ·exact Qb
  ·exact PY
  ·exact Q0
  ·exact Q1
 have O1:cL K "Standing" b7:=⟨_,ON,Q8⟩
 have OD:gu K "Cellar" Of:=⟨QZ,RC,RD,RE,RF⟩
 have QC:∀x∈cR,cU K Of x:=λx hx=>by
  simp only[cR,GK,IV,or_false]at hx
  rcases hx with rfl|rfl|rfl
  ·exact Qj
  ·exact QK
  ·exact Q3
 have O3:cL K "Cellar" cR:=⟨_,OD,QC⟩
 have OY:=Hu X G Qw
 have Pm:=Hu X G R8
 have P8:=Hu X G QP
 have P0:=Hu X G Qx
 have OQ:=Hu X G Qm
 have P7:=Hu X G QQ
 have PM:=Hu X G RJ
 have OH:bO K mg "AlreadyMetered":=cb Z X G N E _ (by decide+kernel)
 have PR:bO K mg "BadTanks":=cb Z X G N E _ (by decide+kernel)
 have Ph:bO K mg "NotMetered":=cb Z X G N E _ (by decide+kernel)
 have Pj:bO K mg "OutOfRange":=cb Z X G N E _ (by decide+kernel)
 have OI:bO K mg "ReadingMissing":=cb Z X G N E _ (by decide+kernel)
 have PF:bO K mg "SamePlace":=cb Z X G N E _ (by decide+kernel)
 have Pa:bO K mg "TooManyDays":=cb Z X G N E _ (by decide+kernel)
 have OZ:bO K mg "TooManyDeeds":=cb Z X G N E _ (by decide+kernel)
 have OR:bO K mg "TooManyMeters":=cb Z X G N E _ (by decide+kernel)
 have OG:bO K mg "TooManyStreams":=cb Z X G N E _ (by decide+kernel)
 have QI:bO K mg "Twice":=cb Z X G N E _ (by decide+kernel)
 have Po:bO K mg "UnknownDay":=cb Z X G N E _ (by decide+kernel)
 have OX:bO K mg "UnknownPlace":=cb Z X G N E _ (by decide+kernel)
 have OO:bO K mg "UnknownStream":=cb Z X G N E _ (by decide+kernel)
 have Pn:bO K mg "WrongRises":=cb Z X G N E _ (by decide+kernel)
 have Pp:kG K mg "NotMetered" (tb 8):=hE Z N E (Hu X G (d9 N E "NotMetered" _ rfl).1) (d9 N E "NotMetered" _ rfl).2.1 QL
 have Pq:kG K mg "OutOfRange" (tb 10):=hE Z N E (Hu X G (d9 N E "OutOfRange" _ rfl).1) (d9 N E "OutOfRange" _ rfl).2.1 QM
 have OJ:kG K mg "ReadingMissing" (tb 9):=hE Z N E (Hu X G (d9 N E "ReadingMissing" _ rfl).1) (d9 N E "ReadingMissing" _ rfl).2.1 Q4
 have QJ:kG K mg "Twice" (tb 6):=hE Z N E (Hu X G (d9 N E "Twice" _ rfl).1) (d9 N E "Twice" _ rfl).2.1 Sh
 have OS:kG K mg "UnknownStream" (tb 5):=hE Z N E (Hu X G (d9 N E "UnknownStream" _ rfl).1) (d9 N E "UnknownStream" _ rfl).2.1 Qc
 have Pt:lZ K (.type "ValueError") FH:=Aj Z N E QN
 have Pw:kG K mg "WrongRises" (tb 4):=hE Z N E (Hu X G (d9 N E "WrongRises" _ rfl).1) (d9 N E "WrongRises" _ rfl).2.1 QO
 have Pb:rL K mg "CellarError" (vY RL):=wj (Hu X G Qt) Qk Ql N Qv
 refine⟨HJ "law" "law" (cw o7) (b0 o7) (ah o7) .none XC XD XE XF XG XH,λs v=> .of_eq rfl,λbase _ _=> ?_⟩
 have PU:fQ l.prog w K mg base 1 "Day" 4 eL:=s9 (u1.mk RZ (Hu X G Sw) T9 Ta R_ b5) B
 have O5:fQ l.prog w K mg base 1 "Standing" 4 aS:=lH (u2.mk ON (Hu X G Qh) R6 R7 Q8 b5) B
 have Ol:ck l.prog w K mg base 3 "Standing" "with_stream" 3 bj:=hJ (u3.at ON b3) B O5 O1
 have Om:ck l.prog w K mg base 3 "Standing" "with_meters" 2 bn:=hU (u4.at ON b2) B O5 O1
 have Oz:ck l.prog w K mg base 3 "Standing" "with_day" 2 bH:=ja (u5.at ON b2) B O5 O1
 have OP:bS l.prog w K mg base 1 "refuse_places" 2 cM:=lI (u6.at X G b2) B PM PF OX
 have Og:bS l.prog w K mg base 1 "refuse_numbers" 2 bx:=kN (u7.at X G b2) B QI OO O1
 have OC:bS l.prog w K mg base 1 "refuse_unmetered" 2 bU:=jC (u8.at X G b2) B Ph O1
 have Oy:bS l.prog w K mg base 1 "refuse_amounts" 1 bQ:=kO (u9.at X G b1) B OY Pj
 have Pc:rY l.prog w K mg base 3 "Cellar" 1 cS:=o8 (u10.mk OD (Hu X G QZ) RG RH QC b2) B O5 P7 PR
 have O6:fq l.prog w K mg base 1 "Cellar" "keep_deed" 2 aP:=jD (u11.at OD b3) B P8 OZ O3
 have Oq:fq l.prog w K mg base 4 "Cellar" "stream_comes" 2 bu:=iu (u12.at OD b3) B OP O6 Ol OQ OG O3 O1
 have Ov:fq l.prog w K mg base 4 "Cellar" "meters_come" 1 bB:=iH (Xk.at OD b2) B Og O6 Om P0 OH OR O3 O1
 have O7:ck l.prog w K mg base 1 "Cellar" "days_gone" 1 aH:=jE (Xl.at OD b1) B O3 O1
 have OA:fq l.prog w K mg base 4 "Cellar" "day_passes" 2 aR:=jc (Xm.at OD b3) B Og OC Oy PU O6 Oz O7 Pm OI Pa Pn O3 O1
 have OV:ck l.prog w K mg base 2 "Cellar" "day" 2 cF:=oK (Xn.at OD b2) B O7 Po O3 O1
 have OE:bS l.prog w K mg base 1 "_law_at" 2 cN:=wo (Xo.at X G b2) B
 have Ob:bS l.prog w K mg base 2 "_law_cell" 2 aI:=sd (Xp.at X G b2) B OE
 have OL:bS l.prog w K mg base 1 "_law_figures" 4 cT:=o9 (Xq.at X G b4) B
 have OK:bS l.prog w K mg base 8 "_law_same" 2 bG:=se (Xr.at X G b2) B
 have OU:bS l.prog w K mg base 1 "_law_amount" 1 cG:=oM (Xs.at X G b1) B
 have OF:bS l.prog w K mg base 3 "_law_wrong_rises" 2 c5:=jZ (Xt.at X G b2) B Ob
 have Ox:bS l.prog w K mg base 3 "_law_wrong_readings" 4 bC:=iI (Xu.at X G b4) B Ob
 have PV:Eg l.prog w K mg base 5 "_law_done" 1 2 eO:=sf (Xv.at X G b3) B OA Pp Pq OJ QJ OS Pt Pw Pb
 have P1:bS l.prog w K mg base 1 "_law_due_word" 5 cm:=mI (Xw.at X G b5) B
 exact CQ (jL (st:=o7) l0 c0 k0) B Ob Pc OE Oq OL Ov OU OF Ox P1 PV OK OV O7 Ru
end
theorem walk {l:LP} {q:GP} {Qz:List Gv} {XP:(Gv->Option Gu)->GY->Prop} {YP:G_->GY->Prop} {d:DefRec} {K:Params->Gs} (hn:l.most=some 63) (Tx:d.params.defaults=[])
  (hY:∀(w:G_) (h:GY),YP w h->(K w.params).In h) (main:∀ns:List Int,ns.length<=63->pI [.scr ns]= .ok (.bl true))
  (F:∀(w:G_) (mg:Gv->Option Gu) (fa:Gw) (h:GY),(K w.params).In h->h.Ns GG mg->mg d.name=some (.ref fa)->
   ∃fd:HX,(∀(s:Gx) (u:Gu),M6 s fd ⟨[u],[]⟩ [("_law_script",u)])/\∀base:GY,(K w.params).In base->base.Ns GG mg->dB l.prog w (K w.params) mg base (iO l.prog w) 9 fa fd ["_law_script"] (vJ (K w.params) 1 pI)):
  NP q Qz XP YP l.row.toRowW d [] (λf vs=>Ny f vs):=
 L2.zC (n:=63) (k:=9) (x:="_law_script") (CX:=λw=>iO l.prog w) (sp:=λw=>vJ (K w.params) 1 pI) hn (by decide) Tx ⟨rfl,by decide,by decide⟩ hY F (λ_ _ a ns hl _ hS=>Co (main ns hl) hS) λ_ _ _ _ _ z=>L2.Pu.Cz z
end My
namespace My
open PySem PySem.Spec PyProof.Rows L2 L2.Pu
local macro_rules|`(tactic|simp! [$xs,*])=>`(tactic|simp only[aA,bV,gN,dr,cn,aQ,gT,li,iB,lj,t7,frz,frz1,Mn,dD,f2,f1,bZ,bE,eE,fL,aO,rl,zS,rm,Ge,fT,fA,iS,uG,jy,a7,ag,aw,ae,fC,FD,al,dw,Io,Ip,List.set_cons_zero,List.set_cons_succ,xS,xT,xU,GX,IF,Lx,Nat.reduceAdd,if_true,if_false,HF,L5,Mg,nK,decide_true,decide_false,fN,qq,rD,uL,lX,E4,ky,rC,Cp,E5,fO,iZ,zX,zY,xN,xO,lY,rE,LN,IG,Il,$xs,*])
def cel (ns:List Int) (k:Nat):Int:=ns.getD k 0
theorem uZ (ns:List Int) (k:Nat):cN [.scr ns, .int (k:Int)]= .ok (.int (cel ns k)):=by
 unfold cN bd
 simp only[cj,r_,aA,dr,cn,aQ,f2,bZ,ae,fC,fT,a7,ag,Cq,lX,E6,GX,IF,if_true,GL,Jb,Hs,Nat.sub_self,Ig,Io,Ip,Slot.data,al,dw]
 by_cases h:k<ns.length
 ·have h':(k:Int)<(ns.length:Int):=by omega
  simp only[h',decide_true,if_true,f7 h,IG,dw,al]
  simp[cel,h]
 ·have h':¬(k:Int)<(ns.length:Int):=by omega
  simp only[h',decide_false,if_false,HF,al]
  simp[cel,Ls h]
theorem G5 (ns:List Int):cN [.scr ns, .int 0]= .ok (.int (cel ns 0)):=uZ ns 0
def cl (ns:List Int) (k:Nat):Int:=if cel ns 0%2=0 then cel ns k else ((cel ns k+cel ns 0 / 2+7919*(k:Int)+1)*48271%2147483647+(k:Int))*69621%2147483647
theorem jr (ns:List Int) (k:Nat):aI [.scr ns, .int (k:Int)]= .ok (.int (cl ns k)):=by
 refine cX rfl ?_
 show jX [some (.val (.scr ns)),some (.val (.int (k:Int))),none]=_
 by_cases h:cel ns 0%2=0<;>simp! [jX,G5,uZ,h,c3 (show (0:Int)<2 by decide),jk (show (0:Int)<2/\(2:Int)<1073741824 by decide),qo (show KC 48271<18446744073709551616 by decide),qo (show KC 69621<18446744073709551616 by decide),qp (show KC 7919<18446744073709551616 by decide),c3 (show (0:Int)<2147483647 by decide),cl]
theorem sg {g:D->a9->R a9} {gb:a9->R a_} {n:Nat} {P:Nat->a9->Prop} (h:∀k,k<n->∀ρ,P k ρ->∃ρ1 ρ2,g (.int (k:Int)) ρ= .ok ρ1/\(gb ρ1= .ok (.nx ρ2)\/gb ρ1= .ok (.cnt ρ2))/\P (k+1) ρ2):∀(j k:Nat) (ρ:a9),k+j=n->P k ρ->∃ρ',eF g gb ((List.range' k j).map λk:Nat=>D.int (k:Int)) ρ= .ok (.nx ρ')/\P n ρ'
 |0,k,ρ,e,hp=>⟨ρ,rfl,by rw[Nat.add_zero]at e;exact e▸hp⟩
 |j+1,k,ρ,e,hp=>by
  obtain⟨ρ1,ρ2,e1,e2,h2⟩:=h k (by omega) ρ hp
  obtain⟨ρ',e3,h3⟩:=sg h j (k+1) ρ2 (by omega) h2
  refine⟨ρ',?_,h3⟩
  rw[List.range'_succ,GL]
  rcases e2 with e2|e2
  ·rw[qt e1 e2,e3]
  ·rw[xQ e1 e2,e3]
theorem u_ {g:D->a9->R a9} {gb:a9->R a_} {n:Nat} {P:Nat->a9->Prop} {fs:a9->R (List D)} {ρ:a9} (hf:fs ρ= .ok [.int (n:Int)]) (hn:n<=1000) (h0:P 0 ρ) (h:∀k,k<n->∀ρ,P k ρ->∃ρ1 ρ2,g (.int (k:Int)) ρ= .ok ρ1/\(gb ρ1= .ok (.nx ρ2)\/gb ρ1= .ok (.cnt ρ2))/\P (k+1) ρ2):∃ρ',li (dX fs) g gb ρ= .ok (.nx ρ')/\P n ρ':=by
 obtain⟨ρ',e,hp⟩:=sg h n 0 ρ (by omega) h0
 rw[<-List.range_eq_range']at e
 exact⟨ρ',(xR (gX hf (by unfold lim;omega))).trans e,hp⟩
inductive Wf:Nat->D->Prop
 |int (n:Nat) (i:Int):Wf n (.int i)
 |tup {n:Nat} {ds:List D}:ds.length<=1000->(∀d∈ds,Wf n d)->Wf (n+1) (.tup ds)
theorem Wf.up {n:Nat} {d:D} (h:Wf n d):∀k,Wf (n+k) d:=by
 induction h with
 |int n i=>exact λk=> .int _ i
 | @tup n ds h1 h2 ih=>exact λk=>by rw[Nat.add_right_comm];exact .tup h1 λd hd=>ih d hd k
theorem wq {QH:List D->R D} {ds:List D} (h:∀d∈ds,QH [d,d]= .ok (.bl true)) {k:Nat} (hk:k<ds.length):
  gz QH [some (.val (.tup ds)),some (.val (.tup ds)),some (.val (.int (k:Int)))]= .ok (.nx [some (.val (.tup ds)),some (.val (.tup ds)),some (.val (.int (k:Int)))]):=by
 have hr:=h ds[k] (JB hk)
 simp only[gz,dr,jy,fA,aO,a7,ag,f2,ae,cn,aQ,fC,al,dw,Io,Ip,Slot.data,rE,f7 hk,GX,IF,if_true,hr,nK,L5,HF,if_false]
theorem pK {QH:List D->R D} {ds:List D} (h:∀d∈ds,QH [d,d]= .ok (.bl true)):∀(ks:List Nat) (x:Option Slot),(∀k∈ks,k<ds.length)->
  ∃y,eF (gN 2) (gz QH) (ks.map λk:Nat=>D.int (k:Int)) [some (.val (.tup ds)),some (.val (.tup ds)),x]= .ok (.nx [some (.val (.tup ds)),some (.val (.tup ds)),y])
 |[],x,_=>⟨x,rfl⟩
 |k::ks,x,hk=>by
  obtain⟨y,e⟩:=pK h ks (some (.val (.int (k:Int)))) λj hj=>hk j (GU _ hj)
  exact⟨y,by rw[GL,qt rfl (wq h (hk k GO)),e]⟩
theorem yp (n:Nat) (i:Int):d3 (n+1) [.int i, .int i]= .ok (.bl true):=by
 refine cX rfl ?_
 show fV (d3 n) [some (.val (.int i)),some (.val (.int i)),none]=_
 simp only[fV,aA,dr,cn,aQ,fA,tz,ae,rl,rm,f2,al,dw,Io,Ip,Slot.data,Ct,Cu,Cv,nK,HF,if_false,Mg,rD,decide_true]
theorem wt {n:Nat} {d:D} (h:Wf n d):d3 (n+1) [d,d]= .ok (.bl true):=by
 induction h with
 |int n i=>exact yp n i
 | @tup n ds h1 h2 ih=>
  obtain⟨y,e⟩:=pK ih (Hy ds.length) none λk hk=>HW.mp hk
  refine cX rfl ?_
  show fV (d3 (n+1)) [some (.val (.tup ds)),some (.val (.tup ds)),none]=_
  simp only[fV,aA,dr,cn,aQ,uG,jy,fT,fA,tz,ae,fC,f2,bZ,a7,ag,al,dw,Io,Ip,Slot.data,Cr,nK,if_true,L5,HF,if_false,iZ,uL,decide_true,li]
  rw[gX (n:=ds.length) (by simp only[a7,ag,bZ,ae,al,dw,Io,Ip,Slot.data,iZ]) (by unfold lim;omega),al,e]
  simp only[al]
theorem og {n:Nat} (hn:n<=7) {d:D} (h:Wf n d):bG [d,d]= .ok (.bl true):=by
 have:=wt (h.up (7 - n))
 rw[show n+(7 - n)+1=8 by omega]at this
 exact this
theorem pL (i:Int):bG [.int i, .int i]= .ok (.bl true):=og (Il _) (.int 0 i)
theorem Ak (ns:List Int) (h:ns.length<=1000):Wf 1 (.tup (ns.map .int)):= .tup (by simpa using h) λd hd=>by obtain⟨i,_,rfl⟩:=IH.mp hd;exact .int 0 i
theorem wu (ns:List Int) (h:ns.length<=1000):bG [.tup (ns.map .int), .tup (ns.map .int)]= .ok (.bl true):=og (by omega) (Ak ns h)
abbrev Ej:=Int×Int×Int
def oh (r:Ej):D:= .tup [.int r.1, .int r.2.1, .int r.2.2]
def kQ (n:Int) (now:D):List (Gv×D):=[("tanks", .int n),("now",now)]
def aJ (n:Int) (now:D) (hs:List D):Slot:= .cel "Cellar" (kQ n now) "history" hs
theorem yq (n:Int) (now:D):(kQ n now).lookup ("tanks":Gv)=some (D.int n):=rfl
theorem qI (n:Int) (now:D):(kQ n now).lookup ("now":Gv)=some now:=rfl
theorem Al (n:Int) (now d:D):ye "now" d (kQ n now)=kQ n d:=rfl
theorem fc {cls g:Gv} {f:a9->R D} {ρ:a9} {fds:List (Gv×D)} {d:D} (h:f ρ= .ok (.ins cls fds)) (h2:fds.lookup g=some d):c_ cls g f ρ= .ok d:=by
 unfold c_
 rw[h,al]
 dsimp only
 rw[if_pos rfl,h2,dw]
theorem mU {i:Nat} {g:Gv} {ρ:a9} {n:Int} {now d:D} {hs:List D} (h:ρ[i]? =some (some (aJ n now hs))) (h2:(kQ n now).lookup g=some d):cr i "Cellar" g ρ= .ok d:=by
 unfold cr
 rw[h]
 show (if ("Cellar":Gv)="Cellar" then R.of ((kQ n now).lookup g)else .bad)=_
 rw[if_pos rfl,h2,dw]
theorem v1 {i:Nat} {ρ:a9} {n:Int} {now:D} {hs:List D} (h:ρ[i]? =some (some (aJ n now hs))):nV i "Cellar" "history" ρ= .ok (.lst hs):=by
 unfold nV
 rw[h]
 exact if_pos ⟨rfl,rfl⟩
theorem kR {g g':a9->R a_} {ρ ρ':a9} {x:Gv} (h:g ρ= .err x ρ'):aA g g' ρ= .err x ρ':=by
 unfold aA
 rw[h];rfl
theorem yr {g g':a9->R a_} {ρ ρ':a9} {d:D} (h:g ρ= .ok (.retc d ρ')):aA g g' ρ= .ok (.retc d ρ'):=by
 unfold aA
 rw[h,al]
theorem tP {gc:a9->R Bool} {g g':a9->R a_} {ρ:a9} (h:gc ρ= .ok true):dr gc g g' ρ=g ρ:=by unfold dr;rw[h,al];rfl
theorem kS {gc:a9->R Bool} {g g':a9->R a_} {ρ:a9} (h:gc ρ= .ok false):dr gc g g' ρ=g' ρ:=by unfold dr;rw[h,al];rfl
theorem c8 {f:a9->R D} {ρ:a9} {b:Bool} (h:f ρ= .ok (.bl b)):fT f ρ= .ok b:=by unfold fT;rw[h,al]
theorem oi {f:a9->R D} {ρ:a9} {b:Bool} (h:f ρ= .ok (.bl b)):fA f ρ= .ok b:=by unfold fA;rw[h,al];rfl
theorem oj {x:Gv} {s:Gv} {ρ:a9}:bL x (a7 (fC (.str s)) ag) ρ= .err x ρ:=by
 unfold bL a7 fC ag
 simp only[al]
 exact if_pos (show 1<=lim by decide)
theorem gM {fs:a9->R (List D)} {ρ:a9} {ds:List D} (h:fs ρ= .ok ds) (hl:ds.length<=lim):eE fs ρ= .ok (.tup ds):=by unfold eE;rw[h,al,if_pos hl]
theorem Am {f:a9->R D} {ρ:a9} {d:D} (h:f ρ= .ok d):gw f ρ= .ok (.nx ρ):=by unfold gw;rw[h,al]
theorem sh {f:a9->R D} {ρ ρ':a9} {x:Gv} (h:f ρ= .err x ρ'):gw f ρ= .err x ρ':=by unfold gw;rw[h];rfl
theorem si {m:List D->R D} {n:Nat} {fs:a9->R (List D)} {ρ ρ':a9} {ds:List D} {x:Gv} (h:fs ρ= .ok ds) (hl:ds.length=n) (hm:m ds= .err x ρ'):aO m n fs ρ= .err x ρ:=by
 unfold aO
 rw[h,al,if_pos hl,hm]
theorem ix {cls m:Gv} {n:Nat} {r:List D->R D} {fo:a9->R D} {fs:a9->R (List D)} {ρ:a9} {fds:List (Gv×D)} {ds:List D} {z:D} (h1:fo ρ= .ok (.ins cls fds)) (h2:fs ρ= .ok ds) (hl:ds.length+1=n) (e:r (.ins cls fds::ds)= .ok z) (hm:fds.lookup m=none):eX cls m n r fo fs ρ= .ok z:=by
 unfold eX
 rw[h1,al]
 dsimp only
 rw[if_pos ⟨rfl,hm⟩,h2,al,if_pos hl,e]
theorem lJ {i:Nat} {mf:List Slot->List D->R (D×List Slot)} {k:Nat} {fs:a9->R (List D)} {ρ:a9} {ds:List D} {n n':Int} {now Qy d:D} {hs OB:List D} (h:ρ[i]? =some (some (aJ n now hs))) (h2:fs ρ= .ok ds) (hl:ds.length=k) (e:mf [aJ n now hs] ds= .ok (d,[aJ n' Qy OB])):
  iF [i] mf k fs ρ= .ok (d,ρ.set i (some (aJ n' Qy OB))):=by
 unfold iF
 have Tj:eh ρ [i]=some [aJ n now hs]:=by unfold eh eh;rw[h];rfl
 rw[Tj]
 dsimp only
 rw[if_pos ⟨rfl,by simp⟩,h2,al,if_pos hl,e]
 dsimp only
 rw[if_pos (show List.map Slot.kind [aJ n' Qy OB]=List.map Slot.kind [aJ n now hs]from rfl)]
 rfl
theorem v2 {i:Nat} {mf:List Slot->List D->R (D×List Slot)} {k:Nat} {fs:a9->R (List D)} {ρ ρe:a9} {ds:List D} {n:Int} {now:D} {hs:List D} {x:Gv} (h:ρ[i]? =some (some (aJ n now hs))) (h2:fs ρ= .ok ds) (hl:ds.length=k) (e:mf [aJ n now hs] ds= .err x ρe) (ht:cq 1 ρe=some [aJ n now hs]) (hi:ρ.set i (some (aJ n now hs))=ρ):
  iF [i] mf k fs ρ= .err x ρ:=by
 unfold iF
 have OB:eh ρ [i]=some [aJ n now hs]:=by unfold eh eh;rw[h];rfl
 rw[OB]
 dsimp only
 rw[if_pos ⟨rfl,by simp⟩,h2,al,if_pos hl,e]
 dsimp only
 rw[show cq [i].length ρe=some [aJ n now hs]from ht]
 dsimp only
 rw[if_pos rfl]
 show R.err x (ρ.set i (some (aJ n now hs)))=_
 rw[hi]
theorem lK {i:Nat} {m:Gv} {fx:a9->R (D×a9)} {ρ:a9} {n:Int} {now:D} {hs:List D} (h:ρ[i]? =some (some (aJ n now hs))) (h1:m≠"history":=by decide) (h2:(kQ n now).lookup m=none:=by rfl):kI i "Cellar" m fx ρ=fx ρ:=by
 unfold kI
 rw[h]
 exact if_pos ⟨rfl,h1,h2⟩
theorem sj {fx:a9->R (D×a9)} {ρ ρ':a9} {d:D} (h:fx ρ= .ok (d,ρ')):gI fx ρ= .ok (.nx ρ'):=by unfold gI;rw[h,al]
theorem wv {fx:a9->R (D×a9)} {ρ ρ':a9} {x:Gv} (h:fx ρ= .err x ρ'):gI fx ρ= .err x ρ':=by unfold gI;rw[h];rfl
theorem lL {nm k n:Nat} {g:a9->R a_} {ss ss':List Slot} {ds:List D} {d:D} {ρ:a9} (h:ss.length=nm/\ds.length=k) (e:g (eo n ss ds)= .ok (.retc d ρ)) (ht:cq nm ρ=some ss'):j3 nm k n g ss ds= .ok (d,ss'):=by
 unfold j3
 rw[if_pos h,e]
 dsimp only
 rw[ht]
theorem v3 {nm k n:Nat} {g:a9->R a_} {ss ss':List Slot} {ds:List D} {ρ:a9} (h:ss.length=nm/\ds.length=k) (e:g (eo n ss ds)= .ok (.nx ρ)) (ht:cq nm ρ=some ss'):j3 nm k n g ss ds= .ok (.non,ss'):=by
 unfold j3
 rw[if_pos h,e]
 dsimp only
 rw[ht]
theorem ol {nm k n:Nat} {g:a9->R a_} {ss:List Slot} {ds:List D} {x:Gv} {ρ:a9} (h:ss.length=nm/\ds.length=k) (e:g (eo n ss ds)= .err x ρ):j3 nm k n g ss ds= .err x ρ:=by
 unfold j3
 rw[if_pos h,e]
theorem yt {k n:Nat} {g:a9->R a_} {ds:List D} {x:Gv} {ρ:a9} (h:ds.length=k) (e:g (cj n ds)= .err x ρ):bd k n g ds= .err x ρ:=by
 unfold bd
 rw[if_pos h,e];rfl
theorem An {f:a9->R D} {ρ:a9} {d:D} (h:f ρ= .ok d):nW f ρ= .ok (.retc d ρ):=by unfold nW;rw[h,al]
theorem om {α:Type} {gt:a9->R Bool} {fe:a9->R D} {enc out:α->D} {p:α->Bool} {a0:Option Slot} {rest:a9}:∀(xs:List α) (v:Option Slot),(∀x∈xs,gt (a0::some (.val (enc x))::rest)= .ok (p x))->(∀x∈xs,p x=true->fe (a0::some (.val (enc x))::rest)= .ok (out x))->
  iU (gN 1) gt fe (xs.map enc) (a0::v::rest)= .ok ((xs.filter p).map out)
 |[],v,h1,h2=>rfl
 |x::xs,v,h1,h2=>by
  have e1:=h1 x GO
  have ih:=om (gt:=gt) (fe:=fe) (enc:=enc) (out:=out) (p:=p) (a0:=a0) (rest:=rest) xs (some (.val (enc x))) (λy hy=>h1 y (GU _ hy)) (λy hy=>h2 y (GU _ hy))
  rw[GL,iU]
  show (gt (a0::some (.val (enc x))::rest)>>=λb=>if b=true then (fe (a0::some (.val (enc x))::rest)>>=λy=>iU (gN 1) gt fe (xs.map enc) (a0::some (.val (enc x))::rest)>>=λys=> .ok (y::ys))else iU (gN 1) gt fe (xs.map enc) (a0::some (.val (enc x))::rest))=_
  rw[e1,al,ih]
  cases q:p x with
  |true=>rw[if_pos rfl,h2 x GO q,al,al,LC,if_pos q];rfl
  |false=>rw[if_neg (by simp),LC,if_neg (by rw[q];simp)]
theorem j_ {α:Type} (xs:List α):xs.filter (λ_=>true)=xs:=by simp
theorem FI {x:D} {r:List D}:bq (.tup (x::r)) (.int 0)=some x:=by
 rw[rE]
 have:=f7 (xs:=x::r) (k:=0) (by simp)
 simpa using this
theorem G6 {x y:D} {r:List D}:bq (.tup (x::y::r)) (.int 1)=some y:=by
 rw[rE]
 have:=f7 (xs:=x::y::r) (k:=1) (by simp)
 simpa using this
theorem Ek {x:D} {r:List D}:bq (.lst (x::r)) (.int 0)=some x:=by
 rw[lY]
 have:=f7 (xs:=x::r) (k:=0) (by simp)
 simpa using this
theorem EN {x y:D} {r:List D}:bq (.lst (x::y::r)) (.int 1)=some y:=by
 rw[lY]
 have:=f7 (xs:=x::y::r) (k:=1) (by simp)
 simpa using this
theorem Ao {r:Ej}:bq (oh r) (.int 0)=some (.int r.1):=FI
abbrev Rd:=Int×Int
def fz (r:Rd):D:= .tup [.int r.1, .int r.2]
structure CT where
 ss:List Ej
 ri:List Int
 rd:List Rd
structure Mo where
 c:Int
 ss:List Ej
 ms:List Int
 mm:List Int
 ds:List CT
 dd:List D
def yu (n:Int) (d:CT):List (Gv×D):=[("tanks", .int n),("streams", .tup (d.ss.map oh)),("rises", .tup (d.ri.map .int)),("readings", .tup (d.rd.map fz))]
def oN (n:Int) (d:CT):D:= .ins "Day" (yu n d)
def qU (n:Int) (m:Mo):List (Gv×D):=[("came", .int m.c),("streams", .tup (m.ss.map oh)),("meters", .tup (m.ms.map .int)),("passed", .tup (m.ds.map (oN n)))]
def bF (n:Int) (m:Mo):D:= .ins "Standing" (qU n m)
abbrev Mo.nu (m:Mo):List Int:=m.ss.map (·.1)
theorem mV (n:Int) (m:Mo):(qU n m).lookup ("came":Gv)=some (D.int m.c):=rfl
theorem eP (n:Int) (m:Mo):(qU n m).lookup ("streams":Gv)=some (D.tup (m.ss.map oh)):=rfl
theorem eQ (n:Int) (m:Mo):(qU n m).lookup ("meters":Gv)=some (D.tup (m.ms.map .int)):=rfl
theorem fI (n:Int) (m:Mo):(qU n m).lookup ("passed":Gv)=some (D.tup (m.ds.map (oN n))):=rfl
def Mo.comes (m:Mo) (a b:Int):Mo:={m with c:=m.c+1,ss:=m.ss++[(m.c+1,a,b)],dd:=m.dd++[.tup [.str "stream comes", .int a, .int b]]}
def Mo.goes (m:Mo) (a:Int):Mo:={m with ss:=m.ss.filter λr=>decide (r.1≠a),ms:=m.ms.filter λx=>decide (x≠a),mm:=m.mm.filter λx=>decide (x≠a),dd:=m.dd++[.tup [.str "stream goes", .int a]]}
def Mo.mcome (m:Mo) (ns:List Int):Mo:={m with ms:=m.ms++ns,mm:=de (m.mm++ns),dd:=m.dd++[.tup [.str "meters come", .tup (ns.map .int)]]}
def Mo.mgo (m:Mo) (ns:List Int):Mo:={m with ms:=m.ms.filter λx=> !decide (x∈ns),mm:=m.mm.filter λx=> !decide (x∈ns),dd:=m.dd++[.tup [.str "meters go", .tup (ns.map .int)]]}
def sk (rd:List Rd):List Rd:=rd.mergeSort λa b=>decide (a.1<=b.1)
def Mo.passes (m:Mo) (ri:List Int) (rd:List Rd):Mo:={m with ds:=m.ds++[⟨m.ss,ri,sk rd⟩],dd:=m.dd++[.tup [.str "day passes", .tup (ri.map .int), .tup (rd.map fz)]]}
structure Mo.Ok (m:Mo):Prop where
 inc:m.ss.Pairwise λa b=>a.1<b.1
 le:∀r∈m.ss,r.1<=m.c
 len:m.ss.length<=12
 per:m.mm.Perm m.ms
 nd:m.ms.Nodup
 sub:∀x∈m.ms,x∈m.nu
 ten:m.ms.length<=10
 dl:m.ds.length<=12
theorem hX (rd:List Rd):rd.Perm (sk rd):=(List.mergeSort_perm rd _).symm
theorem v4 {rd:List Rd} (h:(rd.map (·.1)).Nodup):(sk rd).Pairwise λa b=>a.1<b.1:=by
 have h1:(sk rd).Pairwise λa b=>decide (a.1<=b.1)=true:=List.pairwise_mergeSort (λa b c h1 h2=>by simp only[decide_eq_true_eq]at*;omega) (λa b=>by simp only[KA,decide_eq_true_eq];omega) rd
 have h2:((sk rd).map (·.1)).Nodup:=((hX rd).map (·.1)).nodup_iff.mp h
 rw[List.Nodup,IM]at h2
 refine(h1.and h2).imp λ{a b} h=> ?_
 have:=of_decide_eq_true h.1
 have:=h.2
 omega
theorem qJ {fs:a9->R (List D)} {ρ:a9} {a b c d:D} (h:fs ρ= .ok [a,b,c,d]):kC "Standing" 4 aS fs ρ= .ok (.ins "Standing" [("came",a),("streams",b),("meters",c),("passed",d)]):=by
 unfold kC
 rw[h,al,if_pos (show [a,b,c,d].length=4 from rfl),show aS [a,b,c,d]= .ok [("came",a),("streams",b),("meters",c),("passed",d)]from rfl]
theorem tR {a b:List D} (h:a.length+b.length<=1000):bK (.tup a) (.tup b)=some (.tup (a++b)):=if_pos (by unfold lim;omega)
section
variable {n:Int} {m:Mo} {hs:List D}
theorem ww {x:List (Option Slot)} {g:Gv} {d:D} (h:(qU n m).lookup g=some d):c_ "Standing" g (ae 0) (some (.val (bF n m))::x)= .ok d:=fc rfl h
theorem lM (g:m.Ok) (a b:Int):bj [bF n m, .int a, .int b]= .ok (bF n (m.comes a b)):=by
 refine cX rfl ?_
 show cD [some (.val (bF n m)),some (.val (.int a)),some (.val (.int b)),none]=_
 unfold cD
 rw[aE (ρ':=[some (.val (bF n m)),some (.val (.int a)),some (.val (.int b)),some (.val (.int (m.c+1)))]) (dh (az (ww (mV n m)) rfl rfl) rfl)]
 refine lp ((qJ (aa rfl (aa (az (ww (eP n m)) (gM (ds:=[oh (m.c+1,a,b)]) (aa (gM (ds:=[.int (m.c+1), .int a, .int b]) rfl (show 3<=lim by decide)) rfl) (show 1<=lim by decide)) (tR (by have:=g.len;simp;omega))) (aa (ww (eQ n m)) (aa (ww (fI n m)) rfl))))).trans ?_)
 simp only[bF,qU,Mo.comes,HB,GL,Jb,oh]
theorem CU {x:List (Option Slot)} {g:Gv} {l:List D} (h:(qU n m).lookup g=some (.tup l)):dD (c_ "Standing" g (ae 0)) (some (.val (bF n m))::x)= .ok l:=by
 unfold dD
 rw[ww h,al]
def eD (d:D) (row:List Int):Prop:=d= .lst (row.map .int)\/d= .tup (row.map .int)
theorem eD.seq {d:D} {row:List Int} (h:eD d row) {ρ:a9} {f:a9->R D} (e:f ρ= .ok d):dD f ρ= .ok (row.map .int):=by
 unfold dD
 rw[e]
 rcases h with rfl|rfl<;>rfl
theorem eD.len {d:D} {row:List Int} (h:eD d row):bP [d]=some (.int (row.length:Int)):=by
 rcases h with rfl|rfl
 ·rw[fO,GA]
 ·rw[iZ,GA]
theorem eD.set {d:D} {row:List Int} (h:eD d row) (hl:row.length<4000) {ρ:a9} {f:a9->R D} (e:f ρ= .ok d):mT f ρ= .ok (.int (L2.dR row)):=by
 unfold mT
 rw[e]
 rcases h with rfl|rfl<;>simp only[al,fM,hl,if_true]
theorem eD.out {d:D} {row:List Int} (h:eD d row) (k:Int):jz true (.int k) d=some (.bl (!decide (k∈row))):=by
 rcases h with rfl|rfl
 ·exact gW
 ·exact rF
theorem eD.tup {d:D} {row:List Int} (h:eD d row):ee [d]=some (.tup (row.map .int)):=by rcases h with rfl|rfl<;>rfl
theorem lN (g:m.Ok) {d:D} {ns:List Int} (h:eD d ns) (hl:ns.length<=100):bn [bF n m,d]= .ok (bF n (m.mcome ns)):=by
 refine cX rfl (lp ((qJ (aa (ww (x:=[some (.val d)]) (mV n m)) (aa (ww (eP n m)) (aa (az (ww (eQ n m)) (b8 (aa rfl rfl) h.tup) (tR (by have:=g.ten;simp;omega))) (aa (ww (fI n m)) rfl))))).trans ?_))
 simp only[bF,qU,Mo.mcome,HB]
theorem oO (g:m.Ok) (ri:List Int) (rd:List Rd):bH [bF n m,oN n ⟨m.ss,ri,sk rd⟩]= .ok (bF n (m.passes ri rd)):=by
 refine cX rfl (lp ((qJ (aa (ww (x:=[some (.val (oN n ⟨m.ss,ri,sk rd⟩))]) (mV n m)) (aa (ww (eP n m)) (aa (ww (eQ n m)) (aa (az (ww (fI n m)) (gM (ds:=[oN n ⟨m.ss,ri,sk rd⟩]) (aa rfl rfl) (show 1<=lim by decide)) (tR (by have:=g.dl;simp;omega))) rfl))))).trans ?_))
 simp only[bF,qU,Mo.passes,HB,GL,Jb]
end
theorem qK:∀(ns OW:List Int),OW.Nodup->(ns.foldl K2 OW).length<=OW.length+ns.length/\((ns.foldl K2 OW).length=OW.length+ns.length<->(OW++ns).Nodup)
 |[],OW,h=>⟨by simp,by simpa using h⟩
 |k::ns,OW,h=>by
  rw[Nx]
  unfold K2
  by_cases hk:k∈OW
  ·have e:OW.any (·==k)=true:=HU.mpr ⟨k,hk,by simp⟩
   rw[if_pos e]
   obtain⟨h1,_⟩:=qK ns OW h
   refine⟨by rw[GX];exact Lc h1,λz=> ?_,λz=> ?_⟩
   ·rw[GX]at z
    have:=h1
    unfold K2 at this
    omega
   ·exact absurd rfl ((Jr.mp z).2.2 k hk k GO)
  ·have e:¬OW.any (·==k)=true:=λz=>by
    obtain⟨x,hx,XI⟩:=HU.mp z
    have:x=k:=by simpa using XI
    exact hk (this▸hx)
   rw[if_neg e]
   have hn:(OW++[k]).Nodup:=Jr.mpr ⟨h,by simp,λa ha b hb=>by
    have:b=k:=by simpa using hb
    subst this
    intro z
    exact hk (z▸ha)⟩
   obtain⟨h1,h2⟩:=qK ns (OW++[k]) hn
   rw[Hn,Js]at h1 h2
   rw[K8]at h2
   rw[GX]
   unfold K2 at h1 h2
   refine⟨by omega,?_⟩
   rw[show OW.length+(ns.length+1)=OW.length+1+ns.length by omega]
   exact h2
theorem tU (ns:List Int):(Hy ns.length).map (λi=>ns.getD i 0)=ns:=by
 apply Nn
 ·simp
 ·intro i h1 h2
  simp[h2]
theorem sm (ns:List Int):decide ((L2.dR ns:Int)<(ns.length:Int))= !decide ns.Nodup:=by
 have e:L2.dR ns=(ns.foldl K2 []).length:=by
  unfold L2.dR Nk
  rw[tU]
 obtain⟨h1,h2⟩:=qK ns [] NM
 rw[IF,Lx]at h1 h2
 rw[LN]at h2
 rw[e]
 by_cases h:ns.Nodup
 ·have:=h2.mpr h
  simp[h,this]
 ·have:(ns.foldl K2 []).length≠ns.length:=λz=>h (h2.mp z)
  simp[h]
  omega
def eR (a b:Gv):Gv:=if a="" then b else a
def h_ (b:Bool) (w:Gv):Gv:=if b=true then w else ""
def CV (r:R D) (w:Gv):Prop:=(w≠""->∃ρ,r= .err w ρ)/\(w=""->r= .ok .non)
def oP (g:a9->R a_) (ρ:a9) (w:Gv) (r:R a_):Prop:=(w≠""->∃ρe,g ρ= .err w ρe/\cq 1 ρe=cq 1 ρ)/\(w=""->g ρ=r)
def so (r:R (D×List Slot)) (s:Slot) (w:Gv) (a:D) (s':Slot):Prop:=(w≠""->∃ρ,r= .err w ρ/\cq 1 ρ=some [s])/\(w=""->r= .ok (a,[s']))
theorem js {m:List D->R D} {k:Nat} {fs:a9->R (List D)} {ρ:a9} {ds:List D} {g':a9->R a_} {w w':Gv} {r:R a_} (h:fs ρ= .ok ds) (hl:ds.length=k) (hr:CV (m ds) w) (h2:oP g' ρ w' r):oP (aA (gw (aO m k fs)) g') ρ (eR w w') r:=by
 by_cases e:w=""
 ·have:aA (gw (aO m k fs)) g' ρ=g' ρ:=aE (Am (c4 h hl (hr.2 e)))
  unfold eR oP
  rw[if_pos e,this];exact h2
 ·unfold eR
  rw[if_neg e]
  obtain⟨ρe,e1⟩:=hr.1 e
  exact⟨λ_=>⟨ρ,kR (sh (si h hl e1)),rfl⟩,λz=>absurd z e⟩
theorem je {t:a9->R Bool} {ρ:a9} {b:Bool} {x s w':Gv} {g':a9->R a_} {r:R a_} (h:t ρ= .ok b) (h2:oP g' ρ w' r) (hx:x≠"":=by decide):oP (aA (dr t (bL x (a7 (fC (.str s)) ag)) aQ) g') ρ (eR (h_ b x) w') r:=by
 cases b with
 |true=>
  have:eR (h_ true x) w'=x:=by unfold eR h_;rw[if_pos rfl,if_neg hx]
  rw[this]
  exact⟨λ_=>⟨ρ,kR (by rw[tP h];exact oj),rfl⟩,λz=>absurd z hx⟩
 |false=>
  have:eR (h_ false x) w'=w':=rfl
  have e:aA (dr t (bL x (a7 (fC (.str s)) ag)) aQ) g' ρ=g' ρ:=aE (by rw[kS h];rfl)
  unfold oP
  rw[this,e];exact h2
theorem tV {g g':a9->R a_} {ρ ρ':a9} {w:Gv} {r:R a_} (h:g ρ= .ok (.nx ρ')) (ht:cq 1 ρ'=cq 1 ρ) (h2:oP g' ρ' w r):oP (aA g g') ρ w r:=by
 unfold oP
 rw[aE h,<-ht];exact h2
theorem v5 {g:a9->R a_} {ρ ρ':a9} {w:Gv} {f:a9->R D} {d:D} (h:oP g ρ w (.ok (.nx ρ'))) (hf:f ρ'= .ok d):oP (aA g (nW f)) ρ w (.ok (.retc d ρ')):=
 ⟨λz=>by obtain⟨ρe,e,t⟩:=h.1 z;exact⟨ρe,kR e,t⟩,λz=>by rw[aE (h.2 z)];exact An hf⟩
theorem v6 {g g':a9->R a_} {ρ ρ':a9} {w:Gv} {r:R a_} {L:List Nat} (hf:frz L ρ=ρ') (ht:cq 1 ρ'=cq 1 ρ) (h:oP (aA g g') ρ' w r):oP (aA (gT L g) g') ρ w r:=by
 have:aA (gT L g) g' ρ=aA g g' ρ':=by unfold aA gT;rw[hf]
 unfold oP
 rw[this,<-ht];exact h
theorem Ap {g:a9->R a_} {k n:Nat} {s s':Slot} {ds:List D} {w:Gv} {ρ':a9} (hl:ds.length=k) (h:oP g (eo n [s] ds) w (.ok (.nx ρ'))) (ht:cq 1 ρ'=some [s']):so (j3 1 k n g [s] ds) s w .non s':=
 ⟨λz=>by obtain⟨ρe,e,t⟩:=h.1 z;exact⟨ρe,ol ⟨rfl,hl⟩ e,t⟩,λz=>v3 ⟨rfl,hl⟩ (h.2 z) ht⟩
theorem pM {g:a9->R a_} {k n:Nat} {s s':Slot} {ds:List D} {w:Gv} {ρ':a9} {d:D} (hl:ds.length=k) (h:oP g (eo n [s] ds) w (.ok (.retc d ρ'))) (ht:cq 1 ρ'=some [s']):so (j3 1 k n g [s] ds) s w d s':=
 ⟨λz=>by obtain⟨ρe,e,t⟩:=h.1 z;exact⟨ρe,ol ⟨rfl,hl⟩ e,t⟩,λz=>lL ⟨rfl,hl⟩ (h.2 z) ht⟩
theorem kT {t:a9->R Bool} {ρ:a9} {b:Bool} {x s:Gv} (h:t ρ= .ok b) (hx:x≠"":=by decide):oP (dr t (bL x (a7 (fC (.str s)) ag)) aQ) ρ (h_ b x) (.ok (.nx ρ)):=by
 cases b with
 |true=>exact⟨λ_=>⟨ρ,by rw[tP h];exact oj,rfl⟩,λz=>absurd z hx⟩
 |false=>exact⟨λz=>absurd rfl z,λ_=>by rw[kS h];rfl⟩
theorem qL {g:a9->R a_} {k n:Nat} {ds:List D} {w:Gv} {ρ':a9} (hl:ds.length=k) (h:oP g (cj n ds) w (.ok (.nx ρ'))):CV (bd k n g ds) w:=
 ⟨λz=>by obtain⟨ρe,e,_⟩:=h.1 z;exact⟨ρe,yt hl e⟩,λz=>Cw hl (h.2 z)⟩
theorem CW {α:Type} (l:List α) (p:α->Bool):qC [.lst ((l.filter λ_=>true).map λx=>D.bl (p x))]=some (.bl (l.any p)):=by
 rw[j_]
 show (fU (l.map λx=>D.bl (p x))).map (λbs=>D.bl (bs.any id))=_
 rw[show l.map (λx=>D.bl (p x))=(l.map p).map .bl by rw[Ia];rfl,w8]
 show some (D.bl ((l.map p).any id))=_
 rw[List.any_map];rfl
theorem wx {α:Type} {N:List Gv} {names:List (Gv×HD)} {fi:a9->R (List D)} {fe:a9->R D} {ρ rest:a9} {enc:α->D} {l:List α} {p:α->Bool} (h:fi ρ= .ok (l.map enc)) (hl:l.length<=1000) (hr:fK N names ρ=none::none::rest) (he:∀x∈l,fe (none::some (.val (enc x))::rest)= .ok (.bl (p x))):
  fA (bZ qC (a7 (fL (bN N names fi (gN 1) gj fe)) ag)) ρ= .ok (l.any p):=
 oi (b8 (aa (tH (jl h (by rw[GA];unfold lim;omega) hr (om (p:=λ_=>true) (out:=λx=> .bl (p x)) l none (λr _=>rfl) (λr Tb _=>he r Tb)))) rfl) (CW l p))
def El (n a:Int):Bool:=decide (a<0)||decide (a>n)
def EO (n a b:Int):Gv:=eR (h_ ([a,b].any (El n)) "UnknownPlace") (h_ (decide (a=b)) "SamePlace")
theorem tW (n a b:Int):CV (cM [.int n, .tup [.int a, .int b]]) (EO n a b):=by
 refine qL rfl (je (ρ:=[some (.val (.int n)),some (.val (.tup [.int a, .int b]))]) (wx (enc:= .int) (l:=[a,b]) rfl (by simp) (rest:=[none,some (.val (.int n))]) rfl λr _=> ?_) (kT (c8 (az (az rfl rfl FI) (az rfl rfl G6) rD))))
 unfold zS
 rw[az (a:= .int r) (b:= .int 0) rfl rfl lX,al]
 by_cases h:r<0
 ·simp only[h,decide_true,El,MW]
 ·simp only[h,decide_false,El,Mx]
  exact az (a:= .int r) (b:= .int n) rfl rfl ky
def yv (nu ns:List Int):Gv:=eR (h_ (ns.any λx=> !decide (x∈nu)) "UnknownStream") (h_ (!decide ns.Nodup) "Twice")
section
variable {n:Int} {m:Mo} {hs:List D}
theorem Em {N:List Gv} {names:List (Gv×HD)} {fi:a9->R (List D)} {ρ rest:a9} (g:m.Ok) (h:fi ρ= .ok (m.ss.map oh)) (hr:fK N names ρ=none::none::rest):bN N names fi (gN 1) gj (f2 bq (ae 1) (fC (.int 0))) ρ= .ok (m.nu.map .int):=by
 rw[jl h (by have:=g.len;rw[GA];unfold lim;omega) hr (om (p:=λ_=>true) (out:=λr=> .int r.1) m.ss none (λr _=>rfl) (λr _ _=>az rfl rfl Ao)),j_,Ia];rfl
theorem own_of {i:Nat} {f:a9->R (List D)} {ρ:a9} {ds:List D} (h:f ρ= .ok ds):lj i f ρ= .ok (.nx (ρ.set i (some (.own (.lst ds))))):=by unfold lj;rw[h,al]
theorem mv (g:m.Ok) {d:D} {ns:List Int} (h:eD d ns) (hl:ns.length<=100):CV (bx [bF n m,d]) (yv m.nu ns):=by
 refine qL rfl (tV (ρ:=[some (.val (bF n m)),some (.val d),none]) (ρ':=[some (.val (bF n m)),some (.val d),some (.own (.lst (m.nu.map .int)))]) (own_of (Em g (CU (eP n m)) rfl)) rfl (je (wx (enc:= .int) (l:=ns) (h.seq rfl) (by omega) (rest:=[some (.bor (.lst (m.nu.map .int)))]) rfl λr _=>az (a:= .int r) (b:= .lst (m.nu.map .int)) rfl rfl gW) (kT (c8 (az (a:= .int (L2.dR ns)) (h.set (by omega) rfl) (b8 (aa rfl rfl) h.len) ?_)))))
 rw[lX,sm]
def CY (ms ns:List Int):Gv:=h_ (ns.any λx=> !decide (x∈ms)) "NotMetered"
theorem oQ {d:D} {ns:List Int} (h:eD d ns) (hl:ns.length<=100):CV (bU [bF n m,d]) (CY m.ms ns):=
 qL rfl (kT (ρ:=[some (.val (bF n m)),some (.val d)]) (wx (enc:= .int) (l:=ns) (h.seq rfl) (by omega) (rest:=[some (.val (bF n m))]) rfl λr _=>az (a:= .int r) (b:= .tup (m.ms.map .int)) rfl (fc (fds:=qU n m) rfl (eQ n m)) rF))
def yw (i:Int):Bool:=decide (i< -1000)||decide (i>1000)
def En (ns:List Int):Gv:=h_ (ns.any yw) "OutOfRange"
theorem my {d:D} {ns:List Int} (h:eD d ns) (hl:ns.length<=100):CV (bQ [d]) (En ns):=
 qL rfl (kT (ρ:=[some (.val d)]) (wx (enc:= .int) (l:=ns) (h.seq rfl) (by omega) (rest:=[none,none]) rfl λr _=>(az (a:= .int (if r<0 then -r else r)) (b:= .int 1000) rfl rfl ky).trans (by
  unfold yw
  congr 2
  rw[<-Bool.decide_or]
  refine decide_eq_decide.mpr ?_
  split<;>omega)))
def lO (hs:List D):Gv:=h_ (decide ((60:Int)<=(hs.length:Int))) "TooManyDeeds"
theorem wy {now deed after:D}:so (aP [aJ n now hs] [deed,after]) (aJ n now hs) (lO hs) .non (aJ n after (hs++[.tup [deed,now]])):=by
 by_cases Uq:(60:Int)<=(hs.length:Int)
 ·have e1:fT (f2 Cg (bZ bP (a7 (nV 0 "Cellar" "history") (ag))) (fC (.int 60))) [some (aJ n now hs),some (.val deed),some (.val after)]= .ok true:=c8 (az (b8 (aa (v1 rfl) rfl) fO) rfl (by rw[rC,decide_eq_true Uq]))
  have w:lO hs="TooManyDeeds":=by unfold lO h_;rw[decide_eq_true Uq,if_pos rfl]
  rw[w]
  exact⟨λ_=>⟨_,ol ⟨rfl,rfl⟩ (ρ:=[some (aJ n now hs),some (.val deed),some (.val after)]) (kR (by rw[show eo 2 [aJ n now hs] [deed,after]=[some (aJ n now hs),some (.val deed),some (.val after)]from rfl,tP e1];exact oj)),rfl⟩,λz=>absurd z (by decide)⟩
 ·have e1:fT (f2 Cg (bZ bP (a7 (nV 0 "Cellar" "history") (ag))) (fC (.int 60))) [some (aJ n now hs),some (.val deed),some (.val after)]= .ok false:=c8 (az (b8 (aa (v1 rfl) rfl) fO) rfl (by rw[rC,decide_eq_false Uq]))
  have w:lO hs="":=by unfold lO h_;rw[decide_eq_false Uq];rfl
  rw[w]
  refine⟨λz=>absurd rfl z,λ_=>v3 ⟨rfl,rfl⟩ (ρ:=[some (aJ n after (hs++[.tup [deed,now]])),some (.val deed),some (.val after)]) ?_ rfl⟩
  show dH [some (aJ n now hs),some (.val deed),some (.val after)]=_
  unfold dH
  rw[aE (by rw[kS e1];rfl)]
  have e2:mQ 0 "Cellar" "history" (eE (a7 (aw 1) (a7 (cr 0 "Cellar" "now") (ag)))) [some (aJ n now hs),some (.val deed),some (.val after)]= .ok (.nx [some (aJ n now (hs++[.tup [deed,now]])),some (.val deed),some (.val after)]):=by
   have hf:eE (a7 (aw 1) (a7 (cr 0 "Cellar" "now") (ag))) [some (aJ n now hs),some (.val deed),some (.val after)]= .ok (.tup [deed,now]):=gM (aa rfl (aa (mU (n:=n) (now:=now) (hs:=hs) rfl (qI n now)) rfl)) (show 2<=lim by decide)
   show (if ("Cellar":Gv)="Cellar"/\("history":Gv)="history" then (eE (a7 (aw 1) (a7 (cr 0 "Cellar" "now") (ag))) [some (aJ n now hs),some (.val deed),some (.val after)]>>=λd=>if hs.length<lim then R.ok (a_.nx ([some (aJ n now hs),some (.val deed),some (.val after)].set 0 (some (.cel "Cellar" (kQ n now) "history" (hs++[d])))))else .bad)else .bad)=_
   rw[if_pos ⟨rfl,rfl⟩,hf,al,if_pos (by unfold lim;omega)]
   rfl
  rw[aE e2]
  show ((aw 2:a9->R D) [some (aJ n now (hs++[.tup [deed,now]])),some (.val deed),some (.val after)]>>=λd=>if ("Cellar":Gv)="Cellar"/\((kQ n now).lookup ("now":Gv)).isSome=true/\(kQ n now).length<900 then R.ok (a_.nx ([some (aJ n now (hs++[.tup [deed,now]])),some (.val deed),some (.val after)].set 0 (some (.cel "Cellar" (ye "now" d (kQ n now)) "history" (hs++[.tup [deed,now]])))))else .bad)=_
  rw[show (aw 2:a9->R D) [some (aJ n now (hs++[.tup [deed,now]])),some (.val deed),some (.val after)]= .ok after from rfl,al,if_pos ⟨rfl,by rw[qI];rfl,show 2<900 by decide⟩,Al]
  rfl
theorem oo {now deed after:D} {fs:a9->R (List D)} {rest:a9} (h:fs (some (aJ n now hs)::rest)= .ok [deed,after]):oP (gI (kI 0 "Cellar" "keep_deed" (iF [0] aP 2 fs))) (some (aJ n now hs)::rest) (lO hs) (.ok (.nx (some (aJ n after (hs++[.tup [deed,now]]))::rest))):=by
 have k:=wy (n:=n) (hs:=hs) (now:=now) (deed:=deed) (after:=after)
 refine⟨λz=> ?_,λz=>sj (by rw[lK (n:=n) (now:=now) (hs:=hs) rfl];exact lJ (k:=2) (n:=n) (now:=now) (hs:=hs) rfl h rfl (k.2 z))⟩
 obtain⟨ρe,e,t⟩:=k.1 z
 exact⟨_,wv (by rw[lK (n:=n) (now:=now) (hs:=hs) rfl];exact v2 (k:=2) (n:=n) (now:=now) (hs:=hs) rfl h rfl e t rfl),rfl⟩
theorem tY {rest:a9}:cr 0 "Cellar" "now" (some (aJ n (bF n m) hs)::rest)= .ok (bF n m):=mU (n:=n) (now:=bF n m) (hs:=hs) rfl (qI n _)
theorem yx {now:D} {rest:a9}:cr 0 "Cellar" "tanks" (some (aJ n now hs)::rest)= .ok (.int n):=mU (n:=n) (now:=now) (hs:=hs) rfl (yq n _)
theorem Eo {rest:a9} {g:Gv} {d:D} (h:(qU n m).lookup g=some d):c_ "Standing" g (cr 0 "Cellar" "now") (some (aJ n (bF n m) hs)::rest)= .ok d:=fc tY h
def qM (a b:Int):D:= .tup [.str "stream comes", .int a, .int b]
def qN (n:Int) (m:Mo) (hs:List D) (a b:Int):Gv:=eR (EO n a b) (eR (h_ (decide ((12:Int)<=(m.ss.length:Int))) "TooManyStreams") (lO hs))
theorem tZ (g:m.Ok) (a b:Int):so (bu [aJ n (bF n m) hs] [.int a, .int b]) (aJ n (bF n m) hs) (qN n m hs a b) (.int (m.c+1)) (aJ n (bF n (m.comes a b)) (hs++[.tup [qM a b,bF n m]])):=
 pM rfl (js (ρ:=[some (aJ n (bF n m) hs),some (.val (.int a)),some (.val (.int b))]) (ds:=[.int n, .tup [.int a, .int b]]) (aa yx (aa (gM (ds:=[.int a, .int b]) rfl (show 2<=lim by decide)) rfl)) rfl (tW n a b)
  (je (c8 (az (b8 (aa (Eo (eP n m)) rfl) iZ) rfl (by rw[rC,GA])))
  (v5 (oo (aa (gM (ds:=[.str "stream comes", .int a, .int b]) rfl (show 3<=lim by decide)) (aa (ix (n:=3) (fds:=qU n m) (ds:=[.int a, .int b]) tY rfl rfl (lM g a b) rfl) rfl)))
   (fc (mU (n:=n) (now:=bF n (m.comes a b)) (hs:=hs++[.tup [qM a b,bF n m]]) rfl (qI n _)) (mV n (m.comes a b)))))) rfl
def Ep (a:Int):D:= .tup [.str "stream goes", .int a]
def Es (m:Mo) (hs:List D) (a:Int):Gv:=eR (yv m.nu [a]) (lO hs)
def t_ (ns:List Int):D:= .tup [.str "meters come", .tup (ns.map .int)]
def qO (m:Mo) (hs:List D) (ns:List Int):Gv:=eR (yv m.nu ns) (eR (h_ (ns.any λx=>decide (x∈m.ms)) "AlreadyMetered") (eR (h_ (decide ((m.ms.length:Int)+(ns.length:Int)>10)) "TooManyMeters") (lO hs)))
def iJ (n:Int) (now:D) (hs:List D):List (Gv×D):=kQ n now++[(("history":Gv),D.lst hs)]
theorem ua (g:m.Ok) {d:D} {ns:List Int} (h:eD d ns) (hl:ns.length<=100):so (bB [aJ n (bF n m) hs] [d]) (aJ n (bF n m) hs) (qO m hs ns) .non (aJ n (bF n (m.mcome ns)) (hs++[.tup [t_ ns,bF n m]])):=
 Ap rfl (js (ρ:=[some (aJ n (bF n m) hs),some (.val d)]) (ds:=[bF n m,d]) (aa tY rfl) rfl (mv g h hl)
  (je (b:=ns.any λx=>decide (x∈m.ms)) (wx (ρ:=[some (.val (.ins "Cellar" (iJ n (bF n m) hs))),some (.val d)]) (enc:= .int) (l:=ns) (h.seq rfl) (by omega) (rest:=[some (.val (.ins "Cellar" (iJ n (bF n m) hs)))]) rfl λr _=>az (a:= .int r) (b:= .tup (m.ms.map .int)) rfl (fc (fds:=qU n m) (fc (fds:=iJ n (bF n m) hs) rfl rfl) (eQ n m)) E7)
  (je (c8 (az (az (b8 (aa (Eo (eQ n m)) rfl) iZ) (b8 (aa rfl rfl) h.len) fN) rfl (by rw[ky,GA])))
  (oo (aa (gM (ds:=[.str "meters come", .tup (ns.map .int)]) (aa rfl (aa (b8 (aa rfl rfl) h.tup) rfl)) (show 2<=lim by decide)) (aa (ix (n:=2) (fds:=qU n m) (ds:=[d]) tY rfl rfl (lN g h hl) rfl) rfl)))))) rfl
def FJ (ns:List Int):D:= .tup [.str "meters go", .tup (ns.map .int)]
def FK (m:Mo) (hs:List D) (ns:List Int):Gv:=eR (yv m.nu ns) (eR (CY m.ms ns) (lO hs))
end
theorem oq {α:Type} {f:α->D} {k:α->Int} (hk:∀a,oI (f a)=some (k a)):∀l:List α,d8 (l.map f)=some (l.map k)
 |[]=>rfl
 |a::l=>by
  rw[GL,d8,hk,oq hk l];rfl
theorem wz {α:Type} {f:α->D} {k:α->Int} (hk:∀a,oI (f a)=some (k a)) {l:List α} (h:l≠[]):bw (l.map f)=none:=by
 cases l with
 |nil=>exact absurd rfl h
 |cons a l=>
  have:=hk a
  rw[GL]
  cases e:f a<;>rw[e]at this<;>first|rfl|cases this
theorem qP {α:Type} {f:α->D} {k:α->Int} (hk:∀a,oI (f a)=some (k a)) {l m:List α} (p:l.Perm m) (inc:m.Pairwise λa b=>k a<k b) (hl:m.length<64) {d:D} (hd:d= .lst (l.map f)\/d= .tup (l.map f)):eg [d]=some (.lst (m.map f)):=by
 by_cases h0:l=[]
 ·subst h0
  have:m=[]:=(Nm p).symm
  subst this
  rcases hd with rfl|rfl<;>rfl
 ·have hn:(l.map k).Nodup:=(p.map k).nodup_iff.mpr (IM.mpr (inc.imp λh=>Int.ne_of_lt h))
  have hs:jG (l.map f)=m.map f:=rN (p.map f) (by
   rw[IM]
   refine inc.imp λ{a b} h=> ?_
   show (oI (f a)).getD 0<(oI (f b)).getD 0
   rw[hk,hk];exact h)
  have R9:(l.map k).length<64:=by rw[GA,p.length_eq];exact hl
  have hr:=oq hk l
  have ha:=wz hk h0
  rcases hd with rfl|rfl
  ·have:fP [.lst (l.map f)]=none:=by simp[fP,qm,ha]
   simp only[eg,this,kE,hr,Lu,hn,R9,and_self,if_true,hs]
  ·have:fP [.tup (l.map f)]=none:=by simp[fP,qm,ha]
   simp only[eg,this,kE,hr,Lu,hn,R9,and_self,if_true,hs]
theorem yy {m:List D->R D} {k:Nat} {fs:a9->R (List D)} {ρ:a9} {ds:List D} {g':a9->R a_} {w w':Gv} {r:R a_} (h:fs ρ= .ok ds) (hl:ds.length=k) (hr:CV (m ds) w) (h2:w=""->oP g' ρ w' r):oP (aA (gw (aO m k fs)) g') ρ (eR w w') r:=by
 by_cases e:w=""
 ·exact js h hl hr (h2 e)
 ·unfold eR
  rw[if_neg e]
  obtain⟨ρe,e1⟩:=hr.1 e
  exact⟨λ_=>⟨ρ,kR (sh (si h hl e1)),rfl⟩,λz=>absurd z e⟩
theorem yz {f:a9->R D} {ρ:a9} {d:D} {L:List Nat} {x:Gv} (hc:L.all (uS x ρ)=true) (h:f (kK L ρ)= .ok d) (cl:gZ x d):nZ x L f ρ= .ok d:=by
 unfold nZ
 rw[if_pos hc,h,al,if_pos cl]
def ub (d:D) (rd:List Rd):Prop:=d= .lst (rd.map fz)\/d= .tup (rd.map fz)
theorem ub.seq {d:D} {rd:List Rd} (h:ub d rd) {ρ:a9} {f:a9->R D} (e:f ρ= .ok d):dD f ρ= .ok (rd.map fz):=by
 unfold dD
 rw[e]
 rcases h with rfl|rfl<;>rfl
theorem ub.tup {d:D} {rd:List Rd} (h:ub d rd):ee [d]=some (.tup (rd.map fz)):=by rcases h with rfl|rfl<;>rfl
theorem qQ {r:Rd}:bq (fz r) (.int 0)=some (.int r.1):=FI
theorem uc {r:Rd}:bq (fz r) (.int 1)=some (.int r.2):=G6
theorem ou {α:Type} {N:List Gv} {names:List (Gv×HD)} {fi:a9->R (List D)} {fe:a9->R D} {ρ rest:a9} {enc out:α->D} {l:List α} (h:fi ρ= .ok (l.map enc)) (hl:l.length<=1000) (hr:fK N names ρ=none::none::rest) (he:∀x∈l,fe (none::some (.val (enc x))::rest)= .ok (out x)):
  bN N names fi (gN 1) gj fe ρ= .ok (l.map out):=by
 rw[jl h (by rw[GA];unfold lim;omega) hr (om (p:=λ_=>true) (out:=out) l none (λr _=>rfl) (λr Tb _=>he r Tb)),j_]
theorem oy {nu ns:List Int} (h:yv nu ns=""):ns.Nodup/\∀x∈ns,x∈nu:=by
 unfold yv eR h_ at h
 by_cases a:(ns.any λx=> !decide (x∈nu))=true
 ·rw[if_pos a,if_neg (by decide)]at h;exact absurd h (by decide)
 ·rw[if_neg a,if_pos rfl]at h
  by_cases b:ns.Nodup
  ·refine⟨b,λx hx=> ?_⟩
   by_cases c:x∈nu
   ·exact c
   ·exact absurd (HU.mpr ⟨x,hx,by simp[c]⟩) a
  ·rw[decide_eq_false b]at h;exact absurd h (by decide)
section
variable {n:Int} {m:Mo} {hs:List D}
theorem f_:aH [.ins "Cellar" (iJ n (bF n m) hs)]= .ok (.int (m.ds.length:Int)):=
 cX rfl (lp (b8 (aa (fc (fds:=qU n m) (fc (fds:=iJ n (bF n m) hs) rfl rfl) (fI n m)) rfl) (by rw[iZ,GA])))
theorem qR (g:m.Ok) {d1 d2:D} {ri:List Int} {rd:List Rd} (h1:eD d1 ri) (h2:ub d2 rd) (nd:(rd.map (·.1)).Nodup) (hl:rd.length<=60):eL [.int n, .tup (m.ss.map oh),d1,d2]= .ok (yu n ⟨m.ss,ri,sk rd⟩):=by
 have e1:=qP (f:=oh) (k:=(·.1)) (λa=>rfl) (Jt m.ss) g.inc (by have:=g.len;omega) (.inr rfl)
 have e3:=qP (f:=fz) (k:=(·.1)) (λa=>rfl) (hX rd) (v4 nd) (by have:=(hX rd).length_eq;omega) h2
 have e2:=h1.tup
 simp! [eL,jm,gH,cj,o3,kB,e1,e2,e3,GL,Jb,Hs,List.cons_append,Nat.reduceSub,vS,ma,L2.Pu.cK,IG,yu]
def v7 (ri:List Int) (rd:List Rd):D:= .tup [.str "day passes", .tup (ri.map .int), .tup (rd.map fz)]
def pN (n:Int) (m:Mo) (hs:List D) (ri:List Int) (rd:List Rd):Gv:=eR (h_ (!decide ((ri.length:Int)=n)) "WrongRises") (eR (yv m.nu (rd.map (·.1))) (eR (CY m.ms (rd.map (·.1))) (eR (h_ (m.ms.any λx=> !decide (x∈rd.map (·.1))) "ReadingMissing") (eR (En ri) (eR (En (rd.map (·.2))) (eR (h_ (decide ((12:Int)<=(m.ds.length:Int))) "TooManyDays") (lO hs)))))))
theorem wA (g:m.Ok) {d1 d2:D} {ri:List Int} {rd:List Rd} (h1:eD d1 ri) (h2:ub d2 rd) (l1:ri.length<=100) (l2:rd.length<=60):so (aR [aJ n (bF n m) hs] [d1,d2]) (aJ n (bF n m) hs) (pN n m hs ri rd) (.int ((m.ds.length:Int)+1)) (aJ n (bF n (m.passes ri rd)) (hs++[.tup [v7 ri rd,bF n m]])):=by
 let ks:=rd.map (·.1)
 have hk:∀{x:Option Slot} {N:List Gv} {names:List (Gv×HD)} {ρ:a9},ρ[2]? =some (some (.val d2))->fK N names ρ=[none,none]->bN N names (dD (aw 2)) (gN 1) gj (f2 bq (ae 1) (fC (.int 0))) ρ= .ok (ks.map .int):=λ{x N names ρ} e hr=>by
  rw[ou (rest:=[]) (h2.seq (by unfold aw;rw[e])) (by omega) hr (out:=λr=> .int r.1) λr _=>az rfl rfl qQ,Ia];rfl
 have hv:∀{N:List Gv} {names:List (Gv×HD)} {ρ:a9},ρ[2]? =some (some (.val d2))->fK N names ρ=[none,none]->bN N names (dD (aw 2)) (gN 1) gj (f2 bq (ae 1) (fC (.int 1))) ρ= .ok ((rd.map (·.2)).map .int):=λ{N names ρ} e hr=>by
  rw[ou (rest:=[]) (h2.seq (by unfold aw;rw[e])) (by omega) hr (out:=λr=> .int r.2) λr _=>az rfl rfl uc,Ia];rfl
 have lk:ks.length<=100:=by simp only[ks,GA];omega
 let R (x y:Option Slot):a9:=[some (aJ n (bF n m) hs),some (.val d1),some (.val d2),x,y]
 refine pM rfl (je (ρ:=R none none) (c8 (az (b8 (aa rfl rfl) h1.len) yx uL)) (tV (ρ':=R (some (.own (.lst (ks.map .int)))) none) (own_of (hk (x:=none) rfl rfl)) rfl (v6 (ρ':=R (some (.val (.lst (ks.map .int)))) none) rfl rfl
  (yy (ds:=[bF n m, .lst (ks.map .int)]) (aa tY rfl) rfl (mv g (.inl rfl) lk) λhw=>v6 (ρ':=R (some (.val (.lst (ks.map .int)))) none) rfl rfl
  (js (ds:=[bF n m, .lst (ks.map .int)]) (aa tY rfl) rfl (oQ (.inl rfl) lk)
  (je (wx (enc:= .int) (l:=m.ms) (by unfold dD;rw[Eo (eQ n m)];rfl) (by have:=g.ten;omega) (rest:=[some (.val (.lst (ks.map .int)))]) rfl λr _=>az (a:= .int r) (b:= .lst (ks.map .int)) rfl rfl gW)
  (js (ds:=[d1]) rfl rfl (my h1 l1)
  (js (ds:=[.lst ((rd.map (·.2)).map .int)]) (aa (tH (hv rfl rfl)) rfl) rfl (my (.inl rfl) (by rw[GA];omega))
  (je (c8 (az (b8 (aa (Eo (fI n m)) rfl) iZ) rfl (by rw[rC,GA])))
  (tV (ρ':=R (some (.val (.lst (ks.map .int)))) (some (.val (oN n ⟨m.ss,ri,sk rd⟩)))) (dh (d:=oN n ⟨m.ss,ri,sk rd⟩) ?_ rfl) rfl
  (v5 (oo (aa (gM (ds:=[.str "day passes", .tup (ri.map .int), .tup (rd.map fz)]) (aa rfl (aa (b8 (aa rfl rfl) h1.tup) (aa (b8 (aa rfl rfl) h2.tup) rfl))) (show 3<=lim by decide)) (aa (ix (n:=2) (fds:=qU n m) (ds:=[oN n ⟨m.ss,ri,sk rd⟩]) tY rfl rfl (oO g ri rd) rfl) rfl)))
   (yz rfl ((ix (n:=1) (fds:=iJ n (bF n (m.passes ri rd)) (hs++[.tup [v7 ri rd,bF n m]])) (ds:=[]) rfl rfl rfl f_ rfl).trans ?_) (.int _))))))))))))) rfl
 ·unfold kC
  rw[aa (ds:=[.tup (m.ss.map oh),d1,d2]) yx (aa (Eo (eP n m)) rfl),al,if_pos (show [D.int n, .tup (m.ss.map oh),d1,d2].length=4 from rfl),qR g h1 h2 (oy hw).1 l2]
  rfl
 ·simp only[Mo.passes,Hn,GX,IF]
  rfl
theorem yA {k:Nat} (h:k<m.ds.length):cF [.ins "Cellar" (iJ n (bF n m) hs), .int ((k:Int)+1)]= .ok (oN n m.ds[k]):=by
 refine cX rfl ?_
 show ip [some (.val (.ins "Cellar" (iJ n (bF n m) hs))),some (.val (.int ((k:Int)+1)))]=_
 unfold ip
 have t1:fT (f2 xE (ae 1) (fC (.int 1))) [some (.val (.ins "Cellar" (iJ n (bF n m) hs))),some (.val (.int ((k:Int)+1)))]= .ok false:=c8 (az (a:= .int ((k:Int)+1)) (b:= .int 1) rfl rfl (by rw[lX,decide_eq_false (by omega)]))
 have t2:fT (f2 wJ (ae 1) (eX "Cellar" "days_gone" 1 aH (aw 0) ag)) [some (.val (.ins "Cellar" (iJ n (bF n m) hs))),some (.val (.int ((k:Int)+1)))]= .ok false:=c8 (az (a:= .int ((k:Int)+1)) rfl (ix (n:=1) (fds:=iJ n (bF n m) hs) (ds:=[]) rfl rfl rfl f_ rfl) (by rw[ky,decide_eq_false (by omega)]))
 rw[aE (by rw[kS (by unfold uG;rw[t1,al,if_neg (by simp),t2])];rfl)]
 refine lp (az (fc (fds:=qU n m) (fc (fds:=iJ n (bF n m) hs) rfl rfl) (fI n m)) (az (a:= .int ((k:Int)+1)) (b:= .int 1) rfl rfl qq) ?_)
 rw[rE,show (k:Int)+1 - 1=(k:Int) by omega,f7 (by simpa using h)]
 simp
end
section
variable {n:Int} {m:Mo} {hs:List D}
def Aq (g:a9->R a_) (ρ:a9) (w:Gv):Prop:=g ρ= .ok (.ret (.str w))
theorem lP {t:a9->R Bool} {ρ:a9} {b:Bool} {x w':Gv} {g':a9->R a_} (h:t ρ= .ok b) (h2:Aq g' ρ w') (hx:x≠"":=by decide):Aq (aA (dr t (cn (fC (.str x))) aQ) g') ρ (eR (h_ b x) w'):=by
 cases b with
 |true=>
  have:eR (h_ true x) w'=x:=by unfold eR h_;rw[if_pos rfl,if_neg hx]
  unfold Aq
  rw[this];exact A2 (by rw[tP h];rfl)
 |false=>exact(aE (by rw[kS h];rfl)).trans h2
theorem Ar {ρ:a9}:Aq (cn (fC (.str ""))) ρ "":=rfl
theorem yB {g g':a9->R a_} {ρ ρ':a9} {w:Gv} (h:g ρ= .ok (.nx ρ')) (h2:Aq g' ρ' w):Aq (aA g g') ρ w:=(aE h).trans h2
theorem yC (w:Gv):eR w ""=w:=by unfold eR;split<;>simp_all
theorem Et (a b c:Gv):eR (eR a b) c=eR a (eR b c):=by
 unfold eR
 by_cases h:a=""
 ·simp[h]
 ·simp[h]
theorem CZ {a b:Bool} {w:Gv} (hw:w≠""):eR (h_ a w) (h_ b w)=h_ (a||b) w:=by
 cases a<;>cases b<;>simp[eR,h_,hw]
theorem sq {α:Type} (p:α->Bool):∀l:List α,(!(l.filter p).isEmpty)=l.any p
 |[]=>rfl
 |a::l=>by
  rw[I0,LC]
  cases q:p a with
  |true=>rfl
  |false=>exact sq p l
theorem neC {α:Type} {N:List Gv} {names:List (Gv×HD)} {fi:a9->R (List D)} {gt:a9->R Bool} {ρ rest:a9} {enc:α->D} {l:List α} {p:α->Bool} (h:fi ρ= .ok (l.map enc)) (hl:l.length<=1000) (hr:fK N names ρ=none::none::rest) (ht:∀x∈l,gt (none::some (.val (enc x))::rest)= .ok (p x)):
  fT (f2 gk (fL (bN N names fi (gN 1) gt (aw 1))) (bE ag)) ρ= .ok (l.any p):=by
 refine c8 (az (tH (jl h (by rw[GA];unfold lim;omega) hr (om (p:=p) (out:=enc) l none (λr Tb=>ht r Tb) (λr _ _=>rfl)))) rfl ?_)
 show some (D.bl (!((l.filter p).map enc).isEmpty))=_
 congr 2
 rw[Np]
 rw[sq]
theorem B5 {x y:Gv}:AZ (.str x) (.str y)=some (.bl (!decide (x=y))):=rfl
theorem As {fo fk:a9->R D} {ρ:a9} {d:D} {ns:List Int} {k:Int} (h:eD d ns) (ho:fo ρ= .ok d) (hk:fk ρ= .ok (.int k)):uW fo fk ρ= .ok (.int (ns.count k)):=by
 unfold uW
 rw[ho,al]
 rcases h with rfl|rfl
 ·dsimp only
  rw[hk,al,fM]
 ·dsimp only
  rw[hk,al,fM]
theorem Au (ns:List Int):(ns.any λx=>decide ((ns.count x:Int)>1))= !decide ns.Nodup:=by
 by_cases h:ns.Nodup
 ·rw[decide_eq_true h,L5,Bool.eq_false_iff]
  intro z
  obtain⟨x,_,hx⟩:=HU.mp z
  have:=Mu.mp h x
  have:=of_decide_eq_true hx
  omega
 ·rw[decide_eq_false h,Mg]
  refine HU.mpr ?_
  by_cases z:∃x∈ns,decide ((ns.count x:Int)>1)=true
  ·exact z
  ·refine absurd (Mu.mpr λa=> ?_) h
   by_cases ha:a∈ns
   ·have:¬((ns.count a:Int)>1):=λq=>z ⟨a,ha,decide_eq_true q⟩
    omega
   ·rw[List.count_eq_zero_of_not_mem ha];omega
end
section
variable {n:Int} {m:Mo} {hs:List D}
theorem qS {g g':a9->R a_} {ρ ρ':a9} {w:Gv} {L:List Nat} (hf:frz L ρ=ρ') (h:Aq (aA g g') ρ' w):Aq (aA (gT L g) g') ρ w:=by
 have:aA (gT L g) g' ρ=aA g g' ρ':=by unfold aA gT;rw[hf]
 unfold Aq
 rw[this];exact h
inductive ka where
 |comes (a b:Int)|goes (a:Int)|mcome (ns:List Int)|mgo (ns:List Int)|pass (ri:List Int) (rd:List Rd)|back
def ka.dt:ka->L2.Pu.D
 | .comes a b=>qM a b
 | .goes a=>Ep a
 | .mcome ns=>t_ ns
 | .mgo ns=>FJ ns
 | .pass ri rd=>v7 ri rd
 | .back=> .tup [.str "take back"]
def ka.W (n:Int) (m:Mo) (hs:List L2.Pu.D):ka->Gv
 | .comes a b=>qN n m hs a b
 | .goes a=>Es m hs a
 | .mcome ns=>qO m hs ns
 | .mgo ns=>FK m hs ns
 | .pass ri rd=>pN n m hs ri rd
 | .back=>h_ (decide (hs.length=0)) "NothingDone"
def ka.next (m:Mo):ka->Mo
 | .comes a b=>m.comes a b
 | .goes a=>m.goes a
 | .mcome ns=>m.mcome ns
 | .mgo ns=>m.mgo ns
 | .pass ri rd=>m.passes ri rd
 | .back=>m
end
theorem cc {a b:Gv} (h:eR a b=""):a=""/\b="":=by
 unfold eR at h
 split at h
 ·exact⟨by assumption,h⟩
 ·exact absurd h (by assumption)
theorem kU {b:Bool} {x:Gv} (h:h_ b x="") (hx:x≠"":=by decide):b=false:=by
 cases b
 ·rfl
 ·exact absurd h hx
section
variable {n:Int} {m:Mo} {hs:List D}
theorem ka.nodup (ri:List Int) (rd:List Rd) (h:(ka.pass ri rd).W n m hs=""):(rd.map (·.1)).Nodup:=(oy (cc (cc h).2).1).1
theorem ka.ok (d:ka) (g:m.Ok) (h:d.W n m hs=""):(d.next m).Ok:=by
 cases d with
 |back=>exact g
 |comes a b=>
  have Yi:m.ss.length<12:=by
   have:=of_decide_eq_false (kU (cc (cc h).2).1)
   omega
  exact⟨List.pairwise_append.mpr ⟨g.inc,by simp,λr hr r' Tb=>by rw[GS.mp Tb];have:=g.le r hr;show r.1<m.c+1;omega⟩,λr hr=>by
    show r.1<=m.c+1
    rcases HP.mp hr with hr|hr
    ·have:=g.le r hr;omega
    ·rw[GS.mp hr];exact Int.le_refl _,by show (m.ss++_).length<=12;rw[Hn,Js];omega,g.per,g.nd,λx hx=>by
    show x∈(m.ss++_).map (·.1)
    rw[HB];exact HE _ (g.sub x hx),g.ten,g.dl⟩
 |goes a=>
  exact⟨g.inc.filter _,λr hr=>g.le r (Ji.mp hr).1,Ht (Kn _ _) g.len,g.per.filter _,g.nd.filter _,λx hx=>by
    obtain⟨h1,h2⟩:=Ji.mp hx
    obtain⟨r,hr,rfl⟩:=IH.mp (g.sub x h1)
    exact IH.mpr ⟨r,Ji.mpr ⟨hr,h2⟩,rfl⟩,Ht (Kn _ _) g.ten,g.dl⟩
 |mcome ns=>
  obtain⟨w1,w2⟩:=cc h
  obtain⟨w3,w4⟩:=cc w2
  obtain⟨nd,sb⟩:=oy w1
  have dj:=kU w3
  have tn:=of_decide_eq_false (kU (cc w4).1)
  exact⟨g.inc,g.le,g.len,(i4 _).trans (g.per.append_right ns),Jr.mpr ⟨g.nd,nd,λx hx y hy e=>by
    subst e
    exact absurd (HU.mpr ⟨x,hy,decide_eq_true hx⟩) (by rw[dj];simp)⟩,λx hx=>by
    rcases HP.mp hx with hx|hx
    ·exact g.sub x hx
    ·exact sb x hx,by show (m.ms++ns).length<=10;rw[Hn];omega,g.dl⟩
 |mgo ns=>exact⟨g.inc,g.le,g.len,g.per.filter _,g.nd.filter _,λx hx=>g.sub x (Ji.mp hx).1,Ht (Kn _ _) g.ten,g.dl⟩
 |pass ri rd=>
  have hd:=of_decide_eq_false (kU (cc (cc (cc (cc (cc (cc (cc h).2).2).2).2).2).2).1)
  exact⟨g.inc,g.le,g.len,g.per,g.nd,g.sub,g.ten,by show (m.ds++_).length<=12;rw[Hn,Js];omega⟩
theorem ka.dd (d:ka) (hb:d≠ .back):(d.next m).dd=m.dd++[d.dt]:=by
 cases d with
 |back=>exact absurd rfl hb
 |_=>rfl
theorem Av {fx:a9->R (D×a9)} {ρ ρ':a9} {d:D} (h:fx ρ= .ok (d,ρ')):m8 fx ρ= .ok (.retc d ρ'):=by unfold m8;rw[h,al]
theorem yD {fx:a9->R (D×a9)} {ρ ρ':a9} {x:Gv} (h:fx ρ= .err x ρ'):m8 fx ρ= .err x ρ':=by unfold m8;rw[h];rfl
theorem Aw {f:a9->R D} {fx:a9->R (D×a9)} {ρ ρ':a9} {d e:D} (h:f ρ= .ok d) (h2:fx ρ= .ok (e,ρ')):j4 f fx ρ= .ok (.lst [d,e],ρ'):=by unfold j4;rw[h,al,h2,al]
theorem yE {f:a9->R D} {fx:a9->R (D×a9)} {ρ ρ':a9} {d:D} {x:Gv} (h:f ρ= .ok d) (h2:fx ρ= .err x ρ'):j4 f fx ρ= .err x ρ':=by unfold j4;rw[h,al,h2];rfl
end
theorem kW (c:Int) (mx:Bool) (k:Nat) (sz:Int) (hs:0<sz/\sz<1073741824) (hk:k<=100):∃xs:List Int,cT [.int c, .bl mx, .int (k:Int), .int sz]= .ok (.lst (xs.map .int))/\xs.length=k/\∀x∈xs,0<=x:=by
 let P (xs:List Int) (r:Int) (y z:Option Slot):a9:=[some (.val (.int c)),some (.val (.bl mx)),some (.val (.int (k:Int))),some (.val (.int sz)),some (.own (.lst (xs.map .int))),some (.val (.int r)),y,z]
 obtain⟨ρ',e,xs,r,y,z,rfl,h1,h2⟩:=u_ (g:=gN 6) (gb:=eu) (n:=k) (fs:=a7 (aw 2) (ag)) (ρ:=P [] c none none) (P:=λj ρ=>∃xs r y z,ρ=P xs r y z/\xs.length=j/\∀x∈xs,0<=x) (aa rfl rfl) (by omega) ⟨[],c,none,none,rfl,rfl,λx hx=>by cases hx⟩ λj hj ρ hρ=>by
  obtain⟨xs,r,y,z,rfl,h1,h2⟩:=hρ
  have hl:(xs.map D.int).length<lim:=by rw[GA];unfold lim;omega
  refine⟨P xs r (some (.val (.int (j:Int)))) z,?_⟩
  have nn:∀{v:Int},∀x∈xs++[v%sz],0<=x:=λ{v} x hx=>by
   rcases HP.mp hx with hx|hx
   ·exact h2 x hx
   ·rw[GS.mp hx];exact JO _ (by omega)
  have ap:∀v:Int,xs.map D.int++[.int v]=(xs++[v]).map .int:=λv=>by simp
  cases mx with
  |true=>exact⟨P (xs++[((c+7919*(j:Int)+1)*48271%2147483647+(j:Int))*69621%2147483647%sz]) r (some (.val (.int (j:Int)))) (some (.val (.int ((c+7919*(j:Int)+1)*48271%2147483647)))),rfl, .inl (by simp! [P,eu,qo (show KC 48271<18446744073709551616 by decide),qo (show KC 69621<18446744073709551616 by decide),qp (show KC 7919<18446744073709551616 by decide),c3 (show (0:Int)<2147483647 by decide),c3 hs.1,hl,ap]),_,_,_,_,rfl,by simp[h1],nn⟩
  |false=>exact⟨P (xs++[r%sz]) (r / sz) (some (.val (.int (j:Int)))) z,rfl, .inl (by simp! [P,eu,c3 hs.1,jk hs,hl,ap]),_,_,_,_,rfl,by simp[h1],nn⟩
 refine⟨xs,cX rfl ?_,h1,h2⟩
 show gL [some (.val (.int c)),some (.val (.bl mx)),some (.val (.int (k:Int))),some (.val (.int sz)),none,none,none,none]=_
 unfold gL
 rw[aE (ρ':=[some (.val (.int c)),some (.val (.bl mx)),some (.val (.int (k:Int))),some (.val (.int sz)),some (.own (.lst [])),none,none,none]) rfl,aE (ρ':=P [] c none none) rfl,aE e]
 rfl
theorem C_ {ds:List D} {k:Int} (h0:0<=k):FE (.lst ds) none (some k)=some (.lst (ds.take k.toNat)):=by
 show some (D.lst (L2.Pu.tD ds none (some k)))=_
 unfold L2.Pu.tD HT.dq
 simp only[if_neg (show ¬k<0 by omega),NK,Nat.sub_zero]
 congr 2
 rw[List.take_eq_take_iff]
 omega
def Ev (f:a9->R D) (ρ:a9) (P:Int->Prop):Prop:=∃i:Int,f ρ= .ok (.int i)/\P i
def Ts (t:a9->R Bool) (ρ:a9):Prop:=∃b,t ρ= .ok b
section
variable {f g:a9->R D} {ρ:a9} {P Q:Int->Prop} {c:Int}
theorem yF {i:Int} (h:f ρ= .ok (.int i)):Ev f ρ (·=i):=⟨i,h,rfl⟩
theorem Ev.imp (h:Ev f ρ P) (h2:∀i,P i->Q i):Ev f ρ Q:=by obtain⟨i,e,p⟩:=h;exact⟨i,e,h2 i p⟩
theorem Ev.any (h:Ev f ρ P):Ev f ρ λ_=>True:=h.imp λ_ _=>trivial
theorem db (h:Ev f ρ P) (hc:0<c:=by decide):Ev (f2 aZ f (fC (.int c))) ρ λj=>0<=j/\j<c:=by
 obtain⟨i,e,_⟩:=h
 exact⟨i%c,az e rfl (c3 hc),JO _ (by omega),JY _ hc⟩
theorem gf (h:Ev f ρ P) {k:Int} (h2:g ρ= .ok (.int k)) (hk:0<k):Ev (f2 aZ f g) ρ λj=>0<=j/\j<k:=by
 obtain⟨i,e,_⟩:=h
 exact⟨i%k,az e h2 (c3 hk),JO _ (by omega),JY _ hk⟩
theorem v8 (h:Ev f ρ P) (h2:Ev g ρ λk=>0<k):Ev (f2 aZ f g) ρ λj=>0<=j:=by
 obtain⟨k,e2,hk⟩:=h2
 exact(gf h e2 hk).imp λ_ h=>h.1
theorem cf (h:Ev f ρ P) (hc:0<c/\c<1073741824:=by decide):Ev (f2 bg f (fC (.int c))) ρ λ_=>True:=by
 obtain⟨i,e,_⟩:=h
 exact⟨i / c,az e rfl (jk hc),trivial⟩
theorem yG (h:Ev f ρ P) (h2:Ev g ρ Q):Ev (f2 bK f g) ρ λ_=>True:=by
 obtain⟨i,e,_⟩:=h;obtain⟨j,e2,_⟩:=h2
 exact⟨i+j,az e e2 fN,trivial⟩
theorem Ax (h:Ev f ρ λj=>0<=j/\j<1000) (h2:Ev g ρ Q):Ev (f2 jR f g) ρ λ_=>True:=by
 obtain⟨i,e,h0,h1⟩:=h;obtain⟨j,e2,_⟩:=h2
 exact⟨i*j,az e e2 (qp (by omega)),trivial⟩
theorem mJ {i:Int}:Ev (fC (.int i)) ρ (·=i):=⟨i,rfl,rfl⟩
theorem oz {xs:List Int} (h:g ρ= .ok (.lst (xs.map .int))) (h2:Ev f ρ λj=>0<=j/\j<(xs.length:Int)):Ev (f2 bq g f) ρ λv=>v∈xs:=by
 obtain⟨j,e,h0,h1⟩:=h2
 obtain⟨k,rfl⟩:=Jg h0
 have hk:k<xs.length:=by omega
 exact⟨xs[k],az h e (by rw[lY,f7 (by rw[GA];exact hk)];simp),JB hk⟩
theorem yH {α:Type} {enc:α->D} {xs:List α} (h:g ρ= .ok (.lst (xs.map enc))) (h2:Ev f ρ λj=>0<=j/\j<(xs.length:Int)):∃x∈xs,f2 bq g f ρ= .ok (enc x):=by
 obtain⟨j,e,h0,h1⟩:=h2
 obtain⟨k,rfl⟩:=Jg h0
 have hk:k<xs.length:=by omega
 exact⟨xs[k],JB hk,az h e (by rw[lY,f7 (by rw[GA];exact hk)];simp)⟩
theorem mW {a b:a9->R D} (h1:Ev a ρ P) (h2:Ev b ρ P) (h:Ev f ρ λj=>0<=j/\j<2):Ev (f2 bq (bE (a7 a (a7 b ag))) f) ρ P:=by
 obtain⟨i,e1,p1⟩:=h1;obtain⟨j,e2,p2⟩:=h2
 have e:bE (a7 a (a7 b ag)) ρ= .ok (.lst ([i,j].map .int)):=by
  unfold bE
  rw[aa e1 (aa e2 rfl),al]
  rfl
 refine(oz e h).imp λv hv=> ?_
 rcases GK.mp hv with rfl|hv
 ·exact p1
 ·rw[GS.mp hv];exact p2
theorem kb {α:Type} {enc:α->D} {xs:List α} (h:f ρ= .ok (.lst (xs.map enc))):bZ bP (a7 f ag) ρ= .ok (.int (xs.length:Int)):=
 b8 (aa h rfl) (by rw[fO,GA])
theorem mX {α:Type} {enc:α->D} {xs:List α} (h:f ρ= .ok (.lst (xs.map enc))):f2 bK (bZ bP (a7 f ag)) (fC (.int 1)) ρ= .ok (.int ((xs.length:Int)+1)):=
 az (kb h) rfl fN
theorem mz (h:Ev f ρ P) (h2:Ev g ρ Q):Ts (fT (f2 kY f g)) ρ:=by
 obtain⟨i,e,_⟩:=h;obtain⟨j,e2,_⟩:=h2
 exact⟨_,c8 (az e e2 rD)⟩
theorem Eu {α:Type} {enc:α->D} {xs:List α} (h:f ρ= .ok (.lst (xs.map enc))):fT (f2 gk f (bE ag)) ρ= .ok (!xs.isEmpty):=
 c8 (az (g:=gk) h (fb:=bE ag) rfl (by show some (D.bl (!(xs.map enc).isEmpty))=_;rw[Np]))
theorem pO {α:Type} {enc:α->D} {xs:List α} {t:a9->R Bool} {g1 g2:a9->R a_} {T:R a_->Prop} (ht:Ts t ρ) (h:f ρ= .ok (.lst (xs.map enc))) (h1:xs≠[]->T (g1 ρ)) (h2:T (g2 ρ)):T (dr (iS t (fT (f2 gk f (bE ag)))) g1 g2 ρ):=by
 obtain⟨b,e⟩:=ht
 have ha:iS t (fT (f2 gk f (bE ag))) ρ= .ok (b&& !xs.isEmpty):=by
  unfold iS
  rw[e,al]
  cases b
  ·rfl
  ·rw[Bool.true_and];exact Eu h
 cases q:(b&& !xs.isEmpty)with
 |false=>rw[q]at ha;rw[kS ha];exact h2
 |true=>
  rw[q]at ha;rw[tP ha]
  refine h1 λz=> ?_
  rw[z]at q;simp at q
theorem yI {t:a9->R Bool} {g1 g2:a9->R a_} {T:R a_->Prop} (ht:Ts t ρ) (h1:T (g1 ρ)) (h2:T (g2 ρ)):T (dr t g1 g2 ρ):=by
 obtain⟨b,e⟩:=ht
 cases b with
 |false=>rw[kS e];exact h2
 |true=>rw[tP e];exact h1
end
section
variable {α:Type} {enc:α->D} {ρ:a9} {i:Nat} {row:List α} {fa fb:a9->R D}
theorem wB (l:List α) (k:Nat) (x:α):j7 (l.map enc) k (enc x)=(j7 l k x).map enc:=by
 simp[j7]
theorem qT (h:ρ[i]? =some (some (.own (.lst (row.map enc))))) (ha:Ev fa ρ λj=>0<=j/\j<(row.length:Int)+1) (hb:∃x,fb ρ= .ok (enc x)) (hl:row.length<=100):
  ∃Qn:List α,Qn.length=row.length+1/\mF i fa fb ρ= .ok (.nx (ρ.set i (some (.own (.lst (Qn.map enc)))))):=by
 obtain⟨j,e,h0,h1⟩:=ha
 obtain⟨x,e2⟩:=hb
 refine⟨j7 row j.toNat x,pF _ _ _,?_⟩
 unfold mF
 simp only[h,e,e2,al,GA]
 rw[if_pos ⟨h0,by omega,by unfold lim;omega⟩,wB]
theorem v9:∀(l:List α) (k:Nat),(l.map enc).eraseIdx k=(l.eraseIdx k).map enc
 |[],k=>rfl
 |a::l,0=>rfl
 |a::l,k+1=>by rw[GL,K5,K5,GL,v9 l k]
theorem Ay (h:ρ[i]? =some (some (.own (.lst (row.map enc))))) (ha:Ev fa ρ λj=>0<=j/\j<(row.length:Int)) (hl:row.length<=100):
  ∃Qn:List α,Qn.length<=row.length/\pG i fa ρ= .ok (.nx (ρ.set i (some (.own (.lst (Qn.map enc)))))):=by
 obtain⟨j,e,h0,h1⟩:=ha
 obtain⟨k,rfl⟩:=Jg h0
 have hk:k<row.length:=by omega
 refine⟨row.eraseIdx k,by rw[List.length_eraseIdx];split<;>omega,?_⟩
 unfold pG
 have es:KO (k:Int) row.length=some k:=by
  unfold KO
  simp
  omega
 simp only[h,e,al,GA]
 rw[if_pos (by unfold lim;omega),es]
 simp only[Hg,Hm hk,IG]
 rw[v9]
theorem Az (h:ρ[i]? =some (some (.own (.lst (row.map enc))))) (Py:row≠[]):
  ∃Qn:List α,Qn.length<=row.length/\pH i ρ= .ok (.nx (ρ.set i (some (.own (.lst (Qn.map enc)))))):=by
 have hp:=Iw.mpr Py
 refine⟨row.dropLast,by rw[Mp];omega,?_⟩
 unfold pH
 have hk:row.length - 1<row.length:=by omega
 simp only[h,GA,Hg,Hm hk,IG,List.map_dropLast]
theorem yJ (h:ρ[i]? =some (some (.own (.lst (row.map enc))))) (ha:Ev fa ρ λj=>0<=j/\j<(row.length:Int)) (hb:∃x,fb ρ= .ok (enc x)):
  ∃Qn:List α,Qn.length=row.length/\rn i fa fb ρ= .ok (.nx (ρ.set i (some (.own (.lst (Qn.map enc)))))):=by
 obtain⟨j,e,h0,h1⟩:=ha
 obtain⟨x,e2⟩:=hb
 obtain⟨k,rfl⟩:=Jg h0
 have hk:k<row.length:=by omega
 refine⟨row.set k x,LM,?_⟩
 unfold rn
 have es:L2.wI row.length (k:Int)=some k:=by
  unfold L2.wI
  simp
  omega
 simp only[h,e,e2,al,GA,es]
 rw[List.map_set]
end
theorem B6:qe (.int 10) (.int 20)=some (.int (10 ^20)):=zW (by unfold rq;decide)
theorem yK {ρ:a9}:Ev (f2 qe (fC (.int 10)) (fC (.int 20))) ρ λk=>0<k:=⟨10 ^20,az rfl rfl B6,by decide⟩
theorem yL {ρ:a9}:Ev (fC (.int 2)) ρ λk=>0<k:=⟨2,rfl,by decide⟩
theorem va (ns:List Int) (k:Nat) {ρ:a9} {fs:a9->R (List D)} (h:fs ρ= .ok [.scr ns, .int (k:Int)]):Ev (aO aI 2 fs) ρ λ_=>True:=⟨cl ns k,c4 (n:=2) h rfl (jr ns k),trivial⟩
theorem mB (c:Int):∃a,cG [.int c]= .ok (.int a):=by
 have e:bE (a7 (fC (.int 1000)) (a7 (f1 ll (fC (.int 1000))) (a7 (f2 vN (f2 aZ (f2 bg (ae 0) (fC (.int 6))) (fC (.int 2001))) (fC (.int 1000))) (ag)))) [some (.val (.int c))]= .ok (.lst ([1000,-1000,c / 6%2001 - 1000].map .int)):=by
  unfold bE
  rw[aa (d:= .int 1000) rfl (aa (d:= .int (-1000)) rfl (aa (d:= .int (c / 6%2001 - 1000)) (az (az (az (a:= .int c) (b:= .int 6) rfl rfl (jk (by decide))) rfl (c3 (by decide))) rfl qq) rfl)),al]
  rfl
 have hm:Ev (bZ xI (a7 (fC (.int 2)) (a7 (f2 aZ (ae 0) (fC (.int 6))) (ag)))) [some (.val (.int c))] λj=>0<=j/\j<(([1000,-1000,c / 6%2001 - 1000]:List Int).length:Int):=by
  refine⟨_,b8 (aa (d:= .int 2) rfl (aa (d:= .int (c%6)) (az (a:= .int c) (b:= .int 6) rfl rfl (c3 (by decide))) rfl)) rfl,?_⟩
  show 0<=(if c%6<2 then c%6 else 2)/\(if c%6<2 then c%6 else 2)<3
  split<;>omega
 obtain⟨a,h,_⟩:=oz e hm
 exact⟨a,cX rfl (lp h)⟩
theorem lQ (ns ri:List Int) (hl:ri.length<=50):∃Pd:List Int,c5 [.scr ns, .lst (ri.map .int)]= .ok (.lst (Pd.map .int))/\Pd.length<=60:=by
 let R (row:List Int) (y z:Option Slot):a9:=[some (.val (.scr ns)),some (.val (.lst (ri.map .int))),some (.own (.lst (row.map .int))),y,z]
 let S:Option Slot:=some (.val (.int (cl ns 12)))
 have hs:∀{row:List Int} {z:Option Slot},Ev (ae 3) (R row S z) λ_=>True:=⟨cl ns 12,rfl,trivial⟩
 have W4:∀{row:List Int} {z:Option Slot},Ev (aO aI 2 (a7 (aw 0) (a7 (fC (.int 11)) (ag)))) (R row S z) λ_=>True:=va ns 11 rfl
 have W5:∀{row:List Int} {z:Option Slot},Ev (aO aI 2 (a7 (aw 0) (a7 (fC (.int 13)) (ag)))) (R row S z) λ_=>True:=va ns 13 rfl
 have go:∃Pd:List Int,eB [some (.val (.scr ns)),some (.val (.lst (ri.map .int))),none,none,none]= .ok (.ret (.lst (Pd.map .int)))/\Pd.length<=60:=by
  unfold eB
  rw[aE (ρ':=R ri none none) rfl,aE (ρ':=R ri S none) (dh (c4 (n:=2) rfl rfl (jr ns 12)) rfl)]
  have s1:∃row:List Int,row.length<=51/\(dr (fT (f2 kY (f2 aZ (aO aI 2 (a7 (aw 0) (a7 (fC (.int 11)) (ag)))) (fC (.int 6))) (fC (.int 1))))
   (mF 2 (f2 aZ (ae 3) (f2 bK (bZ bP (a7 (ae 2) (ag))) (fC (.int 1)))) (fC (.int 5)))
   (dr (iS (fT (f2 kY (f2 aZ (aO aI 2 (a7 (aw 0) (a7 (fC (.int 11)) (ag)))) (fC (.int 6))) (fC (.int 2)))) (fT (f2 gk (ae 2) (bE (ag)))))
   (pH 2) (aQ))) (R ri S none)= .ok (.nx (R row S none)):=by
   refine yI (T:=λr=>∃row:List Int,row.length<=51/\r= .ok (.nx (R row S none))) (mz (db W4) mJ) ?_ (pO (T:=λr=>∃row:List Int,row.length<=51/\r= .ok (.nx (R row S none))) (enc:= .int) (xs:=ri) (mz (db W4) mJ) rfl (λPy=> ?_) ⟨ri,by omega,rfl⟩)
   ·obtain⟨row,h1,h2⟩:=qT (i:=2) (enc:= .int) (row:=ri) (ρ:=R ri S none) rfl (gf hs (mX (f:=ae 2) (xs:=ri) (enc:= .int) rfl) (by omega)) (fb:=fC (.int 5)) ⟨5,rfl⟩ (by omega)
    exact⟨row,by omega,h2⟩
   ·obtain⟨row,h1,h2⟩:=Az (i:=2) (enc:= .int) (row:=ri) (ρ:=R ri S none) rfl Py
    exact⟨row,by omega,h2⟩
  obtain⟨r1,l1,e1⟩:=s1
  rw[aE e1]
  have s2:∃(row:List Int) (z:Option Slot),row.length<=51/\(dr (iS (fT (f2 kY (f2 aZ (aO aI 2 (a7 (aw 0) (a7 (fC (.int 13)) (ag)))) (fC (.int 3))) (fC (.int 1)))) (fT (f2 gk (ae 2) (bE (ag)))))
   (aA (bV (f2 bK (fC (.int 1001)) (f2 aZ (f2 bg (ae 3) (fC (.int 16))) (f2 bq (bE (a7 (f2 qe (fC (.int 10)) (fC (.int 20))) (a7 (fC (.int 2)) (ag)))) (f2 aZ (f2 bg (ae 3) (fC (.int 8))) (fC (.int 2)))))) (gN 4))
   (rn 2 (f2 aZ (f2 bg (ae 3) (fC (.int 32))) (bZ bP (a7 (ae 2) (ag)))) (f2 bq (bE (a7 (aw 4) (a7 (f1 ll (ae 4)) (ag)))) (f2 aZ (f2 bg (aO aI 2 (a7 (aw 0) (a7 (fC (.int 13)) (ag)))) (fC (.int 3))) (fC (.int 2))))))
   (aQ)) (R r1 S none)= .ok (.nx (R row S z)):=by
   refine pO (T:=λr=>∃(row:List Int) (z:Option Slot),row.length<=51/\r= .ok (.nx (R row S z))) (enc:= .int) (xs:=r1) (mz (db W5) mJ) rfl (λPy=> ?_) ⟨r1,none,l1,rfl⟩
   obtain⟨mo,em,_⟩:=yG (f:=fC (.int 1001)) (mJ (ρ:=R r1 S none)) (v8 (cf (c:=16) (hs (row:=r1) (z:=none))) (mW yK yL (db (cf (c:=8) hs))))
   rw[aE (ρ':=R r1 S (some (.val (.int mo)))) (dh em rfl)]
   have hp:=Iw.mpr Py
   obtain⟨v,ev,_⟩:=mW (P:=λ_=>True) (a:=aw 4) (b:=f1 ll (ae 4)) (ρ:=R r1 S (some (.val (.int mo)))) ⟨mo,rfl,trivial⟩ ⟨-mo,rfl,trivial⟩ (db (c:=2) (cf (c:=3) W5))
   obtain⟨row,h1,h2⟩:=yJ (i:=2) (enc:= .int) (row:=r1) (ρ:=R r1 S (some (.val (.int mo)))) rfl (gf (cf (c:=32) hs) (kb (f:=ae 2) (xs:=r1) (enc:= .int) rfl) (by omega)) ⟨v,ev⟩
   exact⟨row,_,by omega,h2⟩
  obtain⟨r2,z,l2,e2⟩:=s2
  rw[aE e2]
  exact⟨r2,rfl,by omega⟩
 obtain⟨Pd,e,h⟩:=go
 exact⟨Pd,cX rfl e,h⟩
theorem jF (ns bare oth:List Int) (rd:List Rd) (ho:oth≠[]) (hl:rd.length<=50):∃Rv:List Rd,bC [.scr ns, .lst (bare.map .int), .lst (oth.map .int), .lst (rd.map fz)]= .ok (.lst (Rv.map fz))/\Rv.length<=60:=by
 let sp:List Int:=(Hy 5).map λk=>cl ns (20+k)
 let R (row:List Rd) (x y z:Option Slot):a9:=[some (.val (.scr ns)),some (.val (.lst (bare.map .int))),some (.val (.lst (oth.map .int))),some (.val (.lst (rd.map fz))),some (.own (.lst (row.map fz))),some (.own (.lst (sp.map .int))),x,y,z]
 have hs:∀{row:List Rd} {x y z:Option Slot} (k:Nat),k<5->Ev (f2 bq (ae 5) (fC (.int (k:Int)))) (R row x y z) λ_=>True:=λ{row x y z} k hk=>(oz (g:=ae 5) (xs:=sp) (ρ:=R row x y z) rfl ⟨(k:Int),rfl,by omega,by simp[sp];omega⟩).any
 have h0:∀{row:List Rd} {x y z:Option Slot},Ev (f2 bq (ae 5) (fC (.int 0))) (R row x y z) λ_=>True:=hs 0 (by decide)
 have h1:∀{row:List Rd} {x y z:Option Slot},Ev (f2 bq (ae 5) (fC (.int 1))) (R row x y z) λ_=>True:=hs 1 (by decide)
 have h2:∀{row:List Rd} {x y z:Option Slot},Ev (f2 bq (ae 5) (fC (.int 2))) (R row x y z) λ_=>True:=hs 2 (by decide)
 have h3:∀{row:List Rd} {x y z:Option Slot},Ev (f2 bq (ae 5) (fC (.int 3))) (R row x y z) λ_=>True:=hs 3 (by decide)
 have h4:∀{row:List Rd} {x y z:Option Slot},Ev (f2 bq (ae 5) (fC (.int 4))) (R row x y z) λ_=>True:=hs 4 (by decide)
 have S0:∀{row:List Rd} {x y z:Option Slot},ae 4 (R row x y z)= .ok (.lst (row.map fz)):=rfl
 have two:∀{ρ:a9} {a b:a9->Pu.R D} {P Q:Int->Prop},Ev a ρ P->Ev b ρ Q->∃r:Rd,eE (a7 a (a7 b ag)) ρ= .ok (fz r):=λ{ρ a b P Q} ha hb=>by
  obtain⟨i,e,_⟩:=ha;obtain⟨j,e2,_⟩:=hb
  exact⟨(i,j),gM (ds:=[.int i, .int j]) (aa e (aa e2 rfl)) (show 2<=lim by decide)⟩
 have go:∃Rv:List Rd,d5 [some (.val (.scr ns)),some (.val (.lst (bare.map .int))),some (.val (.lst (oth.map .int))),some (.val (.lst (rd.map fz))),none,none,none,none,none]= .ok (.ret (.lst (Rv.map fz)))/\Rv.length<=60:=by
  unfold d5
  rw[aE (ρ':=[some (.val (.scr ns)),some (.val (.lst (bare.map .int))),some (.val (.lst (oth.map .int))),some (.val (.lst (rd.map fz))),some (.own (.lst (rd.map fz))),none,none,none,none]) rfl]
  rw[aE (ρ':=R rd none none none) (by
   refine(own_of (ds:=sp.map .int) ?_).trans rfl
   rw[ou (enc:=λk:Nat=>D.int (k:Int)) (l:=Hy 5) (out:=λk:Nat=>D.int (cl ns (20+k))) (gX (n:=5) rfl (by decide)) (by decide) (rest:=[none,some (.val (.scr ns))]) rfl λk _=>c4 (n:=2) (ds:=[.scr ns, .int (20+(k:Int))]) (aa rfl (aa (az (a:= .int 20) (b:= .int (k:Int)) rfl rfl fN) rfl)) rfl (jr ns (20+k))]
   simp only[sp,Ia];rfl)]
  have s1:∃row:List Rd,row.length<=50/\dr (iS (fT (f2 kY (f2 aZ (f2 bq (ae 5) (fC (.int 0))) (fC (.int 3))) (fC (.int 1)))) (fT (f2 gk (ae 4) (bE (ag)))))
   (pG 4 (f2 aZ (f2 bg (f2 bq (ae 5) (fC (.int 0))) (fC (.int 3))) (bZ bP (a7 (ae 4) (ag)))))
   (aQ) (R rd none none none)= .ok (.nx (R row none none none)):=by
   refine pO (T:=λr=>∃row:List Rd,row.length<=50/\r= .ok (.nx (R row none none none))) (mz (db h0) mJ) S0 (λPy=> ?_) ⟨rd,hl,rfl⟩
   have hp:=Iw.mpr Py
   obtain⟨row,a,b⟩:=Ay (i:=4) (ρ:=R rd none none none) rfl (gf (cf (c:=3) h0) (kb S0) (by omega)) (by omega)
   exact⟨row,by omega,b⟩
  obtain⟨r1,l1,e1⟩:=s1
  rw[aE e1]
  have s2:∃(row:List Rd) (x:Option Slot),row.length<=51/\dr (iS (fT (f2 kY (f2 aZ (f2 bq (ae 5) (fC (.int 1))) (fC (.int 3))) (fC (.int 1)))) (fT (f2 gk (ae 4) (bE (ag)))))
   (aA (bV (f2 bq (ae 4) (f2 aZ (f2 bg (f2 bq (ae 5) (fC (.int 1))) (fC (.int 3))) (bZ bP (a7 (ae 4) (ag))))) (gN 6))
   (mF 4 (f2 aZ (f2 bg (f2 bq (ae 5) (fC (.int 1))) (fC (.int 60))) (f2 bK (bZ bP (a7 (ae 4) (ag))) (fC (.int 1)))) (eE (a7 (f2 bq (ae 6) (fC (.int 0))) (a7 (f2 jR (f2 aZ (f2 bg (f2 bq (ae 5) (fC (.int 1))) (fC (.int 2000))) (fC (.int 2))) (f2 bq (ae 6) (fC (.int 1)))) (ag))))))
   (aQ) (R r1 none none none)= .ok (.nx (R row x none none)):=by
   refine pO (T:=λr=>∃(row:List Rd) (x:Option Slot),row.length<=51/\r= .ok (.nx (R row x none none))) (mz (db h1) mJ) S0 (λPy=> ?_) ⟨r1,none,by omega,rfl⟩
   have hp:=Iw.mpr Py
   obtain⟨t,_,et⟩:=yH (ρ:=R r1 none none none) S0 (gf (cf (c:=3) h1) (kb S0) (by omega))
   rw[aE (ρ':=R r1 (some (.val (fz t))) none none) (dh et rfl)]
   obtain⟨row,a,b⟩:=qT (i:=4) (ρ:=R r1 (some (.val (fz t))) none none) rfl (gf (cf (c:=60) h1) (mX S0) (by omega)) (two (yF (az (fa:=ae 6) (fb:=fC (.int 0)) (a:=fz t) (b:= .int 0) rfl rfl qQ)) (Ax ((db (c:=2) (cf (c:=2000) h1)).imp λ_ h=>⟨h.1,by omega⟩) (yF (az (fa:=ae 6) (fb:=fC (.int 1)) (a:=fz t) (b:= .int 1) rfl rfl uc)))) (by omega)
   exact⟨row,_,by omega,b⟩
  obtain⟨r2,x,l2,e2⟩:=s2
  rw[aE e2]
  have s3:∃(row:List Rd),row.length<=52/\dr (iS (fT (f2 kY (f2 aZ (f2 bq (ae 5) (fC (.int 2))) (fC (.int 3))) (fC (.int 1)))) (fT (f2 gk (ae 1) (bE (ag)))))
   (mF 4 (f2 aZ (f2 bg (f2 bq (ae 5) (fC (.int 2))) (fC (.int 3))) (f2 bK (bZ bP (a7 (ae 4) (ag))) (fC (.int 1)))) (eE (a7 (f2 bq (ae 1) (f2 aZ (f2 bg (f2 bq (ae 5) (fC (.int 2))) (fC (.int 60))) (bZ bP (a7 (ae 1) (ag))))) (a7 (fC (.int 4)) (ag)))))
   (aQ) (R r2 x none none)= .ok (.nx (R row x none none)):=by
   refine pO (T:=λr=>∃(row:List Rd),row.length<=52/\r= .ok (.nx (R row x none none))) (f:=ae 1) (enc:= .int) (xs:=bare) (mz (db h2) mJ) rfl (λPy=> ?_) ⟨r2,by omega,rfl⟩
   have hp:=Iw.mpr Py
   obtain⟨row,a,b⟩:=qT (i:=4) (ρ:=R r2 x none none) rfl (gf (cf (c:=3) h2) (mX S0) (by omega)) (two (oz (g:=ae 1) (xs:=bare) rfl (gf (cf (c:=60) h2) (kb (f:=ae 1) (enc:= .int) (xs:=bare) rfl) (by omega))) (mJ (i:=4))) (by omega)
   exact⟨row,by omega,b⟩
  obtain⟨r3,l3,e3⟩:=s3
  rw[aE e3]
  have s4:∃(row:List Rd),row.length<=53/\dr (fT (f2 kY (f2 aZ (f2 bq (ae 5) (fC (.int 3))) (fC (.int 3))) (fC (.int 1))))
   (mF 4 (f2 aZ (f2 bg (f2 bq (ae 5) (fC (.int 3))) (fC (.int 3))) (f2 bK (bZ bP (a7 (ae 4) (ag))) (fC (.int 1)))) (eE (a7 (f2 bq (ae 2) (f2 aZ (f2 bg (f2 bq (ae 5) (fC (.int 3))) (fC (.int 60))) (bZ bP (a7 (ae 2) (ag))))) (a7 (fC (.int 1002)) (ag)))))
   (aQ) (R r3 x none none)= .ok (.nx (R row x none none)):=by
   refine yI (T:=λr=>∃(row:List Rd),row.length<=53/\r= .ok (.nx (R row x none none))) (mz (db h3) mJ) ?_ ⟨r3,by omega,rfl⟩
   have hp:=Iw.mpr ho
   obtain⟨row,a,b⟩:=qT (i:=4) (ρ:=R r3 x none none) rfl (gf (cf (c:=3) h3) (mX S0) (by omega)) (two (oz (g:=ae 2) (xs:=oth) rfl (gf (cf (c:=60) h3) (kb (f:=ae 2) (enc:= .int) (xs:=oth) rfl) (by omega))) (mJ (i:=1002))) (by omega)
   exact⟨row,by omega,b⟩
  obtain⟨r4,l4,e4⟩:=s4
  rw[aE e4]
  have s5:∃(row:List Rd) (y z:Option Slot),row.length<=53/\dr (iS (fT (f2 kY (f2 aZ (f2 bq (ae 5) (fC (.int 4))) (fC (.int 3))) (fC (.int 1)))) (fT (f2 gk (ae 4) (bE (ag)))))
   (aA (bV (f2 bK (fC (.int 1001)) (f2 aZ (f2 bg (f2 bq (ae 5) (fC (.int 4))) (fC (.int 360))) (f2 bq (bE (a7 (f2 qe (fC (.int 10)) (fC (.int 20))) (a7 (fC (.int 2)) (ag)))) (f2 aZ (f2 bg (f2 bq (ae 5) (fC (.int 4))) (fC (.int 6))) (fC (.int 2)))))) (gN 7))
   (aA (bV (f2 aZ (f2 bg (f2 bq (ae 5) (fC (.int 4))) (fC (.int 12))) (bZ bP (a7 (ae 4) (ag)))) (gN 8))
   (rn 4 (aw 8) (eE (a7 (f2 bq (f2 bq (ae 4) (ae 8)) (fC (.int 0))) (a7 (f2 bq (bE (a7 (aw 7) (a7 (f1 ll (ae 7)) (ag)))) (f2 aZ (f2 bg (f2 bq (ae 5) (fC (.int 4))) (fC (.int 3))) (fC (.int 2)))) (ag)))))))
   (aQ) (R r4 x none none)= .ok (.nx (R row x y z)):=by
   refine pO (T:=λr=>∃(row:List Rd) (y z:Option Slot),row.length<=53/\r= .ok (.nx (R row x y z))) (mz (db h4) mJ) S0 (λPy=> ?_) ⟨r4,none,none,by omega,rfl⟩
   have hp:=Iw.mpr Py
   obtain⟨mo,em,_⟩:=yG (f:=fC (.int 1001)) (mJ (ρ:=R r4 x none none)) (v8 (cf (c:=360) (h4 (row:=r4) (x:=x) (y:=none) (z:=none))) (mW yK yL (db (cf (c:=6) h4))))
   rw[aE (ρ':=R r4 x (some (.val (.int mo))) none) (dh em rfl)]
   obtain⟨k,ek,hk⟩:=gf (ρ:=R r4 x (some (.val (.int mo))) none) (cf (c:=12) h4) (kb S0) (by omega)
   rw[aE (ρ':=R r4 x (some (.val (.int mo))) (some (.val (.int k)))) (dh ek rfl)]
   obtain⟨t,_,et⟩:=yH (ρ:=R r4 x (some (.val (.int mo))) (some (.val (.int k)))) (f:=ae 8) S0 ⟨k,rfl,hk⟩
   obtain⟨row,a,b⟩:=yJ (i:=4) (ρ:=R r4 x (some (.val (.int mo))) (some (.val (.int k)))) rfl (fa:=aw 8) ⟨k,rfl,hk⟩ (two (yF (az (fb:=fC (.int 0)) et rfl qQ)) (mW (ρ:=R r4 x (some (.val (.int mo))) (some (.val (.int k)))) (P:=λ_=>True) (a:=aw 7) (b:=f1 ll (ae 7)) ⟨mo,rfl,trivial⟩ ⟨-mo,rfl,trivial⟩ (db (c:=2) (cf (c:=3) h4))))
   exact⟨row,_,_,by omega,b⟩
  obtain⟨r5,y,z,l5,e5⟩:=s5
  rw[aE e5]
  exact⟨r5,rfl,by omega⟩
 obtain⟨Rv,e,h⟩:=go
 exact⟨Rv,cX rfl e,h⟩
def Dd:List Gv:=["WrongRises","UnknownStream","Twice","NotMetered","ReadingMissing","OutOfRange"]
section
variable {n:Int} {m:Mo} {hs:List D}
theorem AA {now a d1 d2 Qy:D} {OB:List D} {w:Gv} (h:so (aR [aJ n now hs] [d1,d2]) (aJ n now hs) w a (aJ n Qy OB)) (hw:w=""):eO [aJ n now hs] [d1,d2]= .ok (.lst [.str "",a],[aJ n Qy OB]):=by
 refine lL ⟨rfl,rfl⟩ (ρ:=[some (aJ n Qy OB),some (.val d1),some (.val d2),some (.own (.lst [])),none,none,none]) ?_ rfl
 show fW [some (aJ n now hs),some (.val d1),some (.val d2),none,none,none,none]=_
 unfold fW
 rw[aE (ρ':=[some (aJ n now hs),some (.val d1),some (.val d2),some (.own (.lst [])),none,none,none]) rfl]
 refine yr ?_
 unfold vT
 rw[Av (ρ':=[some (aJ n Qy OB),some (.val d1),some (.val d2),some (.own (.lst [])),none,none,none]) (Aw (d:= .str "") (e:=a) rfl ((lK rfl).trans (lJ (k:=2) (n:=n) (now:=now) (hs:=hs) rfl (aa rfl (aa rfl rfl)) rfl (h.2 hw))))]
theorem yM {now a d1 d2 Qy:D} {OB:List D} {w:Gv} (h:so (aR [aJ n now hs] [d1,d2]) (aJ n now hs) w a (aJ n Qy OB)) (hw:w∈Dd):eO [aJ n now hs] [d1,d2]= .ok (.lst [.str w, .non],[aJ n now hs]):=by
 have nw:w≠"":=λz=>by rw[z]at hw;exact absurd hw (by decide+kernel)
 obtain⟨ρe,e,t⟩:=h.1 nw
 let ρ1:a9:=[some (aJ n now hs),some (.val d1),some (.val d2),some (.own (.lst [])),none,none,none]
 have h1:m8 (j4 (fC (.str "")) (kI 0 "Cellar" "day_passes" (iF [0] aR 2 (a7 (aw 1) (a7 (aw 2) (ag)))))) ρ1= .err w ρ1:=yD (yE rfl ((lK rfl).trans (v2 (n:=n) (now:=now) (hs:=hs) rfl (aa rfl (aa rfl rfl)) rfl e t rfl)))
 have hT:∀{i:Nat} {sub:Gv->Bool} {hd rest:a9->R a_},aA (vT i sub (m8 (j4 (fC (.str "")) (kI 0 "Cellar" "day_passes" (iF [0] aR 2 (a7 (aw 1) (a7 (aw 2) (ag))))))) hd) rest ρ1=aA (λ_=>rK i sub hd w ρ1) rest ρ1:=by
  intro i sub hd rest
  unfold aA vT
  rw[h1]
 have go:fW [some (aJ n now hs),some (.val d1),some (.val d2),none,none,none,none]= .ok (.retc (.lst [.str w, .non]) [some (aJ n now hs),some (.val d1),some (.val d2),some (.val (.lst ((Dd.map λx=> .bl (decide (w=x)))++[.bl false]))),none,some (.own (.lst ((Dd++(["another"]:List Gv)).map .str))),some (.val (.str w))]):=by
  unfold fW
  rw[aE (ρ':=ρ1) rfl,hT]
  unfold Dd at hw
  simp only[GK,IV,or_false]at hw
  rcases hw with rfl|rfl|rfl|rfl|rfl|rfl<;>kernel_rfl
 exact lL ⟨rfl,rfl⟩ go rfl
end
theorem D0 (am:List Int):∃mn mx,(am++[0]).min? =some mn/\(am++[0]).max? =some mx/\(decide (mn< -1000)||decide (mx>1000))=am.any yw:=by
 cases h1:(am++[0]).min? with
 |none=>rw[List.min?_eq_none_iff]at h1;simp at h1
 |some mn=>
  cases h2:(am++[0]).max? with
  |none=>rw[List.max?_eq_none_iff]at h2;simp at h2
  |some mx=>
   refine⟨mn,mx,rfl,rfl,?_⟩
   obtain⟨a1,a2⟩:=Md.mp h1
   obtain⟨b1,b2⟩:=Mf.mp h2
   rw[IZ,HU,KA,decide_eq_true_eq,decide_eq_true_eq]
   constructor
   ·rintro(h|h)
    ·rcases HP.mp a1 with z|z
     ·exact⟨mn,z,by unfold yw;simp[h]⟩
     ·rw[GS.mp z]at h;omega
    ·rcases HP.mp b1 with z|z
     ·exact⟨mx,z,by unfold yw;simp[h]⟩
     ·rw[GS.mp z]at h;omega
   ·rintro⟨x,hx,hf⟩
    unfold yw at hf
    rw[KA,decide_eq_true_eq,decide_eq_true_eq]at hf
    have:=a2 x (HE _ hx)
    have:=b2 x (HE _ hx)
    omega
theorem yN (n:Int) (th ms ri:List Int) (rd:List Rd) (l1:ri.length<=100) (l2:rd.length<=60):cm [.int n, .lst (th.map .int), .lst (ms.map .int), .lst (ri.map .int), .lst (rd.map fz)]= .ok (.str (eR (h_ (!decide ((ri.length:Int)=n)) "WrongRises") (eR (yv th (rd.map (·.1))) (eR (CY ms (rd.map (·.1))) (eR (h_ (decide (((rd.map (·.1)).length:Int)<(ms.length:Int))) "ReadingMissing") (h_ ((ri++rd.map (·.2)).any yw) "OutOfRange")))))):=by
 let ks:=rd.map (·.1)
 have lk:ks.length<=100:=by simp only[ks,GA];omega
 have h1:eD (.lst (ri.map .int)) ri:= .inl rfl
 have h2:ub (.lst (rd.map fz)) rd:= .inl rfl
 let R (x y:Option Slot):a9:=[some (.val (.int n)),some (.val (.lst (th.map .int))),some (.val (.lst (ms.map .int))),some (.val (.lst (ri.map .int))),some (.val (.lst (rd.map fz))),x,y]
 let O:Option Slot:=some (.own (.lst (ks.map .int)))
 let K:Option Slot:=some (.val (.lst (ks.map .int)))
 have hk:∀{N:List Gv} {names:List (Gv×HD)} {ρ:a9},ρ[4]? =some (some (.val (.lst (rd.map fz))))->fK N names ρ=[none,none]->bN N names (dD (aw 4)) (gN 1) gj (f2 bq (ae 1) (fC (.int 0))) ρ= .ok (ks.map .int):=λ{N names ρ} e hr=>by
  rw[ou (rest:=[]) (h2.seq (by unfold aw;rw[e])) (by omega) hr (out:=λr=> .int r.1) λr _=>az rfl rfl qQ,Ia];rfl
 have hv:∀{N:List Gv} {names:List (Gv×HD)} {ρ:a9},ρ[4]? =some (some (.val (.lst (rd.map fz))))->fK N names ρ=[none,none]->bN N names (dD (aw 4)) (gN 1) gj (f2 bq (ae 1) (fC (.int 1))) ρ= .ok ((rd.map (·.2)).map .int):=λ{N names ρ} e hr=>by
  rw[ou (rest:=[]) (h2.seq (by unfold aw;rw[e])) (by omega) hr (out:=λr=> .int r.2) λr _=>az rfl rfl uc,Ia];rfl
 let am:=ri++rd.map (·.2)
 have Yj:am.length<=160:=by simp only[am,Hn,GA];omega
 let A:Option Slot:=some (.val (.lst (am.map .int)))
 obtain⟨mn,mx,e1,e2,e3⟩:=D0 am
 have a0:f2 bK (ae 6) (bE (a7 (fC (.int 0)) (ag))) (R K A)= .ok (.lst ((am++[0]).map .int)):=az (a:= .lst (am.map .int)) (b:= .lst [.int 0]) rfl rfl ((tE (by simp only[GA,GX,IF];unfold lim;omega)).trans (congrArg (λx=>some (D.lst x)) (HB (f:=D.int) (l₁:=am) (l₂:=[0])).symm))
 have tf:uG (fT (f2 xE (bZ uX (a7 (f2 bK (ae 6) (bE (a7 (fC (.int 0)) (ag)))) (ag))) (f1 ll (fC (.int 1000))))) (fT (f2 wJ (bZ uY (a7 (f2 bK (ae 6) (bE (a7 (fC (.int 0)) (ag)))) (ag))) (fC (.int 1000)))) (R K A)= .ok (am.any yw):=by
  rw[<-e3]
  unfold uG
  rw[c8 (az (a:= .int mn) (b:= .int (-1000)) (b8 (aa a0 rfl) (by unfold uX;dsimp only;rw[fM];dsimp only[M1];rw[e1];rfl)) rfl lX),al]
  by_cases z:mn< -1000
  ·simp only[z,decide_true,if_true,MW]
  ·simp only[z,decide_false,HF,if_false,Mx]
   exact c8 (az (a:= .int mx) (b:= .int 1000) (b8 (aa a0 rfl) (by unfold uY;dsimp only;rw[fM];dsimp only[M1];rw[e2];rfl)) rfl ky)
 refine cX rfl ((yB (ρ:=R none none) (ρ':=R O none) (own_of (hk rfl rfl)) (lP (c8 (az (b8 (aa rfl rfl) h1.len) rfl uL))
  (qS (ρ':=R K none) rfl (lP (neC (enc:= .int) (l:=ks) rfl (by omega) (rest:=[some (.val (.lst (th.map .int)))]) rfl λr _=>c8 (az (a:= .int r) (b:= .lst (th.map .int)) rfl rfl gW))
  (qS (ρ':=R K none) rfl (lP (neC (enc:= .int) (l:=ks) rfl (by omega) (rest:=[K]) rfl λr _=>c8 (az (As (ns:=ks) (.inl rfl) rfl rfl) rfl ky))
  (qS (ρ':=R K none) rfl (lP (neC (enc:= .int) (l:=ks) rfl (by omega) (rest:=[some (.val (.lst (ms.map .int)))]) rfl λr _=>c8 (az (a:= .int r) (b:= .lst (ms.map .int)) rfl rfl gW))
  (lP (c8 (az (b8 (aa (d:= .lst (ks.map .int)) rfl rfl) (by rw[fO,GA])) (b8 (aa (d:= .lst (ms.map .int)) rfl rfl) (by rw[fO,GA])) lX))
  (yB (ρ':=R K A) (dh (az (a:= .lst (ri.map .int)) (b:= .lst ((rd.map (·.2)).map .int)) (b8 (aa rfl rfl) rfl) (tH (hv rfl rfl)) (by rw[tE (by simp only[GA];unfold lim;omega),<-HB])) rfl)
  (lP tf Ar))))))))))).trans ?_)
 rw[yC,Au]
 unfold yv CY
 rw[Et]
def m0:Mo:=⟨0,[],[],[],[],[]⟩
theorem Ew:m0.Ok:=⟨.nil,λr h=>(by cases h),by decide, .refl _, .nil,λx h=>(by cases h),by decide,by decide⟩
theorem wC {n:Int} (h0:0<=n) (h7:n<=7):cS [.int n]= .ok (kQ n (bF n m0),"history",[]):=by
 unfold cS j6
 rw[if_pos (show [D.int n].length=1 from rfl)]
 show (gJ [some .obj,some (.val (.int n)),none,none,none]>>=_)=_
 unfold gJ
 rw[aE (ρ':=[some .obj,some (.val (.int n)),none,none,none]) (by
  rw[kS]
  ·rfl
  ·unfold uG
   rw[c8 (az (a:= .int n) (b:= .int 0) rfl rfl lX),al,decide_eq_false (by omega),if_neg (by simp)]
   rw[c8 (az (a:= .int n) (b:= .int 7) rfl rfl ky),decide_eq_false (by omega)])]
 rfl
theorem yO {x y:Gv}:kY (.str x) (.str y)=some (.bl (decide (x=y))):=rfl
theorem vb {i:Nat} {fx:a9->R (D×a9)} {ρ ρ':a9} {d:D} (h:fx ρ= .ok (d,ρ')):uR i fx ρ= .ok (.nx (ρ'.set i (some (.val d)))):=by unfold uR;rw[h,al]
theorem AB {i:Nat} {fx:a9->R (D×a9)} {ρ ρ':a9} {d:D} {ds ds':List D} (h0:ρ[i]? =some (some (.own (.lst ds)))) (h:fx ρ= .ok (d,ρ')) (h1:ρ'[i]? =some (some (.own (.lst ds')))) (hl:ds'.length<=900):rZ i fx ρ= .ok (.nx (ρ'.set i (some (.own (.lst (ds'++[d])))))):=by
 unfold rZ
 rw[h0]
 dsimp only
 rw[h,al]
 dsimp only
 rw[h1]
 dsimp only
 rw[if_pos (by unfold lim;omega)]
theorem ud {fs:a9->R (List D)} {ρ:a9} {ds:List D} (h:fs ρ= .ok ds) (hl:ds.length<=1000):bE fs ρ= .ok (.lst ds):=by unfold bE;rw[h,al,if_pos (by unfold lim;omega)]
theorem yP {a x y:Gv} (h:a=""->x=y):eR a x=eR a y:=by
 unfold eR
 by_cases z:a=""
 ·rw[if_pos z,if_pos z,h z]
 ·rw[if_neg z,if_neg z]
theorem AD {ms ks:List Int} (h1:ms.Nodup) (h2:ks.Nodup) (h3:∀x∈ks,x∈ms):(ms.any λx=> !decide (x∈ks))=decide ((ks.length:Int)<(ms.length:Int)):=by
 rw[IZ,HU,decide_eq_true_eq]
 constructor
 ·rintro⟨x,hx,q⟩
  have nx:x∉ks:=by simpa using q
  have:=cP (l:=x::ks) (m:=ms) (I_.mpr ⟨nx,h2⟩) λy hy=>by
   rcases GK.mp hy with rfl|hy
   ·exact hx
   ·exact h3 y hy
  rw[GX]at this
  omega
 ·intro h
  by_cases z:∃x∈ms,(!decide (x∈ks))=true
  ·exact z
  ·have:=cP (l:=ms) (m:=ks) h1 λy hy=>by
    by_cases q:y∈ks
    ·exact q
    ·exact absurd ⟨y,hy,by simp[q]⟩ z
   omega
section
variable {n:Int} {m:Mo} {hs:List D}
theorem ue (h:hs.length<60):lO hs="":=by
 unfold lO h_
 rw[decide_eq_false (by omega)];rfl
theorem yQ (g:m.Ok) (hd:m.ds.length<12) (hh:hs.length<60) (ri:List Int) (rd:List Rd):pN n m hs ri rd=eR (h_ (!decide ((ri.length:Int)=n)) "WrongRises") (eR (yv m.nu (rd.map (·.1))) (eR (CY m.ms (rd.map (·.1))) (eR (h_ (decide (((rd.map (·.1)).length:Int)<(m.ms.length:Int))) "ReadingMissing") (h_ ((ri++rd.map (·.2)).any yw) "OutOfRange")))):=by
 unfold pN
 refine yP λ_=>yP λh1=>yP λh2=> ?_
 have nd:=oy h1
 have hu:∀x∈rd.map (·.1),x∈m.ms:=λx hx=>by
  unfold CY at h2
  have:=kU h2
  rw[L7]at this
  simpa using this x hx
 rw[AD g.nd nd.1 hu,ue hh,show h_ (decide ((12:Int)<=(m.ds.length:Int))) "TooManyDays"="" by rw[decide_eq_false (by omega)];rfl,yC,yC,show eR (En ri) (En (rd.map (·.2)))=h_ (ri.any yw||(rd.map (·.2)).any yw) "OutOfRange" from CZ (by decide),List.any_append]
def sr (w:Gv):Prop:=w=""\/w∈Dd
theorem kX {a b:Gv} (h:sr a) (h2:sr b):sr (eR a b):=by unfold eR;split<;>assumption
theorem jt {b:Bool} {x:Gv} (h:x∈Dd:=by decide+kernel):sr (h_ b x):=by cases b;exact .inl rfl;exact .inr h
theorem wD {ri:List Int} {rd:List Rd}:(m.passes ri rd).ds[m.ds.length]'(by simp[Mo.passes])=⟨m.ss,ri,sk rd⟩:=by simp[Mo.passes]
theorem D1 (r:Rd):Wf 1 (fz r):= .tup (by simp) λd hd=>by
 simp only[GK,IV,or_false]at hd
 rcases hd with rfl|rfl<;>exact .int _ _
theorem wF {ri:List Int} {rd:List Rd} {u0 u3 u5 u6 u8 u9 u10 u11 u12 y z:Option Slot} (g:m.Ok) (hd:m.ds.length<12) (hh:hs.length<60) (l1:ri.length<=60) (l2:rd.length<=60):
  ∃(m':Mo) (OB:List D) (y' z':Option Slot),m'.Ok/\m'.nu=m.nu/\m'.ms=m.ms/\m'.ds.length<=m.ds.length+1/\OB.length<=hs.length+1/\
  j9 [u0,some (.val (.int n)),some (aJ n (bF n m) hs),u3,some (.val (.lst (m.nu.map .int))),u5,u6,some (.val (.lst (m.ms.map .int))),u8,u9,u10,u11,u12,some (.val (.int (m.ds.length:Int))),some (.val (.lst (ri.map .int))),some (.val (.lst (rd.map fz))),y,z]= .ok (.nx [u0,some (.val (.int n)),some (aJ n (bF n m') OB),u3,some (.val (.lst (m'.nu.map .int))),u5,u6,some (.val (.lst (m'.ms.map .int))),u8,u9,u10,u11,u12,some (.val (.int (m'.ds.length:Int))),some (.val (.lst (ri.map .int))),some (.val (.lst (rd.map fz))),y',z']):=by
 let B (s:Slot) (t:Int) (y z:Option Slot):a9:=[u0,some (.val (.int n)),some s,u3,some (.val (.lst (m.nu.map .int))),u5,u6,some (.val (.lst (m.ms.map .int))),u8,u9,u10,u11,u12,some (.val (.int t)),some (.val (.lst (ri.map .int))),some (.val (.lst (rd.map fz))),y,z]
 have pd:=yQ (n:=n) g hd hh ri rd
 have dd:=wA (n:=n) (hs:=hs) g (d1:= .lst (ri.map .int)) (d2:= .lst (rd.map fz)) (ri:=ri) (rd:=rd) (.inl rfl) (.inl rfl) (by omega) l2
 have du:=yN n m.nu m.ms ri rd (by omega) l2
 rw[<-pd]at du
 have iw:sr (pN n m hs ri rd):=by
  rw[pd]
  exact kX jt (kX (kX jt jt) (kX jt (kX jt jt)))
 generalize hW:pN n m hs ri rd=W at*
 have W6:bV (uQ [4] (aO cm 5 (a7 (aw 1) (a7 (aw 4) (a7 (aw 7) (a7 (aw 14) (a7 (aw 15) (ag)))))))) (gN 16) (B (aJ n (bF n m) hs) (m.ds.length:Int) y z)= .ok (.nx (B (aJ n (bF n m) hs) (m.ds.length:Int) (some (.val (.str W))) z)):=by
  refine dh (d:= .str W) ?_ rfl
  unfold uQ
  rw[c4 (n:=5) (aa rfl (aa rfl (aa rfl (aa rfl (aa rfl rfl))))) rfl du]
  rfl
 have args:∀{s:Slot} {t:Int} {y z:Option Slot},a7 (bZ iX (a7 (ae 14) (ag))) (a7 (bZ iX (a7 (ae 15) (ag))) (ag)) (B s t y z)= .ok [.lst (ri.map .int), .lst (rd.map fz)]:=λ{s t y z}=>aa (b8 (aa (d:= .lst (ri.map .int)) rfl rfl) rfl) (aa (b8 (aa (d:= .lst (rd.map fz)) rfl rfl) rfl) rfl)
 have Rm:∀{m1:Mo} {h1:List D} {t:Int} {y z:Option Slot},t=(m1.ds.length:Int)->dr (lB [2] (jy (fA (aO bG 2 (a7 (eX "Cellar" "days_gone" 1 aH (aw 2) ag) (a7 (aw 13) (ag))))))) (cn (fC (.bl false))) (aQ) (B (aJ n (bF n m1) h1) t y z)= .ok (.nx (B (aJ n (bF n m1) h1) t y z)):=λ{m1 h1 t y z} ht=>by
  subst ht
  rw[kS]
  ·rfl
  ·show jy (fA (aO bG 2 (a7 (eX "Cellar" "days_gone" 1 aH (aw 2) ag) (a7 (aw 13) (ag))))) (B (.val (.ins "Cellar" (iJ n (bF n m1) h1))) (m1.ds.length:Int) y z)=_
   unfold jy
   rw[oi (c4 (n:=2) (aa (ix (n:=1) (fds:=iJ n (bF n m1) h1) (ds:=[]) rfl rfl rfl f_ rfl) (aa (d:= .int (m1.ds.length:Int)) rfl rfl)) rfl (pL _))]
   rfl
 rcases iw with iw|iw
 ·
  subst iw
  have Vp:=AA dd rfl
  let m1:=m.passes ri rd
  let h1:=hs++[D.tup [v7 ri rd,bF n m]]
  have Ud:m1.Ok:=ka.ok (n:=n) (hs:=hs) (.pass ri rd) g hW
  have nd:=(oy (cc (cc hW).2).1).1
  have dl:m1.ds.length=m.ds.length+1:=by simp[m1,Mo.passes]
  refine⟨m1,h1,some (.val (.str "")),some (.val (.lst [.str "", .int ((m.ds.length:Int)+1)])),Ud,rfl,rfl,by omega,by simp[h1],?_⟩
  show j9 (B (aJ n (bF n m) hs) (m.ds.length:Int) y z)= .ok (.nx (B (aJ n (bF n m1) h1) (m1.ds.length:Int) (some (.val (.str ""))) (some (.val (.lst [.str "", .int ((m.ds.length:Int)+1)])))))
  have dI:(m1.ds.length:Int)=(m.ds.length:Int)+1:=by omega
  unfold j9
  rw[aE W6,aE (ρ':=B (aJ n (bF n m1) h1) (m.ds.length:Int) (some (.val (.str ""))) (some (.val (.lst [.str "", .int ((m.ds.length:Int)+1)])))) ((vb (lJ (i:=2) (k:=2) (n:=n) (now:=bF n m) (hs:=hs) rfl args rfl Vp)).trans rfl)]
  rw[aE (ρ':=B (aJ n (bF n m1) h1) (m.ds.length:Int) (some (.val (.str ""))) (some (.val (.lst [.str "", .int ((m.ds.length:Int)+1)])))) (by
   rw[kS (c8 (az (a:= .str "") (b:= .str "") (az (a:= .lst [.str "", .int ((m.ds.length:Int)+1)]) rfl rfl Ek) rfl B5))];rfl)]
  have W7:∀{y z:Option Slot},eX "Cellar" "day" 2 cF (aw 2) (a7 (aw 13) (ag)) (B (.val (.ins "Cellar" (iJ n (bF n m1) h1))) ((m.ds.length:Int)+1) y z)= .ok (oN n ⟨m.ss,ri,sk rd⟩):=λ{y z}=>ix (n:=2) (fds:=iJ n (bF n m1) h1) (ds:=[.int ((m.ds.length:Int)+1)]) rfl rfl rfl ((yA (m:=m1) (k:=m.ds.length) (by omega)).trans (by rw[wD])) rfl
  have Vq:eg [.lst (rd.map fz)]=some (.lst ((sk rd).map fz)):=qP (f:=fz) (k:=λr:Rd=>r.1) (λa=>rfl) (hX rd) (v4 nd) (by rw[<-(hX rd).length_eq];omega) (.inl rfl)
  rw[aE (ρ':=B (aJ n (bF n m1) h1) (m1.ds.length:Int) (some (.val (.str ""))) (some (.val (.lst [.str "", .int ((m.ds.length:Int)+1)])))) (by
   rw[tP (c8 (az (a:= .str "") (b:= .str "") rfl rfl yO)),dI]
   rw[aE (ρ':=B (aJ n (bF n m1) h1) ((m.ds.length:Int)+1) (some (.val (.str ""))) (some (.val (.lst [.str "", .int ((m.ds.length:Int)+1)])))) (dh (az (a:= .int (m.ds.length:Int)) (b:= .int 1) rfl rfl fN) rfl)]
   rw[aE (ρ':=B (aJ n (bF n m1) h1) ((m.ds.length:Int)+1) (some (.val (.str ""))) (some (.val (.lst [.str "", .int ((m.ds.length:Int)+1)])))) (by
    rw[kS]
    ·rfl
    ·show uG _ _ (B (.val (.ins "Cellar" (iJ n (bF n m1) h1))) ((m.ds.length:Int)+1) (some (.val (.str ""))) (some (.val (.lst [.str "", .int ((m.ds.length:Int)+1)]))))=_
     unfold uG jy
     rw[oi (c4 (n:=2) (aa (az (a:= .lst [.str "", .int ((m.ds.length:Int)+1)]) rfl rfl EN) (aa (d:= .int ((m.ds.length:Int)+1)) rfl rfl)) rfl (pL _))]
     rw[oi (c4 (n:=2) (aa (fc (fds:=yu n ⟨m.ss,ri,sk rd⟩) W7 rfl) (aa (b8 (aa (d:= .lst (ri.map .int)) rfl rfl) rfl) rfl)) rfl (wu ri (by omega)))]
     rfl)]
   rw[kS]
   ·rfl
   ·show jy _ (B (.val (.ins "Cellar" (iJ n (bF n m1) h1))) ((m.ds.length:Int)+1) (some (.val (.str ""))) (some (.val (.lst [.str "", .int ((m.ds.length:Int)+1)]))))=_
    unfold jy
    rw[oi (c4 (n:=2) (aa (fc (fds:=yu n ⟨m.ss,ri,sk rd⟩) W7 rfl) (aa (b8 (aa (b8 (aa (d:= .lst (rd.map fz)) rfl rfl) Vq) rfl) rfl) rfl)) rfl (og (n:=2) (by decide) (.tup (by rw[GA,<-(hX rd).length_eq];omega) λd hd=>by obtain⟨r,_,rfl⟩:=IH.mp hd;exact D1 r)))]
    rfl)]
  exact Rm rfl
 ·
  have nw:W≠"":=λz=>by rw[z]at iw;exact absurd iw (by decide+kernel)
  have Vp:=yM dd iw
  refine⟨m,hs,some (.val (.str W)),some (.val (.lst [.str W, .non])),g,rfl,rfl,by omega,by omega,?_⟩
  show j9 (B (aJ n (bF n m) hs) (m.ds.length:Int) y z)= .ok (.nx (B (aJ n (bF n m) hs) (m.ds.length:Int) (some (.val (.str W))) (some (.val (.lst [.str W, .non])))))
  unfold j9
  rw[aE W6,aE (ρ':=B (aJ n (bF n m) hs) (m.ds.length:Int) (some (.val (.str W))) (some (.val (.lst [.str W, .non])))) ((vb (lJ (i:=2) (k:=2) (n:=n) (now:=bF n m) (hs:=hs) rfl args rfl Vp)).trans rfl)]
  rw[aE (ρ':=B (aJ n (bF n m) hs) (m.ds.length:Int) (some (.val (.str W))) (some (.val (.lst [.str W, .non])))) (by
   rw[kS (c8 (az (a:= .str W) (b:= .str W) (az (a:= .lst [.str W, .non]) rfl rfl Ek) rfl (by rw[B5,decide_eq_true rfl];rfl)))];rfl)]
  rw[aE (ρ':=B (aJ n (bF n m) hs) (m.ds.length:Int) (some (.val (.str W))) (some (.val (.lst [.str W, .non])))) (by
   rw[kS (c8 (az (a:= .str W) (b:= .str "") rfl rfl (by rw[yO,decide_eq_false nw])))];rfl)]
  exact Rm rfl
end
def dn (k:Nat):List Int:=(Hy k).map λi:Nat=>(i:Int)+1
theorem pP (k:Nat):dn (k+1)=dn k++[(k:Int)+1]:=by unfold dn;rw[List.range_succ,HB];rfl
theorem hZ (k:Nat):(dn k).length=k:=by unfold dn;rw[GA,Ic]
theorem yR {k:Nat} {x:Int} (h:x∈dn k):∃i:Nat,i<k/\x=(i:Int)+1:=by
 unfold dn at h
 obtain⟨i,hi,rfl⟩:=IH.mp h
 exact⟨i,HW.mp hi,rfl⟩
theorem AE (k:Nat):(dn k).Nodup:=by
 unfold dn
 rw[List.Nodup,IM]
 exact Ni.imp λh=>by omega
theorem D3 {N k:Nat} (h0:1<=N) (h7:N<=7):EO (N:Int) ((k:Int)%((N:Int)+1)) (((k:Int)+1)%((N:Int)+1))="":=by
 have h:N=1\/N=2\/N=3\/N=4\/N=5\/N=6\/N=7:=by omega
 have a1:=JO (k:Int) (show (N:Int)+1≠0 by omega)
 have a2:=JY (k:Int) (show 0<(N:Int)+1 by omega)
 have b1:=JO ((k:Int)+1) (show (N:Int)+1≠0 by omega)
 have b2:=JY ((k:Int)+1) (show 0<(N:Int)+1 by omega)
 have ne:(k:Int)%((N:Int)+1)≠((k:Int)+1)%((N:Int)+1):=by rcases h with rfl|rfl|rfl|rfl|rfl|rfl|rfl<;>omega
 unfold EO
 rw[show ([(k:Int)%((N:Int)+1),((k:Int)+1)%((N:Int)+1)].any (El (N:Int)))=false by
  simp only[I0,List.any_nil,El,NO,Bool.or_eq_false_iff,decide_eq_false_iff_not]
  omega,decide_eq_false ne]
 rfl
theorem wG {ns:List Int} {N c:Nat} {mx:Bool} {fs:a9->R (List D)} (h7:N<=7) (hc:c<=12) (hz:N=0->c=0)
  (hf:fs [some (.val (.scr ns)),some (.val (.int (N:Int))),some (aJ (N:Int) (bF (N:Int) m0) []),some (.val (.bl mx)),some (.own (.lst [])),none,none,none,none,none,none,none,none,none,none,none,none,none]= .ok [.int (c:Int)]):
  ∃(m:Mo) (hs:List D) (y:Option Slot),m.Ok/\m.nu=dn c/\m.ms=[]/\m.ds=[]/\hs.length=c/\li (dX fs) (gN 5) qH [some (.val (.scr ns)),some (.val (.int (N:Int))),some (aJ (N:Int) (bF (N:Int) m0) []),some (.val (.bl mx)),some (.own (.lst [])),none,none,none,none,none,none,none,none,none,none,none,none,none]= .ok (.nx [some (.val (.scr ns)),some (.val (.int (N:Int))),some (aJ (N:Int) (bF (N:Int) m) hs),some (.val (.bl mx)),some (.own (.lst ((dn c).map .int))),y,none,none,none,none,none,none,none,none,none,none,none,none]):=by
 let L (s:Slot) (th:List Int) (y:Option Slot):a9:=[some (.val (.scr ns)),some (.val (.int (N:Int))),some s,some (.val (.bl mx)),some (.own (.lst (th.map .int))),y,none,none,none,none,none,none,none,none,none,none,none,none]
 obtain⟨ρ',e,m,hs,y,rfl,h1,h2,h3,h4,h5,h6⟩:=u_ (g:=gN 5) (gb:=qH) (n:=c) (fs:=fs) (ρ:=L (aJ (N:Int) (bF (N:Int) m0) []) [] none) (P:=λk ρ=>∃(m:Mo) (hs:List D) (y:Option Slot),ρ=L (aJ (N:Int) (bF (N:Int) m) hs) (dn k) y/\m.Ok/\m.c=(k:Int)/\m.nu=dn k/\m.ms=[]/\m.ds=[]/\hs.length=k) hf (by omega) ⟨m0,[],none,rfl,Ew,rfl,rfl,rfl,rfl,rfl⟩ λk hk ρ hρ=>by
  obtain⟨m,hs,y,rfl,g,Td,Ue,Sr,Sd,Vr⟩:=hρ
  have hN:1<=N:=by
   rcases N1 N with z|z
   ·have:=hz z;omega
   ·exact z
  have XJ:m.ss.length=k:=by
   have:=congrArg LU Ue
   rw[GA,hZ]at this
   exact this
  have hw:qN (N:Int) m hs ((k:Int)%((N:Int)+1)) (((k:Int)+1)%((N:Int)+1))="":=by
   unfold qN
   rw[D3 hN h7,ue (by omega),XJ,decide_eq_false (by omega)]
   rfl
  have hd:=(tZ (n:=(N:Int)) (hs:=hs) g ((k:Int)%((N:Int)+1)) (((k:Int)+1)%((N:Int)+1))).2 hw
  have Ud:(m.comes ((k:Int)%((N:Int)+1)) (((k:Int)+1)%((N:Int)+1))).Ok:=ka.ok (n:=(N:Int)) (hs:=hs) (.comes _ _) g hw
  have p1:0<(N:Int)+1:=by omega
  let K:Option Slot:=some (.val (.int (k:Int)))
  let s1:=aJ (N:Int) (bF (N:Int) (m.comes ((k:Int)%((N:Int)+1)) (((k:Int)+1)%((N:Int)+1)))) (hs++[.tup [qM ((k:Int)%((N:Int)+1)) (((k:Int)+1)%((N:Int)+1)),bF (N:Int) m]])
  have n1:f2 bK (ae 1) (fC (.int 1)) (L (aJ (N:Int) (bF (N:Int) m) hs) (dn k) K)= .ok (.int ((N:Int)+1)):=az (a:= .int (N:Int)) (b:= .int 1) rfl rfl fN
  refine⟨L (aJ (N:Int) (bF (N:Int) m) hs) (dn k) K,L s1 (dn (k+1)) K,rfl, .inl ?_,_,_,K,rfl,Ud,?_,?_,Sr,Sd,by simp[Vr]⟩
  ·unfold qH
   refine(AB (i:=4) (ds:=(dn k).map .int) (ds':=(dn k).map .int) (ρ':=L s1 (dn k) K) (d:= .int (m.c+1)) rfl ((lK (n:=(N:Int)) (now:=bF (N:Int) m) (hs:=hs) rfl).trans (lJ (i:=2) (k:=2) (n:=(N:Int)) (now:=bF (N:Int) m) (hs:=hs) rfl (aa (az (a:= .int (k:Int)) rfl n1 (c3 p1)) (aa (az (az (a:= .int (k:Int)) (b:= .int 1) rfl rfl fN) n1 (c3 p1)) rfl)) rfl hd)) rfl (by rw[GA,hZ];omega)).trans ?_
   rw[Td]
   show _=Pu.R.ok (a_.nx (L s1 (dn (k+1)) K))
   rw[pP]
   simp only[L,HB,GL,Jb]
   rfl
  ·show m.c+1=((k+1:Nat):Int)
   rw[Td];rfl
  ·show (m.ss++[(m.c+1,((k:Int)%((N:Int)+1),((k:Int)+1)%((N:Int)+1)))]).map (λr:Ej=>r.1)=_
   rw[HB,pP,<-Ue,Td]
   rfl
 exact⟨m,hs,y,h1,h3,h4,h5,h6,e⟩
def uM (p:List Int×List Rd):D:= .lst [.lst (p.1.map .int), .lst (p.2.map fz)]
theorem su {n:Int} {u0 u3 u5 u6 u8 u9 u10 u11 u12:Option Slot}:∀(l:List (List Int×List Rd)) (m:Mo) (hs:List D) (x y z w:Option Slot),(∀p∈l,p.1.length<=60/\p.2.length<=60)->m.Ok->m.ds.length+l.length<=12->hs.length+l.length<=60->
  ∃ρ',eF (xz 2 (nL (gN 14) (nL (gN 15) (xy)))) j9 (l.map uM) [u0,some (.val (.int n)),some (aJ n (bF n m) hs),u3,some (.val (.lst (m.nu.map .int))),u5,u6,some (.val (.lst (m.ms.map .int))),u8,u9,u10,u11,u12,some (.val (.int (m.ds.length:Int))),x,y,z,w]= .ok (.nx ρ')
 |[],m,hs,x,y,z,w,_,_,_,_=>⟨_,rfl⟩
 |p::l,m,hs,x,y,z,w,hp,g,h1,h2=>by
  rw[GX]at h1 h2
  obtain⟨m',OB,y',z',g',e1,e2,e3,e4,e⟩:=wF (n:=n) (m:=m) (hs:=hs) (ri:=p.1) (rd:=p.2) (u0:=u0) (u3:=u3) (u5:=u5) (u6:=u6) (u8:=u8) (u9:=u9) (u10:=u10) (u11:=u11) (u12:=u12) (y:=z) (z:=w) g (by omega) (by omega) (hp p GO).1 (hp p GO).2
  obtain⟨ρ',e'⟩:=su (n:=n) (u0:=u0) (u3:=u3) (u5:=u5) (u6:=u6) (u8:=u8) (u9:=u9) (u10:=u10) (u11:=u11) (u12:=u12) l m' OB (some (.val (.lst (p.1.map .int)))) (some (.val (.lst (p.2.map fz)))) y' z' (λq hq=>hp q (GU _ hq)) g' (by omega) (by omega)
  refine⟨ρ',?_⟩
  rw[GL,qt (ρ1:=[u0,some (.val (.int n)),some (aJ n (bF n m) hs),u3,some (.val (.lst (m.nu.map .int))),u5,u6,some (.val (.lst (m.ms.map .int))),u8,u9,u10,u11,u12,some (.val (.int (m.ds.length:Int))),some (.val (.lst (p.1.map .int))),some (.val (.lst (p.2.map fz))),z,w]) rfl e,e']
theorem main (ns:List Int) (hl:ns.length<=63):pI [.scr ns]= .ok (.bl true):=by
 obtain⟨N,hN,h7⟩:∃N:Nat,cl ns 1%8=(N:Int)/\N<=7:=⟨(cl ns 1%8).toNat,by omega,by omega⟩
 obtain⟨b,hb,Vs⟩:∃b:Nat,cl ns 2%13=(b:Int)/\b<=12:=⟨(cl ns 2%13).toNat,by omega,by omega⟩
 obtain⟨c,hc,Vt,hz⟩:∃c:Nat,(if (1:Int)<(N:Int)then (1:Int)else (N:Int))*(b:Int)=(c:Int)/\c<=12/\(N=0->c=0):=by
  rcases N1 N with z|z
  ·subst z;exact⟨0,by simp,by omega,λ_=>rfl⟩
  ·refine⟨b,?_,Vs,λq=>by omega⟩
   have:(if (1:Int)<(N:Int)then (1:Int)else (N:Int))=1:=by split<;>omega
   rw[this,Int.one_mul]
 let mx:=decide (cel ns 0%2=1)
 let A:Option Slot:=some (.val (.scr ns))
 let B:Option Slot:=some (.val (.int (N:Int)))
 let X:Option Slot:=some (.val (.bl mx))
 have ce:∀{ρ:a9} (k:Nat) {x:Int},(aw 0:a9->R D) ρ= .ok (.scr ns)->x=(k:Int)->aO aI 2 (a7 (aw 0) (a7 (fC (.int x)) (ag))) ρ= .ok (.int (cl ns k)):=λ{ρ} k {x} h e=>c4 (n:=2) (aa h (aa rfl rfl)) rfl (by rw[e];exact jr ns k)
 obtain⟨m,hs,y5,g,Ue,Sr,Sd,Vr,e5⟩:=wG (ns:=ns) (N:=N) (c:=c) (mx:=mx) (fs:=a7 (f2 jR (bZ xI (a7 (ae 1) (a7 (fC (.int 1)) (ag)))) (f2 aZ (aO aI 2 (a7 (aw 0) (a7 (fC (.int 2)) (ag)))) (fC (.int 13)))) (ag)) h7 Vt hz
  (aa (az (a:= .int (if (1:Int)<(N:Int)then (1:Int)else (N:Int))) (b:= .int (b:Int)) (b8 (aa (d:= .int (N:Int)) rfl (aa (d:= .int 1) rfl rfl)) rfl) (az (ce 2 (x:=2) rfl rfl) rfl ((c3 (by decide)).trans (by rw[hb]))) ((qp (by split<;>omega)).trans (by rw[hc]))) rfl)
 obtain⟨xs,f6,lx,_⟩:=kW (cl ns 3) mx c 3 (by decide) (by omega)
 let p:Int->Bool:=λx=>decide (0<xs.getD (x - 1).toNat 0)
 let M:List Int:=((dn c).filter p).take 10
 have XM:M.Nodup:=((L8 10 _).trans MF).nodup (AE c)
 have Vu:∀x∈M,x∈dn c:=λx hx=>((L8 10 _).trans MF).subset hx
 have XN:M.length<=10:=List.length_take_le 10 _
 have mw:qO m hs M="":=by
  unfold qO yv
  rw[show (M.any λx=> !decide (x∈m.nu))=false by
   rw[L7]
   intro x hx
   have:=Vu x hx
   rw[<-Ue]at this
   simp[this],decide_eq_true XM,Sr,ue (by omega),show (M.any λx=>decide (x∈([]:List Int)))=false by simp,decide_eq_false (by simp;omega)]
  rfl
 have md:=(ua (n:=(N:Int)) (hs:=hs) g (d:= .lst (M.map .int)) (ns:=M) (.inl rfl) (by omega)).2 mw
 let m1:=m.mcome M
 let Tj:=hs++[D.tup [t_ M,bF (N:Int) m]]
 have Ud:m1.Ok:=ka.ok (n:=(N:Int)) (hs:=hs) (.mcome M) g mw
 have XO:m1.nu=dn c:=Ue
 have XQ:m1.ms=M:=by show m.ms++M=M;rw[Sr];rfl
 have W8:m1.ds=[]:=Sd
 have XR:Tj.length=c+1:=by simp[Tj,Vr]
 let T:Option Slot:=some (.val (.lst ((dn c).map .int)))
 let Fi:Option Slot:=some (.val (.lst (xs.map .int)))
 let Me:Option Slot:=some (.val (.lst (M.map .int)))
 let C0:Option Slot:=some (aJ (N:Int) (bF (N:Int) m) hs)
 let C1:Option Slot:=some (aJ (N:Int) (bF (N:Int) m1) Tj)
 let bare:List Int:=(dn c).filter λx=> !decide (x∈M)
 let oth:List Int:=[-1,0,10 ^20]++fJ ((c:Int)+1) 62
 obtain⟨ys,XS,ly,_⟩:=kW (cl ns 4) mx (N+M.length) 12006 (by decide) (by omega)
 let am:Int->Int:=λi=>(mB i).choose
 have W9:∀i,cG [.int i]= .ok (.int (am i)):=λi=>(mB i).choose_spec
 have iy:∀k:Nat,k<ys.length->bq (.lst (ys.map .int)) (.int (k:Int))=some (.int (ys.getD k 0)):=λk hk=>by
  rw[lY,f7 (by rw[GA];exact hk)]
  simp[hk]
 let ri:List Int:=(Hy N).map λk=>am (ys.getD k 0)
 let rd:List Rd:=(Hy M.length).map λk=>(M.getD k 0,am (ys.getD (N+k) 0))
 have XT:ri.length<=50:=by simp[ri];omega
 have XU:rd.length<=50:=by simp[rd];omega
 obtain⟨Pd,fr,Yk⟩:=lQ ns ri XT
 obtain⟨Rv,fd,Yl⟩:=jF ns bare oth rd (by simp[oth]) XU
 let Ba:Option Slot:=some (.own (.lst (bare.map .int)))
 let Bv:Option Slot:=some (.val (.lst (bare.map .int)))
 let O:Option Slot:=some (.val (.lst (oth.map .int)))
 let Ce:Option Slot:=some (.val (.lst (ys.map .int)))
 let G1:List D:=[.lst (ri.map .int)]
 let G2:List D:=[.lst (ri.map .int), .lst (rd.map fz)]
 let Wr:List D:=[.lst (Pd.map .int), .lst (Rv.map fz)]
 refine cX rfl ?_
 show yn [A,none,none,none,none,none,none,none,none,none,none,none,none,none,none,none,none,none]=_
 unfold yn
 rw[aE (ρ':=[A,B,none,none,none,none,none,none,none,none,none,none,none,none,none,none,none,none]) (dh (az (ce 1 (x:=1) rfl rfl) rfl ((c3 (by decide)).trans (by rw[hN]))) rfl)]
 rw[aE (ρ':=[A,B,some (aJ (N:Int) (bF (N:Int) m0) []),none,none,none,none,none,none,none,none,none,none,none,none,none,none,none]) (by
  unfold qB
  rw[if_pos (show EM 2 [A,B,none,none,none,none,none,none,none,none,none,none,none,none,none,none,none,none]=true from rfl),aa (d:= .int (N:Int)) (ds:=[]) rfl rfl,al,if_pos (show [D.int (N:Int)].length=1 from rfl),wC (by omega) (by omega)]
  rfl)]
 rw[aE (ρ':=[A,B,some (aJ (N:Int) (bF (N:Int) m0) []),X,none,none,none,none,none,none,none,none,none,none,none,none,none,none]) (dh (az (az (c4 (n:=2) rfl rfl (G5 ns)) rfl (c3 (by decide))) rfl rD) rfl)]
 rw[aE (ρ':=[A,B,some (aJ (N:Int) (bF (N:Int) m0) []),X,some (.own (.lst [])),none,none,none,none,none,none,none,none,none,none,none,none,none]) rfl]
 rw[aE e5]
 rw[aE (ρ':=[A,B,C0,X,some (.own (.lst ((dn c).map .int))),y5,Fi,none,none,none,none,none,none,none,none,none,none,none]) (dh (c4 (n:=4) (aa (ce 3 (x:=3) rfl rfl) (aa rfl (aa (b8 (aa (d:= .lst ((dn c).map .int)) rfl rfl) (by rw[fO,GA,hZ])) (aa rfl rfl)))) rfl f6) rfl)]
 rw[aE (ρ':=[A,B,C0,X,T,y5,Fi,Me,none,none,none,none,none,none,none,none,none,none]) (by
  show bV _ (gN 7) [A,B,C0,X,T,y5,Fi,none,none,none,none,none,none,none,none,none,none,none]=_
  refine dh (d:= .lst (M.map .int)) ?_ rfl
  unfold FF
  rw[tH (jl (ds:=(dn c).map .int) rfl (by rw[GA,hZ];unfold lim;omega) (τ:=[none,none,Fi]) rfl (om (enc:= .int) (p:=p) (out:= .int) (dn c) none (λx hx=>by
   obtain⟨i,hi,rfl⟩:=yR hx
   have XW:bq (.lst (xs.map .int)) (.int (i:Int))=some (.int (xs.getD i 0)):=by
    rw[lY,f7 (by rw[GA];omega)]
    simp[show i<xs.length by omega]
   have hp:p ((i:Int)+1)=decide (0<xs.getD i 0):=by
    simp only[p]
    rw[show ((i:Int)+1 - 1).toNat=i by omega]
   rw[hp]
   exact c8 (az (az (a:= .lst (xs.map .int)) (b:= .int (i:Int)) rfl (az (a:= .int ((i:Int)+1)) (b:= .int 1) rfl rfl (by rw[qq];congr 2;omega)) XW) rfl ky)) (λr _ _=>rfl))),al]
  show R.of (FE (.lst (((dn c).filter p).map .int)) none (some 10))=_
  rw[C_ (by decide),dw,<-List.map_take];rfl)]
 rw[aE (ρ':=[A,B,C1,X,T,y5,Fi,Me,none,none,none,none,none,none,none,none,none,none]) ((sj ((lK (n:=(N:Int)) (now:=bF (N:Int) m) (hs:=hs) rfl).trans (lJ (i:=2) (k:=1) (n:=(N:Int)) (now:=bF (N:Int) m) (hs:=hs) rfl (aa (d:= .lst (M.map .int)) rfl rfl) rfl md))).trans rfl)]
 rw[aE (ρ':=[A,B,C1,X,T,y5,Fi,Me,Ba,none,none,none,none,none,none,none,none,none]) (by
  show lj 8 _ [A,B,C1,X,T,y5,Fi,Me,none,none,none,none,none,none,none,none,none,none]=_
  exact(own_of (jl (ds:=(dn c).map .int) rfl (by rw[GA,hZ];unfold lim;omega) (τ:=[none,none,Me]) rfl (om (enc:= .int) (p:=λx=> !decide (x∈M)) (out:= .int) (dn c) none (λx hx=>c8 (az (a:= .int x) (b:= .lst (M.map .int)) rfl rfl gW)) (λr _ _=>rfl)))).trans rfl)]
 rw[aE (ρ':=[A,B,C1,X,T,y5,Fi,Me,Ba,O,none,none,none,none,none,none,none,none]) (dh (d:= .lst (oth.map .int)) (az (a:= .lst ([-1,0,10 ^20].map .int)) (b:= .lst ((fJ ((c:Int)+1) 62).map .int)) (ud (aa (d:= .int (-1)) rfl (aa (d:= .int 0) rfl (aa (d:= .int (10 ^20)) (az rfl rfl B6) rfl))) (by decide)) (by
   unfold jS
   rw[aa (d:= .int ((c:Int)+1)) (az (b8 (aa (d:= .lst ((dn c).map .int)) rfl rfl) (by rw[fO,GA,hZ])) rfl fN) (aa (d:= .int 62) rfl rfl),al]
   dsimp only
   rw[if_pos ⟨by unfold lim;omega,by decide⟩]) (by
   rw[tE (by simp only[GA,GX,IF,fJ,Ic];unfold lim;omega),<-HB])) rfl)]
 rw[aE (ρ':=[A,B,C1,X,T,y5,Fi,Me,Ba,O,Ce,none,none,none,none,none,none,none]) (dh (c4 (n:=4) (aa (ce 4 (x:=4) rfl rfl) (aa rfl (aa (d:= .int ((N+M.length:Nat):Int)) (az (a:= .int (N:Int)) (b:= .int (M.length:Int)) rfl (b8 (aa (d:= .lst (M.map .int)) rfl rfl) (by rw[fO,GA])) (by rw[fN];congr 2)) (aa rfl rfl)))) rfl XS) rfl)]
 rw[aE (ρ':=[A,B,C1,X,T,y5,Fi,Me,Ba,O,Ce,some (.own (.lst G1)),none,none,none,none,none,none]) (by
  unfold iB
  rw[aa (d:= .lst (ri.map .int)) (ds:=[]) (tH (by
   rw[ou (enc:=λk:Nat=>D.int (k:Int)) (l:=Hy N) (out:=λk:Nat=>D.int (am (ys.getD k 0))) (gX (n:=N) (aa rfl rfl) (by unfold lim;omega)) (by rw[Ic];omega) (rest:=[none,Ce]) rfl λk hk=>c4 (n:=1) (aa (az (a:= .lst (ys.map .int)) (b:= .int (k:Int)) rfl rfl (iy k (by have:=HW.mp hk;omega))) rfl) rfl (W9 _)]
   simp only[ri,Ia];rfl)) rfl,al]
  rfl)]
 rw[aE (ρ':=[A,B,C1,X,T,y5,Fi,Me,Ba,O,Ce,some (.own (.lst G2)),none,none,none,none,none,none]) (by
  unfold t7
  rw[show ([A,B,C1,X,T,y5,Fi,Me,Ba,O,Ce,some (.own (.lst G1)),none,none,none,none,none,none]:a9)[11]? =some (some (.own (.lst G1)))from rfl]
  dsimp only
  rw[tH (ds:=rd.map fz) (by
   rw[ou (enc:=λk:Nat=>D.int (k:Int)) (l:=Hy M.length) (out:=λk:Nat=>fz (M.getD k 0,am (ys.getD (N+k) 0))) (gX (n:=M.length) (aa (b8 (aa (d:= .lst (M.map .int)) rfl rfl) (by rw[fO,GA])) rfl) (by unfold lim;omega)) (by rw[Ic];omega) (rest:=[none,Ce,Me,B]) rfl λk hk=>by
    have Rh:=HW.mp hk
    exact gM (ds:=[.int (M.getD k 0), .int (am (ys.getD (N+k) 0))]) (aa (az (a:= .lst (M.map .int)) (b:= .int (k:Int)) rfl rfl (by
     rw[lY,f7 (by rw[GA];exact Rh)]
     simp[Rh])) (aa (c4 (n:=1) (aa (az (a:= .lst (ys.map .int)) (b:= .int ((N+k:Nat):Int)) rfl (az (a:= .int (N:Int)) (b:= .int (k:Int)) rfl rfl (by rw[fN];congr 2)) (iy (N+k) (by omega))) rfl) rfl (W9 _)) rfl)) (show 2<=lim by decide)]
   simp only[rd,Ia];rfl),al]
  rfl)]
 rw[aE (ρ':=[A,B,C1,X,T,y5,Fi,Me,Bv,O,Ce,some (.own (.lst G2)),some (.own (.lst Wr)),none,none,none,none,none]) (by
  show iB 12 _ [A,B,C1,X,T,y5,Fi,Me,Bv,O,Ce,some (.own (.lst G2)),none,none,none,none,none,none]=_
  unfold iB
  rw[aa (c4 (n:=2) (aa rfl (aa (az (a:= .lst G2) rfl rfl Ek) rfl)) rfl fr) (aa (c4 (n:=4) (aa rfl (aa rfl (aa rfl (aa (az (a:= .lst G2) rfl rfl EN) rfl)))) rfl fd) rfl),al]
  rfl)]
 let Z:a9:=[A,B,C1,X,T,y5,Fi,Me,Bv,O,Ce,some (.val (.lst G2)),some (.own (.lst Wr)),some (.val (.int 0)),none,none,none,none]
 rw[aE (ρ':=[A,B,C1,X,T,y5,Fi,Me,Bv,O,Ce,some (.own (.lst G2)),some (.own (.lst Wr)),some (.val (.int 0)),none,none,none,none]) rfl]
 obtain⟨ρ',e⟩:=su (n:=(N:Int)) (u0:=A) (u3:=X) (u5:=y5) (u6:=Fi) (u8:=Bv) (u9:=O) (u10:=Ce) (u11:=some (.val (.lst G2))) (u12:=some (.own (.lst Wr))) [(Pd,rd),(ri,Rv),(Pd,Rv),(ri,rd)] m1 Tj none none none none (λq hq=>by
  simp only[GK,IV,or_false]at hq
  rcases hq with rfl|rfl|rfl|rfl<;>exact⟨by simp only;omega,by simp only;omega⟩) Ud (by rw[W8];simp) (by rw[XR];simp;omega)
 rw[XO,XQ,W8]at e
 have w0:f2 bq (ae 12) (fC (.int 0)) Z= .ok (.lst (Pd.map .int)):=az (a:= .lst Wr) rfl rfl Ek
 have w1:f2 bq (ae 12) (fC (.int 1)) Z= .ok (.lst (Rv.map fz)):=az (a:= .lst Wr) rfl rfl EN
 have g0:f2 bq (ae 11) (fC (.int 0)) Z= .ok (.lst (ri.map .int)):=az (a:= .lst G2) rfl rfl Ek
 have g1:f2 bq (ae 11) (fC (.int 1)) Z= .ok (.lst (rd.map fz)):=az (a:= .lst G2) rfl rfl EN
 have two:∀{a b:a9->R D} {x y:D},a Z= .ok x->b Z= .ok y->bE (a7 a (a7 b ag)) Z= .ok (.lst [x,y]):=λh1 h2=>ud (aa h1 (aa h2 rfl)) (show 2<=1000 by decide)
 rw[aE (ρ':=ρ') (by
  show li _ _ j9 Z=_
  exact(xR (ds:=[(Pd,rd),(ri,Rv),(Pd,Rv),(ri,rd)].map uM) (by
   unfold dD
   rw[ud (aa (two w0 g1) (aa (two g0 w1) (aa (two w0 w1) (aa (d:= .lst G2) (ds:=[]) rfl rfl)))) (show 4<=1000 by decide)]
   rfl)).trans e)]
 rfl
end My
end
inductive PySem.W.Fast
|tw100089149216593467|tw10071767285805113343|tw10240873316176421558|tw10689302805799771377|tw10701570837356808933|tw10795782918578440315|tw10923740808748690637|tw11041946522751664658|tw11429337658417952950|tw12155265833401442335|tw12235381757704325594|tw12465227051941149343|tw12732116909187450706|tw12781300416560450730|tw13000712536749362868|tw13525271172816051343|tw13546881792508332901|tw13825405283578937923|tw14159343532043618109|tw1417330236931698758|tw14222995865464190688|tw14308199664202464120|tw14499401919377111255|tw14721081378123475278|tw14772802082790721068|tw1484204715128055107|tw14875273398049835380|tw1494583946898747323|tw15101963525090357009|tw15154588914495274709|tw15391735366176365162|tw15477709513335546699|tw15506624549325131662|tw15524450490073561927|tw15552818431907207611|tw16367411695791512461|tw16376167821617274073|tw16557827764556532977|tw16596118292270775274|tw16956698272662659389|tw16969358071531428938|tw16974808593950306770|tw1712053396447175821|tw17164684114468641741|tw17412401050284116220|tw17708235284064523332|tw17719439927802529251|tw1786392811621173303|tw17909543129897391336|tw18134277985358133057|tw18212172719649101349|tw18265212290026942030|tw1890220715460579808|tw2092889286671828163|tw2107648119164771334|tw2522764630628525594|tw2523752091782815866|tw2779446925870069548|tw2803808572920705509|tw2937618303041549056|tw2974948585985863569|tw3181890172485669865|tw33780064377182981|tw3430377134051393126|tw3451407127055870147|tw3528241701151379017|tw3808231287601768194|tw3814974810073073643|tw3970402977494439742|tw3987250232430066315|tw4138796807808543662|tw4143356714561326882|tw4228845435733586221|tw4602198585574896331|tw463640235319916470|tw4685312422018514215|tw4704054815294329596|tw4742597335812306974|tw4779958110336738498|tw4844053343959510735|tw486260842080213414|tw5097391958949238390|tw5359298180397805592|tw5405310201093156068|tw5789442647353497771|tw6149163991796858333|tw6206289333092124775|tw6218057686560140601|tw6703499960629633252|tw672009405083762280|tw6883343122215378899|tw6977811327472840087|tw7032038312267290731|tw7153600546381705276|tw7211892915949990644|tw7270407505001383881|tw7565715967736802494|tw7653645163070764094|tw791795765741036128|tw8291319247894190246|tw8355231469791752318|tw8365063480096955980|tw83902666507824410|tw8407422760909253117|tw8586836237335813099|tw8766319608406671964|tw8912580003262570806|tw8957105890035833074|tw8973910578835806952|tw8976327395609849089|tw9557226591977613508|tw9581976016959949318|tw9754395377810341928
open PySem PySem.W PyProof.Rows
set_option maxRecDepth 100000 in
set_option maxHeartbeats 0 in
theorem PySem.Challenge.cw_tankbalance_k22_day_refused_holds : PySem.Challenge.rw_tankbalance_k22_day_refused.Holds := by
  w_on; o_law; k_head; (case hw => w_witness2)
  k_fill
  refine My.walk (l := PySem.Challenge.rw_tankbalance_k22_day_refused) rfl rfl (fun w h Y => PySem.W.kIn_of Y) My.main ?F
  case F =>
    intro w mg fa h KX G hmg
    refine' My.CS KX G hmg ?_ ?_ ?_ ?_ ?_ ?_ ?_ ?_ ?_ ?_ ?_ ?_ ?_ ?_ ?_ ?_ ?_ ?_ ?_ ?_ ?_ ?_ ?_ ?_ ?_ ?_ ?_ ?_ ?_ ?_ ?_ ?_ ?_ ?_ ?_ ?_ ?_ ?_ ?_ ?_ ?_ ?_ ?_ ?_ ?_ ?_ ?_ ?_ ?_ ?_ ?_ ?_ ?_ ?_ ?_ ?_ ?_ ?_ ?_ ?_ ?_ ?_ ?_ ?_ ?_ ?_ ?_ ?_ ?_ ?_ ?_ ?_ ?_ ?_ ?_ ?_ ?_ ?_ ?_ ?_ ?_ ?_ ?_ ?_ ?_ ?_ ?_ ?_ ?_ ?_ ?_ ?_ ?_
    all_goals try first | k_is | k_exc | (refine' L2.Pu.UF.of ?_ ?_ ?_ ?_ <;> try k_is) | (refine' L2.Pu.qE.of ?_ ?_ ?_ ?_ ?_ <;> try k_is)
    all_goals try (repeat' (first | exact True.intro | refine And.intro ?_ ?_ | (refine @Eq.trans _ _ (some true) _ ?_ rfl; k_is) | (refine @Eq.trans _ _ (some false) _ ?_ rfl; k_is) | k_is | k_exc))
