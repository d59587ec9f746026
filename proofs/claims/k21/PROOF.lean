import PyProof.Rows.All
import Wide.All
import OpenK.AllK
import Wide.FinOn
import Lean
import PyProof.EqAt
import PyProof.EqKinds
import PyProof.TupleCall
import PyProof.NeKinds
import PySem.Challenge.RW_tankbalance_k21_meters_come_and_go
set_option Elab.async false
set_option linter.all false
set_option maxRecDepth 100000
set_option maxHeartbeats 40000000
open PySem.W renaming Frag->Dh,nsIn->DB,findIn->DD,mroIn->DW,mg_of->E6,keepIn->E8,fnOf->Ea,kitOne->Eh,kia_one->Ej,mg_none_of->El,excIn->Eo,emptyDict->ED,instObj->ER,codeIn->Fn,plainGet->Fo,hasDictIn->FE,specialIn->FF,kitCls->FK,exmOne->FL,looks_findIn->FP,makesIn->F_,takesIn->G0,nd_pure->G3,plainOver->Gi,methodCall_KW->Gz,hideAll_none->GF,isFn->GJ,hideAll_get->GU,plainGet_of->GW,lookIn->G_,callWith_K->Hb,methodObj->Hn,takerIn->HY,OpenLaw->I0,cellsFrom_some->Ib,typeIn->Im,looks_mroIn->IL,of_hideAll->IW,kitx_list->Jg,kitx_dict->Jh,handedIn->Jo,hideAll->Jv,kitMeta->JI,WalkO->JS,Looks->JT,clsIn->JU
open PySem renaming Value->Di,Str->Dj,Addr->Dk,Shared->Dl,starEach->Dm,wpAny_bind->Dn,Spec->Dq,Expr->Dr,mainGlobals->Dt,wpAny->Du,wpAny_pure->Dv,Program->Dy,model->Dz,eval->DC,Heap->DE,World->DG,Around->DO,backTo->DQ,Obj->DT,Stmt->DU,Pos->DZ,boot_len->E1,bootBuiltins->E4,attributeBase->E9,NameKind->Ed,swapsWith->Eg,keywordEach->Em,FuncData->Ep,compareOp->Eu,behindInMarks->EA,Keyword->EH,backToKw->EK,Env->EO,wpAny_truthy_bool->EU,foldedSetIterable->EV,Scope->EX,binaryOp->F7,wpAny_mono->F8,wpAny_Call_Name_kw->Fb,bindArgs->Fe,mem_of_lookup->Fv,call_meets->FA,cLine->FG,sliceBounds->FY,wpAny_passesOwn->FZ,getMethod->G4,codeAny_mono->G5,codeAny->Gd,getItem->Ge,wpAny_newObj_type->Gj,wpAny_holding->Gu,Sem->Gy,plainObj_wpAny_Assign_Attribute->GB,Tok->GC,wpAny_execs_nil->GI,IsPart->GL,codeAny_call_builtin->GO,unbindBehindTheSuite->GP,standAt->GY,holding->GZ,callWith->H9,tupleKind_room_in1->Hc,evalPart_none->Hj,slot_list_getitem->Ho,wpAny_call->Hs,valueAt->Hx,callerA->Hy,GenState->HA,noFill_tuple_add->HE,wpAny_typeOf->HG,wpAny_getItem_list_slice->HH,wpAny_comprehension_free->HJ,wpAny_check_ga_own->HP,wpAny_callSpecial?_slot->HS,letOwnedTupleGo->HX,sizeLine_eq->Ia,wpAny_field->Ic,subscripted->Ie,wpAny_Call_method_late->Ih,wpAny_isTrue_Compare1->Il,BindsTo->Io,CmpOp->Iw,bindL->Iy,bindC->Iz,seq_tuple_add->IH,wpAny_standAt->IJ,tupleKind->IT,Within->IU,wpAny_pyIter_tuple->IZ,Result->I_,concat_meets->J5,noteFrame->J8,scanBound->J9,Model->Jc,atKey->Jd,relabel->Je,wpAny_pyIter_list->Jf,wpAny_sequenceKey->Jj,builtinsNs->Jw,isTrue->Jx,wpAny_Name->Jy,typeIs_int->Jz,call->JB,wpAny_rule->JD,spliced->JJ,Builtin->JM
open List renaming length_map->Dp,size_toArray->Ds,getElem?_eq_some_iff->Dx,length_cons->DA,mem_cons_of_mem->DF,map_cons->DH,mem_cons_self->DI,mem_singleton->DJ,mem_cons->DN,mem_append_right->DR,getElem?_map->DX,replicate->E0,getElem?_eq_getElem->E2,length_append->E5,range->Ef,mem_append_left->Ei,lookup_cons->En,mem_append->Es,map_append->Et,getElem?_cons_zero->Ex,getElem?_cons_succ->Ey,mem_of_getElem?->Ez,any_cons->EB,mem_filter->EE,append_nil->EG,replicate_succ->EI,all_cons->EJ,any_eq_true->EL,length_filter_le->EM,getElem?_append_left->EN,mem_map->ET,getElem?_replicate->EY,getElem_of_mem->EZ,map_map->Fc,nodup_cons->Fd,flatten_cons->Ff,length_range->Fg,mem_range->Fj,map_nil->Fq,filter_cons->Ft,filterMap_cons->Fu,find?_cons->FC,getElem?_set->FH,length_singleton->FJ,getElem?_append->FR,all_eq_true->FT,not_mem_nil->FU,getElem?_append_right->FV,lookup->FX,eraseIdx_cons_succ->Gh,reverse_cons->Gk,append_assoc->Gm,nodup_append->Gp,length_take->Gw,length_replicate->GA,getElem?_set_ne->GH,length_nil->GQ,map_congr_left->GX,mem_filterMap->Ha,getD_eq_getElem?_getD->Hm,drop_eq_getElem_cons->Hu,getElem_inj->HB,length_drop->HF,nodup_range->HK,getElem_mem->HL,of_mem_zip->HZ,nil_append->H_,getElem?_set_self->I9,range'->Ij,foldl->IB,mem_iff_getElem->IC,getElem_toArray->ID,zip->IE,nodup_iff_count->IF,filter_sublist->IM,pairwise_map->Jl,getElem_map->Jq,countP_cons->Jr,drop_length->Jt,isEmpty_map->Ju,foldl_cons->JA,count_cons->JE,idxOf_cons->JF,nodup_nil->JO
open PySem.Heap renaming get?_push_of_some->Dw,lt_size->DK,get?_push_size->D_,size_push->FI,get?_none_of_le->GG,SameBut->IY
open Nat renaming le_refl->DL,lt_of_lt_of_le->DS,le_trans->DY,ne_of_lt->E3,lt_irrefl->EW,zero_le->FD,lt_of_le_of_lt->Hd,lt_succ_of_lt->Hr,le_of_eq->HC,lt_succ_self->HD,le_of_not_lt->HI,le_of_lt->IX
open Bool renaming false_ne_true->DM,and_eq_true->Ee,false_eq_true->Ek,eq_iff_iff->Fx,not_false->FN,not_true->Gv,and_false->Iq,not_eq_true'->Jm,or_eq_true->JH,false_and->JK,or_false->JR,false_or->JV,true_or->JZ
open PySem.Value renaming ref->DP,none->FO,builtin->FW,str->Gx,type->GD,int->HW,bool->Iu,float->Jn,isStrOf->JQ,isInt->K0,bytes->K1
open Or renaming inr->DV,inl->E7
open PyProof.Rows renaming slot_tuple_getitem->Eb,envOfC->ES,callWith_type1->F9,AllBare->Gb,step_dedup->Gf,callWith_builtin1->GK,tupleItemsOf_->Hi,subscriptTail->Hk,subscriptTail_builtinR->Ig,IntsAre->Ip,IsTup->Iv,Subscript_->IA,entry_tuple_getitem->IK,args_tuple_getitem->J6,firstMet->Js
open Option.some renaming inj->Ec,injEq->Hq
open PySem.F renaming plainAttrs_list->Ew,slot_list_count->Fw,args_tuple_add_2->G6,slot_list_append->G9,type_list_append->Ga,entry_tuple_add->Gg,slot_tuple_add->Gq,args_list_count_2->Ht,entry_list_count->HM,slot_list_remove->HQ,slot_tuple_count->HR,slot_list_index->HU,type_list_count->HV
open PySem.NameKind renaming free->EC,cell->II
open False renaming elim->EF
open Ne renaming symm->E_
open PySem.PassesOwn renaming leaving->Fh
open PySem.Builtin.Slice renaming slicePlaces->Fi,sliceAdjust->G1,sliceApplied->Hg
open PySem.Builtin.Tuple renaming tupleExact->Fp,tupleItemsOf->Hh,tupleIsExact->Hl
open PySem.Builtin.List renaming listTooLong->Fs
open True renaming intro->Fy
open PySem.Calls renaming evalArgs_plain->FQ,callWith_builtin->Gs,Name_function_global->Hf,spliced_cons->J4,spliced_nil->Ji
open Option renaming map_some->G2,isSome_map->Jk,getD_none->Jp,none->K2
open PySem.Str renaming ofString->G7,empty->JP
open PySem.SeqAt.EqAt renaming bool_bool->G8,int_int->Gr,int_str->IQ,str_int->IS
open PySem.Builtin.Getset_descriptor renaming descrGet->Gn,descrCheckInstance->Ii,descrNameAndClass->Ik,descrGetter->IP
open ForInStep renaming yield->GN
open Int renaming natAbs->GR,emod_nonneg->GS,emod_lt_of_pos->He
open Array renaming length_toList->GV,append_assoc->IV,getD->JC,toList->JX
open Sum renaming inl->Hv,inr->Hw
open PySem.SeqAt renaming list_countAt->HN
open List.Perm renaming refl->Ir,cons->JL
open PySem.Paired renaming length->IG
open PySem.Around renaming under->J0
open PySem.Code renaming isFrame->J3,quiet_builtin->Ja
open PySem.Heap.IsSliceOf renaming new->J7
open PySem.W.KF renaming slot_gs->Jb
open PySem.Builtin.ObjectAttr renaming takesStores->JG,bindTo->JW,find->J_
open PySem.Builtin.Frozenset renaming updateFrom->JN
open PySem.Data renaming seq->JY
open PySem.MeetsSeq.EqGives renaming int->K3
local macro_rules | `(tactic| omega) => `(tactic| lia)
noncomputable section
namespace L2
open PySem PySem.Spec PyProof.Rows
abbrev cn:=Sum Int Dj
def mv:cn->Di->Bool
 | .inl k,v=>K0 k v
 | .inr x,v=>JQ x v
def BI (w:DG):cn->Int
 | .inl k=>hashInt k
 | .inr x=>hashStr w x
theorem bL:∀{k:cn} {v:Di},mv k v=true->(∃i t,k=Hv i/\v=HW i t)\/(∃x t,k=Hw x/\v=Gx x t)
 | .inl i,v,h=>by
  obtain⟨t,e⟩:=Value.isInt_shape (k:=i) (v:=v) h
  exact .inl ⟨i,t,rfl,e⟩
 | .inr x,v,h=>by
  obtain⟨t,e⟩:=Value.isStrOf_shape (x:=x) (v:=v) h
  exact .inr ⟨x,t,rfl,e⟩
theorem s9 (i:Int) (t:GC):mv (.inl i) (.int i t)=true:=by simp[mv,K0]
theorem sd (x:Dj) (t:GC):mv (.inr x) (.str x t)=true:=by simp[mv,JQ]
theorem yt (a b:Int):decide ((Hv a:cn)=Hv b)=(a==b):=by
 by_cases e:a=b
 ·subst e;simp
 ·have h:¬(Hv a:cn)=Hv b:=λq=>e (Sum.inl.inj q)
  rw[decide_eq_false h]
  exact(beq_eq_false_iff_ne.mpr e).symm
theorem yu (a b:Dj):decide ((Hw a:cn)=Hw b)=decide (a=b):=by
 by_cases e:a=b
 ·subst e;simp
 ·have h:¬(Hw a:cn)=Hw b:=λq=>e (Sum.inr.inj q)
  rw[decide_eq_false h,decide_eq_false e]
theorem yv (a:Int) (b:Dj):decide ((Hv a:cn)=Hw b)=false:=decide_eq_false (λq=>nomatch q)
theorem yw (a:Dj) (b:Int):decide ((Hw a:cn)=Hv b)=false:=decide_eq_false (λq=>nomatch q)
def du (prog:Dy) (w:DG):PySem.KeyKind prog w cn where
 is:=mv
 hash:=BI w
 inj:=λv a b ha hb=>by
  rcases bL ha with ⟨i,t,rfl,rfl⟩|⟨x,t,rfl,rfl⟩
  ·rcases bL hb with ⟨j,u,rfl,e⟩|⟨y,u,rfl,e⟩
   ·injection e with e1 _;rw[e1]
   ·exact nomatch e
  ·rcases bL hb with ⟨j,u,rfl,e⟩|⟨y,u,rfl,e⟩
   ·exact nomatch e
   ·injection e with e1 _;rw[e1]
 byValue:=λk v h=>by
  rcases bL h with ⟨i,t,rfl,rfl⟩|⟨x,t,rfl,rfl⟩<;>rfl
 pyHash:=λhv h=>by
  rcases bL hv with ⟨i,t,rfl,rfl⟩|⟨x,t,rfl,rfl⟩
  ·exact wpAny_pyHash_int h
  ·exact wpAny_pyHash_str h
 eqBool:=λhu hv h=>by
  rcases bL hu with ⟨i,t,rfl,rfl⟩|⟨x,t,rfl,rfl⟩
  ·rcases bL hv with ⟨j,u,rfl,rfl⟩|⟨y,u,rfl,rfl⟩
   ·rw[yt]at h;exact wpAny_eqBool_int h
   ·rw[yv]at h;exact IQ i t y u _ _ _ _ h
  ·rcases bL hv with ⟨j,u,rfl,rfl⟩|⟨y,u,rfl,rfl⟩
   ·rw[yw]at h;exact IS x t j u _ _ _ _ h
   ·rw[yu]at h;exact wpAny_eqBool_str h
 «strs»:=λk x t v h=>by
  rcases bL h with ⟨i,u,rfl,e⟩|⟨y,u,rfl,e⟩
  ·exact nomatch e
  ·injection e with e1 _
   subst e1
   cases v<;>rfl
theorem oH (prog:Dy) (w:DG) (i:Int) (t:GC):(du prog w).is (.inl i) (.int i t)=true:=s9 i t
theorem oI (prog:Dy) (w:DG) (x:Dj) (t:GC):(du prog w).is (.inr x) (.str x t)=true:=sd x t
end L2
namespace L2
open PySem PySem.Spec PyProof.Rows
inductive V where
 |non|bl (b:Bool)|int (i:Int)|str (x:Dj)|byt (b:Array UInt8)|flt (b:UInt64)|ref (a:Dk)|ty (n:String)
 deriving DecidableEq
def b9:V->Di->Prop
 | .non,u=>u=FO
 | .bl b,u=>u=Iu b
 | .int i,u=>∃t,u=HW i t
 | .str x,u=>∃t,u=Gx x t
 | .byt b,u=>∃t,u=K1 b t
 | .flt b,u=>∃t,u=Jn b t
 | .ref a,u=>u=DP a
 | .ty n,u=>u=GD n
abbrev aI:List V->List Di->Prop:=Paired b9
theorem aI.length {xs:List V} {us:List Di} (r:aI xs us):xs.length=us.length:=IG r
theorem aI.get:∀{xs:List V} {us:List Di} {i:Nat} {x:V},aI xs us->xs[i]? =some x->∃u,us[i]? =some u/\b9 x u
 |_,_,_,_, .nil,e=>by simp at e
 |_,_,0,_, .cons r _,e=>by simp at e;subst e;exact⟨_,rfl,r⟩
 |_,_,i+1,x, .cons _ t,e=>by
  obtain⟨u,h1,h2⟩:=aI.get (i:=i) (x:=x) t (by simpa using e)
  exact⟨u,by simpa using h1,h2⟩
theorem aI.set {x:V} {u:Di} (r:b9 x u):∀{xs:List V} {us:List Di} (i:Nat),aI xs us->aI (xs.set i x) (us.set i u)
 |_,_,_, .nil=> .nil
 |_,_,0, .cons _ t=> .cons r t
 |_,_,i+1, .cons q t=> .cons q (aI.set r i t)
theorem aI.append:∀{xs ys:List V} {us ws:List Di},aI xs us->aI ys ws->aI (xs++ys) (us++ws)
 |_,_,_,_, .nil,s=>s
 |_,_,_,_, .cons r t,s=> .cons r (aI.append t s)
theorem aI.take:∀{xs:List V} {us:List Di} (n:Nat),aI xs us->aI (xs.take n) (us.take n)
 |_,_,0,_=> .nil
 |_,_,_+1, .nil=> .nil
 |_,_,n+1, .cons r t=> .cons r (aI.take n t)
theorem aI.drop:∀{xs:List V} {us:List Di} (n:Nat),aI xs us->aI (xs.drop n) (us.drop n)
 |_,_,0,r=>r
 |_,_,_+1, .nil=> .nil
 |_,_,n+1, .cons _ t=>aI.drop n t
def gI:Option V->Option Di->Prop
 |some v,some u=>b9 v u
 |none,none=>True
 |_,_=>False
def KV {κ:Type}:List (κ×V)->List (κ×Di)->Prop:=Paired λ(p:κ×V) (q:κ×Di)=>p.1=q.1/\b9 p.2 q.2
def kV:cn->V
 | .inl i=> .int i
 | .inr x=> .str x
inductive HO where
 |lst (xs:List V)
 |tup (xs:List V)
 |dK (Ke:List (cn×V))|dT (Ke:List (List cn×V))
 |set (S:Int->Bool) (n:Nat)
 |ins (C dx:Dk) (fs:List (Dj×V))
 |own (x:Dk)
 |xd (fs:List (Dj×V))
 |met (f x:Dk)
 |rng (lo hi:Int)
 |frz (o:DT) (u:HO)
 |tbl (ps:Array Di)
 |ext (φ:DE->Prop)
abbrev Hp:=Dk->Option HO
def bc (H:Hp) (a:Dk) (o:HO):Hp:=λb=>if b=a then some o else H b
theorem aq {H:Hp} {a:Dk} {o:HO}:bc H a o a=some o:=by unfold bc;rw[if_pos rfl]
theorem al {H:Hp} {a b:Dk} {o:HO} (h:b≠a):bc H a o b=H b:=by unfold bc;rw[if_neg h]
theorem eL {H:Hp} {a b:Dk} {o:HO} (h:H a=some o) (h':H b=none):a≠b:=by
 intro e;subst e;rw[h]at h';cases h'
def fD (h:DE) (a:Dk) (K8:Array Di):Prop:=∃o,h.get? a=some o/\o.cls= .type "tuple"/\∃n,o.data= .seq K8 n/\o.dict=none
theorem fD.tup {h:DE} {a:Dk} {K8:Array Di} (x:fD h a K8):Iv h a K8:=let ⟨o,ho,hc,n,hd,_⟩:=x;⟨o,ho,hc,n,hd⟩
theorem fD.lt {h:DE} {a:Dk} {K8:Array Di} (x:fD h a K8):a<h.objs.size:=x.tup.lt
theorem fD.new (h:DE) (K8:Array Di):fD (h.push {cls:= .type "tuple",data:= .seq K8}) h.objs.size K8:=⟨_,D_ _ rfl,rfl,_,rfl,rfl⟩
section
variable (P:Dy) (w:DG)
def bB (H:Hp) (h:DE) (a:Dk):HO->Prop
 | .lst xs=>xs.length<=sizeLine/\∃(its:List Di) (n:Nat),aI xs its/\h.get? a=some {cls:= .type "list",data:= .seq its.toArray n}
 | .tup xs=>xs.length<=sizeLine/\∃its:List Di,aI xs its/\fD h a its.toArray
 | .dK Ke=>Ke.length<=sizeLine/\(a==sysModules)=false/\∃vs,KV Ke vs/\h.DictOf (du P w) a vs
 | .dT Ke=>Ke.length<=sizeLine/\(a==sysModules)=false/\∃xs:List (List cn×Dk×Di),
   Paired (λ(p:List cn×V) (q:List cn×Dk×Di)=>p.1=q.1/\H q.2.1=some (.tup (p.1.map kV))/\b9 p.2 q.2.2) Ke xs/\
   ∃o es ep,h.get? a=some o/\o.ExactDict/\o.data= .dict es ep/\es.toList=xs.map (entryOfKey (IT (du P w)))/\(xs.map (·.1)).Nodup
 | .set S n=>h.SetOf (intKind P w) a S n
 | .ins C dx fs=>H dx=some (.own a)/\fs.length<=1000/\dx≠a/\h.get? a=some (ER C dx)/\
   ∃mA,h.Ns1 dx mA/\(∀f,gI (fs.lookup f) (mA f))/\IU mA (fs.map (·.1))
 | .own _=>∃o,h.get? a=some o
 | .xd fs=>∃mA,h.Ns1 a mA/\∀f,gI (fs.lookup f) (mA f)
 | .rng lo hi=>∃t u v,h.get? a=some {cls:= .type "range",data:= .fields #[.int lo t, .int hi u, .int 1 v]}
 | .frz o u=>h.get? a=some o/\bB H h a u
 | .tbl ps=>h.get? a=some {cls:= .none,data:= .fields ps}
 | .met f x=>h.get? a=some (Hn (.ref f) (.ref x))
 | .ext φ=>φ h/\(∃o,h.get? a=some o)/\∀h1 h2:DE,φ h1->(∀o,h1.get? a=some o->h2.get? a=some o)->φ h2
def iA (H:Hp) (h:DE):Prop:=∀a o,H a=some o->bB P w H h a o
end
section
variable {P:Dy} {w:DG} {H H':Hp} {h h':DE} {a:Dk} {o:HO}
theorem bB.lt (x:bB P w H h a o):a<h.objs.size:=by
 cases o with
 |lst xs=>obtain⟨_,_,_,_,e⟩:=x;exact DK e
 |tup xs=>obtain⟨_,_,_,p⟩:=x;exact p.lt
 |dK Ke=>obtain⟨_,_,_,_,o,_,_,e,_⟩:=x;exact DK e
 |dT Ke=>obtain⟨_,_,_,_,o,_,_,e,_⟩:=x;exact DK e
 |set S n=>obtain⟨o,_,_,_,e,_⟩:=x;exact DK e
 |ins C dx fs=>obtain⟨_,_,_,e,_⟩:=x;exact DK e
 |own y=>obtain⟨_,e⟩:=x;exact DK e
 |xd fs=>obtain⟨_,⟨_,_,_,e,_⟩,_⟩:=x;exact DK e
 |rng lo hi=>obtain⟨_,_,_,e⟩:=x;exact DK e
 |frz ob u=>obtain⟨e,_⟩:=x;exact DK e
 |tbl ps=>exact DK (show h.get? a=some _ from x)
 |met f y=>exact DK (show h.get? a=some _ from x)
 |ext φ=>obtain⟨_,⟨_,e⟩,_⟩:=x;exact DK e
theorem Paired.mapP {α β:Type} {F G:α->β->Prop}:∀{l₁:List α} {l₂:List β},Paired F l₁ l₂->(∀a b,F a b->G a b)->Paired G l₁ l₂
 |_,_, .nil,_=> .nil
 |_,_, .cons r t,f=> .cons (f _ _ r) (Paired.mapP t f)
theorem bB.stay (x:bB P w H h a o) (k:∀b u,(b=a\/H b=some (.own a))->h.get? b=some u->h'.get? b=some u)
  (ho:∀b,H b=some (.own a)->H' b=some (.own a)) (ht:∀b xs,H b=some (.tup xs)->H' b=some (.tup xs)):bB P w H' h' a o:=by
 induction o with
 |lst xs=>obtain⟨z,its,n,r,e⟩:=x;exact⟨z,its,n,r,k _ _ (.inl rfl) e⟩
 |tup xs=>obtain⟨z,its,r,ob,e,c⟩:=x;exact⟨z,its,r,ob,k _ _ (.inl rfl) e,c⟩
 |dK Ke=>obtain⟨z,y,vs,r,ob,es,ep,e,c⟩:=x;exact⟨z,y,vs,r,ob,es,ep,k _ _ (.inl rfl) e,c⟩
 |dT Ke=>
  obtain⟨z,y,xs,r,ob,es,ep,e,c⟩:=x
  exact⟨z,y,xs,Paired.mapP r λp q z=>⟨z.1,ht _ _ z.2.1,z.2.2⟩,ob,es,ep,k _ _ (.inl rfl) e,c⟩
 |set S n=>obtain⟨ob,es,ep,t,e,c⟩:=x;exact⟨ob,es,ep,t,k _ _ (.inl rfl) e,c⟩
 |ins C dx fs=>
  obtain⟨d,z,ne,e,mA,⟨od,es,ep,e2,c⟩,r⟩:=x
  exact⟨ho _ d,z,ne,k _ _ (.inl rfl) e,mA,⟨od,es,ep,k _ _ (.inr d) e2,c⟩,r⟩
 |own y=>obtain⟨ob,e⟩:=x;exact⟨ob,k _ _ (.inl rfl) e⟩
 |xd fs=>obtain⟨mA,⟨od,es,ep,e,c⟩,r⟩:=x;exact⟨mA,⟨od,es,ep,k _ _ (.inl rfl) e,c⟩,r⟩
 |rng lo hi=>obtain⟨t,u,v,e⟩:=x;exact⟨t,u,v,k _ _ (.inl rfl) e⟩
 |frz ob u ih=>obtain⟨e,q⟩:=x;exact⟨k _ _ (.inl rfl) e,ih q⟩
 |tbl ps=>
  have e:h.get? a=some {cls:= .none,data:= .fields ps}:=x
  show h'.get? a=some {cls:= .none,data:= .fields ps}
  exact k a _ (.inl rfl) e
 |met f y=>
  have e:h.get? a=some (Hn (.ref f) (.ref y)):=x
  show h'.get? a=some (Hn (.ref f) (.ref y))
  exact k a _ (.inl rfl) e
 |ext φ=>obtain⟨p,⟨o,e⟩,st⟩:=x;exact⟨st _ _ p λo q=>k _ _ (.inl rfl) q,⟨o,k _ _ (.inl rfl) e⟩,st⟩
theorem iA.lt (x:iA P w H h) (e:H a=some o):a<h.objs.size:=(x a o e).lt
theorem iA.fresh (x:iA P w H h) (e:h.objs.size<=a):H a=none:=by
 cases q:H a with
 |none=>rfl
 |some u=>exact absurd (DS (x.lt q) e) (EW _)
theorem iA.kept (x:iA P w H h) (k:∀b u,h.get? b=some u->h'.get? b=some u):iA P w H h':=λa o e=>
 (x a o e).stay (λb u _ q=>k b u q) (λ_ q=>q) λ_ _ q=>q
theorem iA.laid (x:iA P w H h) (k:∀b u,h.get? b=some u->h'.get? b=some u) (hp:h.objs.size<=a) (new:bB P w (bc H a o) h' a o):iA P w (bc H a o) h':=λb u e=>by
 have hn:=x.fresh hp
 by_cases hb:b=a
 ·subst hb;rw[aq]at e;cases e;exact new
 ·rw[al hb]at e
  exact(x b u e).stay (λc v _ q=>k c v q) (λc q=>by rw[al (eL q hn)];exact q) λc xs q=>by rw[al (eL q hn)];exact q
end
def Rd (H:Hp) (a:Dk) (u:HO):Prop:=H a=some u\/∃o,H a=some (.frz o u)
theorem Rd.of {H:Hp} {a:Dk} {u:HO} (h:H a=some u):Rd H a u:= .inl h
theorem Rd.ok {P:Dy} {w:DG} {H:Hp} {h:DE} {a:Dk} {u:HO} (r:Rd H a u) (x:iA P w H h):bB P w H h a u:=by
 rcases r with r|⟨o,r⟩
 ·exact x a u r
 ·obtain⟨_,q⟩:=x a _ r
  exact q
def Br:Option HO->Prop
 |some (.lst _)=>True
 |some (.dK _)=>True
 |some (.dT _)=>True
 |some (.set _ _)=>True
 |some (.ins _ _ _)=>True
 |some (.ext _)=>True
 |_=>False
section
variable {P:Dy} {w:DG} {H:Hp} {h h':DE} {x e:Dk} {o':HO}
theorem iA.write (ok:iA P w H h) (mu:Br (H x)) (he:e=x\/H e=some (.own x)) (k:∀b u,b≠e->h.get? b=some u->h'.get? b=some u) (Oh:∃u,h'.get? e=some u)
  (new:bB P w (bc H x o') h' x o'):iA P w (bc H x o') h':=λb u q=>by
 have Ow:∀c y,H c=some (.own y)->c≠x:=λc y r z=>by subst z;rw[r]at mu;exact mu
 have Pl:∀c xs,H c=some (.tup xs)->c≠x:=λc xs r z=>by subst z;rw[r]at mu;exact mu
 by_cases hb:b=x
 ·subst hb;rw[aq]at q;cases q;exact new
 ·rw[al hb]at q
  by_cases NP:b=e
  ·have q':H b=some (.own x):=by
    rcases he with z|z
    ·exact absurd (NP.trans z) hb
    ·rw[NP];exact z
   rw[q]at q';cases q'
   obtain⟨v,hv⟩:=Oh
   exact⟨v,by rw[NP];exact hv⟩
  ·refine(ok b u q).stay (λc v hc r=>k c v ?_ r) (λc r=>by rw[al (Ow c b r)];exact r) λc xs r=>by rw[al (Pl c xs r)];exact r
   rcases hc with rfl|hc
   ·exact NP
   ·rintro rfl
    rcases he with z|z
    ·exact Ow c b hc z
    ·rw[hc]at z;cases z;exact hb rfl
end
structure Un (fs ex:List Dk) (H H':Hp) (h h':DE):Prop where
 keep:∀b o,h.get? b=some o->H b=none->b∉fs->b∉ex->h'.get? b=some o
 slot:∀b o,h.get? b=some o->H b=none->b∈fs->b∉ex->∃sl,h'.get? b=some {o with slots:=sl}
 free:∀b o,h.get? b=some o->H b=none->b∉ex->H' b=none
 there:∀b o,h.get? b=some o->b∉ex->∃o',h'.get? b=some o'
 tups:∀b xs,H b=some (.tup xs)->H' b=some (.tup xs)
 frzs:∀b o u,H b=some (.frz o u)->H' b=some (.frz o u)
 tbls:∀b ps,H b=some (.tbl ps)->∃Nb,H' b=some (.tbl (ps++Nb))
section
variable {fs MG ex Sw:List Dk} {H H1 H2:Hp} {h h1 h2 h':DE} {a x e:Dk} {o:HO}
theorem Un.any (u:Un fs ex H H1 h h1) {b:Dk} {ob:DT} (q:h.get? b=some ob) (n:H b=none) (hx:b∉ex):∃sl,h1.get? b=some {ob with slots:=sl}:=by
 by_cases hb:b∈fs
 ·exact u.slot b ob q n hb hx
 ·exact⟨ob.slots,u.keep b ob q n hb hx⟩
theorem Un.trans (a:Un fs ex H H1 h h1) (b:Un fs ex H1 H2 h1 h2):Un fs ex H H2 h h2 where
 keep:=λc ob q n hc hx=>b.keep c ob (a.keep c ob q n hc hx) (a.free c ob q n hx) hc hx
 slot:=λc ob q n hc hx=>by
  obtain⟨sl,e1⟩:=a.slot c ob q n hc hx
  obtain⟨NF,e2⟩:=b.slot c _ e1 (a.free c ob q n hx) hc hx
  exact⟨NF,e2⟩
 free:=λc ob q n hx=>by
  obtain⟨o',e1⟩:=a.there c ob q hx
  exact b.free c o' e1 (a.free c ob q n hx) hx
 there:=λc ob q hx=>by
  obtain⟨o',e1⟩:=a.there c ob q hx
  exact b.there c o' e1 hx
 tups:=λc xs q=>b.tups c xs (a.tups c xs q)
 frzs:=λc ob xs q=>b.frzs c ob xs (a.frzs c ob xs q)
 tbls:=λc ps q=>by
  obtain⟨m1,e1⟩:=a.tbls c ps q
  obtain⟨m2,e2⟩:=b.tbls c _ e1
  exact⟨m1++m2,by rw[e2,IV]⟩
theorem Un.kept (k:∀b u,h.get? b=some u->h'.get? b=some u):Un fs ex H H h h':=
 ⟨λb ob q _ _ _=>k b ob q,λb ob q _ _ _=>⟨ob.slots,k b ob q⟩,λ_ _ _ n _=>n,λb ob q _=>⟨ob,k b ob q⟩,λ_ _ q=>q,λ_ _ _ q=>q,λ_ ps q=>⟨#[],by rw[q];simp⟩⟩
theorem Un.refl:Un fs ex H H h h:=Un.kept λ_ _ q=>q
theorem Un.laid (k:∀b u,h.get? b=some u->h'.get? b=some u) (hp:h.objs.size<=a) (hn:H a=none):Un fs ex H (bc H a o) h h' where
 keep:=λb u q _ _ _=>k b u q
 slot:=λb u q _ _ _=>⟨u.slots,k b u q⟩
 free:=λb u q n _=>by rw[al (E3 (DS (DK q) hp))];exact n
 there:=λb u q _=>⟨u,k b u q⟩
 tups:=λb xs q=>by rw[al (eL q hn)];exact q
 frzs:=λb u xs q=>by rw[al (eL q hn)];exact q
 tbls:=λb ps q=>⟨#[],by rw[al (eL q hn),q];simp⟩
theorem Un.write (mu:Br (H x)) (he:e=x\/H e=some (.own x)) (k:∀b u,b≠e->h.get? b=some u->h'.get? b=some u) (Oh:∃u,h'.get? e=some u):Un fs ex H (bc H x o) h h':=by
 have hx:∀b,H b=none->b≠x:=λb n z=>by subst z;rw[n]at mu;exact mu
 have hb:∀b,H b=none->b≠e:=λb n z=>by
  subst z
  rcases he with r|r
  ·exact hx b n r
  ·rw[n]at r;cases r
 have hm:∀b u,H b=some u->¬Br (some u)->b≠x:=λb u q nm z=>by subst z;rw[q]at mu;exact nm mu
 refine⟨λb u q n _ _=>k b u (hb b n) q,λb u q n _ _=>⟨u.slots,k b u (hb b n) q⟩,λb u q n _=>by rw[al (hx b n)];exact n,λb u q _=> ?_,
  λb xs q=>by rw[al (hm b _ q λz=>z)];exact q,λb u xs q=>by rw[al (hm b _ q λz=>z)];exact q,λb ps q=>⟨#[],by rw[al (hm b _ q λz=>z),q];simp⟩⟩
 by_cases NP:b=e
 ·subst NP;exact Oh
 ·exact⟨u,k b u NP q⟩
end
def Bs (h:DE) (H:Hp):List Dk:=(Ef h.objs.size).filter λa=>(H a).isSome
def nA (h:DE) (H:Hp):DE:=Jv h (Bs h H)
theorem se (h:DE) (H:Hp):(nA h H).objs.size=h.objs.size:=PySem.W.hideAll_size _ _
theorem tP {h:DE} {H:Hp} {b:Dk} {o:DT} (e:h.get? b=some o) (n:H b=none):(nA h H).get? b=some o:=
 GU _ e λhm=>by
  have q:(H b).isSome=true:=(EE.mp hm).2
  rw[n]at q;simp at q
theorem w9 {h:DE} {H:Hp} {b:Dk} {o:DT} (e:(nA h H).get? b=some o):h.get? b=some o/\H b=none:=by
 have e':h.get? b=some o:=IW (Bs h H) e
 refine⟨e',?_⟩
 cases q:H b with
 |none=>rfl
 |some x=>
  have hm:b∈Bs h H:=EE.mpr ⟨Fj.mpr (DK e'),by simp[q]⟩
  have z:(nA h H).get? b=none:=GF (Bs h H) hm
  rw[z]at e;cases e
def wa (g h:DE) (L:Dk):List (Dk×DT):=(Ef h.objs.size).filterMap λa=>if a=L\/(g.get? a).isSome=true then none else (h.get? a).map λo=>(a,o)
def rest (g h:DE) (L d:Dk):List (Dk×DT):=(wa g h L).filter λp=>decide (p.1≠d)
end L2
namespace L2
open PySem PySem.Spec PyProof.Rows
structure Mod (K:Dh) (mg:Dj->Option Di) (base:DE):Prop where
 kin:K.In base
 glob:base.Ns Dt mg
 blt:∃mb,base.Ns Jw mb/\∀x:Dj,x≠"__name__"->mb x=E4 x
 nolimit:base.NoLimit
structure Cx where
 prog:Dy
 w:DG
 K:Dh
 mg:Dj->Option Di
 base:DE
 A:DO
 N:List Dj
 s₀:Dl
 H₀:Hp
 env:EO
 outer:List EO
 stack:List EO
 ex:List Dk
 fn:Dj->Bool
 calm:Bool
 pn:List (Dk×DT)
 xe:Di->Dl->Prop
def kC (l:List EO):List Dk:=l.filterMap (·.frame)
abbrev Cx.fs (X:Cx):List Dk:=kC X.outer
def kD (sc:EX) (x:Dj):Prop:=sc.names.lookup x=some .local\/sc.names.lookup x=some .cell\/sc.names.lookup x=some .free
def tM (sc:EX) (x:Dj):Prop:=sc.names.lookup x=some .local\/sc.names.lookup x=some .cell
def BJ (env:EO) (h:DE) (m:Dj->Option Di) (x:Dj) (u:Di):Prop:=
 (env.kindOf x=some .local/\m x=some u)\/((env.kindOf x=some .cell\/env.kindOf x=some .free)/\∃c,env.cells.lookup x=some c/\h.IsCell c (some u))
structure Cx.Ok (X:Cx):Prop where
 mod:Mod X.K X.mg X.base
 kind:X.env.scope.kind= .function
 glob:X.env.globals=Dt
 blt:X.env.builtins=Jw
 above:X.s₀.heap.objs.size<=X.env.locals
 inj:∀x y c,X.env.cells.lookup x=some c->X.env.cells.lookup y=some c->x=y
 has:∀x,(X.env.kindOf x=some .cell\/X.env.kindOf x=some .free)->∃c,X.env.cells.lookup x=some c
 cab:∀x c,X.fn x=true->X.env.cells.lookup x=some c->X.s₀.heap.objs.size<=c
 hd:X.calm=true->X.A.handled=none
 frames:X.A.frames=some X.stack
 stk:X.stack=X.outer\/(X.stack=X.env::X.outer/\X.env.frame=some X.env.locals)
 exf:∀b∈X.ex,b≠X.env.locals/\∀x c,X.env.cells.lookup x=some c->c≠b
 bs:∀b o,X.base.get? b=some o->X.s₀.heap.get? b=some o/\X.H₀ b=none
 bsz:X.base.objs.size<=X.s₀.heap.objs.size
 noex:∀b o,X.base.get? b=some o->b∉X.ex
 exfs:∀b∈X.ex,b∉X.fs
 funs:X.s₀.heap.FunFrames X.base X.outer
 frf:∀b∈X.fs,X.H₀ b=none
structure aw (X:Cx) (K4:List (Dk×DT)) (σ:List (Option V)) (H:Hp) (s:Dl):Prop where
 ok:X.Ok
 os:s.os=X.s₀.os
 bare:Gb s.gens
 base:Un X.fs X.ex X.H₀ H X.s₀.heap s.heap
 loc:∃m,s.heap.Ns X.env.locals m/\∀(i:Nat) (x:Dj) (v:V),X.N[i]? =some x->σ[i]? =some (some v)->kD X.env.scope x->∃u,b9 v u/\BJ X.env s.heap m x u
 cell:∀x c,X.env.cells.lookup x=some c->∃v,s.heap.IsCell c v
 free:H X.env.locals=none
 freeC:∀x c,X.env.cells.lookup x=some c->H c=none
 pin:∀p∈X.pn++K4,s.heap.get? p.1=some p.2/\H p.1=none/\p.1≠X.env.locals/\p.1∉X.fs/\∀v,p.2.data≠ .cell v
 hok:iA X.prog X.w H s.heap
 len:σ.length=X.N.length
section
variable {X:Cx} {K4:List (Dk×DT)} {σ:List (Option V)} {H H':Hp} {s:Dl} {h':DE}
theorem Cx.Ok.nofr (ok:X.Ok) {b:Dk} {o:DT} (e:X.base.get? b=some o):b∉X.fs:=λhb=>by
 have:=(ok.funs.mem hb).1
 rw[e]at this;cases this
theorem aw.bs (I:aw X K4 σ H s):∀b o,X.base.get? b=some o->s.heap.get? b=some o/\H b=none:=λb o e=>
 ⟨I.base.keep b o (I.ok.bs b o e).1 (I.ok.bs b o e).2 (I.ok.nofr e) (I.ok.noex b o e),I.base.free b o (I.ok.bs b o e).1 (I.ok.bs b o e).2 (I.ok.noex b o e)⟩
theorem aw.bk (I:aw X K4 σ H s):∀b o,X.base.get? b=some o->s.heap.get? b=some o:=λb o e=>(I.bs b o e).1
theorem aw.mod (I:aw X K4 σ H s):Mod X.K X.mg X.base:=I.ok.mod
theorem aw.kIn (I:aw X K4 σ H s):X.K.In s.heap:=I.ok.mod.kin.keeps I.bk
theorem aw.fr (I:aw X K4 σ H s):∃m,Fr X.base X.env.locals s.heap m:=
 let ⟨m,hn,_⟩:=I.loc
 ⟨m,hn,I.bk,DY I.ok.bsz I.ok.above⟩
theorem aw.lt (I:aw X K4 σ H s):X.env.locals<s.heap.objs.size:=let ⟨_,hn,_⟩:=I.loc;hn.lt
theorem aw.sz (I:aw X K4 σ H s):X.s₀.heap.objs.size<=s.heap.objs.size:=DY I.ok.above (IX I.lt)
theorem aw.nofs (I:aw X K4 σ H s) {a:Dk} (h:s.heap.objs.size<=a):a∉X.fs:=λhb=>by
 obtain⟨_,o,ho,_⟩:=I.ok.funs.mem hb
 exact absurd (DS (DK ho) (DY I.sz h)) (EW _)
theorem aw.cne (I:aw X K4 σ H s):∀x c,X.env.cells.lookup x=some c->c≠X.env.locals:=λx c e z=>by
 obtain⟨v,o,ho,hd⟩:=I.cell x c e
 obtain⟨m,⟨o',es,ep,Nm,Pm,_⟩,_⟩:=I.loc
 rw[z,Nm]at ho;cases ho;rw[Pm]at hd;cases hd
theorem aw.funs (I:aw X K4 σ H s):s.heap.FunFrames X.base X.outer:=by
 have all:∀(l:List EO),(∀b∈kC l,b∈X.fs)->X.s₀.heap.FunFrames X.base l->s.heap.FunFrames X.base l:=by
  intro l
  induction l with
  |nil=>intro _ _;trivial
  |cons env r ih=>
   intro hs hl
   obtain⟨hk,⟨L,o,hf,hn,ho,hd⟩,hr⟩:=hl
   have hL:L∈X.fs:=hs L (by unfold kC;rw[Fu,hf];exact DI)
   obtain⟨sl,e⟩:=I.base.slot L o ho (I.ok.frf L hL) hL λz=>I.ok.exfs L z hL
   exact⟨hk,⟨L,_,hf,hn,e,hd⟩,ih (λb hb=>hs b (by unfold kC;rw[Fu,hf];exact DF _ hb)) hr⟩
 exact all X.outer (λ_ hb=>hb) I.ok.funs
theorem aw.stack (I:aw X K4 σ H s):s.heap.FunFrames X.base X.stack:=by
 rcases I.ok.stk with e|⟨e,hf⟩
 ·rw[e];exact I.funs
 ·rw[e]
  obtain⟨m,hn,_⟩:=I.loc
  refine .cons (by rw[I.ok.kind];decide) hf hn ?_ I.funs
  exact GG (DY I.ok.bsz I.ok.above)
theorem aw.stkSub (I:aw X K4 σ H s):∀b∈kC X.stack,b∈X.env.locals::X.fs:=λb hb=>by
 rcases I.ok.stk with e|⟨e,hf⟩
 ·rw[e]at hb;exact DF _ hb
 ·rw[e]at hb
  unfold kC at hb
  rw[Fu,hf]at hb
  exact hb
theorem aw.stkFree (I:aw X K4 σ H s):∀b∈kC X.stack,H b=none:=λb hb=>by
 rcases DN.mp (I.stkSub b hb)with e|hb
 ·rw[e];exact I.free
 ·obtain⟨_,o,ho,_⟩:=I.ok.funs.mem hb
  exact I.base.free b o ho (I.ok.frf b hb) λz=>I.ok.exfs b z hb
theorem aw.step {g':Array HA} {t':Nat} {d':Drawn} {ch:List Dk} (I:aw X K4 σ H s)
  (Nc:∀b∈ch,(b∈X.ex\/X.s₀.heap.get? b=none)/\b≠X.env.locals/\(∀x c,X.env.cells.lookup x=some c->c≠b)/\∀p∈X.pn++K4,p.1≠b)
  (keep:∀b o,b≠X.env.locals->b∉X.fs->b∉ch->s.heap.get? b=some o->H b=none->h'.get? b=some o)
  (slot:∀b o,b≠X.env.locals->b∈X.fs->b∉ch->s.heap.get? b=some o->H b=none->∃sl,h'.get? b=some {o with slots:=sl}) (free:∀b o,b∉ch->s.heap.get? b=some o->H b=none->H' b=none)
  (there:∀b o,b∉ch->s.heap.get? b=some o->∃o',h'.get? b=some o')
  (tups:∀b xs,H b=some (.tup xs)->H' b=some (.tup xs)) (frzs:∀b o u,H b=some (.frz o u)->H' b=some (.frz o u)) (tbls:∀b ps,H b=some (.tbl ps)->∃Nb,H' b=some (.tbl (ps++Nb)))
  (ns:∀m,s.heap.Ns X.env.locals m->h'.Ns X.env.locals m) (hok:iA X.prog X.w H' h') (hg:Gb g'):
  aw X K4 σ H' {s with heap:=h',gens:=g',drawn:=d',toks:=t'}:=by
 have NG:∀b o,X.s₀.heap.get? b=some o->b≠X.env.locals:=λb o e=>E3 (DS (DK e) I.ok.above)
 have neC:∀b o,X.s₀.heap.get? b=some o->b∉X.ex->b∉ch:=λb o e hx hb=>by
  rcases(Nc b hb).1 with z|z
  ·exact hx z
  ·rw[e]at z;cases z
 have NH:∀x c,X.env.cells.lookup x=some c->∀v,s.heap.IsCell c v->h'.IsCell c v:=λx c e v ⟨o,ho,hd⟩=>by
  have Ox:c∉ch:=λz=>(Nc c z).2.2.1 x c e rfl
  by_cases hc:c∈X.fs
  ·obtain⟨sl,q⟩:=slot c o (I.cne x c e) hc Ox ho (I.freeC x c e)
   exact⟨_,q,hd⟩
  ·exact⟨o,keep c o (I.cne x c e) hc Ox ho (I.freeC x c e),hd⟩
 refine⟨I.ok,I.os,hg,⟨λb o e n hb hx=> ?_,λb o e n hb hx=> ?_,λb o e n hx=> ?_,λb o e hx=> ?_,λb xs e=>tups b xs (I.base.tups b xs e),λb o xs e=>frzs b o xs (I.base.frzs b o xs e),λb ps e=> ?_⟩,?_,λx c e=> ?_,?_,λx c e=> ?_,λp hp=> ?_,hok,I.len⟩
 ·exact keep b o (NG b o e) hb (neC b o e hx) (I.base.keep b o e n hb hx) (I.base.free b o e n hx)
 ·obtain⟨sl,e1⟩:=I.base.slot b o e n hb hx
  obtain⟨NF,e2⟩:=slot b _ (NG b o e) hb (neC b o e hx) e1 (I.base.free b o e n hx)
  exact⟨NF,e2⟩
 ·obtain⟨o',e1⟩:=I.base.there b o e hx
  exact free b o' (neC b o e hx) e1 (I.base.free b o e n hx)
 ·obtain⟨o',e1⟩:=I.base.there b o e hx
  exact there b o' (neC b o e hx) e1
 ·obtain⟨m1,e1⟩:=I.base.tbls b ps e
  obtain⟨m2,e2⟩:=tbls b _ e1
  exact⟨m1++m2,by rw[e2,IV]⟩
 ·obtain⟨m,hn,hl⟩:=I.loc
  refine⟨m,ns m hn,λi x v e1 e2 e3=> ?_⟩
  obtain⟨u,r,l⟩:=hl i x v e1 e2 e3
  refine⟨u,r,?_⟩
  rcases l with l|⟨k,c,e,z⟩
  ·exact .inl l
  ·exact .inr ⟨k,c,e,NH x c e _ z⟩
 ·obtain⟨v,z⟩:=I.cell x c e
  exact⟨v,NH x c e v z⟩
 ·obtain⟨m,⟨o,_,_,ho,_⟩,_⟩:=I.loc
  exact free _ o (λz=>(Nc _ z).2.1 rfl) ho I.free
 ·obtain⟨v,o,ho,hd⟩:=I.cell x c e
  exact free c o (λz=>(Nc c z).2.2.1 x c e rfl) ho (I.freeC x c e)
 ·obtain⟨e,n,ne,nf,d⟩:=I.pin p hp
  have Ox:p.1∉ch:=λz=>(Nc p.1 z).2.2.2 p hp rfl
  exact⟨keep p.1 p.2 ne nf Ox e n,free p.1 p.2 Ox e n,ne,nf,d⟩
theorem aw.un {t':Nat} (I:aw X K4 σ H s) (u:Un X.fs [] H H' s.heap h') (hok:iA X.prog X.w H' h'):aw X K4 σ H' {s with heap:=h',toks:=t'}:=by
 obtain⟨m,⟨o,es,ep,ho,r⟩,_⟩:=id I.loc
 obtain⟨sl,hL⟩:=u.any ho I.free (by simp)
 exact I.step (g':=s.gens) (d':=s.drawn) (ch:=[]) (λ_ z=>nomatch z) (λb o _ hb _ e n=>u.keep b o e n hb (by simp)) (λb o _ hb _ e n=>u.slot b o e n hb (by simp)) (λb o _ e n=>u.free b o e n (by simp)) (λb o _ e=>u.there b o e (by simp)) u.tups u.frzs u.tbls (λm' hm=>by
  obtain⟨o',Pn,Po,Nm,r'⟩:=hm
  rw[ho]at Nm;cases Nm
  exact⟨_,Pn,Po,hL,r'⟩) hok I.bare
theorem aw.call {g':Array HA} {t':Nat} {d':Drawn} {ch:List Dk} (I:aw X K4 σ H s) (u:Un (kC X.stack) ch H H' s.heap h') (hok:iA X.prog X.w H' h') (hg:Gb g')
  (Nc:∀b∈ch,(b∈X.ex\/X.s₀.heap.objs.size<=b)/\b≠X.env.locals/\(∀x c,X.env.cells.lookup x=some c->c≠b)/\∀p∈X.pn++K4,p.1≠b):
  aw X K4 σ H' {s with heap:=h',gens:=g',drawn:=d',toks:=t'}:=by
 obtain⟨m,⟨o,es,ep,ho,r⟩,_⟩:=id I.loc
 obtain⟨sl,hL⟩:=u.any ho I.free λz=>(Nc _ z).2.1 rfl
 exact I.step (ch:=ch) (λb hb=>⟨(Nc b hb).1.imp id GG,(Nc b hb).2⟩) (λb o hL hb hc e n=>u.keep b o e n (λz=>(DN.mp (I.stkSub b z)).elim hL hb) hc) (λb o _ _ hc e n=>u.any e n hc) (λb o hc e n=>u.free b o e n hc) (λb o hc e=>u.there b o e hc) u.tups u.frzs u.tbls (λm' hm=>by
  obtain⟨o',Pn,Po,Nm,r'⟩:=hm
  rw[ho]at Nm;cases Nm
  exact⟨_,Pn,Po,hL,r'⟩) hok hg
theorem aw.turned {t':Nat} {it:Dk} (I:aw X K4 σ H s) (k:∀b o,b≠it->s.heap.get? b=some o->h'.get? b=some o) (hn:H it=none) (hL:it≠X.env.locals)
  (h1:it∈X.ex\/X.s₀.heap.objs.size<=it) (h2:∀x c,X.env.cells.lookup x=some c->c≠it) (h3:∀p∈X.pn++K4,p.1≠it):aw X K4 σ H {s with heap:=h',toks:=t'}:=by
 have QC:∀b u,H b=some u->b≠it:=λb u e z=>by rw[z,hn]at e;cases e
 refine I.step (g':=s.gens) (d':=s.drawn) (ch:=[it]) (λb hb=> ?_) (λb o _ _ hc e _=>k b o (λz=>hc (by simp[z])) e) (λb o _ _ hc e _=>⟨o.slots,k b o (λz=>hc (by simp[z])) e⟩) (λ_ _ _ _ n=>n)
  (λb o hc e=>⟨o,k b o (λz=>hc (by simp[z])) e⟩) (λ_ _ e=>e) (λ_ _ _ e=>e) (λb ps e=>⟨#[],by rw[e];simp⟩) (λm hm=> ?_) (λb u e=> ?_) I.bare
 ·have e:b=it:=by simpa using hb
  subst e
  exact⟨h1.imp id GG,hL,h2,h3⟩
 ·obtain⟨o,es,ep,ho,r⟩:=hm
  exact⟨o,es,ep,k _ o (E_ hL) ho,r⟩
 ·refine(I.hok b u e).stay (λc v hc q=>k c v ?_ q) (λ_ q=>q) λ_ _ q=>q
  rcases hc with z|z
  ·rw[z];exact QC b u e
  ·exact QC c _ z
theorem aw.tok (I:aw X K4 σ H s) (t:Nat):aw X K4 σ H {s with toks:=t}:=I.un (h':=s.heap) (t':=t) Un.refl I.hok
theorem aw.kept {t':Nat} (I:aw X K4 σ H s) (k:∀b u,s.heap.get? b=some u->h'.get? b=some u):aw X K4 σ H {s with heap:=h',toks:=t'}:=I.un (Un.kept k) (I.hok.kept k)
theorem aw.laid {a:Dk} {o:HO} {t':Nat} (I:aw X K4 σ H s) (k:∀b u,s.heap.get? b=some u->h'.get? b=some u) (hp:s.heap.objs.size<=a) (new:bB X.prog X.w (bc H a o) h' a o):
  aw X K4 σ (bc H a o) {s with heap:=h',toks:=t'}:=I.un (Un.laid k hp (I.hok.fresh hp)) (I.hok.laid k hp new)
theorem aw.write {x e:Dk} {o:HO} {t':Nat} (I:aw X K4 σ H s) (mu:Br (H x)) (he:e=x\/H e=some (.own x)) (k:∀b u,b≠e->s.heap.get? b=some u->h'.get? b=some u) (Oh:∃u,h'.get? e=some u)
  (new:bB X.prog X.w (bc H x o) h' x o):aw X K4 σ (bc H x o) {s with heap:=h',toks:=t'}:=I.un (Un.write mu he k Oh) (I.hok.write mu he k Oh new)
theorem aw.pins_of {Lm:List (Dk×DT)} (I:aw X K4 σ H s) (h:∀p∈Lm,s.heap.get? p.1=some p.2/\H p.1=none/\p.1≠X.env.locals/\p.1∉X.fs/\∀v,p.2.data≠ .cell v):aw X Lm σ H s:=
 ⟨I.ok,I.os,I.bare,I.base,I.loc,I.cell,I.free,I.freeC,λp hp=>(Es.mp hp).elim (λz=>I.pin p (Ei _ z)) (h p),I.hok,I.len⟩
theorem kP {N:List Dj} (hN:N.Nodup) {i j:Nat} {x:Dj} (a:N[i]? =some x) (b:N[j]? =some x):i=j:=by
 obtain⟨h1,e1⟩:=Dx.mp a
 obtain⟨h2,e2⟩:=Dx.mp b
 exact(HB hN).mp (e1.trans e2.symm)
theorem sf {M:Jc} {A:DO} {E:Di->Dl->Prop} {i:Nat} {x:Dj} {v:V} {u:Di} {Q:Unit->Dl->Prop} (I:aw X K4 σ H s) (hN:X.N.Nodup) (hi:X.N[i]? =some x) (hx:tM X.env.scope x) (r:b9 v u)
  (h:∀s',aw X K4 (σ.set i (some v)) H s'->(∃a,IY a s.heap s'.heap/\(a=X.env.locals\/X.env.cells.lookup x=some a))->Q () s') (hf:X.fn x=true\/X.env.scope.names.lookup x=some .local:=by first|exact .inl rfl|exact .inr rfl|assumption):Du M A (storeName X.env x u) Q E s:=by
 obtain⟨m,hn,hl⟩:=id I.loc
 have Pp:(X.env.scope.kind== .class||(X.env.scope.kind== .module&&X.env.locals != X.env.globals))=false:=by rw[I.ok.kind];rfl
 have QD:i<σ.length:=by rw[I.len];exact(Dx.mp hi).1
 have cne:=I.cne
 have ML:∀{a:Dk} {h':DE},(∃o,s.heap.get? a=some o/\H a=none)->IY a s.heap h'->iA X.prog X.w H h':=λ{a h'} ha hs b ob e=>by
  obtain⟨_,_,NI⟩:=ha
  refine(I.hok b ob e).stay (λc w' hc q=>(hs.2 c ?_).trans q) (λ_ q=>q) λ_ _ q=>q
  rintro rfl
  rcases hc with rfl|hc
  ·rw[NI]at e;cases e
  ·rw[NI]at hc;cases hc
 rcases hx with hk|hk
 ·refine wpAny_storeName_local hk hn (λh' Pq hs=> ?_) Pp
  obtain⟨oL,_,_,Rc,_⟩:=id hn
  refine h _ ⟨I.ok,I.os,I.bare,⟨λb o e n hb hx=> ?_,λb o e n hb hx=> ?_,I.base.free,λb o e hx=> ?_,I.base.tups,I.base.frzs,I.base.tbls⟩,⟨_,Pq,λj y v' e1 e2 e3=> ?_⟩,λy c e=> ?_,I.free,I.freeC,λp hp=> ?_,ML ⟨oL,Rc,I.free⟩ hs,by simpa using I.len⟩ ⟨_,hs, .inl rfl⟩
  ·exact(hs.2 b (E3 (DS (DK e) I.ok.above))).trans (I.base.keep b o e n hb hx)
  ·obtain⟨sl,e1⟩:=I.base.slot b o e n hb hx
   exact⟨sl,(hs.2 b (E3 (DS (DK e) I.ok.above))).trans e1⟩
  ·obtain⟨o',e1⟩:=I.base.there b o e hx
   exact⟨o',(hs.2 b (E3 (DS (DK e) I.ok.above))).trans e1⟩
  ·by_cases hj:j=i
   ·subst hj
    rw[hi]at e1;cases e1
    rw[I9 QD]at e2
    cases e2
    exact⟨u,r, .inl ⟨hk,by simp⟩⟩
   ·rw[GH (E_ hj)]at e2
    obtain⟨u',r',q⟩:=hl j y v' e1 e2 e3
    refine⟨u',r',?_⟩
    rcases q with ⟨k,e⟩|⟨k,c,e,z⟩
    ·refine .inl ⟨k,?_⟩
     have:y≠x:=λe=>hj (kP hN e1 (e▸hi))
     simp[this,e]
    ·exact .inr ⟨k,c,e,z.sameBut hs (cne y c e)⟩
  ·obtain⟨w',z⟩:=I.cell y c e
   exact⟨w',z.sameBut hs (cne y c e)⟩
  ·obtain⟨e,n,ne,nf,d⟩:=I.pin p hp
   exact⟨(hs.2 p.1 ne).trans e,n,ne,nf,d⟩
 ·have Pr:X.fn x=true:=by
   rcases hf with z|z
   ·exact z
   ·rw[z]at hk;cases hk
  obtain⟨c,hc⟩:=I.ok.has x (.inl hk)
  obtain⟨w',z⟩:=I.cell x c hc
  refine wpAny_storeName_cell I.ok.kind hk hc z (λh' QE hs=> ?_)
  obtain⟨oc,QF,Pt⟩:=id z
  refine h {s with heap:=h'} ⟨I.ok,I.os,I.bare,⟨λb o e n hb hx=> ?_,λb o e n hb hx=> ?_,I.base.free,λb o e hx=> ?_,I.base.tups,I.base.frzs,I.base.tbls⟩,⟨m,hn.sameBut hs (E_ (cne x c hc)),λj y v' e1 e2 e3=> ?_⟩,λy c' e=> ?_,I.free,I.freeC,λp hp=> ?_,ML ⟨oc,QF,I.freeC x c hc⟩ hs,by simpa using I.len⟩ ⟨c,hs, .inr hc⟩
  ·exact(hs.2 b (E3 (DS (DK e) (I.ok.cab x c Pr hc)))).trans (I.base.keep b o e n hb hx)
  ·obtain⟨sl,e1⟩:=I.base.slot b o e n hb hx
   exact⟨sl,(hs.2 b (E3 (DS (DK e) (I.ok.cab x c Pr hc)))).trans e1⟩
  ·obtain⟨o',e1⟩:=I.base.there b o e hx
   exact⟨o',(hs.2 b (E3 (DS (DK e) (I.ok.cab x c Pr hc)))).trans e1⟩
  ·by_cases hj:j=i
   ·subst hj
    rw[hi]at e1;cases e1
    rw[I9 QD]at e2
    cases e2
    exact⟨u,r, .inr ⟨.inl hk,c,hc,QE⟩⟩
   ·rw[GH (E_ hj)]at e2
    obtain⟨u',r',q⟩:=hl j y v' e1 e2 e3
    refine⟨u',r',?_⟩
    rcases q with q|⟨k,c',e,z'⟩
    ·exact .inl q
    ·refine .inr ⟨k,c',e,z'.sameBut hs ?_⟩
     rintro rfl
     exact hj (kP hN e1 (I.ok.inj _ _ _ e hc▸hi))
  ·by_cases Oi:c'=c
   ·subst Oi;exact⟨_,QE⟩
   ·obtain⟨w2,z2⟩:=I.cell y c' e
    exact⟨w2,z2.sameBut hs Oi⟩
  ·obtain⟨e,n,ne,nf,d⟩:=I.pin p hp
   refine⟨(hs.2 p.1 ?_).trans e,n,ne,nf,d⟩
   intro q
   rw[q,QF]at e
   have q':oc=p.2:=Ec e
   exact d w' (by rw[<-q'];exact Pt)
theorem kQ {M:Jc} {A:DO} {E:Di->Dl->Prop} {i:Nat} {x:Dj} {v:V} {u:Di} {Q:Unit->Dl->Prop} (I:aw X K4 σ H s) (hN:X.N.Nodup) (hi:X.N[i]? =some x) (hx:tM X.env.scope x) (r:b9 v u)
  (h:∀s',aw X K4 (σ.set i (some v)) H s'->Q () s') (hf:X.fn x=true\/X.env.scope.names.lookup x=some .local:=by first|exact .inl rfl|exact .inr rfl|assumption):Du M A (storeName X.env x u) Q E s:=
 sf I hN hi hx r (λs' I' _=>h s' I') hf
theorem aw.call' {s':Dl} {ch:List Dk} (I:aw X K4 σ H s) (ho:s'.os=s.os) (u:Un (kC X.stack) ch H H' s.heap s'.heap) (hok:iA X.prog X.w H' s'.heap) (hg:Gb s'.gens)
  (Nc:∀b∈ch,(b∈X.ex\/X.s₀.heap.objs.size<=b)/\b≠X.env.locals/\(∀x c,X.env.cells.lookup x=some c->c≠b)/\∀p∈X.pn++K4,p.1≠b):aw X K4 σ H' s':=by
 obtain⟨h',g',d',t',o'⟩:=s'
 have e:o'=s.os:=ho
 subst e
 exact I.call (g':=g') (t':=t') (d':=d') u hok hg Nc
end
abbrev XK:=Di->Option Dk->Hp->Prop
abbrev St:=List (Option V)
abbrev VK:=V->Hp->Prop
abbrev TE:=St->Hp->VK->Prop
abbrev TT:=St->Hp->(Bool->Hp->Prop)->Prop
abbrev TA:=St->Hp->(List V->Hp->Prop)->Prop
structure jw where
 nx:St->Hp->Prop
 rt:VK
 bk:St->Hp->Prop:=λ_ _=>False
 ct:St->Hp->Prop:=λ_ _=>False
abbrev TS:=jw->St->Hp->Prop
def EP (X:Cx) (K4:List (Dk×DT)) (σ:St) (Q:VK) (u:Di) (s':Dl):Prop:=∃v H',aw X K4 σ H' s'/\b9 v u/\Q v H'
def TP (X:Cx) (K4:List (Dk×DT)) (σ:St) (Q:Bool->Hp->Prop) (b:Bool) (s':Dl):Prop:=∃H',aw X K4 σ H' s'/\Q b H'
def AP (X:Cx) (K4:List (Dk×DT)) (σ:St) (Q:List V->Hp->Prop) (us:List Di) (s':Dl):Prop:=∃vs H',aw X K4 σ H' s'/\aI vs us/\Q vs H'
def SP (X:Cx) (K4:List (Dk×DT)) (D:jw) (f:Flow) (s':Dl):Prop:=
 match f with
 | .next=>∃σ' H',aw X K4 σ' H' s'/\D.nx σ' H'
 | .brk=>∃σ' H',aw X K4 σ' H' s'/\D.bk σ' H'
 | .cont=>∃σ' H',aw X K4 σ' H' s'/\D.ct σ' H'
 | .ret u=>∃v σ' H',aw X K4 σ' H' s'/\b9 v u/\D.rt v H'
def PE (X:Cx) (e:Dr) (t:TE):Prop:=
 ∀(K4:List (Dk×DT)) (s:Dl) (σ:St) (H:Hp) (Q:VK),aw X K4 σ H s->t σ H Q->Du (Dz X.prog X.w) X.A (DC e X.env) (EP X K4 σ Q) X.xe s
def PT (X:Cx) (e:Dr) (t:TT):Prop:=
 ∀(K4:List (Dk×DT)) (s:Dl) (σ:St) (H:Hp) (Q:Bool->Hp->Prop),aw X K4 σ H s->t σ H Q->Du (Dz X.prog X.w) X.A (Jx e X.env (DC e X.env)) (TP X K4 σ Q) X.xe s
def PW (X:Cx) (e:Dr) (t:TT):Prop:=
 ∀(LP:Gy Di) (K4:List (Dk×DT)) (s:Dl) (σ:St) (H:Hp) (Q:Bool->Hp->Prop),aw X K4 σ H s->t σ H Q->Du (Dz X.prog X.w) X.A (Jx e X.env LP) (TP X K4 σ Q) X.xe s
theorem PW.pt {X:Cx} {e:Dr} {t:TT} (h:PW X e t):PT X e t:=h _
def PA (X:Cx) (es:List Dr) (t:TA):Prop:=
 ∀(pos:DZ) (K4:List (Dk×DT)) (s:Dl) (σ:St) (H:Hp) (Q:List V->Hp->Prop),aw X K4 σ H s->t σ H Q->Du (Dz X.prog X.w) X.A (JJ (DQ pos (Dm es X.env))) (AP X K4 σ Q) X.xe s
def PS (X:Cx) (st:DU) (t:TS):Prop:=
 ∀(K4:List (Dk×DT)) (s:Dl) (σ:St) (H:Hp) (D:jw),aw X K4 σ H s->t D σ H->Du (Dz X.prog X.w) X.A (exec st X.env) (SP X K4 D) X.xe s
def mw (X:Cx) (st:List DU) (t:TS):Prop:=
 ∀(K4:List (Dk×DT)) (s:Dl) (σ:St) (H:Hp) (D:jw),aw X K4 σ H s->t D σ H->Du (Dz X.prog X.w) X.A (execs st X.env) (SP X K4 D) X.xe s
theorem bU {α:Type} {t:Gy α} {Q Q':α->Dl->Prop} {M:Jc} {A:DO} {E:Di->Dl->Prop} {s:Dl} (h:Du M A t Q E s) (hQ:∀a s,Q a s->Q' a s):Du M A t Q' E s:=F8 h hQ λ_ _ x=>x
end L2
namespace L2
open PySem PySem.Spec PyProof.Rows
section
variable {X:Cx}
def tR (i:Nat):TE:=λσ H Q=>∃v,σ[i]? =some (some v)/\Q v H
def tC (v:V):TE:=λ_ H Q=>Q v H
theorem yx {i:Nat} {x:Dj} {pos:DZ} (hN:X.N[i]? =some x) (hv:kD X.env.scope x) (hd:(x==("__debug__":Dj))=false:=by decide) (Lc:(x==("__classdict__":Dj))=false:=by decide):PE X (.Name x pos) (tR i):=by
 intro K4 s σ H Q I h
 obtain⟨v,e,h⟩:=h
 obtain⟨m,hn,hl⟩:=I.loc
 obtain⟨u,r,l⟩:=hl i x v hN e hv
 have LQ:EP X K4 σ Q u s:=⟨v,H,I,r,h⟩
 rcases l with ⟨hk,hm⟩|⟨hk,c,hc,MM⟩
 ·exact Jy (wpAny_loadName_local I.ok.kind hk hn hm LQ) hd
 ·rcases hk with hk|hk
  ·exact Jy (wpAny_loadName_cell I.ok.kind hk hc MM LQ) hd
  ·exact Jy (wpAny_loadName_free I.ok.kind hk hc MM LQ Lc) hd
theorem tU {i j pos}:PE X (.Constant (.int i) j pos) (tC (.int i)):=λ_ _ _ H _ I h=>wpAny_Constant_int ⟨.int i,H,I.tok _,⟨_,rfl⟩,h⟩
theorem Ak {b j pos}:PE X (.Constant (.bool b) j pos) (tC (.bl b)):=λ_ _ _ H _ I h=>Constant_bool ⟨.bl b,H,I,rfl,h⟩
theorem yy {j pos}:PE X (.Constant .none j pos) (tC .non):=λ_ _ _ H _ I h=>Constant_none ⟨.non,H,I,rfl,h⟩
theorem yz {x j pos}:PE X (.Constant (.str x) j pos) (tC (.str x)):=λ_ _ _ H _ I h=>Calls.Constant_str ⟨.str x,H,I.tok _,⟨_,rfl⟩,h⟩
def Gl (X:Cx) (x:Dj):Prop:=X.env.kindOf x=some .globalImplicit
theorem iX {E:Di->Dl->Prop} {K4:List (Dk×DT)} {s:Dl} {σ:St} {H:Hp} {x:Dj} {u:Di} {pos:DZ} {Q:Di->Dl->Prop} (I:aw X K4 σ H s) (hg:Gl X x) (hm:X.mg x=some u) (h:Q u s)
  (hd:(x==("__debug__":Dj))=false:=by decide):Du (Dz X.prog X.w) X.A (DC (.Name x pos) X.env) Q E s:=
 Hf I.ok.kind hg (Calls.loadGlobal_global (by rw[I.ok.glob];exact I.mod.glob.keeps I.bk) hm h) hd
theorem iB {E:Di->Dl->Prop} {K4:List (Dk×DT)} {s:Dl} {σ:St} {H:Hp} {x:Dj} {u:Di} {pos:DZ} {Q:Di->Dl->Prop} (I:aw X K4 σ H s) (hg:Gl X x) (hm:X.mg x=none) (hv:E4 x=some u) (h:Q u s)
  (hn:x≠"__name__":=by decide) (hd:(x==("__debug__":Dj))=false:=by decide):Du (Dz X.prog X.w) X.A (DC (.Name x pos) X.env) Q E s:=by
 obtain⟨mb,h1,h2⟩:=I.mod.blt
 exact Hf I.ok.kind hg (Calls.loadGlobal_builtin (by rw[I.ok.glob];exact I.mod.glob.keeps I.bk) hm (by rw[I.ok.blt];exact h1.keeps I.bk) ((h2 x hn).trans hv) h) hd
theorem qR {x:Dj} {v:V} {u:Di} {pos:DZ} (hg:Gl X x) (hm:X.mg x=some u) (r:b9 v u) (hd:(x==("__debug__":Dj))=false:=by decide):PE X (.Name x pos) (tC v):=
 λ_ _ _ H _ I h=>iX I hg hm ⟨v,H,I,r,h⟩ hd
theorem qS {x:Dj} {v:V} {u:Di} {pos:DZ} (hg:Gl X x) (hm:X.mg x=none) (hv:E4 x=some u) (r:b9 v u) (hn:x≠"__name__":=by decide) (hd:(x==("__debug__":Dj))=false:=by decide):PE X (.Name x pos) (tC v):=
 λ_ _ _ H _ I h=>iB I hg hm hv ⟨v,H,I,r,h⟩ hn hd
variable {a b:Dr} {ta tb:TE} {pos:DZ}
def PC (X:Cx) (op:Iw) (a b:Dr) (t:TE):Prop:=
 ∀(K4:List (Dk×DT)) (s:Dl) (σ:St) (H:Hp) (Q:VK),aw X K4 σ H s->t σ H Q->
  Du (Dz X.prog X.w) X.A (DC a X.env) (λv s₁=>Du (Dz X.prog X.w) X.A (DC b X.env) (λu s₂=>Du (Dz X.prog X.w) X.A (Eu op v u) (EP X K4 σ Q) X.xe s₂) X.xe s₁) X.xe s
def tB (t:TE):TT:=λσ H Q=>t σ H λx H1=>∃c,x= .bl c/\Q c H1
theorem tV {op:Iw} {t:TE} (h:PC X op a b t) (h1:EA op b=false:=by first|exact nobehind _ (by decide) (by decide)|rfl):PE X (.Compare a [op] [b] pos) t:=λK4 s σ H Q I hw=>wpAny_Compare1 (h K4 s σ H Q I hw) h1
theorem tW {op:Iw} {t:TE} (h:PC X op a b t) (h1:EA op b=false:=by first|exact nobehind _ (by decide) (by decide)|rfl):PT X (.Compare a [op] [b] pos) (tB t):=by
 intro K4 s σ H Q I hw
 refine Il (bU (h K4 s σ H _ I hw) λv s1 h1=>bU h1 λu s2 h2=>bU h2 λc s3 z_=> ?_) h1
 obtain⟨x,H1,I1,r1,q1⟩:=z_
 obtain⟨d,rfl,q⟩:=q1
 cases r1
 exact EU ⟨H1,I1,q⟩
variable {tA tB':TT} {rest:List Dr}
def BK (t u:TT):TT:=λσ H Q=>t σ H λc H1=>if c=true then u σ H1 Q else Q false H1
def CO (t u:TT):TT:=λσ H Q=>t σ H λc H1=>if c=true then Q true H1 else u σ H1 Q
def BL (t:TT):TT:=λσ H Q=>t σ H λc H1=>Q (!c) H1
theorem wc (ha:PT X a tA):PW X (.BoolOp .And [a] pos) tA:=by
 intro wh K4 s σ H Q I h
 refine isTrue_and (bU (ha K4 s σ H Q I h) λc s1 e=> ?_)
 cases c with
 |true=>exact isTrue_and_nil e
 |false=>exact e
theorem yA (ha:PT X a tA):PW X (.BoolOp .Or [a] pos) tA:=by
 intro wh K4 s σ H Q I h
 refine isTrue_or (bU (ha K4 s σ H Q I h) λc s1 e=> ?_)
 cases c with
 |false=>exact isTrue_or_nil e
 |true=>exact e
theorem yB (ha:PT X a tA) (hb:PW X (.BoolOp .And (b::rest) pos) tB'):PW X (.BoolOp .And (a::b::rest) pos) (BK tA tB'):=by
 intro wh K4 s σ H Q I h
 refine isTrue_and (bU (ha K4 s σ H _ I h) λc s1 z_=> ?_)
 obtain⟨H1,I1,q1⟩:=z_
 cases c with
 |true=>exact hb wh K4 s1 σ H1 Q I1 q1
 |false=>exact⟨H1,I1,q1⟩
theorem Al (ha:PT X a tA) (hb:PW X (.BoolOp .Or (b::rest) pos) tB'):PW X (.BoolOp .Or (a::b::rest) pos) (CO tA tB'):=by
 intro wh K4 s σ H Q I h
 refine isTrue_or (bU (ha K4 s σ H _ I h) λc s1 z_=> ?_)
 obtain⟨H1,I1,q1⟩:=z_
 cases c with
 |true=>exact⟨H1,I1,q1⟩
 |false=>exact hb wh K4 s1 σ H1 Q I1 q1
theorem yC (ha:PT X a tA):PT X (.UnaryOp .Not a pos) (BL tA):=by
 intro K4 s σ H Q I h
 exact isTrue_not (ha K4 s σ H (λc H1=>Q (!c) H1) I h)
def Am (ta tb:TE):TE:=λσ H Q=>ta σ H λx H1=>∃c,x= .bl c/\if c=true then tb σ H1 Q else Q (.bl false) H1
def BM (ta tb:TE):TE:=λσ H Q=>ta σ H λx H1=>∃c,x= .bl c/\if c=true then Q (.bl true) H1 else tb σ H1 Q
def An (ta:TE):TE:=λσ H Q=>ta σ H λx H1=>∃c,x= .bl c/\Q (.bl (!c)) H1
theorem yD {op} {t:TE} (h:PE X a t):PE X (.BoolOp op [a] pos) t:=λK4 s σ H Q I hw=>BoolOp_one (h K4 s σ H Q I hw)
theorem yE (ha:PE X a ta) (hb:PE X (.BoolOp .And (b::rest) pos) tb):PE X (.BoolOp .And (a::b::rest) pos) (Am ta tb):=by
 intro K4 s σ H Q I h
 refine BoolOp_and (bU (ha K4 s σ H _ I h) λv s1 z_=> ?_)
 obtain⟨x,H1,I1,r1,q1⟩:=z_
 obtain⟨c,rfl,q1⟩:=q1
 cases r1
 refine EU ?_
 cases c with
 |true=>exact hb K4 s1 σ H1 Q I1 q1
 |false=>exact⟨.bl false,H1,I1,rfl,q1⟩
theorem Ao (ha:PE X a ta) (hb:PE X (.BoolOp .Or (b::rest) pos) tb):PE X (.BoolOp .Or (a::b::rest) pos) (BM ta tb):=by
 intro K4 s σ H Q I h
 refine BoolOp_or (bU (ha K4 s σ H _ I h) λv s1 z_=> ?_)
 obtain⟨x,H1,I1,r1,q1⟩:=z_
 obtain⟨c,rfl,q1⟩:=q1
 cases r1
 refine EU ?_
 cases c with
 |false=>exact hb K4 s1 σ H1 Q I1 q1
 |true=>exact⟨.bl true,H1,I1,rfl,q1⟩
theorem yF (ha:PE X a ta):PE X (.UnaryOp .Not a pos) (An ta):=by
 intro K4 s σ H Q I h
 refine UnaryOp_ (bU (ha K4 s σ H _ I h) λv s1 z_=> ?_)
 obtain⟨x,H1,I1,r1,q1⟩:=z_
 obtain⟨c,rfl,q1⟩:=q1
 cases r1
 exact not_of (EU ⟨.bl (!c),H1,I1,rfl,q1⟩)
end
end L2
namespace L2
open PySem PySem.Spec PyProof.Rows
def cp (K:Dh) (H:Hp) (a:Dk) (xs:List V):Prop:=
 Rd H a (.lst xs)\/
  ∃(o:DT) (its:Array Di) (n:Nat),K.lookup a=some o/\o.cls= .type "list"/\o.dict=none/\o.data= .seq its n/\its.size<=sizeLine/\aI xs its.toList
def fc (K:Dh) (H:Hp) (a:Dk) (xs:List V):Prop:=
 Rd H a (.tup xs)\/
  ∃(o:DT) (its:Array Di) (n:Nat),K.lookup a=some o/\o.cls= .type "tuple"/\o.data= .seq its n/\its.size<=sizeLine/\aI xs its.toList
def BO:Di->Option V
 | .none=>some .non
 | .bool b=>some (.bl b)
 | .int i _=>some (.int i)
 | .str x _=>some (.str x)
 | .bytes b _=>some (.byt b)
 | .float b _=>some (.flt b)
 | .ref a=>some (.ref a)
 | .type n=>some (.ty n)
 |_=>none
theorem b9.abs {x:V} {u:Di} (r:b9 x u):BO u=some x:=by
 cases x with
 |non=>cases r;rfl
 |bl _=>cases r;rfl
 |int _=>obtain⟨t,rfl⟩:=r;rfl
 |str _=>obtain⟨t,rfl⟩:=r;rfl
 |byt _=>obtain⟨t,rfl⟩:=r;rfl
 |flt _=>obtain⟨t,rfl⟩:=r;rfl
 |ref _=>cases r;rfl
 |ty _=>cases r;rfl
theorem b9.inj {x y:V} {u:Di} (r:b9 x u) (q:b9 y u):x=y:=Ec (r.abs.symm.trans q.abs)
theorem aI.inj:∀{xs ys:List V} {us:List Di},aI xs us->aI ys us->xs=ys
 |_,_,_, .nil, .nil=>rfl
 |_,_,_, .cons r t, .cons r' t'=>by rw[r.inj r',aI.inj t t']
section
variable {X:Cx} {K4:List (Dk×DT)} {σ:St} {H:Hp} {s:Dl} {a:Dk} {xs ys:List V}
theorem cp.of {K:Dh} (h:H a=some (.lst xs)):cp K H a xs:= .inl (.inl h)
theorem fc.of {K:Dh} (h:H a=some (.tup xs)):fc K H a xs:= .inl (.inl h)
theorem aw.list (I:aw X K4 σ H s) (h:cp X.K H a xs):∃its:List Di,aI xs its/\PlainL s.heap a its.toArray/\xs.length<=sizeLine:=by
 rcases h with h|⟨o,its,n,hk,hc,hd,hs,hz,r⟩
 ·obtain⟨z,its,n,r,e⟩:=h.ok I.hok
  exact⟨its,r,⟨_,n,e,rfl,rfl,rfl⟩,z⟩
 ·refine⟨its.toList,r,⟨o,n,I.kIn a o hk,hc,hd,by simpa using hs⟩,?_⟩
  have e:=r.length
  simp only[GV]at e
  omega
theorem aw.tuple (I:aw X K4 σ H s) (h:fc X.K H a xs):∃its:List Di,aI xs its/\Iv s.heap a its.toArray/\xs.length<=sizeLine:=by
 rcases h with h|⟨o,its,n,hk,hc,hs,hz,r⟩
 ·obtain⟨z,its,r,p⟩:=h.ok I.hok
  exact⟨its,r,p.tup,z⟩
 ·refine⟨its.toList,r,⟨o,I.kIn a o hk,hc,n,by simpa using hs⟩,?_⟩
  have e:=r.length
  simp only[GV]at e
  omega
theorem aw.list_inj (I:aw X K4 σ H s) (h:cp X.K H a xs) (h':cp X.K H a ys):xs=ys:=by
 obtain⟨its,r,⟨o,n,e,_,_,d⟩,_⟩:=I.list h
 obtain⟨its',r',⟨o',n',e',_,_,d'⟩,_⟩:=I.list h'
 rw[e]at e';cases e'
 rw[d]at d'
 injection d' with d1 _
 have:its=its':=by simpa using congrArg JX d1
 subst this
 exact r.inj r'
theorem aw.tuple_inj (I:aw X K4 σ H s) (h:fc X.K H a xs) (h':fc X.K H a ys):xs=ys:=by
 obtain⟨its,r,⟨o,e,_,n,d⟩,_⟩:=I.tuple h
 obtain⟨its',r',⟨o',e',_,n',d'⟩,_⟩:=I.tuple h'
 rw[e]at e';cases e'
 rw[d]at d'
 injection d' with d1 _
 have:its=its':=by simpa using congrArg JX d1
 subst this
 exact r.inj r'
end
abbrev Cx.wish (X:Cx) (E:Di->Dl->Prop):Cx:={X with xe:=E}
abbrev Cx.nox (X:Cx):Cx:=X.wish λ_ _=>False
theorem Cx.Ok.wish {X:Cx} (ok:X.Ok) (E:Di->Dl->Prop):(X.wish E).Ok:=
 ⟨ok.mod,ok.kind,ok.glob,ok.blt,ok.above,ok.inj,ok.has,ok.cab,ok.hd,ok.frames,ok.stk,ok.exf,ok.bs,ok.bsz,ok.noex,ok.exfs,ok.funs,ok.frf⟩
theorem Cx.Ok.unwish {X:Cx} {E:Di->Dl->Prop} (ok:(X.wish E).Ok):X.Ok:=
 ⟨ok.mod,ok.kind,ok.glob,ok.blt,ok.above,ok.inj,ok.has,ok.cab,ok.hd,ok.frames,ok.stk,ok.exf,ok.bs,ok.bsz,ok.noex,ok.exfs,ok.funs,ok.frf⟩
section
variable {X:Cx} {K4:List (Dk×DT)} {σ:St} {H:Hp} {s:Dl} {E:Di->Dl->Prop}
theorem aw.wish (I:aw X K4 σ H s) (E:Di->Dl->Prop):aw (X.wish E) K4 σ H s:=⟨I.ok.wish E,I.os,I.bare,I.base,I.loc,I.cell,I.free,I.freeC,I.pin,I.hok,I.len⟩
theorem aw.unwish (I:aw (X.wish E) K4 σ H s):aw X K4 σ H s:=⟨I.ok.unwish,I.os,I.bare,I.base,I.loc,I.cell,I.free,I.freeC,I.pin,I.hok,I.len⟩
theorem SP.unwish {D:jw} {f:Flow} {s':Dl} (h:SP (X.wish E) K4 D f s'):SP X K4 D f s':=by
 cases f with
 |next=>obtain⟨σ',H',I,q⟩:=h;exact⟨σ',H',I.unwish,q⟩
 |brk=>obtain⟨σ',H',I,q⟩:=h;exact⟨σ',H',I.unwish,q⟩
 |cont=>obtain⟨σ',H',I,q⟩:=h;exact⟨σ',H',I.unwish,q⟩
 |ret u=>obtain⟨v,σ',H',I,r,q⟩:=h;exact⟨v,σ',H',I.unwish,r,q⟩
theorem PE.nox {e:Dr} {t:TE} (h:PE X.nox e t):PE X e t:=λK4 s σ H Q I hw=>
 F8 (h K4 s σ H Q (I.wish _) hw) (λ_ _ ⟨v,H',I',r,q⟩=>⟨v,H',I'.unwish,r,q⟩) λ_ _ z=>EF z
theorem PT.nox {e:Dr} {t:TT} (h:PT X.nox e t):PT X e t:=λK4 s σ H Q I hw=>
 F8 (h K4 s σ H Q (I.wish _) hw) (λ_ _ ⟨H',I',q⟩=>⟨H',I'.unwish,q⟩) λ_ _ z=>EF z
theorem mw.nox {st:List DU} {t:TS} (h:mw X.nox st t):mw X st t:=λK4 s σ H D I hw=>
 F8 (h K4 s σ H D (I.wish _) hw) (λ_ _ q=>q.unwish) λ_ _ z=>EF z
end
section
variable {X:Cx} {st:DU} {rest:List DU} {t u:TS} {e:Dr} {te:TE} {pos:DZ}
def Ap:TS:=λD σ H=>D.nx σ H
def BP (t u:TS):TS:=λD σ H=>t {D with nx:=u D} σ H
theorem wd:mw X [] Ap:=λ_ _ σ H _ I h=>GI ⟨σ,H,I,h⟩
theorem tY (h1:PS X st t) (h2:mw X rest u):mw X (st::rest) (BP t u):=by
 intro K4 s σ H D I h
 refine wpAny_execs_cons (bU (h1 K4 s σ H {D with nx:=u D} I h) λf s1 q=> ?_)
 cases f with
 |next=>
  obtain⟨σ',H',I',q⟩:=q
  exact h2 K4 s1 σ' H' D I' q
 |ret v=>exact q
 |brk=>exact q
 |cont=>exact q
theorem we (h1:PS X st t):mw X [st] t:=by
 intro K4 s σ H D I h
 refine wpAny_execs_cons (bU (h1 K4 s σ H D I h) λf s1 q=> ?_)
 cases f with
 |next=>exact GI q
 |ret v=>exact q
 |brk=>exact q
 |cont=>exact q
theorem aw.quiet {K4:List (Dk×DT)} {σ:St} {H:Hp} {s:Dl} (I:aw X K4 σ H s):interactive X.env=false:=by simp[interactive,I.ok.kind]
def Aq (te:TE):TS:=λD σ H=>te σ H λ_ H1=>D.nx σ H1
theorem ia (he:PE X e te) (hs:Eg e none pos.line X.env=pure false:=by rfl):PS X (.Expr e pos) (Aq te):=by
 intro K4 s σ H D I h
 exact wpAny_Expr_any (bU (he K4 s σ H _ I h) λv s1 ⟨x,H1,I1,r1,q1⟩=>⟨σ,H1,I1,q1⟩) I.quiet hs
def BQ (te:TE):TS:=λD σ H=>te σ H D.rt
theorem pV (he:PE X e te):PS X (.Return (some e) pos) (BQ te):=by
 intro K4 s σ H D I h
 exact wpAny_Return_some (bU (he K4 s σ H _ I h) λv s1 ⟨x,H1,I1,r1,q1⟩=>⟨x,σ,H1,I1,r1,q1⟩)
def BR (c:TT) (t u:TS):TS:=λD σ H=>c σ H λb H1=>if b=true then t D σ H1 else u D σ H1
theorem Ar {c:Dr} {a b:List DU} {tc:TT} (hc:PT X c tc) (ha:mw X a t) (hb:mw X b u):PS X (.If c a b pos) (BR tc t u):=by
 intro K4 s σ H D I h
 refine wpAny_If (bU (hc K4 s σ H _ I h) λd s1 z_=> ?_)
 obtain⟨H1,I1,q1⟩:=z_
 cases d with
 |true=>exact ha K4 s1 σ H1 D I1 q1
 |false=>exact hb K4 s1 σ H1 D I1 q1
end
abbrev TG:=V->St->Hp->(St->Hp->Prop)->Prop
def PG (X:Cx) (NQ:Dr) (t:TG):Prop:=
 ∀(K4:List (Dk×DT)) (s:Dl) (σ:St) (H:Hp) (v:V) (u:Di) (Q:St->Hp->Prop),aw X K4 σ H s->b9 v u->t v σ H Q->
  Du (Dz X.prog X.w) X.A (assign NQ X.env u) (λ_ s'=>∃σ' H',aw X K4 σ' H' s'/\Q σ' H') X.xe s
section
variable {X:Cx} {pos:DZ}
def xU (i:Nat):TG:=λv σ H Q=>Q (σ.set i (some v)) H
theorem qT {i:Nat} {x:Dj} (hN:X.N.Nodup) (hi:X.N[i]? =some x) (hx:tM X.env.scope x) (hf:X.fn x=true\/X.env.scope.names.lookup x=some .local:=by first|exact .inl rfl|exact .inr rfl|assumption):PG X (.Name x pos) (xU i):=by
 intro K4 s σ H v u Q I r h
 exact wpAny_assign_Name (kQ I hN hi hx r (λs' I'=>⟨_,H,I',h⟩) hf)
def BS (te:TE) (g:TG):TS:=λD σ H=>te σ H λx H1=>g x σ H1 D.nx
theorem jx {i:Nat} {x:Dj} {e:Dr} {te:TE} {Kw:DZ} (hN:X.N.Nodup) (hi:X.N[i]? =some x) (hx:tM X.env.scope x) (he:PE X e te) (hs:Eg e (some (.Name x Kw)) pos.line X.env=pure false:=by rfl) (hf:X.fn x=true\/X.env.scope.names.lookup x=some .local:=by first|exact .inl rfl|exact .inr rfl|assumption):
  PS X (.Assign [.Name x Kw] e pos) (BS te (xU i)):=by
 intro K4 s σ H D I h
 refine wpAny_Assign_Name (bU (he K4 s σ H _ I h) λv s1 z_=> ?_) hs
 obtain⟨y,H1,I1,r1,q1⟩:=z_
 exact kQ I1 hN hi hx r1 (λs2 I2=>⟨_,H1,I2,q1⟩) hf
end
section
variable {X:Cx} {pos:DZ}
end
structure It where
 go:Nat->Hp->Prop
 yld:Nat->Hp->V->Hp->Prop
 stop:Nat->Hp->Prop
def iY (X:Cx) (K4:List (Dk×DT)) (H:Hp) (b:Dk):Prop:=
 H b=none/\b≠X.env.locals/\b∉X.fs/\(b∈X.ex\/X.s₀.heap.objs.size<=b)/\(∀x c,X.env.cells.lookup x=some c->c≠b)/\∀p∈X.pn++K4,p.1≠b
theorem aw.fpOk {X:Cx} {K4:List (Dk×DT)} {σ:St} {H H':Hp} {s:Dl} {b:Dk} (I:aw X K4 σ H s) (hb:s.heap.objs.size<=b) (hn:H' b=none):iY X K4 H' b:=by
 refine⟨hn,Nat.ne_of_gt (DS I.lt hb),I.nofs hb, .inr (DY I.sz hb),λx c e z=> ?_,λp hp z=> ?_⟩
 ·obtain⟨v,q⟩:=I.cell x c e
  exact absurd (DS q.lt (by rw[z];exact hb)) (EW _)
 ·exact absurd (DS (DK (I.pin p hp).1) (by rw[z];exact hb)) (EW _)
structure sg (P:Dy) (w:DG) (K:Dh) (tg:Dr) (J:It) (fp:List Dk) (it:Dk) (tn:Nat->DE->Prop):Prop where
 mem:it∈fp
 obj:∀i h,tn i h->∀b∈fp,∃o,h.get? b=some o/\∀v,o.data≠ .cell v
 keep:∀i h h',tn i h->(∀b∈fp,∀o,h.get? b=some o->h'.get? b=some o)->tn i h'
 item:∀(X:Cx),X.prog=P->X.w=w->X.K=K->X.calm=true->∀(i:Nat) (K4:List (Dk×DT)) (s:Dl) (σ:St) (H:Hp) (E:Di->Dl->Prop),aw X K4 σ H s->(∀b∈fp,iY X K4 H b)->tn i s.heap->J.go i H->
  Du (Dz P w) X.A (pyNext (.ref it)) (λr s1=>∃u,r=some u/\
   Du (Dz P w) X.A (HX tg (.ref it) u) (λ_ s2=>∃x H',aw X K4 σ H' s2/\b9 x u/\J.yld i H x H'/\tn (i+1) s2.heap/\∀b∈fp,H' b=none) E s1) E s
 done:∀(X:Cx),X.prog=P->X.w=w->X.K=K->X.calm=true->∀(i:Nat) (K4:List (Dk×DT)) (s:Dl) (σ:St) (H:Hp) (E:Di->Dl->Prop),aw X K4 σ H s->(∀b∈fp,iY X K4 H b)->tn i s.heap->J.stop i H->
  Du (Dz P w) X.A (pyNext (.ref it)) (λr s1=>r=none/\aw X K4 σ H s1) E s
 self:∀(A:DO) (i:Nat) (s:Dl) (Q:Di->Dl->Prop) (E:Di->Dl->Prop),tn i s.heap->Q (.ref it) s->Du (Dz P w) A (pyIter (.ref it)) Q E s
abbrev TI:=St->Hp->(It->Hp->Prop)->Prop
def Ct (X:Cx) (K4:List (Dk×DT)) (σ:St) (tg:Dr) (R:It->Hp->Prop) (P8:Di) (s2:Dl):Prop:=
 ∃(it:Dk) (fp:List Dk) (tn:Nat->DE->Prop) (J:It) (H':Hp),P8= .ref it/\aw X K4 σ H' s2/\sg X.prog X.w X.K tg J fp it tn/\tn 0 s2.heap/\(∀b∈fp,iY X K4 H' b)/\R J H'
def PI (X:Cx) (tg Kl:Dr) (wi:TI):Prop:=
 ∀(K4:List (Dk×DT)) (s:Dl) (σ:St) (H:Hp) (R:It->Hp->Prop),aw X K4 σ H s->wi σ H R->
  Du (Dz X.prog X.w) X.A (DC Kl X.env) (λv s1=>Du (Dz X.prog X.w) X.A (pyIter v) (Ct X K4 σ tg R) X.xe s1) X.xe s
theorem tZ {M:Jc} {A:DO} {E:Di->Dl->Prop} {s:Dl} {tg:Dr} {it:Dk} {u:Di} {o:DT} {n:String} {vs:Array Di} {Q:Unit->Dl->Prop} (ho:s.heap.get? it=some o) (hc:o.cls= .type n) (hd:o.data= .fields vs)
  (hn:["enumerate","zip","dict_itemiterator","dict_reverseitemiterator","odict_iterator","itertools.zip_longest","itertools.pairwise"].contains n=false) (hQ:Q () s):Du M A (HX tg (.ref it) u) Q E s:=by
 unfold HX
 cases tg<;>first
  |exact Dv hQ
  |(cases u<;>first
    |exact Dv hQ
    |(refine Dn (wpAny_load ho ?_)
      rw[hc,hd]
      show Du M A (if (["enumerate","zip","dict_itemiterator","dict_reverseitemiterator","odict_iterator","itertools.zip_longest","itertools.pairwise"].contains n&&vs[0]? ==some (rawInt _))=true then _ else _) Q E s
      rw[if_neg (by intro h;rw[hn,JK]at h;cases h)]
      exact Dv hQ))
def Bt (K:Dh) (a:Dk):It:=
 ⟨λi H=>∃xs x,cp K H a xs/\xs[i]? =some x,λi H x H'=>H'=H/\∀xs,cp K H a xs->xs[i]? =some x,λi H=>∃xs,cp K H a xs/\xs.length<=i⟩
def BU (K:Dh) (a:Dk):It:=
 ⟨λi H=>∃xs x,fc K H a xs/\xs[i]? =some x,λi H x H'=>H'=H/\∀xs,fc K H a xs->xs[i]? =some x,λi H=>∃xs,fc K H a xs/\xs.length<=i⟩
def As (lo:Int) (n:Nat):It:=⟨λi _=>i<n,λi H x H'=>H'=H/\x= .int (lo+i),λi _=>n<=i⟩
theorem sh {P:Dy} {w:DG} {K:Dh} {tg:Dr} (a it:Dk):sg P w K tg (Bt K a) [it] it (λi h=>h.IsListIter it a i)where
 mem:=by simp
 obj:=λi h st b hb=>by
  have e:b=it:=by simpa using hb
  subst e
  obtain⟨o,e,c,d⟩:=st
  exact⟨o,e,λv z=>by rw[d]at z;cases z⟩
 keep:=λi h h' st k=>st.at λo e=>k it (by simp) o e
 item:=by
  intro X hP hw hK hc i K4 s σ H E I hf st hg
  subst hP hw hK
  obtain⟨xs,x,hq,hx⟩:=hg
  obtain⟨its,rv,p,hz⟩:=I.list hq
  obtain⟨u,hu,ru⟩:=rv.get hx
  obtain⟨f0,f1,f2,f3,f4,f5⟩:=hf it (by simp)
  refine wpAny_pyNext_list_item st p.isList (x:=u) (by simpa using hu) λh' NJ sb=> ?_
  have I1:aw X K4 σ H {s with heap:=h'}:=I.turned (t':=s.toks) (λb o hb e=>(sb.2 b hb).trans e) f0 f1 f3 f4 f5
  obtain⟨o,e,c,d⟩:=id NJ
  exact⟨u,rfl,tZ (s:={s with heap:=h'}) e c d (by decide) ⟨x,H,I1,ru,⟨rfl,λys hy=>by rw[I.list_inj hy hq];exact hx⟩,NJ,λb hb=>(hf b hb).1⟩⟩
 done:=by
  intro X hP hw hK hc i K4 s σ H E I hf st hg
  subst hP hw hK
  obtain⟨xs,hq,hx⟩:=hg
  obtain⟨its,rv,p,hz⟩:=I.list hq
  obtain⟨f0,f1,f2,f3,f4,f5⟩:=hf it (by simp)
  have hl:=rv.length
  exact wpAny_pyNext_list_end (I.ok.hd hc) st p.isList (by simp;omega) λh' eb=>⟨rfl,I.turned (t':=s.toks) (λb o hb e=>eb b o hb e) f0 f1 f3 f4 f5⟩
 self:=λ_ _ _ _ _ st h=>wpAny_pyIter_listiter st h
theorem pW {P:Dy} {w:DG} {K:Dh} {tg:Dr} (a it:Dk):sg P w K tg (BU K a) [it] it (λi h=>h.IsTupleIter it a i)where
 mem:=by simp
 obj:=λi h st b hb=>by
  have e:b=it:=by simpa using hb
  subst e
  obtain⟨o,e,c,d⟩:=st
  exact⟨o,e,λv z=>by rw[d]at z;cases z⟩
 keep:=λi h h' st k=>st.at λo e=>k it (by simp) o e
 item:=by
  intro X hP hw hK hc i K4 s σ H E I hf st hg
  subst hP hw hK
  obtain⟨xs,x,hq,hx⟩:=hg
  obtain⟨its,rv,p,hz⟩:=I.tuple hq
  obtain⟨u,hu,ru⟩:=rv.get hx
  obtain⟨f0,f1,f2,f3,f4,f5⟩:=hf it (by simp)
  refine wpAny_pyNext_tuple_item st (show s.heap.IsTuple a its.toArray from p) (x:=u) (by simpa using hu) λh' NJ sb=> ?_
  have I1:aw X K4 σ H {s with heap:=h'}:=I.turned (t':=s.toks) (λb o hb e=>(sb.2 b hb).trans e) f0 f1 f3 f4 f5
  obtain⟨o,e,c,d⟩:=id NJ
  exact⟨u,rfl,tZ (s:={s with heap:=h'}) e c d (by decide) ⟨x,H,I1,ru,⟨rfl,λys hy=>by rw[I.tuple_inj hy hq];exact hx⟩,NJ,λb hb=>(hf b hb).1⟩⟩
 done:=by
  intro X hP hw hK hc i K4 s σ H E I hf st hg
  subst hP hw hK
  obtain⟨xs,hq,hx⟩:=hg
  obtain⟨its,rv,p,hz⟩:=I.tuple hq
  obtain⟨f0,f1,f2,f3,f4,f5⟩:=hf it (by simp)
  have hl:=rv.length
  exact wpAny_pyNext_tuple_end (I.ok.hd hc) st (show s.heap.IsTuple a its.toArray from p) (by simp;omega) λh' eb=>⟨rfl,I.turned (t':=s.toks) (λb o hb e=>eb b o hb e) f0 f1 f3 f4 f5⟩
 self:=λ_ _ _ _ _ st h=>wpAny_pyIter_tupleiter st h
theorem pX {P:Dy} {w:DG} {K:Dh} {tg:Dr} (it:Dk) (lo:Int) (n:Nat):sg P w K tg (As lo n) [it] it (λi h=>IsRangeIter h it (lo+(i:Nat)*1) ((n:Int) - (i:Nat)) 1)where
 mem:=by simp
 obj:=λi h st b hb=>by
  have e:b=it:=by simpa using hb
  subst e
  exact⟨_,st,λv z=>by
   have z':Data.fields _=Data.cell v:=z
   cases z'⟩
 keep:=λi h h' st k=>k it (by simp) _ st
 item:=by
  intro X hP hw hK hc i K4 s σ H E I hf st hg
  subst hP hw hK
  obtain⟨f0,f1,f2,f3,f4,f5⟩:=hf it (by simp)
  have W:=Walks.range (prog:=X.prog) (w:=X.w) (I.ok.hd hc) it lo 1 n
  refine W.item i s _ _ hg st λv h' tk hv NJ kk=> ?_
  obtain⟨t,rfl⟩:=hv
  have I1:aw X K4 σ H {s with heap:=h',toks:=tk}:=I.turned (λb o hb e=>kk b o (by simpa using hb) e) f0 f1 f3 f4 f5
  refine⟨_,rfl,tZ (s:={s with heap:=h',toks:=tk}) (n:="range_iterator") NJ rfl rfl (by decide) ⟨.int (lo+i),H,I1,⟨t,?_⟩,⟨rfl,rfl⟩,NJ,λb hb=>(hf b hb).1⟩⟩
  rw[Int.mul_one]
 done:=by
  intro X hP hw hK hc i K4 s σ H E I hf st hg
  subst hP hw hK
  obtain⟨f0,f1,f2,f3,f4,f5⟩:=hf it (by simp)
  exact wpAny_pyNext_range_end (I.ok.hd hc) st (by have:n<=i:=hg;omega) λh' eb=>⟨rfl,I.turned (t':=s.toks) (λb o hb e=>eb b o hb e) f0 f1 f3 f4 f5⟩
 self:=λ_ _ _ _ _ st h=>wpAny_pyIter_rangeiter st h
end L2
namespace L2
open PySem PySem.Spec PyProof.Rows
section
variable {X:Cx} {tg:Dr}
def Au (K:Dh) (tl:TE):TI:=λσ H R=>tl σ H λx H1=>∃a,x= .ref a/\(∃xs,cp K H1 a xs)/\R (Bt K a) H1
def BV (K:Dh) (tl:TE):TI:=λσ H R=>tl σ H λx H1=>∃a,x= .ref a/\(∃xs,fc K H1 a xs)/\R (BU K a) H1
theorem nB {l:Dr} {tl:TE} (hl:PE X l tl):PI X tg l (Au X.K tl):=by
 intro K4 s σ H R I h
 refine bU (hl K4 s σ H _ I h) λv s1 z_=> ?_
 obtain⟨x,H1,I1,r1,q1⟩:=z_
 obtain⟨a,e,⟨xs,hq⟩,q⟩:=q1
 subst e
 cases r1
 obtain⟨its,rv,p,hz⟩:=I1.list hq
 refine Jf p.isList ?_
 refine⟨s1.heap.objs.size,[s1.heap.objs.size],_,_,H1,rfl,I1.kept (t':=s1.toks) λb o e=>Dw _ e,sh a _,⟨_,D_ _ rfl,rfl,rfl⟩,λb hb=> ?_,q⟩
 have e:b=s1.heap.objs.size:=by simpa using hb
 subst e
 exact I1.fpOk (DL _) (I1.hok.fresh (DL _))
theorem yG {l:Dr} {tl:TE} (hl:PE X l tl):PI X tg l (BV X.K tl):=by
 intro K4 s σ H R I h
 refine bU (hl K4 s σ H _ I h) λv s1 z_=> ?_
 obtain⟨x,H1,I1,r1,q1⟩:=z_
 obtain⟨a,e,⟨xs,hq⟩,q⟩:=q1
 subst e
 cases r1
 obtain⟨its,rv,p,hz⟩:=I1.tuple hq
 refine IZ (show s1.heap.IsTuple a its.toArray from p) ?_
 refine⟨s1.heap.objs.size,[s1.heap.objs.size],_,_,H1,rfl,I1.kept (t':=s1.toks) λb o e=>Dw _ e,pW a _,⟨_,D_ _ rfl,rfl,rfl⟩,λb hb=> ?_,q⟩
 have e:b=s1.heap.objs.size:=by simpa using hb
 subst e
 exact I1.fpOk (DL _) (I1.hok.fresh (DL _))
theorem oJ {K4:List (Dk×DT)} {σ:St} {H:Hp} {s:Dl} {R:It->Hp->Prop} {E:Di->Dl->Prop} {lo hi:Int} {t u v:GC} {tk:Nat} (I:aw X K4 σ H s) (h1: -(2 ^62)<=lo) (h2:lo<2 ^62) (h3: -(2 ^62)<=hi) (h4:hi<2 ^62)
  (q:R (As lo (hi - lo).toNat) H):Du (Dz X.prog X.w) X.A (pyIter (.ref s.heap.objs.size)) (Ct X K4 σ tg R) E {s with heap:=s.heap.push {cls:= .type "range",data:= .fields #[.int lo t, .int hi u, .int 1 v]},toks:=tk}:=by
 refine wpAny_pyIter_range (IsRange.new ..) (small_one h1 h2 h3 h4) ?_
 have I1:aw X K4 σ H {s with heap:=s.heap.push {cls:= .type "range",data:= .fields #[.int lo t, .int hi u, .int 1 v]},toks:=tk}:=I.kept λb o e=>Dw _ e
 refine⟨(s.heap.push {cls:= .type "range",data:= .fields #[.int lo t, .int hi u, .int 1 v]}).objs.size,[(s.heap.push {cls:= .type "range",data:= .fields #[.int lo t, .int hi u, .int 1 v]}).objs.size],_,_,H,rfl,
  I1.kept (t':=tk) λb o e=>Dw _ e,pX _ lo (hi - lo).toNat,?_,λb hb=> ?_,q⟩
 ·have e1:lo+((0:Nat):Int)*1=lo:=by simp
  have e2:(((hi - lo).toNat:Nat):Int) - ((0:Nat):Int)=Builtin.Range.rangeSize lo hi 1:=by rw[rangeSize_one];split<;>omega
  show IsRangeIter _ _ (lo+((0:Nat):Int)*1) ((((hi - lo).toNat:Nat):Int) - ((0:Nat):Int)) 1
  rw[e1,e2]
  exact D_ _ rfl
 ·have e:b=(s.heap.push {cls:= .type "range",data:= .fields #[.int lo t, .int hi u, .int 1 v]}).objs.size:=by simpa using hb
  subst e
  exact I1.fpOk (DL _) (I1.hok.fresh (DL _))
def Av (ta:TA):TI:=λσ H R=>ta σ H λvs H1=>∃j:Int,vs=[.int j]/\ -(2 ^62)<=j/\j<2 ^62/\R (As 0 j.toNat) H1
def Aw (ta:TA):TI:=λσ H R=>ta σ H λvs H1=>∃i j:Int,vs=[.int i, .int j]/\(-(2 ^62)<=i/\i<2 ^62/\ -(2 ^62)<=j/\j<2 ^62)/\R (As i (j - i).toNat) H1
theorem si {a:Dr} {ta:TA} {p pos:DZ} (hg:Gl X "range") (hm:X.mg "range"=none) (ha:PA X [a] ta) (hs:Dm [a] X.env=[(false,DC a X.env)]:=by rfl):PI X tg (.Call (.Name "range" p) [a] [] pos) (Av ta):=by
 intro K4 s σ H R I h
 refine Call_ (iB I hg hm boot_range (F9 (bU (ha pos K4 s σ H _ I h) λus s1 z_=> ?_) hs rfl))
 obtain⟨vs,H1,I1,r1,q1⟩:=z_
 obtain⟨j,e,q1,q2,q⟩:=q1
 subst e
 cases r1 with
 |cons r rr=>
  cases rr
  obtain⟨t,rfl⟩:=r
  exact call_range_1 (oJ I1 (by omega) (by omega) q1 q2 (by simpa using q))
theorem sj {a b:Dr} {ta:TA} {p pos:DZ} (hg:Gl X "range") (hm:X.mg "range"=none) (ha:PA X [a,b] ta) (hs:Dm [a,b] X.env=[(false,DC a X.env),(false,DC b X.env)]:=by rfl) (Nt:Dm [b] X.env=[(false,DC b X.env)]:=by rfl):
  PI X tg (.Call (.Name "range" p) [a,b] [] pos) (Aw ta):=by
 intro K4 s σ H R I h
 refine Call_ (iB I hg hm boot_range (F9 (bU (ha pos K4 s σ H _ I h) λus s1 z_=> ?_) (by rw[hs,Nt]) (by rw[Nt];rfl)))
 obtain⟨vs,H1,I1,r1,q1⟩:=z_
 obtain⟨i,j,e,⟨q1,q2,q3,q4⟩,q⟩:=q1
 subst e
 cases r1 with
 |cons r rr=>
  cases rr with
  |cons r' rr=>
   cases rr
   obtain⟨t,rfl⟩:=r
   obtain⟨t',rfl⟩:=r'
   exact call_range_2 (oJ I1 q1 q2 q3 q4 q)
def Ax (wi:TI) (g:TG) (tb:TS):TS:=λD σ H=>wi σ H λJ H1=>∃W:Nat->Nat->St->Hp->Prop,(∃m,W 0 m σ H1)/\∀i m σ H,W i m σ H->
 (J.stop i H/\D.nx σ H)\/(J.go i H/\∃N:St->Hp->Prop,(∀σ' H',N σ' H'->∃m',m'<m/\W (i+1) m' σ' H')/\∀x H',J.yld i H x H'->g x σ H' λσ2 H2=>tb {D with nx:=N,ct:=N,bk:=D.nx} σ2 H2)
def kR (fp:List Dk) (h:DE):List (Dk×DT):=fp.filterMap λb=>(h.get? b).map λo=>(b,o)
theorem f_ {fp:List Dk} {h:DE} {b:Dk} {o:DT} (hb:b∈fp) (e:h.get? b=some o):(b,o)∈kR fp h:=Ha.mpr ⟨b,hb,by rw[e];rfl⟩
theorem sk {fp:List Dk} {h:DE} {p:Dk×DT} (hp:p∈kR fp h):p.1∈fp/\h.get? p.1=some p.2:=by
 obtain⟨b,hb,e⟩:=Ha.mp hp
 cases q:h.get? b with
 |none=>rw[q]at e;cases e
 |some o=>
  rw[q]at e
  have e':(b,o)=p:=Ec e
  subst e'
  exact⟨hb,q⟩
theorem aw.pinned {K4:List (Dk×DT)} {σ:St} {H:Hp} {s:Dl} {fp:List Dk} (I:aw X K4 σ H s) (hf:∀b∈fp,iY X K4 H b) (ho:∀b∈fp,∃o,s.heap.get? b=some o/\∀v,o.data≠ .cell v):aw X (K4++kR fp s.heap) σ H s:=
 I.pins_of λp hp=>(Es.mp hp).elim (λz=>I.pin p (DR _ z)) λz=>by
  obtain⟨hb,e⟩:=sk z
  obtain⟨f0,f1,f2,_⟩:=hf p.1 hb
  obtain⟨o,e',d⟩:=ho p.1 hb
  rw[e]at e';cases e'
  exact⟨e,f0,f1,f2,d⟩
theorem aw.unpinned {K4 pl:List (Dk×DT)} {σ:St} {H:Hp} {s:Dl} (I:aw X (K4++pl) σ H s):aw X K4 σ H s:=I.pins_of λp hp=>I.pin p (DR _ (Ei _ hp))
theorem yH {Kl:Dr} {body:List DU} {wi:TI} {g:TG} {tb:TS} {pos:DZ} (hp:PassesOwn (Dz X.prog X.w) X.A X.env X.xe) (hc:X.calm=true) (hi:PI X tg Kl wi) (hg:PG X tg g) (hb:mw X body tb)
  (hs:∀x,EV Kl X.env x=pure x:=by intro _;rfl):PS X (.For tg Kl body [] pos) (Ax wi g tb):=by
 intro K4 s σ H D I h
 refine wpAny_For (bU (hi K4 s σ H _ I h) λv s1 h1=>bU h1 λP8 s2 h2=> ?_) hs
 obtain⟨it,fp,tn,J,H2,e,I2,T,NK,f2,W,⟨m0,w0⟩,NR⟩:=h2
 subst e
 have MH:∀{H':Hp},(∀b∈fp,H' b=none)->∀b∈fp,iY X K4 H' b:=λhn b hb=>⟨hn b hb,(f2 b hb).2⟩
 refine codeAny_forLoop_any (λn s'=>∃i σ' H',aw X K4 σ' H' s'/\tn i s'.heap/\(∀b∈fp,H' b=none)/\W i n σ' H') ?_ m0 ⟨0,σ,H2,I2,NK,λb hb=>(f2 b hb).1,w0⟩
 rintro n s3 ⟨i,σ3,H3,I3,st3,QG,w3⟩
 rcases NR i n σ3 H3 w3 with ⟨stop,qn⟩|⟨go,N,hN,step⟩
 ·refine FZ hp (bU (T.done X rfl rfl rfl hc i K4 s3 σ3 H3 X.xe I3 (MH QG) st3 stop) λr s4 z_=> ?_)
  obtain⟨hr,I4⟩:=z_
  subst hr
  exact GI ⟨σ3,H3,I4,qn⟩
 ·refine FZ hp (bU (T.item X rfl rfl rfl hc i K4 s3 σ3 H3 X.xe I3 (MH QG) st3 go) λr s4 z_=> ?_)
  obtain⟨u,hr,h4⟩:=z_
  subst hr
  refine FZ hp (bU h4 λ_ s5 z_=> ?_)
  obtain⟨x,H5,I5,r5,y5,Pw,Rf⟩:=z_
  have Rg:=I5.pinned (MH Rf) (T.obj _ _ Pw)
  refine FZ hp (bU (hg _ s5 σ3 H5 x u _ Rg r5 (step x H5 y5)) λ_ s6 z_=> ?_)
  obtain⟨σ6,H6,I6,q6⟩:=z_
  refine FZ hp (bU (hb _ s6 σ6 H6 _ I6 q6) λf s7 q7=> ?_)
  have again:∀{σ7:St} {H7:Hp},aw X (K4++kR fp s5.heap) σ7 H7 s7->N σ7 H7->∃m,m<n/\∃i σ' H',aw X K4 σ' H' s7/\tn i s7.heap/\(∀b∈fp,H' b=none)/\W i m σ' H':=λ{σ7 H7} I7 n7=>by
   obtain⟨m',hm,w7⟩:=hN σ7 H7 n7
   refine⟨m',hm,i+1,σ7,H7,I7.unpinned,T.keep _ _ _ Pw λb hb o e=>(I7.pin (b,o) (DR _ (DR _ (f_ hb e)))).1,λb hb=> ?_,w7⟩
   obtain⟨o,e,d⟩:=T.obj _ _ Pw b hb
   exact(I7.pin (b,o) (DR _ (DR _ (f_ hb e)))).2.1
  cases f with
  |next=>obtain⟨σ7,H7,I7,n7⟩:=q7;exact again I7 n7
  |cont=>obtain⟨σ7,H7,I7,n7⟩:=q7;exact again I7 n7
  |brk=>obtain⟨σ7,H7,I7,q7⟩:=q7;exact⟨σ7,H7,I7.unpinned,q7⟩
  |ret v=>obtain⟨x7,σ7,H7,I7,r7,q7⟩:=q7;exact⟨x7,σ7,H7,I7.unpinned,r7,q7⟩
end
end L2
namespace L2
open PySem PySem.Spec PyProof.Rows
abbrev R2:=V->V->Hp->VK->Prop
def gQ (X:Cx) (f:Di->Di->Gy Di) (r:R2):Prop:=
 ∀(K4:List (Dk×DT)) (s:Dl) (σ:St) (H:Hp) (x y:V) (v u:Di) (Q:VK),aw X K4 σ H s->b9 x v->b9 y u->r x y H Q->
  Du (Dz X.prog X.w) X.A (f v u) (EP X K4 σ Q) X.xe s
def BW (X:Cx) (f:Di->Gy Di) (r:V->Hp->VK->Prop):Prop:=
 ∀(K4:List (Dk×DT)) (s:Dl) (σ:St) (H:Hp) (x:V) (v:Di) (Q:VK),aw X K4 σ H s->b9 x v->r x H Q->
  Du (Dz X.prog X.w) X.A (f v) (EP X K4 σ Q) X.xe s
def fJ (X:Cx) (f:Di) (r:List V->Hp->VK->Prop):Prop:=
 ∀(K4:List (Dk×DT)) (s:Dl) (σ:St) (H:Hp) (xs:List V) (us:List Di) (Q:VK),aw X K4 σ H s->aI xs us->r xs H Q->
  Du (Dz X.prog X.w) X.A (call f us) (EP X K4 σ Q) X.xe s
def BX (X:Cx) (r:V->Hp->(Bool->Hp->Prop)->Prop):Prop:=
 ∀(K4:List (Dk×DT)) (s:Dl) (σ:St) (H:Hp) (x:V) (v:Di) (Q:Bool->Hp->Prop),aw X K4 σ H s->b9 x v->r x H Q->
  Du (Dz X.prog X.w) X.A (truthy v) (TP X K4 σ Q) X.xe s
def Bu (r:R2) (ta tb:TE):TE:=λσ H Q=>ta σ H λx H1=>tb σ H1 λy H2=>r x y H2 Q
def CP (r:V->Hp->VK->Prop) (ta:TE):TE:=λσ H Q=>ta σ H λx H1=>r x H1 Q
def rI (C:Int->Int->Prop) (g:Int->Int->V):R2:=λx y H Q=>∃i j,x= .int i/\y= .int j/\C i j/\Q (g i j) H
def sm (g:Int->Int->V):R2:=λx y H Q=>∃i j,x= .int i/\y= .int j/\Q (g i j) H
def rU (g:Int->V):V->Hp->VK->Prop:=λx H Q=>∃i,x= .int i/\Q (g i) H
section
variable {X:Cx} {a b c:Dr} {ta tb tc:TE} {pos:DZ}
theorem yI (ha:PE X a ta) (hb:PE X b tb) {K4:List (Dk×DT)} {s:Dl} {σ:St} {H:Hp} {R:V->V->Hp->Prop} (I:aw X K4 σ H s)
  (h:ta σ H λx H1=>tb σ H1 λy H2=>R x y H2) {Q:Di->Dl->Prop} {f:Di->Di->Gy Di}
  (hf:∀v u s2 x y H2,aw X K4 σ H2 s2->b9 x v->b9 y u->R x y H2->Du (Dz X.prog X.w) X.A (f v u) Q X.xe s2):
  Du (Dz X.prog X.w) X.A (DC a X.env) (λv s₁=>Du (Dz X.prog X.w) X.A (DC b X.env) (λu s₂=>Du (Dz X.prog X.w) X.A (f v u) Q X.xe s₂) X.xe s₁) X.xe s:=by
 refine bU (ha K4 s σ H _ I h) λv s1 z_=> ?_
 obtain⟨x,H1,I1,r1,q1⟩:=z_
 refine bU (hb K4 s1 σ H1 _ I1 q1) λu s2 z_=> ?_
 obtain⟨y,H2,I2,r2,q2⟩:=z_
 exact hf v u s2 x y H2 I2 r1 r2 q2
theorem Ay {op:Operator} {r:R2} (ho:gQ X (F7 op) r) (ha:PE X a ta) (hb:PE X b tb):PE X (.BinOp a op b pos) (Bu r ta tb):=by
 intro K4 s σ H Q I h
 exact wpAny_BinOp (yI ha hb I h λv u s2 x y H2 I2 rx ry q=>ho K4 s2 σ H2 x y v u Q I2 rx ry q)
theorem Az {op:UnaryOp} {r:V->Hp->VK->Prop} (ho:BW X (unaryOp op) r) (ha:PE X a ta):PE X (.UnaryOp op a pos) (CP r ta):=by
 intro K4 s σ H Q I h
 exact UnaryOp_ (bU (ha K4 s σ H _ I h) λv s1 ⟨x,H1,I1,r1,q1⟩=>ho K4 s1 σ H1 x v Q I1 r1 q1)
theorem BY {f:Di->Di->Gy Di} {C:Int->Int->Prop} {g:Int->Int->Int}
  (rule:∀(i j:Int) (t u:GC) (s:Dl) (Q:Di->Dl->Prop) (E:Di->Dl->Prop),C i j->Q (.int (g i j) s.toks) {s with toks:=s.toks+1}->Du (Dz X.prog X.w) X.A (f (.int i t) (.int j u)) Q E s):
  gQ X f (rI C λi j=> .int (g i j)):=by
 intro K4 s σ H x y v u Q I rx ry h
 obtain⟨i,j,rfl,rfl,hc,q⟩:=h
 obtain⟨t,rfl⟩:=rx
 obtain⟨t',rfl⟩:=ry
 exact rule i j t t' s _ _ hc ⟨.int (g i j),H,I.tok _,⟨_,rfl⟩,q⟩
theorem AA {f:Di->Di->Gy Di} {g:Int->Int->Int}
  (rule:∀(i j:Int) (t u:GC) (s:Dl) (Q:Di->Dl->Prop) (E:Di->Dl->Prop),Q (.int (g i j) s.toks) {s with toks:=s.toks+1}->Du (Dz X.prog X.w) X.A (f (.int i t) (.int j u)) Q E s):
  gQ X f (sm λi j=> .int (g i j)):=by
 intro K4 s σ H x y v u Q I rx ry h
 obtain⟨i,j,rfl,rfl,q⟩:=h
 obtain⟨t,rfl⟩:=rx
 obtain⟨t',rfl⟩:=ry
 exact rule i j t t' s _ _ ⟨.int (g i j),H,I.tok _,⟨_,rfl⟩,q⟩
theorem yJ {f:Di->Di->Gy Di} {g:Int->Int->Bool}
  (rule:∀(i j:Int) (t u:GC) (s:Dl) (Q:Di->Dl->Prop) (E:Di->Dl->Prop),Q (.bool (g i j)) s->Du (Dz X.prog X.w) X.A (f (.int i t) (.int j u)) Q E s):
  gQ X f (sm λi j=> .bl (g i j)):=by
 intro K4 s σ H x y v u Q I rx ry h
 obtain⟨i,j,rfl,rfl,q⟩:=h
 obtain⟨t,rfl⟩:=rx
 obtain⟨t',rfl⟩:=ry
 exact rule i j t t' s _ _ ⟨.bl (g i j),H,I,rfl,q⟩
def wg (i j:Int):Prop:=0<j/\j<1073741824
def AB (i j:Int):Prop:=0<=j/\j<=1000000/\i.natAbs<2 ^64
def so (i j:Int):Prop:=(-(2 ^64)<i/\i<2 ^64)\/(-(2 ^64)<j/\j<2 ^64)
theorem so.ok {i j:Int} (h:so i j):IntMulOk i j:=by
 rcases h with ⟨h1,h2⟩|⟨h1,h2⟩
 ·exact .of_left (intBits_le_64 h1 h2)
 ·exact .of_right (intBits_le_64 h1 h2)
theorem yK:gQ X (F7 .Add) (sm λi j=> .int (i+j)):=AA λ_ _ _ _ _ _ _ q=>add_int q
theorem pY:gQ X (F7 .Sub) (sm λi j=> .int (i - j)):=AA λ_ _ _ _ _ _ _ q=>sub_int q
theorem yL:gQ X (F7 .Mult) (rI so λi j=> .int (i*j)):=BY λ_ _ _ _ _ _ _ hc q=>mul_int q hc.ok
theorem gf:gQ X (F7 .FloorDiv) (rI wg λi j=> .int (i / j)):=BY λi j _ _ _ _ _ hc q=>by
 have h1:(0:Int)<j:=hc.1
 have h2:j<1073741824:=hc.2
 exact floordiv_int (by omega) (by rw[Int.fdiv_eq_ediv_of_nonneg i (by omega)];exact q) (.inl (PyProof.noPylong_small (by omega)))
theorem bF:gQ X (F7 .Mod) (rI (λ_ j=>0<j) λi j=> .int (i%j)):=BY λi j _ _ _ _ _ hc q=>by
 have h1:(0:Int)<j:=hc
 exact mod_int' (by omega) (by rw[Int.fmod_eq_emod_of_nonneg i (by omega)];exact q)
theorem CQ {f:Di->Gy Di} {g:Int->Int}
  (rule:∀(i:Int) (t:GC) (s:Dl) (Q:Di->Dl->Prop) (E:Di->Dl->Prop),Q (.int (g i) s.toks) {s with toks:=s.toks+1}->Du (Dz X.prog X.w) X.A (f (.int i t)) Q E s):
  BW X f (rU λi=> .int (g i)):=by
 intro K4 s σ H x v Q I rx h
 obtain⟨i,rfl,q⟩:=h
 obtain⟨t,rfl⟩:=rx
 exact rule i t s _ _ ⟨.int (g i),H,I.tok _,⟨_,rfl⟩,q⟩
theorem yM:BW X (unaryOp .USub) (rU λi=> .int (-i)):=CQ λ_ _ _ _ _ q=>neg_int q
end
def yN:V->V->Bool
 | .non, .non=>true| .non, .int _=>true| .int _, .non=>true| .non, .bl _=>true| .bl _, .non=>true| .non, .str _=>true| .str _, .non=>true
 | .int _, .int _=>true| .bl _, .bl _=>true| .str _, .str _=>true| .byt _, .byt _=>true
 | .int _, .str _=>true| .str _, .int _=>true| .bl _, .str _=>true| .str _, .bl _=>true
 |_,_=>false
def Bv:R2:=λx y H Q=>yN x y=true/\Q (.bl (decide (x=y))) H
def Cu:R2:=λx y H Q=>yN x y=true/\Q (.bl (!decide (x=y))) H
theorem qU {i j:Int}:decide (V.int i=V.int j)=(i==j):=by
 rw[Fx]
 simp
theorem t_ {i j:Bool}:decide (V.bl i=V.bl j)=(i==j):=by
 rw[Fx]
 simp
theorem qV {i j:Dj}:decide (V.str i=V.str j)=(i==j):=by
 rw[Fx]
 simp
theorem qW {i j:Array UInt8}:decide (V.byt i=V.byt j)=(i.toList==j.toList):=by
 rw[Fx]
 cases i
 cases j
 simp
section
variable {X:Cx} {a b c:Dr} {ta tb tc:TE} {pos:DZ}
theorem aV {K4:List (Dk×DT)} {σ:St} {H:Hp} {s:Dl} {Q:VK} {k k':Bool} (I:aw X K4 σ H s) (q:Q (.bl k) H) (e:k=k'):EP X K4 σ Q (.bool k') s:=by
 subst e
 exact⟨.bl k,H,I,rfl,q⟩
theorem eu:gQ X (Eu .Eq) Bv:=by
 intro K4 s σ H x y v u Q I rx ry h
 obtain⟨hs,q⟩:=h
 cases x with
 |non=>
  cases rx
  cases y with
  |non=>cases ry;exact PySem.EqNone.eq_none_none (aV I q (by simp))
  |bl j=>cases ry;exact PySem.EqNone.eq_none_bool (aV I q (by simp))
  |int j=>obtain⟨t',rfl⟩:=ry;exact PySem.EqNone.eq_none_int (aV I q (by simp))
  |str j=>obtain⟨t',rfl⟩:=ry;exact PySem.EqNone.eq_none_str (aV I q (by simp))
  |_=>exact absurd (show false=true from hs) DM
 |bl i=>
  cases rx
  cases y with
  |non=>cases ry;exact PySem.EqNone.eq_bool_none (aV I q (by simp))
  |bl j=>cases ry;exact eq_bool (aV I q t_)
  |str j=>obtain⟨t',rfl⟩:=ry;exact PySem.EqMixed.eq_bool_str (aV I q (by simp))
  |_=>exact absurd (show false=true from hs) DM
 |int i=>
  obtain⟨t,rfl⟩:=rx
  cases y with
  |non=>cases ry;exact PySem.EqNone.eq_int_none (aV I q (by simp))
  |int j=>obtain⟨t',rfl⟩:=ry;exact eq_int (aV I q qU)
  |str j=>obtain⟨t',rfl⟩:=ry;exact PySem.EqMixed.eq_int_str (aV I q (by simp))
  |_=>exact absurd (show false=true from hs) DM
 |str i=>
  obtain⟨t,rfl⟩:=rx
  cases y with
  |non=>cases ry;exact PySem.EqNone.eq_str_none (aV I q (by simp))
  |bl j=>cases ry;exact PySem.EqMixed.eq_str_bool (aV I q (by simp))
  |int j=>obtain⟨t',rfl⟩:=ry;exact PySem.EqMixed.eq_str_int (aV I q (by simp))
  |str j=>obtain⟨t',rfl⟩:=ry;exact eq_str (aV I q qV)
  |_=>exact absurd (show false=true from hs) DM
 |byt i=>
  obtain⟨t,rfl⟩:=rx
  cases y with
  |byt j=>obtain⟨t',rfl⟩:=ry;exact PySem.W.eq_bytes (aV I q qW)
  |_=>exact absurd (show false=true from hs) DM
 |_=>cases y<;>exact absurd (show false=true from hs) DM
theorem qX:gQ X (Eu .NotEq) Cu:=by
 intro K4 s σ H x y v u Q I rx ry h
 obtain⟨hs,q⟩:=h
 cases x with
 |non=>
  cases rx
  cases y with
  |non=>cases ry;exact PySem.EqNone.ne_none_none (aV I q (by simp))
  |bl j=>cases ry;exact PySem.EqNone.ne_none_bool (aV I q (by simp))
  |int j=>obtain⟨t',rfl⟩:=ry;exact PySem.EqNone.ne_none_int (aV I q (by simp))
  |str j=>obtain⟨t',rfl⟩:=ry;exact PySem.EqNone.ne_none_str (aV I q (by simp))
  |_=>exact absurd (show false=true from hs) DM
 |bl i=>
  cases rx
  cases y with
  |non=>cases ry;exact PySem.EqNone.ne_bool_none (aV I q (by simp))
  |bl j=>cases ry;exact ne_bool (aV I q (congrArg not t_))
  |str j=>obtain⟨t',rfl⟩:=ry;exact PySem.EqMixed.ne_bool_str (aV I q (by simp))
  |_=>exact absurd (show false=true from hs) DM
 |int i=>
  obtain⟨t,rfl⟩:=rx
  cases y with
  |non=>cases ry;exact PySem.EqNone.ne_int_none (aV I q (by simp))
  |int j=>obtain⟨t',rfl⟩:=ry;exact ne_int (aV I q (congrArg not qU))
  |str j=>obtain⟨t',rfl⟩:=ry;exact PySem.EqMixed.ne_int_str (aV I q (by simp))
  |_=>exact absurd (show false=true from hs) DM
 |str i=>
  obtain⟨t,rfl⟩:=rx
  cases y with
  |non=>cases ry;exact PySem.EqNone.ne_str_none (aV I q (by simp))
  |bl j=>cases ry;exact PySem.EqMixed.ne_str_bool (aV I q (by simp))
  |int j=>obtain⟨t',rfl⟩:=ry;exact PySem.EqMixed.ne_str_int (aV I q (by simp))
  |str j=>obtain⟨t',rfl⟩:=ry;exact ne_str (aV I q (congrArg not qV))
  |_=>exact absurd (show false=true from hs) DM
 |byt i=>
  obtain⟨t,rfl⟩:=rx
  cases y with
  |byt j=>obtain⟨t',rfl⟩:=ry;exact PySem.W.ne_bytes (aV I q (congrArg not qW))
  |_=>exact absurd (show false=true from hs) DM
 |_=>cases y<;>exact absurd (show false=true from hs) DM
theorem oK:gQ X (Eu .Lt) (sm λi j=> .bl (decide (i<j))):=yJ λ_ _ _ _ _ _ _ q=>lt_int q
theorem oM:gQ X (Eu .Gt) (sm λi j=> .bl (decide (j<i))):=yJ λ_ _ _ _ _ _ _ q=>gt_int q
theorem ua:gQ X (Eu .GtE) (sm λi j=> .bl (decide (j<=i))):=yJ λ_ _ _ _ _ _ _ q=>ge_int q
theorem wj:gQ X (Eu .IsNot) (λx y H Q=>y= .non/\Q (.bl (!decide (x= .non))) H):=by
 intro K4 s σ H x y v u Q I rx ry h
 obtain⟨rfl,q⟩:=h
 cases ry
 refine isnot_none_gen (aV I q ?_)
 cases x<;>first
  |(cases rx;rfl)
  |(obtain⟨t,rfl⟩:=rx;rfl)
theorem gQ.or {f:Di->Di->Gy Di} {r r':R2} (h:gQ X f r) (h':gQ X f r'):gQ X f (λx y H Q=>r x y H Q\/r' x y H Q):=by
 intro K4 s σ H x y v u Q I rx ry q
 rcases q with q|q
 ·exact h K4 s σ H x y v u Q I rx ry q
 ·exact h' K4 s σ H x y v u Q I rx ry q
theorem ub (b:Dr) {op:Iw} (h:op≠ .In:=by decide) (h2:op≠ .NotIn:=by decide):EA op b=false:=by
 have e1:(op==CmpOp.In)=false:=by cases op<;>first|rfl|exact absurd rfl h
 have e2:(op==CmpOp.NotIn)=false:=by cases op<;>first|rfl|exact absurd rfl h2
 cases b<;>simp[EA,e1,e2]
theorem wk {op:Iw} {r:R2} (ho:gQ X (Eu op) r) (ha:PE X a ta) (hb:PE X b tb) (hm:EA op b=false):PE X (.Compare a [op] [b] pos) (Bu r ta tb):=by
 intro K4 s σ H Q I h
 exact wpAny_Compare1 (yI ha hb I h λv u s2 x y H2 I2 rx ry q=>ho K4 s2 σ H2 x y v u Q I2 rx ry q) hm
def xV (t:TE):TT:=λσ H Q=>t σ H λx H'=>∃k,x= .bl k/\Q k H'
theorem wl {op:Iw} {r:R2} (ho:gQ X (Eu op) r) (ha:PE X a ta) (hb:PE X b tb) (hm:EA op b=false):PT X (.Compare a [op] [b] pos) (xV (Bu r ta tb)):=by
 intro K4 s σ H Q I h
 refine Il (bU (ha K4 s σ H _ I h) λv s1 ⟨x,H1,I1,r1,q1⟩=>bU (hb K4 s1 σ H1 _ I1 q1) λu s2 ⟨y,H2,I2,r2,q2⟩=>
  bU (ho K4 s2 σ H2 x y v u _ I2 r1 r2 q2) λc s3 ⟨z,H3,I3,r3,k,e,q3⟩=> ?_) hm
 subst e
 cases r3
 exact EU ⟨H3,I3,q3⟩
def AD (K:Dh) (x:V) (H:Hp) (k:Bool):Prop:=
 match x with
 | .non=>k=false
 | .bl b=>k=b
 | .int i=>k=(i != 0)
 | .str y=>y.length<=sizeLine/\k=((y.length:Int) != 0)
 | .byt y=>y.size<=sizeLine/\k=((y.size:Int) != 0)
 | .ref p=>(∃xs,cp K H p xs/\k= !xs.isEmpty)\/(∃xs,fc K H p xs/\k= !xs.isEmpty)\/∃Ke,H p=some (.dK Ke)/\k= !Ke.isEmpty
 |_=>False
theorem pZ {κ:Type} {Ke:List (κ×V)} {vs:List (κ×Di)} (r:KV Ke vs):(!vs.isEmpty)= !Ke.isEmpty:=by
 cases r<;>rfl
theorem kS {xs:List V} {its:List Di} (r:aI xs its):(!its.toArray.isEmpty)= !xs.isEmpty:=by
 cases r<;>simp
theorem kT:(sizeLine:Nat)<2 ^63:=by rw[Ia];decide
theorem yO:BX X (λx H Q=>∃k,AD X.K x H k/\Q k H):=by
 intro K4 s σ H x v Q I rx h
 obtain⟨k,e,q⟩:=h
 have hl:=kT
 have hs:sizeLine=16777216:=Ia
 cases x with
 |non=>
  cases rx
  have e':k=false:=e
  subst e'
  exact truthy_none ⟨H,I,q⟩
 |bl b=>
  cases rx
  have e':k=b:=e
  subst e'
  exact EU ⟨H,I,q⟩
 |int i=>
  obtain⟨t,rfl⟩:=rx
  have e':k=(i != 0):=e
  subst e'
  exact PySem.P.truthy_int ⟨H,I,q⟩
 |str y=>
  obtain⟨t,rfl⟩:=rx
  obtain⟨hy,e'⟩:y.length<=sizeLine/\k=((y.length:Int) != 0):=e
  subst e'
  exact PySem.P.truthy_str (by omega) ⟨H,I.tok _,q⟩
 |byt y=>
  obtain⟨t,rfl⟩:=rx
  obtain⟨hy,e'⟩:y.size<=sizeLine/\k=((y.size:Int) != 0):=e
  subst e'
  exact PySem.W.truthy_bytes (by omega) ⟨H,I.tok _,q⟩
 |ref p=>
  cases rx
  have e':(∃xs,cp X.K H p xs/\k= !xs.isEmpty)\/(∃xs,fc X.K H p xs/\k= !xs.isEmpty)\/∃Ke,H p=some (.dK Ke)/\k= !Ke.isEmpty:=e
  rcases e' with ⟨xs,hx,e'⟩|⟨xs,hx,e'⟩|⟨Ke,hx,e'⟩
  ·subst e'
   obtain⟨its,r,pl,hz⟩:=I.list hx
   have Ki:=r.length
   exact wpAny_truthy_list pl.isList (by simp only[Ds];omega) ⟨H,I.tok _,by rw[kS r];exact q⟩
  ·subst e'
   obtain⟨its,r,pl,hz⟩:=I.tuple hx
   have Ki:=r.length
   exact truthy_tuple pl (by simp only[Ds];omega) ⟨H,I.tok _,by rw[kS r];exact q⟩
  ·subst e'
   obtain⟨hz,hS,vs,r,m⟩:Ke.length<=sizeLine/\(p==sysModules)=false/\∃vs,KV Ke vs/\s.heap.DictOf (du X.prog X.w) p vs:=I.hok p _ hx
   have Ki:Ke.length=vs.length:=IG r
   exact wpAny_truthy_dict hS m (by omega) ⟨H,I.tok _,by rw[pZ r];exact q⟩
 |_=>exact(show False from e).elim
theorem uc (ha:PE X a ta) (he:∀LP,Jx a X.env LP=(do let v<-LP;GY a.pos;GZ [v] (truthy v))):
  PT X a (λσ H Q=>ta σ H λx H'=>∃k,AD X.K x H' k/\Q k H'):=by
 intro K4 s σ H Q I h
 exact isTrue_plain (bU (ha K4 s σ H _ I h) λv s1 ⟨x,H1,I1,r1,q1⟩=>yO K4 s1 σ H1 x v Q I1 r1 q1) (he _)
theorem my {x:V} {us:List Di} (r:aI [x] us):∃u,us=[u]/\b9 x u:=by
 cases r with
 |cons r1 r2=>cases r2;exact⟨_,rfl,r1⟩
theorem xW {x y:V} {us:List Di} (r:aI [x,y] us):∃u w',us=[u,w']/\b9 x u/\b9 y w':=by
 cases r with
 |cons r1 r2=>
  cases r2 with
  |cons r3 r4=>cases r4;exact⟨_,_,rfl,r1,r3⟩
end
end L2
namespace L2
open PySem PySem.Spec PyProof.Rows
structure p_ (h:DE) (x dx C:Dk) (mA:Dj->Option Di):Prop where
 obj:h.get? x=some (ER C dx)
 ns:h.Ns1 dx mA
 ne:dx≠x
theorem sq {h:DE} {dx:Dk} {mA:Dj->Option Di} (n:h.Ns1 dx mA):∃od,h.get? dx=some od/\∀name,G_ name od=some (mA name):=by
 obtain⟨o,es,ep,ho,hd,hk,_,hm⟩:=n
 refine⟨o,ho,λname=> ?_⟩
 have e:=hm name
 unfold nsFind findBy at e
 rw[<-Array.find?_toList]at e
 unfold G_
 rw[hd]
 dsimp only
 split
 ·rename_i y q
  rw[q]at e
  exact congrArg some e
 ·rename_i q
  rw[q]at e
  have a:es.toList.any (·.refKey)=false:=by
   rw[List.any_eq_false]
   intro y hy
   obtain⟨z,t,Px⟩:=hk y (Array.mem_toList_iff.mp hy)
   simp[DictEntry.refKey,Px]
  have a':¬es.toList.any (·.refKey)=true:=by rw[a];exact DM
  rw[if_neg a']
  exact congrArg some e
theorem p_.look {h:DE} {x dx C:Dk} {mA:Dj->Option Di} (I:p_ h x dx C mA):∃od,PySem.W.InstAt h x (ER C dx) C (some od)/\∀name,G_ name od=some (mA name):=
 let ⟨od,ho,hl⟩:=sq I.ns
 ⟨od,⟨I.obj,rfl,rfl,ho⟩,hl⟩
section
variable {prog:Dy} {w:DG} {A:DO} {E:Di->Dl->Prop} {s:Dl} {K:Dh} {x dx C f:Dk} {mA:Dj->Option Di} {name:Dj} {v:Di}
theorem wm {Py:Bool} {Q:Di->Dl->Prop} (X:K.In s.heap) (I:p_ s.heap x dx C mA) (hg:Fo K C name=true) (hh:FE K C=true)
  (ha:DD K (.ref C) name=some none) (hv:mA name=some v) (Rh:Jo v=true) (h:Q v {s with toks:=s.toks+1}):
  Du (Dz prog w) A (getAttr (.ref x) name Py) Q E s:=by
 obtain⟨od,J,hl⟩:=I.look
 exact PySem.W.get_value X J (GW hg).1 (PySem.W.findObj_own hh ha rfl (by rw[hl,hv])) Rh h
theorem ud {pl:Gy Bool} {Q:Di×List Di->Dl->Prop} (X:K.In s.heap) (I:p_ s.heap x dx C mA) (hg:Fo K C name=true)
  (hf:DD K (.ref C) name=some (some (.ref f))) (ht:GJ K (.ref f)=true) (hv:mA name=none) (h:Q (.ref f,[.ref x]) s):
  Du (Dz prog w) A (G4 (.ref x) name pl) Q E s:=by
 obtain⟨od,J,hl⟩:=I.look
 exact PySem.W.method_fn X J (GW hg).1 (GW hg).2 hf (beq_iff_eq.mp ht) (by show (G_ name od).map (·.isSome)=some false;rw[hl,hv];rfl) h
theorem wo {ns:List Dj} {Q:Unit->Dl->Prop} (X:K.In s.heap) (I:p_ s.heap x dx C mA)
  (hs:DD K (.ref C) "__setattr__"=some (some (.builtin "object.__setattr__"))) (hp:Gi K C=true) (ht:HY K C name=some none) (hh:FE K C=true)
  (hw:IU mA ns) (Oy:ns.length<=sizeLine)
  (h:∀h',p_ h' x dx C (λy=>if y=name then some v else mA y)->IY dx s.heap h'->Q () {s with heap:=h',toks:=s.toks+2}):
  Du (Dz prog w) A (setAttr (.ref x) name v) Q E s:=by
 obtain⟨od,J,hl⟩:=I.look
 refine PySem.W.set_plain X J hs (PySem.W.osa_open (s:={s with toks:=s.toks+1}) (r:=none) X J hp ht λb=> ?_)
 obtain⟨cd,hc,Pm⟩:=PySem.W.any_some hh
 have hx:s.heap.get? x=some ⟨.ref C,some dx, .plain,#[]⟩:=I.obj
 refine Dn (Dv (Dn (Dn (wpAny_loadPart hx (Dn (PySem.W.Looks.here (s:={s with toks:=s.toks+1}) (PySem.W.looks_clsIn X hc) ?_))))))
 rw[Pm]
 refine Dv (a:=some dx) (Dn (Dv (Dn ?_)))
 refine wpAny_nsSet1 (s:={s with toks:=s.toks+1}) I.ns λh' P9 Nt=> ?_
 obtain⟨oD,Sx,Sy,Ri,Rj,Rl⟩:=P9.count (PySem.Within.cons name v hw)
 refine Dn (wpAny_lookBehind Ri (by rw[Rj];exact pastItsLine_dict (DY Rl (by rw[DA];omega))) ?_)
 exact Dv (h _ ⟨(Nt.2 _ (E_ I.ne)).trans I.obj,P9,I.ne⟩ Nt)
theorem ue {R:I_->Dl->Prop} {vs:List Di} {kw:List (Dj×Di)} (X:K.In s.heap) (hm:F_ K C=true)
  (hi:DD K (.ref C) "__init__"=some (some (.ref f))) (hf:Im K (.ref f)=some (.type "function"))
  (h:Gd (Dz prog w) (A.under (.builtin "type.__call__" ⟨.ref C::vs,kw⟩)) (.call (.ref f) ⟨.ref (s.heap.objs.size+1)::vs,kw⟩) (PySem.W.InitBack (s.heap.objs.size+1) R)
   {s with heap:=(s.heap.push ED).push (ER C s.heap.objs.size)}):
  Gd (Dz prog w) A (.call (.ref C) ⟨vs,kw⟩) R s:=by
 obtain⟨hh,g,d,t,os⟩:=s
 exact PySem.W.make_core (PySem.W.makes_of X hm) (FP X hi) (λself=>PySem.W.bind_fn X self hf) (.inl rfl) h
end
def ef (f:Dj) (v:V):List (Dj×V)->List (Dj×V)
 |[]=>[(f,v)]
 |(g,x)::r=>if g=f then (g,v)::r else (g,x)::ef f v r
theorem bM (f g:Dj) (v:V):∀fs:List (Dj×V),(ef f v fs).lookup g=if g=f then some v else fs.lookup g
 |[]=>by
  show FX g [(f,v)]=_
  by_cases h:g=f
  ·have hb:(g==f)=true:=beq_iff_eq.mpr h
   simp only[FX,hb,if_pos h]
  ·have hb:(g==f)=false:=beq_eq_false_iff_ne.mpr h
   simp only[FX,hb,if_neg h]
 |(k,x)::r=>by
  have ih:=bM f g v r
  rw[show ef f v ((k,x)::r)=(if k=f then (k,v)::r else (k,x)::ef f v r)from rfl]
  by_cases hk:k=f
  ·rw[if_pos hk]
   by_cases h:g=k
   ·have hb:(g==k)=true:=beq_iff_eq.mpr h
    simp only[FX,hb,if_pos (h.trans hk)]
   ·have hb:(g==k)=false:=beq_eq_false_iff_ne.mpr h
    simp only[FX,hb,if_neg (λe:g=f=>h (e.trans hk.symm))]
  ·rw[if_neg hk]
   by_cases h:g=k
   ·have hb:(g==k)=true:=beq_iff_eq.mpr h
    simp only[FX,hb,if_neg (λe:g=f=>hk (h.symm.trans e))]
   ·have hb:(g==k)=false:=beq_eq_false_iff_ne.mpr h
    simp only[FX,hb]
    exact ih
theorem jy (f:Dj) (v:V):∀fs:List (Dj×V),f∈(ef f v fs).map (·.1)/\∀g,g∈fs.map (·.1)->g∈(ef f v fs).map (·.1)
 |[]=>⟨by simp[ef],λg h=>by simp at h⟩
 |(k,x)::r=>by
  obtain⟨i1,i2⟩:=jy f v r
  rw[show ef f v ((k,x)::r)=(if k=f then (k,v)::r else (k,x)::ef f v r)from rfl]
  by_cases hk:k=f
  ·rw[if_pos hk]
   subst hk
   exact⟨by simp,λg h=>by simpa using h⟩
  ·rw[if_neg hk]
   refine⟨?_,λg h=> ?_⟩
   ·rw[DH]
    exact DF _ i1
   ·rw[DH]at h ⊢
    rcases DN.mp h with e|e
    ·exact DN.mpr (.inl e)
    ·exact DF _ (i2 g e)
theorem kd (f:Dj) (v:V):∀fs:List (Dj×V),(ef f v fs).length<=fs.length+1
 |[]=>by simp[ef]
 |(k,x)::r=>by
  have ih:=kd f v r
  rw[show ef f v ((k,x)::r)=(if k=f then (k,v)::r else (k,x)::ef f v r)from rfl]
  by_cases hk:k=f
  ·rw[if_pos hk,DA,DA];omega
  ·rw[if_neg hk,DA,DA];omega
theorem gI.some_of {v:V} {o:Option Di} (r:gI (some v) o):∃u,o=some u/\b9 v u:=by
 cases o with
 |none=>exact(show False from r).elim
 |some u=>exact⟨u,rfl,r⟩
theorem gI.none_of {o:Option Di} (r:gI none o):o=none:=by
 cases o with
 |none=>rfl
 |some u=>exact(show False from r).elim
theorem sr {v:V} {u:Di} (r:b9 v u):Jo u=true:=by
 cases v with
 |non=>cases (show u=FO from r);rfl
 |bl b=>cases (show u=Iu b from r);rfl
 |int i=>obtain⟨t,e⟩:=(show ∃t,u=HW i t from r);cases e;rfl
 |str x=>obtain⟨t,e⟩:=(show ∃t,u=Gx x t from r);cases e;rfl
 |byt b=>obtain⟨t,e⟩:=(show ∃t,u=K1 b t from r);cases e;rfl
 |flt b=>obtain⟨t,e⟩:=(show ∃t,u=Jn b t from r);cases e;rfl
 |ref a=>cases (show u=DP a from r);rfl
 |ty n=>cases (show u=GD n from r);rfl
section
variable {P:Dy} {w:DG} {H H':Hp} {h h':DE} {a C dx:Dk} {fs MG:List (Dj×V)}
theorem kE (hok:iA P w H h) (e:H a=some (.ins C dx fs)):∃mA,p_ h a dx C mA/\(∀f,gI (fs.lookup f) (mA f))/\IU mA (fs.map (·.1))/\fs.length<=1000/\H dx=some (.own a):=by
 obtain⟨d,z,ne,ob,mA,n,r,q⟩:=(show bB P w H h a (.ins C dx fs)from hok a _ e)
 exact⟨mA,⟨ob,n,ne⟩,r,q,z,d⟩
end
structure oN (K:Dh) (C:Dk):Prop where
 pg:Fo K C JP=true
 hd:FE K C=true
 po:Gi K C=true
 sa:DD K (.ref C) "__setattr__"=some (some (.builtin "object.__setattr__"))
theorem oN.get {K:Dh} {C:Dk} (c:oN K C) (f:Dj):Fo K C f=true:=c.pg
def cC (K:Dh) (C:Dk) (f:Dj):Prop:=DD K (.ref C) f=some none
theorem cC.taker {K:Dh} {C:Dk} {f:Dj} (n:cC K C f):HY K C f=some none:=by
 unfold HY
 rw[show DD K (.ref C) f=some none from n]
 rfl
structure q0 (K:Dh) (C:Dk) (m:Dj) (f:Dk):Prop where
 at_:DD K (.ref C) m=some (some (.ref f))
 fn:GJ K (.ref f)=true
 kp:E8 K (.ref f)=true
section
variable {X:Cx} {K4:List (Dk×DT)} {σ:St} {H:Hp} {s:Dl} {a C dx:Dk} {fs:List (Dj×V)} {f:Dj} {v:V} {A:DO} {E:Di->Dl->Prop}
theorem q8 {b:Bool} {Q:Di->Dl->Prop} (I:aw X K4 σ H s) (e:H a=some (.ins C dx fs)) (c:oN X.K C) (n:cC X.K C f) (l:fs.lookup f=some v)
  (h:∀u s',aw X K4 σ H s'->b9 v u->Q u s'):Du (Dz X.prog X.w) A (getAttr (.ref a) f b) Q E s:=by
 obtain⟨mA,O,r,_,_,_⟩:=kE I.hok e
 obtain⟨u,hu,ru⟩:=gI.some_of (v:=v) (o:=mA f) (by rw[<-l];exact r f)
 exact wm I.kIn O (c.get f) c.hd n hu (sr ru) (h u _ (I.tok _) ru)
theorem iC {m:Dj} {g:Dk} {pl:Gy Bool} {Q:Di×List Di->Dl->Prop} (I:aw X K4 σ H s) (e:H a=some (.ins C dx fs)) (c:oN X.K C) (k:q0 X.K C m g) (l:fs.lookup m=none)
  (h:Q (.ref g,[.ref a]) s):Du (Dz X.prog X.w) A (G4 (.ref a) m pl) Q E s:=by
 obtain⟨mA,O,r,_,_,_⟩:=kE I.hok e
 have hn:mA m=none:=gI.none_of (by rw[<-l];exact r m)
 exact ud I.kIn O (c.get m) k.at_ k.fn hn h
theorem kU {y:V} {u:Di} {Q:Unit->Dl->Prop} (I:aw X K4 σ H s) (e:H a=some (.ins C dx fs)) (c:oN X.K C) (n:cC X.K C f) (hl:fs.length<1000) (ry:b9 y u)
  (h:∀s',aw X K4 σ (bc H a (.ins C dx (ef f y fs))) s'->Q () s'):Du (Dz X.prog X.w) A (setAttr (.ref a) f u) Q E s:=by
 obtain⟨mA,O,r,wi,_,ho⟩:=kE I.hok e
 have hz:(fs.map (·.1)).length<=sizeLine:=by rw[Dp,Ia];omega
 refine wo I.kIn O c.sa c.po n.taker c.hd wi hz λh' O' sb=>h _ ?_
 have hd:∃o,h'.get? dx=some o:=let ⟨o,_,_,e',_⟩:=O'.ns;⟨o,e'⟩
 refine I.write (x:=a) (e:=dx) (by rw[e];exact Fy) (.inr ho) (λb q hb z=>(sb.2 b hb).trans z) hd ?_
 refine⟨by rw[al O.ne];exact ho,?_,O.ne,O'.obj,_,O'.ns,λg=> ?_,λg hg=> ?_⟩
 ·have:=kd f y fs;omega
 ·show gI ((ef f y fs).lookup g) (if g=f then some u else mA g)
  rw[bM]
  by_cases q:g=f
  ·rw[if_pos q,if_pos q];exact ry
  ·rw[if_neg q,if_neg q];exact r g
 ·by_cases q:g=f
  ·rw[q];exact(jy f y fs).1
  ·refine(jy f y fs).2 g (wi g λz=>hg ?_)
   show (if g=f then some u else mA g)=none
   rw[if_neg q];exact z
theorem aw.made (I:aw X K4 σ H s):aw X K4 σ (bc (bc H s.heap.objs.size (.own (s.heap.objs.size+1))) (s.heap.objs.size+1) (.ins C s.heap.objs.size []))
  {s with heap:=(s.heap.push ED).push (ER C s.heap.objs.size)}:=by
 have e1:(s.heap.push ED).get? s.heap.objs.size=some ED:=D_ s.heap rfl
 have e2:((s.heap.push ED).push (ER C s.heap.objs.size)).get? (s.heap.objs.size+1)=some (ER C s.heap.objs.size):=by
  have:=D_ (s.heap.push ED) (o:=ER C s.heap.objs.size) rfl
  rwa [FI]at this
 have e3:(s.heap.push ED).Ns s.heap.objs.size (λ_=>none):=⟨ED,#[],_,e1,rfl,(λe he=>absurd he (by simp)),λ_=>rfl⟩
 have I1:=I.laid (a:=s.heap.objs.size) (o:= .own (s.heap.objs.size+1)) (h':=s.heap.push ED) (t':=s.toks) (λb u q=>Dw _ q) (DL _) ⟨_,e1⟩
 refine I1.laid (a:=s.heap.objs.size+1) (o:= .ins C s.heap.objs.size []) (t':=s.toks) (λb u q=>Dw _ q) (HC (FI _ _)) ?_
 have ne:s.heap.objs.size≠s.heap.objs.size+1:=E3 (HD _)
 refine⟨by rw[al ne,aq],FD _,ne,e2,λ_=>none,(Heap.Ns1.of_empty e3).at λo q=>Dw _ q,λ_=>Fy,λy hy=>absurd rfl hy⟩
theorem wq {prog:Dy} {w:DG} {env:EO} {e:Dr} {f:Dj} {pos:DZ} {s:Dl} {Q:Di->Dl->Prop} (hb:E9 e f env (DC e env)=DC e env)
  (h:Du (Dz prog w) A (DC e env) (λo s₁=>Du (Dz prog w) A (getAttr o f true) Q E s₁) E s):Du (Dz prog w) A (DC (.Attribute e f pos) env) Q E s:=
 Attribute_any_ h (by rw[arm_eval_Attribute,hb])
end
def BZ (K:Dh) (ta:TE) (f:Dj):TE:=λσ H Q=>ta σ H λx H1=>∃a C dx fs v,x= .ref a/\H1 a=some (.ins C dx fs)/\oN K C/\cC K C f/\fs.lookup f=some v/\Q v H1
def B_ (K:Dh) (ta tv:TE) (f:Dj):TS:=λD σ H=>tv σ H λy H1=>ta σ H1 λx H2=>∃a C dx fs,x= .ref a/\H2 a=some (.ins C dx fs)/\oN K C/\cC K C f/\fs.length<1000/\
 D.nx σ (bc H2 a (.ins C dx (ef f y fs)))
section
variable {X:Cx} {o e value:Dr} {f:Dj} {pos Kw Pz:DZ} {ta tv:TE}
theorem nD (he:PE X e ta) (hb:E9 e f X.env (DC e X.env)=DC e X.env):PE X (.Attribute e f pos) (BZ X.K ta f):=by
 intro K4 s σ H Q I h
 refine wq hb (bU (he K4 s σ H _ I h) λu s1 z_=> ?_)
 obtain⟨x,H1,I1,rx,a,C,dx,fs,v,ex,ea,c,n,l,q⟩:=z_
 subst ex
 obtain rfl:u=DP a:=rx
 exact q8 I1 ea c n l λu' s2 I2 ru=>⟨v,H1,I2,ru,q⟩
theorem yP (ha:PE X o ta) (hv:PE X value tv) (hs:Eg value (some (.Attribute o f Kw)) pos.line X.env=pure false):PS X (.Assign [.Attribute o f Kw] value pos) (B_ X.K ta tv f):=by
 intro K4 s σ H D I h
 refine GB (bU (hv K4 s σ H _ I h) λu s1 ⟨y,H1,I1,ry,q⟩=>bU (ha K4 s1 σ H1 _ I1 q) λov s2 z_=> ?_) hs
 obtain⟨x,H2,I2,rx,a,C,dx,fs,ex,ea,c,n,l,q2⟩:=z_
 subst ex
 obtain rfl:ov=DP a:=rx
 exact kU I2 ea c n l ry λs3 I3=>⟨σ,_,I3,q2⟩
theorem xX {pl:Gy Bool} {m:Dj} {Kh:DZ} {args:List Dr} {K4:List (Dk×DT)} {s:Dl} {σ:St} {H:Hp} {Q:Di->Dl->Prop} {te:TE} (he:PE X e te) (I:aw X K4 σ H s)
  (h:te σ H λx H1=>∃a C dx fs g,x= .ref a/\H1 a=some (.ins C dx fs)/\oN X.K C/\q0 X.K C m g/\fs.lookup m=none/\
   ∀s1,aw X K4 σ H1 s1->Du (Dz X.prog X.w) X.A (H9 pos (.ref g) [.ref a] (DQ pos (Dm args X.env)) (EK pos (Em [] X.env))) Q X.xe s1)
  (ht:DC (.Call (.Attribute e m Kh) args [] pos) X.env=(do
   let ov<-DC e X.env
   GY Kh.atName
   let (f,first)<-GZ [ov] (G4 ov m pl)
   H9 pos f first (DQ pos (Dm args X.env)) (EK pos (Em [] X.env)))):
  Du (Dz X.prog X.w) X.A (DC (.Call (.Attribute e m Kh) args [] pos) X.env) Q X.xe s:=by
 refine Gz (pl:=pl) (bU (he K4 s σ H _ I h) λu s1 z_=> ?_) ht
 obtain⟨x,H1,I1,rx,a,C,dx,fs,g,ex,ea,c,k,l,q⟩:=z_
 subst ex
 obtain rfl:u=DP a:=rx
 exact iC I1 ea c k l (q s1 I1)
end
section
variable {X:Cx} {K4:List (Dk×DT)} {σ:St} {H:Hp} {s:Dl} {A:DO} {E:Di->Dl->Prop} {Q:Di->Dl->Prop} {c:Di} {b:Bool}
inductive iZ (K:Dh) (H:Hp):V->Di->Prop where
 |non:iZ K H .non (.type "NoneType")
 |bl (x:Bool):iZ K H (.bl x) (.type "bool")
 |int (i:Int):iZ K H (.int i) (.type "int")
 |str (x:Dj):iZ K H (.str x) (.type "str")
 |flt (x:UInt64):iZ K H (.flt x) (.type "float")
 |lst {a:Dk} {xs:List V} (e:H a=some (.lst xs)):iZ K H (.ref a) (.type "list")
 |frz {a:Dk} {o:DT} {xs:List V} (e:H a=some (.frz o (.lst xs))):iZ K H (.ref a) (.type "list")
 |tup {a:Dk} {xs:List V} (e:H a=some (.tup xs)):iZ K H (.ref a) (.type "tuple")
 |dK {a:Dk} {Ke:List (cn×V)} (e:H a=some (.dK Ke)):iZ K H (.ref a) (.type "dict")
 |dT {a:Dk} {Ke:List (List cn×V)} (e:H a=some (.dT Ke)):iZ K H (.ref a) (.type "dict")
 |ins {a C dx:Dk} {fs:List (Dj×V)} (e:H a=some (.ins C dx fs)) (cl:oN K C) (ha:DD K (.ref C) "__class__"=some (some (.builtin "object.__class__")))
   (hn:FF K (.builtin "object.__class__") "__get__"=some (some (.builtin "getset_descriptor.__get__"))) (QH:G0 K (.builtin "object.__class__")=some true)
   (hm:DW K C (.type "object")=some true):iZ K H (.ref a) (.ref C)
theorem su {x:V} {u t:Di} (I:aw X K4 σ H s) (rx:b9 x u) (ty:iZ X.K H x t) (e:Eh X.K t c=some b) (h:∀tk,Q (.bool b) {s with toks:=tk}):
  Du (Dz X.prog X.w) A (call (.builtin "isinstance") [u,c]) Q E s:=by
 cases ty with
 |non=>cases (show u=FO from rx);exact Ej PySem.W.kitx_none I.kIn Fy e (λz=>nomatch z) h
 |bl y=>cases (show u=Iu y from rx);exact Ej PySem.W.kitx_bool I.kIn Fy e (λz=>nomatch z) h
 |int i=>obtain⟨t,q⟩:=(show ∃t,u=HW i t from rx);cases q;exact Ej PySem.W.kitx_int I.kIn Fy e (λz=>nomatch z) h
 |str y=>obtain⟨t,q⟩:=(show ∃t,u=Gx y t from rx);cases q;exact Ej PySem.W.kitx_str I.kIn Fy e (λz=>nomatch z) h
 |flt y=>obtain⟨t,q⟩:=(show ∃t,u=Jn y t from rx);cases q;exact Ej PySem.W.kitx_float I.kIn Fy e (λz=>nomatch z) h
 | @lst a xs ea=>
  cases (show u=DP a from rx)
  obtain⟨_,_,n,_,h1⟩:=(show bB X.prog X.w H s.heap a (.lst xs)from I.hok a _ ea)
  exact Ej Jg I.kIn ⟨_,h1,rfl⟩ e (λz=>nomatch z) h
 | @frz a ob xs ea=>
  cases (show u=DP a from rx)
  obtain⟨_,_,_,n,_,h1⟩:=(show bB X.prog X.w H s.heap a (.frz ob (.lst xs))from I.hok a _ ea)
  exact Ej Jg I.kIn ⟨_,h1,rfl⟩ e (λz=>nomatch z) h
 | @tup a xs ea=>
  cases (show u=DP a from rx)
  obtain⟨_,_,_,p⟩:=(show bB X.prog X.w H s.heap a (.tup xs)from I.hok a _ ea)
  obtain⟨o,h1,h2,_⟩:=p
  exact Ej PySem.W.kitx_tuple I.kIn ⟨o,h1,h2⟩ e (λz=>nomatch z) h
 | @dK a Ke ea=>
  cases (show u=DP a from rx)
  obtain⟨_,_,vs,_,p⟩:=(show bB X.prog X.w H s.heap a (.dK Ke)from I.hok a _ ea)
  obtain⟨o,es,ep,h1,h2,_⟩:=p
  exact Ej Jh I.kIn ⟨o,h1,h2.1⟩ e (λz=>nomatch z) h
 | @dT a Ke ea=>
  cases (show u=DP a from rx)
  obtain⟨_,_,xs,_,o,es,ep,h1,h2,_⟩:=(show bB X.prog X.w H s.heap a (.dT Ke)from I.hok a _ ea)
  exact Ej Jh I.kIn ⟨o,h1,h2.1⟩ e (λz=>nomatch z) h
 | @ins a C dx fs ea cl ha hn QH hm=>
  cases (show u=DP a from rx)
  obtain⟨mA,O,_⟩:=kE I.hok ea
  obtain⟨od,J,_⟩:=O.look
  exact Ej (PySem.W.kitx_own (cl.get _) cl.hd ha hn QH hm) I.kIn J e (λz=>nomatch z) h
end
end L2
namespace L2
open PySem PySem.Spec PyProof.Rows
structure bN (k:Nat) (A:DO):Prop where
 hd:A.handled=none
 dp:A.depth+3*k+5<recursionLimit
 un:A.units+16*k+200<FG
theorem bN.mono {j k:Nat} {A:DO} (r:bN k A) (h:j<=k):bN j A:=⟨r.hd,by have:=r.dp;omega,by have:=r.un;omega⟩
theorem bN.deeper {k:Nat} {A:DO} (r:bN (k+1) A) (env:EO):bN k (A.deeper env):=
 ⟨r.hd,by have:=r.dp;show A.depth+1+3*k+5<_;omega,by have:=r.un;show A.units+3+16*k+200<_;omega⟩
theorem q9 {A:DO} {C:Dk} {us:List Di} {kw:List (Dj×Di)}:(A.under (.builtin "type.__call__" ⟨.ref C::us,kw⟩)).depth=A.depth+1:=by
 first|rfl|simp[J0,Code.weight,Code.isCreation,Code.isGuard,Code.isCaller,Code.frames,J3,guardIds]
theorem qa {A:DO} {C:Dk} {us:List Di} {kw:List (Dj×Di)}:(A.under (.builtin "type.__call__" ⟨.ref C::us,kw⟩)).units=A.units+1:=by
 first|rfl|simp[J0,Code.cUnits,Code.frames,J3]
theorem bN.make {k:Nat} {A:DO} (r:bN (k+1) A) (C:Dk) (us:List Di) (kw:List (Dj×Di)):bN k (A.under (.builtin "type.__call__" ⟨.ref C::us,kw⟩)):=
 ⟨r.hd,by have:=r.dp;rw[q9];omega,by have:=r.un;rw[qa];omega⟩
theorem bN.depth {k:Nat} {A:DO} (r:bN k A):A.depth<recursionLimit:=by have:=r.dp;omega
theorem bN.units {k:Nat} {A:DO} (r:bN k A):A.units+64<FG:=by have:=r.un;omega
def AE:TA:=λ_ H Q=>Q [] H
def xY (ta:TE) (tr:TA):TA:=λσ H Q=>ta σ H λx H1=>tr σ H1 λxs H2=>Q (x::xs) H2
section
variable {X:Cx} {e:Dr} {es:List Dr} {te:TE} {t:TA} {pos:DZ}
theorem d0:PA X [] AE:=λ_ _ _ _ H Q I h=>Ji ⟨[],H,I, .nil,h⟩
theorem bt (ha:PE X e te) (hr:PA X es t) (hs:Dm (e::es) X.env=(false,DC e X.env)::Dm es X.env:=by rfl):PA X (e::es) (xY te t):=by
 intro pos K4 s σ H Q I h
 rw[hs]
 show Du _ _ (JJ ((false,DC e X.env)::DQ pos (Dm es X.env))) _ _ s
 refine J4 (bU (ha K4 s σ H _ I h) λu s1 z_=> ?_)
 obtain⟨x,H1,I1,r1,q1⟩:=z_
 exact bU (hr pos K4 s1 σ H1 _ I1 q1) λus s2 ⟨xs,H2,I2,r2,q2⟩=>⟨x::xs,H2,I2, .cons r1 r2,q2⟩
def C1 (t:TA):TE:=λσ H Q=>t σ H λxs H1=>xs.length<=sizeLine/\∀p,H1 p=none->Q (.ref p) (bc H1 p (.tup xs))
def C3 (t:TA):TE:=λσ H Q=>t σ H λxs H1=>xs.length<=sizeLine/\∀p,H1 p=none->Q (.ref p) (bc H1 p (.lst xs))
theorem yQ {x1} (h:PA X es t):PE X (.Tuple es x1 pos) (C1 t):=by
 intro K4 s σ H Q I hq
 refine wpAny_Tuple_spliced (bU (h pos K4 s σ H _ I hq) λus s1 ⟨xs,H1,I1,r,z,q⟩=>⟨by rw[<-r.length];exact z,?_⟩)
 have hf:H1 s1.heap.objs.size=none:=I1.hok.fresh (DL _)
 refine⟨.ref s1.heap.objs.size,bc H1 s1.heap.objs.size (.tup xs),I1.laid (t':=s1.toks) (λb u e=>Dw _ e) (DL _) ?_,rfl,q _ hf⟩
 exact⟨z,us,r,⟨_,D_ _ rfl,rfl,_,rfl,rfl⟩⟩
theorem nE (h:PA X es t):PE X (.List es pos) (C3 t):=by
 intro K4 s σ H Q I hq
 refine wpAny_List_spliced (bU (h pos K4 s σ H _ I hq) λus s1 ⟨xs,H1,I1,r,z,q⟩=>⟨by rw[<-r.length];exact z,?_⟩)
 have hf:H1 s1.heap.objs.size=none:=I1.hok.fresh (DL _)
 refine⟨.ref s1.heap.objs.size,bc H1 s1.heap.objs.size (.lst xs),I1.laid (t':=s1.toks) (λb u e=>Dw _ e) (DL _) ?_,rfl,q _ hf⟩
 exact⟨z,us,0,r,D_ _ rfl⟩
end
abbrev Sp:=List V->Hp->VK->XK->Prop
abbrev qb:=List EO->Hp->Dl->XK->Di->Dl->Prop
structure qc (P:Dy) (w:DG) (K:Dh) (mg:Dj->Option Di) (base:DE) (A:DO) (outer:List EO) (s:Dl) (H:Hp):Prop where
 frames:A.frames=some outer
 mod:Mod K mg base
 bs:∀b o,base.get? b=some o->s.heap.get? b=some o/\H b=none
 bsz:base.objs.size<=s.heap.objs.size
 funs:s.heap.FunFrames base outer
 frf:∀b∈kC outer,H b=none
 hok:iA P w H s.heap
 bare:Gb s.gens
def CE (outer:List EO) (P:Dy) (w:DG) (H:Hp) (s:Dl) (Q:VK) (u:Di) (s':Dl):Prop:=
 ∃v H',s'.os=s.os/\Gb s'.gens/\Un (kC outer) [] H H' s.heap s'.heap/\iA P w H' s'.heap/\b9 v u/\Q v H'
def CR (CX:qb) (outer:List EO) (P:Dy) (w:DG) (H:Hp) (s:Dl) (Q:VK) (E:XK) (r:I_) (s':Dl):Prop:=
 match r with
 | .ok (.ret u)=>CE outer P w H s Q u s'
 | .ok _=>False
 | .error e=>CX outer H s E e s'
structure d2 (P:Dy) (w:DG) (K:Dh) (mg:Dj->Option Di) (base:DE) (CX:qb) (k:Nat) (f:Dk) (fd:Ep) (ps:List Dj) (sp:Sp):Prop where
 len:∀vs H Q E,sp vs H Q E->vs.length=ps.length
 run:∀(A:DO) (outer:List EO) (s:Dl) (H:Hp) (args:Args) (us:List Di) (vs:List V) (Q:VK) (E:XK),bN k A->qc P w K mg base A outer s H->Io s fd args (ps.zip us)->aI vs us->sp vs H Q E->
  Gd (Dz P w) A (.call (.ref f) args) (CR CX outer P w H s Q E) s
theorem d2.mono {P:Dy} {w:DG} {K:Dh} {mg:Dj->Option Di} {base:DE} {CX:qb} {j k:Nat} {f:Dk} {fd:Ep} {ps:List Dj} {sp:Sp} (F:d2 P w K mg base CX j f fd ps sp) (h:j<=k):
  d2 P w K mg base CX k f fd ps sp:=⟨F.len,λA outer s H args us vs Q E hr=>F.run A outer s H args us vs Q E (hr.mono h)⟩
theorem d2.imp {P:Dy} {w:DG} {K:Dh} {mg:Dj->Option Di} {base:DE} {CX:qb} {k:Nat} {f:Dk} {fd:Ep} {ps:List Dj} {sp QI:Sp} (F:d2 P w K mg base CX k f fd ps sp)
  (h:∀vs H Q E,QI vs H Q E->sp vs H Q E):d2 P w K mg base CX k f fd ps QI:=
 ⟨λvs H Q E q=>F.len vs H Q E (h _ _ _ _ q),λA outer s H args us vs Q E hr he hb hv hs=>F.run A outer s H args us vs Q E hr he hb hv (h _ _ _ _ hs)⟩
theorem qc.make {P:Dy} {w:DG} {K:Dh} {mg:Dj->Option Di} {base:DE} {A:DO} {outer:List EO} {s:Dl} {H:Hp} (e:qc P w K mg base A outer s H) (C:Dk) (us:List Di) (kw:List (Dj×Di)):
  qc P w K mg base (A.under (.builtin "type.__call__" ⟨.ref C::us,kw⟩)) outer s H:=⟨by first|exact e.frames|(simpa[J0,Code.envs,J3,pushEnvs]using e.frames),e.mod,e.bs,e.bsz,e.funs,e.frf,e.hok,e.bare⟩
section
variable {X:Cx} {K4:List (Dk×DT)} {σ:St} {H:Hp} {s s':Dl}
theorem aw.env0 (I:aw X K4 σ H s):qc X.prog X.w X.K X.mg X.base X.A X.stack s H:=
 ⟨I.ok.frames,I.ok.mod,I.bs,DY I.ok.bsz I.sz,I.stack,I.stkFree,I.hok,I.bare⟩
theorem aw.after {Q:VK} {u:Di} (I:aw X K4 σ H s) (h:CE X.stack X.prog X.w H s Q u s'):EP X K4 σ Q u s':=by
 obtain⟨v,H',os,bare,un,hok,r,q⟩:=h
 obtain⟨hh,g,d,t,PD⟩:=s'
 obtain rfl:PD=s.os:=os
 exact⟨v,H',I.call (h':=hh) (g':=g) (d':=d) (t':=t) (ch:=[]) un hok bare (λb z=>absurd z (by simp)),r,q⟩
end
def xZ (sp:Sp) (M0:List V) (E:St->XK) (t:TA):TE:=λσ H Q=>t σ H λvs H1=>sp (vs++M0) H1 Q (E σ)
def uf (C:Dk) (m:Dj) (sp:Sp) (M0:List V) (E:St->XK) (ta:TE) (t:TA):TE:=λσ H Q=>ta σ H λx H1=>∃a dx fs,x= .ref a/\H1 a=some (.ins C dx fs)/\fs.lookup m=none/\
 t σ H1 λvs H2=>sp (x::(vs++M0)) H2 Q (E σ)
def AF (C:Dk) (sp:Sp) (M0:List V) (E:St->XK) (t:TA):TE:=λσ H Q=>t σ H λvs H1=>∀x dx,H1 x=none->H1 dx=none->dx≠x->
 sp (.ref x::(vs++M0)) (bc (bc H1 dx (.own x)) x (.ins C dx [])) (λv H2=>v= .non/\Q (.ref x) H2) (E σ)
def dv (K:Dh) (fd:Ep) (ps:List Dj) (ds:List Di):Prop:=
 ∀(s:Dl) (us:List Di),K.In s.heap->(us++ds).length=ps.length->Io s fd ⟨us,[]⟩ (ps.zip (us++ds))
theorem dv.all {K:Dh} {fd:Ep} {ps:List Dj} (h:∀us:List Di,us.length=ps.length->Fe fd ⟨us,[]⟩=pure (ps.zip us)):dv K fd ps []:=λs us _ hl=>by
 rw[EG]at hl ⊢
 exact .of_eq (h us hl)
def gR (CX:qb) (X:Cx) (E:St->XK):Prop:=∀(K4:List (Dk×DT)) (σ:St) (H:Hp) (s:Dl) (e:Di) (s':Dl),aw X K4 σ H s->CX X.stack H s (E σ) e s'->X.xe e s'
section
variable {X:Cx} {CX:qb} {k:Nat} {f C:Dk} {fd:Ep} {ps:List Dj} {sp:Sp} {M0:List V} {ds:List Di} {E:St->XK} {x m:Dj} {p pos Kh:DZ} {e o:Dr} {es:List Dr} {ta:TE} {t:TA}
theorem qd {K4:List (Dk×DT)} {σ:St} {H:Hp} {s:Dl} {Q:VK} {us:List Di} {vs:List V} (F:d2 X.prog X.w X.K X.mg X.base CX k f fd ps sp) (hr:bN k X.A) (hb:dv X.K fd ps ds) (hd:aI M0 ds) (hx:gR CX X E)
  (I:aw X K4 σ H s) (r:aI vs us) (h:sp (vs++M0) H Q (E σ)):Du (Dz X.prog X.w) X.A (call (.ref f) us) (EP X K4 σ Q) X.xe s:=by
 have r2:aI (vs++M0) (us++ds):=r.append hd
 have hl:(us++ds).length=ps.length:=by rw[<-r2.length];exact F.len _ _ _ _ h
 refine Hs (G5 (F.run X.A X.stack s H ⟨us,[]⟩ (us++ds) (vs++M0) Q (E σ) hr I.env0 (hb s us I.kIn hl) r2 h) λr s' hq=> ?_)
 cases r with
 |error e=>exact hx K4 σ H s e s' I hq
 |ok fl=>
  cases fl with
  |ret u=>exact I.after hq
  |next=>exact EF hq
  |brk=>exact EF hq
  |cont=>exact EF hq
theorem qY (F:d2 X.prog X.w X.K X.mg X.base CX k f fd ps sp) (hr:bN k X.A) (hg:Gl X x) (hm:X.mg x=some (.ref f)) (hk:E8 X.K (.ref f)=true) (hb:dv X.K fd ps ds) (hd:aI M0 ds) (hx:gR CX X E)
  (ha:PA X (e::es) t) (La:(x==("__debug__":Dj))=false:=by decide) (he:Dm (e::es) X.env=(false,DC e X.env)::Dm es X.env:=by rfl) (L3:(DQ pos (Dm es X.env)).any (·.1)=false:=by rfl):
  PE X (.Call (.Name x p) (e::es) [] pos) (xZ sp M0 E t):=by
 intro K4 s σ H Q I h
 refine Fb (iX I hg hm ?_ La)
 refine Hb (h₀:=X.base) I.ok.mod.kin hk (bU (ha pos K4 s σ H _ I h) λus s1 ⟨vs,H1,I1,r,q⟩=>⟨I1.kIn,?_⟩) he L3
 exact qd F hr hb hd hx I1 r q
theorem qZ {pl:Gy Bool} (he:PE X o ta) (c:oN X.K C) (hm:q0 X.K C m f) (F:d2 X.prog X.w X.K X.mg X.base CX k f fd ps sp) (hr:bN k X.A) (hb:dv X.K fd ps ds) (hd:aI M0 ds) (hx:gR CX X E) (ha:PA X (e::es) t)
  (N8:Dm (e::es) X.env=(false,DC e X.env)::Dm es X.env:=by rfl) (L3:(DQ pos (Dm es X.env)).any (·.1)=false:=by rfl)
  (ht:DC (.Call (.Attribute o m Kh) (e::es) [] pos) X.env=(do
   let ov<-DC o X.env
   GY Kh.atName
   let (f,first)<-GZ [ov] (G4 ov m pl)
   H9 pos f first (DQ pos (Dm (e::es) X.env)) (EK pos (Em [] X.env))):=by rfl):
  PE X (.Call (.Attribute o m Kh) (e::es) [] pos) (uf C m sp M0 E ta t):=by
 intro K4 s σ H Q I h
 refine Gz (pl:=pl) (bU (he K4 s σ H _ I h) λu s1 z_=> ?_) ht
 obtain⟨x,H1,I1,rx,a,dx,fs,ex,ea,l,q⟩:=z_
 subst ex
 obtain rfl:u=DP a:=rx
 refine iC I1 ea c hm l ?_
 refine Hb (first:=[.ref a]) (h₀:=X.base) I.ok.mod.kin hm.kp (bU (ha pos K4 s1 σ H1 _ I1 q) λus s2 ⟨vs,H2,I2,r,q2⟩=>⟨I2.kIn,?_⟩) N8 L3
 exact qd (us:= .ref a::us) (vs:= .ref a::vs) F hr hb hd hx I2 (.cons rfl r) q2
theorem ug {pl:Gy Bool} (he:PE X o ta) (c:oN X.K C) (hm:q0 X.K C m f) (F:d2 X.prog X.w X.K X.mg X.base CX k f fd ps sp) (hr:bN k X.A) (hb:dv X.K fd ps ds) (hd:aI M0 ds) (hx:gR CX X E)
  (ht:DC (.Call (.Attribute o m Kh) [] [] pos) X.env=(do
   let ov<-DC o X.env
   GY Kh.atName
   let (f,first)<-GZ [ov] (G4 ov m pl)
   H9 pos f first (DQ pos (Dm [] X.env)) (EK pos (Em [] X.env))):=by rfl):
  PE X (.Call (.Attribute o m Kh) [] [] pos) (uf C m sp M0 E ta AE):=by
 intro K4 s σ H Q I h
 refine Gz (pl:=pl) (bU (he K4 s σ H _ I h) λu s1 z_=> ?_) ht
 obtain⟨x,H1,I1,rx,a,dx,fs,ex,ea,l,q⟩:=z_
 subst ex
 obtain rfl:u=DP a:=rx
 refine iC I1 ea c hm l ?_
 exact PySem.W.callWith_K0 (first:=[.ref a]) I1.kIn hm.kp (qd (us:=[.ref a]) (vs:=[.ref a]) F hr hb hd hx I1 (.cons rfl .nil) q)
structure Mk (K:Dh) (C f:Dk):Prop where
 makes:F_ K C=true
 init:DD K (.ref C) "__init__"=some (some (.ref f))
 fn:GJ K (.ref f)=true
 kp:E8 K (.ref C)=true
theorem uh {K4:List (Dk×DT)} {σ:St} {H:Hp} {s:Dl} {Q:VK} {us:List Di} {vs:List V} (M:Mk X.K C f) (F:d2 X.prog X.w X.K X.mg X.base CX k f fd ps sp) (hr:bN (k+1) X.A) (hb:dv X.K fd ps ds) (hd:aI M0 ds)
  (hx:gR CX X E) (I:aw X K4 σ H s) (r:aI vs us)
  (h:∀x dx,H x=none->H dx=none->dx≠x->sp (.ref x::(vs++M0)) (bc (bc H dx (.own x)) x (.ins C dx [])) (λv H2=>v= .non/\Q (.ref x) H2) (E σ)):
  Du (Dz X.prog X.w) X.A (call (.ref C) us) (EP X K4 σ Q) X.xe s:=by
 have hq:=h (s.heap.objs.size+1) s.heap.objs.size (I.hok.fresh (Nat.le_succ _)) (I.hok.fresh (DL _)) (E3 (HD _))
 have I2:=aw.made (C:=C) I
 have r2:aI (V.ref (s.heap.objs.size+1)::(vs++M0)) (DP (s.heap.objs.size+1)::(us++ds)):= .cons rfl (r.append hd)
 have hl:(DP (s.heap.objs.size+1)::us++ds).length=ps.length:=by
  have e:=r2.length
  rw[F.len _ _ _ _ hq]at e
  exact e.symm
 refine Hs (ue (f:=f) I.kIn M.makes M.init (beq_iff_eq.mp M.fn) (G5 (F.run _ X.stack _ _ ⟨DP (s.heap.objs.size+1)::us,[]⟩ (DP (s.heap.objs.size+1)::(us++ds)) _ _ (E σ) (hr.make C us [])
  (I2.env0.make C us []) (hb _ (DP (s.heap.objs.size+1)::us) I2.kIn hl) r2 hq) λr s' Oz=> ?_))
 cases r with
 |error e=>exact hx K4 σ _ _ e s' I2 Oz
 |ok fl=>
  cases fl with
  |ret u=>
   obtain⟨v,H',I3,rv,ev,q3⟩:=I2.after Oz
   subst ev
   exact⟨rv,⟨V.ref (s.heap.objs.size+1),H',I3,rfl,q3⟩⟩
  |next=>exact EF Oz
  |brk=>exact EF Oz
  |cont=>exact EF Oz
theorem q_ (M:Mk X.K C f) (F:d2 X.prog X.w X.K X.mg X.base CX k f fd ps sp) (hr:bN (k+1) X.A) (hg:Gl X x) (hm:X.mg x=some (.ref C)) (hb:dv X.K fd ps ds) (hd:aI M0 ds) (hx:gR CX X E)
  (ha:PA X (e::es) t) (La:(x==("__debug__":Dj))=false:=by decide) (he:Dm (e::es) X.env=(false,DC e X.env)::Dm es X.env:=by rfl) (L3:(DQ pos (Dm es X.env)).any (·.1)=false:=by rfl):
  PE X (.Call (.Name x p) (e::es) [] pos) (AF C sp M0 E t):=by
 intro K4 s σ H Q I h
 refine Fb (iX I hg hm ?_ La)
 refine Hb (h₀:=X.base) I.ok.mod.kin M.kp (bU (ha pos K4 s σ H _ I h) λus s1 ⟨vs,H1,I1,r,q⟩=>⟨I1.kIn,?_⟩) he L3
 exact uh M F hr hb hd hx I1 r q
end
section
variable {X:Cx} {CX:qb} {k:Nat} {f C:Dk} {fd:Ep} {ps ks:List Dj} {sp:Sp} {E:St->XK} {x m:Dj} {p pos Kh Rm:DZ} {e o:Dr} {es:List Dr} {Sz:List EH} {te ta:TE} {t tk:TA} {nm:Option Dj}
variable {g:List Di->List Di->List Di} {gV:List V->List V->List V}
end
structure aF (N P:List Dj) (sc:EX):Prop where
 kind:sc.kind= .function
 co:sc.isCoroutine=false
 gen:sc.isGenerator=false
 nd:N.Nodup
 pre:N.take P.length=P
 par:∀x∈P,sc.names.lookup x=some .local\/sc.names.lookup x=some .cell
 nofree:∀y∈sc.names,y.2≠ .free
theorem mz {kindOf:Dj->Option Ed} {x:Dj}:∀{binds:List (Dj×Di)} {m:Dj->Option Di},(∀v,(x,v)∉binds)->Iy kindOf binds m x=m x
 |[],_,_=>rfl
 |(n,v)::r,m,h=>by
  unfold Iy
  rw[mz λw hw=>h w (DF _ hw)]
  split
  ·have:x≠n:=by rintro rfl;exact h v DI
   simp[this]
  ·rfl
theorem mB {kindOf:Dj->Option Ed} {x:Dj}:∀{binds:List (Dj×Di)} {m:Dj->Option Di},(∀v,(x,v)∉binds)->Iz kindOf binds m x=m x
 |[],_,_=>rfl
 |(n,v)::r,m,h=>by
  unfold Iz
  rw[mB λw hw=>h w (DF _ hw)]
  split
  ·rfl
  ·have:x≠n:=by rintro rfl;exact h v DI
   simp[this]
theorem mC {kindOf:Dj->Option Ed} {x:Dj} {v:Di}:∀{P:List Dj} {vs:List Di} {i:Nat} {m:Dj->Option Di},P.Nodup->P[i]? =some x->vs[i]? =some v->kindOf x=some .local->
  Iy kindOf (P.zip vs) m x=some v
 |[],_,_,_,_,h,_,_=>by simp at h
 |_::_,[],_,_,_,_,h,_=>by simp at h
 |p::P,w::vs,0,m,nd,h1,h2,hk=>by
  simp at h1 h2;subst h1;subst h2
  show Iy kindOf ((p,w)::P.zip vs) m p=_
  unfold Iy
  rw[mz λv hv=>(Fd.mp nd).1 (HZ hv).1,if_pos hk]
  simp
 |p::P,w::vs,i+1,m,nd,h1,h2,hk=>by
  show Iy kindOf ((p,w)::P.zip vs) m x=_
  unfold Iy
  exact mC (i:=i) (Fd.mp nd).2 (by simpa using h1) (by simpa using h2) hk
theorem mD {kindOf:Dj->Option Ed} {x:Dj} {v:Di}:∀{P:List Dj} {vs:List Di} {i:Nat} {m:Dj->Option Di},P.Nodup->P[i]? =some x->vs[i]? =some v->kindOf x≠some .local->
  Iz kindOf (P.zip vs) m x=some v
 |[],_,_,_,_,h,_,_=>by simp at h
 |_::_,[],_,_,_,_,h,_=>by simp at h
 |p::P,w::vs,0,m,nd,h1,h2,hk=>by
  simp at h1 h2;subst h1;subst h2
  show Iz kindOf ((p,w)::P.zip vs) m p=_
  unfold Iz
  rw[mB λv hv=>(Fd.mp nd).1 (HZ hv).1,if_neg hk]
  simp
 |p::P,w::vs,i+1,m,nd,h1,h2,hk=>by
  show Iz kindOf ((p,w)::P.zip vs) m x=_
  unfold Iz
  exact mD (i:=i) (Fd.mp nd).2 (by simpa using h1) (by simpa using h2) hk
def cS (N:List Dj) (vs:List V):St:=vs.map some++E0 (N.length - vs.length) none
def fg (CX:qb) (P:Dy) (w:DG) (K:Dh) (mg:Dj->Option Di) (base:DE) (N:List Dj) (qual:Dj) (scope:EX) (f:Dk) (cd:Di) (A:DO) (outer:List EO) (s:Dl) (H:Hp) (E:XK):Cx where
 prog:=P
 w:=w
 K:=K
 mg:=mg
 base:=base
 A:=A.deeper (ES qual scope s.heap.objs.size f cd)
 N:=N
 s₀:=s
 H₀:=H
 env:=ES qual scope s.heap.objs.size f cd
 outer:=outer
 stack:=ES qual scope s.heap.objs.size f cd::outer
 ex:=[]
 calm:=true
 fn:=λ_=>true
 pn:=[]
 xe:=λe s'=>Du (Dz P w) (A.deeper (ES qual scope s.heap.objs.size f cd)) (leaving (ES qual scope s.heap.objs.size f cd) e) (λ_ OA=>CX outer H s E e OA) (λe' OA=>CX outer H s E e' OA) s'
theorem oO {sc:EX} {n:Nat} {x:Dj} (h:sc.names.lookup x=some .cell):∃c,(cellsFrom n sc.names []).lookup x=some c:=by
 have q:=Ib sc.names n [] (.inl h)
 exact Option.isSome_iff_exists.mp q
theorem sv {CX:qb} {P:Dy} {w:DG} {K:Dh} {mg:Dj->Option Di} {base:DE} {N ps:List Dj} {qual:Dj} {scope:EX} {f:Dk} {cd:Di} {A:DO} {outer:List EO} {s s1:Dl} {H:Hp} {E:XK} {us:List Di} {vs:List V}
  (S:aF N ps scope) (hd:A.handled=none) (e0:qc P w K mg base A outer s H) (hl:vs.length=ps.length) (r:aI vs us)
  (x:InCallC s s.heap.objs.size (Iy (ES qual scope s.heap.objs.size f cd).kindOf (ps.zip us) λ_=>none) (cellsFrom (s.heap.objs.size+1) scope.names []) (Iz (ES qual scope s.heap.objs.size f cd).kindOf (ps.zip us) λ_=>none) s1):
  aw (fg CX P w K mg base N qual scope f cd A outer s H E) [] (cS N vs) H s1:=by
 have L3:ps.length<=N.length:=by have:=congrArg List.length S.pre;rw[Gw]at this;omega
 obtain⟨h1,tk,rfl,hk⟩:=x.done
 have OB:∀b:Dk,b∉(fg CX P w K mg base N qual scope f cd A outer s H E).ex:=λb z=>absurd (show b∈([]:List Dk)from z) (by simp)
 refine⟨⟨e0.mod,S.kind,rfl,rfl,DL _,λy z c h1 h2=> ?_,λy hy=> ?_,λy c _ h=> ?_,λ_=>hd,Around.frames_deeper e0.frames, .inr ⟨rfl,rfl⟩,λb z=>absurd z (OB b),e0.bs,e0.bsz,λb _ _=>OB b,λb z=>absurd z (OB b),e0.funs,e0.frf⟩,
  rfl,e0.bare,Un.kept hk,⟨_,x.toInCall.ns,λi y v h1 h2 h3=> ?_⟩,λy c h=>⟨_,x.cell y c h⟩,e0.hok.fresh (DL _),λy c h=> ?_,λp hp=>absurd (show p∈([]:List (Dk×DT))from hp) (by simp),e0.hok.kept hk,?_⟩
 ·exact name_of_addr x.apart (Fv h1) (Fv h2)
 ·have hy:scope.names.lookup y=some .cell\/scope.names.lookup y=some .free:=hy
  rcases hy with hy|hy
  ·exact oO hy
  ·exact absurd rfl (S.nofree _ (Fv hy))
 ·exact IX (x.above y c (Fv h))
 ·have hi:i<vs.length:=by
   unfold cS at h2
   by_cases hi:i<vs.length
   ·exact hi
   ·rw[FV (by simpa using hi)]at h2
    rw[EY]at h2
    split at h2<;>cases h2
  have ha:vs[i]? =some v:=by
   unfold cS at h2
   rw[EN (by simpa using hi),DX]at h2
   cases e:vs[i]? with
   |none=>rw[e]at h2;cases h2
   |some a=>rw[e]at h2;cases h2;rfl
  obtain⟨u,hu,rv⟩:=r.get ha
  have hp:ps[i]? =some y:=by
   rw[<-S.pre,List.getElem?_take_of_lt (by omega)];exact h1
  have QJ:ps.Nodup:=by rw[<-S.pre];exact S.nd.sublist (List.take_sublist _ _)
  refine⟨u,rv,?_⟩
  rcases S.par y (Ez hp)with k|k
  ·exact .inl ⟨k,mC QJ hp hu k⟩
  ·obtain⟨c,e⟩:=oO (n:=s.heap.objs.size+1) k
   refine .inr ⟨.inl k,c,e,?_⟩
   have q:=x.cell y c e
   rw[mD QJ hp hu (by show scope.names.lookup y≠_;rw[k];decide)]at q
   exact q
 ·exact e0.hok.fresh (IX (x.above y c (Fv h)))
 ·unfold cS
  show _=N.length
  rw[E5,Dp,GA]
  omega
theorem x_ {CX:qb} {P:Dy} {w:DG} {K:Dh} {mg:Dj->Option Di} {base:DE} {k:Nat} {f:Dk} {name qual:Dj} {params:Arguments} {body:List DU} {scope:EX} {dV kV L4 pm Kf ct oc:Di} {an od:Option Dk}
  {M1:Array (Option Di)} {N ps:List Dj} {sp:Sp} (lk:K.lookup f=some ⟨oc,od, .func (Ea name qual params body scope dV kV L4 pm an Kf ct),M1⟩) (Lc:Fn K Kf qual=true) (S:aF N ps scope)
  (len:∀vs H Q E,sp vs H Q E->vs.length=ps.length)
  (Ko:∀(A:DO) (outer:List EO) (s:Dl) (H:Hp) (vs:List V) (Q:VK) (E:XK),bN k (A.deeper (ES qual scope s.heap.objs.size f Kf))->sp vs H Q E->
   ∃t,mw (fg CX P w K mg base N qual scope f Kf A outer s H E) body t/\t {nx:=λ_ H'=>Q .non H',rt:=Q} (cS N vs) H):
  d2 P w K mg base CX (k+1) f (Ea name qual params body scope dV kV L4 pm an Kf ct) ps sp:=by
 refine⟨len,λA outer s H args us vs Q E hr e0 hb r Nn=> ?_⟩
 have hl:=len _ _ _ _ Nn
 have KX:K.In s.heap:=e0.mod.kin.keeps λb o e=>(e0.bs b o e).1
 have lim:s.heap.NoLimit:=e0.mod.nolimit.keeps λb o e=>(e0.bs b o e).1
 have OC:∀y∈ps.zip us,scope.names.lookup y.1=some .local\/(scope.names.lookup y.1=some .cell/\((cellsFrom (s.heap.objs.size+1) scope.names []).lookup y.1).isSome=true):=λ⟨n,v⟩ hy=>by
  rcases S.par n (HZ hy).1 with q|q
  ·exact .inl q
  ·exact .inr ⟨q,Ib _ _ _ (.inl q)⟩
 refine codeAny_call_function hr.depth (KX _ _ lk) rfl S.co S.gen rfl (PySem.W.codeRec_of KX Lc) (hb _ _ _ _ ?_)
 refine wpAny_newFunctionEnv_cells S.kind OC λenv he s1 x=> ?_
 subst he
 refine⟨lim.keeps x.toInCall.keep,codeAny_func ?_⟩
 obtain⟨t,ht,hq⟩:=Ko A outer s H vs Q E (hr.deeper _) Nn
 have I:aw (fg CX P w K mg base N qual scope f Kf A outer s H E) [] (cS N vs) H s1:=sv S hr.hd e0 hl r x
 refine F8 (ht [] s1 (cS N vs) H _ I hq) (λfl s' hs=> ?_) λe s' hs=>hs
 have LQ:∀{σ':St} {H':Hp} {v:V} {u:Di},aw (fg CX P w K mg base N qual scope f Kf A outer s H E) [] σ' H' s'->b9 v u->Q v H'->CE outer P w H s Q u s':=
  λ{σ' H' v u} J rv q=>⟨v,H',J.os,J.bare,J.base,J.hok,rv,q⟩
 cases fl with
 |ret u=>
  obtain⟨v,σ',H',J,rv,q⟩:=hs
  exact LQ J rv q
 |next=>
  obtain⟨σ',H',J,q⟩:=hs
  exact LQ (v:=V.non) (u:=FO) J rfl q
 |brk=>
  obtain⟨_,_,_,q⟩:=hs
  exact EF q
 |cont=>
  obtain⟨_,_,_,q⟩:=hs
  exact EF q
end L2
namespace L2
open PySem PySem.Spec PyProof.Rows
section
variable {X:Cx} {x:Dj} {p pos:DZ} {e:Dr} {es:List Dr} {t:TA} {id T:String} {r:List V->Hp->VK->Prop}
def C4 (r:List V->Hp->VK->Prop) (t:TA):TE:=λσ H Q=>t σ H λvs H1=>r vs H1 Q
theorem gT (hc:fJ X (.builtin id) r) (hg:Gl X x) (hm:X.mg x=none) (hv:E4 x=some (.builtin id)) (ha:PA X (e::es) t) (hn:x≠"__name__":=by decide) (La:(x==("__debug__":Dj))=false:=by decide)
  (he:Dm (e::es) X.env=(false,DC e X.env)::Dm es X.env:=by rfl) (L3:(DQ pos (Dm es X.env)).any (·.1)=false:=by rfl):PE X (.Call (.Name x p) (e::es) [] pos) (C4 r t):=by
 intro K4 s σ H Q I h
 refine Fb (iB I hg hm hv ?_ hn La)
 exact GK (bU (ha pos K4 s σ H _ I h) λus s1 ⟨vs,H1,I1,r1,q1⟩=>hc K4 s1 σ H1 vs us Q I1 r1 q1) he L3
theorem mE (hc:fJ X (.type T) r) (hg:Gl X x) (hm:X.mg x=none) (hv:E4 x=some (.type T)) (ha:PA X (e::es) t) (hn:x≠"__name__":=by decide) (La:(x==("__debug__":Dj))=false:=by decide)
  (he:Dm (e::es) X.env=(false,DC e X.env)::Dm es X.env:=by rfl) (L3:(DQ pos (Dm es X.env)).any (·.1)=false:=by rfl):PE X (.Call (.Name x p) (e::es) [] pos) (C4 r t):=by
 intro K4 s σ H Q I h
 refine Fb (iB I hg hm hv ?_ hn La)
 exact F9 (bU (ha pos K4 s σ H _ I h) λus s1 ⟨vs,H1,I1,r1,q1⟩=>hc K4 s1 σ H1 vs us Q I1 r1 q1) he L3
end
end L2
namespace HT
open PySem PyProof.Rows
section
open PySem.SeqAt
open PySem.AutoSeq1 (wpAny_loadPart')
open PySem.MeetsSeq PySem.MeetsSeq2 PySem.MeetsSeq3
end
section
variable {prog:Dy} {w:DG} {A:DO} {E:Di->Dl->Prop} {s:Dl}
theorem wt {t b:Dk} {vs ws:List Di} {Q:Di->Dl->Prop} (ht:Iv s.heap t vs.toArray) (hb:Iv s.heap b ws.toArray) (hv:vs≠[])
  (h1:ws=[]->Q (.ref t) s) (h2:ws≠[]->Q (.ref s.heap.objs.size) {s with heap:=s.heap.push {cls:= .type "tuple",data:= .seq (vs++ws).toArray}})
  (Oy:vs.length+ws.length<=sizeLine):Du (Dz prog w) A (F7 .Add (.ref t) (.ref b)) Q E s:=by
 obtain⟨⟨cls,dd,data,sl⟩,ho,hc,n,hd⟩:=id ht
 obtain⟨⟨PF,Oj,data2,Ol⟩,NS,OD,n2,OE⟩:=id hb
 simp only at hc hd OD OE
 subst hc hd OD OE
 have e:vs.toArray++ws.toArray=(vs++ws).toArray:=by simp
 by_cases hw:ws=[]
 ·exact J5 ⟨_,ho,rfl⟩ ⟨_,NS,rfl⟩ HE IH Gq Gg (G6 _ _)
   (tuple_addW1 t b vs.toArray ws.toArray n n2 dd Oj sl Ol (by simpa using hv) (by simp[hw])) ⟨ho,NS,h1 hw⟩
 ·refine J5 ⟨_,ho,rfl⟩ ⟨_,NS,rfl⟩ HE IH Gq Gg (G6 _ _)
   (tuple_addW2 t b vs.toArray ws.toArray n n2 dd Oj sl Ol (by simpa using hv) (by simpa using hw) (by rw[Ds,Ds];exact Oy)) ⟨ho,NS,?_⟩
  rw[e]
  exact h2 hw
def cT (n d:Nat):Option Int->Nat
 |none=>d
 |some v=>if v<0 then (v+(n:Int)).toNat else min v.toNat n
theorem yR (n d:Nat) (hd:d<=n) (o:Option Int):cT n d o<=n:=by
 cases o with
 |none=>exact hd
 |some v=>
  show (if v<0 then (v+(n:Int)).toNat else min v.toNat n)<=n
  by_cases hv:v<0
  ·rw[if_pos hv];omega
  ·rw[if_neg hv];exact Nat.min_le_right _ _
theorem r0 (v:Int) (n d:Nat):(if v<0 then max (v+(n:Int)) 0 else min v (n:Int))=((cT n d (some v):Nat):Int):=by
 show (if v<0 then max (v+(n:Int)) 0 else min v (n:Int))=(((if v<0 then (v+(n:Int)).toNat else min v.toNat n):Nat):Int)
 by_cases hv:v<0
 ·simp only[if_pos hv];omega
 ·simp only[if_neg hv];omega
theorem qe (lo hi:Option Int) (n:Nat):G1 lo hi 1 (n:Int)=(((cT n 0 lo:Nat):Int),((cT n n hi:Nat):Int)):=by
 have h1:¬((1:Int)<0):=by omega
 unfold G1
 simp only[h1,if_false]
 refine Prod.ext ?_ ?_
 ·cases lo with
  |none=>rfl
  |some v=>exact r0 v n 0
 ·cases hi with
  |none=>rfl
  |some v=>exact r0 v n n
theorem qf (i j:Nat):Fi (i:Int) (j:Int) 1=j - i:=by
 unfold Fi
 have h1:(1:Int)>0:=by omega
 simp only[h1,if_true,Int.ediv_one]
 split<;>omega
theorem kW {v:Di} {o:Option Int} {Q:Option Int->Dl->Prop} (p:GL v o) (h:Q o s):Du (Dz prog w) A (Builtin.Slice.slicePartIndex v) Q E s:=by
 cases p with
 |none=>exact slicePart_none h
 |int i t=>exact slicePart_int h
theorem fK {sl:Dk} {vl vu:Di} {lo hi:Option Int} {n:Nat} {Q:Int×Int×Nat->Dl->Prop} (hs:s.heap.IsSliceOf sl vl vu .none) (pl:GL vl lo) (pu:GL vu hi)
  (h:Q (((cT n 0 lo:Nat):Int),1,cT n n hi - cT n 0 lo) s):Du (Dz prog w) A (Hg (.ref sl) (pure (n:Int))) Q E s:=by
 obtain⟨os,NT,Pa,OF⟩:=id hs
 unfold Hg Builtin.Slice.sliceFields
 refine Dn (Dn (Ic NT OF (x:=vl) rfl (Dn (Ic NT OF (x:=vu) rfl (Dn (Ic NT OF (x:= .none) rfl (Dv ?_)))))))
 refine Dn (slicePart_none ?_)
 show Du _ _ (if ((1:Int)==0)=true then _ else _) _ _ s
 rw[if_neg (by decide)]
 refine Dn (kW pl (Dn (kW pu (Dn (Dv ?_)))))
 show Du _ _ (match G1 lo hi 1 (n:Int)with|(lo,hi)=>pure (lo,(1:Int),Fi lo hi 1)) _ _ s
 rw[qe lo hi n]
 show Du _ _ (pure (((cT n 0 lo:Nat):Int),(1:Int),Fi ((cT n 0 lo:Nat):Int) ((cT n n hi:Nat):Int) 1)) _ _ s
 rw[qf]
 exact Dv h
theorem ui (xs:Array Di) (i k:Nat):((Ef k).filterMap λ(m:Nat)=>xs[((i:Int)+(m:Int)*1).toNat]?).toArray=((xs.toList.drop i).take k).toArray:=by
 have e:(λ(m:Nat)=>xs[((i:Int)+(m:Int)*1).toNat]?)=λm=>xs[i+m]? :=by
  funext m
  have:((i:Int)+(m:Int)*1).toNat=i+m:=by omega
  rw[this]
 rw[e]
 have:=pick_run xs i k
 rw[List.filterMap_map]at this
 have e2:((λx=>xs[x]?)∘λx=>i+x)=λm=>xs[i+m]? :=rfl
 rw[e2]at this
 rw[this]
theorem i_ {t sl:Dk} {K8:Array Di} {vl vu:Di} {lo hi:Option Int} {Q:Di->Dl->Prop} (ht:Iv s.heap t K8) (hs:s.heap.IsSliceOf sl vl vu .none) (pl:GL vl lo) (pu:GL vu hi)
  (hw:¬(cT K8.size 0 lo=0/\cT K8.size K8.size hi=K8.size))
  (h:Q (.ref s.heap.objs.size) {s with heap:=s.heap.push {cls:= .type "tuple",data:= .seq ((K8.toList.drop (cT K8.size 0 lo)).take (cT K8.size K8.size hi - cT K8.size 0 lo)).toArray}})
  (Oy:K8.size<=sizeLine):Du (Dz prog w) A (Ge (.ref t) (.ref sl)) Q E s:=by
 have MN:sizeOk (.seq ((K8.toList.drop (cT K8.size 0 lo)).take (cT K8.size K8.size hi - cT K8.size 0 lo)).toArray):=by
  show ((K8.toList.drop (cT K8.size 0 lo)).take (cT K8.size K8.size hi - cT K8.size 0 lo)).toArray.size<=sizeLine
  rw[Ds,Gw,HF,GV]
  omega
 have hj:cT K8.size K8.size hi<=K8.size:=yR _ _ (DL _) hi
 obtain⟨os,NT,Pa,OF⟩:=id hs
 have PH:s.TypeIs (.ref sl) "slice":=⟨os,NT,Pa⟩
 unfold Ge
 try with_reducible refine Gu ?_
 first|refine Dn (Dv ?_)|skip
 refine Dn (Jj ht.typeIs (by decide) ?_)
 refine Dn (HS (name:=G7 "__getitem__") ht.typeIs Eb
  (wpAny_call_entry Eb ht.typeIs IK ?_ (J6 _ _)))
 show Du _ _ (Hh (.ref t)>>=_) _ _ s
 refine Dn (Hi ht ?_)
 refine Dn (HG PH ?_)
 rw[if_pos (by decide)]
 refine Dn (fK hs pl pu ?_)
 have N9:¬((((cT K8.size 0 lo:Nat):Int)==0&&(1:Int)==1&&(cT K8.size K8.size hi - cT K8.size 0 lo)==K8.size)=true):=by
  intro q
  rw[Ee,Ee]at q
  have q1:((cT K8.size 0 lo:Nat):Int)=0:=eq_of_beq q.1.1
  have q2:cT K8.size K8.size hi - cT K8.size 0 lo=K8.size:=eq_of_beq q.2
  exact hw ⟨by omega,by omega⟩
 show Du _ _ (if (((cT K8.size 0 lo:Nat):Int)==0&&(1:Int)==1&&(cT K8.size K8.size hi - cT K8.size 0 lo)==K8.size)=true then _ else _) _ _ s
 rw[if_neg N9,ui]
 first
  |exact Dn (m:=Fp _) (Gj (Dv ⟨_,rfl,Dv h⟩) MN)
  |exact Dn (m:=Fp _) (Gj (Dn (Dv (Dv ⟨_,rfl,Dv h⟩))) MN)
  |exact Dn (Dn (m:=Fp _) (Gj (Dv (Dv ⟨_,rfl,Dv h⟩)) MN))
  |exact Dn (Dn (m:=Fp _) (Gj (Dv ⟨_,rfl,Dv h⟩) MN))
end
end HT
namespace L2
open PySem PySem.Spec PyProof.Rows
abbrev TO:=St->Hp->(Option Int->Hp->Prop)->Prop
def PO (X:Cx) (e:Option Dr) (t:TO):Prop:=
 ∀(K4:List (Dk×DT)) (s:Dl) (σ:St) (H:Hp) (Q:Option Int->Hp->Prop),aw X K4 σ H s->t σ H Q->
  Du (Dz X.prog X.w) X.A (evalPart e X.env) (λu s'=>∃o H',aw X K4 σ H' s'/\GL u o/\Q o H') X.xe s
def wu:TO:=λ_ H Q=>Q none H
def AG (t:TE):TO:=λσ H Q=>t σ H λx H1=>∃i,x= .int i/\Q (some i) H1
theorem qg {ns:List Int}:∀{us:List Di},aI (ns.map V.int) us->Ip us ns:=by
 induction ns with
 |nil=>intro us r;rw[Fq]at r;cases r;exact .nil
 |cons n ns ih=>
  intro us r
  rw[DH]at r
  cases r with
  |cons r1 r2=>
   obtain⟨t,e⟩:=r1
   subst e
   exact .cons n t (ih r2)
section
variable {X:Cx} {e:Dr} {te:TE} {lo hi:Option Dr} {tl th:TO} {pos p2:DZ}
theorem wv:PO X none wu:=by
 intro K4 s σ H Q I h
 rw[Hj]
 exact Dv ⟨none,H,I, .none,h⟩
theorem r8 (h:PE X e te):PO X (some e) (AG te):=by
 intro K4 s σ H Q I hw
 rw[evalPart_some]
 refine bU (h K4 s σ H _ I hw) λu s1 z_=> ?_
 obtain⟨x,H1,I1,r1,q1⟩:=z_
 obtain⟨i,rfl,q⟩:=q1
 obtain⟨t,rfl⟩:=r1
 exact⟨some i,H1,I1, .int i t,q⟩
def y0 (X:Cx) (r:V->Option Int->Option Int->Hp->VK->Prop):Prop:=
 ∀(K4:List (Dk×DT)) (s:Dl) (σ:St) (H:Hp) (x:V) (v vl vu:Di) (lo hi:Option Int) (sl:Dk) (Q:VK),aw X K4 σ H s->b9 x v->s.heap.IsSliceOf sl vl vu .none->GL vl lo->GL vu hi->r x lo hi H Q->
  ∃T id,typeLookup (.type T) "__getitem__"=pure (some (.builtin id))/\s.TypeIs v T/\Du (Dz X.prog X.w) X.A (Ge v (.ref sl)) (EP X K4 σ Q) X.xe s
theorem y0.or {r r':V->Option Int->Option Int->Hp->VK->Prop} (h:y0 X r) (h':y0 X r'):y0 X (λx lo hi H Q=>r x lo hi H Q\/r' x lo hi H Q):=by
 intro K4 s σ H x v vl vu lo hi sl Q I rx hs pl pu q
 rcases q with q|q
 ·exact h K4 s σ H x v vl vu lo hi sl Q I rx hs pl pu q
 ·exact h' K4 s σ H x v vl vu lo hi sl Q I rx hs pl pu q
def CS (r:V->Option Int->Option Int->Hp->VK->Prop) (te:TE) (tl th:TO):TE:=λσ H Q=>te σ H λx H1=>tl σ H1 λl H2=>th σ H2 λu H3=>r x l u H3 Q
theorem uj {r:V->Option Int->Option Int->Hp->VK->Prop} (hr:y0 X r) (he:PE X e te) (hl:PO X lo tl) (hu:PO X hi th):PE X (.Subscript e (.Slice lo hi none p2) pos) (CS r te tl th):=by
 intro K4 s σ H Q I h
 refine IA (bU (he K4 s σ H _ I h) λv s1 z_=> ?_)
 obtain⟨x,H1,I1,r1,q1⟩:=z_
 refine wpAny_Slice (bU (hl K4 s1 σ H1 _ I1 q1) λvl s2 ⟨l,H2,I2,pl,q2⟩=>bU (hu K4 s2 σ H2 _ I2 q2) λvu s3 z_=> ?_)
 obtain⟨u,H3,I3,pu,q3⟩:=z_
 rw[Hj]
 refine Dv ?_
 have I4:aw X K4 σ H3 {s3 with heap:=s3.heap.push {cls:= .type "slice",data:= .fields #[vl,vu, .none]}}:=I3.kept (t':=s3.toks) λb ob q=>Dw _ q
 obtain⟨T,id,hT,ht,hg⟩:=hr K4 {s3 with heap:=s3.heap.push {cls:= .type "slice",data:= .fields #[vl,vu, .none]}} σ H3 x v vl vu l u s3.heap.objs.size Q I4 r1 (J7 ..) pl pu q3
 show Du (Dz X.prog X.w) X.A (Hk e (.Slice lo hi none p2) v (.ref s3.heap.objs.size)) (EP X K4 σ Q) X.xe {s3 with heap:=s3.heap.push {cls:= .type "slice",data:= .fields #[vl,vu, .none]}}
 exact tail_any (ops:=[.ref s3.heap.objs.size,v]) ht hT hg (by with_unfolding_all rfl)
def lZ (xs:List V) (lo hi:Option Int):List V:=(xs.drop (HT.cT xs.length 0 lo)).take (HT.cT xs.length xs.length hi - HT.cT xs.length 0 lo)
theorem ke (xs:List V) (lo hi:Option Int):(lZ xs lo hi).length<=xs.length:=by
 unfold lZ
 rw[Gw,HF]
 omega
def C5 (K:Dh):V->Option Int->Option Int->Hp->VK->Prop:=λx lo hi H Q=>∃a xs,x= .ref a/\fc K H a xs/\
 ¬(HT.cT xs.length 0 lo=0/\HT.cT xs.length xs.length hi=xs.length)/\∀p,H p=none->Q (.ref p) (bc H p (.tup (lZ xs lo hi)))
theorem yS:y0 X (C5 X.K):=by
 intro K4 s σ H x v vl vu lo hi sl Q I rx hs pl pu h
 obtain⟨a,xs,rfl,hx,hw,q⟩:=h
 cases rx
 obtain⟨its,r,ht,hz⟩:=I.tuple hx
 have Ki:its.toArray.size=xs.length:=by rw[Ds];exact r.length.symm
 refine⟨"tuple",_,Eb.lookup,ht.typeIs,?_⟩
 refine HT.i_ ht hs pl pu (by rw[Ki];exact hw) ?_ (by rw[Ki];exact hz)
 rw[Ki]
 refine⟨.ref s.heap.objs.size,_,I.laid (t':=s.toks) (o:= .tup (lZ xs lo hi)) (λb ob q=>Dw _ q) (DL _) ?_,rfl,q _ (I.hok.fresh (DL _))⟩
 exact⟨DY (ke xs lo hi) hz,_,(r.drop (HT.cT xs.length 0 lo)).take (HT.cT xs.length xs.length hi - HT.cT xs.length 0 lo),fD.new _ _⟩
def y6 (K:Dh):R2:=λx y H Q=>∃a b xs ys,x= .ref a/\y= .ref b/\fc K H a xs/\fc K H b ys/\xs≠[]/\xs.length+ys.length<=sizeLine/\
 (ys=[]->Q (.ref a) H)/\(ys≠[]->∀p,H p=none->Q (.ref p) (bc H p (.tup (xs++ys))))
theorem aI.nil_iff {xs:List V} {us:List Di} (r:aI xs us):us=[]<->xs=[]:=by
 cases r with
 |nil=>simp
 |cons _ _=>simp
theorem ww:gQ X (F7 .Add) (y6 X.K):=by
 intro K4 s σ H x y v u Q I rx ry h
 obtain⟨a,b,xs,ys,rfl,rfl,ha,hb,hx,hz,q1,q2⟩:=h
 cases rx
 cases ry
 obtain⟨its,r1,p1,_⟩:=I.tuple ha
 obtain⟨Lz,r2,p2,_⟩:=I.tuple hb
 refine HT.wt p1 p2 (λz=>hx (r1.nil_iff.mp z)) (λz=>⟨.ref a,H,I,rfl,q1 (r2.nil_iff.mp z)⟩) (λz=> ?_) (by rw[<-r1.length,<-r2.length];exact hz)
 refine⟨.ref s.heap.objs.size,_,I.laid (t':=s.toks) (o:= .tup (xs++ys)) (λb ob q=>Dw _ q) (DL _) ?_,rfl,q2 (λw=>z (r2.nil_iff.mpr w)) _ (I.hok.fresh (DL _))⟩
 exact⟨by rw[E5];exact hz,_,r1.append r2,fD.new _ _⟩
end
end L2
namespace L2
open PySem PySem.Spec PyProof.Rows
def y7 (n:Nat) (i:Int):Option Nat:=if 0<=i then (if i<n then some i.toNat else none)else if -(n:Int)<=i then some (i+n).toNat else none
def atI {α:Type} (xs:List α) (i:Int):Option α:=(y7 xs.length i).bind λj=>xs[j]?
theorem wx {n:Nat} {i:Int} {j:Nat} (h:y7 n i=some j):seqIndex? i n=some j/\j<n/\ -(n:Int)<=i/\i<n:=by
 unfold y7 at h
 by_cases h0:0<=i
 ·rw[if_pos h0]at h
  by_cases h1:i<n
  ·rw[if_pos h1]at h
   have e:i.toNat=j:=Ec h
   exact⟨by rw[seqIndex_of h0 h1,e],by omega,by omega,h1⟩
  ·rw[if_neg h1]at h;cases h
 ·rw[if_neg h0]at h
  by_cases h1: -(n:Int)<=i
  ·rw[if_pos h1]at h
   have e:(i+n).toNat=j:=Ec h
   exact⟨by rw[seqIndex_neg (by omega) h1,e],by omega,h1,by omega⟩
  ·rw[if_neg h1]at h;cases h
theorem nF {α:Type} {xs:List α} {i:Int} {v:α} (h:atI xs i=some v):∃j,seqIndex? i xs.length=some j/\xs[j]? =some v/\j<xs.length/\ -(xs.length:Int)<=i/\i<xs.length:=by
 unfold atI at h
 cases e:y7 xs.length i with
 |none=>rw[e]at h;cases h
 |some j=>
  rw[e]at h
  obtain⟨h1,h2,h3,h4⟩:=wx e
  exact⟨j,h1,h,h2,h3,h4⟩
theorem wy {α:Type} {xs:List α} {j:Nat} {v:α} (h:xs[j]? =some v):atI xs (j:Int)=some v:=by
 have hj:j<xs.length:=(Dx.mp h).1
 have e:y7 xs.length (j:Int)=some j:=by
  unfold y7
  rw[if_pos (by omega),if_pos (by omega)];simp
 unfold atI;rw[e];exact h
def r9 (b:Dr):Prop:=∀o i,Ie b false o i=operate [o,i] (Ge o i)
def wz (X:Cx) (r:R2):Prop:=
 ∀(value Lb:Dr) (K4:List (Dk×DT)) (s:Dl) (σ:St) (H:Hp) (x y:V) (v u:Di) (Q:VK),aw X K4 σ H s->b9 x v->b9 y u->r x y H Q->
  Ie Lb false v u=operate [v,u] (Ge v u)->Du (Dz X.prog X.w) X.A (Hk value Lb v u) (EP X K4 σ Q) X.xe s
def CT (X:Cx) (id:String) (r:V->List V->Hp->VK->Prop):Prop:=
 ∀(K4:List (Dk×DT)) (s:Dl) (σ:St) (H:Hp) (x:V) (xs:List V) (v:Di) (us:List Di) (Q:VK),aw X K4 σ H s->b9 x v->aI xs us->r x xs H Q->
  Du (Dz X.prog X.w) X.A (call (.builtin id) (v::us)) (EP X K4 σ Q) X.xe s
section
variable {X:Cx} {a b:Dr} {ta tb:TE} {pos:DZ}
theorem wz.or {r r':R2} (h:wz X r) (h':wz X r'):wz X (λx y H Q=>r x y H Q\/r' x y H Q):=by
 intro value Lb K4 s σ H x y v u Q I rx ry q hs
 rcases q with q|q
 ·exact h value Lb K4 s σ H x y v u Q I rx ry q hs
 ·exact h' value Lb K4 s σ H x y v u Q I rx ry q hs
theorem AH {r:R2} (hr:wz X r) (ha:PE X a ta) (hb:PE X b tb) (hs:r9 b):PE X (.Subscript a b pos) (Bu r ta tb):=by
 intro K4 s σ H Q I h
 exact IA (yI ha hb I h λv u s2 x y H2 I2 rx ry q=>hr a b K4 s2 σ H2 x y v u Q I2 rx ry q (hs _ _))
def AI (K:Dh):R2:=λx y H Q=>∃p xs i v,x= .ref p/\y= .int i/\cp K H p xs/\atI xs i=some v/\Q v H
def AJ (K:Dh):R2:=λx y H Q=>∃p xs i v,x= .ref p/\y= .int i/\fc K H p xs/\atI xs i=some v/\Q v H
def AK:R2:=λx y H Q=>∃z i c,x= .str z/\y= .int i/\z.length<=sizeLine/\atI z.cps.toList i=some c/\Q (.str ⟨#[c]⟩) H
theorem wA:wz X (AI X.K):=by
 intro value Lb K4 s σ H x y v u Q I rx ry h hs
 obtain⟨p,xs,i,z,rfl,rfl,hq,he,q⟩:=h
 cases rx
 obtain⟨t,rfl⟩:=ry
 obtain⟨its,r,pl,hz⟩:=I.list hq
 obtain⟨j,h1,h2,h3,h4,h5⟩:=nF he
 obtain⟨w,ew,ME⟩:=r.get h2
 have hl:=r.length
 have hn:=kT
 have LQ:EP X K4 σ Q w s:=⟨z,H,I,ME,q⟩
 by_cases h0:0<=i
 ·have hj:i.toNat=j:=by
   rw[seqIndex_of h0 h5]at h1
   exact Ec h1
  exact item_listR pl.isList h0 (by omega) (by rw[hj];simpa using ew) LQ hs
 ·have hj:(i+(its.toArray.size:Int)).toNat=j:=by
   rw[seqIndex_neg (by omega) h4]at h1
   rw[Ds,<-hl]
   exact Ec h1
  exact Ig (x:=w) pl.isList.typeIs Ho.lookup
   (wpAny_getItem_list_neg (Q:=λr s'=>r=w/\EP X K4 σ Q r s') pl.isList (by omega) (by rw[Ds]<;>omega) (by omega) (by rw[hj];simpa using ew) ⟨rfl,LQ⟩) hs
theorem yT:wz X (AJ X.K):=by
 intro value Lb K4 s σ H x y v u Q I rx ry h hs
 obtain⟨p,xs,i,z,rfl,rfl,hq,he,q⟩:=h
 cases rx
 obtain⟨t,rfl⟩:=ry
 obtain⟨its,r,pl,hz⟩:=I.tuple hq
 obtain⟨j,h1,h2,h3,h4,h5⟩:=nF he
 obtain⟨w,ew,ME⟩:=r.get h2
 have hl:=r.length
 have hn:=kT
 have LQ:EP X K4 σ Q w s:=⟨z,H,I,ME,q⟩
 exact Ig (x:=w) pl.typeIs Eb.lookup
  (getItem_tuple (j:=j) (Q:=λr s'=>r=w/\EP X K4 σ Q r s') pl (by omega) (by omega) (by rw[Ds,<-hl];exact h1) (by simpa using ew) ⟨rfl,LQ⟩) hs
theorem yU:wz X AK:=by
 intro value Lb K4 s σ H x y v u Q I rx ry h hs
 obtain⟨z,i,c,rfl,rfl,hz,he,q⟩:=h
 obtain⟨t,rfl⟩:=rx
 obtain⟨t',rfl⟩:=ry
 obtain⟨j,h1,h2,h3,h4,h5⟩:=nF he
 have hl:z.cps.toList.length=z.length:=by simp[Str.length]
 rw[hl]at h1 h4 h5
 have hn:=kT
 exact tail_any (typeIs_str s z t) slot_str_getitem.lookup (getItem_str (c:=c) (by
  have e1:decide (i< -(2 ^63:Int))=false:=decide_eq_false (by omega)
  have e2:decide (i>=2 ^63)=false:=decide_eq_false (by omega)
  rw[e1,e2,JR]) (by rw[h1];simpa using h2) ⟨.str ⟨#[c]⟩,H,I.tok _,⟨_,rfl⟩,q⟩) hs
def Cv (K:Dh):R2:=λx y H Q=>AI K x y H Q\/AJ K x y H Q\/AK x y H Q
theorem yV:wz X (Cv X.K):=wA.or (yT.or yU)
theorem aw.lst {K4:List (Dk×DT)} {σ:St} {H:Hp} {s:Dl} {p:Dk} {xs:List V} (I:aw X K4 σ H s) (h:H p=some (.lst xs)):
  ∃(its:List Di) (n:Nat),aI xs its/\s.heap.get? p=some {cls:= .type "list",data:= .seq its.toArray n}/\xs.length<=sizeLine:=by
 obtain⟨z,its,n,r,e⟩:=I.hok p _ h
 exact⟨its,n,r,e,z⟩
theorem nG (lo hi:Option Int) (n:Nat):(FY lo hi none n).1=((HT.cT n 0 lo:Nat):Int)/\(FY lo hi none n).2.1=((HT.cT n n hi:Nat):Int)/\(FY lo hi none n).2.2=1:=by
 refine⟨?_,?_,rfl⟩
 ·cases lo with
  |none=>simp[FY,HT.cT]
  |some i=>
   simp only[FY,HT.cT,Jp,show (1:Int)>0 by decide,if_true]
   by_cases h:i<0
   ·simp only[h,if_true]<;>omega
   ·simp only[h,if_false]<;>omega
 ·cases hi with
  |none=>simp[FY,HT.cT]
  |some i=>
   simp only[FY,HT.cT,Jp,show (1:Int)>0 by decide,if_true]
   by_cases h:i<0
   ·simp only[h,if_true]<;>omega
   ·simp only[h,if_false]<;>omega
theorem l_ (its:List Di) (lo hi:Option Int):slicePick its.toArray lo hi none=((its.drop (HT.cT its.length 0 lo)).take (HT.cT its.length its.length hi - HT.cT its.length 0 lo)).toArray:=by
 obtain⟨h1,h2,h3⟩:=nG lo hi its.toArray.size
 unfold slicePick
 rw[h1,h2,h3]
 simp only[sliceRange_one,pick_run,Ds]<;>rfl
def C6 (K:Dh):V->Option Int->Option Int->Hp->VK->Prop:=λx lo hi H Q=>∃a xs,x= .ref a/\cp K H a xs/\∀p,H p=none->Q (.ref p) (bc H p (.lst (lZ xs lo hi)))
theorem wB:y0 X (C6 X.K):=by
 intro K4 s σ H x v vl vu lo hi sl Q I rx hs pl pu h
 obtain⟨a,xs,rfl,hx,q⟩:=h
 cases rx
 obtain⟨its,r,ht,hz⟩:=I.list hx
 have Ki:=r.length
 refine⟨"list",_,Ho.lookup,ht.isList.typeIs,?_⟩
 refine HH ht.isList hs pl pu .none (by simp) ?_ (by rw[Ds]<;>omega)
 rw[l_,<-Ki]
 refine⟨.ref s.heap.objs.size,_,I.laid (t':=s.toks) (o:= .lst (lZ xs lo hi)) (λb ob q=>Dw _ q) (DL _) ?_,rfl,q _ (I.hok.fresh (DL _))⟩
 exact⟨DY (ke xs lo hi) hz,_,0,(r.drop (HT.cT xs.length 0 lo)).take (HT.cT xs.length xs.length hi - HT.cT xs.length 0 lo),D_ _ rfl⟩
def eA:V->Bool
 | .non=>true
 | .bl _=>true
 | .int _=>true
 | .str _=>true
 |_=>false
def tO:V->V->Bool
 | .non, .non=>true
 | .bl a, .bl b=>a==b
 | .bl a, .int b=>(if a then 1 else 0)==b
 | .int a, .bl b=>a==(if b then 1 else 0)
 | .int a, .int b=>a==b
 | .str a, .str b=>a==b
 |_,_=>false
theorem uk {A:DO} {s:Dl} {y x:V} {u v:Di} (ry:b9 y u) (rx:b9 x v) (fy:eA y=true) (fx:eA x=true):SeqAt.EqAt A s u v (tO y x):=by
 cases y with
 |non=>
  cases ry
  cases x with
  |non=>cases rx;exact SeqAt.EqAt.same _
  |bl b=>cases rx;exact SeqAt.EqAt.none_bool b
  |int b=>obtain⟨t,rfl⟩:=rx;exact SeqAt.EqAt.none_int b t
  |str b=>obtain⟨t,rfl⟩:=rx;exact SeqAt.EqAt.none_str b t
  |_=>exact absurd (show false=true from fx) DM
 |bl a=>
  cases ry
  cases x with
  |non=>cases rx;exact SeqAt.EqAt.bool_none a
  |bl b=>cases rx;exact G8 a b
  |int b=>obtain⟨t,rfl⟩:=rx;exact SeqAt.EqAt.bool_int a b t
  |str b=>obtain⟨t,rfl⟩:=rx;exact SeqAt.EqAt.bool_str a b t
  |_=>exact absurd (show false=true from fx) DM
 |int a=>
  obtain⟨t',rfl⟩:=ry
  cases x with
  |non=>cases rx;exact SeqAt.EqAt.int_none a t'
  |bl b=>cases rx;exact SeqAt.EqAt.int_bool a t' b
  |int b=>obtain⟨t,rfl⟩:=rx;exact Gr a t' b t
  |str b=>obtain⟨t,rfl⟩:=rx;exact IQ a t' b t
  |_=>exact absurd (show false=true from fx) DM
 |str a=>
  obtain⟨t',rfl⟩:=ry
  cases x with
  |non=>cases rx;exact SeqAt.EqAt.str_none a t'
  |bl b=>cases rx;exact SeqAt.EqAt.str_bool a t' b
  |int b=>obtain⟨t,rfl⟩:=rx;exact IS a t' b t
  |str b=>obtain⟨t,rfl⟩:=rx;exact SeqAt.EqAt.str_str a t' b t
  |_=>exact absurd (show false=true from fx) DM
 |_=>exact absurd (show false=true from fy) DM
def qh (x:V) (u:Di):Bool:=match u with
 | .none=>tO .non x
 | .bool b=>tO (.bl b) x
 | .int i _=>tO (.int i) x
 | .str z _=>tO (.str z) x
 |_=>false
theorem ul {x y:V} {u:Di} (r:b9 y u) (f:eA y=true):qh x u=tO y x:=by
 cases y with
 |non=>cases r;rfl
 |bl b=>cases r;rfl
 |int i=>obtain⟨t,rfl⟩:=r;rfl
 |str z=>obtain⟨t,rfl⟩:=r;rfl
 |_=>exact absurd (show false=true from f) DM
theorem j0 {x:V}:∀{xs:List V} {us:List Di},aI xs us->xs.all eA=true->us.any (qh x)=xs.any λy=>tO y x
 |_,_, .nil,_=>rfl
 |y::xs,u::us, .cons r t,f=>by
  rw[EJ,Ee]at f
  rw[EB,EB,ul r f.1,j0 t f.2]
theorem gU {A:DO} {s:Dl} {x:V} {v:Di} (rx:b9 x v) (fx:eA x=true):∀{xs:List V} {us:List Di},aI xs us->xs.all eA=true->∀u∈us,SeqAt.EqAt A s u v (qh x u)
 |_,_, .nil,_=>λu hu=>by cases hu
 |y::xs,u::us, .cons r t,f=>λu' hu=>by
  rw[EJ,Ee]at f
  rcases DN.mp hu with rfl|hu
  ·rw[ul r f.1];exact uk r rx f.1 fx
  ·exact gU rx fx t f.2 u' hu
def inV (x:V) (xs:List V):Bool:=xs.any λy=>tO y x
def C7 (K:Dh) (LJ:Bool):R2:=λx y H Q=>∃p xs,y= .ref p/\(cp K H p xs\/fc K H p xs)/\eA x=true/\xs.all eA=true/\Q (.bl (if LJ then !inV x xs else inV x xs)) H
theorem mF:gQ X (Eu .In) (C7 X.K false):=by
 intro K4 s σ H x y v u Q I rx ry h
 obtain⟨p,xs,rfl,hq,fx,fs,q⟩:=h
 cases ry
 rcases hq with hq|hq
 ·obtain⟨its,r,pl,hz⟩:=I.list hq
  refine SeqAt.in_listAt (qh x) pl.isList (λw hw=>gU rx fx r fs w (by simpa using hw)) ⟨.bl _,H,I,rfl,?_⟩
  rw[show its.toArray.any (qh x)=its.any (qh x) by simp,j0 r fs]
  exact q
 ·obtain⟨its,r,pl,hz⟩:=I.tuple hq
  refine SeqAt.in_tupleAt (qh x) pl (λw hw=>gU rx fx r fs w (by simpa using hw)) ⟨.bl _,H,I,rfl,?_⟩
  rw[show its.toArray.any (qh x)=its.any (qh x) by simp,j0 r fs]
  exact q
theorem j1:gQ X (Eu .NotIn) (C7 X.K true):=by
 intro K4 s σ H x y v u Q I rx ry h
 obtain⟨p,xs,rfl,hq,fx,fs,q⟩:=h
 cases ry
 rcases hq with hq|hq
 ·obtain⟨its,r,pl,hz⟩:=I.list hq
  refine SeqAt.notIn_listAt (qh x) pl.isList (λw hw=>gU rx fx r fs w (by simpa using hw)) ⟨.bl _,H,I,rfl,?_⟩
  rw[show its.toArray.any (qh x)=its.any (qh x) by simp,j0 r fs]
  exact q
 ·obtain⟨its,r,pl,hz⟩:=I.tuple hq
  refine SeqAt.notIn_tupleAt (qh x) pl (λw hw=>gU rx fx r fs w (by simpa using hw)) ⟨.bl _,H,I,rfl,?_⟩
  rw[show its.toArray.any (qh x)=its.any (qh x) by simp,j0 r fs]
  exact q
theorem nH:fJ X (.builtin "len") (λxs H Q=>∃p ys,xs=[.ref p]/\(cp X.K H p ys\/fc X.K H p ys)/\Q (.int ys.length) H):=by
 intro K4 s σ H xs us Q I r h
 obtain⟨p,ys,rfl,hq,q⟩:=h
 obtain⟨u,rfl,rx⟩:=my r
 cases rx
 have hn:=kT
 rcases hq with hq|hq
 ·obtain⟨its,r',pl,hz⟩:=I.list hq
  have Ki:=r'.length
  exact Calls.call_len_list pl.isList (by simp only[Ds]<;>omega) ⟨.int ys.length,H,I.tok _,⟨s.toks+1,by rw[Ds,Ki]⟩,q⟩
 ·obtain⟨its,r',pl,hz⟩:=I.tuple hq
  have Ki:=r'.length
  exact len_tuple pl (by simp only[Ds]<;>omega) ⟨.int ys.length,H,I.tok _,⟨s.toks+1,by rw[Ds,Ki]⟩,q⟩
theorem j2:fJ X (.type "list") (λxs H Q=>∃p ys,xs=[.ref p]/\(cp X.K H p ys\/fc X.K H p ys)/\∀l,H l=none->Q (.ref l) (bc H l (.lst ys))):=by
 intro K4 s σ H xs us Q I r h
 obtain⟨p,ys,rfl,hq,q⟩:=h
 obtain⟨u,rfl,rx⟩:=my r
 cases rx
 have LQ:∀(its:List Di),aI ys its->ys.length<=sizeLine->∀(h':DE) (c':Nat),(∀b o',s.heap.get? b=some o'->h'.get? b=some o')->
   h'.get? s.heap.objs.size=some {cls:= .type "list",dict:=none,data:= .seq its.toArray c',slots:= #[]}->EP X K4 σ Q (.ref s.heap.objs.size) {s with heap:=h'}:=λits r' hz h' c' kp e=>
  ⟨.ref s.heap.objs.size,_,I.laid (t':=s.toks) kp (DL _) (show bB X.prog X.w _ h' _ (.lst ys)from ⟨hz,its,c',r',e⟩),rfl,q _ (I.hok.fresh (DL _))⟩
 rcases hq with hq|hq
 ·obtain⟨its,r',pl,hz⟩:=I.list hq
  have Ki:=r'.length
  obtain⟨o,ho,hc,n,hd⟩:=pl.isList
  exact call_list_seq p (.inl rfl) ho hc hd (λh' c' kp e=>LQ its r' hz h' c' kp e) (by simp only[Ds]<;>omega)
 ·obtain⟨its,r',pl,hz⟩:=I.tuple hq
  have Ki:=r'.length
  obtain⟨o,ho,hc,n,hd⟩:=pl
  exact call_list_seq p (.inr rfl) ho hc hd (λh' c' kp e=>LQ its r' hz h' c' kp e) (by simp only[Ds]<;>omega)
theorem bz:fJ X (.type "tuple") (λxs H Q=>∃p ys,xs=[.ref p]/\((cp X.K H p ys/\∀l,H l=none->Q (.ref l) (bc H l (.tup ys)))\/(fc X.K H p ys/\Q (.ref p) H))):=by
 intro K4 s σ H xs us Q I r h
 obtain⟨p,ys,rfl,h⟩:=h
 obtain⟨u,rfl,rx⟩:=my r
 cases rx
 rcases h with ⟨hq,q⟩|⟨hq,q⟩
 ·obtain⟨its,r',pl,hz⟩:=I.list hq
  have Ki:=r'.length
  refine call_tuple_list pl.isList (λh' kp=> ?_) (by simp only[Ds]<;>omega)
  have I1:aw X K4 σ H {s with heap:=h'}:=I.kept (t':=s.toks) kp
  have I2:aw X K4 σ (bc H h'.objs.size (.tup ys)) {s with heap:=h'.push {cls:= .type "tuple",data:= .seq its.toArray}}:=
   I1.laid (t':=s.toks) (λb o e=>Dw _ e) (DL _) (show bB X.prog X.w _ _ _ (.tup ys)from ⟨hz,its,r',fD.new _ _⟩)
  exact⟨.ref h'.objs.size,_,I2,rfl,q _ (I1.hok.fresh (DL _))⟩
 ·obtain⟨its,r',pl,hz⟩:=I.tuple hq
  exact call_tuple_same pl ⟨.ref p,H,I,rfl,q⟩
def C8 (K:Dh) (T:String) (x:V) (H:Hp):Prop:=match x with
 | .str _=>T="str"
 | .int _=>T="int"
 | .ref p=>(T="list"/\∃xs,cp K H p xs)\/(T="tuple"/\∃o,K.lookup p=some o/\o.cls= .type "tuple"/\o.dict=none)\/
   (T="dict"/\((∃Ke,H p=some (.dK Ke))\/∃Ke,H p=some (.dT Ke)))\/(T="set"/\∃S n,H p=some (.set S n))
 |_=>False
theorem um {K4:List (Dk×DT)} {σ:St} {H:Hp} {s:Dl} {T:String} {x:V} {v:Di} (I:aw X K4 σ H s) (r:b9 x v) (ty:C8 X.K T x H):
  s.TypeIs v T/\∀a,v= .ref a->∃ob,s.heap.get? a=some ob/\ob.dict=none:=by
 cases x with
 |str z=>
  obtain⟨t,rfl⟩:=r
  cases (show T="str" from ty)
  exact⟨typeIs_str s z t,λ_ e=>nomatch e⟩
 |int i=>
  obtain⟨t,rfl⟩:=r
  cases (show T="int" from ty)
  exact⟨Jz s i t,λ_ e=>nomatch e⟩
 |ref p=>
  cases r
  rcases ty with ⟨rfl,xs,hq⟩|⟨rfl,o,hk,hc,hd⟩|⟨rfl,hk⟩|⟨rfl,S,n,hk⟩
  ·obtain⟨its,_,pl,_⟩:=I.list hq
   refine⟨pl.isList.typeIs,λa e=> ?_⟩
   cases e
   obtain⟨o,n,e,c,hd,_⟩:=pl
   exact⟨o,e,hd⟩
  ·refine⟨⟨o,I.kIn p o hk,hc⟩,λa e=> ?_⟩
   cases e
   exact⟨o,I.kIn _ o hk,hd⟩
  ·have z:∃o,s.heap.get? p=some o/\o.ExactDict:=by
    rcases hk with ⟨Ke,hk⟩|⟨Ke,hk⟩
    ·obtain⟨_,_,_,_,o,_,_,e,ex,_⟩:=I.hok p _ hk
     exact⟨o,e,ex⟩
    ·obtain⟨_,_,_,_,o,_,_,e,ex,_⟩:=I.hok p _ hk
     exact⟨o,e,ex⟩
   obtain⟨o,e,ex⟩:=z
   refine⟨⟨o,e,ex.1⟩,λa e2=> ?_⟩
   cases e2
   exact⟨o,e,ex.2.1⟩
  ·obtain⟨o,_,_,_,e,ex,_⟩:=I.hok p _ hk
   refine⟨⟨o,e,ex.1⟩,λa e2=> ?_⟩
   cases e2
   exact⟨o,e,ex.2.1⟩
 |_=>exact EF ty
def CU (K:Dh) (T:String) (r:V->List V->Hp->VK->Prop) (to:TE) (t:TA):TE:=λσ H Q=>to σ H λx H1=>C8 K T x H1/\t σ H1 λxs H2=>r x xs H2 Q
variable {o e:Dr} {es:List Dr} {to:TE} {t:TA} {name:Dj} {Kh Kb:DZ} {T id:String} {r:V->List V->Hp->VK->Prop}
theorem mG (pa:PlainAttrs T) (slot:Slot T name id) (Rn:typeOf (.builtin id)=pure (.type "method_descriptor")) (hm:CT X id r) (ho:PE X o to) (ha:PA X (e::es) t)
  (KJ:E9 o name X.env (DC o X.env)=DC o X.env:=by rfl)
  (Li:((DQ Kb (Dm (e::es) X.env)).all (λx=> !x.1)&&(EK Kb (Em [] X.env)).all (λx=>x.1.isSome)
   &&decide ((e::es).length+([]:List EH).length+(if ([]:List EH).isEmpty then 0 else 1)<30))=true:=by rfl)
  (KL:(Kh.endLine==Kb.line)=true:=by rfl) (hs:Dm (e::es) X.env=(false,DC e X.env)::Dm es X.env:=by rfl) (Kr:(DQ Kb (Dm es X.env)).any (·.1)=false:=by rfl):
  PE X (.Call (.Attribute o name Kh) (e::es) [] Kb) (CU X.K T r to t):=by
 intro K4 s σ H Q I h
 refine Ih KJ Li KL rfl (bU (ho K4 s σ H _ I h) λv s1 z_=> ?_)
 obtain⟨x,H1,I1,r1,ty,q1⟩:=z_
 obtain⟨h1,h2⟩:=um I1 r1 ty
 refine⟨T,id,pa,slot,Rn,h1,h2,?_⟩
 have hA:=ha Kb K4 s1 σ H1 _ I1 q1
 rw[hs]at hA ⊢
 refine Gs (by show (false||(DQ Kb (Dm es X.env)).any (·.1))=false;rw[Kr]<;>rfl) (FQ ?_)
 exact bU hA λus s2 ⟨vs,H2,I2,r2,q2⟩=>hm K4 s2 σ H2 x vs v us Q I2 r1 r2 q2
end
end L2
namespace L2
open PySem PySem.Spec PyProof.Rows
def yW (X:Cx) (id:String) (r:V->List V->Hp->VK->Prop):Prop:=
 ∀(K4:List (Dk×DT)) (s:Dl) (σ:St) (H:Hp) (x:V) (xs:List V) (v:Di) (us:List Di) (Q:VK),aw X K4 σ H s->b9 x v->aI xs us->r x xs H Q->
  Du (Dz X.prog X.w) X.A (call (.builtin id) (v::us)) (EP X K4 σ Q) X.xe s
theorem aI.one:∀{x:V} {us:List Di},aI [x] us->∃u,us=[u]/\b9 x u:=λh=>by
 cases h with
 |cons r t=>cases t;exact⟨_,rfl,r⟩
theorem aI.eraseIdx:∀{xs:List V} {us:List Di} (i:Nat),aI xs us->aI (xs.eraseIdx i) (us.eraseIdx i)
 |_,_,_, .nil=> .nil
 |_,_,0, .cons _ t=>t
 |_,_,i+1, .cons r t=> .cons r (aI.eraseIdx i t)
theorem aI.reverse {xs:List V} {us:List Di} (h:aI xs us):aI xs.reverse us.reverse:=by
 induction h with
 |nil=>exact .nil
 |cons r t ih=>rw[Gk,Gk];exact aI.append ih (.cons r .nil)
theorem aI.rep {xs:List V} {us:List Di} (h:aI xs us):∀k:Nat,aI (E0 k xs).flatten (E0 k us).flatten
 |0=> .nil
 |k+1=>by
  rw[EI,EI,Ff,Ff]
  exact aI.append h (aI.rep h k)
theorem mH {α:Type}:∀(l:List α) (i:Nat),(l.eraseIdx i).length<=l.length
 |[],_=>DL _
 |_::_,0=>Nat.le_succ _
 |_::r,i+1=>Nat.succ_le_succ (mH r i)
theorem mI (its:List Di):∀(k:Nat) (Ll:List Di),
  IB (λx1 x2=>x1++x2) Ll.toArray (E0 k its.toArray)=(Ll++(E0 k its).flatten).toArray
 |0,Ll=>by simp
 |k+1,Ll=>by
  have e:Ll.toArray++its.toArray=(Ll++its).toArray:=by simp
  have e2:(Ll++its)++(E0 k its).flatten=Ll++(E0 (k+1) its).flatten:=by
   rw[EI,Ff,Gm]
  rw[<-e2,<-mI its k (Ll++its),<-e,EI,JA]
section
variable {X:Cx} {K4:List (Dk×DT)} {σ:St} {H:Hp} {s:Dl} {l b:Dk} {xs ys zs:List V}
theorem aw.lset {its its':List Di} {n:Nat} {f:Array Di->Array Di} {t':Nat} (I:aw X K4 σ H s) (hH:H l=some (.lst xs))
  (e:s.heap.get? l=some {cls:= .type "list",data:= .seq its.toArray n}) (hf:f its.toArray=its'.toArray) (hv:aI ys its') (hz:ys.length<=sizeLine):
  aw X K4 σ (bc H l (.lst ys)) {s with heap:=s.heap.update l (Obj.mapSeq f),toks:=t'}:=by
 have q:=PySem.IsL.update e f
 rw[hf]at q
 refine I.write (x:=l) (e:=l) (by rw[hH];exact trivial) (.inl rfl) (λb' u hb hu=>(Heap.get?_update_other s.heap (Obj.mapSeq f) (E_ hb)).trans hu) ⟨_,q⟩ ?_
 exact⟨hz,its',_,hv,q⟩
theorem aw.lnew {its:List Di} {t':Nat} (I:aw X K4 σ H s) (hv:aI ys its) (hz:ys.length<=sizeLine):
  aw X K4 σ (bc H s.heap.objs.size (.lst ys)) {s with heap:=s.heap.push {cls:= .type "list",data:= .seq its.toArray},toks:=t'}:=
 I.laid (λ_ _ q=>Dw _ q) (DL _) ⟨hz,its,0,hv,D_ _ rfl⟩
theorem aw.fresh (I:aw X K4 σ H s):H s.heap.objs.size=none:=I.hok.fresh (DL _)
theorem aw.lstM (I:aw X K4 σ H s) (hH:H l=some (.lst xs)):xs.length<=sizeLine/\∃(its:List Di) (n:Nat),aI xs its/\xs.length=its.length/\s.heap.get? l=some {cls:= .type "list",data:= .seq its.toArray n}:=by
 obtain⟨z,its,n,r,e⟩:=I.hok l _ hH
 exact⟨z,its,n,r,r.length,e⟩
theorem oP {n:Nat} (h:n<=sizeLine):Fs n=false:=by
 unfold Fs
 exact decide_eq_false (by omega)
end
section
variable {X:Cx}
def wC:V->List V->Hp->VK->Prop:=λx vs H Q=>∃l xs y,x= .ref l/\vs=[y]/\H l=some (.lst xs)/\xs.length<sizeLine/\Q .non (bc H l (.lst (xs++[y])))
theorem ib:yW X "list.append" wC:=by
 intro K4 s σ H x vs v us Q I rx rv h
 obtain⟨l,xs,y,rfl,rfl,hH,hz,q⟩:=h
 cases rx
 obtain⟨u,rfl,ru⟩:=rv.one
 obtain⟨z,its,n,r,hl,e⟩:=I.lstM hH
 refine FA F.slot_list_append ⟨_,e,rfl⟩ F.entry_list_append (F.args_list_append_2 _ _) (PySem.list_append l its.toArray n u (by rw[Ds];omega)) ⟨e,?_⟩
 refine⟨.non,_,I.lset (its':=its++[u]) hH e (by simp) (r.append (.cons ru .nil)) ?_,rfl,q⟩
 rw[E5,FJ]
 omega
def wD:V->List V->Hp->VK->Prop:=λx vs H Q=>∃l b xs zs,x= .ref l/\vs=[.ref b]/\H l=some (.lst xs)/\H b=some (.lst zs)/\xs.length+zs.length<=sizeLine/\Q .non (bc H l (.lst (xs++zs)))
theorem A9:yW X "list.extend" wD:=by
 intro K4 s σ H x vs v us Q I rx rv h
 obtain⟨l,b,xs,zs,rfl,rfl,hH,hB,hz,q⟩:=h
 cases rx
 obtain⟨u,rfl,ru⟩:=rv.one
 cases ru
 obtain⟨z,its,n,r,hl,e⟩:=I.lstM hH
 obtain⟨z2,Lz,n2,r2,PJ,e2⟩:=I.lstM hB
 have Oy:its.toArray.size+Lz.toArray.size<=sizeLine:=by rw[Ds,Ds];omega
 have Nd:¬(!its.toArray.isEmpty&&Fs (its.toArray.size+Lz.toArray.size))=true:=by
  rw[oP Oy,Iq]
  exact DM
 refine FA F.slot_list_extend ⟨_,e,rfl⟩ F.entry_list_extend (F.args_list_extend_2 _ _)
  (AutoSeq1.list_extend_list_list_0 l its.toArray n b Lz.toArray n2 Nd (by rw[Ds];omega) (by omega)) ⟨e,e2,?_⟩
 refine⟨.non,_,I.lset (its':=its++Lz) hH e (by simp) (r.append r2) ?_,rfl,q⟩
 rw[E5]
 omega
def AL:R2:=λx y H Q=>∃l b xs zs,x= .ref l/\y= .ref b/\H l=some (.lst xs)/\H b=some (.lst zs)/\xs.length+zs.length<=sizeLine/\∀p,H p=none->Q (.ref p) (bc H p (.lst (xs++zs)))
theorem yX:gQ X (F7 .Add) AL:=by
 intro K4 s σ H x y v u Q I rx ry h
 obtain⟨l,b,xs,zs,rfl,rfl,hH,hB,hz,q⟩:=h
 cases rx
 cases ry
 obtain⟨z,its,n,r,hl,e⟩:=I.lstM hH
 obtain⟨z2,Lz,n2,r2,PJ,e2⟩:=I.lstM hB
 refine PySem.P.add_list e e2 ?_ (by rw[Ds,Ds];omega)
 have ea:its.toArray++Lz.toArray=(its++Lz).toArray:=by simp
 rw[ea]
 exact⟨.ref _,_,I.lnew (t':=s.toks) (r.append r2) (by rw[E5];omega),rfl,q _ I.fresh⟩
def AM:R2:=λx y H Q=>∃l k xs,x= .ref l/\y= .int k/\H l=some (.lst xs)/\ -(2 ^63)<=k/\k<2 ^63/\xs.length*k.toNat<=sizeLine/\
 ∀p,H p=none->Q (.ref p) (bc H p (.lst (E0 k.toNat xs).flatten))
theorem wF {α:Type} (xs:List α) (k:Nat):(E0 k xs).flatten.length=k*xs.length:=by
 induction k with
 |MS=>simp
 |succ k ih=>rw[EI,Ff,E5,ih,Nat.succ_mul,Nat.add_comm]
theorem yY:gQ X (F7 .Mult) AM:=by
 intro K4 s σ H x y v u Q I rx ry h
 obtain⟨l,k,xs,rfl,rfl,hH,h1,h2,hz,q⟩:=h
 cases rx
 obtain⟨t,rfl⟩:=ry
 obtain⟨z,its,n,r,hl,e⟩:=I.lstM hH
 have Ki:its.toArray.size*k.toNat<=sizeLine:=by rw[Ds,<-hl];exact hz
 have PK:¬its.toArray.size*k.toNat>(2 ^63 - 1) / 8:=by
  have:(sizeLine:Nat)<=(2 ^63 - 1) / 8:=by decide
  omega
 have PL:¬(!Builtin.List.listFitsIndex k)=true:=by
  rw[fitsIndex_both h1 h2]
  exact DM
 have Nd:¬Fs (its.toArray.size*k.toNat)=true:=by
  rw[oP Ki]
  exact DM
 have PM:IB (λx1 x2=>x1++x2) #[] (E0 (if its.toArray.isEmpty=true then 0 else k.toNat) its.toArray)=(E0 k.toNat its).flatten.toArray:=by
  have f0:∀m:Nat,IB (λx1 x2=>x1++x2) #[] (E0 m its.toArray)=(E0 m its).flatten.toArray:=λm=>by
   have:=mI its m []
   rw[H_]at this
   exact this
  rw[f0]
  cases its with
  |nil=>simp
  |cons a r'=>rw[if_neg (by simp)]
 refine wpAny_binaryOp_repeat_ref (T:="list") (U:="int") (by decide) ⟨_,e,rfl⟩ (λs'=>Jz s' k t) noFill_list_mul F.fills_int_mul F.slot_int_rmul repeat_list F.slot_int_index.lookup
  (FA F.slot_int_rmul (Jz s k t) F.entry_int_rmul (F.args_int_rmul_2 _ _) (int___rmul___int_list k t l its.toArray n)
   ⟨e,rfl,⟨_,e,rfl⟩,FA F.slot_list_mul ⟨_,e,rfl⟩ F.entry_list_mul (F.args_list_mul_2 _ _) (AutoListH.list___mul___list_int_3 l its.toArray n k t PL PK Nd) ⟨e,?_⟩⟩)
 rw[PM]
 exact⟨.ref _,_,I.lnew (t':=s.toks) (r.rep k.toNat) (by rw[wF,Nat.mul_comm];exact hz),rfl,q _ I.fresh⟩
end
section
variable {prog:Dy} {w:DG} {A:DO} {E:Di->Dl->Prop} {s:Dl}
end
section
variable {X:Cx}
end
end L2
namespace L2
open PySem PySem.Spec PyProof.Rows
section
variable {κ:Type} [DecidableEq κ]
def gJ (Ke:List (κ×V)) (k:κ):Option V:=(Ke.find? λkv=>decide (kv.1=k)).map (·.2)
def wG (Ke:List (κ×V)) (k:κ) (v:V):List (κ×V):=
 if (Ke.any λkv=>decide (kv.1=k))=true then Ke.map (λkv=>if kv.1=k then (kv.1,v)else kv)else Ke++[(k,v)]
def ya (Ke:List (κ×V)) (k:κ):List (κ×V):=Ke.filter λkv=>decide (kv.1≠k)
theorem oQ {p:κ×V} {r:List (κ×V)} {k:κ} (e:p.1=k):gJ (p::r) k=some p.2:=by simp[gJ,FC,e]
theorem oR {p:κ×V} {r:List (κ×V)} {k:κ} (e:¬p.1=k):gJ (p::r) k=gJ r k:=by simp[gJ,FC,e]
theorem gI.isSome_eq {o:Option V} {u:Option Di} (r:gI o u):o.isSome=u.isSome:=by
 cases o with
 |none=>cases u with
  |none=>rfl
  |some _=>exact(show False from r).elim
 |some _=>cases u with
  |none=>exact(show False from r).elim
  |some _=>rfl
theorem gI.getD {o:Option V} {u:Option Di} {d:V} {d':Di} (r:gI o u) (rd:b9 d d'):b9 (o.getD d) (u.getD d'):=by
 cases o with
 |none=>cases u with
  |none=>exact rd
  |some _=>exact(show False from r).elim
 |some _=>cases u with
  |none=>exact(show False from r).elim
  |some _=>exact r
theorem KV.val {Ke:List (κ×V)} {vs:List (κ×Di)} (r:KV Ke vs) (k:κ):gI (gJ Ke k) (Hx vs k):=by
 unfold KV at r
 induction r with
 |nil=>exact Fy
 | @cons p q ps qs h t ih=>
  obtain⟨h1,h2⟩:=h
  by_cases e:p.1=k
  ·have e':q.1=k:=h1.symm.trans e
   have b:Hx (q::qs) k=some q.2:=by simp[Hx,FC,e']
   rw[oQ e,b];exact h2
  ·have e':¬q.1=k:=λz=>e (h1.trans z)
   have b:Hx (q::qs) k=Hx qs k:=by simp[Hx,FC,e']
   rw[oR e,b];exact ih
theorem KV.any {Ke:List (κ×V)} {vs:List (κ×Di)} (r:KV Ke vs) (k:κ):(Ke.any λkv=>decide (kv.1=k))=vs.any λkv=>decide (kv.1=k):=by
 unfold KV at r
 induction r with
 |nil=>rfl
 |cons h t ih=>rw[EB,EB,ih,h.1]
theorem KV.drop {Ke:List (κ×V)} {vs:List (κ×Di)} (r:KV Ke vs) (k:κ):KV (ya Ke k) (without vs k):=by
 unfold KV at r ⊢
 unfold ya without
 induction r with
 |nil=>exact .nil
 | @cons p q ps qs h t ih=>
  obtain⟨h1,h2⟩:=h
  rw[Ft,Ft]
  by_cases e:p.1=k
  ·have a:¬decide (p.1≠k)=true:=by simp[e]
   have b:¬decide (q.1≠k)=true:=by simp[h1.symm.trans e]
   rw[if_neg a,if_neg b];exact ih
  ·have e':¬q.1=k:=λz=>e (h1.trans z)
   have a:decide (p.1≠k)=true:=by simp[e]
   have b:decide (q.1≠k)=true:=by simp[e']
   rw[if_pos a,if_pos b];exact .cons ⟨h1,h2⟩ ih
theorem KV.length {Ke:List (κ×V)} {vs:List (κ×Di)} (r:KV Ke vs):Ke.length=vs.length:=IG r
end
theorem ra {P:Dy} {w:DG} {k:cn} {u:Di} (r:b9 (kV k) u):(du P w).is k u=true:=by
 cases k with
 |inl i=>obtain⟨t,e⟩:=(show ∃t,u=HW i t from r);subst e;exact oH P w i t
 |inr x=>obtain⟨t,e⟩:=(show ∃t,u=Gx x t from r);subst e;exact oI P w x t
theorem mJ {P:Dy} {w:DG}:∀{ks:List cn} {us:List Di},aI (ks.map kV) us->ItemsAre (du P w) ks us
 |[],_,r=>by rw[Fq]at r;cases r;exact .nil
 |k::ks,_,r=>by
  rw[DH]at r
  cases r with
  |cons h t=>exact .cons (ra h) (mJ t)
abbrev KT (H:Hp):List (List cn×V)->List (List cn×Dk×Di)->Prop:=Paired λp q=>p.1=q.1/\H q.2.1=some (.tup (p.1.map kV))/\b9 p.2 q.2.2
theorem KT.val {H:Hp} {Ke:List (List cn×V)} {xs:List (List cn×Dk×Di)} (r:KT H Ke xs) (k:List cn):gI (gJ Ke k) ((Jd xs k).map (·.2)):=by
 induction r with
 |nil=>exact Fy
 | @cons p q ps qs h t ih=>
  obtain⟨h1,_,h2⟩:=h
  by_cases e:p.1=k
  ·have e':q.1=k:=h1.symm.trans e
   have b:Jd (q::qs) k=some q.2:=by simp[Jd,FC,e']
   rw[oQ e,b];exact h2
  ·have e':¬q.1=k:=λz=>e (h1.trans z)
   have b:Jd (q::qs) k=Jd qs k:=by simp[Jd,FC,e']
   rw[oR e,b];exact ih
section
variable {P:Dy} {w:DG} {H:Hp} {h:DE} {a:Dk}
theorem yb {u:HO} (ok:iA P w H h) (e:Rd H a u):bB P w H h a u:=e.ok ok
theorem oS {Ke:List (cn×V)} (ok:iA P w H h) (e:Rd H a (.dK Ke)):Ke.length<=sizeLine/\(a==sysModules)=false/\∃vs,KV Ke vs/\h.DictOf (du P w) a vs:=
 show bB P w H h a (.dK Ke)from yb ok e
theorem nI {ks:List cn} (ok:iA P w H h) (e:H a=some (.tup (ks.map kV))):(IT (du P w)).is h ks a:=by
 obtain⟨_,its,r,o,h1,h2,n,h3,_⟩:=(show bB P w H h a (.tup (ks.map kV))from ok a _ e)
 exact⟨o,its.toArray,n,h1,h2,h3,by simpa using mJ r⟩
theorem rb {Ke:List (List cn×V)} (ok:iA P w H h) (e:Rd H a (.dT Ke)):Ke.length<=sizeLine/\(a==sysModules)=false/\
  ∃xs,KT H Ke xs/\h.DictOfH (IT (du P w)) a xs:=by
 obtain⟨z,y,xs,r,o,es,ep,h1,h2,h3,h4,h5⟩:=(show bB P w H h a (.dT Ke)from yb ok e)
 refine⟨z,y,xs,r,o,es,ep,h1,h2,h3,h4,λx hx=> ?_,h5⟩
 have all:∀{l:List (List cn×V)} {m:List (List cn×Dk×Di)},KT H l m->∀x∈m,(IT (du P w)).is h x.1 x.2.1:=by
  intro l m q
  induction q with
  |nil=>intro x hx;exact nomatch hx
  | @cons p q ps qs hq t ih=>
   intro x hx
   rcases DN.mp hx with e|hx
   ·subst e
    exact nI ok (by rw[<-hq.1];exact hq.2.1)
   ·exact ih x hx
 exact all r x hx
end
def j3 (H:Hp) (a:Dk) (y:V) (r:Option V):Prop:=
 (∃Ke k,Rd H a (.dK Ke)/\y=kV k/\r=gJ Ke k)\/∃Ke k b,Rd H a (.dT Ke)/\y= .ref b/\H b=some (.tup (k.map kV))/\r=gJ Ke k
def wH (H:Hp) (a:Dk) (y v:V) (H':Hp):Prop:=
 (∃Ke k,H a=some (.dK Ke)/\y=kV k/\Ke.length<sizeLine/\H'=bc H a (.dK (wG Ke k v)))\/
 ∃Ke k b,H a=some (.dT Ke)/\y= .ref b/\H b=some (.tup (k.map kV))/\Ke.length<sizeLine/\H'=bc H a (.dT (wG Ke k v))
theorem j3.k {H:Hp} {a:Dk} {Ke:List (cn×V)} {k:cn} (e:H a=some (.dK Ke)):j3 H a (kV k) (gJ Ke k):= .inl ⟨Ke,k, .inl e,rfl,rfl⟩
theorem j3.t {H:Hp} {a b:Dk} {Ke:List (List cn×V)} {k:List cn} (e:H a=some (.dT Ke)) (eb:H b=some (.tup (k.map kV))):j3 H a (.ref b) (gJ Ke k):= .inr ⟨Ke,k,b, .inl e,rfl,eb,rfl⟩
theorem wH.k {H:Hp} {a:Dk} {Ke:List (cn×V)} {k:cn} {v:V} (e:H a=some (.dK Ke)) (hl:Ke.length<sizeLine):wH H a (kV k) v (bc H a (.dK (wG Ke k v))):= .inl ⟨Ke,k,e,rfl,hl,rfl⟩
theorem wH.t {H:Hp} {a b:Dk} {Ke:List (List cn×V)} {k:List cn} {v:V} (e:H a=some (.dT Ke)) (eb:H b=some (.tup (k.map kV))) (hl:Ke.length<sizeLine):
  wH H a (.ref b) v (bc H a (.dT (wG Ke k v))):= .inr ⟨Ke,k,b,e,rfl,eb,hl,rfl⟩
section
variable {X:Cx} {K4:List (Dk×DT)} {σ:St} {H:Hp} {s:Dl} {a:Dk} {y v:V} {u r:Di} {o:Option V} {A:DO} {E:Di->Dl->Prop}
theorem sx {Q:Di->Dl->Prop} (hu:A.units+1<FG) (I:aw X K4 σ H s) (g:j3 H a y (some v)) (ry:b9 y u) (h:∀w' s',aw X K4 σ H s'->b9 v w'->Q w' s'):
  Du (Dz X.prog X.w) A (Ge (.ref a) u) Q E s:=by
 rcases g with ⟨Ke,k,e,ey,l⟩|⟨Ke,k,b,e,ey,eb,l⟩
 ·subst ey
  obtain⟨z,hd,vs,MO,dd⟩:=oS I.hok e
  obtain⟨w',hw,ME⟩:=gI.some_of (v:=v) (o:=Hx vs k) (by rw[l];exact MO.val k)
  exact wpAny_getItem_of (ra ry) dd.mapOf hw (h w' _ (I.tok _) ME)
 ·subst ey
  cases (show u=DP b from ry)
  obtain⟨z,hd,xs,MO,dd⟩:=rb I.hok e
  obtain⟨w',hw,ME⟩:=gI.some_of (v:=v) (o:=(Jd xs k).map (·.2)) (by rw[l];exact MO.val k)
  obtain⟨p,hp,NL⟩:=Option.map_eq_some_iff.mp hw
  refine wpAny_getItem_heap (Hc hu) (nI I.hok eb) dd hp ?_
  rw[NL]
  exact h w' _ (I.tok _) ME
theorem C9 {Q:Di->Dl->Prop} (hu:A.units+1<FG) (I:aw X K4 σ H s) (g:j3 H a y o) (ry:b9 y u) (h:∀s',aw X K4 σ H s'->Q (.bool o.isSome) s'):
  Du (Dz X.prog X.w) A (Eu .In u (.ref a)) Q E s:=by
 rcases g with ⟨Ke,k,e,ey,l⟩|⟨Ke,k,b,e,ey,eb,l⟩
 ·subst ey
  obtain⟨z,hd,vs,MO,dd⟩:=oS I.hok e
  refine wpAny_in_of (ra ry) hd dd.mapOf ?_
  rw[<-(MO.val k).isSome_eq,<-l]
  exact h _ (I.tok _)
 ·subst ey
  cases (show u=DP b from ry)
  obtain⟨z,hd,xs,MO,dd⟩:=rb I.hok e
  refine wpAny_in_heap (Hc hu) (nI I.hok eb) hd dd ?_
  have q:=(MO.val k).isSome_eq
  rw[Jk]at q
  rw[<-q,<-l]
  exact h _ (I.tok _)
theorem wI {Q:Di->Dl->Prop} (hu:A.units+1<FG) (I:aw X K4 σ H s) (g:j3 H a y o) (ry:b9 y u) (h:∀s',aw X K4 σ H s'->Q (.bool (!o.isSome)) s'):
  Du (Dz X.prog X.w) A (Eu .NotIn u (.ref a)) Q E s:=by
 rcases g with ⟨Ke,k,e,ey,l⟩|⟨Ke,k,b,e,ey,eb,l⟩
 ·subst ey
  obtain⟨z,hd,vs,MO,dd⟩:=oS I.hok e
  refine wpAny_notIn_of (ra ry) hd dd.mapOf ?_
  rw[<-(MO.val k).isSome_eq,<-l]
  exact h _ (I.tok _)
 ·subst ey
  cases (show u=DP b from ry)
  obtain⟨z,hd,xs,MO,dd⟩:=rb I.hok e
  refine wpAny_notIn_heap (Hc hu) (nI I.hok eb) hd dd ?_
  have q:=(MO.val k).isSome_eq
  rw[Jk]at q
  rw[<-q,<-l]
  exact h _ (I.tok _)
end
section
variable {X:Cx} {K4:List (Dk×DT)} {σ:St} {H:Hp} {s:Dl} {a:Dk} {Ke:List (cn×V)} {k:cn} {u:Di} {A:DO} {E:Di->Dl->Prop}
theorem AN {Q:Di->Dl->Prop} (I:aw X K4 σ H s) (e:Rd H a (.dK Ke)) (h:∀t s',aw X K4 σ H s'->Q (.int Ke.length t) s'):Du (Dz X.prog X.w) A (call (.builtin "len") [.ref a]) Q E s:=by
 obtain⟨z,hd,vs,MO,dd⟩:=oS I.hok e
 refine call_len_dict hd dd (by rw[<-MO.length];rw[Ia]at z;omega) ?_
 rw[<-MO.length]
 exact h _ _ (I.tok _)
end
def AO (i:Dr):Prop:=∀ov iv,Ie i false ov iv=operate [ov,iv] (Ge ov iv)
theorem wJ {prog:Dy} {w:DG} {A:DO} {E:Di->Dl->Prop} {s:Dl} {env:EO} {value Lb:Dr} {pos:DZ} {T id:String} {Q:Di->Dl->Prop}
  (hl:typeLookup (.type T) "__getitem__"=pure (some (.builtin id))) (hs:AO Lb)
  (h:Du (Dz prog w) A (DC value env) (λo s₁=>Du (Dz prog w) A (DC Lb env) (λi s₂=>s₂.TypeIs o T/\Du (Dz prog w) A (Ge o i) Q E s₂) E s₁) E s):
  Du (Dz prog w) A (DC (.Subscript value Lb pos) env) Q E s:=by
 refine IA (F8 h (λo s₁ h₁=>F8 h₁ (λi s₂ h₂=> ?_) λ_ _ x=>x) λ_ _ x=>x)
 obtain⟨hT,h₂⟩:=h₂
 unfold Hk
 refine Dn ?_
 rw[getitemInPython_of_ne hT.not_modules]
 refine Dn (wpAny_specialOf hT hl ?_)
 have LQ:Du (Dz prog w) A (Ie Lb false o i) (λr s₃=>Du (Dz prog w) A (letTemporaryGo value o r>>=λ_=>pure r) Q E s₃) E s₂:=by
  rw[hs o i]
  exact wpAny_operating (F8 h₂ (λr s₃ h₃=>Dn (wpAny_letTemporaryGo (Dv h₃))) λ_ _ x=>x)
 first
  |exact Dv (Dn LQ)
  |exact Dn (Dv (Dn LQ))
  |exact Dn LQ
theorem oU {X:Cx} {K4:List (Dk×DT)} {σ:St} {H:Hp} {s:Dl} {a:Dk} {y:V} {o:Option V} (I:aw X K4 σ H s) (g:j3 H a y o):s.TypeIs (.ref a) "dict":=by
 rcases g with ⟨Ke,k,e,_,_⟩|⟨Ke,k,b,e,_,_,_⟩
 ·obtain⟨_,_,vs,_,dd⟩:=oS I.hok e
  exact dd.typeIs
 ·obtain⟨_,_,xs,_,dd⟩:=rb I.hok e
  exact dd.typeIs
def AQ (td ty:TE):TE:=λσ H Q=>td σ H λx H1=>ty σ H1 λy H2=>∃a v,x= .ref a/\j3 H2 a y (some v)/\Q v H2
def yZ (ty td:TE):TE:=λσ H Q=>ty σ H λy H1=>td σ H1 λx H2=>∃a o,x= .ref a/\j3 H2 a y o/\Q (.bl o.isSome) H2
def nJ (ty td:TE):TE:=λσ H Q=>ty σ H λy H1=>td σ H1 λx H2=>∃a o,x= .ref a/\j3 H2 a y o/\Q (.bl (!o.isSome)) H2
section
variable {X:Cx} {o i e value:Dr} {pos Kw Pz:DZ} {td ty tv:TE}
theorem wK (hu:X.A.units+1<FG) (ho:PE X o td) (hi:PE X i ty) (hs:AO i):PE X (.Subscript o i pos) (AQ td ty):=by
 intro K4 s σ H Q I h
 refine wJ PySem.F.slot_dict_getitem.lookup hs (bU (ho K4 s σ H _ I h) λu s1 ⟨x,H1,I1,rx,q1⟩=>bU (hi K4 s1 σ H1 _ I1 q1) λiv s2 z_=> ?_)
 obtain⟨y,H2,I2,ry,a,v,ex,g,q2⟩:=z_
 subst ex
 obtain rfl:u=DP a:=rx
 exact⟨oU I2 g,sx hu I2 g ry λw' s3 I3 ME=>⟨v,H2,I3,ME,q2⟩⟩
theorem uo (hu:X.A.units+1<FG) (hi:PE X i ty) (ho:PE X o td):PC X .In i o (yZ ty td):=by
 intro K4 s σ H Q I h
 refine bU (hi K4 s σ H _ I h) λiv s1 ⟨y,H1,I1,ry,q1⟩=>bU (ho K4 s1 σ H1 _ I1 q1) λu s2 z_=> ?_
 obtain⟨x,H2,I2,rx,a,ov,ex,g,q2⟩:=z_
 subst ex
 obtain rfl:u=DP a:=rx
 exact C9 hu I2 g ry λs3 I3=>⟨.bl ov.isSome,H2,I3,rfl,q2⟩
theorem mK (hu:X.A.units+1<FG) (hi:PE X i ty) (ho:PE X o td):PC X .NotIn i o (nJ ty td):=by
 intro K4 s σ H Q I h
 refine bU (hi K4 s σ H _ I h) λiv s1 ⟨y,H1,I1,ry,q1⟩=>bU (ho K4 s1 σ H1 _ I1 q1) λu s2 z_=> ?_
 obtain⟨x,H2,I2,rx,a,ov,ex,g,q2⟩:=z_
 subst ex
 obtain rfl:u=DP a:=rx
 exact wI hu I2 g ry λs3 I3=>⟨.bl (!ov.isSome),H2,I3,rfl,q2⟩
end
section
variable {X:Cx} {pos:DZ}
end
section
variable {X:Cx} {K4:List (Dk×DT)} {σ:St} {H:Hp} {s:Dl} {a:Dk} {y d:V} {u r:Di} {o:Option V} {A:DO} {E:Di->Dl->Prop}
end
section
variable {X:Cx} {o e f:Dr} {Kh Kb:DZ} {td ty tx:TE}
end
section
variable {X:Cx} {K4:List (Dk×DT)} {σ:St} {H:Hp} {s:Dl} {a:Dk} {Ke:List (cn×V)} {A:DO} {E:Di->Dl->Prop}
end
section
variable {X:Cx} {K4:List (Dk×DT)} {σ:St} {H:Hp} {s:Dl} {a:Dk} {y:V} {u:Di} {A:DO} {E:Di->Dl->Prop}
end
end L2
namespace Att
open PySem PySem.W PySem.Calls PyProof.Rows
theorem kr {P:Params} {h:DE}:∀(ns:List Int) (vs:List Di),WellAll P h vs (ns.map WData.int)->Ip vs ns:=by
 intro ns
 induction ns with
 |nil=>
  intro vs w
  rw[Fq]at w
  cases w
  exact .nil
 |cons n ns ih=>
  intro vs w
  rw[DH]at w
  cases w with
  |cons a b=>
   cases a
   exact .cons _ _ (ih _ b)
theorem sy {l:OpenLaw} {n:Nat} (hn:l.most=some n) {P:Params} {h:DE} {args:List WData} {NU:List Di}
  (Nu:l.row.toRowW.claim.pre args=true) (PR:WellAll P h NU args):
  ∃a vs ns,NU=[DP a]/\args=[WData.list (ns.map WData.int)]/\h.get? a=some {cls:= .type "list",data:= .seq vs.toArray}/\Ip vs ns/\ns.length<=n:=by
 have Rp:WShape.hasAll [] args [.list .int]=true:=(pre_splitW Nu).1
 have hc:l.pre.holds [] {args:=args}=true:=(pre_splitW Nu).2
 obtain⟨d,r,rfl,h1,h2⟩:=hasAllW_cons Rp
 obtain rfl:=hasAllW_nil h2
 obtain⟨xs,rfl,h3⟩:=hasW_list h1
 obtain⟨ns,rfl⟩:=items_int h3
 have Ki:ns.length<=n:=by
  unfold OpenLaw.pre at hc
  have h4:(WTm.not (.lt (.lit (.int (n:Int))) (.len (.arg 0)))).holds [] {args:=[.list (ns.map .int)]}=true:=by
   have h4:=(holds_andW hc).1
   rw[hn]at h4
   exact h4
  have h5:=condW_of h4 (w_not (w_lt w_lit (w_len_list (w_arg rfl))))
  rw[Dp]at h5
  refine HI λq=> ?_
  have q':(n:Int)<((ns.length:Nat):Int):=by omega
  first
   |(rw[decide_eq_true q']at h5;exact absurd h5 (by decide))
   |(simp at h5;omega)
 cases PR with
 |cons w1 w2=>
  cases w2
  cases w1 with
  |list ho PU=>exact⟨_,_,ns,rfl,rfl,ho,kr ns _ PU,Ki⟩
theorem sA (l:OpenLaw) (args:List WData):l.row.toRowW.claim.post args (.bool true) args=true:=
 postW_of (r:=l.row.toRowW) (X:=(true==true))
  (show WShape.has [] (.bool true) .bool=true by first|rfl|decide|simp[WShape.has,WShape.arms,WShape.armsAll])
  (show (WTm.eq .res (.lit (.bool true))).value [] {args:=args,res:=some (.bool true),after:=args}=some (.bool (true==true))from w_eq_bool (w_res rfl) w_lit) rfl
theorem attach_call {l:OpenLaw} {n:Nat} {q:Dy} {M7:List Dj} {XP:(Dj->Option Di)->DE->Prop} {YP:DG->DE->Prop} {d:DefRec}
  (hn:l.most=some n) (OG:d.params.defaults=[])
  (call:∀(w:DG) (s₀ s₁:Dl) (mg mb:Dj->Option Di) (fa:Dk) (o:DT) (pm cd L4:Di) (a:Dk) (vs:List Di) (ns:List Int),
   Ground q M7 [] XP w s₀ mg mb s₁.heap->YP w s₁.heap->
   s₁.heap.get? fa=some o->o.data= .func (docDef d.name d.params d.body d.scope pm cd L4)->s₁.heap.CodeRec cd d.name->mg d.name=some (.ref fa)->
   s₁.heap.get? a=some {cls:= .type "list",data:= .seq vs.toArray}->Ip vs ns->ns.length<=n->s₁.gens= #[]->
   Gd (Dz l.prog w) Hy (.call (.ref fa) ⟨[.ref a],[]⟩) (λr s'=>r= .ok (.ret (.bool true))/\OldK s₁.heap s'.heap/\s'.os=s₁.os/\Gb s'.gens) s₁):
  WalkO q M7 XP YP l.row.toRowW d [] (λf vs=>JB f vs):=by
 intro w s₀ s₁ mg mb G Y fa o pm cd L4 dV kV ho hd Lc hD PV hg args NU as Nu Rq SA PR SD
 obtain rfl:dV= .none:=Dflts.none hD OG
 obtain rfl:kV= .none:=Dflts.noKw hD
 obtain⟨a,vs,ns,rfl,rfl,NV,Nf,Ki⟩:=sy hn Nu PR
 refine enter_call (G5 (call w s₀ s₁ mg mb fa o pm cd L4 a vs ns G Y ho (fd_plain hd) Lc PV NV Nf Ki hg) λr s' hq=> ?_)
 obtain⟨rfl,h2,h3,h4⟩:=hq
 exact⟨.inl ⟨.bool true, .bool true,[],rfl,λ_=>rfl, .bool true,sA l _,λ_=>⟨List.Pairwise.nil,λ_ hm=>(nomatch hm)⟩⟩,h2,h3,h4⟩
section
variable {prog:Dy} {w:DG} {A:DO} {E:Di->Dl->Prop} {s:Dl} {K:Frag}
end
end Att
namespace L2
open PySem PySem.Spec PyProof.Rows
theorem mL:∀{vs:List Di} {ns:List Int},Ip vs ns->aI (ns.map V.int) vs
 |_,_, .nil=> .nil
 |_,_, .cons n t h=> .cons ⟨t,rfl⟩ (mL h)
def y_ (H:Hp):Prop:=∀b,H b=none\/∃o xs,H b=some (.frz o (.lst xs))
theorem uq {P:Dy} {w:DG} {K:Dh} {mg mb:Dj->Option Di} {CX:qb} {k:Nat} {fa a:Dk} {fd:Ep} {x:Dj} {sp:Sp} {s₁:Dl} {vs:List Di} {ns:List Int}
  (KX:K.In s₁.heap) (MI:s₁.heap.Ns Dt mg) (hb:s₁.heap.Ns Jw mb) (Rr:∀x:Dj,x≠"__name__"->mb x=E4 x) (PY:s₁.heap.NoLimit) (hg:s₁.gens= #[])
  (ha:s₁.heap.get? a=some {cls:= .type "list",data:= .seq vs.toArray}) (hi:Ip vs ns) (hl:ns.length<=sizeLine) (hr:bN k Hy)
  (F:∀base:DE,K.In base->base.Ns Dt mg->d2 P w K mg base CX k fa fd [x] sp) (OH:∀(s:Dl) (u:Di),Io s fd ⟨[u],[]⟩ [(x,u)])
  (Nn:∀H:Hp,y_ H->cp K H a (ns.map V.int)->sp [.ref a] H (λv _=>v= .bl true) λ_ _ _=>False)
  (PZ:∀H e s',CX [] H s₁ (λ_ _ _=>False) e s'->False):
  Gd (Dz P w) Hy (.call (.ref fa) ⟨[.ref a],[]⟩) (λr s'=>r= .ok (.ret (.bool true))/\OldK s₁.heap s'.heap/\s'.os=s₁.os/\Gb s'.gens) s₁:=by
 have rv:=mL hi
 have P_:=hi.length
 have OI:∀H:Hp,y_ H->cp K H a (ns.map V.int)->iA P w H s₁.heap->(∀b,H b≠none->b=a)->(H a≠none->K.lookup a=none)->
   Gd (Dz P w) Hy (.call (.ref fa) ⟨[.ref a],[]⟩) (λr s'=>r= .ok (.ret (.bool true))/\OldK s₁.heap s'.heap/\s'.os=s₁.os/\Gb s'.gens) s₁:=by
  intro H hO hS hok hA hK
  have MP:∀{b:Dk} {o:DT},s₁.heap.get? b=some o->H b=none->(nA s₁.heap H).get? b=some o:=λe n=>tP e n
  have OB:∀{b:Dk} {o:DT} {es:Array DictEntry} {ep:Nat},s₁.heap.get? b=some o->o.data= .dict es ep->H b=none:=λ{b o es ep} e d=>by
   cases q:H b with
   |none=>rfl
   |some u=>
    have e':b=a:=hA b (by rw[q];simp)
    subst e'
    rw[ha]at e;cases e
    have d':JY vs.toArray _=Data.dict es ep:=d
    cases d'
  have Pb:∀{b:Dk} {m:Dj->Option Di},s₁.heap.Ns b m->(nA s₁.heap H).Ns b m:=λ{b m} ⟨o,es,ep,e,d,r⟩=>⟨o,es,ep,MP e (OB e d),d,r⟩
  have QK:K.In (nA s₁.heap H):=λb o e=>MP (KX b o e) (by
   cases q:H b with
   |none=>rfl
   |some u=>
    have e':b=a:=hA b (by rw[q];simp)
    subst e'
    rw[hK (by rw[q];simp)]at e;cases e)
  have hM:Mod K mg (nA s₁.heap H):=⟨QK,Pb MI,⟨mb,Pb hb,Rr⟩,let ⟨mc,h1,h2⟩:=PY;⟨mc,Pb h1,h2⟩⟩
  have e0:qc P w K mg (nA s₁.heap H) Hy [] s₁ H:=⟨rfl,hM,λb o e=>w9 e,HC (se _ _),trivial,λb hb=>absurd (show b∈([]:List Dk)from hb) (by simp),hok, .of_eq hg⟩
  refine G5 ((F _ QK (Pb MI)).run Hy [] s₁ H ⟨[.ref a],[]⟩ [.ref a] [.ref a] _ _ hr e0 (OH s₁ (.ref a)) (.cons rfl .nil) (Nn H hO hS)) λr s' h=> ?_
  cases r with
  |error e=>exact(PZ H e s' h).elim
  |ok fl=>
   cases fl with
   |next=>exact EF h
   |brk=>exact EF h
   |cont=>exact EF h
   |ret u=>
    obtain⟨v,H',os,bare,un,Q0,r',q⟩:=h
    have q':v= .bl true:=q
    subst q'
    obtain rfl:u=Iu true:=r'
    refine⟨rfl,OldK.of_keep λb o e=> ?_,os,bare⟩
    cases q:H b with
    |none=>exact un.keep b o e q (by intro z;exact absurd (show b∈([]:List Dk)from z) (by simp)) (by simp)
    |some u=>
     rcases hO b with z|⟨ob,xs,z⟩
     ·rw[q]at z;cases z
     ·have z2:=un.frzs b ob _ z
      obtain⟨e1,_⟩:=hok b _ z
      obtain⟨e2,_⟩:=Q0 b _ z2
      rw[e]at e1;cases e1
      exact e2
 cases hk:K.lookup a with
 |some o=>
  have e:=KX a o hk
  rw[ha]at e
  cases e
  refine OI (λ_=>none) (λ_=> .inl rfl) (.inr ⟨_,vs.toArray,_,hk,rfl,rfl,rfl,by rw[Ds,P_];exact hl,by simpa using rv⟩) (λb u z=>by have z':(none:Option HO)=some u:=z;cases z') (λb z=>absurd rfl z) λz=>absurd rfl z
 |none=>
  refine OI (λb=>if b=a then some (.frz {cls:= .type "list",data:= .seq vs.toArray} (.lst (ns.map V.int)))else none) (λb=> ?_) (.inl (.inr ⟨{cls:= .type "list",data:= .seq vs.toArray},if_pos rfl⟩)) (λb u z=> ?_) (λb z=> ?_) λ_=>hk
  ·by_cases hb:b=a
   ·exact .inr ⟨_,_,if_pos hb⟩
   ·exact .inl (if_neg hb)
  ·by_cases hb:b=a
   ·have z':=(if_pos hb).symm.trans z
    cases z'
    subst hb
    exact⟨ha,by rw[Dp];exact hl,vs,_,rv,ha⟩
   ·have z':=(if_neg hb).symm.trans z
    cases z'
  ·by_cases hb:b=a
   ·exact hb
   ·exact absurd (if_neg hb) z
end L2
namespace L2
open PySem PySem.Spec PyProof.Rows
theorem wL {l:I0} {n k:Nat} {q:Dy} {M7:List Dj} {XP:(Dj->Option Di)->DE->Prop} {YP:DG->DE->Prop} {d:DefRec} {K:Params->Dh} {CX:DG->qb} {sp:DG->Sp} {x:Dj}
  (hn:l.most=some n) (P9:n<=sizeLine) (OG:d.params.defaults=[]) (hr:bN k Hy)
  (hY:∀(w:DG) (h:DE),YP w h->(K w.params).In h)
  (F:∀(w:DG) (mg:Dj->Option Di) (fa:Dk) (h:DE),(K w.params).In h->h.Ns Dt mg->mg d.name=some (.ref fa)->
   ∃fd:Ep,(∀(s:Dl) (u:Di),Io s fd ⟨[u],[]⟩ [(x,u)])/\
    ∀base:DE,(K w.params).In base->base.Ns Dt mg->d2 l.prog w (K w.params) mg base (CX w) k fa fd [x] (sp w))
  (Nn:∀(w:DG) (H:Hp) (a:Dk) (ns:List Int),ns.length<=n->y_ H->cp (K w.params) H a (ns.map V.int)->sp w [.ref a] H (λv _=>v= .bl true) λ_ _ _=>False)
  (PZ:∀(w:DG) (H:Hp) (s:Dl) (e:Di) (s':Dl),CX w [] H s (λ_ _ _=>False) e s'->False):
  JS q M7 XP YP l.row.toRowW d [] (λf vs=>JB f vs):=by
 refine Att.attach_call hn OG λw s₀ s₁ mg mb fa o pm cd L4 a vs ns G Y ho hd Lc PV NV Nf Ki hg=> ?_
 have KX:=hY w _ Y
 obtain⟨fd,hb,hF⟩:=F w mg fa _ KX G.T.g PV
 exact uq KX G.T.g G.T.b G.T.builtins G.T.nolimit hg NV Nf (DY Ki P9) hr hF hb (λH hO hS=>Nn w H a ns Ki hO hS) λH e s'=>PZ w H s₁ e s'
end L2
namespace L2
open PySem PySem.Spec PyProof.Rows
def cZ (s:DU) (j:Nat):DU:=match s with
 | .ClassDef _ _ _ body _ _ _ _ _ _ _=>body.getD j (.Pass ⟨0,0,0,0⟩)
 |_=> .Pass ⟨0,0,0,0⟩
def bZ (s:DU):Arguments:=match s with
 | .FunctionDef _ a _ _ _ _ _ _ _ _=>a
 |_=>{posonlyargs:=[],args:=[],vararg:=none,kwonlyargs:=[],kw_defaults:=[],kwarg:=none,defaults:=[]}
def aN (s:DU):List DU:=match s with
 | .FunctionDef _ _ b _ _ _ _ _ _ _=>b
 |_=>[]
def ah (s:DU):EX:=match s with
 | .FunctionDef _ _ _ _ _ _ sc _ _ _=>sc
 |_=>{kind:= .function,names:=[],isGenerator:=false,isCoroutine:=false}
abbrev Cw:qb:=λ_ _ _ _ _ _=>False
structure re (K:Dh) (x qual:Dj) (st:DU) (f:Dk) (fd:Ep):Prop where
 ex:∃(oc:Di) (od:Option Dk) (kV L4 pm:Di) (an:Option Dk) (Kf ct:Di) (M1:Array (Option Di)),
  fd=Ea x qual (bZ st) (aN st) (ah st) .none kV L4 pm an Kf ct/\K.lookup f=some ⟨oc,od, .func fd,M1⟩/\Fn K Kf qual=true
 kp:E8 K (.ref f)=true
section
variable {P:Dy} {w:DG} {K:Dh} {mg:Dj->Option Di} {base:DE}
theorem re.ok {x qual:Dj} {st:DU} {f:Dk} {fd:Ep} {N ps:List Dj} {k:Nat} {sp:Sp} (F:re K x qual st f fd) (S:aF N ps (ah st)) (len:∀vs H Q E,sp vs H Q E->vs.length=ps.length)
  (Ko:∀(Kf:Di) (A:DO) (outer:List EO) (s:Dl) (H:Hp) (vs:List V) (Q:VK) (E:XK),bN k (A.deeper (ES qual (ah st) s.heap.objs.size f Kf))->sp vs H Q E->
   ∃t,mw (fg Cw P w K mg base N qual (ah st) f Kf A outer s H E).nox (aN st) t/\t {nx:=λ_ H'=>Q .non H',rt:=Q} (cS N vs) H):d2 P w K mg base Cw (k+1) f fd ps sp:=by
 obtain⟨oc,od,kV,L4,pm,an,Kf,ct,M1,rfl,lk,Lc⟩:=F.ex
 refine x_ lk Lc S len λA outer s H vs Q E hr Nn=> ?_
 obtain⟨t,h,q⟩:=Ko Kf A outer s H vs Q E hr Nn
 exact⟨t,h.nox,q⟩
theorem re.binds {x qual:Dj} {st:DU} {f:Dk} {fd:Ep} {ps:List Dj} (F:re K x qual st f fd)
  (h:∀(kV L4 pm:Di) (an:Option Dk) (Kf ct:Di) (us:List Di),us.length=ps.length->Fe (Ea x qual (bZ st) (aN st) (ah st) .none kV L4 pm an Kf ct) ⟨us,[]⟩=pure (ps.zip us)):dv K fd ps []:=by
 obtain⟨oc,od,kV,L4,pm,an,Kf,ct,M1,rfl,lk,Lc⟩:=F.ex
 exact .all (h kV L4 pm an Kf ct)
theorem iD {x qual:Dj} {st:DU} {f:Dk} {oc:Di} {od an:Option Dk} {M1:Array (Option Di)} {kV L4 pm Kf ct:Di} (l:K.lookup f=some ⟨oc,od, .func (Ea x qual (bZ st) (aN st) (ah st) .none kV L4 pm an Kf ct),M1⟩)
  (c:Fn K Kf qual=true) (k:E8 K (.ref f)=true):re K x qual st f (Ea x qual (bZ st) (aN st) (ah st) .none kV L4 pm an Kf ct):=⟨⟨oc,od,kV,L4,pm,an,Kf,ct,M1,rfl,l,c⟩,k⟩
end
theorem cD {A:DO} {k:Nat} (hr:bN k A):A.units+1<FG:=Hd (Nat.add_le_add_left (by decide:1<=64) _) hr.units
section
variable {X:Cx}
theorem pv (i:Nat) {x:Dj} {pos:DZ} (hN:X.N[i]? =some x:=by rfl) (hv:kD X.env.scope x:=by first|exact E7 rfl|exact DV (E7 rfl)|exact DV (DV rfl)) (hd:(x==("__debug__":Dj))=false:=by decide)
  (Lc:(x==("__classdict__":Dj))=false:=by decide):PE X (.Name x pos) (tR i):=yx hN hv hd Lc
end
def aG (H H':Hp):Prop:=∀b o,H b=some o->H' b=some o
theorem aG.refl (H:Hp):aG H H:=λ_ _ h=>h
theorem aG.trans {H H1 H2:Hp} (a:aG H H1) (b:aG H1 H2):aG H H2:=λc o h=>b c o (a c o h)
theorem aG.free {H H':Hp} (e:aG H H') {l:Dk} (h:H' l=K2):H l=K2:=by
 cases q:H l with
 |none=>rfl
 |some o=>
  rw[e l o q]at h
  cases h
theorem aG.seq {K:Dh} {H H':Hp} {a:Dk} {xs:List V} (e:aG H H') (h:cp K H a xs):cp K H' a xs:=by
 rcases h with (h|⟨o,h⟩)|h
 ·exact .inl (.inl (e _ _ h))
 ·exact .inl (.inr ⟨o,e _ _ h⟩)
 ·exact .inr h
section
variable {κ:Type} [DecidableEq κ]
end
end L2
namespace L2
open PySem PySem.Spec PyProof.Rows
def jz (env:EO):List (Dj×Ed)->List (Dj×Dk)->List (Dj×Dk)
 |[],cs=>cs
 |(n,k)::r,cs=>jz env r (if k= .free then (match env.cells.lookup n with|some c=>(n,c)::cs|none=>cs)else cs)
theorem kX (env:EO):∀(names:List (Dj×Ed)) (cs:List (Dj×Dk)),(∀y∈names,y.2= .free->∃c,env.cells.lookup y.1=some c)->
  (forIn names cs λ(x:Dj×Ed) (r:List (Dj×Dk))=>(if (x.2==EC)=true then do
    let a<-cellOf env x.1
    pure (GN ((x.1,a)::r))else pure (GN r):Gy (ForInStep (List (Dj×Dk)))))=pure (jz env names cs)
 |[],cs,_=>rfl
 |(n,k)::r,cs,h=>by
  rw[List.forIn_cons]
  by_cases hk:k= .free
  ·subst hk
   obtain⟨c,hc⟩:=h (n, .free) DI rfl
   have e:cellOf env n=pure c:=by unfold cellOf;rw[hc]
   simp only[beq_self_eq_true,if_true,e]
   unfold jz
   simp only[if_true,hc]
   exact kX env r ((n,c)::cs) λy hy=>h y (DF _ hy)
  ·have hb:(k==EC)=false:=by simpa using hk
   simp only[hb,Ek,if_false]
   unfold jz
   rw[if_neg hk]
   exact kX env r cs λy hy=>h y (DF _ hy)
theorem rf {scope:EX} {env:EO} (h:∀y∈scope.names,y.2= .free->∃c,env.cells.lookup y.1=some c):closureFor scope env=pure (jz env scope.names []):=by
 have:=kX env scope.names [] h
 unfold closureFor
 simp only[bind_pure]
 exact this
theorem dZ {env:EO} {x:Dj} {c:Dk}:∀{names:List (Dj×Ed)} {cs:List (Dj×Dk)},(∀c,cs.lookup x=some c->env.cells.lookup x=some c)->(jz env names cs).lookup x=some c->env.cells.lookup x=some c
 |[],cs,h,e=>h c e
 |(n,k)::r,cs,h,e=>by
  unfold jz at e
  refine dZ (names:=r) (λd hd=> ?_) e
  split at hd
  ·split at hd
   ·rename_i c' hc
    rw[En]at hd
    cases hx:x==n with
    |true=>rw[hx]at hd;have:=eq_of_beq hx;subst this;rw[hc];exact hd
    |false=>rw[hx]at hd;exact h d hd
   ·exact h d hd
  ·exact h d hd
theorem mM {env:EO} {x:Dj}:∀{names:List (Dj×Ed)} {cs:List (Dj×Dk)},(∃c,cs.lookup x=some c)->∃c,(jz env names cs).lookup x=some c
 |[],cs,h=>h
 |(n,k)::r,cs,h=>by
  unfold jz
  refine mM (names:=r) ?_
  split
  ·split
   ·rename_i c' hc
    rw[En]
    cases x==n with
    |true=>exact⟨_,rfl⟩
    |false=>exact h
   ·exact h
  ·exact h
theorem kY {env:EO} {x:Dj}:∀{names:List (Dj×Ed)} {cs:List (Dj×Dk)},(x,EC)∈names->(∃c,env.cells.lookup x=some c)->∃c,(jz env names cs).lookup x=some c
 |(n,k)::r,cs,h,hc=>by
  unfold jz
  rcases DN.mp h with h|h
  ·cases h
   obtain⟨c,hc⟩:=hc
   refine mM (names:=r) ?_
   rw[if_pos rfl,hc]
   exact⟨c,by simp⟩
  ·exact kY h hc
def kZ (N:List Dj) (names:List (Dj×Ed)) (σ:St):St:=
 names.map λx=>if x.2= .free then ((N.findIdx? (·==x.1)).bind λi=>(σ[i]?).join)else none
def b_ (X:Cx) (scope:EX) (s:Dl) (H:Hp) (ex:List Dk):Cx:=
 {X with N:=scope.names.map (·.1),s₀:=s,H₀:=H,env:=compEnvC scope (jz X.env scope.names []) s.heap.objs.size X.env,outer:=X.stack,ex:=ex,fn:=λ_=>false,pn:=[],xe:=λ_ _=>False}
structure aL (X:Cx) (scope:EX):Prop where
 kind:scope.kind= .function
 nocell:∀y∈scope.names,y.2≠ .cell
 loc:∀y∈scope.names,y.2= .local->scope.names.lookup y.1=some .local
 free:∀y∈scope.names,y.2= .free->X.env.kindOf y.1=some .cell\/X.env.kindOf y.1=some .free
 nd:(scope.names.map (·.1)).Nodup
theorem dw {env:EO} {x:Dj}:∀{names:List (Dj×Ed)} {k:Ed},
  (names.map λ(n,k)=>if (k==EC&&env.scope.kind== .function&&env.kindOf n==some .cell)then (n,II)else (n,k)).lookup x=some k->
  names.lookup x=some k\/(names.lookup x=some .free/\k= .cell)
 |[],k,h=>by simp at h
 |(n,j)::r,k,h=>by
  have ih:= @dw env x r k
  rw[DH,En]at h
  rw[En]
  by_cases hc:(j==EC&&env.scope.kind== .function&&env.kindOf n==some .cell)=true
  ·rw[if_pos hc]at h
   have hj:j= .free:=by
    simp only[Ee]at hc
    exact eq_of_beq hc.1.1
   cases hx:x==n with
   |true=>rw[hx]at h;simp at h;exact .inr ⟨by rw[hj],h.symm⟩
   |false=>rw[hx]at h;exact ih h
  ·rw[if_neg hc]at h
   cases hx:x==n with
   |true=>rw[hx]at h;exact .inl h
   |false=>rw[hx]at h;exact ih h
theorem d_ {α β:Type} [BEq α] [LawfulBEq α] {x:α} {b:β}:∀{l:List (α×β)},l.lookup x=some b->(x,b)∈l
 |[],h=>by simp at h
 |(a,c)::r,h=>by
  rw[En]at h
  cases hx:x==a with
  |true=>rw[hx]at h;have:=eq_of_beq hx;subst this;cases h;exact DI
  |false=>rw[hx]at h;exact DF _ (d_ h)
section
variable {X:Cx} {K4:List (Dk×DT)} {σ:St} {H:Hp} {s:Dl} {scope:EX}
theorem aL.cellOf (S:aL X scope) (ok:X.Ok):∀y∈scope.names,y.2= .free->∃c,X.env.cells.lookup y.1=some c:=λy hy hf=>ok.has y.1 (S.free y hy hf)
theorem rg (S:aL X scope) (I:aw X K4 σ H s) {fp:List Dk} (Mp:∀b∈fp,iY X K4 H b/\b<s.heap.objs.size):(b_ X scope s H fp).Ok where
 mod:=I.mod
 kind:=S.kind
 glob:=I.ok.glob
 blt:=I.ok.blt
 above:=DL _
 inj:=λx y c hx hy=>I.ok.inj x y c (dZ (by intro c h;simp at h) hx) (dZ (by intro c h;simp at h) hy)
 has:=λx hx=>by
  have hm:(x,EC)∈scope.names:=by
   rcases hx with hx|hx
   ·rcases dw hx with h|⟨h,_⟩
    ·exact absurd rfl (S.nocell _ (d_ h))
    ·exact d_ h
   ·rcases dw hx with h|⟨h,_⟩<;>exact d_ h
  exact kY hm (S.cellOf I.ok _ hm rfl)
 cab:=λx c h=>by cases h
 hd:=I.ok.hd
 frames:=I.ok.frames
 stk:= .inl rfl
 exf:=λb hb=>⟨E3 (Mp b hb).2,λx c hx=>(Mp b hb).1.2.2.2.2.1 x c (dZ (by intro c h;simp at h) hx)⟩
 bs:=I.bs
 bsz:=DY I.ok.bsz I.sz
 noex:=λb o e hb=>by
  rcases(Mp b hb).1.2.2.2.1 with h|h
  ·exact I.ok.noex b o e h
  ·have h1:b<X.base.objs.size:=DK e
   exact EW _ (DS h1 (DY I.ok.bsz h))
 exfs:=λb hb hc=>by
  have:=I.stkSub b hc
  rcases DN.mp this with h|h
  ·exact(Mp b hb).1.2.1 h
  ·exact(Mp b hb).1.2.2.1 h
 funs:=I.stack
 frf:=I.stkFree
theorem zc (S:aL X scope) (I:aw X K4 σ H s) {fp:List Dk} (Mp:∀b∈fp,iY X K4 H b/\b<s.heap.objs.size) {h':DE} {t':Nat}
  (hn:h'.Ns s.heap.objs.size λ_=>none) (k:∀b o,s.heap.get? b=some o->h'.get? b=some o):
  aw (b_ X scope s H fp) [] (kZ X.N scope.names σ) H {s with heap:=h',toks:=t'}where
 ok:=rg S I Mp
 os:=rfl
 bare:=I.bare
 base:=Un.kept k
 loc:=by
  refine⟨_,hn,λi x v hi hv _=> ?_⟩
  have Mq:(scope.names.map (·.1))[i]? =some x:=hi
  rw[DX]at Mq
  unfold kZ at hv
  rw[DX]at hv
  cases e:scope.names[i]? with
  |none=>rw[e]at Mq;cases Mq
  |some y=>
   rw[e]at Mq hv
   have hx:y.1=x:=by simpa using Mq
   have hy:y∈scope.names:=Ez e
   simp only[G2,Hq]at hv
   by_cases hf:y.2= .free
   ·rw[if_pos hf]at hv
    cases ei:X.N.findIdx? (·==y.1)with
    |none=>rw[ei]at hv;cases hv
    |some j=>
     rw[ei]at hv
     have hj:σ[j]? =some (some v):=by
      cases e2:σ[j]? with
      |none=>simp[e2]at hv
      |some o=>simp only[Option.bind_some,e2,Option.join_some]at hv;rw[hv]
     obtain⟨hl,hp,_⟩:=List.findIdx?_eq_some_iff_getElem.mp ei
     have hN:X.N[j]? =some x:=by
      rw[E2 hl]
      have:=eq_of_beq hp
      rw[this,hx]
     have hk:=S.free y hy hf
     rw[hx]at hk
     obtain⟨m,_,hm⟩:=I.loc
     obtain⟨u,ru,lu⟩:=hm j x v hN hj (by
      rcases hk with q|q
      ·exact .inr (.inl q)
      ·exact .inr (.inr q))
     refine⟨u,ru,?_⟩
     rcases lu with ⟨q,_⟩|⟨_,c,hc,MM⟩
     ·rcases hk with z|z<;>rw[z]at q<;>cases q
     ·have Ng:(x,EC)∈scope.names:=by
       have:y=(x,EC):=by cases y;simp at hx hf;rw[hx,hf]
       rw[<-this];exact hy
      obtain⟨d,hd⟩:=kY (cs:=[]) Ng (S.cellOf I.ok _ Ng rfl)
      have Rt:d=c:=by
       have:=dZ (cs:=[]) (by intro c h;simp at h) hd
       rw[this]at hc
       exact Ec hc
      refine .inr ⟨?_,d,hd,?_⟩
      ·show (Je scope X.env).names.lookup x=some .cell\/(Je scope X.env).names.lookup x=some .free
       have Ru:∃k,(Je scope X.env).names.lookup x=some k:=by
        unfold Je
        cases el:(scope.names.map λ(n,k)=>if (k==EC&&X.env.scope.kind== .function&&X.env.kindOf n==some .cell)then (n,II)else (n,k)).lookup x with
        |some k=>exact⟨k,rfl⟩
        |none=>
         exfalso
         rw[List.lookup_eq_none_iff]at el
         have:=el (if (EC==EC&&X.env.scope.kind== .function&&X.env.kindOf x==some .cell)then (x,II)else (x,EC)) (ET.mpr ⟨_,Ng,rfl⟩)
         split at this<;>simp at this
       obtain⟨k,NW⟩:=Ru
       rcases dw NW with h|⟨_,h⟩
       ·have Rv:=d_ h
        have:k= .free:=by
         have nd:=S.nd
         obtain⟨a,ha,e1⟩:=IC.mp Ng
         obtain⟨b,hb,e2⟩:=IC.mp Rv
         have:a=b:=by
          refine(HB (h₀:=by simpa using ha) (h₁:=by simpa using hb) nd).mp ?_
          rw[Jq,Jq,e1,e2]
         subst this
         rw[e1]at e2
         cases e2;rfl
        subst this
        exact .inr NW
       ·subst h;exact .inl NW
      ·rw[Rt];exact MM.keeps k
   ·rw[if_neg hf]at hv;cases hv
 cell:=λx c hx=>by
  obtain⟨v,hv⟩:=I.cell x c (dZ (cs:=[]) (by intro c h;simp at h) hx)
  exact⟨v,hv.keeps k⟩
 free:=I.hok.fresh (DL _)
 freeC:=λx c hx=>I.freeC x c (dZ (cs:=[]) (by intro c h;simp at h) hx)
 pin:=λp hp=>by cases hp
 hok:=I.hok.kept k
 len:=by simp[b_,kZ]
theorem rh (I:aw X K4 σ H s) {fp:List Dk} (Mp:∀b∈fp,iY X K4 H b/\b<s.heap.objs.size) {τ:St} {H':Hp} {s':Dl} (I':aw (b_ X scope s H fp) [] τ H' s') {h':DE} {t':Nat}
  (hs:∀b o,b≠s.heap.objs.size->s'.heap.get? b=some o->h'.get? b=some o):aw X K4 σ H' {s' with heap:=h',toks:=t'}:=by
 have u:Un (kC X.stack) fp H H' s.heap s'.heap:=I'.base
 have hC:H' s.heap.objs.size=none:=I'.free
 have nC:∀b o,s.heap.get? b=some o->b≠s.heap.objs.size:=λb o e=>E3 (DK e)
 refine I.call' (ch:=fp) I'.os ⟨?_,?_,u.free,?_,u.tups,u.frzs,u.tbls⟩ (λb o e=> ?_) I'.bare λb hb=> ?_
 ·exact λb o e n a c=>hs b o (nC b o e) (u.keep b o e n a c)
 ·intro b o e n a c
  obtain⟨sl,q⟩:=u.slot b o e n a c
  exact⟨sl,hs b _ (nC b o e) q⟩
 ·intro b o e a
  obtain⟨o',q⟩:=u.there b o e a
  exact⟨o',hs b _ (nC b o e) q⟩
 ·refine(I'.hok b o e).stay (λc v hc q=>hs c v ?_ q) (λ_ q=>q) λ_ _ q=>q
  intro z
  subst z
  rcases hc with z|z
  ·rw[z]at hC;rw[hC]at e;cases e
  ·rw[hC]at z;cases z
 ·obtain⟨h1,h2,h3,h4,h5,h6⟩:=(Mp b hb).1
  exact⟨h4,h2,h5,h6⟩
end
def yc (X:Cx) (Lv:List Dr) (t:TT):Prop:=
 ∀(K4:List (Dk×DT)) (s:Dl) (σ:St) (H:Hp) (Q:Bool->Hp->Prop),aw X K4 σ H s->t σ H Q->
  Du (Dz X.prog X.w) X.A (forIn Lv true λc r=>if r=true then do let ok<-Jx c X.env (DC c X.env);pure (GN ok)else pure (GN r)) (TP X K4 σ Q) X.xe s
theorem wM {X:Cx}:yc X [] (λ_ H Q=>Q true H):=λ_ _ _ H _ I h=>wpAny_tests_nil ⟨H,I,h⟩
theorem wN {X:Cx} {c:Dr} {t:TT} (h:PT X c t):yc X [c] t:=λK4 s σ H Q I q=>wpAny_tests_one (h K4 s σ H Q I q)
def k_ (J:It) (g:TG) (tt:TT) (te:TE) (D:Dk) (τ0:St) (Q:Hp->Prop) (H1:Hp):Prop:=
 ∃W:Nat->Nat->List V->St->Hp->Prop,(∃m,W 0 m [] τ0 H1)/\∀i m ys τ H,W i m ys τ H->H D=some (.lst ys)/\
  ((J.stop i H/\Q H)\/(J.go i H/\ys.length<sizeLine/\∀x H',J.yld i H x H'->g x τ H' λτ2 H2=>tt τ2 H2 λb H3=>
   if b=true then te τ2 H3 λy H4=>H4 D=some (.lst ys)/\∃m',m'<m/\W (i+1) m' (ys++[y]) τ2 (bc H4 D (.lst (ys++[y])))else ∃m',m'<m/\W (i+1) m' ys τ2 H3))
def AR (N:List Dj) (names:List (Dj×Ed)) (wi:TI) (g:TG) (tt:TT) (te:TE):TE:=λσ H Q=>
 wi σ H λJ H1=>∀D,H1 D=none->k_ J g tt te D (kZ N names σ) (λH2=>Q (.ref D) H2) (bc H1 D (.lst []))
section
variable {X:Cx} {LF tg Kl:Dr} {Lv:List Dr} {scope:EX} {pos:DZ} {wi:TI} {g:TG} {tt:TT} {te:TE}
theorem wO (S:aL X scope) (hc:X.calm=true) (hg:∀s H ex,PG (b_ X scope s H ex) tg g) (MT:∀s H ex,yc (b_ X scope s H ex) Lv tt) (MQ:∀s H ex,PE (b_ X scope s H ex) LF te)
  {K4:List (Dk×DT)} {σ:St} {H:Hp} {s:Dl} (I:aw X K4 σ H s) {fp:List Dk} {it D:Dk} {tn:Nat->DE->Prop} {J:It} (T:sg X.prog X.w X.K tg J fp it tn)
  (Mp:∀b∈fp,iY X K4 H b/\b<s.heap.objs.size) {Q:Hp->Prop} {R:I_->Dl->Prop}
  (hR:∀τ H' s',aw (b_ X scope s H fp) [] τ H' s'->Q H'->R (.ok .next) s')
  {s1:Dl} {τ0:St} (I1:aw (b_ X scope s H fp) [] τ0 H s1) (ht:tn 0 s1.heap) (q:k_ J g tt te D τ0 Q H):
  Gd (Dz X.prog X.w) X.A (.compLoop (.ListComp LF [⟨tg,Kl,Lv,0⟩] scope pos) 0 (.ref it) (.ref D) (b_ X scope s H fp).env) R s1:=by
 obtain⟨W,⟨m0,w0⟩,NR⟩:=q
 have MH:∀{H':Hp},(∀b∈fp,H' b=none)->∀b∈fp,iY (b_ X scope s H fp) [] H' b:=λ{H'} hn b hb=>
  ⟨hn b hb,E3 (Mp b hb).2,(rg S I Mp).exfs b hb, .inl hb,λx c hx=>(Mp b hb).1.2.2.2.2.1 x c (dZ (cs:=[]) (by intro c h;simp at h) hx),λp hp=>by cases hp⟩
 refine codeAny_loop rfl (λn s'=>∃i ys τ H',aw (b_ X scope s H fp) [] τ H' s'/\tn i s'.heap/\(∀b∈fp,H' b=none)/\W i n ys τ H') (λn s2 hI=> ?_) m0 ⟨0,[],τ0,H,I1,ht,λb hb=>(Mp b hb).1.1,w0⟩
 obtain⟨i,ys,τ,H2,I2,NK,QL,w2⟩:=hI
 show Du _ X.A ((compTurn (.ListComp LF [⟨tg,Kl,Lv,0⟩] scope pos) 0 (.ref it) (.ref D) (b_ X scope s H fp).env).onRaise (λx=>do J8 x (b_ X scope s H fp).env;theTreesLotGoes x)) _ _ s2
 refine wpAny_noted ?_
 rw[compTurn_list]
 have up:∀{α:Type} {t:Gy α} {Q:α->Dl->Prop} {E:Di->Dl->Prop} {s:Dl},Du (Dz X.prog X.w) X.A t Q (λ_ _=>False) s->Du (Dz X.prog X.w) X.A t Q E s:=λh=>F8 h (λ_ _ q=>q) λ_ _ f=>f.elim
 obtain⟨hD,Rw⟩:=NR i n ys τ H2 w2
 rcases Rw with ⟨stop,qn⟩|⟨go,hz,step⟩
 ·refine Dn (IJ (Dn (up (bU (T.done (b_ X scope s H fp) rfl rfl rfl hc i [] s2 τ H2 (λ_ _=>False) I2 (MH QL) NK stop) λr s3 z_=> ?_))))
  obtain⟨hr,I3⟩:=z_
  subst hr
  exact Dv (hR _ _ _ I3 qn)
 ·refine Dn (IJ (Dn (up (bU (T.item (b_ X scope s H fp) rfl rfl rfl hc i [] s2 τ H2 (λ_ _=>False) I2 (MH QL) NK go) λr s3 z_=> ?_))))
  obtain⟨u,hr,h3⟩:=z_
  subst hr
  refine Dn (up (bU h3 λ_ s4 z_=> ?_))
  obtain⟨x,H4,I4,r4,y4,Q1,Rx⟩:=z_
  have Ry:=I4.pinned (MH Rx) (T.obj _ _ Q1)
  have back:∀{τ7:St} {H7:Hp} {s7:Dl},aw (b_ X scope s H fp) ([]++kR fp s4.heap) τ7 H7 s7->aw (b_ X scope s H fp) [] τ7 H7 s7/\tn (i+1) s7.heap/\∀b∈fp,H7 b=none:=λI7=>
   ⟨I7.unpinned,T.keep _ _ _ Q1 λb hb o e=>(I7.pin (b,o) (DR _ (DR _ (f_ hb e)))).1,λb hb=>by
    obtain⟨o,e,d⟩:=T.obj _ _ Q1 b hb
    exact(I7.pin (b,o) (DR _ (DR _ (f_ hb e)))).2.1⟩
  refine Dn (up (bU (hg s H fp _ s4 τ H4 x u _ Ry r4 (step x H4 y4)) λ_ s5 z_=> ?_))
  obtain⟨τ5,H5,I5,q5⟩:=z_
  refine Dn (up (bU (MT s H fp _ s5 τ5 H5 _ I5 q5) λok s6 z_=> ?_))
  obtain⟨H6,I6,q6⟩:=z_
  cases ok with
  |false=>
   obtain⟨m',hm,w'⟩:=q6
   obtain⟨a,b,c⟩:=back I6
   exact Dv ⟨rfl,m',hm,i+1,ys,τ5,H6,a,b,c,w'⟩
  |true=>
   rw[if_pos rfl]at q6
   refine Dn (Dn (up (bU (MQ s H fp _ s6 τ5 H6 _ I6 q6) λv s7 z_=> ?_)))
   obtain⟨y,H7,I7,r7,Rz,m',hm,w'⟩:=z_
   refine Dn (up (bU (ib (X:=b_ X scope s H fp) _ s7 τ5 H7 (.ref D) [y] (.ref D) [v] (λ_ H8=>H8=bc H7 D (.lst (ys++[y]))) I7 rfl (.cons r7 .nil) ⟨D,ys,y,rfl,rfl,Rz,hz,rfl⟩) λ_ s8 z_=> ?_))
   obtain⟨_,H8,I8,_,e8⟩:=z_
   subst e8
   obtain⟨a,b,c⟩:=back I8
   exact Dv (Dv ⟨rfl,m',hm,i+1,ys++[y],τ5,_,a,b,c,w'⟩)
theorem oV (S:aL X scope) (hc:X.calm=true) (hg:∀s H ex,PG (b_ X scope s H ex) tg g) (MT:∀s H ex,yc (b_ X scope s H ex) Lv tt) (MQ:∀s H ex,PE (b_ X scope s H ex) LF te)
  {K4:List (Dk×DT)} {σ:St} {H:Hp} {s:Dl} {E:Di->Dl->Prop} (I:aw X K4 σ H s) {fp:List Dk} {it:Dk} {tn:Nat->DE->Prop} {J:It} (T:sg X.prog X.w X.K tg J fp it tn)
  (Mp:∀b∈fp,iY X K4 H b) (ht:tn 0 s.heap) {Q:Dk->Hp->Prop} {RR:Di->Dk->I_->Dl->Prop}
  (hR:∀(D:Dk) (H3:Hp) (s3:Dl) (τ:St) (H':Hp) (s':Dl),aw X K4 σ H3 s3->(∀b∈fp,iY X K4 H3 b/\b<s3.heap.objs.size)->aw (b_ X scope s3 H3 fp) [] τ H' s'->Q D H'->RR (.ref D) s3.heap.objs.size (.ok .next) s')
  (q:∀D,H D=none->k_ J g tt te D (kZ X.N scope.names σ) (Q D) (bc H D (.lst []))):
  Du (Dz X.prog X.w) X.A (newList []) (λLl s₃=>Du (Dz X.prog X.w) X.A (newFunctionEnv scope X.env.globals (jz X.env scope.names []) [] X.env.qual none .none (some X.env)) (λOJ s₄=>
   Gd (Dz X.prog X.w) X.A (.compStart (.ListComp LF [⟨tg,Kl,Lv,0⟩] scope pos) 0 (.ref it) Ll {OJ with scope:=Je scope X.env}) (RR Ll OJ.locals) s₄) E s₃) E s:=by
 have MU:∀b∈fp,b<s.heap.objs.size:=λb hb=>by
  obtain⟨o,e,_⟩:=T.obj _ _ ht b hb
  exact DK e
 refine wpAny_newList ?_
 have I3:=I.lnew (ys:=[]) (its:=[]) (t':=s.toks) .nil (FD _)
 have hD:H s.heap.objs.size=none:=I.hok.fresh (DL _)
 have Q2:(s.heap.push {cls:= .type "list",data:= .seq ([]:List Di).toArray}).objs.size=s.heap.objs.size+1:=FI ..
 have NX:∀b∈fp,iY X K4 (bc H s.heap.objs.size (.lst [])) b/\b<({s with heap:=s.heap.push {cls:= .type "list",data:= .seq ([]:List Di).toArray},toks:=s.toks}:Dl).heap.objs.size:=λb hb=>by
  refine⟨⟨?_,(Mp b hb).2⟩,?_⟩
  ·rw[al (E3 (MU b hb))];exact(Mp b hb).1
  ·show b<(s.heap.push _).objs.size
   rw[Q2]
   exact Hr (MU b hb)
 refine wpAny_newFunctionEnv S.nocell (by intro y hy;simp at hy) (λh₁ OK OL=> ?_) S.kind
 dsimp only at OK OL ⊢
 have k1:∀b o,(s.heap.push {cls:= .type "list",data:= .seq ([]:List Di).toArray}).get? b=some o->h₁.get? b=some o:=λb o e=>OL.extBut b o (E3 (DK e)) (Dw _ e)
 have I4:=zc (t':=s.toks) S I3 NX (h':=h₁) OK k1
 have QM:tn 0 h₁:=T.keep _ _ _ ht λb hb o e=>k1 b o (Dw _ e)
 have Nv:Gd (Dz X.prog X.w) X.A (.compLoop (.ListComp LF [⟨tg,Kl,Lv,0⟩] scope pos) 0 (.ref it) (.ref s.heap.objs.size) (b_ X scope {s with heap:=s.heap.push {cls:= .type "list",data:= .seq ([]:List Di).toArray},toks:=s.toks} (bc H s.heap.objs.size (.lst [])) fp).env)
   (RR (.ref s.heap.objs.size) (s.heap.push {cls:= .type "list",data:= .seq ([]:List Di).toArray}).objs.size) {s with heap:=h₁,toks:=s.toks}:=
  wO S hc hg MT MQ I3 T NX (λτ H' s' I' q'=>hR _ _ _ τ H' s' I3 NX I' q') I4 QM (q _ hD)
 exact codeAny_compStart_list Nv (T.self _ 0 _ _ _ QM Nv)
theorem rj (S:aL X scope) (hc:X.calm=true) (hi:PI X tg Kl wi) (hg:∀s H ex,PG (b_ X scope s H ex) tg g) (MT:∀s H ex,yc (b_ X scope s H ex) Lv tt) (MQ:∀s H ex,PE (b_ X scope s H ex) LF te)
  (hs:∀x,EV Kl X.env x=pure x:=by intro _;rfl):PE X (.ListComp LF [⟨tg,Kl,Lv,0⟩] scope pos) (AR X.N scope.names wi g tt te):=by
 intro K4 s σ H Q I h
 rw[eval_ListComp]
 refine HJ (use:=none) rfl hs (rf (S.cellOf I.ok)) S.kind S.loc (bU (hi K4 s σ H _ I h) λv s1 h1=>bU h1 λP8 s2 h2=> ?_)
 obtain⟨it,fp,tn,J,H2,e,I2,T,NK,f2,q⟩:=h2
 subst e
 refine oV (Q:=λD H2=>Q (.ref D) H2) (RR:=λLl C=>compPost (Dz X.prog X.w) X.A X.xe none (EP X K4 σ Q) Ll C) S hc hg MT MQ I2 T f2 NK ?_ q
 intro D H3 s3 τ H' s' I3 f3 I' q'
 obtain⟨m,hm,_⟩:=I'.loc
 refine⟨m,hm,λh' KC=> ?_⟩
 exact⟨.ref D,H',rh (t':=s'.toks) I3 f3 I' λb o hb e=>KC.extBut b o hb e,rfl,q'⟩
def AS (N:List Dj) (names:List (Dj×Ed)) (wi:TI) (g:TG) (tt:TT) (te:TE) (gy:TG):TS:=λD σ H=>
 wi σ H λJ H1=>∀p,H1 p=none->k_ J g tt te p (kZ N names σ) (λH2=>gy (.ref p) σ H2 D.nx) (bc H1 p (.lst []))
theorem wQ {y:Dj} {py LR:DZ} {gy:TG} (S:aL X scope) (hc:X.calm=true) (hi:PI X tg Kl wi) (hg:∀s H ex,PG (b_ X scope s H ex) tg g) (MT:∀s H ex,yc (b_ X scope s H ex) Lv tt)
  (MQ:∀s H ex,PE (b_ X scope s H ex) LF te) (hy:PG X (.Name y py) gy) (Mr:Eg (.ListComp LF [⟨tg,Kl,Lv,0⟩] scope pos) (some (.Name y py)) LR.line X.env=pure true:=by rfl)
  (hs:∀x,EV Kl X.env x=pure x:=by intro _;rfl):PS X (.Assign [.Name y py] (.ListComp LF [⟨tg,Kl,Lv,0⟩] scope pos) LR) (AS X.N scope.names wi g tt te gy):=by
 intro K4 s σ H D I h
 rw[exec_Assign_Name_used _ _ _ _ Mr]
 refine Dn (IJ (Dn ?_))
 show Du _ X.A (do let _<-comprehension (.ListComp LF [⟨tg,Kl,Lv,0⟩] scope pos) scope X.env _ (newList []) false (DC Kl X.env) (some (assign (.Name y py) X.env))) _ _ s
 refine Dn (F8 (HJ (use:=some (assign (.Name y py) X.env)) (Q:=λ_ s'=>SP X K4 D .next s') rfl hs (rf (S.cellOf I.ok)) S.kind S.loc
  (bU (hi K4 s σ H _ I h) λv s1 h1=>bU h1 λP8 s2 h2=> ?_)) (λ_ s' hq=>Dv (Dv hq)) λ_ _ e=>e)
 obtain⟨it,fp,tn,J,H2,e,I2,T,NK,f2,q⟩:=h2
 subst e
 refine oV (Q:=λp H2=>gy (.ref p) σ H2 D.nx) (RR:=λLl C=>compPost (Dz X.prog X.w) X.A X.xe (some (assign (.Name y py) X.env)) (λ_ s'=>SP X K4 D .next s') Ll C) S hc hg MT MQ I2 T f2 NK ?_ q
 intro p H3 s3 τ H' s' I3 f3 I' q'
 obtain⟨m,hm,_⟩:=I'.loc
 obtain⟨oC,es,ep,RA,QN,RB,RC⟩:=hm
 have J1:aw X K4 σ H' s':=rh (t':=s'.toks) (h':=s'.heap) I3 f3 I' λb o _ e=>e
 have RD:H' s3.heap.objs.size=none:=I'.free
 have QO:s3.heap.objs.size≠X.env.locals:=λz=>by have:=I3.lt;rw[<-z]at this;exact EW _ this
 have J2:aw X (K4++[(s3.heap.objs.size,oC)]) σ H' s':=J1.pins_of λq hq=>by
  rcases Es.mp hq with hq|hq
  ·exact J1.pin q (DR _ hq)
  ·have e:q=(s3.heap.objs.size,oC):=by simpa using hq
   subst e
   exact⟨RA,RD,QO,I3.nofs (DL _),λv z=>by rw[QN]at z;cases z⟩
 refine bU (hy _ s' σ H' (.ref p) (.ref p) D.nx J2 rfl q') λ_ OA z_=> ?_
 obtain⟨σ5,H5,I5,q5⟩:=z_
 have hp:=I5.pin (s3.heap.objs.size,oC) (DR _ (DR _ DI))
 refine⟨m,⟨oC,es,ep,hp.1,QN,RB,RC⟩,λh' KC=> ?_⟩
 refine⟨σ5,H5,(I5.unpinned).turned (it:=s3.heap.objs.size) (t':=OA.toks) (λb o hb e=>KC.extBut b o hb e) hp.2.1 QO (.inr I3.sz) (λx c hx z=> ?_) (λq hq z=> ?_),q5⟩
 ·obtain⟨v,o,ho,_⟩:=I3.cell x c hx
  have:=DK ho
  rw[z]at this
  exact EW _ this
 ·have:=(I3.pin q hq).1
  have:=DK this
  rw[z]at this
  exact EW _ this
end
end L2
namespace L2
open PySem PySem.Spec PyProof.Rows
section
variable {X:Cx} {e a b st:Dr} {te ta tb:TE} {Pc:TO} {pos p2 p:DZ}
def Ca (K:Dh) (te:TE) (Pc:TO):TE:=λσ H Q=>te σ H λx H1=>Pc σ H1 λo H2=>o=some (-1)/\∃a xs,x= .ref a/\cp K H2 a xs/\∀p,H2 p=none->Q (.ref p) (bc H2 p (.lst xs.reverse))
theorem ze (he:PE X e te) (N8:PO X (some st) Pc):PE X (.Subscript e (.Slice none none (some st) p2) pos) (Ca X.K te Pc):=by
 intro K4 s σ H Q I h
 refine IA (bU (he K4 s σ H _ I h) λv s1 z_=> ?_)
 obtain⟨x,H1,I1,r1,q1⟩:=z_
 refine wpAny_Slice ?_
 rw[Hj]
 refine Dv ?_
 try rw[Hj]
 refine Dv ?_
 refine bU (N8 K4 s1 σ H1 _ I1 q1) λvk s2 z_=> ?_
 obtain⟨o,H2,I2,pk,ho,a,xs,ex,hx,q⟩:=z_
 subst ho
 subst ex
 cases r1
 have I3:aw X K4 σ H2 {s2 with heap:=s2.heap.push {cls:= .type "slice",data:= .fields #[.none, .none,vk]}}:=I2.kept (t':=s2.toks) λb ob q=>Dw _ q
 obtain⟨its,r,ht,hz⟩:=I3.list hx
 have Ki:=r.length
 show Du (Dz X.prog X.w) X.A (Hk e (.Slice none none (some st) p2) (.ref a) (.ref s2.heap.objs.size)) (EP X K4 σ Q) X.xe {s2 with heap:=s2.heap.push {cls:= .type "slice",data:= .fields #[.none, .none,vk]}}
 refine tail_any (ops:=[.ref a, .ref s2.heap.objs.size]) ht.isList.typeIs Ho.lookup ?_ (by with_unfolding_all rfl)
 refine HH ht.isList (J7 ..) .none .none pk (by decide) ?_ (by rw[Ds]<;>omega)
 rw[PySem.W.krv_pick]
 refine⟨.ref _,_,I3.laid (t':=s2.toks) (o:= .lst xs.reverse) (λb ob q=>Dw _ q) (DL _) ?_,rfl,q _ (I3.hok.fresh (DL _))⟩
 exact⟨by rw[List.length_reverse];exact hz,its.reverse,0,r.reverse,D_ _ rfl⟩
def Cb (K:Dh):List V->Hp->VK->Prop:=λxs H Q=>∃x T t k,xs=[x, .ty T]/\iZ K H x t/\Eh K t (.type T)=some k/\Q (.bl k) H
theorem ur:fJ X (.builtin "isinstance") (Cb X.K):=by
 intro K4 s σ H xs us Q I rv h
 obtain⟨x,T,t,k,rfl,ty,e,q⟩:=h
 obtain⟨u,w',rfl,ru,ME⟩:=xW rv
 cases ME
 exact su I ru ty e λtk=>⟨.bl k,H,I.tok tk,rfl,q⟩
theorem l3:E4 "isinstance"=some (.builtin "isinstance"):=by decide+kernel
def wR (x:Int):List Int->List Int
 |[]=>[x]
 |y::r=>if x<=y then x::y::r else y::wR x r
def ut:List Int->List Int
 |[]=>[]
 |x::r=>wR x (ut r)
theorem mO (x:Int):∀l:List Int,(wR x l).Perm (x::l)
 |[]=>Ir _
 |y::r=>by
  unfold wR
  split
  ·exact Ir _
  ·exact(JL y (mO x r)).trans (List.Perm.swap x y r)
theorem l4:∀l:List Int,(ut l).Perm l
 |[]=>Ir _
 |x::r=>(mO x _).trans (JL x (l4 r))
end
end L2
namespace L2
open PySem PySem.Spec PyProof.Rows
section
variable {P:Dy} {w:DG} {H:Hp} {h h':DE} {a:Dk} {o:HO}
end
section
variable {X:Cx} {K4:List (Dk×DT)} {σ:List (Option V)} {H:Hp} {s:Dl} {h':DE}
end
section
variable {X:Cx}
end
end L2
namespace L2
open PySem PySem.Spec PyProof.Rows
section
variable {prog:Dy} {w:DG} {A:DO} {E:Di->Dl->Prop} {s:Dl} {I:Dk} {fp wr:List Dk} {G:Array HA->Array HA->Prop} {n:Nat} {P:Nat->Di->Prop} {St:Nat->Dl->Prop}
end
section
variable {X:Cx} {e:Dr} {te:TE} {pos p1 p2 Lw:DZ}
end
end L2
namespace L2
open PySem PySem.Spec PyProof.Rows
section
variable {prog:Dy} {w:DG} {A:DO} {E:Di->Dl->Prop} {s:Dl} {a:Dk}
end
section
variable {prog:Dy} {w:DG} {A:DO} {R:I_->Dl->Prop} {I:Dk} {fp wr:List Dk} {G:Array HA->Array HA->Prop} {n:Nat} {P:Nat->Di->Prop} {St:Nat->Dl->Prop}
end
section
variable {prog:Dy} {w:DG} {A:DO} {E:Di->Dl->Prop} {s:Dl} {p:Dk}
end
section
variable {X:Cx}
end
end L2
namespace L2
open PySem PySem.Spec PyProof.Rows PySem.W
def AT {α:Type} (V:Nat->Nat->Prop) (lt:Nat->Nat->Bool):KasT α->(α->Prop)->Prop
 | .ret a,Q=>Q a
 | .ask i j k,Q=>V i j/\AT V lt (k (lt i j)) Q
theorem AT.imp {α:Type} {V:Nat->Nat->Prop} {lt:Nat->Nat->Bool} {Q Q':α->Prop} (w:∀a,Q a->Q' a):∀{t:KasT α},AT V lt t Q->AT V lt t Q'
 | .ret a,h=>w a h
 | .ask i j k,h=>⟨h.1,AT.imp w h.2⟩
section
variable {n:Nat} {LS:Nat->Int}
structure Bw (n:Nat) (p:Array Nat):Prop where
 sz:p.size=n
 perm:p.toList.Perm (Ef n)
theorem Bw.lt {p:Array Nat} (h:Bw n p) {i:Nat} (hi:i<n):p.getD i 0<n:=by
 have Mq:i<p.size:=by rw[h.sz];exact hi
 have:p.getD i 0=p[i]:=by simp[JC,Mq]
 rw[this]
 exact Fj.mp (h.perm.mem_iff.mp (by simp))
theorem Bw.inj {p:Array Nat} (h:Bw n p) {i j:Nat} (hi:i<n) (hj:j<n) (e:p.getD i 0=p.getD j 0):i=j:=by
 have Mq:i<p.size:=by rw[h.sz];exact hi
 have MV:j<p.size:=by rw[h.sz];exact hj
 have e1:p.getD i 0=p[i]:=by simp[JC,Mq]
 have e2:p.getD j 0=p[j]:=by simp[JC,MV]
 rw[e1,e2]at e
 have nd:p.toList.Nodup:=(h.perm.nodup_iff).mpr HK
 have hp:=List.pairwise_iff_getElem.mp nd
 have el:p.toList[i]'(by simpa using Mq)=p.toList[j]'(by simpa using MV):=by simpa using e
 rcases Nat.lt_trichotomy i j with z|z|z
 ·exact absurd el (hp i j _ _ z)
 ·exact z
 ·exact absurd el.symm (hp j i _ _ z)
end
end L2
namespace L2
open PySem PySem.Spec PyProof.Rows PySem.W
section
variable {prog:Dy} {w:DG} {A:DO} {E:Di->Dl->Prop} {s:Dl}
end
section
variable {X:Cx}
inductive l5 (H:Hp):List V->List Int->Prop
 |nil:l5 H [] []
 |cons {a:Dk} {k:Int} {rest ys:List V} {ks:List Int}:H a=some (.tup (.int k::rest))->l5 H ys ks->l5 H (.ref a::ys) (k::ks)
theorem l5.length {H:Hp}:∀{ys:List V} {ks:List Int},l5 H ys ks->ys.length=ks.length
 |_,_, .nil=>rfl
 |_,_, .cons _ t=>by rw[DA,DA,t.length]
end
end L2
namespace L2
open PySem PySem.Spec PyProof.Rows
section
variable {prog:Dy} {w:DG} {A:DO} {E:Di->Dl->Prop} {s:Dl}
end
section
variable {X:Cx} {pos:DZ}
def Cd (K:Dh):V->Option Int->Option Int->Hp->VK->Prop:=λx lo hi H Q=>∃a xs,x= .ref a/\fc K H a xs/\(HT.cT xs.length 0 lo=0/\HT.cT xs.length xs.length hi=xs.length)/\Q (.ref a) H
theorem il {prog:Dy} {w:DG} {A:DO} {E:Di->Dl->Prop} {s:Dl} {t sl:Dk} {K8:Array Di} {vl vu:Di} {lo hi:Option Int} {Q:Di->Dl->Prop} (ht:Iv s.heap t K8) (hs:s.heap.IsSliceOf sl vl vu .none) (pl:GL vl lo) (pu:GL vu hi)
  (hw:HT.cT K8.size 0 lo=0/\HT.cT K8.size K8.size hi=K8.size) (h:Q (.ref t) s):Du (Dz prog w) A (Ge (.ref t) (.ref sl)) Q E s:=by
 obtain⟨os,NT,Pa,OF⟩:=id hs
 have PH:s.TypeIs (.ref sl) "slice":=⟨os,NT,Pa⟩
 unfold Ge
 try with_reducible refine Gu ?_
 first|refine Dn (Dv ?_)|skip
 refine Dn (Jj ht.typeIs (by decide) ?_)
 refine Dn (HS (name:=G7 "__getitem__") ht.typeIs Eb
  (wpAny_call_entry Eb ht.typeIs IK ?_ (J6 _ _)))
 show Du _ _ (Hh (.ref t)>>=_) _ _ s
 refine Dn (Hi ht ?_)
 refine Dn (HG PH ?_)
 rw[if_pos (by decide)]
 refine Dn (HT.fK hs pl pu ?_)
 show Du _ _ (if (((HT.cT K8.size 0 lo:Nat):Int)==0&&(1:Int)==1&&(HT.cT K8.size K8.size hi - HT.cT K8.size 0 lo)==K8.size)=true then _ else _) _ _ s
 rw[if_pos (by rw[hw.1,hw.2];simp)]
 unfold Hl
 refine Dn (Dn (HG ht.typeIs (Dv ?_)))
 rw[if_pos (by decide)]
 refine Dn (JD ?_)
 exact G3 ⟨_,rfl,Dv h⟩
theorem wU:y0 X (Cd X.K):=by
 intro K4 s σ H x v vl vu lo hi sl Q I rx hs pl pu h
 obtain⟨a,xs,rfl,hx,hw,q⟩:=h
 cases rx
 obtain⟨its,r,ht,hz⟩:=I.tuple hx
 have Ki:its.toArray.size=xs.length:=by rw[Ds];exact r.length.symm
 refine⟨"tuple",_,Eb.lookup,ht.typeIs,?_⟩
 exact il ht hs pl pu (by rw[Ki];exact hw) ⟨.ref a,H,I,rfl,q⟩
theorem oW (l b:Dk) (K8 Nh:Array Di) (n n2:Nat) (dd Oj:Option Dk) (sl Ol:Array (Option Di)) (h0:K8.isEmpty=true):
  Meets (JM.«tuple.__add__» {pos:=[DP l,DP b]}) λx R s=>
    s.heap.get? l=some {cls:=GD "tuple",dict:=dd,data:=JY K8 n,slots:=sl}/\
     s.heap.get? b=some {cls:=GD "tuple",dict:=Oj,data:=JY Nh n2,slots:=Ol}/\R (Except.ok (Flow.ret (DP b))) s:=by
 intro prog w A R s ⟨g1,g2,q⟩
 have t1:Iv s.heap l K8:=⟨_,g1,rfl,n,rfl⟩
 have t2:Iv s.heap b Nh:=⟨_,g2,rfl,n2,rfl⟩
 unfold JM.«tuple.__add__»
 refine Dn (Dv (a:=(DP l,[DP b])) ?_)
 dsimp only
 refine Dn (wpAny_isInstance t2.typeIs sub_tuple_tuple ?_)
 rw[if_neg (by decide)]
 refine Dn (Hi t1 (Dn (Hi t2 ?_)))
 rw[if_pos h0]
 unfold Hl
 refine Dn (Dn (HG t2.typeIs (Dv ?_)))
 rw[if_pos (by decide)]
 exact Dn (JD (G3 q))
def yd (K:Dh):R2:=λx y H Q=>∃a b ys,x= .ref a/\y= .ref b/\fc K H a []/\fc K H b ys/\Q (.ref b) H
theorem wV:gQ X (F7 .Add) (yd X.K):=by
 intro K4 s σ H x y v u Q I rx ry h
 obtain⟨a,b,ys,rfl,rfl,ha,hb,q⟩:=h
 cases rx
 cases ry
 obtain⟨its,r1,p1,_⟩:=I.tuple ha
 obtain⟨Lz,r2,p2,_⟩:=I.tuple hb
 cases r1
 obtain⟨⟨cls,dd,data,sl⟩,ho,hc,n,hd⟩:=id p1
 obtain⟨⟨PF,Oj,data2,Ol⟩,NS,OD,n2,OE⟩:=id p2
 simp only at hc hd OD OE
 subst hc hd OD OE
 exact J5 ⟨_,ho,rfl⟩ ⟨_,NS,rfl⟩ HE IH Gq Gg (G6 _ _)
   (oW a b _ _ n n2 dd Oj sl Ol rfl) ⟨ho,NS,⟨.ref b,H,I,rfl,q⟩⟩
end
end L2
namespace L2
open PySem PySem.Spec PyProof.Rows
section
variable {X:Cx}
theorem j4:∀{bs:List Bool} {its:List Di},aI (bs.map V.bl) its->∀{i:Nat} {v:Di},its[i]? =some v->∃b,bs[i]? =some b/\v= .bool b:=by
 intro bs its r i v e
 have hl:=r.length
 rw[Dp]at hl
 have hi:i<bs.length:=by rw[hl];exact(Dx.mp e).1
 obtain⟨u,h1,h2⟩:=r.get (i:=i) (x:=V.bl bs[i]) (by simp[hi])
 rw[e]at h1
 cases h1
 exact⟨bs[i],by simp[hi],h2⟩
theorem nK:∀{ns:List Int} {its:List Di},aI (ns.map V.int) its->∀{i:Nat} {v:Di},its[i]? =some v->∃t,v= .int (ns.getD i 0) t:=by
 intro ns its r i v e
 have hl:=r.length
 rw[Dp]at hl
 have hi:i<ns.length:=by rw[hl];exact(Dx.mp e).1
 obtain⟨u,h1,h2⟩:=r.get (i:=i) (x:=V.int ns[i]) (by simp[hi])
 rw[e]at h1
 cases h1
 obtain⟨t,ht⟩:=h2
 exact⟨t,by rw[ht];simp[hi]⟩
theorem qi (bs:List Bool):((Ef bs.length).any λi=>bs.getD i false)=bs.any id:=by
 rw[Fx,EL,EL]
 constructor
 ·rintro⟨i,h1,h2⟩
  have hi:=Fj.mp h1
  exact⟨bs[i],HL hi,by simpa[hi]using h2⟩
 ·rintro⟨b,h1,h2⟩
  obtain⟨i,hi,e⟩:=EZ h1
  exact⟨i,Fj.mpr hi,by simp[hi,e];exact h2⟩
theorem sB {s:Dl} {it:DT} {h':DE} (hk:∀b o,b∉[s.heap.objs.size]->(s.heap.push it).get? b=some o->h'.get? b=some o):∀b o,s.heap.get? b=some o->h'.get? b=some o:=λb o e=>
 hk b o (λz=>by rw[DJ.mp z]at e;exact absurd (DK e) (EW _)) (Dw _ e)
theorem ic (hc:X.calm=true):fJ X (.builtin "any") (λxs H Q=>∃(p:Dk) (bs:List Bool),xs=[.ref p]/\cp X.K H p (bs.map V.bl)/\Q (.bl (bs.any id)) H):=by
 intro K4 s σ H xs us Q I rv h
 obtain⟨p,bs,rfl,hx,q⟩:=h
 obtain⟨u,rfl,ru⟩:=my rv
 cases ru
 obtain⟨its,r,ht,hz⟩:=I.list hx
 have hl:=ht.isList
 have MU:p<s.heap.objs.size:=by obtain⟨_,e,_⟩:=hl;exact DK e
 refine call_any_walk (Jf hl ?_)
 refine⟨s.heap.objs.size,[s.heap.objs.size,p],[s.heap.objs.size],its.toArray.size,_,_,λi=>bs.getD i false,rfl,Walks.list (A:=X.A.in1) (I.ok.hd hc) _ p (E3 MU) its.toArray,⟨⟨_,D_ _ rfl,rfl,rfl⟩,hl.push _⟩,λi v s' Q' E' hP hQ=> ?_,λh' tk hk=> ?_⟩
 ·obtain⟨b,e,rfl⟩:=j4 r (i:=i) (v:=v) (by simpa using hP)
  have:bs.getD i false=b:=by simp[Hm,e]
  dsimp only at hQ
  rw[this]at hQ
  exact EU hQ
 ·have e:((Ef its.toArray.size).any λi=>bs.getD i false)=bs.any id:=by
   have hl:=r.length
   rw[Dp]at hl
   rw[Ds,<-hl];exact qi bs
  rw[e]
  exact⟨.bl _,H,I.kept (sB hk),rfl,q⟩
def uu (k:Bool):Di->Bool
 | .bool b=>b==k
 |_=>false
theorem rk {k:Bool}:∀{bs:List Bool} {its:List Di},aI (bs.map V.bl) its->its.countP (uu k)=bs.count k
 |[],its,r=>by cases r;rfl
 |b::bs,its,r=>by
  cases r with
  |cons h t=>cases h;rw[Jr,JE,rk t];rfl
def wW (K:Dh):V->List V->Hp->VK->Prop:=λx vs H Q=>∃(l:Dk) (k:Bool) (bs:List Bool),x= .ref l/\vs=[.bl k]/\cp K H l (bs.map V.bl)/\Q (.int (bs.count k)) H
theorem sC:yW X "list.count" (wW X.K):=by
 intro K4 s σ H x vs v us Q I rx rv h
 obtain⟨l,k,bs,rfl,rfl,hx,q⟩:=h
 cases rx
 obtain⟨u,rfl,ru⟩:=rv.one
 cases ru
 obtain⟨its,r,ht,hz⟩:=I.list hx
 obtain⟨⟨cls,dd,data,sl⟩,ho,hc,n,hd⟩:=ht.isList
 simp only at hc hd
 subst hc hd
 refine FA Fw ⟨_,ho,rfl⟩ HM (Ht _ _) (HN l its.toArray n dd sl (.bool k) (uu k)) ⟨ho,λy hy=> ?_,?_⟩
 ·obtain⟨i,hi,e⟩:=EZ (show y∈its by simpa using hy)
  obtain⟨b,_,rfl⟩:=j4 r (i:=i) (v:=y) (by rw[E2 hi,e])
  exact G8 b k
 ·rw[show its.toArray.toList=its from rfl,rk r]
  exact⟨.int _,H,I.tok _,⟨_,rfl⟩,q⟩
theorem AU {k:Bool} {bs:List Bool} {its:List Di} (r:aI (bs.map V.bl) its) {i:Nat} (hi:i<its.length):∃h:i<bs.length,its[i]= .bool bs[i]:=by
 obtain⟨b,h1,h2⟩:=j4 r (i:=i) (v:=its[i]) (E2 hi)
 obtain⟨l,e⟩:=Dx.mp h1
 exact⟨l,by rw[h2,e]⟩
theorem uv {k:Bool}:∀{bs:List Bool} {m:Nat} (hm:m<bs.length),m<bs.idxOf k->(bs[m]==k)=false
 |b::bs,0,hm,h=>by
  rw[JF]at h
  cases e:b==k with
  |true=>rw[e]at h;simp at h
  |false=>exact e
 |b::bs,m+1,hm,h=>by
  rw[JF]at h
  cases e:b==k with
  |true=>rw[e]at h;simp at h
  |false=>
   rw[e]at h
   exact uv (bs:=bs) (m:=m) (by simpa using hm) (by simp at h;omega)
def wX (K:Dh):V->List V->Hp->VK->Prop:=λx vs H Q=>∃(l:Dk) (k:Bool) (bs:List Bool),x= .ref l/\vs=[.bl k]/\cp K H l (bs.map V.bl)/\k∈bs/\bs.length<1000/\Q (.int (bs.idxOf k)) H
theorem sD:yW X "list.index" (wX X.K):=by
 intro K4 s σ H x vs v us Q I rx rv h
 obtain⟨l,k,bs,rfl,rfl,hx,hk,hl,q⟩:=h
 cases rx
 obtain⟨u,rfl,ru⟩:=rv.one
 cases ru
 obtain⟨its,r,ht,hz⟩:=I.list hx
 have Ki:=r.length
 rw[Dp]at Ki
 obtain⟨⟨cls,dd,data,sl⟩,ho,hc,n,hd⟩:=ht.isList
 simp only at hc hd
 subst hc hd
 have hj:=List.idxOf_lt_length_of_mem hk
 refine FA HU ⟨_,ho,rfl⟩ PySem.F.entry_list_index (PySem.F.args_list_index_2 _ _) (PySem.SeqAt.list_indexAt l its.toArray n dd sl (.bool k) (uu k) (bs.idxOf k) (by rw[Ds,<-Ki];exact hj) (by omega) ?_ ?_) ⟨ho,λy hy=> ?_,?_⟩
 ·obtain⟨h1,e⟩:=AU (k:=k) r (i:=bs.idxOf k) (by rw[<-Ki];exact hj)
  show uu k (its[bs.idxOf k]'_)=true
  rw[e]
  show (bs[bs.idxOf k]==k)=true
  simp
 ·intro m hm MU
  obtain⟨h1,e⟩:=AU (k:=k) r (i:=m) (by simpa using hm)
  show uu k (its[m]'_)=false
  rw[e]
  exact uv h1 MU
 ·obtain⟨i,hi,e⟩:=EZ (show y∈its by simpa using hy)
  obtain⟨b,_,rfl⟩:=j4 r (i:=i) (v:=y) (by rw[E2 hi,e])
  exact G8 b k
 ·exact⟨.int _,H,I.tok _,⟨_,rfl⟩,q⟩
end
end L2
namespace L2
open PySem PySem.Spec PyProof.Rows
theorem m6:isSubtype (.type "tuple") (.type "set")=pure false:=by rw[isSubtype_type];kernel_rfl
theorem l8:isSubtype (.type "tuple") (.type "frozenset")=pure false:=by rw[isSubtype_type];kernel_rfl
abbrev setNew (MR:Bool):DT:={cls:= .type "set",dict:=none,data:= .set #[] 0 (.fresh 0 0 MR)}
abbrev uw (prog:Dy) (w:DG) (h':DE) (a:Dk) (ns:List Int) (n:Nat):Prop:=h'.SetOf (intKind prog w) a (λk=>(Js (λi=>ns.getD i 0) n).any (·==k)) (Js (λi=>ns.getD i 0) n).length
set_option maxHeartbeats 8000000 in
theorem sE {prog:Dy} {w:DG} {A:DO} {E:Di->Dl->Prop} {s:Dl} {u:Dk} {xs:Array Di} {ns:List Int} {Q:Di->Dl->Prop} (hh:A.handled=none) (ht:s.heap.IsTuple u xs) (hi:∀(i:Nat) (v:Di),xs[i]? =some v->∃t,v= .int (ns.getD i 0) t) (hb:xs.size+1<J9)
  (LQ:∀(h':DE) (tk:Nat),uw prog w h' s.heap.objs.size ns xs.size->(∀b o,b<s.heap.objs.size->s.heap.get? b=some o->h'.get? b=some o)->Q (.ref s.heap.objs.size) {s with heap:=h',toks:=tk}):Du (Dz prog w) A (call (.type "set") [.ref u]) Q E s:=by
 obtain⟨c,tl,RE⟩:=F.called_set.mro
 have m1:=F.called_set.made
 have m2:=F.called_set.sub
 have m3:=F.called_set.notType
 have m4:=F.called_set.canCreate
 have m5:=F.typeCall_set_1 (.ref u)
 refine Hs (codeAny_of_tree ?_)
 show Du _ _ (callAny (.type "set") _) _ _ _
 refine Dv ⟨Ja _ (by decide+kernel),codeAny_builtin F.entry_type_call ?_⟩
 rw[Around.under_plain (weight_type_call_type "set" [.ref u] []) rfl]
 repeat (any_goals (first|assumption|wp_step))
 refine G5 (code_set_new_1 (.ref u) (E:=E) (Q₁:=λo s₁=>∃MR:Bool,o= .ref s.heap.objs.size/\s₁={s with heap:=s.heap.push (setNew MR)}) λMR=>⟨MR,rfl,rfl⟩) λr s₁ hr=> ?_
 cases r with
 |error e=>exact hr
 |ok fl=>
  cases fl with
  |ret o=>
   obtain⟨MR,rfl,rfl⟩:=hr
   have gS:(s.heap.push (setNew MR)).get? s.heap.objs.size=some (setNew MR):=D_ _ rfl
   have tS:Shared.TypeIs {s with heap:=s.heap.push (setNew MR)} (.ref s.heap.objs.size) "set":=⟨_,gS,rfl⟩
   have n1:=F.called_set.init.lookup
   have n2:=F.called_set.init.bind (.ref s.heap.objs.size)
   repeat (any_goals (first|assumption|wp_step))
   refine G5 (GO (R:=wants (λr s₂=>r= .none/\∃h' tk,s₂={s with heap:=h',toks:=tk}/\uw prog w h' s.heap.objs.size ns xs.size/\∀b o,b<s.heap.objs.size->s.heap.get? b=some o->h'.get? b=some o) E) F.called_set.init.plain F.entry_set_init (check_set_init_1 tS ?_)) λr₂ s₂ Q3=> ?_
   ·have SE:=ht
    obtain⟨ot,QP,QQ,nt,QR⟩:=ht
    obtain⟨RF,OM,QS,NY⟩:=ot
    simp only at QQ QR
    subst QQ
    subst QR
    have Q4:(s.heap.push (setNew MR)).get? u=some {cls:= .type "tuple",dict:=OM,data:= .seq xs nt,slots:=NY}:=Dw _ QP
    have k1:=m6
    have k2:=l8
    have k3:(GD "tuple"==GD "dict")=false:=by decide
    have t1:(s.heap.push (setNew MR)).IsTuple u xs:=⟨_,Q4,rfl,nt,rfl⟩
    unfold JM.«set.__init__» noKeywords JN
    generalize RG:pyIter=PI
    wp_walk
    subst RG
    refine IZ t1 (Dn (wpAny_runValue ?_))
    have hu:u<s.heap.objs.size:=DK QP
    have h3:A.in1.in1.in1.handled=none:=by simp[hh]
    have z1:u≠(s.heap.push (setNew MR)).objs.size:=by rw[FI];exact E3 (Hr hu)
    have z2:s.heap.objs.size∉[(s.heap.push (setNew MR)).objs.size,u]:=by
     rw[FI]
     intro z
     rcases DN.mp z with z|z
     ·exact E3 (HD _) z
     ·exact Nat.ne_of_gt hu (DJ.mp z)
    refine codeAny_set_update_loopS (Walks.tuple h3 _ u z1 xs).toS s.heap.objs.size z2 (λi=>ns.getD i 0) (λi v hv=>hi i v hv) hb (xs.size - 0) 0 _ (by omega) (FD _) ⟨⟨_,D_ _ rfl,rfl,rfl⟩,t1.push _⟩ ?a0 ?a1
    case a0=>
     exact SetOf_congr ((setObjOf_fresh (knd:=intKind prog w) MR).setOf (Dw _ gS) (by unfold J9;omega)) (λ_=>rfl) rfl
    case a1=>
     intro s' hm Q5
     obtain⟨h',g',d',RH,PD⟩:=s'
     obtain rfl:g'=s.gens:=hm.gens
     obtain rfl:d'=s.drawn:=hm.drawn
     obtain rfl:PD=s.os:=hm.os
     show Du _ _ _ _ _ _
     refine Dv ?_
     show Du _ _ (ret FO) _ _ _
     refine Dv ⟨rfl,h',RH,rfl,Q5,λb o hb e=>hm.heap b o ?_ (Dw _ (Dw _ e))⟩
     rw[FI]
     intro z
     rcases DN.mp z with z|z
     ·exact E3 hb z
     ·exact E3 (Hr hb) (DJ.mp z)
   ·cases r₂ with
    |error e=>exact Q3
    |ok RJ=>
     cases RJ with
     |ret r=>
      obtain⟨rfl,h',tk,rfl,Q5,QT⟩:=Q3
      repeat (any_goals (first|assumption|wp_step))
      exact LQ _ _ Q5 QT
     |_=>exact Q3.elim
  |_=>exact hr.elim
def dz (ns:List Int):Nat:=(Js (λi=>ns.getD i 0) ns.length).length
section
variable {X:Cx} {e:Dr} {te:TE} {p1 p2 pos Lw:DZ}
def wY (K:Dh) (te:TE):TE:=λσ H Q=>te σ H λx H1=>∃(a:Dk) (ns:List Int),[x]=[V.ref a]/\(cp K H1 a (ns.map V.int)\/fc K H1 a (ns.map V.int))/\ns.length<4000/\Q (.int (dz ns)) H1
theorem ux:E4 "set"=some (.type "set"):=by decide+kernel
theorem sG:E4 "len"=some (.builtin "len"):=by decide+kernel
theorem sH (hc:X.calm=true) (he:PE X e te) (Q6:X.mg "len"=none) (NZ:X.mg "set"=none) (Q7:Gl X "len") (Q8:Gl X "set")
  (Pd:Dm [e] X.env=(false,DC e X.env)::Dm [] X.env) (N_:(DQ Lw (Dm [] X.env)).any (·.1)=false)
  (Na:Dm [.Call (.Name "set" p2) [e] [] Lw] X.env=(false,DC (.Call (.Name "set" p2) [e] [] Lw) X.env)::Dm [] X.env) (O0:(DQ pos (Dm [] X.env)).any (·.1)=false):
  PE X (.Call (.Name "len" p1) [.Call (.Name "set" p2) [e] [] Lw] [] pos) (wY X.K te):=by
 intro K4 s σ H Q I h
 refine Fb (iB I Q7 Q6 sG ?_ (by decide) (by decide))
 refine GK ?_ Na O0
 rw[Na]
 show Du _ _ (JJ ((false,DC (.Call (.Name "set" p2) [e] [] Lw) X.env)::DQ pos (Dm [] X.env))) _ _ s
 refine J4 ?_
 refine Fb (iB I Q8 NZ ux ?_ (by decide) (by decide))
 refine F9 ?_ Pd N_
 refine bU (bt he d0 Pd Lw K4 s σ H (λvs H1=>∃(a:Dk) (ns:List Int),vs=[V.ref a]/\(cp X.K H1 a (ns.map V.int)\/fc X.K H1 a (ns.map V.int))/\ns.length<4000/\Q (.int (dz ns)) H1) I h) λus s1 z_=> ?_
 obtain⟨vs,H1,I1,r1,a,ns,rfl,hx,hl,q⟩:=z_
 obtain⟨u,rfl,ru⟩:=my r1
 cases ru
 have LQ:∀(n:Nat),n=ns.length->∀(h':DE) (tk:Nat),uw X.prog X.w h' s1.heap.objs.size ns n->(∀b o,b<s1.heap.objs.size->s1.heap.get? b=some o->h'.get? b=some o)->
   Du (Dz X.prog X.w) X.A (JJ (DQ pos (Dm [] X.env))) (λus s2=>Du (Dz X.prog X.w) X.A (call (.builtin "len") (.ref s1.heap.objs.size::us)) (EP X K4 σ Q) X.xe s2) X.xe {s1 with heap:=h',toks:=tk}:=by
  rintro n rfl h' tk hS hk
  refine Ji ?_
  obtain⟨o,es,ep,t,ho,RK,hd,MQ,Ng,_,hf,ON⟩:=hS
  have SF:=firstMet_length_le (λi=>ns.getD i 0) ns.length
  refine call_len_set ho RK hd hf (by rw[ON];omega) ?_
  rw[ON]
  exact⟨.int _,H1,(I1.kept λb o e=>hk b o (DK e) e).tok _,⟨_,rfl⟩,q⟩
 rcases hx with hx|hx
 ·obtain⟨its,r,ht,hz⟩:=I1.list hx
  have Ki:=r.length
  rw[Dp]at Ki
  exact call_set_list (I1.ok.hd hc) ht.isList (qg r) (by rw[Ds,<-Ki];unfold J9;omega) λh' tk a b=>LQ _ (by rw[Ds,Ki]) h' tk a b
 ·obtain⟨its,r,ht,hz⟩:=I1.tuple hx
  have Ki:=r.length
  rw[Dp]at Ki
  exact sE (I1.ok.hd hc) ht (λi v hv=>nK r (by simpa using hv)) (by rw[Ds,<-Ki];unfold J9;omega) λh' tk a b=>LQ _ (by rw[Ds,Ki]) h' tk a b
end
end L2
namespace L2
open PySem PySem.Spec PyProof.Rows
theorem bB.there {P:Dy} {w:DG} {H:Hp} {h:DE} {a:Dk} {o:HO} (x:bB P w H h a o):∃ob,h.get? a=some ob:=by
 cases o with
 |lst xs=>obtain⟨_,_,_,_,e⟩:=x;exact⟨_,e⟩
 |tup xs=>obtain⟨_,_,_,o,e,_⟩:=x;exact⟨_,e⟩
 |dK Ke=>obtain⟨_,_,_,_,o,_,_,e,_⟩:=x;exact⟨_,e⟩
 |dT Ke=>obtain⟨_,_,_,_,o,_,_,e,_⟩:=x;exact⟨_,e⟩
 |set S n=>obtain⟨o,_,_,_,e,_⟩:=x;exact⟨_,e⟩
 |ins C dx fs=>obtain⟨_,_,_,e,_⟩:=x;exact⟨_,e⟩
 |own y=>obtain⟨_,e⟩:=x;exact⟨_,e⟩
 |xd fs=>obtain⟨_,⟨_,_,_,e,_⟩,_⟩:=x;exact⟨_,e⟩
 |rng lo hi=>obtain⟨_,_,_,e⟩:=x;exact⟨_,e⟩
 |frz ob u=>obtain⟨e,_⟩:=x;exact⟨_,e⟩
 |tbl ps=>exact⟨_,(show h.get? a=some _ from x)⟩
 |met f y=>exact⟨_,(show h.get? a=some _ from x)⟩
 |ext φ=>obtain⟨_,⟨_,e⟩,_⟩:=x;exact⟨_,e⟩
theorem iA.none_of {P:Dy} {w:DG} {H:Hp} {h:DE} {a:Dk} (x:iA P w H h) (e:h.get? a=none):H a=none:=by
 cases q:H a with
 |none=>rfl
 |some o=>obtain⟨ob,z⟩:=(x a o q).there;rw[e]at z;cases z
structure qj (X:Cx) (K4:List (Dk×DT)) (H:Hp) (b:Dk):Prop where
 s0:X.s₀.heap.get? b=none
 no:H b=none
 pin:∀p∈X.pn++K4,p.1≠b
structure zf (X:Cx) (K4:List (Dk×DT)) (H:Hp) (h:DE) (a T:Dk) (fl:Di):Prop where
 new:qj X K4 H T
 ne:T≠a
 at_:∃oT ts,h.get? T=some oT/\oT.data= .fields ts/\ts[3]? =some fl
structure Fl (X:Cx) (K4:List (Dk×DT)) (H:Hp) (h:DE) (a:Dk) (cls:Di):Prop where
 new:qj X K4 H a
 at_:∃oe vs,h.get? a=some oe/\oe.cls=cls/\oe.data= .fields vs/\(vs[1]? =some .none\/∃T fl,vs[1]? =some (.ref T)/\zf X K4 H h a T fl/\(fl= .none\/fl=rawInt X.env.locals))
structure Aa (X:Cx) (K4:List (Dk×DT)) (H:Hp) (h:DE) (a:Dk) (cls fl:Di):Prop where
 new:qj X K4 H a
 at_:∃oe vs,h.get? a=some oe/\oe.cls=cls/\oe.data= .fields vs/\∃T,vs[1]? =some (.ref T)/\zf X K4 H h a T fl
abbrev AV (X:Cx) (K4:List (Dk×DT)) (H:Hp) (h:DE) (a:Dk) (cls:Di):Prop:=Aa X K4 H h a cls .none
theorem Aa.flo {X:Cx} {K4:List (Dk×DT)} {H:Hp} {h:DE} {a:Dk} {cls fl:Di} (f:Aa X K4 H h a cls fl) (hf:fl= .none\/fl=rawInt X.env.locals):Fl X K4 H h a cls:=
 let ⟨oe,vs,h1,h2,h3,T,h4,h5⟩:=f.at_;⟨f.new,oe,vs,h1,h2,h3, .inr ⟨T,fl,h4,h5,hf⟩⟩
theorem Aa.fl {X:Cx} {K4:List (Dk×DT)} {H:Hp} {h:DE} {a:Dk} {cls:Di} (f:Aa X K4 H h a cls .none):Fl X K4 H h a cls:=f.flo (.inl rfl)
section
variable {X:Cx} {K4:List (Dk×DT)} {σ:St} {H H':Hp} {s s':Dl} {a:Dk} {cls:Di}
structure fM (X:Cx):Prop where
 st:X.stack=X.env::X.outer
 fr:X.env.frame=some X.env.locals
 ex:X.ex=[]
theorem qj.of (I:aw X K4 σ H s) (p:fM X) {b:Dk} (h:s.heap.get? b=none) (hH:H' b=none):qj X K4 H' b:=by
 refine⟨?_,hH,λq hq z=> ?_⟩
 ·cases e:X.s₀.heap.get? b with
  |none=>rfl
  |some o=>
   obtain⟨o',e'⟩:=I.base.there b o e (by rw[p.ex];simp)
   rw[h]at e';cases e'
 ·have:=(I.pin q hq).1
  rw[z,h]at this;cases this
def rl (h B:DE) (a:Dk) (cls fl:Di):Prop:=∃oe vs T oT ts,h.get? a=some oe/\oe.cls=cls/\oe.data= .fields vs/\vs[1]? =some (.ref T)/\B.get? T=none/\T≠a/\h.get? T=some oT/\oT.data= .fields ts/\ts[3]? =some fl
theorem _root_.PySem.Heap.TracedAtW.tl {h B:DE} {a:Dk} {cls a0 fl:Di} (t:h.TracedAtW B a cls a0 fl):rl h B a cls fl:=
 let ⟨oe,vs,T,oT,ts,g1,g2,g3⟩:=t;⟨oe,vs,T,oT,ts,g1,g2.1,g3⟩
theorem mP (I:aw X K4 σ H s) (p:fM X) (fl:Fl X K4 H s.heap a cls):∃(B:DE) (oe:DT) (vs:Array Di),s.heap.get? a=some oe/\oe.cls=cls/\oe.data= .fields vs/\s.heap.FunFrames B (X.env::X.outer)/\B.StaysIn s.heap/\B.get? a=none/\
  (vs[1]? =some .none\/∃T oT ts fl,vs[1]? =some (.ref T)/\B.get? T=none/\T≠a/\s.heap.get? T=some oT/\oT.data= .fields ts/\ts[3]? =some fl/\(fl= .none\/fl=rawInt X.env.locals))/\
  ∀h' fl,B.StaysIn h'->rl h' B a cls fl->s.heap.UpToSlots h'->aw X K4 σ H {s with heap:=h'}/\Aa X K4 H h' a cls fl:=by
 obtain⟨oe,vs,ge,gc,gd,gt⟩:=fl.at_
 obtain⟨rest,NM,OO⟩:∃rest:List Dk,(∀b∈rest,qj X K4 H b/\∃oT ts,s.heap.get? b=some oT/\oT.data= .fields ts)/\(vs[1]? =some .none\/∃T fl,vs[1]? =some (.ref T)/\zf X K4 H s.heap a T fl/\(fl= .none\/fl=rawInt X.env.locals)/\T∈rest):=by
  rcases gt with g|⟨T,fl,g,t,Q9⟩
  ·exact⟨[],(λb hb=>by cases hb), .inl g⟩
  ·obtain⟨oT,ts,e1,e2,_⟩:=t.at_
   exact⟨[T],λb hb=>by rw[DJ.mp hb];exact⟨t.new,oT,ts,e1,e2⟩, .inr ⟨T,fl,g,t,Q9,DJ.mpr rfl⟩⟩
 have Qa:∀b,b∈X.fs->b∈kC X.stack:=λb hb=>by
  rw[p.st]
  unfold kC
  rw[Fu,p.fr]
  exact DF _ hb
 have O1:X.env.locals∈kC X.stack:=by
  rw[p.st]
  unfold kC
  rw[Fu,p.fr]
  exact DI
 have Qb:∀b∈a::rest,qj X K4 H b/\∃oT ts,s.heap.get? b=some oT/\oT.data= .fields ts:=λb hb=>by
  rcases DN.mp hb with rfl|hb
  ·exact⟨fl.new,oe,vs,ge,gd⟩
  ·exact NM b hb
 have Pe:∀b∈kC X.stack,∃o,s.heap.get? b=some o/\∀vs:Array Di,o.data≠Data.fields vs:=λb hb=>(I.stack.mem hb).2
 have apart:∀b∈a::rest,b∉kC X.stack:=λb hb z=>by
  obtain⟨_,o,ts,e1,e2⟩:=Qb b hb
  obtain⟨o',e3,e4⟩:=Pe b z
  rw[e1]at e3;cases e3
  exact e4 ts e2
 let QU:List Dk:=(a::rest)++kC X.stack
 let B:DE:=Jv s.heap QU
 have ff:s.heap.FunFrames B X.stack:=PySem.W.funFrames_hide I.stack λenv he b hb=>DR _ (Ha.mpr ⟨env,he,hb⟩)
 have hB:B.StaysIn s.heap:=λb o e=>IW _ e
 have O2:B.get? a=none:=GF _ (Ei _ DI)
 have RM:s.heap.FunFrames B (X.env::X.outer):=by rw[<-p.st];exact ff
 refine⟨B,oe,vs,ge,gc,gd,RM,hB,O2,?_,λh' SG st ⟨QV,O3,T',Qc,Pf,g1,g2,g3,g4,g5,g6,g7,g8,g9⟩ up=> ?_⟩
 ·rcases OO with g|⟨T,fl,g,t,Q9,hT⟩
  ·exact .inl g
  ·obtain⟨oT,ts,e1,e2,e3⟩:=t.at_
   exact .inr ⟨T,oT,ts,fl,g,GF _ (Ei _ (DF _ hT)),t.ne,e1,e2,e3,Q9⟩
 ·have Pg:∀b o,s.heap.get? b=some o->b∉a::rest->b∉kC X.stack->h'.get? b=some o:=λb o e n1 n2=>
   st b o (GU _ e λz=>(Es.mp z).elim n1 n2)
  have newT:qj X K4 H T':=by
   by_cases hr:T'∈rest
   ·exact(NM T' hr).1
   ·have hn:s.heap.get? T'=none:=by
     cases e:s.heap.get? T' with
     |none=>rfl
     |some o=>
      by_cases hf:T'∈kC X.stack
      ·obtain⟨o',e3,e4⟩:=Pe T' hf
       obtain⟨sl,e5⟩:=up T' o' e3 e4
       rw[g7]at e5;cases e5
       exact absurd g8 (e4 Pf)
      ·have:=GU QU (b:=T') e λz=>(Es.mp z).elim (λq=>(DN.mp q).elim g6 hr) hf
       rw[g5]at this;cases this
    exact qj.of I p hn (I.hok.none_of hn)
  refine⟨I.step (g':=s.gens) (d':=s.drawn) (t':=s.toks) (ch:=a::rest) (λb hb=> ?_) (λb o n1 n2 n3 e _=> ?_) (λb o _ hb n3 e _=> ?_) (λ_ _ _ _ n=>n) (λb o n e=> ?_) (λ_ _ e=>e) (λ_ _ _ e=>e) (λb ps e=>⟨#[],by rw[e];simp⟩) (λm hm=> ?_) (λb u e=> ?_) I.bare,
   ⟨fl.new,QV,O3,g1,g2,g3,T',g4,newT,g6,Qc,Pf,g7,g8,g9⟩⟩
  ·obtain⟨n,o,ts,e1,e2⟩:=Qb b hb
   refine⟨.inr n.s0,λz=>apart b hb (by rw[z];exact O1),λx c hc z=> ?_,n.pin⟩
   obtain⟨v,o',e3,e4⟩:=I.cell x c hc
   rw[z,e1]at e3;cases e3
   rw[e2]at e4;cases e4
  ·exact Pg b o e n3 λz=>(DN.mp (I.stkSub b z)).elim n1 n2
  ·obtain⟨o',e3,e4⟩:=Pe b (Qa b hb)
   rw[e]at e3;cases e3
   exact up b o e e4
  ·by_cases hf:b∈kC X.stack
   ·obtain⟨o',e3,e4⟩:=Pe b hf
    rw[e]at e3;cases e3
    obtain⟨sl,e5⟩:=up b o e e4
    exact⟨_,e5⟩
   ·exact⟨o,Pg b o e n hf⟩
  ·obtain⟨o,es,ep,ho,hd,r⟩:=hm
   obtain⟨sl,e5⟩:=up _ o ho λvs z=>by rw[hd]at z;cases z
   exact⟨_,es,ep,e5,hd,r⟩
  ·have nh:∀c v,H c=some v->c∉a::rest/\c∉kC X.stack:=λc v hc=>⟨λz=>(by have:=(Qb c z).1.no;rw[hc]at this;cases this),λz=>(by have:=I.stkFree c z;rw[hc]at this;cases this)⟩
   refine(I.hok b u e).stay (λc v hc q=> ?_) (λ_ q=>q) λ_ _ q=>q
   rcases hc with z|z
   ·rw[z]at q ⊢;exact Pg b v q (nh b u e).1 (nh b u e).2
   ·exact Pg c v q (nh c _ z).1 (nh c _ z).2
theorem uy {vs:Array Di} {v:Di} (h:vs[1]? =some v):1<vs.size/\∃a0,vs[0]? =some a0:=by
 have Ms:1<vs.size:=by
  by_cases z:1<vs.size
  ·exact z
  ·rw[Array.getElem?_eq_none (HI z)]at h;cases h
 exact⟨Ms,vs[0]'(by omega),by simp⟩
theorem oX {Q:Unit->Dl->Prop} {E:Di->Dl->Prop} (I:aw X K4 σ H s) (p:fM X) (fl:Fl X K4 H s.heap a cls)
  (k:∀h',aw X K4 σ H {s with heap:=h'}->AV X K4 H h' a cls->Q () {s with heap:=h'}):
  Du (Dz X.prog X.w) X.A (J8 (.ref a) X.env) (λ_ s₂=>Du (Dz X.prog X.w) X.A (setFlight (.ref a) none) Q E s₂) E s:=by
 obtain⟨B,oe,vs,ge,gc,gd,ff,hB,O2,hn,hk⟩:=mP I p fl
 have LO:X.A.frames=some (X.env::X.outer):=by rw[I.ok.frames,p.st]
 rcases hn with g|⟨T,oT,ts,f,g1,g2,g3,g4,g5,g6,g7⟩
 ·obtain⟨Ms,a0,h0⟩:=uy g
  unfold J8
  rw[p.fr]
  refine Dn (Ic (o:=oe) ge (by rw[gd]) g ?_)
  refine wpAny_newEntryW (head:= .none) (hadNext:=false) LO ff p.fr ge hB O2 gd Ms h0 λh' z_=> ?_
  obtain⟨st,_,tr,up⟩:=z_
  rw[gc]at tr
  obtain⟨I',f'⟩:=hk h' _ st tr.at.tl up
  exact k h' I' f'
 ·obtain⟨Ms,a0,h0⟩:=uy g1
  rcases g7 with rfl|rfl
  ·refine wpAny_looks_onW (cls:=cls) (a0:=a0) LO p.fr ⟨hB,O2,ff,oe,vs,T,oT,ts,ge,⟨gc,h0⟩,gd,g1,g2,g3,g4,g5,g6⟩ λh1 Qd u1=> ?_
   refine wpAny_landsW Qd λh2 ⟨st,_,_,tr⟩ u2=> ?_
   obtain⟨I',f'⟩:=hk h2 _ st tr.at.tl (u1.trans u2)
   exact k h2 I' f'
  ·have QW:s.heap.TracedAtW B a cls a0 (rawInt X.env.locals):=⟨oe,vs,T,oT,ts,ge,⟨gc,h0⟩,gd,g1,g2,g3,g4,g5,g6⟩
   refine wpAny_noteFrame_againW p.fr QW ?_
   refine wpAny_landsW (base:=B) (l:=X.env::X.outer) (L:=X.env.locals) ⟨hB,O2,ff,QW⟩ λh2 ⟨st,_,_,tr⟩ u2=> ?_
   obtain⟨I',f'⟩:=hk h2 _ st tr.at.tl u2
   exact k h2 I' f'
theorem uz {Q:Unit->Dl->Prop} {E:Di->Dl->Prop} (I:aw X K4 σ H s) (p:fM X) (fl:Fl X K4 H s.heap a cls)
  (k:∀h',aw X K4 σ H {s with heap:=h'}->AV X K4 H h' a cls->Q () {s with heap:=h'}):Du (Dz X.prog X.w) X.A (leaving X.env (.ref a)) Q E s:=
 Dn (oX I p fl k)
def CV (g:DE) (H:Hp) (h:DE) (a:Dk) (cls:Di):Prop:=g.get? a=none/\H a=none/\∃oe vs T oT ts,h.get? a=some oe/\oe.cls=cls/\oe.data= .fields vs/\vs[1]? =some (.ref T)/\g.get? T=none/\H T=none/\T≠a/\
 h.get? T=some oT/\oT.data= .fields ts/\ts[3]? =some .none
def gW (P:Dy) (w:DG):qb:=λouter H s E e s'=>∃a cls H',e= .ref a/\s'.os=s.os/\Gb s'.gens/\Un (kC outer) [] H H' s.heap s'.heap/\iA P w H' s'.heap/\CV s.heap H' s'.heap a cls/\E cls (some a) H'
theorem zg {E:XK} {e:Di} (I:aw X K4 σ H s) (p:fM X) (h:gW X.prog X.w X.stack H s E e s'):∃a cls H',e= .ref a/\aw X K4 σ H' s'/\Fl X K4 H' s'.heap a cls/\E cls (some a) H':=by
 obtain⟨a,cls,H',rfl,os,bare,un,hok,⟨n1,n2,oe,vs,T,oT,ts,g1,g2,g3,g4,g5,g6,g7,g8,g9,QX⟩,q⟩:=h
 refine⟨a,cls,H',rfl,I.call' os un hok bare (λb hb=>by cases hb),⟨qj.of I p n1 n2,oe,vs,g1,g2,g3, .inr ⟨T, .none,g4,⟨qj.of I p g5 g6,g7,oT,ts,g8,g9,QX⟩, .inl rfl⟩⟩,q⟩
theorem l9 {CX:qb} {P:Dy} {w:DG} {K:Dh} {mg:Dj->Option Di} {base:DE} {N:List Dj} {qual:Dj} {scope:EX} {f:Dk} {cd:Di} {A:DO} {outer:List EO} {s:Dl} {H:Hp} {E:XK}:
  fM (fg CX P w K mg base N qual scope f cd A outer s H E):=⟨rfl,rfl,rfl⟩
theorem qk {P:Dy} {w:DG} {K:Dh} {mg:Dj->Option Di} {base:DE} {N:List Dj} {qual:Dj} {scope:EX} {f:Dk} {cd:Di} {A:DO} {outer:List EO} {s0:Dl} {H0:Hp} {E:XK}
  (I:aw (fg (gW P w) P w K mg base N qual scope f cd A outer s0 H0 E) K4 σ H s) (fl:Fl (fg (gW P w) P w K mg base N qual scope f cd A outer s0 H0 E) K4 H s.heap a cls) (h:E cls (some a) H):
  (fg (gW P w) P w K mg base N qual scope f cd A outer s0 H0 E).xe (.ref a) s:=by
 refine uz I l9 fl λh' I' f'=> ?_
 obtain⟨oe,vs,g1,g2,g3,T,g4,t⟩:=f'.at_
 obtain⟨oT,ts,g5,g6,g7⟩:=t.at_
 exact⟨a,cls,H,rfl,I'.os,I'.bare,I'.base,I'.hok,⟨f'.new.s0,f'.new.no,oe,vs,T,oT,ts,g1,g2,g3,g4,t.new.s0,t.new.no,t.ne,g5,g6,g7⟩,h⟩
end
end L2
namespace L2
open PySem PySem.Spec PyProof.Rows
theorem cE {α:Type} {M:Jc} {A:DO} {t:Gy α} {r:α} {Q:α->Dl->Prop} {E:Di->Dl->Prop} {s:Dl} (l:JT M s.heap t r) (q:Q r s):Du M A t Q E s:=l A Q E s (λ_ _ e=>e) q
theorem iE {M:Jc} {h:DE} {x C:Dk} {ox:DT} (e:h.get? x=some ox) (hc:ox.cls= .ref C):JT M h (typeOf (.ref x)) (.ref C):=λA Q E s k q=>
 Dn (wpAny_loadPart (k _ _ e) (Dv (by rw[hc];exact q)))
theorem qm {prog:Dy} {w:DG} {A:DO} {s:Dl} {K:Dh} {x C:Dk} {R:I_->Dl->Prop} {ox:DT} {tp:Di} (KX:K.In s.heap) (e:s.heap.get? x=some ox) (hc:ox.cls= .ref C) (hm:DW K C (.type "object")=some true)
  (q:R (.ok (.ret (.ref C))) s):Gd (Dz prog w) A (.call (.builtin "getset_descriptor.__get__") {pos:=[.builtin "object.__class__", .ref x,tp]}) R s:=by
 refine GO Jb.plain PySem.W.KF.entry_gs ?_
 refine Jb.check _ _ _ _ _ _ _ _ PySem.W.KF.type_class (PySem.W.KF.args_gs _ _ _) ?_
 show Du _ _ (Gn _) _ _ _
 unfold Gn
 rw[PySem.W.dga_obj]
 refine Dn (Dv ?_)
 dsimp only
 unfold IP
 dsimp only
 unfold Ii Ik
 dsimp only
 rw[PySem.W.KF.owner_class]
 refine Dn (Dn (Dv ?_))
 refine Dn (Dn (cE (iE e hc) (cE (IL KX hm) ?_)))
 refine Dv ?_
 refine G3 ⟨Ja _ (by decide+kernel),codeAny_builtin PySem.W.KF.entry_class ?_⟩
 show Du _ _ (do let t<-shownTypeOf (.ref x);ret t) _ _ _
 unfold shownTypeOf
 refine Dn (Dn (cE (iE e hc) ?_))
 rw[if_neg (by intro z;exact absurd z (by simp))]
 exact Dv (G3 q)
theorem wZ {prog:Dy} {w:DG} {A:DO} {E:Di->Dl->Prop} {s:Dl} {K:Dh} {x C:Dk} {ox:DT} {Q:Option Di->Dl->Prop} (KX:K.In s.heap) (e:s.heap.get? x=some ox) (hc:ox.cls= .ref C)
  (h1:DD K (.ref C) "__getattribute__"=some (some (.builtin "BaseException.__getattribute__"))) (h2:DD K (.ref C) "__getattr__"=some none) (h3:DD K (.ref C) "__class__"=some (some (.builtin "object.__class__")))
  (h4:FF K (.builtin "object.__class__") "__get__"=some (some (.builtin "getset_descriptor.__get__"))) (h5:G0 K (.builtin "object.__class__")=some true) (h6:DW K C (.type "object")=some true) (h7:DW K C (.type "BaseException")=some true)
  (q:Q (some (.ref C)) {s with toks:=s.toks+1}):Du (Dz prog w) A (getAttr? (.ref x) "__class__") Q E s:=by
 unfold getAttr?
 refine Dn (wpAny_mkText ?_)
 unfold getAttrBy?
 refine Dn (wpAny_attempt ?_)
 unfold getAttrBy
 refine Gu (Dn (cE (iE e hc) (Dn (cE (FP KX h1) ?_))))
 dsimp only
 rw[if_neg (by rw[show (FW "BaseException.__getattribute__"==FW "object.__getattribute__")=false by decide+kernel,Iq];simp)]
 unfold getAttrByItsOwn hookBefore
 refine Dn ?_
 rw[if_pos (by rfl)]
 refine cE (FP KX h2) ?_
 refine Dn (wpAny_attempt (Gu ?_))
 unfold callGetattribute
 rw[if_neg (by simp)]
 unfold boundAndCalled
 rw[F.attrBase_ValueError.ga.bind]
 refine Dn (Dv ?_)
 dsimp only
 refine Hs (GO F.attrBase_ValueError.ga.plain F.entry_bexc_ga ?_)
 show Du _ _ (checkBuiltinCall "BaseException.__getattribute__" {pos:=DP x::[Gx (G7 "__class__") s.toks],kw:=[]}) _ _ _
 refine PySem.W.check_slot (i:="BaseException.__getattribute__") (owner:="BaseException") (n:="__getattribute__") HP._proof_1_1 HP._proof_1_2 (λA Q E s k q=>Dn (iE e hc A _ E s k (IL KX h7 A _ E s k q))) (F.args_bexc_ga _ _) ?_
 unfold JM.«object.__getattribute__»
 refine Dn (Dv (a:=(DP x,[Gx (G7 "__class__") s.toks])) ?_)
 dsimp only
 refine Dn (Dv (a:=G7 "__class__") ?_)
 refine Dn (cE (iE e hc) ?_)
 refine Dn ?_
 unfold J_
 refine Dn (cE (FP KX h3) ?_)
 refine Dn ?_
 show Du _ _ (specialOf _ _) _ _ _
 refine cE (PySem.W.looks_specialIn KX h4) ?_
 refine Dn ?_
 show Du _ _ (do let b<-JG (FW "object.__class__");if b=true then pure (some (FW "getset_descriptor.__get__",FW "object.__class__"))else pure none) _ _ _
 refine Dn (cE (PySem.W.looks_takesIn KX h5) ?_)
 rw[if_pos rfl]
 refine Dv ?_
 dsimp only
 refine Dn (JD (Dv ?_))
 dsimp only
 unfold JW
 dsimp only
 refine Dn (Gu (Hs (qm KX e hc h6 ?_)))
 refine G3 ?_
 exact PySem.W.handed_on (by rfl) (Dv q)
def qo:List Di:=[.type "ValueError", .type "Exception", .type "BaseException", .type "object"]
structure nL (K:Dh) (C:Dk):Prop where
 exc:∃LG Bn QY QZ,Eo K C qo LG=true/\ExcBaseFacts Bn LG QY QZ/\qo.contains (.type Bn)=true
 ga:DD K (.ref C) "__getattribute__"=some (some (.builtin "BaseException.__getattribute__"))
 gt:DD K (.ref C) "__getattr__"=some none
 kc:DD K (.ref C) "__class__"=some (some (.builtin "object.__class__"))
 sp:FF K (.builtin "object.__class__") "__get__"=some (some (.builtin "getset_descriptor.__get__"))
 tk:G0 K (.builtin "object.__class__")=some true
 mo:DW K C (.type "object")=some true
 mb:DW K C (.type "BaseException")=some true
 kk:FK K (.ref C) (.ref C)=some true
theorem rm {K:Dh} {h:DE} {C:Dk} {Np:List Di} {LG:String} (KX:K.In h) (e:Eo K C Np LG=true):∃bm N nm q bs hdct sn sub ab col dd k0 k1 k2 k3 k5 mN,
  h.get? C=some (excClassObj nm q C N bs bm hdct sn sub ab col dd k0 k1 k2 k3 k5 LG)/\h.Ns N mN/\mN (G7 "__init__")=none/\OwnTail h Np bm:=by
 unfold Eo at e
 split at e
 ·split at e
  ·rename_i dd cd sl lk _ _ C' bm k0 k1 k2 k3 n k5 e1 e2
   simp only[Ee]at e
   obtain⟨⟨⟨⟨⟨a1,a2⟩,a3⟩,a4⟩,a5⟩,a6⟩:=e
   have b1:C'=C:=eq_of_beq a1
   have b2:n=LG:=eq_of_beq a2
   subst b1 b2
   have g:=KX _ _ lk
   have RN:sl= #[k0,k1,k2,k3,some (FW n),k5]:=by rw[<-Array.toList_inj];exact e2
   have OP:cd.hasDel=false:=by simpa using a3
   obtain⟨nm,bs,mro,N,q,hd,sn,sb,ab,col,SH⟩:=cd
   dsimp only at e1 OP a4 a5 a6
   subst e1 RN OP
   exact⟨bm,N,nm,q,bs,hd,sn,sb,ab,col,dd,k0,k1,k2,k3,k5,_,g,Heap.Ns.of_isNs (PySem.W.isNs_of_in KX a5),PySem.W.nsMap_none_of_in KX a5 (eq_of_beq a6),PySem.W.tail_of_in KX a4⟩
  ·cases e
 ·cases e
theorem uA {K:Dh} {x C:Dk} (k:nL K C):PySem.W.KitX K (.ref x) (.ref C) λh=>∃ox,h.get? x=some ox/\ox.cls= .ref C where
 ty:=λM h _ ⟨ox,e,hc⟩=>iE e hc
 it:=λM h KX _=>(PySem.W.kit_cls KX k.kk).2.1
 ne:=λh tp dd its n sl KX e=>by
  cases z:(DP C==DP tp)with
  |false=>rfl
  |true=>
   have ez:DP C=DP tp:=eq_of_beq z
   cases ez
   obtain⟨LG,_,_,_,ei,_⟩:=k.exc
   obtain⟨bm,N,nm,q,bs,hd,sn,sb,ab,col,dd,k0,k1,k2,k3,k5,mN,g,_⟩:=rm KX ei
   rw[e]at g
   exact absurd (congrArg Obj.data (Ec g)) (λz=>by cases z)
 ca:=λ{prog w A E Q s} KX ⟨ox,e,hc⟩ q=>wZ KX e hc k.ga k.gt k.kc k.sp k.tk k.mo k.mb q
end L2
namespace L2
open PySem PySem.Spec PyProof.Rows
section
variable {X:Cx} {K4:List (Dk×DT)} {σ:St} {H:Hp} {s:Dl} {a:Dk} {cls:Di} {x:Dj} {np Kb pos:DZ} {e:Dr} {es:List Dr} {t:TA} {C:Dk}
def uB (X:Cx) (C:Dk) (t:TA):TS:=λ_ σ H=>t σ H λvs H1=>vs.length<=sizeLine/\∀K4 s a,aw X K4 σ H1 s->Fl X K4 H1 s.heap a (.ref C)->X.xe (.ref a) s
theorem w_ {h':DE} {vs:List Di} (I:aw X K4 σ H s) (p:fM X) (m:s.heap.MadeExcOf h' a cls vs):aw X K4 σ H {s with heap:=h'}/\Fl X K4 H h' a cls:=by
 obtain⟨tp,g1,g2,g3⟩:=m.there
 exact⟨I.kept (t':=s.toks) m.keeps,qj.of I p m.new (I.hok.none_of m.new),_,_,g1,rfl,rfl, .inl rfl⟩
theorem uC (k:nL X.K C) (hm:X.mg x=some (.ref C)) (p:fM X) (hc:X.calm=true) (ha:PA X (e::es) t) (hg:Gl X x:=by rfl) (La:(x==("__debug__":Dj))=false:=by decide)
  (he:Dm (e::es) X.env=(false,DC e X.env)::Dm es X.env:=by rfl) (L3:(DQ Kb (Dm es X.env)).any (·.1)=false:=by rfl):PS X (.Raise (some (.Call (.Name x np) (e::es) [] Kb)) none pos) (uB X C t):=by
 intro K4 s σ H D I h
 obtain⟨LG,Bn,QY,QZ,ei,fB,hB⟩:=k.exc
 obtain⟨bm,N,nm,q,bs,hd,sn,sb,ab,col,dd,k0,k1,k2,k3,k5,mN,g,ns,ni,tl⟩:=rm I.ok.mod.kin ei
 have Ni:DQ Kb (Dm (e::es) X.env)=(false,DC e X.env)::DQ Kb (Dm es X.env):=by rw[he];rfl
 refine wpAny_Raise_call_subU (nm:=nm) (q:=q) (C:=C) (N:=N) (bs:=bs) (hdct:=hd) (sn:=sn) (sub:=sb) (ab:=ab) (col:=col) (dd:=dd) (k0:=k0) (k1:=k1) (k2:=k2) (k3:=k3) (k5:=k5) fB hB F.excBase_ValueError (tl.hasType (by decide)) (I.ok.hd hc) (by rw[Ni];exact L3) ni (iX I hg hm ⟨rfl,?_⟩ La)
 rw[Ni]
 refine FQ ?_
 rw[<-Ni]
 refine bU (ha Kb K4 s σ H _ I h) λus s1 ⟨vs,H1,I1,r,z,q1⟩=>⟨rfl,by rw[<-r.length];exact z,I1.bk _ _ g,ns.keeps I1.bk,tl.keeps I1.bk,λh' a m=> ?_⟩
 obtain⟨I2,f2⟩:=w_ I1 p m
 exact q1 K4 _ a I2 f2
abbrev Cx.inH (X:Cx) (v:Di):Cx:={X with A:=X.A.mark (some v),calm:=false,xe:=λ_ _=>False}
theorem Cx.Ok.inH {v:Di} (ok:X.Ok):(X.inH v).Ok:=⟨ok.mod,ok.kind,ok.glob,ok.blt,ok.above,ok.inj,ok.has,ok.cab,(λz=>by cases z),ok.frames,ok.stk,ok.exf,ok.bs,ok.bsz,ok.noex,ok.exfs,ok.funs,ok.frf⟩
theorem aw.inH {v:Di} (I:aw X K4 σ H s):aw (X.inH v) K4 σ H s:=⟨I.ok.inH,I.os,I.bare,I.base,I.loc,I.cell,I.free,I.freeC,I.pin,I.hok,I.len⟩
theorem aw.outH {v:Di} (ok:X.Ok) (I:aw (X.inH v) K4 σ H s):aw X K4 σ H s:=⟨ok,I.os,I.bare,I.base,I.loc,I.cell,I.free,I.freeC,I.pin,I.hok,I.len⟩
theorem aw.track {o:HO} {oa:DT} {vs:Array Di} (I:aw X K4 σ H s) (n:qj X K4 H a) (ga:s.heap.get? a=some oa) (gd:oa.data= .fields vs) (new:bB X.prog X.w (bc H a o) s.heap a o):aw X K4 σ (bc H a o) s:=by
 have ne:∀b u,H b=some u->b≠a:=λb u e z=>by rw[z,n.no]at e;cases e
 have NG:X.env.locals≠a:=λz=>by
  obtain⟨m,⟨o,es,ep,ho,hd,_⟩,_⟩:=I.loc
  rw[z,ga]at ho;cases ho
  rw[gd]at hd;cases hd
 have neC:∀y c,X.env.cells.lookup y=some c->c≠a:=λy c e z=>by
  obtain⟨v,o,ho,hd⟩:=I.cell y c e
  rw[z,ga]at ho;cases ho
  rw[gd]at hd;cases hd
 refine⟨I.ok,I.os,I.bare,⟨I.base.keep,I.base.slot,λb o e n' hx=> ?_,I.base.there,λb xs e=> ?_,λb o u e=> ?_,λb ps e=> ?_⟩,I.loc,I.cell,by rw[al NG];exact I.free,λy c e=>by rw[al (neC y c e)];exact I.freeC y c e,λp hp=> ?_,λb u e=> ?_,I.len⟩
 ·rw[al (λz=>by rw[z,n.s0]at e;cases e)];exact I.base.free b o e n' hx
 ·have q:=I.base.tups b xs e
  rw[al (ne b _ q)];exact q
 ·have q:=I.base.frzs b o u e
  rw[al (ne b _ q)];exact q
 ·obtain⟨Nb,q⟩:=I.base.tbls b ps e
  exact⟨Nb,by rw[al (ne b _ q)];exact q⟩
 ·obtain⟨e,n',r⟩:=I.pin p hp
  exact⟨e,by rw[al (n.pin p hp)];exact n',r⟩
 ·by_cases z:b=a
  ·subst z;rw[aq]at e;cases e;exact new
  ·rw[al z]at e
   refine(I.hok b u e).stay (λ_ _ _ q=>q) (λc q=> ?_) λc xs q=> ?_
   ·rw[al (ne c _ q)];exact q
   ·rw[al (ne c _ q)];exact q
theorem sI {M:Jc} {A:DO} {E:Di->Dl->Prop} {i:Nat} {n:Dj} {Q:Unit->Dl->Prop} (I:aw X K4 σ H s) (hN:X.N.Nodup) (hi:X.N[i]? =some n) (hk:X.env.kindOf n=some .local)
  (k:∀s',aw X K4 (σ.set i none) H s'->Q () s'):Du M A (do bindName X.env n FO;GP X.env n pos) Q E s:=by
 obtain⟨m,hn,hl⟩:=id I.loc
 refine wpAny_nameGoes_keeps hk hn (by rw[I.ok.kind];rfl) λh' v Pq hs=>k _ ?_
 have NG:∀b o,X.s₀.heap.get? b=some o->b≠X.env.locals:=λb o e=>E3 (DS (DK e) I.ok.above)
 refine⟨I.ok,I.os,I.bare,⟨λb o e n hb hx=>(hs.2 b (NG b o e)).trans (I.base.keep b o e n hb hx),λb o e n hb hx=> ?_,I.base.free,λb o e hx=> ?_,I.base.tups,I.base.frzs,I.base.tbls⟩,⟨_,Pq,λj y v' e1 e2 e3=> ?_⟩,λy c e=> ?_,I.free,I.freeC,λp hp=> ?_,λb u e=> ?_,by simpa using I.len⟩
 ·obtain⟨sl,e1⟩:=I.base.slot b o e n hb hx
  exact⟨sl,(hs.2 b (NG b o e)).trans e1⟩
 ·obtain⟨o',e1⟩:=I.base.there b o e hx
  exact⟨o',(hs.2 b (NG b o e)).trans e1⟩
 ·by_cases hj:j=i
  ·subst hj
   rw[FH]at e2
   split at e2
   ·split at e2<;>cases e2
   ·exact absurd rfl ‹_›
  ·rw[GH (E_ hj)]at e2
   obtain⟨u',r',q⟩:=hl j y v' e1 e2 e3
   refine⟨u',r',?_⟩
   have ny:y≠n:=λe=>hj (kP hN e1 (e▸hi))
   rcases q with ⟨k,e⟩|⟨k,c,e,z⟩
   ·exact .inl ⟨k,by show (if y=n then v else m y)=_;rw[if_neg ny];exact e⟩
   ·exact .inr ⟨k,c,e,z.sameBut hs (I.cne y c e)⟩
 ·obtain⟨w',z⟩:=I.cell y c e
  exact⟨w',z.sameBut hs (I.cne y c e)⟩
 ·obtain⟨e,n,ne,nf,d⟩:=I.pin p hp
  exact⟨(hs.2 p.1 ne).trans e,n,ne,nf,d⟩
 ·refine(I.hok b u e).stay (λc v hc q=>(hs.2 c ?_).trans q) (λ_ q=>q) λ_ _ q=>q
  rintro rfl
  have:=I.free
  rcases hc with z|z
  ·rw[<-z,this]at e;cases e
  ·rw[this]at z;cases z
def fN (a:Dk) (cls:Di):DE->Prop:=λh=>∃o,h.get? a=some o/\o.cls=cls
theorem sJ {P:Dy} {w:DG} {h:DE} (e:fN a cls h):bB P w H h a (.ext (fN a cls)):=by
 obtain⟨o,h1,h2⟩:=e
 exact⟨⟨o,h1,h2⟩,⟨o,h1⟩,λg1 g2 ⟨o',e1,e2⟩ k=>⟨o',k _ e1,e2⟩⟩
theorem zh (I:aw X K4 σ H s) (p:fM X) (fl:AV X K4 H s.heap a cls) {Q:Unit->Dl->Prop} {E:Di->Dl->Prop} {A:DO}
  (k:∀h',aw X K4 σ H {s with heap:=h'}->AV X K4 H h' a cls->Q () {s with heap:=h'}):Du (Dz X.prog X.w) A (setFlight (.ref a) none) Q E s:=by
 obtain⟨B,oe,vs,ge,gc,gd,ff,hB,O2,hn,hk⟩:=mP I p fl.fl
 obtain⟨QV,O3,e1,e2,e3,T',e4,RO⟩:=fl.at_
 rw[ge]at e1;cases e1
 rw[gd]at e3;cases e3
 obtain⟨Qc,Pf,q1,q2,q3⟩:=RO.at_
 rcases hn with g|⟨T,oT,ts,f,g1,g2,g3,g4,g5,g6,g7⟩
 ·rw[g]at e4;cases e4
 ·rw[e4]at g1;cases g1
  obtain⟨Ms,a0,h0⟩:=uy e4
  refine lands_againW (base:=B) (l:=X.env::X.outer) (cls:=cls) (a0:=a0) ⟨hB,O2,ff,oe,vs,T',Qc,Pf,ge,⟨gc,h0⟩,gd,e4,g2,g3,q1,q2,q3⟩ λh2 ⟨st,_,_,tr⟩ up=> ?_
  obtain⟨I',f'⟩:=hk h2 _ st tr.at.tl up
  exact k h2 I' f'
theorem sK {Q_:Dk} {cx n:Dj} {i:Nat} {MW:DZ} {b₀:DU} {M8:List DU} {rest:List ExceptHandler} {Q:Flow->Dl->Prop} {E:Di->Dl->Prop} (I:aw X K4 σ H s) (p:fM X) (fl:AV X K4 H s.heap a (.ref C)) (hN:X.N.Nodup) (hi:X.N[i]? =some n)
  (hk:X.env.scope.names.lookup n=some .local) (hg:Gl X cx) (hm:X.mg cx=some (.ref Q_)) (hx:FL X.K (.ref C) (.ref Q_)=some true) (La:(cx==("__debug__":Dj))=false)
  (k:∀s',aw (X.inH (.ref a)) K4 (σ.set i (some (.ref a))) (bc H a (.ext (fN a (.ref C)))) s'->
   Du (Dz X.prog X.w) (X.inH (.ref a)).A (execs (b₀::M8) X.env) (λf s3=>Du (Dz X.prog X.w) X.A (do bindName X.env n FO;GP X.env n MW) (λ_ s5=>Q f s5) E s3) (λ_ _=>False) s'):
  Du (Dz X.prog X.w) X.A (handleBy (.ref a) X.env (.ExceptHandler (some (.Name cx np)) (some n) (b₀::M8) MW::rest)) Q E s:=by
 refine wpAny_handleBy_cons (codeAny_handlers_test ?_) (by intro z;cases z)
 refine iX (X:=X.inH (.ref a)) I.inH hg hm ?_ La
 obtain⟨oe,vs,ge,gc,gd,_⟩:=fl.at_
 refine cE (PySem.W.exm_one I.kIn (iE ge gc) hx) ?_
 rw[if_pos rfl]
 refine codeAny_handlers_suite_as ?_
 refine zh I p fl λh2 I2 f2=> ?_
 obtain⟨oe,vs,ge,gc,gd,_⟩:=f2.at_
 have I3:aw X K4 σ (bc H a (.ext (fN a (.ref C)))) {s with heap:=h2}:=I2.track f2.new ge gd (sJ ⟨oe,ge,gc⟩)
 refine kQ (X:=X.inH (.ref a)) I3.inH hN hi (.inl hk) (v:= .ref a) rfl (λs' I'=> ?_) (.inr hk)
 exact F8 (k s' I') (λf s3 q=>q) λ_ _ z=>z.elim
end
end L2
namespace L2
open PySem PySem.Spec PyProof.Rows
section
variable {X:Cx} {scope:EX} {s:Dl} {H:Hp} {ex:List Dk} {E:Di->Dl->Prop} {Lm:List (Dk×DT)} {τ:St} {H':Hp} {s':Dl}
end
section
variable {X:Cx} {LF tg Kl:Dr} {Lv:List Dr} {scope:EX} {pos:DZ} {wi:TI} {g:TG} {tt:TT} {te:TE}
end
end L2
namespace L2.Pu
open PySem PySem.Spec PyProof.Rows
structure cY where
 x:Nat
 C:Dk
 fl:List (Dj×Nat)
variable {ly:List cY}
inductive D where
 |non|bl (b:Bool)|int (i:Int)|str (x:Dj)|tup (ds:List D)|lst (ds:List D)|dic (LK:List (cn×D))|ins (x:Dj) (fs:List (Dj×D))|scr (ns:List Int)|exc (x:Dj)
mutual
inductive df (K:Dh) (F:Hp):V->D->Prop
 |non:df K F .non .non
 |bl (b:Bool):df K F (.bl b) (.bl b)
 |int (i:Int):df K F (.int i) (.int i)
 |str (x:Dj):df K F (.str x) (.str x)
 |tup {a:Dk} {vs:List V} {ds:List D}:F a=some (.tup vs)->Reps K F vs ds->df K F (.ref a) (.tup ds)
 |lst {a:Dk} {vs:List V} {ds:List D}:F a=some (.lst vs)->Reps K F vs ds->df K F (.ref a) (.lst ds)
 |scr {a:Dk} {ns:List Int}:cp K F a (ns.map V.int)->df K F (.ref a) (.scr ns)
 |dic {a:Dk} {Ke:List (cn×V)} {LK:List (cn×D)}:F a=some (.dK Ke)->RepK K F Ke LK->(Ke.map (·.1)).Nodup->df K F (.ref a) (.dic LK)
 |ins {a C dx:Dk} {x:Dj} {fs vs:List (Dj×V)} {fds:List (Dj×D)}:F a=some (.ins C dx fs)->F dx=some (.own a)->DB K Dt x=some (some (.ref C))->(∀p∈vs,fs.lookup p.1=some p.2)->(∀f v,fs.lookup f=some v->f∈vs.map (·.1))->RepF K F vs fds->df K F (.ref a) (.ins x fds)
 |exc {a C:Dk} {x:Dj}:F a=some (.ext (fN a (.ref C)))->DB K Dt x=some (some (.ref C))->df K F (.ref a) (.exc x)
inductive Reps (K:Dh) (F:Hp):List V->List D->Prop
 |nil:Reps K F [] []
 |cons {v:V} {d:D} {vs:List V} {ds:List D}:df K F v d->Reps K F vs ds->Reps K F (v::vs) (d::ds)
inductive RepK (K:Dh) (F:Hp):List (cn×V)->List (cn×D)->Prop
 |nil:RepK K F [] []
 |cons {k:cn} {v:V} {d:D} {vs:List (cn×V)} {ds:List (cn×D)}:df K F v d->RepK K F vs ds->RepK K F ((k,v)::vs) ((k,d)::ds)
inductive RepF (K:Dh) (F:Hp):List (Dj×V)->List (Dj×D)->Prop
 |nil:RepF K F [] []
 |cons {k:Dj} {v:V} {d:D} {vs:List (Dj×V)} {ds:List (Dj×D)}:df K F v d->RepF K F vs ds->RepF K F ((k,v)::vs) ((k,d)::ds)
end
theorem j5 {K:Dh} {F F':Hp} {a:Dk} {xs:List V} (e:aG F F') (h:cp K F a xs):cp K F' a xs:=e.seq h
theorem df.mono {K:Dh} {F F':Hp} (e:aG F F') {v:V} {d:D} (h:df K F v d):df K F' v d:=
 df.rec (motive_1:=λv d _=>df K F' v d) (motive_2:=λv d _=>Reps K F' v d) (motive_3:=λv d _=>RepK K F' v d) (motive_4:=λv d _=>RepF K F' v d) .non .bl .int .str (λh _ r=> .tup (e _ _ h) r) (λh _ r=> .lst (e _ _ h) r) (λh=> .scr (j5 e h)) (λh _ n r=> .dic (e _ _ h) r n) (λh h2 n l1 l2 _ r=> .ins (e _ _ h) (e _ _ h2) n l1 l2 r) (λh n=> .exc (e _ _ h) n) .nil (λ_ _ a b=> .cons a b) .nil (λ_ _ a b=> .cons a b) .nil (λ_ _ a b=> .cons a b) h
theorem Reps.mono {K:Dh} {F F':Hp} (e:aG F F') {v:List V} {d:List D} (h:Reps K F v d):Reps K F' v d:=
 Reps.rec (motive_1:=λv d _=>df K F' v d) (motive_2:=λv d _=>Reps K F' v d) (motive_3:=λv d _=>RepK K F' v d) (motive_4:=λv d _=>RepF K F' v d) .non .bl .int .str (λh _ r=> .tup (e _ _ h) r) (λh _ r=> .lst (e _ _ h) r) (λh=> .scr (j5 e h)) (λh _ n r=> .dic (e _ _ h) r n) (λh h2 n l1 l2 _ r=> .ins (e _ _ h) (e _ _ h2) n l1 l2 r) (λh n=> .exc (e _ _ h) n) .nil (λ_ _ a b=> .cons a b) .nil (λ_ _ a b=> .cons a b) .nil (λ_ _ a b=> .cons a b) h
theorem RepK.mono {K:Dh} {F F':Hp} (e:aG F F') {v:List (cn×V)} {d:List (cn×D)} (h:RepK K F v d):RepK K F' v d:=
 RepK.rec (motive_1:=λv d _=>df K F' v d) (motive_2:=λv d _=>Reps K F' v d) (motive_3:=λv d _=>RepK K F' v d) (motive_4:=λv d _=>RepF K F' v d) .non .bl .int .str (λh _ r=> .tup (e _ _ h) r) (λh _ r=> .lst (e _ _ h) r) (λh=> .scr (j5 e h)) (λh _ n r=> .dic (e _ _ h) r n) (λh h2 n l1 l2 _ r=> .ins (e _ _ h) (e _ _ h2) n l1 l2 r) (λh n=> .exc (e _ _ h) n) .nil (λ_ _ a b=> .cons a b) .nil (λ_ _ a b=> .cons a b) .nil (λ_ _ a b=> .cons a b) h
theorem RepF.mono {K:Dh} {F F':Hp} (e:aG F F') {v:List (Dj×V)} {d:List (Dj×D)} (h:RepF K F v d):RepF K F' v d:=
 RepF.rec (motive_1:=λv d _=>df K F' v d) (motive_2:=λv d _=>Reps K F' v d) (motive_3:=λv d _=>RepK K F' v d) (motive_4:=λv d _=>RepF K F' v d) .non .bl .int .str (λh _ r=> .tup (e _ _ h) r) (λh _ r=> .lst (e _ _ h) r) (λh=> .scr (j5 e h)) (λh _ n r=> .dic (e _ _ h) r n) (λh h2 n l1 l2 _ r=> .ins (e _ _ h) (e _ _ h2) n l1 l2 r) (λh n=> .exc (e _ _ h) n) .nil (λ_ _ a b=> .cons a b) .nil (λ_ _ a b=> .cons a b) .nil (λ_ _ a b=> .cons a b) h
section
variable {K:Dh} {F:Hp}
def uD (K:Dh) (F:Hp) (v:V):D->Prop
 | .non=>v= .non
 | .bl b=>v= .bl b
 | .int i=>v= .int i
 | .str x=>v= .str x
 | .tup ds=>∃a vs,v= .ref a/\F a=some (.tup vs)/\Reps K F vs ds
 | .lst ds=>∃a vs,v= .ref a/\F a=some (.lst vs)/\Reps K F vs ds
 | .scr ns=>∃a,v= .ref a/\cp K F a (ns.map V.int)
 | .dic LK=>∃a Ke,v= .ref a/\F a=some (.dK Ke)/\RepK K F Ke LK/\(Ke.map (·.1)).Nodup
 | .ins x fds=>∃a C dx fs vs,v= .ref a/\F a=some (.ins C dx fs)/\DB K Dt x=some (some (.ref C))/\(∀p∈vs,fs.lookup p.1=some p.2)/\(∀f v,fs.lookup f=some v->f∈vs.map (·.1))/\RepF K F vs fds
 | .exc x=>∃a C,v= .ref a/\F a=some (.ext (fN a (.ref C)))/\DB K Dt x=some (some (.ref C))
theorem df.inv {v:V} {d:D} (h:df K F v d):uD K F v d:=by
 cases h with
 |non=>exact rfl
 |bl=>exact rfl
 |int=>exact rfl
 |str=>exact rfl
 |tup h r=>exact⟨_,_,rfl,h,r⟩
 |lst h r=>exact⟨_,_,rfl,h,r⟩
 |scr h=>exact⟨_,rfl,h⟩
 |dic h r n=>exact⟨_,_,rfl,h,r,n⟩
 |ins h1 _ h3 h4 h5 h6=>exact⟨_,_,_,_,_,rfl,h1,h3,h4,h5,h6⟩
 |exc h n=>exact⟨_,_,rfl,h,n⟩
theorem RepK.nilI {vs:List (cn×V)} (h:RepK K F vs []):vs=[]:=by cases h;rfl
theorem RepK.consI {vs:List (cn×V)} {k:cn} {d:D} {ds:List (cn×D)} (h:RepK K F vs ((k,d)::ds)):∃v us,vs=(k,v)::us/\df K F v d/\RepK K F us ds:=by
 cases h with
 |cons r t=>exact⟨_,_,rfl,r,t⟩
theorem Reps.nilI {vs:List V} (h:Reps K F vs []):vs=[]:=by cases h;rfl
theorem Reps.consI {vs:List V} {d:D} {ds:List D} (h:Reps K F vs (d::ds)):∃v us,vs=v::us/\df K F v d/\Reps K F us ds:=by
 cases h with
 |cons r t=>exact⟨_,_,rfl,r,t⟩
theorem df.intI {v:V} {i:Int} (h:df K F v (.int i)):v= .int i:=h.inv
theorem Reps.int1 {vs:List V} {i:Int} (h:Reps K F vs [.int i]):vs=[.int i]:=by
 obtain⟨v,us,rfl,r,t⟩:=h.consI
 rw[t.nilI,r.intI]
theorem Reps.int2 {vs:List V} {i j:Int} (h:Reps K F vs [.int i, .int j]):vs=[.int i, .int j]:=by
 obtain⟨v,us,rfl,r,t⟩:=h.consI
 rw[t.int1,r.intI]
theorem Reps.length:∀{vs:List V} {ds:List D},Reps K F vs ds->vs.length=ds.length:=by
 intro vs ds
 induction ds generalizing vs with
 |nil=>intro h;rw[h.nilI];rfl
 |cons d ds ih=>
  intro h
  obtain⟨v,us,rfl,_,t⟩:=h.consI
  rw[DA,DA,ih t]
theorem RepK.length:∀{vs:List (cn×V)} {ds:List (cn×D)},RepK K F vs ds->vs.length=ds.length:=by
 intro vs ds
 induction ds generalizing vs with
 |nil=>intro h;rw[h.nilI];rfl
 |cons d ds ih=>
  intro h
  obtain⟨v,us,rfl,_,t⟩:=RepK.consI (k:=d.1) (d:=d.2) h
  rw[DA,DA,ih t]
theorem Reps.append:∀{vs us:List V} {ds es:List D},Reps K F vs ds->Reps K F us es->Reps K F (vs++us) (ds++es):=by
 intro vs us ds
 induction ds generalizing vs with
 |nil=>intro es h g;rw[h.nilI];exact g
 |cons d ds ih=>
  intro es h g
  obtain⟨v,us,rfl,r,t⟩:=h.consI
  exact .cons r (ih t g)
theorem Reps.get:∀{vs:List V} {ds:List D} {i:Nat} {d:D},Reps K F vs ds->ds[i]? =some d->∃v,vs[i]? =some v/\df K F v d
 |_,_,_,_, .nil,h=>by simp at h
 |_,_,0,_, .cons r t,h=>by simp at h;subst h;exact⟨_,rfl,r⟩
 |_,_,i+1,_, .cons r t,h=>by
  obtain⟨v,h1,h2⟩:=t.get (i:=i) (by simpa using h)
  exact⟨v,by simpa using h1,h2⟩
theorem Reps.get':∀{vs:List V} {ds:List D} {i:Nat} {v:V},Reps K F vs ds->vs[i]? =some v->∃d,ds[i]? =some d/\df K F v d
 |_,_,_,_, .nil,h=>by simp at h
 |_,_,0,_, .cons r t,h=>by simp at h;subst h;exact⟨_,rfl,r⟩
 |_,_,i+1,_, .cons r t,h=>by
  obtain⟨v,h1,h2⟩:=t.get' (i:=i) (by simpa using h)
  exact⟨v,by simpa using h1,h2⟩
theorem Reps.set:∀{vs:List V} {ds:List D} {v:V} {d:D} (i:Nat),Reps K F vs ds->df K F v d->Reps K F (vs.set i v) (ds.set i d)
 |_,_,_,_,_, .nil,_=> .nil
 |_,_,_,_,0, .cons r t,h=> .cons h t
 |_,_,_,_,i+1, .cons r t,h=> .cons r (t.set i h)
theorem Reps.eraseIdx:∀{vs:List V} {ds:List D} (i:Nat),Reps K F vs ds->Reps K F (vs.eraseIdx i) (ds.eraseIdx i)
 |_,_,_, .nil=> .nil
 |_,_,0, .cons r t=>t
 |_,_,i+1, .cons r t=> .cons r (t.eraseIdx i)
theorem Reps.drop:∀{vs:List V} {ds:List D} (i:Nat),Reps K F vs ds->Reps K F (vs.drop i) (ds.drop i)
 |_,_,0,h=>h
 |_,_,_+1, .nil=> .nil
 |_,_,i+1, .cons r t=>t.drop i
theorem Reps.take:∀{vs:List V} {ds:List D} (i:Nat),Reps K F vs ds->Reps K F (vs.take i) (ds.take i)
 |_,_,0,h=> .nil
 |_,_,_+1, .nil=> .nil
 |_,_,i+1, .cons r t=> .cons r (t.take i)
theorem Reps.reverse {vs:List V} {ds:List D} (h:Reps K F vs ds):Reps K F vs.reverse ds.reverse:=by
 induction h using Reps.rec (motive_1:=λ_ _ _=>True) (motive_3:=λ_ _ _=>True) (motive_4:=λ_ _ _=>True)with
 |nil=>exact .nil
 |cons r t _ ih=>rw[Gk,Gk];exact ih.append (.cons r .nil)
 |_=>trivial
end
structure bi (H F H' F':Hp):Prop where
 sub:aG F' H'
 keep:aG H H'
 grow:aG F F'
 new:∀a,F' a≠none->F a≠none\/H a=none
theorem bi.refl {H F:Hp} (h:aG F H):bi H F H F:=⟨h,aG.refl _,aG.refl _,λ_ h=> .inl h⟩
theorem bi.trans {H F H1 F1 H2 F2:Hp} (a:bi H F H1 F1) (b:bi H1 F1 H2 F2):bi H F H2 F2:=
 ⟨b.sub,a.keep.trans b.keep,a.grow.trans b.grow,λx h=>(b.new x h).elim (λq=>a.new x q) λq=> .inr (a.keep.free q)⟩
theorem bC {H:Hp} {p:Dk} {o:HO} (h:H p=none):aG H (bc H p o):=λb u e=>by
 rw[al (λz=>by rw[z,h]at e;cases e)];exact e
theorem bi.lay {H F:Hp} (s:aG F H) {p:Dk} {o:HO} (h:H p=none):bi H F (bc H p o) (bc F p o):=by
 refine⟨λb u e=> ?_,bC h,bC (s.free h),λb e=> ?_⟩
 ·by_cases z:b=p
  ·subst z;rw[aq]at e ⊢;exact e
  ·rw[al z]at e ⊢;exact s b u e
 ·by_cases z:b=p
  ·subst z;exact .inr h
  ·rw[al z]at e;exact .inl e
theorem bi.layOwn {H F:Hp} (s:aG F H) {p:Dk} {o:HO} (h:H p=none):bi H F (bc H p o) F:=
 ⟨s.trans (bC h),bC h,aG.refl _,λ_ e=> .inl e⟩
inductive Slot where
 |val (d:D)|own (d:D)|bor (d:D)|obj|cel (x:Dj) (Ka:List (Dj×D)) (f:Dj) (hs:List D)
def Slot.data:Slot->D
 | .val d=>d
 | .own d=>d
 | .bor d=>d
 | .obj=> .non
 | .cel .. => .non
def Slot.single:Slot->Bool
 | .obj=>true
 | .cel .. =>true
 |_=>false
abbrev aa:=List (Option Slot)
inductive fO (K:Dh) (F:Hp):HO->D->Prop
 |lst {vs:List V} {ds:List D}:Reps K F vs ds->fO K F (.lst vs) (.lst ds)
 |dic {Ke:List (cn×V)} {LK:List (cn×D)}:RepK K F Ke LK->(Ke.map (·.1)).Nodup->fO K F (.dK Ke) (.dic LK)
theorem fO.mono {K:Dh} {F F':Hp} (e:aG F F') {o:HO} {d:D}:fO K F o d->fO K F' o d
 | .lst r=> .lst (r.mono e)
 | .dic r n=> .dic (r.mono e) n
structure cw (ly:List cY)where
 H0:Hp
 F0:Hp
 B:Hp
 Er:Dj->aa->Prop
 oa:Nat->Option Dk:=λ_=>none
 Fm:Hp:=λ_=>none
structure gX (K:Dh) (H0 H F:Hp) (a dx b:Dk) (x:Dj) (Ka:List (Dj×D)) (f:Dj) (hs:List D):Prop where
 ex:∃C fs vs us,H a=some (.ins C dx fs)/\DB K Dt x=some (some (.ref C))/\fs.lookup f=some (.ref b)/\H b=some (.lst us)/\Reps K F us hs/\RepF K F vs Ka/\(∀p∈vs,fs.lookup p.1=some p.2)/\
  (∀g v,fs.lookup g=some v->g=f\/g∈vs.map (·.1))/\(fs.map (·.1)).Nodup/\f∉vs.map (·.1)
 own:H dx=some (.own a)
 fa:F a=none
 fd:F dx=none
 fb:F b=none
 za:H0 a=none
 zd:H0 dx=none
 zb:H0 b=none
theorem bi.out {H F H' F':Hp} (e:bi H F H' F') {a:Dk} {o:HO} (h:H a=some o) (hF:F a=none):F' a=none:=by
 cases q:F' a with
 |none=>rfl
 |some u=>
  rcases e.new a (by rw[q];simp)with z|z
  ·exact absurd hF z
  ·rw[h]at z;cases z
theorem gX.step {K:Dh} {H0 H F H' F':Hp} {a dx b:Dk} {x:Dj} {Ka:List (Dj×D)} {f:Dj} {hs:List D} (h:gX K H0 H F a dx b x Ka f hs) (e:bi H F H' F'):gX K H0 H' F' a dx b x Ka f hs:=by
 obtain⟨C,fs,vs,us,h1,h2,h3,h4,h5,h6,h7,h8⟩:=h.ex
 exact⟨⟨C,fs,vs,us,e.keep _ _ h1,h2,h3,e.keep _ _ h4,h5.mono e.grow,h6.mono e.grow,h7,h8⟩,e.keep _ _ h.own,e.out h1 h.fa,e.out h.own h.fd,e.out h4 h.fb,h.za,h.zd,h.zb⟩
structure j6 (K:Dh) (H0:Hp) (ρ:aa) (σ:St) (H F:Hp):Prop where
 ex:∀(i:Nat) x Ka f hs,ρ[i]? =some (some (.cel x Ka f hs))->∃a dx b,σ[i]? =some (some (.ref a))/\gX K H0 H F a dx b x Ka f hs/\∀(j:Nat) d,ρ[j]? =some (some (.own d))->σ[j]? ≠some (some (.ref b))
 one:∀(i j:Nat) x Ka f hs s,ρ[i]? =some (some (.cel x Ka f hs))->ρ[j]? =some (some s)->s.single=true->i=j
theorem j6.no {K:Dh} {H0:Hp} {ρ:aa} {σ:St} {H F:Hp} (h:∀(i:Nat) x Ka f hs,ρ[i]? ≠some (some (.cel x Ka f hs))):j6 K H0 ρ σ H F:=⟨λi x Ka f hs e=>absurd e (h i x Ka f hs),λi j x Ka f hs s e=>absurd e (h i x Ka f hs)⟩
theorem j6.step {K:Dh} {H0 H F H' F':Hp} {ρ:aa} {σ:St} (h:j6 K H0 ρ σ H F) (e:bi H F H' F'):j6 K H0 ρ σ H' F':=
 ⟨λi x Ka f hs q=>by obtain⟨a,dx,b,h1,h2,h3⟩:=h.ex i x Ka f hs q;exact⟨a,dx,b,h1,h2.step e,h3⟩,h.one⟩
structure RI (K:Dh) (c:cw ly) (ρ:aa) (σ:St) (H F:Hp):Prop where
 ext:bi c.H0 c.F0 H F
 val:∀(i:Nat) d,ρ[i]? =some (some (.val d))->∃v,σ[i]? =some (some v)/\df K F v d
 own:∀(i:Nat) d,ρ[i]? =some (some (.own d))->∃a o,σ[i]? =some (some (.ref a))/\H a=some o/\F a=none/\c.H0 a=none/\fO K F o d
 bor:∀(i:Nat) d,ρ[i]? =some (some (.bor d))->∃a o,σ[i]? =some (some (.ref a))/\c.B a=some o/\fO K c.F0 o d
 bh:aG c.B c.H0
 dis:∀(i j:Nat) d d' a,ρ[i]? =some (some (.own d))->ρ[j]? =some (some (.own d'))->σ[i]? =some (some (.ref a))->σ[j]? =some (some (.ref a))->i=j
 len:ρ.length=σ.length
 obj:∀L∈ly,ρ[L.x]? =some (some .obj)->∃a dx fs,(∀b,c.oa L.x=some b->a=b)/\σ[L.x]? =some (some (.ref a))/\H a=some (.ins L.C dx fs)/\H dx=some (.own a)/\F a=none/\F dx=none/\c.H0 a=none/\c.H0 dx=none/\
  (∀p∈L.fl,fs.lookup p.1=(σ[p.2]?).join)/\(∀f v,fs.lookup f=some v->f∈L.fl.map (·.1))/\(fs.map (·.1)).Nodup
 odis:∀L∈ly,∀L'∈ly,ρ[L.x]? =some (some .obj)->ρ[L'.x]? =some (some .obj)->∀a,σ[L.x]? =some (some (.ref a))->σ[L'.x]? =some (some (.ref a))->L=L'
 fm:aG c.Fm F
 cel:j6 K c.H0 ρ σ H F
 pin:∀L∈ly,∀a,c.oa L.x=some a->σ[L.x]? =some (some (.ref a))
def gY (ly:List cY) (i:Nat):Prop:=∀L∈ly,L.x≠i/\∀p∈L.fl,p.2≠i
theorem dA {i:Nat}:gY [] i:=λL h=>by cases h
theorem cN {L:cY} {ls:List cY} {i:Nat} (h:L.x≠i/\∀p∈L.fl,p.2≠i) (r:gY ls i):gY (L::ls) i:=λM hM=>by
 rcases DN.mp hM with rfl|hM
 ·exact h
 ·exact r M hM
section
variable {K:Dh} {c:cw ly} {ρ:aa} {σ:St} {H F H' F':Hp}
theorem RI.step (r:RI K c ρ σ H F) (e:bi H F H' F'):RI K c ρ σ H' F' where
 cel:=r.cel.step e
 pin:=r.pin
 obj:=λL hL hρ=>by
  obtain⟨a,dx,fs,h0,h1,h2,h3,h4,h5,h6,h7,h8⟩:=r.obj L hL hρ
  exact⟨a,dx,fs,h0,h1,e.keep _ _ h2,e.keep _ _ h3,e.out h2 h4,e.out h3 h5,h6,h7,h8⟩
 odis:=r.odis
 fm:=r.fm.trans e.grow
 ext:=r.ext.trans e
 val:=λi d h=>by obtain⟨v,h1,h2⟩:=r.val i d h;exact⟨v,h1,h2.mono e.grow⟩
 own:=λi d h=>by
  obtain⟨a,o,h1,h2,h3,h4,h5⟩:=r.own i d h
  refine⟨a,o,h1,e.keep _ _ h2,?_,h4,h5.mono e.grow⟩
  cases q:F' a with
  |none=>rfl
  |some u=>
   rcases e.new a (by rw[q];simp)with z|z
   ·exact absurd h3 z
   ·rw[h2]at z;cases z
 bor:=r.bor
 bh:=r.bh
 dis:=r.dis
 len:=r.len
theorem RI.sub (r:RI K c ρ σ H F):aG F H:=r.ext.sub
theorem am {α:Type} {l:List α} {i j:Nat} {a b:α} (h:(l.set i a)[j]? =some b):(i=j/\a=b/\i<l.length)\/(i≠j/\l[j]? =some b):=by
 rw[FH]at h
 by_cases e:i=j
 ·rw[if_pos e]at h
  split at h
  ·cases h;exact .inl ⟨e,rfl,by assumption⟩
  ·cases h
 ·rw[if_neg e]at h;exact .inr ⟨e,h⟩
theorem dB {α:Type} {l:List α} {i:Nat} {a:α} (h:i<l.length):(l.set i a)[i]? =some a:=by
 rw[FH,if_pos rfl,if_pos h]
theorem ac {α:Type} {l:List α} {i j:Nat} {a:α} (h:i≠j):(l.set i a)[j]? =l[j]? :=by
 rw[FH,if_neg h]
theorem j6.set {K:Dh} {H0:Hp} {ρ:aa} {σ:St} {H F:Hp} (h:j6 K H0 ρ σ H F) (i:Nat) {s:Option Slot} {v:Option V} (hn:∀s',s=some s'->s'.single=false)
  (ho:∀d,s=some (.own d)->∀(j:Nat) x Ka f hs a C dx fs b,ρ[j]? =some (some (.cel x Ka f hs))->σ[j]? =some (some (.ref a))->H a=some (.ins C dx fs)->fs.lookup f=some (.ref b)->v≠some (.ref b)):j6 K H0 (ρ.set i s) (σ.set i v) H F:=by
 refine⟨λj x Ka f hs q=> ?_,λj k x Ka f hs s' q q2 KC=> ?_⟩
 ·rcases am q with ⟨_,z,_⟩|⟨z,q⟩
  ·have:=hn _ z;cases this
  ·obtain⟨a,dx,b,h1,h2,h3⟩:=h.ex j x Ka f hs q
   refine⟨a,dx,b,by rw[ac z];exact h1,h2,λk d w=> ?_⟩
   rcases am w with ⟨rfl,z',l⟩|⟨z',w⟩
   ·obtain⟨C,fs,vs,us,g1,g2,g3,_⟩:=h2.ex
    intro e
    rw[FH]at e
    split at e
    ·split at e
     ·exact ho d z' j x Ka f hs a C dx fs b q h1 g1 g3 (by simpa using e)
     ·cases e
    ·rename_i ne;exact absurd rfl ne
   ·rw[ac z'];exact h3 k d w
 ·rcases am q with ⟨_,z,_⟩|⟨z,q⟩
  ·have:=hn _ z;cases this
  ·rcases am q2 with ⟨_,z',_⟩|⟨z',q2⟩
   ·have:=hn _ z';rw[KC]at this;cases this
   ·exact h.one j k x Ka f hs s' q q2 KC
theorem RI.setVal (r:RI K c ρ σ H F) (i:Nat) {v:V} {d:D} (hf:gY ly i) (h:df K F v d):RI K c (ρ.set i (some (.val d))) (σ.set i (some v)) H F where
 cel:=r.cel.set i (λs' e=>by cases e;rfl) (λd e=>by cases e)
 pin:=λL hL a h=>by rw[ac (hf L hL).1.symm];exact r.pin L hL a h
 obj:=λL hL hρ=>by
  rw[ac (hf L hL).1.symm]at hρ
  obtain⟨a,dx,fs,h0,h1,h2,h3,h4,h5,h6,h7,h8,h9⟩:=r.obj L hL hρ
  refine⟨a,dx,fs,h0,by rw[ac (hf L hL).1.symm];exact h1,h2,h3,h4,h5,h6,h7,λp hp=> ?_,h9⟩
  rw[ac ((hf L hL).2 p hp).symm];exact h8 p hp
 odis:=λL hL L' M9 q1 q2 a k1 k2=>by
  rw[ac (hf L hL).1.symm]at k1 q1
  rw[ac (hf L' M9).1.symm]at k2 q2
  exact r.odis L hL L' M9 q1 q2 a k1 k2
 fm:=r.fm
 ext:=r.ext
 val:=λj e q=>by
  rcases am q with ⟨rfl,z,l⟩|⟨z,q⟩
  ·cases z;exact⟨v,dB (by rw[<-r.len];exact l),h⟩
  ·rw[ac z];exact r.val j e q
 own:=λj e q=>by
  rcases am q with ⟨rfl,z,l⟩|⟨z,q⟩
  ·cases z
  ·rw[ac z];exact r.own j e q
 bor:=λj e q=>by
  rcases am q with ⟨rfl,z,l⟩|⟨z,q⟩
  ·cases z
  ·rw[ac z];exact r.bor j e q
 bh:=r.bh
 dis:=λj k e e' a q1 q2 q3 q4=>by
  rcases am q1 with ⟨rfl,z,l⟩|⟨z,q1⟩
  ·cases z
  ·rcases am q2 with ⟨rfl,z',l⟩|⟨z',q2⟩
   ·cases z'
   ·rw[ac z]at q3;rw[ac z']at q4
    exact r.dis j k e e' a q1 q2 q3 q4
 len:=by simp[r.len]
theorem RI.setNone (r:RI K c ρ σ H F) (i:Nat) {v:Option V} (hf:gY ly i):RI K c (ρ.set i none) (σ.set i v) H F where
 cel:=r.cel.set i (λs' e=>by cases e) (λd e=>by cases e)
 pin:=λL hL a h=>by rw[ac (hf L hL).1.symm];exact r.pin L hL a h
 obj:=λL hL hρ=>by
  rw[ac (hf L hL).1.symm]at hρ
  obtain⟨a,dx,fs,h0,h1,h2,h3,h4,h5,h6,h7,h8,h9⟩:=r.obj L hL hρ
  refine⟨a,dx,fs,h0,by rw[ac (hf L hL).1.symm];exact h1,h2,h3,h4,h5,h6,h7,λp hp=> ?_,h9⟩
  rw[ac ((hf L hL).2 p hp).symm];exact h8 p hp
 odis:=λL hL L' M9 q1 q2 a k1 k2=>by
  rw[ac (hf L hL).1.symm]at k1 q1
  rw[ac (hf L' M9).1.symm]at k2 q2
  exact r.odis L hL L' M9 q1 q2 a k1 k2
 fm:=r.fm
 ext:=r.ext
 val:=λj e q=>by
  rcases am q with ⟨rfl,z,l⟩|⟨z,q⟩
  ·cases z
  ·rw[ac z];exact r.val j e q
 own:=λj e q=>by
  rcases am q with ⟨rfl,z,l⟩|⟨z,q⟩
  ·cases z
  ·rw[ac z];exact r.own j e q
 bor:=λj e q=>by
  rcases am q with ⟨rfl,z,l⟩|⟨z,q⟩
  ·cases z
  ·rw[ac z];exact r.bor j e q
 bh:=r.bh
 dis:=λj k e e' a q1 q2 q3 q4=>by
  rcases am q1 with ⟨rfl,z,l⟩|⟨z,q1⟩
  ·cases z
  ·rcases am q2 with ⟨rfl,z',l⟩|⟨z',q2⟩
   ·cases z'
   ·rw[ac z]at q3;rw[ac z']at q4
    exact r.dis j k e e' a q1 q2 q3 q4
 len:=by simp[r.len]
theorem RI.setOwn (r:RI K c ρ σ H F) (i:Nat) {a:Dk} {o:HO} {d:D} (hf:gY ly i) (h:H a=some o) (hF:F a=none) (h0:c.H0 a=none) (q:fO K F o d)
  (ne:∀(j:Nat) d',j≠i->ρ[j]? =some (some (.own d'))->σ[j]? ≠some (some (.ref a)))
  (nb:∀(j:Nat) x Ka f hs a' C dx fs,ρ[j]? =some (some (.cel x Ka f hs))->σ[j]? =some (some (.ref a'))->H a'=some (.ins C dx fs)->fs.lookup f≠some (.ref a)):RI K c (ρ.set i (some (.own d))) (σ.set i (some (.ref a))) H F where
 cel:=r.cel.set i (λs' e=>by cases e;rfl) (λd e j x Ka f hs a' C dx fs b q1 q2 q3 q4 z=>by cases z;exact nb j x Ka f hs a' C dx fs q1 q2 q3 q4)
 pin:=λL hL b h=>by rw[ac (hf L hL).1.symm];exact r.pin L hL b h
 obj:=λL hL hρ=>by
  rw[ac (hf L hL).1.symm]at hρ
  obtain⟨b,dx,fs,h0,h1,h2,h3,h4,h5,h6,h7,h8,h9⟩:=r.obj L hL hρ
  refine⟨b,dx,fs,h0,by rw[ac (hf L hL).1.symm];exact h1,h2,h3,h4,h5,h6,h7,λp hp=> ?_,h9⟩
  rw[ac ((hf L hL).2 p hp).symm];exact h8 p hp
 odis:=λL hL L' M9 q1 q2 b k1 k2=>by
  rw[ac (hf L hL).1.symm]at k1 q1
  rw[ac (hf L' M9).1.symm]at k2 q2
  exact r.odis L hL L' M9 q1 q2 b k1 k2
 fm:=r.fm
 ext:=r.ext
 val:=λj e q=>by
  rcases am q with ⟨rfl,z,l⟩|⟨z,q⟩
  ·cases z
  ·rw[ac z];exact r.val j e q
 own:=λj e q'=>by
  rcases am q' with ⟨rfl,z,l⟩|⟨z,q'⟩
  ·cases z;exact⟨a,o,dB (by rw[<-r.len];exact l),h,hF,h0,q⟩
  ·rw[ac z];exact r.own j e q'
 bor:=λj e q=>by
  rcases am q with ⟨rfl,z,l⟩|⟨z,q⟩
  ·cases z
  ·rw[ac z];exact r.bor j e q
 bh:=r.bh
 dis:=λj k e e' b q1 q2 q3 q4=>by
  rcases am q1 with ⟨rfl,z,l⟩|⟨z,q1⟩
  ·rw[dB (by rw[<-r.len];exact l)]at q3
   cases q3
   rcases am q2 with ⟨rfl,z',l⟩|⟨z',q2⟩
   ·rfl
   ·rw[ac z']at q4
    exact absurd q4 (ne k e' (E_ z') q2)
  ·rw[ac z]at q3
   rcases am q2 with ⟨rfl,z',l⟩|⟨z',q2⟩
   ·rw[dB (by rw[<-r.len];exact l)]at q4
    cases q4
    exact absurd q3 (ne j e (E_ z) q1)
   ·rw[ac z']at q4
    exact r.dis j k e e' b q1 q2 q3 q4
 len:=by simp[r.len]
theorem RI.celNe (r:RI K c ρ σ H F) {H2:Hp} (k:aG H H2) {p:Dk} (hp:H p=none):∀(j:Nat) x Ka f hs a' C dx fs,ρ[j]? =some (some (.cel x Ka f hs))->σ[j]? =some (some (.ref a'))->H2 a'=some (.ins C dx fs)->fs.lookup f≠some (.ref p):=λj x Ka f hs a' C dx fs q1 q2 q3 q4=>by
 obtain⟨a,SI,b,h1,h2,_⟩:=r.cel.ex j x Ka f hs q1
 rw[q2]at h1
 cases h1
 obtain⟨C0,SJ,vs,us,g1,g2,g3,g4,_⟩:=h2.ex
 rw[k _ _ g1]at q3
 cases q3
 rw[g3]at q4
 cases q4
 rw[hp]at g4
 cases g4
theorem RI.setNew (r:RI K c ρ σ H F) (i:Nat) {a:Dk} {o:HO} {d:D} (hf:gY ly i) (h:H a=none) (q:fO K F o d):RI K c (ρ.set i (some (.own d))) (σ.set i (some (.ref a))) (bc H a o) F:=by
 have r':=r.step (bi.layOwn r.sub (o:=o) h)
 refine r'.setOwn i hf aq (r.sub.free h) (r.ext.keep.free h) q (λj d' _ hj e=> ?_) (r.celNe (bC h) h)
 obtain⟨b,o',h1,h2,_⟩:=r.own j d' hj
 rw[e]at h1
 cases h1
 rw[h]at h2
 cases h2
theorem RI.change (r:RI K c ρ σ H F) {i:Nat} {a:Dk} {o o':HO} {d d':D} (hi:ρ[i]? =some (some (.own d))) (hs:σ[i]? =some (some (.ref a))) (q:fO K F o' d'):
  RI K c (ρ.set i (some (.own d'))) σ (bc H a o') F:=by
 obtain⟨b,u,h1,h2,h3,h4,h5⟩:=r.own i d hi
 rw[hs]at h1
 cases h1
 refine⟨⟨λx y e=> ?_,λx y e=> ?_,r.ext.grow,r.ext.new⟩,λj e w=> ?_,λj e w=> ?_,λj e w=> ?_,r.bh,λj k e e' x q1 q2 q3 q4=> ?_,by simp[r.len],λL hL hρ=> ?_,λL hL L' M9 q1 q2=> ?_,r.fm,⟨λj x Ka f hs w=> ?_,λj k x Ka f hs s w w2 KC=> ?_⟩,r.pin⟩
 ·rw[al (λz=>by rw[z,h3]at e;cases e)];exact r.sub x y e
 ·rw[al (λz=>by rw[z,h4]at e;cases e)];exact r.ext.keep x y e
 ·rcases am w with ⟨rfl,z,l⟩|⟨z,w⟩
  ·cases z
  ·exact r.val j e w
 ·rcases am w with ⟨rfl,z,l⟩|⟨z,w⟩
  ·cases z;exact⟨a,o',hs,aq,h3,h4,q⟩
  ·obtain⟨x,y,k1,k2,k3,k4,k5⟩:=r.own j e w
   refine⟨x,y,k1,?_,k3,k4,k5⟩
   rw[al (λzz=>by subst zz;exact z (r.dis i j d e x hi w hs k1))]
   exact k2
 ·rcases am w with ⟨rfl,z,l⟩|⟨z,w⟩
  ·cases z
  ·exact r.bor j e w
 ·have own_of:∀{l:Nat} {x:D},(ρ.set i (some (.own d')))[l]? =some (some (.own x))->∃y,ρ[l]? =some (some (.own y)):=λ{l x} w=>by
   rcases am w with ⟨rfl,z,_⟩|⟨z,w⟩
   ·exact⟨d,hi⟩
   ·exact⟨x,w⟩
  obtain⟨y1,w1⟩:=own_of q1
  obtain⟨y2,w2⟩:=own_of q2
  exact r.dis j k y1 y2 x w1 w2 q3 q4
 ·have Qe:ρ[L.x]? =some (some .obj):=by
   rcases am hρ with ⟨_,z,_⟩|⟨_,w⟩
   ·cases z
   ·exact w
  obtain⟨b,dx,fs,k0,k1,k2,k3,k4⟩:=r.obj L hL Qe
  have n1:b≠a:=λz=>by subst z;rw[k2]at h2;cases h2;cases h5
  have n2:dx≠a:=λz=>by subst z;rw[k3]at h2;cases h2;cases h5
  exact⟨b,dx,fs,k0,k1,by rw[al n1];exact k2,by rw[al n2];exact k3,k4⟩
 ·refine r.odis L hL L' M9 ?_ ?_
  ·rcases am q1 with ⟨_,z,_⟩|⟨_,w⟩
   ·cases z
   ·exact w
  ·rcases am q2 with ⟨_,z,_⟩|⟨_,w⟩
   ·cases z
   ·exact w
 ·rcases am w with ⟨rfl,z,l⟩|⟨z,w⟩
  ·cases z
  ·obtain⟨b,dx,bb,k1,k2,k3⟩:=r.cel.ex j x Ka f hs w
   obtain⟨C,fs,vs,us,g1,g2,g3,g4,g5⟩:=k2.ex
   have n1:b≠a:=λz=>by subst z;rw[g1]at h2;cases h2;cases h5
   have n2:dx≠a:=λz=>by subst z;rw[k2.own]at h2;cases h2;cases h5
   have n3:bb≠a:=λz=>by subst z;exact k3 i d hi hs
   refine⟨b,dx,bb,k1,⟨⟨C,fs,vs,us,by rw[al n1];exact g1,g2,g3,by rw[al n3];exact g4,g5⟩,by rw[al n2];exact k2.own,k2.fa,k2.fd,k2.fb,k2.za,k2.zd,k2.zb⟩,λk e w2=> ?_⟩
   rcases am w2 with ⟨rfl,z',l⟩|⟨z',w2⟩
   ·exact k3 i d hi
   ·exact k3 k e w2
 ·rcases am w with ⟨rfl,z,l⟩|⟨z,w⟩
  ·cases z
  ·rcases am w2 with ⟨rfl,z',l⟩|⟨z',w2⟩
   ·cases z';cases KC
   ·exact r.cel.one j k x Ka f hs s w w2 KC
end
def frz1 (i:Nat) (ρ:aa):aa:=match ρ[i]? with
 |some (some (.own d))=>ρ.set i (some (.val d))
 |_=>ρ
def frz (L:List Nat) (ρ:aa):aa:=L.foldl (λr i=>frz1 i r) ρ
theorem RI.frz1 {K:Dh} {c:cw ly} {ρ:aa} {σ:St} {H F:Hp} (r:RI K c ρ σ H F) (i:Nat):∃F',aG F F'/\RI K c (frz1 i ρ) σ H F':=by
 unfold L2.Pu.frz1
 split
 ·rename_i d hi
  obtain⟨a,o,h1,h2,h3,h4,h5⟩:=r.own i d hi
  have g:aG F (bc F a o):=bC h3
  refine⟨bc F a o,g,⟨⟨λb u e=> ?_,r.ext.keep,r.ext.grow.trans g,λb e=> ?_⟩,λj e w=> ?_,λj e w=> ?_,λj e w=> ?_,r.bh,λj k e e' x q1 q2 q3 q4=> ?_,by simp[r.len],λL hL hρ=> ?_,λL hL L' M9 q1 q2=> ?_,r.fm.trans g,⟨λj x Ka f hs w=> ?_,λj k x Ka f hs s w w2 KC=> ?_⟩,r.pin⟩⟩
  ·by_cases z:b=a
   ·subst z;rw[aq]at e;rw[h2];exact e
   ·rw[al z]at e;exact r.sub b u e
  ·by_cases z:b=a
   ·subst z;exact .inr h4
   ·rw[al z]at e;exact r.ext.new b e
  ·rcases am w with ⟨rfl,z,l⟩|⟨z,w⟩
   ·cases z
    refine⟨.ref a,h1,?_⟩
    cases h5 with
    |lst q=>exact .lst aq (q.mono g)
    |dic q n=>exact .dic aq (q.mono g) n
   ·obtain⟨v,k1,k2⟩:=r.val j e w;exact⟨v,k1,k2.mono g⟩
  ·rcases am w with ⟨rfl,z,l⟩|⟨z,w⟩
   ·cases z
   ·obtain⟨x,y,k1,k2,k3,k4,k5⟩:=r.own j e w
    refine⟨x,y,k1,k2,?_,k4,k5.mono g⟩
    rw[al (λzz=>by subst zz;exact z (r.dis i j d e x hi w h1 k1))]
    exact k3
  ·rcases am w with ⟨rfl,z,l⟩|⟨z,w⟩
   ·cases z
   ·exact r.bor j e w
  ·rcases am q1 with ⟨rfl,z,l⟩|⟨z,q1⟩
   ·cases z
   ·rcases am q2 with ⟨rfl,z',l⟩|⟨z',q2⟩
    ·cases z'
    ·exact r.dis j k e e' x q1 q2 q3 q4
  ·have Qe:ρ[L.x]? =some (some .obj):=by
    rcases am hρ with ⟨_,z,_⟩|⟨_,w⟩
    ·cases z
    ·exact w
   obtain⟨b,dx,fs,k0,k1,k2,k3,k4,k5,k6⟩:=r.obj L hL Qe
   have n1:b≠a:=λz=>by subst z;rw[k2]at h2;cases h2;cases h5
   have n2:dx≠a:=λz=>by subst z;rw[k3]at h2;cases h2;cases h5
   exact⟨b,dx,fs,k0,k1,k2,k3,by rw[al n1];exact k4,by rw[al n2];exact k5,k6⟩
  ·refine r.odis L hL L' M9 ?_ ?_
   ·rcases am q1 with ⟨_,z,_⟩|⟨_,w⟩
    ·cases z
    ·exact w
   ·rcases am q2 with ⟨_,z,_⟩|⟨_,w⟩
    ·cases z
    ·exact w
  ·rcases am w with ⟨rfl,z,l⟩|⟨z,w⟩
   ·cases z
   ·obtain⟨b,dx,bb,k1,k2,k3⟩:=r.cel.ex j x Ka f hs w
    obtain⟨C,fs,vs,us,g1,g2,g3,g4,g5,g6,g7⟩:=k2.ex
    have n1:b≠a:=λz=>by subst z;rw[g1]at h2;cases h2;cases h5
    have n2:dx≠a:=λz=>by subst z;rw[k2.own]at h2;cases h2;cases h5
    have n3:bb≠a:=λz=>by subst z;exact k3 i d hi h1
    refine⟨b,dx,bb,k1,⟨⟨C,fs,vs,us,g1,g2,g3,g4,g5.mono g,g6.mono g,g7⟩,k2.own,by rw[al n1];exact k2.fa,by rw[al n2];exact k2.fd,by rw[al n3];exact k2.fb,k2.za,k2.zd,k2.zb⟩,λk e w2=> ?_⟩
    rcases am w2 with ⟨rfl,z',l⟩|⟨z',w2⟩
    ·cases z'
    ·exact k3 k e w2
  ·rcases am w with ⟨rfl,z,l⟩|⟨z,w⟩
   ·cases z
   ·rcases am w2 with ⟨rfl,z',l⟩|⟨z',w2⟩
    ·cases z';cases KC
    ·exact r.cel.one j k x Ka f hs s w w2 KC
 ·exact⟨F,aG.refl _,r⟩
theorem RI.frz {K:Dh} {c:cw ly} {σ:St} {H:Hp}:∀(L:List Nat) {ρ:aa} {F:Hp},RI K c ρ σ H F->∃F',aG F F'/\RI K c (frz L ρ) σ H F'
 |[],ρ,F,r=>⟨F,aG.refl _,r⟩
 |i::L,ρ,F,r=>by
  obtain⟨F1,g1,r1⟩:=r.frz1 i
  obtain⟨F2,g2,r2⟩:=RI.frz L r1
  exact⟨F2,g1.trans g2,r2⟩
end L2.Pu
namespace L2.Pu
open PySem PySem.Spec PyProof.Rows
variable {ly:List cY}
inductive R (α:Type)where
 |ok (a:α)|err (c:Dj) (ρ:aa)|bad
def R.bind {α β:Type}:R α->(α->R β)->R β
 | .ok a,f=>f a
 | .err c ρ,_=> .err c ρ
 | .bad,_=> .bad
instance:Monad R where
 pure:=R.ok
 bind:=R.bind
@[simp] theorem ai {α β:Type} (a:α) (f:α->R β):(R.ok a>>=f)=f a:=rfl
@[simp] theorem AW {α β:Type} (c:Dj) (ρ:aa) (f:α->R β):(R.err c ρ>>=f)=R.err c ρ:=rfl
@[simp] theorem AX {α β:Type} (f:α->R β):(R.bad>>=f)=R.bad:=rfl
@[simp] theorem Bx {α:Type} (a:α):(pure a:R α)=R.ok a:=rfl
def R.of {α:Type}:Option α->R α
 |some a=> .ok a
 |none=> .bad
@[simp] theorem cA {α:Type} (a:α):R.of (some a)= .ok a:=rfl
@[simp] theorem By {α:Type}:R.of (none:Option α)= .bad:=rfl
def aA {α:Type} (c:cw ly) (r:R α) (P:α->Prop):Prop:=match r with
 | .ok a=>P a
 | .err e ρ=>c.Er e ρ
 | .bad=>False
theorem aA.imp {α:Type} {c:cw ly} {r:R α} {P P':α->Prop} (h:aA c r P) (w:∀a,r= .ok a->P a->P' a):aA c r P':=by
 cases r with
 |ok a=>exact w a rfl h
 |err e ρ=>exact h
 |bad=>exact h
theorem aA.bind {α β:Type} {c:cw ly} {r:R α} {f:α->R β} {P:β->Prop}:aA c (r>>=f) P<->aA c r λa=>aA c (f a) P:=by
 cases r<;>exact Iff.rfl
theorem aA.of {α:Type} {c:cw ly} {r:Option α} {P:α->Prop} (h:aA c (R.of r) P):∃a,r=some a/\P a:=by
 cases r with
 |none=>exact h.elim
 |some a=>exact⟨a,rfl,h⟩
def c1 (K:Dh) (H F:Hp) (v:V) (d:D):Prop:=df K F v d\/∃a o,v= .ref a/\H a=some o/\fO K F o d
theorem c1.mono {K:Dh} {H F H' F':Hp} {v:V} {d:D} (e:bi H F H' F'):c1 K H F v d->c1 K H' F' v d
 | .inl r=> .inl (r.mono e.grow)
 | .inr ⟨a,o,h1,h2,h3⟩=> .inr ⟨a,o,h1,e.keep _ _ h2,h3.mono e.grow⟩
theorem c1.lst {K:Dh} {H F:Hp} {v:V} {ds:List D} (s:aG F H) (h:c1 K H F v (.lst ds)):∃a vs,v= .ref a/\H a=some (.lst vs)/\Reps K F vs ds:=by
 rcases h with h|⟨a,o,h1,h2,q⟩
 ·obtain⟨a,vs,e,h,r⟩:=h.inv
  exact⟨a,vs,e,s _ _ h,r⟩
 ·cases q with
  |lst r=>exact⟨_,_,h1,h2,r⟩
theorem c1.dic {K:Dh} {H F:Hp} {v:V} {ds:List (cn×D)} (s:aG F H) (h:c1 K H F v (.dic ds)):∃a vs,v= .ref a/\H a=some (.dK vs)/\RepK K F vs ds/\(vs.map (·.1)).Nodup:=by
 rcases h with h|⟨a,o,h1,h2,q⟩
 ·obtain⟨a,vs,e,h,r⟩:=h.inv
  exact⟨a,vs,e,s _ _ h,r⟩
 ·cases q with
  |dic r n=>exact⟨_,_,h1,h2,r,n⟩
def CW:D->Bool
 | .lst _=>true
 | .dic _=>true
 |_=>false
theorem c1.in {K:Dh} {H F:Hp} {v:V} {d:D} (h:c1 K H F v d) (n:CW d=false):uD K F v d:=by
 rcases h with h|⟨a,o,h1,h2,q⟩
 ·exact h.inv
 ·cases q<;>cases n
theorem c1.tup {K:Dh} {H F:Hp} {v:V} {ds:List D} (s:aG F H) (h:c1 K H F v (.tup ds)):∃a vs,v= .ref a/\H a=some (.tup vs)/\Reps K F vs ds:=by
 obtain⟨a,vs,e,h,r⟩:=h.in rfl
 exact⟨a,vs,e,s _ _ h,r⟩
theorem c1.scr {K:Dh} {H F:Hp} {v:V} {ns:List Int} (s:aG F H) (h:c1 K H F v (.scr ns)):∃a,v= .ref a/\cp K H a (ns.map V.int):=by
 obtain⟨a,e,h⟩:=h.in rfl
 exact⟨a,e,s.seq h⟩
theorem c1.int {K:Dh} {H F:Hp} {v:V} {i:Int} (h:c1 K H F v (.int i)):v= .int i:=h.in rfl
theorem c1.bl {K:Dh} {H F:Hp} {v:V} {i:Bool} (h:c1 K H F v (.bl i)):v= .bl i:=h.in rfl
theorem c1.str {K:Dh} {H F:Hp} {v:V} {i:Dj} (h:c1 K H F v (.str i)):v= .str i:=h.in rfl
theorem c1.non {K:Dh} {H F:Hp} {v:V} (h:c1 K H F v .non):v= .non:=h.in rfl
inductive kg (K:Dh) (H F:Hp):List V->List D->Prop
 |nil:kg K H F [] []
 |cons {v:V} {d:D} {vs:List V} {ds:List D}:c1 K H F v d->kg K H F vs ds->kg K H F (v::vs) (d::ds)
def d3 (K:Dh) (x:Dj) (cls:Di):Prop:=∃C,cls= .ref C/\DB K Dt x=some (some (.ref C))
def zi (X:Cx) (c:cw ly) (σ:St):XK:=λcls _ H'=>∃x ρ F',d3 X.K x cls/\RI X.K c ρ σ H' F'/\c.Er x ρ
def zj (X:Cx) (c:cw ly):Prop:=(fM X/\∀K4 σ ρ H F s a cls x,aw X K4 σ H s->RI X.K c ρ σ H F->Fl X K4 H s.heap a cls->d3 X.K x cls->c.Er x ρ->X.xe (.ref a) s)\/(∀x ρ,¬c.Er x ρ)\/(X.stack=X.outer/\gR (gW X.prog X.w) X (zi X c))
abbrev fE (ly:List cY) (X:Cx):Type:={c:cw ly // zj X c}
theorem zj.no {X:Cx} {c:cw ly} (h:∀x ρ,¬c.Er x ρ):zj X c:= .inr (.inl h)
theorem la {X:Cx} (c:fE ly X):gR (gW X.prog X.w) X (zi X c.1):=λK4 σ H s e s' I h=>by
 rcases c.2 with ⟨hp,O4⟩|no|⟨_,ps⟩
 ·obtain⟨a,cls,H',rfl,I',fl,x,ρ,F',ec,ri,er⟩:=zg I hp h
  exact O4 K4 σ ρ H' F' s' a cls x I' ri fl ec er
 ·obtain⟨a,cls,H',_,_,_,_,_,_,x,ρ,F',ec,ri,er⟩:=h
  exact absurd er (no x ρ)
 ·exact ps K4 σ H s e s' I h
theorem zj.plain {X:Cx} {c:cw ly} (h:zj X c) (N8:X.stack=X.env::X.outer):(fM X/\∀K4 σ ρ H F s a cls x,aw X K4 σ H s->RI X.K c ρ σ H F->Fl X K4 H s.heap a cls->d3 X.K x cls->c.Er x ρ->X.xe (.ref a) s)\/∀x ρ,¬c.Er x ρ:=by
 rcases h with h|h|⟨h,_⟩
 ·exact .inl h
 ·exact .inr h
 ·rw[h]at N8
  have:=congrArg List.length N8
  simp at this
def tQ (K:Dh) (c:cw ly) (f:aa->R D):TE:=λσ H Q=>∃F ρ,RI K c ρ σ H F/\aA c (f ρ) λd=>∀v H' F',bi H F H' F'->df K F' v d->Q v H'
def tB' (K:Dh) (c:cw ly) (f:aa->R D):TE:=λσ H Q=>∃F ρ,RI K c ρ σ H F/\aA c (f ρ) λd=>∀v H' F',bi H F H' F'->c1 K H' F' v d->Q v H'
def tT (K:Dh) (c:cw ly) (f:aa->R Bool):TT:=λσ H Q=>∃F ρ,RI K c ρ σ H F/\aA c (f ρ) λb=>∀H' F',bi H F H' F'->Q b H'
def Ab (K:Dh) (c:cw ly) (f:aa->R (List D)):TA:=λσ H Q=>∃F ρ,RI K c ρ σ H F/\aA c (f ρ) λds=>∀vs H' F',bi H F H' F'->Reps K F' vs ds->Q vs H'
def AY (K:Dh) (c:cw ly) (f:aa->R (List D)):TA:=λσ H Q=>∃F ρ,RI K c ρ σ H F/\aA c (f ρ) λds=>∀vs H' F',bi H F H' F'->kg K H' F' vs ds->Q vs H'
def PQ (ly:List cY) (X:Cx) (e:Dr) (f:aa->R D):Prop:=∀c:fE ly X,PE X e (tQ X.K c.1 f)
def PB (ly:List cY) (X:Cx) (e:Dr) (f:aa->R D):Prop:=∀c:fE ly X,PE X e (tB' X.K c.1 f)
def oG (ly:List cY) (X:Cx) (e:Dr) (f:aa->R Bool):Prop:=∀c:fE ly X,PT X e (tT X.K c.1 f)
def nM (ly:List cY) (X:Cx) (e:Dr) (f:aa->R Bool):Prop:=∀c:fE ly X,PW X e (tT X.K c.1 f)
def pS (ly:List cY) (X:Cx) (es:List Dr) (f:aa->R (List D)):Prop:=∀c:fE ly X,PA X es (Ab X.K c.1 f)
def zk (ly:List cY) (X:Cx) (es:List Dr) (f:aa->R (List D)):Prop:=∀c:fE ly X,PA X es (AY X.K c.1 f)
theorem PE.weak {X:Cx} {e:Dr} {t t':TE} (h:PE X e t) (w:∀σ H Q,t' σ H Q->t σ H Q):PE X e t':=λK4 s σ H Q I q=>h K4 s σ H Q I (w σ H Q q)
theorem PT.weak {X:Cx} {e:Dr} {t t':TT} (h:PT X e t) (w:∀σ H Q,t' σ H Q->t σ H Q):PT X e t':=λK4 s σ H Q I q=>h K4 s σ H Q I (w σ H Q q)
theorem PW.weak {X:Cx} {e:Dr} {t t':TT} (h:PW X e t) (w:∀σ H Q,t' σ H Q->t σ H Q):PW X e t':=λwh K4 s σ H Q I q=>h wh K4 s σ H Q I (w σ H Q q)
theorem PA.weak {X:Cx} {e:List Dr} {t t':TA} (h:PA X e t) (w:∀σ H Q,t' σ H Q->t σ H Q):PA X e t':=λpos K4 s σ H Q I q=>h pos K4 s σ H Q I (w σ H Q q)
theorem PS.weak {X:Cx} {e:DU} {t t':TS} (h:PS X e t) (w:∀D σ H,t' D σ H->t D σ H):PS X e t':=λK4 s σ H D I q=>h K4 s σ H D I (w D σ H q)
theorem mw.weak {X:Cx} {e:List DU} {t t':TS} (h:mw X e t) (w:∀D σ H,t' D σ H->t D σ H):mw X e t':=λK4 s σ H D I q=>h K4 s σ H D I (w D σ H q)
theorem PG.weak {X:Cx} {e:Dr} {t t':TG} (h:PG X e t) (w:∀v σ H Q,t' v σ H Q->t v σ H Q):PG X e t':=λK4 s σ H v u Q I r q=>h K4 s σ H v u Q I r (w v σ H Q q)
theorem zl {K:Dh} {c:cw ly} {fa fb:aa->R D} {g:D->D->R D} {σ:St} {H:Hp} {Q:VK} (h:tQ K c (λρ=>fa ρ>>=λx=>fb ρ>>=λy=>g x y) σ H Q)
  {T:V->V->Hp->Prop} (k:∀F H2 F2 v u x y,bi H F H2 F2->c1 K H2 F2 v x->c1 K H2 F2 u y->aA c (g x y) (λd=>∀w H' F',bi H F H' F'->df K F' w d->Q w H')->T v u H2):
  tB' K c fa σ H λv H1=>tB' K c fb σ H1 λu H2=>T v u H2:=by
 obtain⟨F,ρ,ri,w⟩:=h
 refine⟨F,ρ,ri,(aA.bind.mp w).imp λx hx w1 v H1 F1 e1 r1=>⟨F1,ρ,ri.step e1,(aA.bind.mp w1).imp λy hy w2 u H2 F2 e2 r2=> ?_⟩⟩
 exact k F H2 F2 v u x y (e1.trans e2) (r1.mono e2) r2 w2
def fP (K:Dh) (r:R2) (g:D->D->Option D):Prop:=∀v u x y d H F Q,aG F H->c1 K H F v x->c1 K H F u y->g x y=some d->(∀w H' F',bi H F H' F'->df K F' w d->Q w H')->r v u H Q
def qp (K:Dh) (r:List V->Hp->VK->Prop) (g:List D->Option D):Prop:=∀vs ds d H F Q,aG F H->kg K H F vs ds->g ds=some d->(∀w H' F',bi H F H' F'->df K F' w d->Q w H')->r vs H Q
section
variable {X:Cx} {a b e:Dr} {es:List Dr} {fa fb f:aa->R D} {fs:aa->R (List D)} {pos:DZ}
theorem PQ.bo (h:PQ ly X e f):PB ly X e f:=λc=>PE.weak (h c) λσ H Q ⟨F,ρ,ri,w⟩=>⟨F,ρ,ri,w.imp λd _ k v H' F' e r=>k v H' F' e (.inl r)⟩
def ax (i:Nat):aa->R D:=λρ=>match ρ[i]? with
 |some (some (.val d))=> .ok d
 |_=> .bad
def af (i:Nat):aa->R D:=λρ=>match ρ[i]? with
 |some (some .obj)=> .bad
 |some (some (.cel ..))=> .bad
 |some (some s)=> .ok s.data
 |_=> .bad
theorem Cf (h:PE X e (tR i)):PQ ly X e (ax i):=λc=>PE.weak h λσ H Q ⟨F,ρ,ri,w⟩=>by
 unfold ax at w
 split at w
 ·rename_i d hd
  obtain⟨v,h1,h2⟩:=ri.val i d hd
  exact⟨v,h1,w v H F (bi.refl ri.sub) h2⟩
 ·exact w.elim
theorem Cg (h:PE X e (tR i)):PB ly X e (af i):=λc=>PE.weak h λσ H Q ⟨F,ρ,ri,w⟩=>by
 unfold af at w
 split at w
 ·exact w.elim
 ·exact w.elim
 ·rename_i s Qf Qg hs
  cases s with
  |obj=>exact absurd rfl Qf
  |cel x Ka f hs=>exact absurd rfl (Qg _ _ _ _)
  |val d=>obtain⟨v,h1,h2⟩:=ri.val i d hs;exact⟨v,h1,w v H F (bi.refl ri.sub) (.inl h2)⟩
  |own d=>obtain⟨a,o,h1,h2,h3,h4,h5⟩:=ri.own i d hs;exact⟨_,h1,w _ H F (bi.refl ri.sub) (.inr ⟨a,o,rfl,h2,h5⟩)⟩
  |bor d=>obtain⟨a,o,h1,h2,h3⟩:=ri.bor i d hs;exact⟨_,h1,w _ H F (bi.refl ri.sub) (.inr ⟨a,o,rfl,ri.ext.keep _ _ (ri.bh _ _ h2),h3.mono ri.ext.grow⟩)⟩
 ·exact w.elim
theorem au (i:Nat) {x:Dj} (hN:X.N[i]? =some x:=by rfl) (hv:kD X.env.scope x:=by first|exact E7 rfl|exact DV (E7 rfl)|exact DV (DV rfl)) (hd:(x==("__debug__":Dj))=false:=by decide)
  (Lc:(x==("__classdict__":Dj))=false:=by decide):PQ ly X (.Name x pos) (ax i):=Cf (pv i hN hv hd Lc)
theorem ag (i:Nat) {x:Dj} (hN:X.N[i]? =some x:=by rfl) (hv:kD X.env.scope x:=by first|exact E7 rfl|exact DV (E7 rfl)|exact DV (DV rfl)) (hd:(x==("__debug__":Dj))=false:=by decide)
  (Lc:(x==("__classdict__":Dj))=false:=by decide):PB ly X (.Name x pos) (af i):=Cg (pv i hN hv hd Lc)
def fC (d:D):aa->R D:=λ_=> .ok d
theorem av {i:Int} {j:Nat}:PQ ly X (.Constant (.int i) j pos) (fC (.int i)):=λc=>PE.weak tU λσ H Q ⟨F,ρ,ri,w⟩=>w _ H F (bi.refl ri.sub) (.int i)
theorem oY {i:Bool} {j:Nat}:PQ ly X (.Constant (.bool i) j pos) (fC (.bl i)):=λc=>PE.weak Ak λσ H Q ⟨F,ρ,ri,w⟩=>w _ H F (bi.refl ri.sub) (.bl i)
theorem ye {j:Nat}:PQ ly X (.Constant .none j pos) (fC .non):=λc=>PE.weak yy λσ H Q ⟨F,ρ,ri,w⟩=>w _ H F (bi.refl ri.sub) .non
theorem bA {x:Dj} {j:Nat}:PQ ly X (.Constant (.str x) j pos) (fC (.str x)):=λc=>PE.weak yz λσ H Q ⟨F,ρ,ri,w⟩=>w _ H F (bi.refl ri.sub) (.str x)
theorem j7 {x:Dj} {i:Int} {t:GC} (hg:Gl X x) (hm:X.mg x=some (.int i t)) (hd:(x==("__debug__":Dj))=false:=by decide):PQ ly X (.Name x pos) (fC (.int i)):=
 λc=>PE.weak (qR hg hm (v:= .int i) ⟨t,rfl⟩ hd) λσ H Q ⟨F,ρ,ri,w⟩=>w _ H F (bi.refl ri.sub) (.int i)
def f2 (g:D->D->Option D) (fa fb:aa->R D):aa->R D:=λρ=>fa ρ>>=λx=>fb ρ>>=λy=>R.of (g x y)
theorem aH {op:Operator} {r:R2} {g:D->D->Option D} (ho:gQ X (F7 op) r) (MJ:fP X.K r g) (ha:PB ly X a fa) (hb:PB ly X b fb):PQ ly X (.BinOp a op b pos) (f2 g fa fb):=λc=>
 PE.weak (Ay ho (ha c) (hb c)) λσ H Q h=>zl h λF H2 F2 v u x y e rx ry w=>by
  obtain⟨d,hd,k⟩:=w.of
  exact MJ v u x y d H2 F2 Q e.sub rx ry hd λw H' F' e' r'=>k w H' F' (e.trans e') r'
def f1 (g:D->Option D) (fa:aa->R D):aa->R D:=λρ=>fa ρ>>=λx=>R.of (g x)
theorem kh {op:Iw} {r:R2} {g:D->D->Option D} (ho:gQ X (Eu op) r) (MJ:fP X.K r g) (ha:PB ly X a fa) (hb:PB ly X b fb) (hm:EA op b=false:=by first|exact ub _|with_unfolding_all rfl):
  PQ ly X (.Compare a [op] [b] pos) (f2 g fa fb):=λc=>
 PE.weak (wk ho (ha c) (hb c) hm) λσ H Q h=>zl h λF H2 F2 v u x y e rx ry w=>by
  obtain⟨d,hd,k⟩:=w.of
  exact MJ v u x y d H2 F2 Q e.sub rx ry hd λw H' F' e' r'=>k w H' F' (e.trans e') r'
def fT (f:aa->R D):aa->R Bool:=λρ=>f ρ>>=λd=>match d with
 | .bl b=> .ok b
 |_=> .bad
theorem zm {t:TE} (h:PT X e (xV t)) (w:∀σ H Q,tQ X.K c f σ H Q->t σ H Q):PT X e (tT X.K c (fT f)):=PT.weak h λσ H Q ⟨F,ρ,ri,k⟩=>by
 refine w σ H _ ⟨F,ρ,ri,(aA.bind.mp k).imp λd _ k1 v H' F' e r=> ?_⟩
 cases d with
 |bl b=>cases r;exact⟨b,rfl,k1 H' F' e⟩
 |_=>exact k1.elim
theorem bq {op:Iw} {r:R2} {g:D->D->Option D} (ho:gQ X (Eu op) r) (MJ:fP X.K r g) (ha:PB ly X a fa) (hb:PB ly X b fb) (hm:EA op b=false:=by first|exact ub _|with_unfolding_all rfl):
  oG ly X (.Compare a [op] [b] pos) (fT (f2 g fa fb)):=λc=>zm (wl ho (ha c) (hb c) hm) λσ H Q h=>zl h λF H2 F2 v u x y e rx ry w=>by
  obtain⟨d,hd,k⟩:=w.of
  exact MJ v u x y d H2 F2 Q e.sub rx ry hd λw H' F' e' r'=>k w H' F' (e.trans e') r'
def ak:aa->R (List D):=λ_=> .ok []
def a7 (f:aa->R D) (fs:aa->R (List D)):aa->R (List D):=λρ=>f ρ>>=λx=>fs ρ>>=λxs=> .ok (x::xs)
theorem ao:pS ly X [] ak:=λc=>PA.weak d0 λσ H Q ⟨F,ρ,ri,w⟩=>w [] H F (bi.refl ri.sub) .nil
theorem a9 (h:PQ ly X e f) (hr:pS ly X es fs) (hs:Dm (e::es) X.env=(false,DC e X.env)::Dm es X.env:=by rfl):pS ly X (e::es) (a7 f fs):=λc=>
 PA.weak (bt (h c) (hr c) hs) λσ H Q ⟨F,ρ,ri,w⟩=>⟨F,ρ,ri,(aA.bind.mp w).imp λx hx w1 v H1 F1 e1 r1=>⟨F1,ρ,ri.step e1,(aA.bind.mp w1).imp λy hy w2 u H2 F2 e2 r2=>
  w2 _ H2 F2 (e1.trans e2) (.cons (r1.mono e2.grow) r2)⟩⟩
theorem aS:zk ly X [] ak:=λc=>PA.weak d0 λσ H Q ⟨F,ρ,ri,w⟩=>w [] H F (bi.refl ri.sub) .nil
theorem aJ (h:PB ly X e f) (hr:zk ly X es fs) (hs:Dm (e::es) X.env=(false,DC e X.env)::Dm es X.env:=by rfl):zk ly X (e::es) (a7 f fs):=λc=>
 PA.weak (bt (h c) (hr c) hs) λσ H Q ⟨F,ρ,ri,w⟩=>⟨F,ρ,ri,(aA.bind.mp w).imp λx hx w1 v H1 F1 e1 r1=>⟨F1,ρ,ri.step e1,(aA.bind.mp w1).imp λy hy w2 u H2 F2 e2 r2=>
  w2 _ H2 F2 (e1.trans e2) (.cons (r1.mono e2) r2)⟩⟩
def lim:Nat:=100000
theorem eg:lim<=sizeLine:=by decide
def eF (fs:aa->R (List D)):aa->R D:=λρ=>fs ρ>>=λds=>if ds.length<=lim then .ok (.tup ds)else .bad
def iF (fs:aa->R (List D)):aa->R D:=λρ=>fs ρ>>=λds=>if ds.length<=lim then .ok (.lst ds)else .bad
theorem eM {x1:Nat} (h:pS ly X es fs):PQ ly X (.Tuple es x1 pos) (eF fs):=λc=>PE.weak (yQ (h c)) λσ H Q ⟨F,ρ,ri,w⟩=>⟨F,ρ,ri,(aA.bind.mp w).imp λds hd w1 vs H1 F1 e1 r1=>by
 split at w1
 ·rename_i hl
  refine⟨DY (by rw[r1.length];exact hl) eg,λp hp=> ?_⟩
  have e2:=bi.lay (o:= .tup vs) e1.sub hp
  exact w1 _ _ _ (e1.trans e2) (.tup aq (r1.mono e2.grow))
 ·exact w1.elim⟩
theorem lb (h:pS ly X es fs):PQ ly X (.List es pos) (iF fs):=λc=>PE.weak (nE (h c)) λσ H Q ⟨F,ρ,ri,w⟩=>⟨F,ρ,ri,(aA.bind.mp w).imp λds hd w1 vs H1 F1 e1 r1=>by
 split at w1
 ·rename_i hl
  refine⟨DY (by rw[r1.length];exact hl) eg,λp hp=> ?_⟩
  have e2:=bi.lay (o:= .lst vs) e1.sub hp
  exact w1 _ _ _ (e1.trans e2) (.lst aq (r1.mono e2.grow))
 ·exact w1.elim⟩
def dr (g:List D->Option D) (fs:aa->R (List D)):aa->R D:=λρ=>fs ρ>>=λds=>R.of (g ds)
variable {x:Dj} {p:DZ} {id T:String} {rc:List V->Hp->VK->Prop}
theorem rn {c:cw ly} {rc:List V->Hp->VK->Prop} {g:List D->Option D} (MJ:qp X.K rc g) {σ:St} {H:Hp} {Q:VK} (h:tQ X.K c (dr g fs) σ H Q):C4 rc (AY X.K c fs) σ H Q:=by
 obtain⟨F,ρ,ri,w⟩:=h
 refine⟨F,ρ,ri,(aA.bind.mp w).imp λds hd w1 vs H1 F1 e1 r1=> ?_⟩
 obtain⟨d,hd,k⟩:=w1.of
 exact MJ vs ds d H1 F1 Q e1.sub r1 hd λw H' F' e' r'=>k w H' F' (e1.trans e') r'
theorem a_ {g:List D->Option D} (hc:fJ X (.builtin id) rc) (MJ:qp X.K rc g) (hm:X.mg x=none) (hv:E4 x=some (.builtin id)) (ha:zk ly X (e::es) fs) (hg:Gl X x:=by rfl) (hn:x≠"__name__":=by decide) (La:(x==("__debug__":Dj))=false:=by decide)
  (he:Dm (e::es) X.env=(false,DC e X.env)::Dm es X.env:=by rfl) (L3:(DQ pos (Dm es X.env)).any (·.1)=false:=by rfl):PQ ly X (.Call (.Name x p) (e::es) [] pos) (dr g fs):=λc=>
 PE.weak (gT hc hg hm hv (ha c) hn La he L3) λσ H Q h=>rn MJ h
theorem dC {g:List D->Option D} (hc:fJ X (.type T) rc) (MJ:qp X.K rc g) (hm:X.mg x=none) (hv:E4 x=some (.type T)) (ha:zk ly X (e::es) fs) (hg:Gl X x:=by rfl) (hn:x≠"__name__":=by decide) (La:(x==("__debug__":Dj))=false:=by decide)
  (he:Dm (e::es) X.env=(false,DC e X.env)::Dm es X.env:=by rfl) (L3:(DQ pos (Dm es X.env)).any (·.1)=false:=by rfl):PQ ly X (.Call (.Name x p) (e::es) [] pos) (dr g fs):=λc=>
 PE.weak (mE hc hg hm hv (ha c) hn La he L3) λσ H Q h=>rn MJ h
def sL (K:Dh) (n:Nat) (m:List D->R D):Sp:=λvs H Q E=>vs.length=n/\∃F ds,aG F H/\Reps K F vs ds/\match m ds with
 | .ok d=>∀v H' F',bi H F H' F'->df K F' v d->Q v H'
 | .err x _=>∀cls a H' F',d3 K x cls->bi H F H' F'->E cls a H'
 | .bad=>False
def aZ (m:List D->R D) (n:Nat) (fs:aa->R (List D)):aa->R D:=λρ=>fs ρ>>=λds=>if ds.length=n then (match m ds with| .ok d=> .ok d| .err x _=> .err x ρ| .bad=> .bad)else .bad
theorem zn {c:cw ly} {m:List D->R D} {n:Nat} {σ:St} {H:Hp} {Q:VK} (h:tQ X.K c (aZ m n fs) σ H Q):xZ (sL X.K n m) [] (zi X c) (Ab X.K c fs) σ H Q:=by
 obtain⟨F,ρ,ri,w⟩:=h
 refine⟨F,ρ,ri,(aA.bind.mp w).imp λds hd w1 vs H1 F1 e1 r1=> ?_⟩
 show sL X.K n m (vs++[]) H1 Q (zi X c σ)
 rw[EG]
 split at w1
 ·rename_i hl
  refine⟨by rw[r1.length];exact hl,F1,ds,e1.sub,r1,?_⟩
  split at w1
  ·exact λv H' F' e' r'=>w1 v H' F' (e1.trans e') r'
  ·exact λcls a H' F' ec e'=>⟨_,ρ,F',ec,ri.step (e1.trans e'),w1⟩
  ·exact w1.elim
 ·exact w1.elim
theorem zo {n k:Nat} {m:List D->R D} {f:Dk} {fd:Ep} {ps:List Dj} (F:d2 X.prog X.w X.K X.mg X.base (gW X.prog X.w) k f fd ps (sL X.K n m)) (hr:bN k X.A) (hm:X.mg x=some (.ref f)) (hk:E8 X.K (.ref f)=true) (hb:dv X.K fd ps [])
  (ha:pS ly X (e::es) fs) (hg:Gl X x:=by rfl) (La:(x==("__debug__":Dj))=false:=by decide) (he:Dm (e::es) X.env=(false,DC e X.env)::Dm es X.env:=by rfl) (L3:(DQ pos (Dm es X.env)).any (·.1)=false:=by rfl):
  PQ ly X (.Call (.Name x p) (e::es) [] pos) (aZ m n fs):=λc=>PE.weak (qY F hr hg hm hk hb .nil (la c) (ha c) La he L3) λσ H Q h=>zn h
variable {ga gb:aa->R Bool} {rest:List Dr}
def gg (ga gb:aa->R Bool):aa->R Bool:=λρ=>ga ρ>>=λb=>if b=true then gb ρ else .ok false
def qq (ga gb:aa->R Bool):aa->R Bool:=λρ=>ga ρ>>=λb=>if b=true then .ok true else gb ρ
def jA (ga:aa->R Bool):aa->R Bool:=λρ=>ga ρ>>=λb=> .ok (!b)
theorem nM.t (h:nM ly X e ga):oG ly X e ga:=λc=>(h c).pt
theorem jB (h:oG ly X a ga):nM ly X (.BoolOp .And [a] pos) ga:=λc=>wc (h c)
theorem oZ (h:oG ly X a ga):nM ly X (.BoolOp .Or [a] pos) ga:=λc=>yA (h c)
theorem mQ (h:oG ly X a ga) (hb:nM ly X (.BoolOp .And (b::rest) pos) gb):nM ly X (.BoolOp .And (a::b::rest) pos) (gg ga gb):=λc=>PW.weak (yB (h c) (hb c)) λσ H Q ⟨F,ρ,ri,w⟩=>
 ⟨F,ρ,ri,(aA.bind.mp w).imp λb hb w1 H1 F1 e1=>by
  cases b with
  |true=>exact⟨F1,ρ,ri.step e1,w1.imp λb' _ k H2 F2 e2=>k H2 F2 (e1.trans e2)⟩
  |false=>exact w1 H1 F1 e1⟩
theorem uE (h:oG ly X a ga) (hb:nM ly X (.BoolOp .Or (b::rest) pos) gb):nM ly X (.BoolOp .Or (a::b::rest) pos) (qq ga gb):=λc=>PW.weak (Al (h c) (hb c)) λσ H Q ⟨F,ρ,ri,w⟩=>
 ⟨F,ρ,ri,(aA.bind.mp w).imp λb hb w1 H1 F1 e1=>by
  cases b with
  |false=>exact⟨F1,ρ,ri.step e1,w1.imp λb' _ k H2 F2 e2=>k H2 F2 (e1.trans e2)⟩
  |true=>exact w1 H1 F1 e1⟩
theorem rq (h:oG ly X a ga):oG ly X (.UnaryOp .Not a pos) (jA ga):=λc=>PT.weak (yC (h c)) λσ H Q ⟨F,ρ,ri,w⟩=>⟨F,ρ,ri,(aA.bind.mp w).imp λb hb w1 H1 F1 e1=>w1 H1 F1 e1⟩
def lc (fa fb:aa->R D):aa->R D:=λρ=>fa ρ>>=λd=>match d with
 | .bl true=>fb ρ
 | .bl false=> .ok (.bl false)
 |_=> .bad
def x4 (fa fb:aa->R D):aa->R D:=λρ=>fa ρ>>=λd=>match d with
 | .bl true=> .ok (.bl true)
 | .bl false=>fb ρ
 |_=> .bad
def mR (fa:aa->R D):aa->R D:=λρ=>fa ρ>>=λd=>match d with
 | .bl b=> .ok (.bl (!b))
 |_=> .bad
theorem uF {op:PySem.BoolOp} (h:PQ ly X a fa):PQ ly X (.BoolOp op [a] pos) fa:=λc=>yD (h c)
theorem uG (ha:PQ ly X a fa) (hb:PQ ly X (.BoolOp .And (b::rest) pos) fb):PQ ly X (.BoolOp .And (a::b::rest) pos) (lc fa fb):=λc=>PE.weak (yE (ha c) (hb c)) λσ H Q ⟨F,ρ,ri,w⟩=>
 ⟨F,ρ,ri,(aA.bind.mp w).imp λd hd w1 v H1 F1 e1 r1=>by
  cases d with
  |bl b=>
   cases r1
   cases b with
   |true=>exact⟨true,rfl,F1,ρ,ri.step e1,w1.imp λb' _ k v H2 F2 e2 r2=>k v H2 F2 (e1.trans e2) r2⟩
   |false=>exact⟨false,rfl,w1 _ H1 F1 e1 (.bl false)⟩
  |_=>exact w1.elim⟩
theorem Ch (ha:PQ ly X a fa) (hb:PQ ly X (.BoolOp .Or (b::rest) pos) fb):PQ ly X (.BoolOp .Or (a::b::rest) pos) (x4 fa fb):=λc=>PE.weak (Ao (ha c) (hb c)) λσ H Q ⟨F,ρ,ri,w⟩=>
 ⟨F,ρ,ri,(aA.bind.mp w).imp λd hd w1 v H1 F1 e1 r1=>by
  cases d with
  |bl b=>
   cases r1
   cases b with
   |false=>exact⟨false,rfl,F1,ρ,ri.step e1,w1.imp λb' _ k v H2 F2 e2 r2=>k v H2 F2 (e1.trans e2) r2⟩
   |true=>exact⟨true,rfl,w1 _ H1 F1 e1 (.bl true)⟩
  |_=>exact w1.elim⟩
theorem yf (ha:PQ ly X a fa):PQ ly X (.UnaryOp .Not a pos) (mR fa):=λc=>PE.weak (yF (ha c)) λσ H Q ⟨F,ρ,ri,w⟩=>⟨F,ρ,ri,(aA.bind.mp w).imp λd hd w1 v H1 F1 e1 r1=>by
  cases d with
  |bl b=>cases r1;exact⟨b,rfl,w1 _ H1 F1 e1 (.bl _)⟩
  |_=>exact w1.elim⟩
def CY (gc:aa->R Bool) (fa fb:aa->R D):aa->R D:=λρ=>gc ρ>>=λb=>if b=true then fa ρ else fb ρ
def jC:D->Option Bool
 | .non=>some false
 | .bl b=>some b
 | .int i=>some (i != 0)
 | .lst ds=>some (!ds.isEmpty)
 | .tup ds=>some (!ds.isEmpty)
 | .dic ds=>some (!ds.isEmpty)
 |_=>none
def cF (f:aa->R D):aa->R Bool:=λρ=>f ρ>>=λd=>R.of (jC d)
theorem Reps.isEmpty {K:Dh} {F:Hp}:∀{vs:List V} {ds:List D},Reps K F vs ds->vs.isEmpty=ds.isEmpty
 |_,_, .nil=>rfl
 |_,_, .cons _ _=>rfl
theorem RepK.isEmpty {K:Dh} {F:Hp}:∀{vs:List (cn×V)} {ds:List (cn×D)},RepK K F vs ds->vs.isEmpty=ds.isEmpty
 |_,_, .nil=>rfl
 |_,_, .cons _ _=>rfl
theorem eN (h:PB ly X e f) (he:∀LP,Jx e X.env LP=(do let v<-LP;GY e.pos;GZ [v] (truthy v)):=by intro _;rfl):oG ly X e (cF f):=λc=>PT.weak (uc (h c) he) λσ H Q ⟨F,ρ,ri,w⟩=>
 ⟨F,ρ,ri,(aA.bind.mp w).imp λd hd w1 v H1 F1 e1 r1=>by
  obtain⟨b,hb,k⟩:=w1.of
  refine⟨b,?_,k H1 F1 e1⟩
  cases d with
  |non=>cases r1.non;cases hb;rfl
  |bl=>cases r1.bl;cases hb;rfl
  |int=>cases r1.int;cases hb;rfl
  |lst ds=>obtain⟨a,vs,rfl,h1,h2⟩:=r1.lst e1.sub;cases hb;exact .inl ⟨vs,cp.of h1,by rw[h2.isEmpty]⟩
  |tup ds=>obtain⟨a,vs,rfl,h1,h2⟩:=r1.tup e1.sub;cases hb;exact .inr (.inl ⟨vs,fc.of h1,by rw[h2.isEmpty]⟩)
  |dic ds=>obtain⟨a,vs,rfl,h1,h2,h3⟩:=r1.dic e1.sub;cases hb;exact .inr (.inr ⟨vs,h1,by rw[h2.isEmpty]⟩)
  |_=>cases hb⟩
end
end L2.Pu
namespace L2.Pu
open PySem PySem.Spec PyProof.Rows
variable {ly:List cY}
inductive aU where
 |nx (ρ:aa)|ret (d:D)|brk (ρ:aa)|cnt (ρ:aa)|retc (d:D) (ρ:aa)
def eB (K:Dh) (c:cw ly) (F:Hp) (D:jw):aU->Prop
 | .nx ρ=>∀σ' H' F',aG F F'->RI K c ρ σ' H' F'->D.nx σ' H'
 | .brk ρ=>∀σ' H' F',aG F F'->RI K c ρ σ' H' F'->D.bk σ' H'
 | .cnt ρ=>∀σ' H' F',aG F F'->RI K c ρ σ' H' F'->D.ct σ' H'
 | .ret d=>∀v H' F',aG F F'->bi c.H0 c.F0 H' F'->df K F' v d->D.rt v H'
 | .retc d ρ=>∀v σ' H' F',aG F F'->RI K c ρ σ' H' F'->df K F' v d->D.rt v H'
theorem eB.mono {K:Dh} {c:cw ly} {F F1:Hp} {D:jw} (g:aG F F1):∀{o:aU},eB K c F D o->eB K c F1 D o
 | .nx ρ,h=>λσ' H' F' s r=>h σ' H' F' (g.trans s) r
 | .brk ρ,h=>λσ' H' F' s r=>h σ' H' F' (g.trans s) r
 | .cnt ρ,h=>λσ' H' F' s r=>h σ' H' F' (g.trans s) r
 | .ret d,h=>λv H' F' s e r=>h v H' F' (g.trans s) e r
 | .retc d ρ,h=>λv σ' H' F' s e r=>h v σ' H' F' (g.trans s) e r
def tS (K:Dh) (c:cw ly) (g:aa->R aU):TS:=λD σ H=>∃F ρ,RI K c ρ σ H F/\aA c (g ρ) (eB K c F D)
def jD (ly:List cY) (X:Cx) (st:DU) (g:aa->R aU):Prop:=∀c:fE ly X,PS X st (tS X.K c.1 g)
def gi (ly:List cY) (X:Cx) (st:List DU) (g:aa->R aU):Prop:=∀c:fE ly X,mw X st (tS X.K c.1 g)
section
variable {X:Cx} {st:DU} {rest:List DU} {a b e:Dr} {es:List Dr} {fa fb f:aa->R D} {fs:aa->R (List D)} {ga gb g g':aa->R aU} {gt:aa->R Bool} {pos:DZ}
def aK:aa->R aU:=λρ=> .ok (.nx ρ)
def aB (g g':aa->R aU):aa->R aU:=λρ=>g ρ>>=λo=>match o with
 | .nx ρ'=>g' ρ'
 |o=> .ok o
theorem aW:gi ly X [] aK:=λc=>mw.weak wd λD σ H ⟨F,ρ,ri,w⟩=>w σ H F (aG.refl _) ri
theorem aj (h:jD ly X st g) (hr:gi ly X rest g'):gi ly X (st::rest) (aB g g'):=λc=>mw.weak (tY (h c) (hr c)) λD σ H ⟨F,ρ,ri,w⟩=>by
 refine⟨F,ρ,ri,(aA.bind.mp w).imp λo ho w1=> ?_⟩
 cases o with
 |nx ρ'=>exact λσ' H' F' s r=>⟨F',ρ',r,w1.imp λo' _ k=>k.mono s⟩
 |ret d=>exact w1
 |brk ρ'=>exact w1
 |cnt ρ'=>exact w1
 |retc d ρ'=>exact w1
theorem ar (h:jD ly X st g):gi ly X [st] g:=λc=>mw.weak (we (h c)) λD σ H w=>w
def j8 (L:List Nat) (g:aa->R aU):aa->R aU:=λρ=>g (frz L ρ)
theorem lg (L:List Nat) (h:jD ly X st g):jD ly X st (j8 L g):=λc=>PS.weak (h c) λD σ H ⟨F,ρ,ri,w⟩=>by
 obtain⟨F',s,M3⟩:=ri.frz L
 exact⟨F',_,M3,w.imp λo _ k=>k.mono s⟩
def c8 (f:aa->R D):aa->R aU:=λρ=>f ρ>>=λd=> .ok (.ret d)
theorem c9 (h:PQ ly X e f):jD ly X (.Return (some e) pos) (c8 f):=λc=>PS.weak (pV (h c)) λD σ H ⟨F,ρ,ri,w⟩=>
 ⟨F,ρ,ri,(aA.bind.mp w).imp λd _ w1 v H' F' e r=>w1 v H' F' e.grow (ri.ext.trans e) r⟩
def dO (gc:aa->R Bool) (g g':aa->R aU):aa->R aU:=λρ=>gc ρ>>=λb=>if b=true then g ρ else g' ρ
theorem cW {ta tb:List DU} (hc:oG ly X e gt) (ha:gi ly X ta g) (hb:gi ly X tb g'):jD ly X (.If e ta tb pos) (dO gt g g'):=λc=>PS.weak (Ar (hc c) (ha c) (hb c)) λD σ H ⟨F,ρ,ri,w⟩=>
 ⟨F,ρ,ri,(aA.bind.mp w).imp λb hb w1 H1 F1 e1=>by
  cases b with
  |true=>exact⟨F1,ρ,ri.step e1,w1.imp λo _ k=>k.mono e1.grow⟩
  |false=>exact⟨F1,ρ,ri.step e1,w1.imp λo _ k=>k.mono e1.grow⟩⟩
def tG (K:Dh) (c:cw ly) (gt:D->aa->R aa):TG:=λv σ H Q=>∃F ρ d,RI K c ρ σ H F/\df K F v d/\aA c (gt d ρ) λρ'=>∀σ' H' F',aG F F'->RI K c ρ' σ' H' F'->Q σ' H'
def Ac (ly:List cY) (X:Cx) (tg:Dr) (gt:D->aa->R aa):Prop:=∀c:fE ly X,PG X tg (tG X.K c.1 gt)
def gN (i:Nat):D->aa->R aa:=λd ρ=> .ok (ρ.set i (some (.val d)))
theorem bG (i:Nat) {x:Dj} (hN:X.N.Nodup) (hi:X.N[i]? =some x:=by rfl) (hx:tM X.env.scope x:=by first|exact E7 rfl|exact DV rfl) (hf:X.fn x=true\/X.env.scope.names.lookup x=some .local:=by first|exact .inl rfl|exact .inr rfl|assumption) (LO:gY ly i:=by(repeat (first|assumption|exact L2.Pu.dA|refine L2.Pu.cN ⟨by first|decide|simp,by first|decide|simp⟩ ?_))):Ac ly X (.Name x pos) (gN i):=
 λc=>PG.weak (qT hN hi hx hf) λv σ H Q ⟨F,ρ,d,ri,r,w⟩=>w _ H F (aG.refl _) (ri.setVal i LO r)
def Cy:List D->aa->R aa:=λds ρ=>match ds with
 |[]=> .ok ρ
 |_=> .bad
def bQ (f:aa->R D) (g:D->aa->R aa):aa->R aU:=λρ=>f ρ>>=λd=>g d ρ>>=λρ'=> .ok (.nx ρ')
theorem cb (i:Nat) {x:Dj} {Kw:DZ} (hN:X.N.Nodup) (he:PQ ly X e f) (hi:X.N[i]? =some x:=by rfl) (hx:tM X.env.scope x:=by first|exact E7 rfl|exact DV rfl) (hs:Eg e (some (.Name x Kw)) pos.line X.env=pure false:=by rfl)
  (hf:X.fn x=true\/X.env.scope.names.lookup x=some .local:=by first|exact .inl rfl|exact .inr rfl|assumption) (LO:gY ly i:=by(repeat (first|assumption|exact L2.Pu.dA|refine L2.Pu.cN ⟨by first|decide|simp,by first|decide|simp⟩ ?_))):jD ly X (.Assign [.Name x Kw] e pos) (bQ f (gN i)):=λc=>
 PS.weak (jx hN hi hx (he c) hs hf) λD σ H h=>by
  obtain⟨F,ρ,ri,w⟩:=h
  exact⟨F,ρ,ri,(aA.bind.mp w).imp λd _ w1 v H1 F1 e1 r1=>w1 _ H1 F1 e1.grow ((ri.step e1).setVal i LO r1)⟩
def CZ (i j:Nat) (fs:aa->R (List D)):aa->R aU:=λρ=>fs ρ>>=λds=>match ds with
 |[x,y]=> .ok (.nx ((ρ.set i (some (.val x))).set j (some (.val y))))
 |_=> .bad
def j9 (i:Nat) (fs:aa->R (List D)):aa->R aU:=λρ=>fs ρ>>=λds=>if ds.length<=lim then .ok (.nx (ρ.set i (some (.own (.lst ds)))))else .bad
theorem iG (i:Nat) {x:Dj} {Kw pl:DZ} (hN:X.N.Nodup) (h:pS ly X es fs) (hi:X.N[i]? =some x:=by rfl) (hx:tM X.env.scope x:=by first|exact E7 rfl|exact DV rfl) (hs:Eg (.List es pl) (some (.Name x Kw)) pos.line X.env=pure false:=by rfl)
  (hf:X.fn x=true\/X.env.scope.names.lookup x=some .local:=by first|exact .inl rfl|exact .inr rfl|assumption) (LO:gY ly i:=by(repeat (first|assumption|exact L2.Pu.dA|refine L2.Pu.cN ⟨by first|decide|simp,by first|decide|simp⟩ ?_))):jD ly X (.Assign [.Name x Kw] (.List es pl) pos) (j9 i fs):=λc=>
 PS.weak (jx hN hi hx (nE (h c)) hs hf) λD σ H ⟨F,ρ,ri,w⟩=>⟨F,ρ,ri,(aA.bind.mp w).imp λds _ w1 vs H1 F1 e1 r1=>by
  split at w1
  ·rename_i hl
   refine⟨DY (by rw[r1.length];exact hl) eg,λp hp=> ?_⟩
   exact w1 _ _ F1 e1.grow ((ri.step e1).setNew i LO hp (.lst r1))
  ·exact w1.elim⟩
structure sM (K:Dh) (F:Hp) (J:It) (ds:List D):Prop where
 go:∀i H,aG F H->i<ds.length->J.go i H
 stop:∀H,aG F H->J.stop ds.length H
 yld:∀i H F1 x H',aG F F1->aG F1 H->J.yld i H x H'->i<ds.length->∃F' d,ds[i]? =some d/\bi H F1 H' F'/\df K F' x d
def tI (K:Dh) (c:cw ly) (fi:aa->R (List D)):TI:=λσ H Rk=>∃F ρ,RI K c ρ σ H F/\aA c (fi ρ) λds=>∀J H' F',bi H F H' F'->sM K F' J ds->Rk J H'
def zq (ly:List cY) (X:Cx) (tg Kl:Dr) (fi:aa->R (List D)):Prop:=∀c:fE ly X,PI X tg Kl (tI X.K c.1 fi)
theorem PI.weak {X:Cx} {tg e:Dr} {t t':TI} (h:PI X tg e t) (w:∀σ H Rk,t' σ H Rk->t σ H Rk):PI X tg e t':=λK4 s σ H Rk I q=>h K4 s σ H Rk I (w σ H Rk q)
def dg (g:D->aa->R aa) (gb:aa->R aU):List D->aa->R aU
 |[],ρ=> .ok (.nx ρ)
 |d::r,ρ=>g d ρ>>=λρ1=>gb ρ1>>=λo=>match o with
  | .nx ρ2=>dg g gb r ρ2
  | .cnt ρ2=>dg g gb r ρ2
  | .brk ρ2=> .ok (.nx ρ2)
  | .ret d=> .ok (.ret d)
  | .retc d ρ2=> .ok (.retc d ρ2)
def ja (fi:aa->R (List D)) (g:D->aa->R aa) (gb:aa->R aU):aa->R aU:=λρ=>fi ρ>>=λds=>dg g gb ds ρ
theorem qr {g:D->aa->R aa} {gb:aa->R aU} {ds:List D} {i:Nat} {d:D} {ρ:aa} (h:ds[i]? =some d):dg g gb (ds.drop i) ρ=(g d ρ>>=λρ1=>gb ρ1>>=λo=>match o with
  | .nx ρ2=>dg g gb (ds.drop (i+1)) ρ2
  | .cnt ρ2=>dg g gb (ds.drop (i+1)) ρ2
  | .brk ρ2=> .ok (.nx ρ2)
  | .ret d=> .ok (.ret d)
  | .retc d ρ2=> .ok (.retc d ρ2)):=by
 obtain⟨hl,e⟩:=Dx.mp h
 rw[Hu hl,e]
 rfl
theorem zr {K:Dh} {c:cw ly} {fi:aa->R (List D)} {g:D->aa->R aa} {D':jw} {σ:St} {H:Hp} (h:tS K c (ja fi g gb) D' σ H):Ax (tI K c fi) (tG K c g) (tS K c gb) D' σ H:=by
 obtain⟨F,ρ,ri,w⟩:=h
 refine⟨F,ρ,ri,(aA.bind.mp w).imp λds _ w1 J H1 F1 e1 jo=> ?_⟩
 refine⟨λi m σ H=>∃F2 ρ2,RI K c ρ2 σ H F2/\aG F1 F2/\m=ds.length - i/\i<=ds.length/\aA c (dg g gb (ds.drop i) ρ2) (eB K c F2 D'),⟨_,F1,ρ,ri.step e1,aG.refl _,rfl,FD _,w1.imp λo _ k=>k.mono e1.grow⟩,?_⟩
 rintro i m σ2 H2 ⟨F2,ρ2,Nq,s2,rfl,hi,w2⟩
 by_cases hl:i<ds.length
 ·refine .inr ⟨jo.go i H2 (s2.trans Nq.sub) hl,λσ' H'=>∃F3 ρ3,RI K c ρ3 σ' H' F3/\aG F2 F3/\aA c (dg g gb (ds.drop (i+1)) ρ3) (eB K c F3 D'),?_,λx H3 y=> ?_⟩
  ·rintro σ' H' ⟨F3,ρ3,MX,s3,w3⟩
   exact⟨ds.length - (i+1),by omega,F3,ρ3,MX,s2.trans s3,rfl,hl,w3⟩
  ·obtain⟨F3,d,hd,e3,r3⟩:=jo.yld i H2 F2 x H3 s2 Nq.sub y hl
   rw[qr hd]at w2
   refine⟨F3,ρ2,d,Nq.step e3,r3,(aA.bind.mp w2).imp λρ3 _ w3 σ4 H4 F4 s4 r4=>⟨F4,ρ3,r4,(aA.bind.mp w3).imp λo _ w4=> ?_⟩⟩
   have O5:aG F2 F4:=e3.grow.trans s4
   cases o with
   |nx ρ5=>exact λσ' H' F' s' r'=>⟨F',ρ5,r',O5.trans s',w4.imp λo _ k=>k.mono (O5.trans s')⟩
   |cnt ρ5=>exact λσ' H' F' s' r'=>⟨F',ρ5,r',O5.trans s',w4.imp λo _ k=>k.mono (O5.trans s')⟩
   |brk ρ5=>exact λσ' H' F' s' r'=>w4 σ' H' F' (O5.trans s') r'
   |ret d=>exact λv H' F' s' e' r'=>w4 v H' F' (O5.trans s') e' r'
   |retc d ρ5=>exact λv σ' H' F' s' e' r'=>w4 v σ' H' F' (O5.trans s') e' r'
 ·have e:i=ds.length:=by omega
  subst e
  rw[Jt]at w2
  exact .inl ⟨jo.stop H2 (s2.trans Nq.sub),w2 σ2 H2 F2 (aG.refl _) Nq⟩
theorem mS {tg Kl:Dr} {body:List DU} {fi:aa->R (List D)} {g:D->aa->R aa} (hp:PassesOwn (Dz X.prog X.w) X.A X.env X.xe) (hc:X.calm=true) (hi:zq ly X tg Kl fi) (hg:Ac ly X tg g) (hb:gi ly X body gb)
  (hs:∀x,EV Kl X.env x=pure x:=by intro _;rfl):jD ly X (.For tg Kl body [] pos) (ja fi g gb):=λc=>PS.weak (yH hp hc (hi c) (hg c) (hb c) hs) λD σ H h=>zr h
theorem sN {K:Dh} {F:Hp} {a:Dk} {vs:List V} {ds:List D} (h:F a=some (.lst vs)) (r:Reps K F vs ds):sM K F (Bt K a) ds where
 go:=λi H s hi=>⟨vs,vs[i]'(by rw[r.length];exact hi),cp.of (s _ _ h),by simp[r.length,hi]⟩
 stop:=λH s=>⟨vs,cp.of (s _ _ h),HC r.length⟩
 yld:=λi H F1 x H' s1 s2 y hi=>by
  obtain⟨rfl,y⟩:=y
  have:=y vs (cp.of (s2 _ _ (s1 _ _ h)))
  obtain⟨d,hd,rd⟩:=r.get' this
  exact⟨F1,d,hd,bi.refl s2,rd.mono s1⟩
theorem uH {K:Dh} {F:Hp} {a:Dk} {vs:List V} {ds:List D} (h:F a=some (.tup vs)) (r:Reps K F vs ds):sM K F (BU K a) ds where
 go:=λi H s hi=>⟨vs,vs[i]'(by rw[r.length];exact hi),fc.of (s _ _ h),by simp[r.length,hi]⟩
 stop:=λH s=>⟨vs,fc.of (s _ _ h),HC r.length⟩
 yld:=λi H F1 x H' s1 s2 y hi=>by
  obtain⟨rfl,y⟩:=y
  have:=y vs (fc.of (s2 _ _ (s1 _ _ h)))
  obtain⟨d,hd,rd⟩:=r.get' this
  exact⟨F1,d,hd,bi.refl s2,rd.mono s1⟩
def dD (f:aa->R D):aa->R (List D):=λρ=>f ρ>>=λd=>match d with
 | .lst ds=> .ok ds
 | .tup ds=> .ok ds
 | .scr ns=> .ok (ns.map .int)
 |_=> .bad
theorem uI {K:Dh} {F:Hp} {a:Dk} {ns:List Int} (h:cp K F a (ns.map V.int)):sM K F (Bt K a) (ns.map .int)where
 go:=λi H s hi=>⟨ns.map V.int,(ns.map V.int)[i]'(by simpa using hi),s.seq h,by simp at hi;simp[hi]⟩
 stop:=λH s=>⟨ns.map V.int,s.seq h,by simp⟩
 yld:=λi H F1 x H' s1 s2 y hi=>by
  obtain⟨rfl,y⟩:=y
  have:=y (ns.map V.int) ((s1.trans s2).seq h)
  rw[DX]at this
  cases e:ns[i]? with
  |none=>rw[e]at this;cases this
  |some n=>rw[e]at this;cases this;exact⟨F1, .int n,by rw[DX,e];rfl,bi.refl s2, .int n⟩
theorem ee {tg:Dr} (h:PQ ly X e f):zq ly X tg e (dD f):=by
 intro c K4 s σ H Rk I q
 obtain⟨F,ρ,ri,w⟩:=q
 have w':=aA.bind.mp w
 cases hf:f ρ with
 |bad=>rw[hf]at w';exact w'.elim
 |err er ρe=>
  rw[hf]at w'
  exact nB (h c) K4 s σ H Rk I ⟨F,ρ,ri,by rw[hf];exact w'⟩
 |ok d=>
  rw[hf]at w'
  cases d with
  |lst ds=>exact nB (h c) K4 s σ H Rk I ⟨F,ρ,ri,by
    rw[hf]
    intro v H1 F1 e1 r1
    cases r1 with
    |lst h1 h2=>exact⟨_,rfl,⟨_,cp.of (e1.sub _ _ h1)⟩,w' _ H1 F1 e1 (sN h1 h2)⟩⟩
  |tup ds=>exact yG (h c) K4 s σ H Rk I ⟨F,ρ,ri,by
    rw[hf]
    intro v H1 F1 e1 r1
    cases r1 with
    |tup h1 h2=>exact⟨_,rfl,⟨_,fc.of (e1.sub _ _ h1)⟩,w' _ H1 F1 e1 (uH h1 h2)⟩⟩
  |scr ns=>exact nB (h c) K4 s σ H Rk I ⟨F,ρ,ri,by
    rw[hf]
    intro v H1 F1 e1 r1
    cases r1 with
    |scr h1=>exact⟨_,rfl,⟨_,e1.sub.seq h1⟩,w' _ H1 F1 e1 (uI h1)⟩⟩
  |_=>exact w'.elim
def eO (lo hi:Int):List D:=(Ef (hi - lo).toNat).map λk:Nat=>D.int (lo+(k:Int))
theorem lh {K:Dh} {F:Hp} {lo hi:Int}:sM K F (As lo (hi - lo).toNat) (eO lo hi)where
 go:=λi H s h=>by
  rw[eO,Dp,Fg]at h
  exact h
 stop:=λH s=>by show (hi - lo).toNat<=_;rw[eO,Dp,Fg];exact DL _
 yld:=λi H F1 x H' s1 s2 y h=>by
  obtain⟨rfl,rfl⟩:=y
  have h':i<(hi - lo).toNat:=by rw[eO,Dp,Fg]at h;exact h
  exact⟨F1, .int (lo+i),by rw[eO,DX,List.getElem?_range h'];rfl,bi.refl s2, .int _⟩
def eG (f:aa->R (List D)):aa->R (List D):=λρ=>f ρ>>=λds=>match ds with
 |[.int j]=>if j.natAbs<=lim then .ok (eO 0 j)else .bad
 |_=> .bad
def nN (f:aa->R (List D)):aa->R (List D):=λρ=>f ρ>>=λds=>match ds with
 |[.int i, .int j]=>if i.natAbs<=lim/\j.natAbs<=lim then .ok (eO i j)else .bad
 |_=> .bad
theorem fq {j:Int} (h:j.natAbs<=lim): -(2 ^62)<=j/\j<2 ^62:=by
 unfold lim at h
 omega
theorem jb {tg:Dr} {p:DZ} (hm:X.mg "range"=none) (ha:pS ly X [a] fs) (hg:Gl X "range":=by rfl) (hs:Dm [a] X.env=[(false,DC a X.env)]:=by rfl):zq ly X tg (.Call (.Name "range" p) [a] [] pos) (eG fs):=λc=>
 PI.weak (si hg hm (ha c) hs) λσ H Rk ⟨F,ρ,ri,w⟩=>⟨F,ρ,ri,(aA.bind.mp w).imp λds _ w1 vs H1 F1 e1 r1=>by
  split at w1
  ·split at w1
   ·rename_i j _ hj
    cases r1.int1
    exact⟨j,rfl,(fq hj).1,(fq hj).2,w1 _ H1 F1 e1 (by simpa using lh (K:=X.K) (F:=F1) (lo:=0) (hi:=j))⟩
   ·exact w1.elim
  ·exact w1.elim⟩
theorem uJ {tg:Dr} {p:DZ} (hm:X.mg "range"=none) (ha:pS ly X [a,b] fs) (hg:Gl X "range":=by rfl) (hs:Dm [a,b] X.env=[(false,DC a X.env),(false,DC b X.env)]:=by rfl) (Nt:Dm [b] X.env=[(false,DC b X.env)]:=by rfl):zq ly X tg (.Call (.Name "range" p) [a,b] [] pos) (nN fs):=λc=>
 PI.weak (sj hg hm (ha c) hs Nt) λσ H Rk ⟨F,ρ,ri,w⟩=>⟨F,ρ,ri,(aA.bind.mp w).imp λds _ w1 vs H1 F1 e1 r1=>by
  split at w1
  ·split at w1
   ·rename_i i j _ hj
    cases r1.int2
    exact⟨i,j,rfl,⟨(fq hj.1).1,(fq hj.1).2,(fq hj.2).1,(fq hj.2).2⟩,w1 _ H1 F1 e1 lh⟩
   ·exact w1.elim
  ·exact w1.elim⟩
end
def c2 (n:Nat) (ds:List D):aa:=ds.map (λd=>some (.val d))++E0 (n - ds.length) none
def bf (k n:Nat) (g:aa->R aU) (ds:List D):R D:=if ds.length=k then g (c2 n ds)>>=λo=>match o with
 | .ret d=> .ok d
 | .nx _=> .ok .non
 |_=> .bad else .bad
theorem uK {K:Dh} {N:List Dj} {H F:Hp} {vs:List V} {ds:List D} {Er:Dj->aa->Prop} (s:aG F H) (r:Reps K F vs ds):RI K (⟨H,F,λ_=>none,Er,λ_=>none,λ_=>none⟩:cw []) (c2 N.length ds) (cS N vs) H F:=by
 have hv:∀(i:Nat) sl,(c2 N.length ds)[i]? =some (some sl)->∃d,ds[i]? =some d/\sl= .val d:=λi sl h=>by
  unfold c2 at h
  rw[FR]at h
  split at h
  ·rw[DX]at h
   cases e:ds[i]? with
   |none=>rw[e]at h;cases h
   |some d=>rw[e]at h;simp at h;exact⟨d,rfl,h.symm⟩
  ·rw[EY]at h
   split at h<;>simp at h
 refine⟨bi.refl s,λi d h=> ?_,λi d h=> ?_,λi d h=> ?_,(λb o e=>by cases e),λi j d d' a h=> ?_,?_,(λL h=>by cases h),(λL h=>by cases h),(λ_ _ e=>by cases e), .no λi x Ka f hs h=>(by obtain⟨d,_,z⟩:=hv i _ h;cases z),λL h=>by cases h⟩
 ·obtain⟨d',e,z⟩:=hv i _ h
  cases z
  obtain⟨v,h1,h2⟩:=r.get e
  refine⟨v,?_,h2⟩
  unfold cS
  have hl:i<vs.length:=(Dx.mp h1).1
  rw[EN (by simpa using hl),DX,h1]
  rfl
 ·obtain⟨d',_,z⟩:=hv i _ h;cases z
 ·obtain⟨d',_,z⟩:=hv i _ h;cases z
 ·obtain⟨d',_,z⟩:=hv i _ h;cases z
 ·simp[c2,cS,r.length]
theorem Bz {P:Dy} {w:DG} {K:Dh} {mg:Dj->Option Di} {base:DE} {x qual:Dj} {st:DU} {f:Dk} {fd:Ep} {N ps:List Dj} {k:Nat} {sp:Sp} (F:re K x qual st f fd) (S:aF N ps (ah st)) (len:∀vs H Q E,sp vs H Q E->vs.length=ps.length)
  (Ko:∀(Kf:Di) (A:DO) (outer:List EO) (s:Dl) (H:Hp) (vs:List V) (Q:VK) (E:XK),bN k (A.deeper (ES qual (ah st) s.heap.objs.size f Kf))->sp vs H Q E->
   ∃t,mw (fg (gW P w) P w K mg base N qual (ah st) f Kf A outer s H E) (aN st) t/\t {nx:=λ_ H'=>Q .non H',rt:=Q} (cS N vs) H):d2 P w K mg base (gW P w) (k+1) f fd ps sp:=by
 obtain⟨oc,od,kV,L4,pm,an,Kf,ct,M1,rfl,lk,Lc⟩:=F.ex
 exact x_ lk Lc S len λA outer s H vs Q E hr Nn=>Ko Kf A outer s H vs Q E hr Nn
theorem nO {P:Dy} {w:DG} {K:Dh} {mg:Dj->Option Di} {base:DE} {N:List Dj} {qual:Dj} {scope:EX} {f:Dk} {cd:Di} {A:DO} {outer:List EO} {s0:Dl} {H0:Hp} {E:XK} {c:cw ly}
  (h:∀x ρ,c.Er x ρ->∀cls a H' F' σ,d3 K x cls->RI K c ρ σ H' F'->E cls a H'):zj (fg (gW P w) P w K mg base N qual scope f cd A outer s0 H0 E) c:=
 .inl ⟨l9,λK4 σ ρ H F s a cls x I ri fl ec er=>qk I fl (h x ρ er cls (some a) H F σ ec ri)⟩
theorem zt {P:Dy} {w:DG} {K:Dh} {mg:Dj->Option Di} {base:DE} {x qual:Dj} {st:DU} {f:Dk} {fd:Ep} {N ps:List Dj} {k n m:Nat} {g:aa->R aU} (F:re K x qual st f fd) (S:aF N ps (ah st)) (hn:ps.length=n) (hm:N.length=m)
  (Ko:∀(Kf:Di) (A:DO) (outer:List EO) (s:Dl) (H:Hp) (E:XK),bN k (A.deeper (ES qual (ah st) s.heap.objs.size f Kf))->
   gi [] (fg (gW P w) P w K mg base N qual (ah st) f Kf A outer s H E) (aN st) g):d2 P w K mg base (gW P w) (k+1) f fd ps (sL K n (bf n m g)):=by
 refine Bz F S (λvs H Q E h=>by rw[hn];exact h.1) (λKf A outer s H vs Q E hr h=> ?_)
 obtain⟨hl,Fz,ds,sub,r,w⟩:=h
 refine⟨_,Ko Kf A outer s H E hr ⟨⟨H,Fz,λ_=>none,λx _=>∀cls a H' F',d3 K x cls->bi H Fz H' F'->E cls a H',λ_=>none,λ_=>none⟩,nO λx ρ er cls a H' F' σ ec ri=>er cls a H' F' ec ri.ext⟩,?_⟩
 refine⟨Fz,c2 m ds,by rw[<-hm];exact uK sub r,?_⟩
 have hd:ds.length=n:=by rw[<-r.length];exact hl
 unfold bf at w
 rw[if_pos hd]at w
 cases e:g (c2 m ds)with
 |bad=>rw[e]at w;exact w.elim
 |err c ρ=>rw[e]at w;exact w
 |ok o=>
  rw[e]at w
  cases o with
  |ret d=>exact λv H' F' _ e' r'=>w v H' F' e' r'
  |nx ρ=>exact λσ' H' F' _ r'=>w .non H' F' r'.ext .non
  |retc d ρ=>exact w.elim
  |brk ρ=>exact w.elim
  |cnt ρ=>exact w.elim
end L2.Pu
namespace L2.Pu
open PySem PySem.Spec PyProof.Rows
variable {ly:List cY}
def Slot.toBor:Slot->Slot
 | .val d=> .val d
 | .own d=> .bor d
 | .bor d=> .bor d
 | .obj=> .obj
 | .cel .. => .obj
def gD (N:List Dj) (names:List (Dj×Ed)) (ρ:aa):aa:=
 names.map λx=>if x.2= .free then ((N.findIdx? (·==x.1)).bind λi=>(ρ[i]?).join.map Slot.toBor)else none
theorem AZ {K:Dh} {c:cw ly} {ρ:aa} {σ:St} {H F H1 F1:Hp} {N:List Dj} {names:List (Dj×Ed)} {p:Dk} {o:HO} (ri:RI K c ρ σ H F) (e:bi H F H1 F1) (hp:H1 p=none):
  RI K (⟨bc H1 p o,F1,H1,λ_ _=>False,λ_=>none,λ_=>none⟩:cw []) (gD N names ρ) (kZ N names σ) (bc H1 p o) F1:=by
 have r1:=ri.step e
 have LS:∀(i:Nat) sl,(gD N names ρ)[i]? =some (some sl)->∃(j:Nat) (NF:Slot),ρ[j]? =some (some NF)/\sl=NF.toBor/\∀v,σ[j]? =some (some v)->(kZ N names σ)[i]? =some (some v):=λi sl h=>by
  unfold gD at h
  rw[DX]at h
  cases en:names[i]? with
  |none=>rw[en]at h;cases h
  |some y=>
   rw[en]at h
   simp only[G2,Hq]at h
   by_cases hf:y.2= .free
   ·rw[if_pos hf]at h
    cases ei:N.findIdx? (·==y.1)with
    |none=>rw[ei]at h;cases h
    |some j=>
     rw[ei]at h
     cases e2:ρ[j]? with
     |none=>simp[e2]at h
     |some u=>
      cases u with
      |none=>simp[e2]at h
      |some NF=>
       simp[e2]at h
       refine⟨j,NF,e2,h.symm,λv hv=> ?_⟩
       unfold kZ
       rw[DX,en]
       simp only[G2,Hq]
       rw[if_pos hf,ei]
       show (σ[j]?).join=some v
       rw[hv];rfl
   ·rw[if_neg hf]at h;cases h
 refine⟨bi.refl (r1.sub.trans (bC hp)),λi d h=> ?_,λi d h=> ?_,λi d h=> ?_,bC hp,λi j d d' a h=> ?_,by simp[gD,kZ],(λL h=>by cases h),(λL h=>by cases h),(λ_ _ e=>by cases e), .no λi x Ka f hs h=>(by obtain⟨j,sl,h1,h2,h3⟩:=LS i _ h;cases sl<;>cases h2),λL h=>by cases h⟩
 ·obtain⟨j,sl,h1,h2,h3⟩:=LS i _ h
  cases sl with
  |val d'=>cases h2;obtain⟨v,k1,k2⟩:=r1.val j d h1;exact⟨v,h3 v k1,k2⟩
  |own d'=>cases h2
  |bor d'=>cases h2
  |obj=>cases h2
  |cel=>cases h2
 ·obtain⟨j,sl,h1,h2,h3⟩:=LS i _ h;cases sl<;>cases h2
 ·obtain⟨j,sl,h1,h2,h3⟩:=LS i _ h
  cases sl with
  |val d'=>cases h2
  |own d'=>cases h2;obtain⟨a,o,k1,k2,k3,k4,k5⟩:=r1.own j d h1;exact⟨a,o,h3 _ k1,k2,k5⟩
  |bor d'=>cases h2;obtain⟨a,o,k1,k2,k3⟩:=r1.bor j d h1;exact⟨a,o,h3 _ k1,r1.ext.keep _ _ (r1.bh _ _ k2),k3.mono r1.ext.grow⟩
  |obj=>cases h2
  |cel=>cases h2
 ·obtain⟨k,sl,h1,h2,h3⟩:=LS i _ h;cases sl<;>cases h2
theorem RI.bump {K:Dh} {ρ:aa} {σ:St} {H F H1 F1:Hp} {p:Dk} {o o':HO} {Er:Dj->aa->Prop} (r:RI K (⟨bc H1 p o,F1,H1,Er,λ_=>none,λ_=>none⟩:cw []) ρ σ H F) (hp:H1 p=none) (hF:F p=none):
  RI K (⟨bc H1 p o',F1,H1,Er,λ_=>none,λ_=>none⟩:cw []) ρ σ (bc H p o') F:=by
 refine⟨⟨λb u e=> ?_,λb u e=> ?_,r.ext.grow,λb e=> ?_⟩,r.val,λi d h=> ?_,r.bor,bC hp,r.dis,r.len,(λL h=>by cases h),(λL h=>by cases h),(λ_ _ e=>by cases e),⟨λi x Ka f hs h=> ?_,r.cel.one⟩,λL h=>by cases h⟩
 ·rw[al (λz=>by rw[z,hF]at e;cases e)];exact r.sub b u e
 ·change bc H1 p o' b=some u at e
  by_cases z:b=p
  ·subst z;rw[aq]at e ⊢;exact e
  ·rw[al z]at e ⊢;exact r.ext.keep b u (by show bc H1 p o b=some u;rw[al z];exact e)
 ·by_cases z:b=p
  ·subst z;exact absurd hF e
  ·rcases r.ext.new b e with q|q
   ·exact .inl q
   ·refine .inr ?_
    change bc H1 p o b=none at q
    show bc H1 p o' b=none
    rw[al z]at q ⊢;exact q
 ·obtain⟨a,u,h1,h2,h3,h4,h5⟩:=r.own i d h
  change bc H1 p o a=none at h4
  have z:a≠p:=λz=>by subst z;rw[aq]at h4;cases h4
  refine⟨a,u,h1,by rw[al z];exact h2,h3,?_,h5⟩
  show bc H1 p o' a=none
  rw[al z]at h4 ⊢;exact h4
 ·obtain⟨a,dx,b,h1,h2,h3⟩:=r.cel.ex i x Ka f hs h
  obtain⟨C,fs,vs,us,g1,g2,g3,g4,g5⟩:=h2.ex
  have LS:∀{z:Dk},bc H1 p o z=none->z≠p/\bc H1 p o' z=none:=λ{z} e=>by
   have n:z≠p:=λq=>by subst q;rw[aq]at e;cases e
   exact⟨n,by rw[al n]at e ⊢;exact e⟩
  obtain⟨na,ea⟩:=LS h2.za
  obtain⟨nd,ed⟩:=LS h2.zd
  obtain⟨nb,eb⟩:=LS h2.zb
  exact⟨a,dx,b,h1,⟨⟨C,fs,vs,us,by rw[al na];exact g1,g2,g3,by rw[al nb];exact g4,g5⟩,by rw[al nd];exact h2.own,h2.fa,h2.fd,h2.fb,ea,ed,eb⟩,h3⟩
def gZ (g:D->aa->R aa) (gt:aa->R Bool) (fe:aa->R D):List D->aa->R (List D)
 |[],_=> .ok []
 |d::r,τ=>g d τ>>=λτ1=>gt τ1>>=λb=>if b=true then (fe τ1>>=λy=>gZ g gt fe r τ1>>=λys=> .ok (y::ys))else gZ g gt fe r τ1
def Cz (K:Dh) (g:D->aa->R aa):TG:=λv σ H Q=>∃c:cw [],(∀e ρ,¬c.Er e ρ)/\tG K c g v σ H Q
def CA (K:Dh) (g:aa->R Bool):TT:=λσ H Q=>∃c:cw [],(∀e ρ,¬c.Er e ρ)/\tT K c g σ H Q
def CB (K:Dh) (g:aa->R D):TE:=λσ H Q=>∃c:cw [],(∀e ρ,¬c.Er e ρ)/\tQ K c g σ H Q
def sO (ly:List cY) (X:Cx) (Lv:List Dr) (gt:aa->R Bool):Prop:=∀c:fE ly X,yc X Lv (tT X.K c.1 gt)
def kt:aa->R Bool:=λ_=> .ok true
theorem iH {X:Cx}:sO ly X [] kt:=λc K4 s σ H Q I q=>by
 obtain⟨F,ρ,ri,w⟩:=q
 exact wM K4 s σ H Q I (w H F (bi.refl ri.sub))
theorem gj {X:Cx} {c:Dr} {gt:aa->R Bool} (h:oG ly X c gt):sO ly X [c] gt:=λc=>wN (h c)
theorem kF {α β:Type} {r:R α} {f:α->R β} {b:β} (h:(r>>=f)= .ok b):∃a,r= .ok a/\f a= .ok b:=by
 cases r with
 |ok a=>exact⟨a,rfl,h⟩
 |err c ρ=>cases h
 |bad=>cases h
theorem iI {K:Dh} {c:cw ly} {ρ:aa} {σ:St} {H F H1 F1:Hp} {N:List Dj} {names:List (Dj×Ed)} {p:Dk} {g:D->aa->R aa} {gt:aa->R Bool} {fe:aa->R D} {J:It} {ds es:List D} {Q:Hp->Prop}
  (ri:RI K c ρ σ H F) (e:bi H F H1 F1) (jo:sM K F1 J ds) (hp:H1 p=none) (hl:ds.length<=lim) (he:gZ g gt fe ds (gD N names ρ)= .ok es)
  (k:∀H2 F2 vs,bi H1 F1 H2 F2->H2 p=some (.lst vs)->F2 p=none->Reps K F2 vs es->Q H2):
  k_ J (Cz K g) (CA K gt) (CB K fe) p (kZ N names σ) Q (bc H1 p (.lst [])):=by
 have s1:aG F1 H1:=e.sub
 have f1:F1 p=none:=s1.free hp
 refine⟨λi m ys τ H=>∃F ρ' pre rest,RI K (⟨bc H1 p (.lst ys),F1,H1,λ_ _=>False,λ_=>none,λ_=>none⟩:cw []) ρ' τ H F/\Reps K F ys pre/\pre.length<=i/\m=ds.length - i/\i<=ds.length/\gZ g gt fe (ds.drop i) ρ'= .ok rest/\pre++rest=es,
  ⟨_,F1,_,[],es,AZ ri e hp, .nil,DL _,rfl,FD _,he,rfl⟩,?_⟩
 rintro i m ys τ H2 ⟨F2,ρ',pre,rest,r2,rp,SK,rfl,hi,hc,Ph⟩
 have RP:F2 p=none:=by
  cases q:F2 p with
  |none=>rfl
  |some u=>
   rcases r2.ext.new p (by rw[q];simp)with z|z
   ·exact absurd f1 z
   ·change bc H1 p (.lst ys) p=none at z;rw[aq]at z;cases z
 have hD:∀{ρ' τ H F},RI K (⟨bc H1 p (.lst ys),F1,H1,λ_ _=>False,λ_=>none,λ_=>none⟩:cw []) ρ' τ H F->H p=some (.lst ys):=λr=>r.ext.keep p _ aq
 refine⟨hD r2,?_⟩
 by_cases MU:i<ds.length
 ·refine .inr ⟨jo.go i H2 (r2.ext.grow.trans r2.sub) MU,?_,λx H3 y=> ?_⟩
  ·have:=rp.length
   have:=eg
   omega
  ·obtain⟨F3,d,hd,e3,r3⟩:=jo.yld i H2 F2 x H3 r2.ext.grow r2.sub y MU
   obtain⟨Nw,ed⟩:=Dx.mp hd
   rw[Hu Nw,ed]at hc
   obtain⟨τ1,h1,hc⟩:=kF (r:=g d ρ') hc
   obtain⟨b,h2,hc⟩:=kF (r:=gt τ1) hc
   refine⟨_,λe ρ h=>h,F3,ρ',d,r2.step e3,r3,?_⟩
   rw[h1]
   intro τ4 H4 F4 s4 r4
   refine⟨_,λe ρ h=>h,F4,τ1,r4,?_⟩
   rw[h2]
   intro H5 F5 e5
   cases b with
   |false=>
    exact⟨ds.length - (i+1),by omega,F5,τ1,pre,rest,r4.step e5,(rp.mono e3.grow).mono (s4.trans e5.grow),by omega,rfl,MU,hc,Ph⟩
   |true=>
    rw[if_pos rfl]at hc ⊢
    obtain⟨y',h3,hc⟩:=kF (r:=fe τ1) hc
    obtain⟨RQ,h4,hc⟩:=kF (r:=gZ g gt fe (ds.drop (i+1)) τ1) hc
    cases hc
    refine⟨_,λe ρ h=>h,F5,τ1,r4.step e5,?_⟩
    rw[h3]
    intro v H6 F6 e6 r6
    have Qh:=(r4.step e5).step e6
    refine⟨hD Qh,ds.length - (i+1),by omega,F6,τ1,pre++[y'],RQ,Qh.bump hp ?_,(((rp.mono e3.grow).mono (s4.trans e5.grow)).mono e6.grow).append (.cons r6 .nil),by simp;omega,rfl,MU,h4,by rw[<-Ph];simp⟩
    cases q:F6 p with
    |none=>rfl
    |some u=>
     rcases Qh.ext.new p (by rw[q];simp)with z|z
     ·exact absurd f1 z
     ·change bc H1 p (.lst ys) p=none at z;rw[aq]at z;cases z
 ·have ei:i=ds.length:=by omega
  subst ei
  rw[Jt]at hc
  cases hc
  rw[EG]at Ph
  subst Ph
  refine .inl ⟨jo.stop H2 (r2.ext.grow.trans r2.sub),k H2 F2 ys ⟨r2.sub,(bC hp).trans r2.ext.keep,r2.ext.grow,λa ha=> ?_⟩ (hD r2) RP rp⟩
  rcases r2.ext.new a ha with z|z
  ·exact .inl z
  ·refine .inr ?_
   change bc H1 p (.lst ys) a=none at z
   rw[al (λq=>by subst q;rw[aq]at z;cases z)]at z
   exact z
section
variable {X:Cx} {LF tg Kl:Dr} {Lv:List Dr} {scope:EX} {pos:DZ} {fi:aa->R (List D)} {g:D->aa->R aa} {gt:aa->R Bool} {fe:aa->R D}
def bY (N:List Dj) (names:List (Dj×Ed)) (fi:aa->R (List D)) (g:D->aa->R aa) (gt:aa->R Bool) (fe:aa->R D):aa->R (List D):=λρ=>fi ρ>>=λds=>if ds.length<=lim then (match gZ g gt fe ds (gD N names ρ)with
 | .ok es=> .ok es
 |_=> .bad)else .bad
def fL (f:aa->R (List D)):aa->R D:=λρ=>f ρ>>=λds=> .ok (.lst ds)
theorem Ci {X:Cx} (h:Ac [] X tg g):PG X tg (Cz X.K g):=λK4 s σ H v u Q I r ⟨c,hn,q⟩=>h ⟨c, .no hn⟩ K4 s σ H v u Q I r q
theorem Cj {X:Cx} (h:sO [] X Lv gt):yc X Lv (CA X.K gt):=λK4 s σ H Q I ⟨c,hn,q⟩=>h ⟨c, .no hn⟩ K4 s σ H Q I q
theorem Ck {X:Cx} (h:PQ [] X LF fe):PE X LF (CB X.K fe):=λK4 s σ H Q I ⟨c,hn,q⟩=>h ⟨c, .no hn⟩ K4 s σ H Q I q
theorem eP (S:aL X scope) (hc:X.calm=true) (hi:zq ly X tg Kl fi) (hg:∀s H ex,Ac [] (b_ X scope s H ex) tg g) (MT:∀s H ex,sO [] (b_ X scope s H ex) Lv gt) (MQ:∀s H ex,PQ [] (b_ X scope s H ex) LF fe)
  (hs:∀x,EV Kl X.env x=pure x:=by intro _;rfl):PQ ly X (.ListComp LF [⟨tg,Kl,Lv,0⟩] scope pos) (fL (bY X.N scope.names fi g gt fe)):=λc=>
 PE.weak (rj S hc (hi c) (λs H ex=>Ci (hg s H ex)) (λs H ex=>Cj (MT s H ex)) (λs H ex=>Ck (MQ s H ex)) hs) λσ H Q ⟨F,ρ,ri,w⟩=>by
  refine⟨F,ρ,ri,(aA.bind.mp (aA.bind.mp w)).imp λds _ w1 J H1 F1 e1 jo p hp=> ?_⟩
  split at w1
  ·rename_i hl
   split at w1
   ·rename_i es he
    refine iI ri e1 jo hp hl he λH2 F2 vs e2 NL OQ rv=> ?_
    have g2:aG F2 (bc F2 p (.lst vs)):=bC OQ
    refine w1 (.ref p) H2 (bc F2 p (.lst vs)) ⟨λb u eb=> ?_,e1.keep.trans e2.keep,(e1.grow.trans e2.grow).trans g2,λa ha=> ?_⟩ (.lst aq (rv.mono g2))
    ·by_cases z:b=p
     ·subst z;rw[aq]at eb;rw[NL];exact eb
     ·rw[al z]at eb;exact e2.sub b u eb
    ·by_cases z:a=p
     ·subst z;exact .inr (e1.keep.free hp)
     ·rw[al z]at ha
      exact(e1.trans e2).new a ha
   ·exact w1.elim
  ·exact w1.elim
def iJ (i:Nat) (f:aa->R (List D)):aa->R aU:=λρ=>f ρ>>=λds=> .ok (.nx (ρ.set i (some (.own (.lst ds)))))
theorem qt (i:Nat) {y:Dj} {py LR:DZ} (S:aL X scope) (hc:X.calm=true) (hN:X.N.Nodup) (hi:zq ly X tg Kl fi) (hg:∀s H ex,Ac [] (b_ X scope s H ex) tg g) (MT:∀s H ex,sO [] (b_ X scope s H ex) Lv gt) (MQ:∀s H ex,PQ [] (b_ X scope s H ex) LF fe)
  (Mq:X.N[i]? =some y:=by rfl) (hx:tM X.env.scope y:=by first|exact E7 rfl|exact DV rfl) (hf:X.fn y=true\/X.env.scope.names.lookup y=some .local:=by first|exact .inl rfl|exact .inr rfl|assumption)
  (Mr:Eg (.ListComp LF [⟨tg,Kl,Lv,0⟩] scope pos) (some (.Name y py)) LR.line X.env=pure true:=by rfl) (hs:∀x,EV Kl X.env x=pure x:=by intro _;rfl) (LO:gY ly i:=by(repeat (first|assumption|exact L2.Pu.dA|refine L2.Pu.cN ⟨by first|decide|simp,by first|decide|simp⟩ ?_))):
  jD ly X (.Assign [.Name y py] (.ListComp LF [⟨tg,Kl,Lv,0⟩] scope pos) LR) (iJ i (bY X.N scope.names fi g gt fe)):=λc=>
 PS.weak (wQ S hc (hi c) (λs H ex=>Ci (hg s H ex)) (λs H ex=>Cj (MT s H ex)) (λs H ex=>Ck (MQ s H ex)) (qT hN Mq hx hf) Mr hs) λD σ H ⟨F,ρ,ri,w⟩=>by
  refine⟨F,ρ,ri,(aA.bind.mp (aA.bind.mp w)).imp λds _ w1 J H1 F1 e1 jo p hp=> ?_⟩
  split at w1
  ·rename_i hl
   split at w1
   ·rename_i es he
    refine iI ri e1 jo hp hl he λH2 F2 vs e2 NL OQ rv=> ?_
    refine w1 _ H2 F2 (e1.grow.trans e2.grow) ((ri.step (e1.trans e2)).setOwn i LO NL OQ (ri.ext.keep.free (e1.keep.free hp)) (.lst rv) (λj d' _ hj ej=> ?_) (ri.celNe (e1.trans e2).keep (e1.keep.free hp)))
    obtain⟨a,o,k1,k2,_⟩:=ri.own j d' hj
    rw[ej]at k1
    cases k1
    rw[e1.keep.free hp]at k2
    cases k2
   ·exact w1.elim
  ·exact w1.elim
end
def jc:D->Option cn
 | .int i=>some (.inl i)
 | .str x=>some (.inr x)
 |_=>none
def g_ (LK:List (cn×D)) (k:cn):Option D:=(LK.find? λkv=>decide (kv.1=k)).map (·.2)
theorem jE {K:Dh} {H F:Hp} {v:V} {d:D} {k:cn} (h:jc d=some k) (r:c1 K H F v d):v=kV k:=by
 cases d with
 |int i=>cases h;exact r.int
 |str x=>cases h;exact r.str
 |_=>cases h
section
variable {K:Dh} {F:Hp}
theorem RepK.any (k:cn):∀{vs:List (cn×V)} {ds:List (cn×D)},RepK K F vs ds->(vs.any λkv=>decide (kv.1=k))=ds.any λkv=>decide (kv.1=k):=by
 intro vs ds
 induction ds generalizing vs with
 |nil=>intro h;rw[h.nilI];rfl
 |cons d ds ih=>
  intro h
  obtain⟨v,us,rfl,_,t⟩:=RepK.consI (k:=d.1) (d:=d.2) h
  rw[EB,EB,ih t]
theorem RepK.get (k:cn):∀{vs:List (cn×V)} {ds:List (cn×D)},RepK K F vs ds->(gJ vs k=none/\g_ ds k=none)\/∃v d,gJ vs k=some v/\g_ ds k=some d/\df K F v d:=by
 intro vs ds
 induction ds generalizing vs with
 |nil=>intro h;rw[h.nilI];exact .inl ⟨rfl,rfl⟩
 |cons d ds ih=>
  intro h
  obtain⟨a,d⟩:=d
  obtain⟨v,vs,rfl,r,t⟩:=h.consI
  by_cases e:a=k
  ·exact .inr ⟨v,d,by simp[gJ,e],by simp[g_,e],r⟩
  ·have h1:gJ ((a,v)::vs) k=gJ vs k:=by simp[gJ,e]
   have h2:g_ ((a,d)::ds) k=g_ ds k:=by simp[g_,e]
   rw[h1,h2]
   exact ih t
end
section
variable {X:Cx} {a b e:Dr} {es:List Dr} {fa fb f fk fv:aa->R D} {fs:aa->R (List D)} {pos:DZ}
def li (i:Nat) (f:aa->R D):aa->R aU:=λρ=>match ρ[i]? with
 |some (some (.own (.lst ds)))=>f ρ>>=λd=>if ds.length<lim then .ok (.nx (ρ.set i (some (.own (.lst (ds++[d]))))))else .bad
 |_=> .bad
theorem RI.ownL {K:Dh} {c:cw ly} {ρ:aa} {σ:St} {H F:Hp} (ri:RI K c ρ σ H F) {i:Nat} {ds:List D} (h:ρ[i]? =some (some (.own (.lst ds)))):∃a vs,σ[i]? =some (some (.ref a))/\H a=some (.lst vs)/\Reps K F vs ds:=by
 obtain⟨a,o,h1,h2,_,_,h5⟩:=ri.own i _ h
 cases h5 with
 |lst r=>exact⟨a,_,h1,h2,r⟩
theorem jd (i:Nat) {x:Dj} {px Kh Kb:DZ} (h:PQ ly X e f) (hN:X.N[i]? =some x:=by rfl) (hv:kD X.env.scope x:=by first|exact E7 rfl|exact DV (E7 rfl)|exact DV (DV rfl)) (hd:(x==("__debug__":Dj))=false:=by decide)
  (Lc:(x==("__classdict__":Dj))=false:=by decide) (KJ:E9 (.Name x px) "append" X.env (DC (.Name x px) X.env)=DC (.Name x px) X.env:=by rfl)
  (Li:((DQ Kb (Dm [e] X.env)).all (λx=> !x.1)&&(EK Kb (Em [] X.env)).all (λx=>x.1.isSome)
   &&decide (([e]:List Dr).length+([]:List EH).length+(if ([]:List EH).isEmpty then 0 else 1)<30))=true:=by rfl)
  (KL:(Kh.endLine==Kb.line)=true:=by rfl) (hs:Dm [e] X.env=(false,DC e X.env)::Dm [] X.env:=by rfl) (Kr:(DQ Kb (Dm [] X.env)).any (·.1)=false:=by rfl)
  (Mr:Eg (.Call (.Attribute (.Name x px) "append" Kh) [e] [] Kb) none pos.line X.env=pure false:=by rfl):jD ly X (.Expr (.Call (.Attribute (.Name x px) "append" Kh) [e] [] Kb) pos) (li i f):=λc=>
 PS.weak (ia (mG Ew G9 Ga ib (pv i hN hv hd Lc) (bt (h c) d0 hs) KJ Li KL hs Kr) Mr) λD σ H ⟨F,ρ,ri,w⟩=>by
  unfold li at w
  split at w
  ·rename_i ds hi
   obtain⟨a,vs,h1,h2,h3⟩:=ri.ownL hi
   refine⟨_,h1, .inl ⟨rfl,vs,cp.of h2⟩,F,ρ,ri,(aA.bind.mp w).imp λd _ w1 v H1 F1 e1 r1=> ?_⟩
   split at w1
   ·rename_i hl
    refine⟨a,vs,v,rfl,rfl,e1.keep _ _ h2,DS (by rw[h3.length];exact hl) eg,?_⟩
    exact w1 σ _ F1 e1.grow ((ri.step e1).change (o:= .lst vs) hi h1 (.lst ((h3.mono e1.grow).append (.cons r1 .nil))))
   ·exact w1.elim
  ·exact w.elim
end
end L2.Pu
namespace L2.Pu
open PySem PySem.Spec PyProof.Rows
variable {ly:List cY}
section
variable {K:Dh}
def m7 (i j:Int):Prop:=i.natAbs<18446744073709551616\/j.natAbs<18446744073709551616
def qu (_ j:Int):Prop:=0<j/\j.natAbs<1073741824
def uL (i j:Int):Prop:=0<=j/\j.natAbs<=1000000/\i.natAbs<18446744073709551616
instance (i j:Int):Decidable (m7 i j):=by unfold m7;infer_instance
instance (i j:Int):Decidable (qu i j):=by unfold qu;infer_instance
instance (i j:Int):Decidable (uL i j):=by unfold uL;infer_instance
theorem m7.c {i j:Int} (h:m7 i j):so i j:=by
 unfold m7 at h
 unfold so
 omega
theorem qu.c {i j:Int} (h:qu i j):wg i j:=by
 unfold qu at h
 unfold wg
 omega
theorem uL.c {i j:Int} (h:uL i j):AB i j:=by
 unfold uL at h
 unfold AB
 omega
def eH:D->D->Option D
 | .int i, .int j=>some (.int (i+j))
 | .lst a, .lst b=>if a.length+b.length<=lim then some (.lst (a++b))else none
 | .tup a, .tup b=>if a.length+b.length<=lim then some (.tup (a++b))else none
 |_,_=>none
def yg (K:Dh):R2:=λx y H Q=>(sm (λi j=> .int (i+j)) x y H Q\/AL x y H Q)\/(y6 K x y H Q\/yd K x y H Q)
theorem bu {X:Cx}:gQ X (F7 .Add) (yg X.K):=(yK.or yX).or (ww.or wV)
theorem bv:fP K (yg K) eH:=by
 intro v u x y d H F Q s rx ry h k
 unfold eH at h
 split at h
 ·cases rx.int;cases ry.int;cases h;exact .inl (.inl ⟨_,_,rfl,rfl,k _ H F (bi.refl s) (.int _)⟩)
 ·rename_i a b
  split at h
  ·rename_i hl
   cases h
   obtain⟨p,vs,rfl,h1,h2⟩:=rx.lst s
   obtain⟨q,us,rfl,h3,h4⟩:=ry.lst s
   refine .inl (.inr ⟨p,q,vs,us,rfl,rfl,h1,h3,DY (by rw[h2.length,h4.length];exact hl) eg,λl Nw=> ?_⟩)
   have e:=bi.lay (o:= .lst (vs++us)) s Nw
   exact k _ _ _ e (.lst aq ((h2.append h4).mono e.grow))
  ·cases h
 ·rename_i a b
  split at h
  ·rename_i hl
   cases h
   obtain⟨p,vs,rfl,h1,h2⟩:=rx.tup s
   obtain⟨q,us,rfl,h3,h4⟩:=ry.tup s
   cases a with
   |nil=>
    cases h2
    refine .inr (.inr ⟨p,q,us,rfl,rfl,fc.of h1,fc.of h3,?_⟩)
    match ry with
    | .inl ry=>exact k _ H F (bi.refl s) ry
   |cons a0 a1=>
    refine .inr (.inl ⟨p,q,vs,us,rfl,rfl,fc.of h1,fc.of h3,(λz=>by subst z;cases h2),DY (by rw[h2.length,h4.length];exact hl) eg,λz=> ?_,λ_ l Nw=> ?_⟩)
    ·subst z
     cases h4
     rw[EG]at k
     match rx with
     | .inl rx=>exact k _ H F (bi.refl s) rx
    ·have e:=bi.lay (o:= .tup (vs++us)) s Nw
     exact k _ _ _ e (.tup aq ((h2.append h4).mono e.grow))
  ·cases h
 ·cases h
def Ad (g:Int->Int->D):D->D->Option D
 | .int i, .int j=>some (g i j)
 |_,_=>none
def zu (C:Int->Int->Prop) [∀i j,Decidable (C i j)] (g:Int->Int->D):D->D->Option D
 | .int i, .int j=>if C i j then some (g i j)else none
 |_,_=>none
theorem nP {gv:Int->Int->V} {g:Int->Int->D} (hg:∀F i j,df K F (gv i j) (g i j)):fP K (sm gv) (Ad g):=by
 intro v u x y d H F Q s rx ry h k
 cases x with
 |int i=>
  cases y with
  |int j=>cases rx.int;cases ry.int;cases h;exact⟨i,j,rfl,rfl,k _ H F (bi.refl s) (hg F i j)⟩
  |_=>cases h
 |_=>cases h
theorem uM {C C':Int->Int->Prop} [∀i j,Decidable (C i j)] {gv:Int->Int->V} {g:Int->Int->D} (hC:∀i j,C i j->C' i j) (hg:∀F i j,df K F (gv i j) (g i j)):fP K (rI C' gv) (zu C g):=by
 intro v u x y d H F Q s rx ry h k
 cases x with
 |int i=>
  cases y with
  |int j=>
   cases rx.int;cases ry.int
   replace h:(if C i j then some (g i j)else none)=some d:=h
   split at h
   ·cases h;exact⟨i,j,rfl,rfl,hC i j (by assumption),k _ H F (bi.refl s) (hg F i j)⟩
   ·cases h
  |_=>cases h
 |_=>cases h
def m8:=Ad λi j=> .int (i - j)
def ft:=zu qu λi j=> .int (i / j)
def cf:=zu (λ_ j=>0<j) λi j=> .int (i%j)
def yh:=Ad λi j=> .bl (decide (i<j))
def C_:=Ad λi j=> .bl (decide (i<=j))
def yi:=Ad λi j=> .bl (decide (j<i))
def x6:=Ad λi j=> .bl (decide (j<=i))
theorem nQ:fP K (sm λi j=> .int (i - j)) m8:=nP λF i j=> .int _
theorem eQ:fP K (rI wg λi j=> .int (i / j)) ft:=uM (λ_ _ h=>h.c) λF i j=> .int _
theorem b8:fP K (rI (λ_ j=>0<j) λi j=> .int (i%j)) cf:=uM (λ_ _ h=>h) λF i j=> .int _
theorem lj:fP K (sm λi j=> .bl (decide (i<j))) yh:=nP λF i j=> .bl _
theorem lm:fP K (sm λi j=> .bl (decide (j<i))) yi:=nP λF i j=> .bl _
theorem qv:fP K (sm λi j=> .bl (decide (j<=i))) x6:=nP λF i j=> .bl _
def m9:D->D->Option D
 | .int i, .int j=>if m7 i j then some (.int (i*j))else none
 | .lst a, .int k=>if k.natAbs<=lim/\a.length*k.toNat<=lim then some (.lst (E0 k.toNat a).flatten)else none
 |_,_=>none
def yj:R2:=λx y H Q=>rI so (λi j=> .int (i*j)) x y H Q\/AM x y H Q
theorem ie {X:Cx}:gQ X (F7 .Mult) yj:=yL.or yY
theorem Reps.rep {F:Hp} {vs:List V} {ds:List D} (h:Reps K F vs ds):∀k:Nat,Reps K F (E0 k vs).flatten (E0 k ds).flatten
 |0=> .nil
 |k+1=>by
  rw[EI,EI,Ff,Ff]
  exact h.append (h.rep k)
theorem ig:fP K yj m9:=by
 intro v u x y d H F Q s rx ry h k
 unfold m9 at h
 split at h
 ·rename_i i j
  cases rx.int;cases ry.int
  replace h:(if m7 i j then some (D.int (i*j))else none)=some d:=h
  split at h
  ·rename_i hb;cases h;exact .inl ⟨i,j,rfl,rfl,m7.c hb,k _ H F (bi.refl s) (.int _)⟩
  ·cases h
 ·rename_i a j
  split at h
  ·rename_i hl
   cases h
   cases ry.int
   obtain⟨p,vs,rfl,h1,h2⟩:=rx.lst s
   refine .inr ⟨p,j,vs,rfl,rfl,h1,by have:=fq hl.1;omega,by have:=fq hl.1;omega,DY (by rw[h2.length];exact hl.2) eg,λl Nw=> ?_⟩
   have e:=bi.lay (o:= .lst (E0 j.toNat vs).flatten) s Nw
   exact k _ _ _ e (.lst aq ((h2.rep _).mono e.grow))
  ·cases h
 ·cases h
def Cm:D->Option D
 | .int i=>some (.int (-i))
 |_=>none
def qw:D->D->Option Bool
 | .non, .non=>some true
 | .non, .int _=>some false
 | .int _, .non=>some false
 | .non, .bl _=>some false
 | .bl _, .non=>some false
 | .non, .str _=>some false
 | .str _, .non=>some false
 | .int i, .int j=>some (decide (i=j))
 | .bl i, .bl j=>some (decide (i=j))
 | .str i, .str j=>some (decide (i=j))
 | .int _, .str _=>some false
 | .str _, .int _=>some false
 | .bl _, .str _=>some false
 | .str _, .bl _=>some false
 |_,_=>none
def iK (x y:D):Option D:=(qw x y).map .bl
def v_ (x y:D):Option D:=(qw x y).map λb=> .bl (!b)
theorem mT {H F:Hp} {v u:V} {x y:D} {b:Bool} (rx:c1 K H F v x) (ry:c1 K H F u y) (h:qw x y=some b):yN v u=true/\decide (v=u)=b:=by
 cases x<;>cases y<;>first
  |(exfalso;revert h;simp[qw];done)
  |(first|cases rx.int|cases rx.bl|cases rx.str|cases rx.non)<;>(first|cases ry.int|cases ry.bl|cases ry.str|cases ry.non)<;>(refine⟨rfl,?_⟩;simp[qw]at h ⊢;try exact h)
theorem cX:fP K Bv iK:=by
 intro v u x y d H F Q s rx ry h k
 unfold iK at h
 cases e:qw x y with
 |none=>rw[e]at h;cases h
 |some b=>
  rw[e]at h
  cases h
  obtain⟨h1,h2⟩:=mT rx ry e
  exact⟨h1,by rw[h2];exact k _ H F (bi.refl s) (.bl b)⟩
theorem nR:fP K Cu v_:=by
 intro v u x y d H F Q s rx ry h k
 unfold v_ at h
 cases e:qw x y with
 |none=>rw[e]at h;cases h
 |some b=>
  rw[e]at h
  cases h
  obtain⟨h1,h2⟩:=mT rx ry e
  exact⟨h1,by rw[h2];exact k _ H F (bi.refl s) (.bl _)⟩
def A_:D->D->Option D
 | .non, .non=>some (.bl true)
 | .scr _, .non=>none
 |_, .non=>some (.bl false)
 |_,_=>none
def nS:D->D->Option D
 | .non, .non=>some (.bl false)
 | .scr _, .non=>none
 |_, .non=>some (.bl true)
 |_,_=>none
def uN:D->Bool
 | .non=>true
 |_=>false
theorem sP {H F:Hp} {v:V} {x:D} (s:aG F H) (rx:c1 K H F v x):decide (v= .non)=uN x:=by
 cases x with
 |non=>cases rx.non;rfl
 |bl b=>cases rx.bl;rfl
 |int i=>cases rx.int;rfl
 |str z=>cases rx.str;rfl
 |tup ds=>obtain⟨a,vs,rfl,_⟩:=rx.tup s;rfl
 |lst ds=>obtain⟨a,vs,rfl,_⟩:=rx.lst s;rfl
 |dic ds=>obtain⟨a,vs,rfl,_⟩:=rx.dic s;rfl
 |scr ns=>obtain⟨a,rfl,_⟩:=rx.scr s;rfl
 |ins C fs=>
  rcases rx with rx|⟨a,o,rfl,_,q⟩
  ·cases rx;rfl
  ·cases q
 |exc C=>
  rcases rx with rx|⟨a,o,rfl,_,q⟩
  ·cases rx;rfl
  ·cases q
theorem Cn {x y d:D} (h:A_ x y=some d):y= .non/\d= .bl (uN x):=by
 unfold A_ at h
 split at h
 ·cases h;exact⟨rfl,rfl⟩
 ·cases h
 ·rename_i n1 _
  cases h
  refine⟨rfl,?_⟩
  unfold uN
  split
  ·exact absurd rfl n1
  ·rfl
 ·cases h
theorem qx:fP K (λx y H Q=>y= .non/\Q (.bl (!decide (x= .non))) H) nS:=by
 intro v u x y d H F Q s rx ry h k
 cases y with
 |non=>
  cases ry.non
  refine⟨rfl,?_⟩
  rw[sP s rx]
  cases x<;>first|(cases h;exact k _ H F (bi.refl s) (.bl _))|cases h
 |_=>cases x<;>cases h
def eR:D->Bool
 | .non=>true
 | .bl _=>true
 | .int _=>true
 | .str _=>true
 |_=>false
def Ae:D->D->Bool
 | .non, .non=>true
 | .bl a, .bl b=>a==b
 | .bl a, .int b=>(if a then 1 else 0)==b
 | .int a, .bl b=>a==(if b then 1 else 0)
 | .int a, .int b=>a==b
 | .str a, .str b=>a==b
 |_,_=>false
theorem o_ {F:Hp} {v:V} {d:D} (r:df K F v d) (h:eR d=true):eA v=true:=by
 cases r<;>first|rfl|cases h
theorem uO {F:Hp} {v u:V} {x y:D} (r:df K F v x) (q:df K F u y) (hx:eR x=true) (hy:eR y=true):tO v u=Ae x y:=by
 cases r<;>first|(cases hx;done)|(cases q<;>first|rfl|(cases hy;done))
theorem Reps.flat {F:Hp}:∀{vs:List V} {ds:List D},Reps K F vs ds->ds.all eR=true->vs.all eA=true:=by
 intro vs ds
 induction ds generalizing vs with
 |nil=>intro h _;rw[h.nilI];rfl
 |cons d ds ih=>
  intro g h
  obtain⟨v,us,rfl,r,t⟩:=g.consI
  rw[EJ,Ee]at h
  rw[EJ,o_ r h.1,ih t h.2];rfl
theorem Reps.inV {F:Hp} {v:V} {x:D} (rx:df K F v x) (hx:eR x=true) {vs:List V} {ds:List D} (g:Reps K F vs ds):ds.all eR=true->L2.inV v vs=ds.any λy=>Ae y x:=by
 induction ds generalizing vs with
 |nil=>intro _;rw[g.nilI];rfl
 |cons d ds ih=>
  intro h
  obtain⟨w,us,e0,r,t⟩:=g.consI
  rw[EJ,Ee]at h
  have:=ih t h.2
  rw[e0]
  unfold L2.inV at this ⊢
  rw[EB,EB,uO r rx h.1 hx,this]
def Af (LJ:Bool) (x:D) (ds:List D):Option D:=if eR x=true/\ds.all eR=true then some (.bl (if LJ then !(ds.any λy=>Ae y x)else ds.any λy=>Ae y x))else none
def qy (LJ:Bool):D->D->Option D
 |x, .lst ds=>Af LJ x ds
 |x, .tup ds=>Af LJ x ds
 |_,_=>none
theorem p0 {H F:Hp} {LJ:Bool} {v:V} {x d:D} {ds:List D} (rx:c1 K H F v x) (h:Af LJ x ds=some d) {vs:List V} (rv:Reps K F vs ds):
  eA v=true/\vs.all eA=true/\d= .bl (if LJ then !L2.inV v vs else L2.inV v vs):=by
 unfold Af at h
 split at h
 ·rename_i hf
  cases h
  have R0:df K F v x:=by
   rcases rx with rx|⟨a,o,rfl,_,q⟩
   ·exact rx
   ·cases q<;>cases hf.1
  exact⟨o_ R0 hf.1,rv.flat hf.2,by rw[rv.inV R0 hf.1 hf.2]⟩
 ·cases h
theorem ii {LJ:Bool}:fP K (C7 K LJ) (qy LJ):=by
 intro v u x y d H F Q s rx ry h k
 cases y with
 |lst ds=>
  obtain⟨a,vs,rfl,h1,h2⟩:=ry.lst s
  obtain⟨g1,g2,rfl⟩:=p0 rx h h2
  exact⟨a,vs,rfl, .inl (cp.of h1),g1,g2,k _ H F (bi.refl s) (.bl _)⟩
 |tup ds=>
  obtain⟨a,vs,rfl,h1,h2⟩:=ry.tup s
  obtain⟨g1,g2,rfl⟩:=p0 rx h h2
  exact⟨a,vs,rfl, .inr (fc.of h1),g1,g2,k _ H F (bi.refl s) (.bl _)⟩
 |_=>cases h
def nT (LJ:Bool):D->D->Option D
 |x, .dic LK=>(jc x).map λk=> .bl (if LJ then !(g_ LK k).isSome else (g_ LK k).isSome)
 |_,_=>none
def dE (LJ:Bool) (x y:D):Option D:=match y with
 | .dic _=>nT LJ x y
 |_=>qy LJ x y
theorem RepK.look {F:Hp} {vs:List (cn×V)} {ds:List (cn×D)} (r:RepK K F vs ds) (k:cn):(gJ vs k).isSome=(g_ ds k).isSome:=by
 rcases r.get k with ⟨h1,h2⟩|⟨v,d,h1,h2,_⟩<;>rw[h1,h2]<;>rfl
end
section
variable {X:Cx} {a b e:Dr} {es:List Dr} {fa fb f fk fv:aa->R D} {fs:aa->R (List D)} {pos:DZ}
theorem uP {g h:aa->R D} (hg:PQ ly X e g) (hh:PQ ly X e h) (OR:∀ρ,f ρ=g ρ\/f ρ=h ρ):PQ ly X e f:=λc K4 s σ H Q I ⟨F,ρ,ri,w⟩=>
 (OR ρ).elim (λz=>hg c K4 s σ H Q I ⟨F,ρ,ri,z▸w⟩) λz=>hh c K4 s σ H Q I ⟨F,ρ,ri,z▸w⟩
theorem yk {g h f:aa->R Bool} (hg:oG ly X e g) (hh:oG ly X e h) (OR:∀ρ,f ρ=g ρ\/f ρ=h ρ):oG ly X e f:=λc K4 s σ H Q I ⟨F,ρ,ri,w⟩=>
 (OR ρ).elim (λz=>hg c K4 s σ H Q I ⟨F,ρ,ri,z▸w⟩) λz=>hh c K4 s σ H Q I ⟨F,ρ,ri,z▸w⟩
theorem nU {LJ:Bool} (ρ:aa):f2 (dE LJ) fa fb ρ=f2 (qy LJ) fa fb ρ\/f2 (dE LJ) fa fb ρ=f2 (nT LJ) fa fb ρ:=by
 unfold f2
 cases fa ρ with
 |ok x=>
  cases fb ρ with
  |ok y=>cases y<;>first|exact .inl rfl|exact .inr rfl
  |_=>exact .inl rfl
 |_=>exact .inl rfl
theorem p3 {K:Dh} {c:cw ly} {σ:St} {H:Hp} {Q:VK} (h:tQ K c (f2 (nT false) fa fb) σ H Q):yZ (tB' K c fa) (tB' K c fb) σ H Q:=zl h λF H2 F2 v u x y e rx ry w=>by
 obtain⟨d,hd,k⟩:=w.of
 cases y with
 |dic LK=>
  obtain⟨p,vs,rfl,h1,h2,h3⟩:=ry.dic e.sub
  replace hd:(jc x).map (λk=>D.bl (if false then !(g_ LK k).isSome else (g_ LK k).isSome))=some d:=hd
  cases hk:jc x with
  |none=>rw[hk]at hd;cases hd
  |some LS=>
   rw[hk]at hd
   cases hd
   cases jE hk rx
   exact⟨p,_,rfl,j3.k (k:=LS) h1,k _ H2 F2 e (by rw[h2.look];exact .bl _)⟩
 |_=>cases hd
theorem ki {K:Dh} {c:cw ly} {σ:St} {H:Hp} {Q:VK} (h:tQ K c (f2 (nT true) fa fb) σ H Q):nJ (tB' K c fa) (tB' K c fb) σ H Q:=zl h λF H2 F2 v u x y e rx ry w=>by
 obtain⟨d,hd,k⟩:=w.of
 cases y with
 |dic LK=>
  obtain⟨p,vs,rfl,h1,h2,h3⟩:=ry.dic e.sub
  replace hd:(jc x).map (λk=>D.bl (if true then !(g_ LK k).isSome else (g_ LK k).isSome))=some d:=hd
  cases hk:jc x with
  |none=>rw[hk]at hd;cases hd
  |some LS=>
   rw[hk]at hd
   cases hd
   cases jE hk rx
   exact⟨p,_,rfl,j3.k (k:=LS) h1,k _ H2 F2 e (by rw[h2.look];exact .bl _)⟩
 |_=>cases hd
theorem xa (hu:X.A.units+1<FG) (ha:PB ly X a fa) (hb:PB ly X b fb) (hm:EA .In b=false:=by with_unfolding_all rfl):PQ ly X (.Compare a [.In] [b] pos) (f2 (dE false) fa fb):=
 uP (kh mF ii ha hb hm) (λc=>PE.weak (tV (uo hu (ha c) (hb c)) hm) λσ H Q h=>p3 h) nU
theorem rs (hu:X.A.units+1<FG) (ha:PB ly X a fa) (hb:PB ly X b fb) (hm:EA .NotIn b=false:=by with_unfolding_all rfl):PQ ly X (.Compare a [.NotIn] [b] pos) (f2 (dE true) fa fb):=
 uP (kh j1 ii ha hb hm) (λc=>PE.weak (tV (mK hu (ha c) (hb c)) hm) λσ H Q h=>ki h) nU
theorem uQ {g h:aa->R D} (OR:∀ρ,f ρ=g ρ\/f ρ=h ρ) (ρ:aa):fT f ρ=fT g ρ\/fT f ρ=fT h ρ:=by
 unfold fT
 rcases OR ρ with z|z
 ·exact .inl (by rw[z])
 ·exact .inr (by rw[z])
theorem zv (hu:X.A.units+1<FG) (ha:PB ly X a fa) (hb:PB ly X b fb) (hm:EA .In b=false:=by with_unfolding_all rfl):oG ly X (.Compare a [.In] [b] pos) (fT (f2 (dE false) fa fb)):=
 yk (bq mF ii ha hb hm) (λc=>zm (c:=c.1) (t:=yZ (tB' X.K c.1 fa) (tB' X.K c.1 fb)) (tW (uo hu (ha c) (hb c)) hm) λσ H Q h=>p3 h) (uQ nU)
theorem kG (hu:X.A.units+1<FG) (ha:PB ly X a fa) (hb:PB ly X b fb) (hm:EA .NotIn b=false:=by with_unfolding_all rfl):oG ly X (.Compare a [.NotIn] [b] pos) (fT (f2 (dE true) fa fb)):=
 yk (bq j1 ii ha hb hm) (λc=>zm (c:=c.1) (t:=nJ (tB' X.K c.1 fa) (tB' X.K c.1 fb)) (tW (mK hu (ha c) (hb c)) hm) λσ H Q h=>ki h) (uQ nU)
def nV:D->D->Option D
 | .lst ds, .int i=>atI ds i
 | .tup ds, .int i=>atI ds i
 | .scr ns, .int i=>(atI ns i).map .int
 |_,_=>none
def uR:D->D->Option D
 | .dic LK,k=>(jc k).bind λLS=>g_ LK LS
 |_,_=>none
def iW (x y:D):Option D:=match x with
 | .dic _=>uR x y
 |_=>nV x y
theorem Reps.atI {K:Dh} {F:Hp} {vs:List V} {ds:List D} {i:Int} {d:D} (r:Reps K F vs ds) (h:atI ds i=some d):∃v,L2.atI vs i=some v/\df K F v d:=by
 unfold L2.atI at h ⊢
 rw[r.length]
 cases e:y7 ds.length i with
 |none=>rw[e]at h;cases h
 |some j=>rw[e]at h;exact r.get h
theorem sQ {K:Dh}:fP K (Cv K) nV:=by
 intro v u x y d H F Q s rx ry h k
 unfold nV at h
 split at h
 ·cases ry.int
  obtain⟨a,vs,rfl,h1,h2⟩:=rx.lst s
  obtain⟨w,h3,h4⟩:=h2.atI h
  exact .inl ⟨a,vs,_,w,rfl,rfl,cp.of h1,h3,k _ H F (bi.refl s) h4⟩
 ·cases ry.int
  obtain⟨a,vs,rfl,h1,h2⟩:=rx.tup s
  obtain⟨w,h3,h4⟩:=h2.atI h
  exact .inr (.inl ⟨a,vs,_,w,rfl,rfl,fc.of h1,h3,k _ H F (bi.refl s) h4⟩)
 ·rename_i ns i
  cases ry.int
  obtain⟨a,rfl,h1⟩:=rx.scr s
  cases e:atI ns i with
  |none=>rw[e]at h;cases h
  |some n=>
   rw[e]at h
   cases h
   refine .inl ⟨a,ns.map V.int,i, .int n,rfl,rfl,h1,?_,k _ H F (bi.refl s) (.int n)⟩
   unfold L2.atI at e ⊢
   rw[Dp]
   cases e2:y7 ns.length i with
   |none=>rw[e2]at e;cases e
   |some j=>
    rw[e2]at e
    show (ns.map V.int)[j]? =_
    rw[DX,show ns[j]? =some n from e]
    rfl
 ·cases h
theorem zw (ρ:aa):f2 iW fa fb ρ=f2 nV fa fb ρ\/f2 iW fa fb ρ=f2 uR fa fb ρ:=by
 unfold f2
 cases fa ρ with
 |ok x=>
  cases fb ρ with
  |ok y=>cases x<;>first|exact .inl rfl|exact .inr rfl
  |_=>exact .inl rfl
 |_=>exact .inl rfl
theorem jF (hu:X.A.units+1<FG) (ha:PB ly X a fa) (hb:PB ly X b fb) (hs:r9 b:=by intro _ _;rfl):PQ ly X (.Subscript a b pos) (f2 iW fa fb):=
 uP (λc=>PE.weak (AH yV (ha c) (hb c) hs) λσ H Q h=>zl h λF H2 F2 v u x y e rx ry w=>by
   obtain⟨d,hd,k⟩:=w.of
   exact sQ v u x y d H2 F2 Q e.sub rx ry hd λw H' F' e' r'=>k w H' F' (e.trans e') r')
  (λc=>PE.weak (wK hu (ha c) (hb c) hs) λσ H Q h=>zl h λF H2 F2 v u x y e rx ry w=>by
   obtain⟨d,hd,k⟩:=w.of
   cases x with
   |dic LK=>
    obtain⟨p,vs,rfl,h1,h2,h3⟩:=rx.dic e.sub
    replace hd:((jc y).bind λLS=>g_ LK LS)=some d:=hd
    cases hk:jc y with
    |none=>rw[hk]at hd;cases hd
    |some LS=>
     rw[hk]at hd
     cases jE hk ry
     rcases h2.get LS with ⟨_,z⟩|⟨v',d',z1,z2,z3⟩
     ·rw[show g_ LK LS=some d from hd]at z;cases z
     ·rw[show g_ LK LS=some d from hd]at z2
      cases z2
      exact⟨p,v',rfl,z1▸j3.k (k:=LS) h1,k _ H2 F2 e z3⟩
   |_=>cases hd) zw
end
end L2.Pu
namespace L2.Pu
open PySem PySem.Spec PyProof.Rows
variable {ly:List cY}
section
variable {K:Dh}
theorem kg.one {H F:Hp} {vs:List V} {d:D}:kg K H F vs [d]->∃v,vs=[v]/\c1 K H F v d:=λh=>by
 cases h with
 |cons r t=>cases t;exact⟨_,rfl,r⟩
def cO:List D->Option D
 |[.lst ds]=>some (.int ds.length)
 |[.tup ds]=>some (.int ds.length)
 |[.scr ns]=>some (.int ns.length)
 |[.dic ds]=>some (.int ds.length)
 |_=>none
def yl (K:Dh):List V->Hp->VK->Prop:=λxs H Q=>(∃p ys,xs=[.ref p]/\(cp K H p ys\/fc K H p ys)/\Q (.int ys.length) H)\/∃p Ke,xs=[.ref p]/\H p=some (.dK Ke)/\Q (.int Ke.length) H
theorem aO {X:Cx}:fJ X (.builtin "len") (yl X.K):=by
 intro K4 s σ H xs us Q I rv h
 rcases h with h|⟨p,Ke,rfl,hk,q⟩
 ·exact nH K4 s σ H xs us Q I rv h
 ·obtain⟨u,rfl,ru⟩:=my rv
  cases ru
  exact AN I (.inl hk) λt s' I'=>⟨.int Ke.length,H,I',⟨t,rfl⟩,q⟩
theorem bx:qp K (yl K) cO:=by
 intro vs ds d H F Q s rv h k
 match ds,h with
 |[.lst xs],h=>
  obtain⟨v,rfl,r⟩:=rv.one
  obtain⟨a,ws,rfl,h1,h2⟩:=r.lst s
  cases h
  exact .inl ⟨a,ws,rfl, .inl (cp.of h1),by rw[h2.length];exact k _ H F (bi.refl s) (.int _)⟩
 |[.tup xs],h=>
  obtain⟨v,rfl,r⟩:=rv.one
  obtain⟨a,ws,rfl,h1,h2⟩:=r.tup s
  cases h
  exact .inl ⟨a,ws,rfl, .inr (fc.of h1),by rw[h2.length];exact k _ H F (bi.refl s) (.int _)⟩
 |[.scr ns],h=>
  obtain⟨v,rfl,r⟩:=rv.one
  obtain⟨a,rfl,h1⟩:=r.scr s
  cases h
  exact .inl ⟨a,_,rfl, .inl h1,by rw[Dp];exact k _ H F (bi.refl s) (.int _)⟩
 |[.dic xs],h=>
  obtain⟨v,rfl,r⟩:=rv.one
  obtain⟨a,ws,rfl,h1,h2,h3⟩:=r.dic s
  cases h
  exact .inr ⟨a,ws,rfl,h1,by rw[h2.length];exact k _ H F (bi.refl s) (.int _)⟩
def d4:List D->Option D
 |[.lst ds]=>some (.tup ds)
 |[.tup ds]=>some (.tup ds)
 |_=>none
theorem dh:qp K (λxs H Q=>∃p ys,xs=[.ref p]/\((cp K H p ys/\∀l,H l=none->Q (.ref l) (bc H l (.tup ys)))\/(fc K H p ys/\Q (.ref p) H))) d4:=by
 intro vs ds d H F Q s rv h k
 match ds,h with
 |[.lst xs],h=>
  obtain⟨v,rfl,r⟩:=rv.one
  obtain⟨a,ws,rfl,h1,h2⟩:=r.lst s
  cases h
  refine⟨a,ws,rfl, .inl ⟨cp.of h1,λl hl=> ?_⟩⟩
  have e:=bi.lay (o:= .tup ws) s hl
  exact k _ _ _ e (.tup aq (h2.mono e.grow))
 |[.tup xs],h=>
  obtain⟨v,rfl,r⟩:=rv.one
  obtain⟨a,ws,rfl,h1,h2⟩:=r.tup s
  cases h
  refine⟨a,ws,rfl, .inr ⟨fc.of h1,?_⟩⟩
  match r with
  | .inl r=>exact k _ H F (bi.refl s) r
def je:List D->Option D
 |[.lst ds]=>some (.lst ds)
 |[.tup ds]=>some (.lst ds)
 |[.scr ns]=>some (.lst (ns.map .int))
 |_=>none
theorem jG {F:Hp}:∀ns:List Int,Reps K F (ns.map V.int) (ns.map D.int)
 |[]=> .nil
 |n::r=> .cons (.int n) (jG r)
theorem uS:qp K (λxs H Q=>∃p ys,xs=[.ref p]/\(cp K H p ys\/fc K H p ys)/\∀l,H l=none->Q (.ref l) (bc H l (.lst ys))) je:=by
 intro vs ds d H F Q s rv h k
 match ds,h with
 |[.lst xs],h=>
  obtain⟨v,rfl,r⟩:=rv.one
  obtain⟨a,ws,rfl,h1,h2⟩:=r.lst s
  cases h
  refine⟨a,ws,rfl, .inl (cp.of h1),λl hl=> ?_⟩
  have e:=bi.lay (o:= .lst ws) s hl
  exact k _ _ _ e (.lst aq (h2.mono e.grow))
 |[.tup xs],h=>
  obtain⟨v,rfl,r⟩:=rv.one
  obtain⟨a,ws,rfl,h1,h2⟩:=r.tup s
  cases h
  refine⟨a,ws,rfl, .inr (fc.of h1),λl hl=> ?_⟩
  have e:=bi.lay (o:= .lst ws) s hl
  exact k _ _ _ e (.lst aq (h2.mono e.grow))
 |[.scr ns],h=>
  obtain⟨v,rfl,r⟩:=rv.one
  obtain⟨a,rfl,h1⟩:=r.scr s
  cases h
  refine⟨a,_,rfl, .inl h1,λl hl=> ?_⟩
  have e:=bi.lay (o:= .lst (ns.map V.int)) s hl
  exact k _ _ _ e (.lst aq (jG ns))
def cq:List D->Option (List Int)
 |[]=>some []
 | .int i::r=>(cq r).map (i::·)
 |_::_=>none
theorem eS {F:Hp}:∀{ds:List D} {ns:List Int} {vs:List V},cq ds=some ns->Reps K F vs ds->vs=ns.map V.int:=by
 intro ds
 induction ds with
 |nil=>intro ns vs h r;cases r.nilI;cases h;rfl
 |cons d r ih=>
  intro ns vs h rv
  obtain⟨v,us,rfl,r1,t⟩:=rv.consI
  cases d with
  |int i=>
   cases r1.intI
   replace h:(cq r).map (i::·)=some ns:=h
   cases e:cq r with
   |none=>rw[e]at h;cases h
   |some ms=>
    rw[e]at h
    cases h
    rw[ih e t];rfl
  |_=>cases h
theorem gk (ns:List Int):cq (ns.map .int)=some ns:=by
 induction ns with
 |nil=>rfl
 |cons n r ih=>show (cq (r.map D.int)).map (n::·)=_;rw[ih];rfl
def D0:List D->Option D
 |[.lst ds]=>(cq ds).map λns=> .int ns.sum
 |_=>none
end
section
variable {X:Cx} {a b e:Dr} {es:List Dr} {fa fb f fk fv:aa->R D} {fs:aa->R (List D)} {pos p p2:DZ}
def BB:D->Option String
 | .non=>some "NoneType"
 | .bl _=>some "bool"
 | .int _=>some "int"
 | .str _=>some "str"
 | .tup _=>some "tuple"
 | .lst _=>some "list"
 | .dic _=>some "dict"
 |_=>none
def mU (t T:String):Option Bool:=if t=T then some true else if t="bool"/\T="int" then some true
 else if ["NoneType","bool","int","str","tuple","list","dict"].contains t/\["bool","int","str","tuple","list","dict"].contains T then some false else none
theorem uT (K:Dh) {t T:String} {k:Bool} (ht:t="NoneType"\/t="bool"\/t="int"\/t="str"\/t="tuple"\/t="list"\/t="dict") (hT:T="bool"\/T="int"\/T="str"\/T="tuple"\/T="list"\/T="dict") (h:mU t T=some k):
  Eh K (.type t) (.type T)=some k:=by
 rcases ht with rfl|rfl|rfl|rfl|rfl|rfl|rfl<;>rcases hT with rfl|rfl|rfl|rfl|rfl|rfl<;>(revert h;unfold mU;simp+decide;rintro rfl;first|rfl|(unfold Eh FK;decide+kernel))
def p4 (T:String) (d:D):Option D:=(BB d).bind λt=>(mU t T).map .bl
def ma (T:String) (f:aa->R D):aa->R D:=λρ=>f ρ>>=λd=>R.of (p4 T d)
theorem zx {K:Dh} {H F:Hp} {v:V} {d:D} {t:String} (s:aG F H) (r:c1 K H F v d) (h:BB d=some t):iZ K H v (.type t):=by
 cases d with
 |non=>cases r.non;cases h;exact .non
 |bl=>cases r.bl;cases h;exact .bl _
 |int=>cases r.int;cases h;exact .int _
 |str=>cases r.str;cases h;exact .str _
 |tup=>obtain⟨a,vs,rfl,h1,_⟩:=r.tup s;cases h;exact .tup h1
 |lst=>obtain⟨a,vs,rfl,h1,_⟩:=r.lst s;cases h;exact .lst h1
 |dic=>obtain⟨a,vs,rfl,h1,_⟩:=r.dic s;cases h;exact .dK h1
 |_=>cases h
theorem sR {d:D} {t:String} (h:BB d=some t):t="NoneType"\/t="bool"\/t="int"\/t="str"\/t="tuple"\/t="list"\/t="dict":=by
 cases d<;>cases h<;>simp
theorem mV {x:Dj} {T:String} (hT:T="bool"\/T="int"\/T="str"\/T="tuple"\/T="list"\/T="dict") (O6:X.mg "isinstance"=none) (hm:X.mg x=none) (hv:E4 x=some (.type T)) (ha:PB ly X a fa) (O7:Gl X "isinstance":=by rfl) (hg:Gl X x:=by rfl)
  (hn:x≠"__name__":=by decide) (La:(x==("__debug__":Dj))=false:=by decide)
  (he:Dm [a, .Name x p2] X.env=(false,DC a X.env)::Dm [.Name x p2] X.env:=by rfl) (Na:Dm [.Name x p2] X.env=(false,DC (.Name x p2) X.env)::Dm [] X.env:=by rfl) (L3:(DQ pos (Dm [.Name x p2] X.env)).any (·.1)=false:=by rfl):
  PQ ly X (.Call (.Name "isinstance" p) [a, .Name x p2] [] pos) (ma T fa):=λc=>
 PE.weak (gT ur O7 O6 l3 (bt (ha c) (bt (qS (v:= .ty T) hg hm hv rfl hn La) d0 Na) he) (by decide) (by decide) he L3) λσ H Q ⟨F,ρ,ri,w⟩=>
  ⟨F,ρ,ri,(aA.bind.mp w).imp λd _ w1 v H1 F1 e1 r1=>by
   obtain⟨d',hd,k⟩:=w1.of
   unfold p4 at hd
   cases ht:BB d with
   |none=>rw[ht]at hd;cases hd
   |some t=>
    rw[ht]at hd
    cases hs:mU t T with
    |none=>
     replace hd:(mU t T).map D.bl=some d':=hd
     rw[hs]at hd;cases hd
    |some kk=>
     replace hd:(mU t T).map D.bl=some d':=hd
     rw[hs]at hd
     cases hd
     exact⟨v,T,_,kk,rfl,zx e1.sub r1 ht,uT X.K (sR ht) hT hs,k _ H1 F1 e1 (.bl kk)⟩⟩
def xb (f:aa->R D):aa->R D:=λρ=>f ρ>>=λd=>match d with
 | .lst ds=> .ok (.lst ds.reverse)
 |_=> .bad
theorem B0 {j:Nat} {pu pk:DZ} (ha:PB ly X a fa):PQ ly X (.Subscript a (.Slice none none (some (.UnaryOp .USub (.Constant (.int 1) j pk) pu)) p2) pos) (xb fa):=λc=>
 PE.weak (ze (ha c) (r8 (Az yM tU))) λσ H Q ⟨F,ρ,ri,w⟩=>⟨F,ρ,ri,(aA.bind.mp w).imp λd _ w1 v H1 F1 e1 r1=>by
  cases d with
  |lst ds=>
   obtain⟨p,vs,rfl,h1,h2⟩:=r1.lst e1.sub
   refine⟨1,rfl,-1,rfl,rfl,p,vs,rfl,cp.of h1,λl hl=> ?_⟩
   have e2:=bi.lay (o:= .lst vs.reverse) e1.sub hl
   exact w1 _ _ _ (e1.trans e2) (.lst aq (h2.reverse.mono e2.grow))
  |_=>exact w1.elim⟩
def qz (ds:List D) (lo hi:Option Int):List D:=(ds.drop (HT.cT ds.length 0 lo)).take (HT.cT ds.length ds.length hi - HT.cT ds.length 0 lo)
theorem Reps.cut {K:Dh} {F:Hp} {vs:List V} {ds:List D} (r:Reps K F vs ds) (lo hi:Option Int):Reps K F (lZ vs lo hi) (qz ds lo hi):=by
 unfold lZ qz
 rw[r.length]
 exact(r.drop _).take _
def D1 (K:Dh) (c:cw ly) (f:aa->R (Option Int)):TO:=λσ H Q=>∃F ρ,RI K c ρ σ H F/\aA c (f ρ) λo=>∀H' F',bi H F H' F'->Q o H'
def BC (ly:List cY) (X:Cx) (e:Option Dr) (f:aa->R (Option Int)):Prop:=∀c:fE ly X,PO X e (D1 X.K c.1 f)
theorem PO.weak {X:Cx} {e:Option Dr} {t t':TO} (h:PO X e t) (w:∀σ H Q,t' σ H Q->t σ H Q):PO X e t':=λK4 s σ H Q I q=>h K4 s σ H Q I (w σ H Q q)
def mW:aa->R (Option Int):=λ_=> .ok none
def kj (f:aa->R D):aa->R (Option Int):=λρ=>f ρ>>=λd=>match d with
 | .int i=> .ok (some i)
 |_=> .bad
theorem uU:BC ly X none mW:=λc=>PO.weak wv λσ H Q ⟨F,ρ,ri,w⟩=>w H F (bi.refl ri.sub)
theorem uV (h:PQ ly X e f):BC ly X (some e) (kj f):=λc=>PO.weak (r8 (h c)) λσ H Q ⟨F,ρ,ri,w⟩=>⟨F,ρ,ri,(aA.bind.mp w).imp λd _ w1 v H1 F1 e1 r1=>by
 cases d with
 |int i=>cases r1;exact⟨i,rfl,w1 H1 F1 e1⟩
 |_=>exact w1.elim⟩
variable {lo hi:Option Dr} {fl fh:aa->R (Option Int)}
def CC (d:D) (lo hi:Option Int):Option D:=match d with
 | .lst ds=>some (.lst (qz ds lo hi))
 | .tup ds=>if HT.cT ds.length 0 lo=0/\HT.cT ds.length ds.length hi=ds.length then some (.tup ds)else some (.tup (qz ds lo hi))
 |_=>none
def Ag (f:aa->R D) (fl fh:aa->R (Option Int)):aa->R D:=λρ=>f ρ>>=λd=>fl ρ>>=λl=>fh ρ>>=λh=>R.of (CC d l h)
theorem rz (ha:PB ly X a fa) (hl:BC ly X lo fl) (hh:BC ly X hi fh):PQ ly X (.Subscript a (.Slice lo hi none p2) pos) (Ag fa fl fh):=λc=>
 PE.weak (uj ((wB.or yS).or wU) (ha c) (hl c) (hh c)) λσ H Q ⟨F,ρ,ri,w⟩=>⟨F,ρ,ri,(aA.bind.mp w).imp λd _ w1 v H1 F1 e1 r1=>⟨F1,ρ,ri.step e1,(aA.bind.mp w1).imp λl _ w2 H2 F2 e2=>
  ⟨F2,ρ,(ri.step e1).step e2,(aA.bind.mp w2).imp λh _ w3 H3 F3 e3=>by
   obtain⟨d',hd,k⟩:=w3.of
   have NN:=(e1.trans e2).trans e3
   have r3:=(r1.mono e2).mono e3
   cases d with
   |lst ds=>
    cases hd
    obtain⟨p,vs,rfl,h1,h2⟩:=r3.lst NN.sub
    refine .inl (.inl ⟨p,vs,rfl,cp.of h1,λq hq=> ?_⟩)
    have e4:=bi.lay (o:= .lst (lZ vs l h)) NN.sub hq
    exact k _ _ _ (NN.trans e4) (.lst aq ((h2.cut l h).mono e4.grow))
   |tup ds=>
    replace hd:(if HT.cT ds.length 0 l=0/\HT.cT ds.length ds.length h=ds.length then some (D.tup ds)else some (D.tup (qz ds l h)))=some d':=hd
    split at hd
    ·rename_i hw
     cases hd
     rcases r3 with r3|⟨_,_,_,_,q⟩
     ·cases r3 with
      | @tup p vs _ h1 h2=>exact .inr ⟨p,vs,rfl,fc.of (NN.sub _ _ h1),by rw[h2.length];exact hw,k _ _ _ NN (.tup h1 h2)⟩
     ·cases q
    ·rename_i hw
     cases hd
     obtain⟨p,vs,rfl,h1,h2⟩:=r3.tup NN.sub
     refine .inl <| .inr ⟨p,vs,rfl,fc.of h1,by rw[h2.length];exact hw,λq hq=> ?_⟩
     have e4:=bi.lay (o:= .tup (lZ vs l h)) NN.sub hq
     exact k _ _ _ (NN.trans e4) (.tup aq ((h2.cut l h).mono e4.grow))
   |_=>cases hd⟩⟩⟩
inductive B1 (ly:List cY) (X:Cx) (pos:DZ):List (Option Dr)->List Dr->List ((aa->R D)×(aa->R D))->Prop
 |nil:B1 ly X pos [] [] []
 |cons {k v:Dr} {ks:List (Option Dr)} {vs:List Dr} {fk fv:aa->R D} {ps:List ((aa->R D)×(aa->R D))}:PQ ly X k fk->PQ ly X v fv->B1 ly X pos ks vs ps->B1 ly X pos (some k::ks) (v::vs) ((fk,fv)::ps)
theorem B1.len {X:Cx} {pos:DZ}:∀{ks:List (Option Dr)} {vs:List Dr} {ps:List ((aa->R D)×(aa->R D))},B1 ly X pos ks vs ps->ks.length=vs.length/\ks.length=ps.length/\ks.all (·.isSome)=true
 |_,_,_, .nil=>⟨rfl,rfl,rfl⟩
 |_,_,_, .cons _ _ r=>by
  obtain⟨a,b,c⟩:=r.len
  exact⟨by simp[a],by simp[b],by simp[EJ,c]⟩
end
end L2.Pu
namespace L2.Pu
open PySem PySem.Spec PyProof.Rows
variable {ly:List cY}
def p7 (scope outer:EX):Bool:=
 scope.kind== .function&&scope.names.all (λy=>y.2 != .cell)&&scope.names.all (λy=>y.2 != .local||scope.names.lookup y.1==some .local)&&
 scope.names.all (λy=>y.2 != .free||outer.names.lookup y.1==some .cell||outer.names.lookup y.1==some .free)&&decide ((scope.names.map (·.1)).Nodup)
theorem aL.of {X:Cx} {scope outer:EX} (h:X.env.scope=outer) (k:p7 scope outer=true):aL X scope:=by
 unfold p7 at k
 simp only[Ee,FT,decide_eq_true_eq,JH,bne_iff_ne,beq_iff_eq]at k
 obtain⟨⟨⟨⟨k1,k2⟩,k3⟩,k4⟩,k5⟩:=k
 refine⟨k1,k2,λy hy hl=> ?_,λy hy hf=> ?_,k5⟩
 ·rcases k3 y hy with z|z
  ·exact absurd hl z
  ·exact z
 ·show X.env.scope.names.lookup y.1=_\/X.env.scope.names.lookup y.1=_
  rw[h]
  rcases k4 y hy with (z|z)|z
  ·exact absurd hf z
  ·exact .inl z
  ·exact .inr z
structure eT (K:Dh) (mg:Dj->Option Di) (x:Dj) (st:DU) (ps:List Dj):Prop where
 ex:∃f fd,re K x x st f fd/\mg x=some (.ref f)/\dv K fd ps []
structure bX (P:Dy) (w:DG) (K:Dh) (mg:Dj->Option Di) (base:DE) (k:Nat) (x:Dj) (n:Nat) (m:List D->R D):Prop where
 ex:∃f fd ps,d2 P w K mg base (gW P w) k f fd ps (sL K n m)/\mg x=some (.ref f)/\E8 K (.ref f)=true/\dv K fd ps []
section
variable {P:Dy} {w:DG} {K:Dh} {mg:Dj->Option Di} {base:DE}
theorem eI {x:Dj} {st:DU} {N ps:List Dj} {k n m:Nat} {g:aa->R aU} (A:eT K mg x st ps) (S:aF N ps (ah st)) (hn:ps.length=n) (hm:N.length=m)
  (Ko:∀(f:Dk) (Kf:Di) (A:DO) (outer:List EO) (s:Dl) (H:Hp) (E:XK),bN k (A.deeper (ES x (ah st) s.heap.objs.size f Kf))->
   gi [] (fg (gW P w) P w K mg base N x (ah st) f Kf A outer s H E) (aN st) g):bX P w K mg base (k+1) x n (bf n m g):=by
 obtain⟨f,fd,F,h1,h2⟩:=A.ex
 exact⟨f,fd,ps,zt F S hn hm λKf A outer s H E hr=>Ko f Kf A outer s H E hr,h1,F.kp,h2⟩
theorem bX.mono {x:Dj} {j k n:Nat} {m:List D->R D} (F:bX P w K mg base j x n m) (h:j<=k):bX P w K mg base k x n m:=by
 obtain⟨f,fd,ps,h1,h2⟩:=F.ex
 exact⟨f,fd,ps,h1.mono h,h2⟩
theorem uW {x:Dj} {st:DU} {ps:List Dj} {n:Nat} (A:eT K mg x st ps) (hn:ps.length=n):bX P w K mg base 0 x n (λ_=> .bad):=by
 obtain⟨f,fd,F,h1,h2⟩:=A.ex
 refine⟨f,fd,ps,⟨λvs H Q E h=>by rw[hn];exact h.1,λA outer s H args us vs Q E hr e0 hb rv h=> ?_⟩,h1,F.kp,h2⟩
 obtain⟨_,F',ds,_,_,z⟩:=h
 exact z.elim
end
section
variable {X:Cx} {e:Dr} {es:List Dr} {fs:aa->R (List D)} {x:Dj} {p pos:DZ}
theorem fF {n k:Nat} {m:List D->R D} (F:bX X.prog X.w X.K X.mg X.base k x n m) (hr:bN k X.A)
  (ha:pS ly X (e::es) fs) (hg:Gl X x:=by rfl) (La:(x==("__debug__":Dj))=false:=by decide) (he:Dm (e::es) X.env=(false,DC e X.env)::Dm es X.env:=by rfl) (L3:(DQ pos (Dm es X.env)).any (·.1)=false:=by rfl):
  PQ ly X (.Call (.Name x p) (e::es) [] pos) (aZ m n fs):=by
 obtain⟨f,fd,ps,h1,h2,h3,h4⟩:=F.ex
 exact zo h1 hr h2 h3 h4 ha hg La he L3
end
structure Bl (mg:Dj->Option Di) (xs:List Dj):Prop where
 no:∀x∈xs,mg x=none
theorem bR:E4 "tuple"=some (.type "tuple"):=by decide+kernel
theorem mX:E4 "list"=some (.type "list"):=by decide+kernel
theorem uX:E4 "int"=some (.type "int"):=by decide+kernel
theorem jH:E4 "bool"=some (.type "bool"):=by decide+kernel
theorem zy {K:Dh} {m:List D->R D} {H:Hp} {a:Dk} {ns:List Int} {E:XK} (h:m [.scr ns]= .ok (.bl true)) (hs:cp K H a (ns.map V.int)):sL K 1 m [.ref a] H (λv _=>v= .bl true) E:=by
 refine⟨rfl,H,[.scr ns],aG.refl _, .cons (.scr hs) .nil,?_⟩
 rw[h]
 intro v H' F' e r
 cases r
 rfl
end L2.Pu
namespace L2.Pu
open PySem PySem.Spec PyProof.Rows
variable {ly:List cY}
section
variable {i j:Int}
theorem br (h:0<j):cf (.int i) (.int j)=some (.int (i%j)):=if_pos h
theorem fQ (h:0<j/\j<1073741824):ft (.int i) (.int j)=some (.int (i / j)):=if_pos (show qu i j from ⟨h.1,by omega⟩)
theorem nW (h:j.natAbs<18446744073709551616):m9 (.int i) (.int j)=some (.int (i*j)):=if_pos (show m7 i j from .inr h)
theorem uY (h:i.natAbs<18446744073709551616):m9 (.int i) (.int j)=some (.int (i*j)):=if_pos (show m7 i j from .inl h)
theorem iL:eH (.int i) (.int j)=some (.int (i+j)):=rfl
theorem nX:m8 (.int i) (.int j)=some (.int (i - j)):=rfl
theorem mY:yh (.int i) (.int j)=some (.bl (decide (i<j))):=rfl
theorem B2:C_ (.int i) (.int j)=some (.bl (decide (i<=j))):=rfl
theorem mZ:yi (.int i) (.int j)=some (.bl (decide (j<i))):=rfl
theorem p8:x6 (.int i) (.int j)=some (.bl (decide (j<=i))):=rfl
theorem lp:iK (.int i) (.int j)=some (.bl (decide (i=j))):=rfl
theorem uZ:v_ (.int i) (.int j)=some (.bl (!decide (i=j))):=rfl
theorem ym {a b:Bool}:iK (.bl a) (.bl b)=some (.bl (decide (a=b))):=rfl
theorem zA:Cm (.int i)=some (.int (-i)):=rfl
end
theorem p9 {ds:List D} {i:Int}:iW (.lst ds) (.int i)=atI ds i:=rfl
theorem rA {ds:List D} {i:Int}:iW (.tup ds) (.int i)=atI ds i:=rfl
theorem B3 {ns:List Int} {i:Int}:iW (.scr ns) (.int i)=(atI ns i).map .int:=rfl
theorem hE {ds:List D}:cO [.lst ds]=some (.int ds.length):=rfl
theorem jI {ds:List D}:cO [.tup ds]=some (.int ds.length):=rfl
theorem zB {ds:List Int}:cO [.scr ds]=some (.int ds.length):=rfl
theorem u_ {ds:List D}:d4 [.lst ds]=some (.tup ds):=rfl
theorem v0 {ds:List D}:d4 [.tup ds]=some (.tup ds):=rfl
theorem xc {ds:List D}:je [.lst ds]=some (.lst ds):=rfl
theorem xf {ds:List D}:je [.tup ds]=some (.lst ds):=rfl
theorem hG {α:Type} {xs:List α} {k:Nat} (h:k<xs.length):L2.atI xs (k:Int)=some xs[k]:=wy (by simp[h])
theorem xg (x:Int) (xs:List Int):((xs.map D.int).any λy=>Ae y (.int x))=decide (x∈xs):=by
 induction xs with
 |nil=>rfl
 |cons y r ih=>
  rw[DH,EB,ih]
  show (y==x||decide (x∈r))=decide (x∈y::r)
  by_cases e:x=y
  ·subst e;simp
  ·have:(y==x)=false:=beq_eq_false_iff_ne.mpr (E_ e)
   simp[this,e]
theorem xh (xs:List Int):(xs.map D.int).all eR=true:=by
 induction xs with
 |nil=>rfl
 |cons y r ih=>rw[DH,EJ,ih];rfl
theorem kH (LJ:Bool) (x:Int) (xs:List Int):Af LJ (.int x) (xs.map .int)=some (.bl (if LJ then !decide (x∈xs)else decide (x∈xs))):=by
 unfold Af
 rw[if_pos ⟨rfl,xh xs⟩,xg]
theorem rB {x:Int} {xs:List Int}:dE false (.int x) (.lst (xs.map .int))=some (.bl (decide (x∈xs))):=kH false x xs
theorem v1 {x:Int} {xs:List Int}:dE false (.int x) (.tup (xs.map .int))=some (.bl (decide (x∈xs))):=kH false x xs
theorem hJ {x:Int} {xs:List Int}:dE true (.int x) (.lst (xs.map .int))=some (.bl (!decide (x∈xs))):=kH true x xs
theorem pb {x:Int} {xs:List Int}:dE true (.int x) (.tup (xs.map .int))=some (.bl (!decide (x∈xs))):=kH true x xs
theorem iM (n:Nat):eO 0 (n:Int)=(Ef n).map λk:Nat=>D.int (k:Int):=by
 unfold eO
 simp
theorem zC {ds:List D}:p4 "tuple" (.tup ds)=some (.bl true):=rfl
theorem zD {i:Int}:p4 "tuple" (.int i)=some (.bl false):=rfl
theorem zE {i:Int}:p4 "int" (.int i)=some (.bl true):=rfl
theorem zF {i:Int}:p4 "bool" (.int i)=some (.bl false):=rfl
theorem v2 {m:List D->R D} {n:Nat} {fs:aa->R (List D)} {ρ:aa} {ds:List D} {d:D} (h:fs ρ= .ok ds) (hl:ds.length=n) (hm:m ds= .ok d):aZ m n fs ρ= .ok d:=by
 unfold aZ
 rw[h,ai,if_pos hl,hm]
end L2.Pu
namespace L2.Pu
theorem jf {g:D->aa->R aa} {gb:aa->R aU} {d:D} {r:List D} {ρ ρ1 ρ2:aa} (h1:g d ρ= .ok ρ1) (h2:gb ρ1= .ok (.nx ρ2)):dg g gb (d::r) ρ=dg g gb r ρ2:=by
 rw[dg,h1,ai,h2,ai]
theorem v3 {g:D->aa->R aa} {gb:aa->R aU} {d:D} {r:List D} {ρ ρ1 ρ2:aa} (h1:g d ρ= .ok ρ1) (h2:gb ρ1= .ok (.cnt ρ2)):dg g gb (d::r) ρ=dg g gb r ρ2:=by
 rw[dg,h1,ai,h2,ai]
end L2.Pu
namespace L2.Pu
theorem cP {k n:Nat} {g:aa->R aU} {ds:List D} {d:D} (h:ds.length=k) (e:g (c2 n ds)= .ok (.ret d)):bf k n g ds= .ok d:=by
 unfold bf
 rw[if_pos h,e,ai]
theorem zG {k n:Nat} {g:aa->R aU} {ds:List D} {ρ:aa} (h:ds.length=k) (e:g (c2 n ds)= .ok (.nx ρ)):bf k n g ds= .ok .non:=by
 unfold bf
 rw[if_pos h,e,ai]
theorem az {g g':aa->R aU} {ρ ρ':aa} (h:g ρ= .ok (.nx ρ')):aB g g' ρ=g' ρ':=by
 unfold aB
 rw[h,ai]
theorem xi {g g':aa->R aU} {ρ:aa} {d:D} (h:g ρ= .ok (.ret d)):aB g g' ρ= .ok (.ret d):=by
 unfold aB
 rw[h,ai]
theorem nY {fi:aa->R (List D)} {g:D->aa->R aa} {gb:aa->R aU} {ρ:aa} {ds:List D} (h:fi ρ= .ok ds):ja fi g gb ρ=dg g gb ds ρ:=by
 unfold ja
 rw[h,ai]
end L2.Pu
namespace L2.Pu
theorem jJ {fs:aa->R (List D)} {ρ:aa} {n:Nat} (h:fs ρ= .ok [.int (n:Int)]) (hn:n<=lim):eG fs ρ= .ok ((Ef n).map λk:Nat=>D.int (k:Int)):=by
 unfold eG
 rw[h,ai]
 have hc:(n:Int).natAbs<=lim:=by rw[Int.natAbs_natCast];exact hn
 exact(if_pos hc).trans (congrArg R.ok (iM n))
end L2.Pu
namespace L2.Pu
open PySem PySem.Spec PyProof.Rows
variable {ly:List cY}
section
variable {X:Cx} {LF tg Kl:Dr} {Lv:List Dr} {scope:EX} {pos:DZ} {fi:aa->R (List D)} {g:D->aa->R aa} {gt:aa->R Bool} {fe:aa->R D}
theorem rC (i:Nat) {y:Dj} {py LR:DZ} (S:aL X scope) (hc:X.calm=true) (hN:X.N.Nodup) (hi:zq ly X tg Kl fi) (hg:∀s H ex,Ac [] (b_ X scope s H ex) tg g) (MT:∀s H ex,sO [] (b_ X scope s H ex) Lv gt) (MQ:∀s H ex,PQ [] (b_ X scope s H ex) LF fe)
  (Mq:X.N[i]? =some y:=by rfl) (hx:tM X.env.scope y:=by first|exact E7 rfl|exact DV rfl) (hf:X.fn y=true\/X.env.scope.names.lookup y=some .local:=by first|exact .inl rfl|exact .inr rfl|assumption)
  (Mr:Eg (.ListComp LF [⟨tg,Kl,Lv,0⟩] scope pos) (some (.Name y py)) LR.line X.env=pure false:=by rfl) (hs:∀x,EV Kl X.env x=pure x:=by intro _;rfl) (LO:gY ly i:=by(repeat (first|assumption|exact L2.Pu.dA|refine L2.Pu.cN ⟨by first|decide|simp,by first|decide|simp⟩ ?_))):
  jD ly X (.Assign [.Name y py] (.ListComp LF [⟨tg,Kl,Lv,0⟩] scope pos) LR) (iJ i (bY X.N scope.names fi g gt fe)):=λc=>
 PS.weak (jx hN Mq hx (rj S hc (hi c) (λs H ex=>Ci (hg s H ex)) (λs H ex=>Cj (MT s H ex)) (λs H ex=>Ck (MQ s H ex)) hs) Mr hf) λD σ H ⟨F,ρ,ri,w⟩=>by
  refine⟨F,ρ,ri,(aA.bind.mp (aA.bind.mp w)).imp λds _ w1 J H1 F1 e1 jo p hp=> ?_⟩
  split at w1
  ·rename_i hl
   split at w1
   ·rename_i es he
    refine iI ri e1 jo hp hl he λH2 F2 vs e2 NL OQ rv=> ?_
    refine w1 _ H2 F2 (e1.grow.trans e2.grow) ((ri.step (e1.trans e2)).setOwn i LO NL OQ (ri.ext.keep.free (e1.keep.free hp)) (.lst rv) (λj d' _ hj ej=> ?_) (ri.celNe (e1.trans e2).keep (e1.keep.free hp)))
    obtain⟨a,o,k1,k2,_⟩:=ri.own j d' hj
    rw[ej]at k1
    cases k1
    rw[e1.keep.free hp]at k2
    cases k2
   ·exact w1.elim
  ·exact w1.elim
end
end L2.Pu
namespace L2.Pu
open PySem PySem.Spec PyProof.Rows
variable {ly:List cY}
theorem lq {f:aa->R D} {ρ:aa} {d:D} (h:f ρ= .ok d):c8 f ρ= .ok (.ret d):=by unfold c8;rw[h,ai]
theorem bS {g:List D->Option D} {fs:aa->R (List D)} {ρ:aa} {ds:List D} {d:D} (h:fs ρ= .ok ds) (h2:g ds=some d):dr g fs ρ= .ok d:=by unfold dr;rw[h,ai,h2,cA]
theorem ae {f:aa->R D} {fs:aa->R (List D)} {ρ:aa} {ds:List D} {d:D} (h:f ρ= .ok d) (h2:fs ρ= .ok ds):a7 f fs ρ= .ok (d::ds):=by unfold a7;rw[h,ai,h2,ai]
theorem qA {f:aa->R (List D)} {ρ:aa} {ds:List D} (h:f ρ= .ok ds):fL f ρ= .ok (.lst ds):=by unfold fL;rw[h,ai]
theorem dF {N:List Dj} {names:List (Dj×Ed)} {fi:aa->R (List D)} {g:D->aa->R aa} {gt:aa->R Bool} {fe:aa->R D} {ρ τ:aa} {ds es:List D} (h:fi ρ= .ok ds) (hl:ds.length<=lim) (hr:gD N names ρ=τ) (hc:gZ g gt fe ds τ= .ok es):
  bY N names fi g gt fe ρ= .ok es:=by
 unfold bY
 rw[h,ai,if_pos hl,hr,hc]
theorem own_of {i:Nat} {f:aa->R (List D)} {ρ:aa} {ds:List D} (h:f ρ= .ok ds):iJ i f ρ= .ok (.nx (ρ.set i (some (.own (.lst ds))))):=by unfold iJ;rw[h,ai]
theorem dG {f:aa->R D} {g:D->aa->R aa} {ρ ρ':aa} {d:D} (h:f ρ= .ok d) (h2:g d ρ= .ok ρ'):bQ f g ρ= .ok (.nx ρ'):=by unfold bQ;rw[h,ai,h2,ai]
theorem dH {m:List D->R D} {n:Nat} {fs:aa->R (List D)} {ρ:aa} {ds:List D} {d:D} (h:fs ρ= .ok ds) (hl:ds.length=n) (hm:m ds= .ok d):aZ m n fs ρ= .ok d:=v2 h hl hm
theorem ay {g:D->D->Option D} {fa fb:aa->R D} {ρ:aa} {a b d:D} (h:fa ρ= .ok a) (h2:fb ρ= .ok b) (h3:g a b=some d):f2 g fa fb ρ= .ok d:=by unfold f2;rw[h,ai,h2,ai,h3,cA]
end L2.Pu
namespace L2.Pu
theorem v4 (d:D):(Slot.val d).data=d:=rfl
theorem v5 (d:D):(Slot.own d).data=d:=rfl
theorem v6 (d:D):(Slot.bor d).data=d:=rfl
end L2.Pu
namespace L2.Pu
open PySem PySem.Spec PyProof.Rows
variable {ly:List cY}
section
variable {X:Cx} {a b:Dr} {fs:aa->R (List D)} {pos p1 p2 Lw:DZ}
end
end L2.Pu
namespace L2.Pu
open PySem PySem.Spec PyProof.Rows
variable {ly:List cY}
end L2.Pu
namespace L2.Pu
open PySem PySem.Spec PyProof.Rows
variable {ly:List cY}
section
variable {X:Cx} {a:Dr} {fa:aa->R D} {pos p1 p2 Lw:DZ}
end
section
variable {K:Dh}
end
end L2.Pu
namespace L2.Pu
open PySem PySem.Spec PyProof.Rows
variable {ly:List cY}
structure fR (K:Dh) (x:Dj) (C:Dk):Prop where
 ns:DB K Dt x=some (some (.ref C))
 cl:oN K C
theorem RepF.nilI {K:Dh} {F:Hp} {vs:List (Dj×V)} (h:RepF K F vs []):vs=[]:=by cases h;rfl
theorem RepF.consI {K:Dh} {F:Hp} {vs:List (Dj×V)} {k:Dj} {d:D} {ds:List (Dj×D)} (h:RepF K F vs ((k,d)::ds)):∃v us,vs=(k,v)::us/\df K F v d/\RepF K F us ds:=by
 cases h with
 |cons r t=>exact⟨_,_,rfl,r,t⟩
theorem RepF.get {K:Dh} {F:Hp} {f:Dj} {d:D} {vs:List (Dj×V)} {ds:List (Dj×D)} (g:RepF K F vs ds):ds.lookup f=some d->∃v,(f,v)∈vs/\df K F v d:=by
 induction ds generalizing vs with
 |nil=>intro h;cases h
 |cons p ds ih=>
  intro h
  obtain⟨v,us,e0,r,t⟩:=RepF.consI (k:=p.1) (d:=p.2) g
  subst e0
  rw[En]at h
  cases e:f==p.1 with
  |true=>rw[e]at h;cases h;cases eq_of_beq e;exact⟨v,DI,r⟩
  |false=>
   rw[e]at h
   obtain⟨v',h1,h2⟩:=ih t h
   exact⟨v',DF _ h1,h2⟩
theorem RepF.names {K:Dh} {F:Hp} {vs:List (Dj×V)} {ds:List (Dj×D)} (g:RepF K F vs ds):vs.map (·.1)=ds.map (·.1):=by
 induction ds generalizing vs with
 |nil=>rw[g.nilI];rfl
 |cons p ds ih=>
  obtain⟨v,us,e0,_,t⟩:=RepF.consI (k:=p.1) (d:=p.2) g
  rw[e0,DH,DH,ih t]
theorem eU {α:Type} {f:Dj}:∀{ds:List (Dj×α)},ds.lookup f=none->f∉ds.map (·.1)
 |[],_=>by simp
 |(k,v)::ds,h=>by
  rw[En]at h
  cases e:f==k with
  |true=>rw[e]at h;cases h
  |false=>
   rw[e]at h
   rw[DH]
   intro z
   rcases DN.mp z with z|z
   ·rw[z]at e;simp at e
   ·exact eU h z
theorem c1.ins {K:Dh} {H F:Hp} {v:V} {x:Dj} {fds:List (Dj×D)} (s:aG F H):c1 K H F v (.ins x fds)->∃a C dx fs vs,v= .ref a/\H a=some (.ins C dx fs)/\DB K Dt x=some (some (.ref C))/\(∀p∈vs,fs.lookup p.1=some p.2)/\(∀f v,fs.lookup f=some v->f∈vs.map (·.1))/\RepF K F vs fds:=λh=>by
 obtain⟨a,C,dx,fs,vs,e,h,r⟩:=h.in rfl
 exact⟨a,C,dx,fs,vs,e,s _ _ h,r⟩
section
variable {X:Cx} {a o e:Dr} {es:List Dr} {fa fo:aa->R D} {fs:aa->R (List D)} {pos Kh p:DZ} {cls f m x:Dj} {C:Dk}
def cG (cls f:Dj) (fa:aa->R D):aa->R D:=λρ=>fa ρ>>=λd=>match d with
 | .ins y fds=>if y=cls then R.of (fds.lookup f)else .bad
 |_=> .bad
theorem B4 (T:fR X.K cls C) (n:cC X.K C f) (ha:PB ly X a fa) (hb:E9 a f X.env (DC a X.env)=DC a X.env:=by rfl):PQ ly X (.Attribute a f pos) (cG cls f fa):=λc=>
 PE.weak (nD (ha c) hb) λσ H Q ⟨F,ρ,ri,w⟩=>⟨F,ρ,ri,(aA.bind.mp w).imp λd _ w1 v H1 F1 e1 r1=>by
  cases d with
  |ins y fds=>
   dsimp only at w1
   split at w1
   ·rename_i hy
    subst hy
    obtain⟨d',hd,k⟩:=w1.of
    obtain⟨a,C',dx,fs,vs,rfl,h1,h2,h3,h4,h5⟩:=r1.ins e1.sub
    have ec:C'=C:=by rw[T.ns]at h2;cases h2;rfl
    subst ec
    obtain⟨u,hu,ru⟩:=h5.get hd
    exact⟨a,C',dx,fs,u,rfl,h1,T.cl,n,h3 _ hu,k u H1 F1 e1 ru⟩
   ·exact w1.elim
  |_=>exact w1.elim⟩
structure cr (P:Dy) (w:DG) (K:Dh) (mg:Dj->Option Di) (base:DE) (k:Nat) (cls m:Dj) (n:Nat) (r:List D->R D):Prop where
 ex:∃C f fd ps,d2 P w K mg base (gW P w) k f fd ps (sL K n r)/\fR K cls C/\q0 K C m f/\dv K fd ps []
def gE (cls m:Dj) (n:Nat) (r:List D->R D) (fo:aa->R D) (fs:aa->R (List D)):aa->R D:=λρ=>fo ρ>>=λd=>match d with
 | .ins y fds=>if y=cls/\fds.lookup m=none then (fs ρ>>=λds=>if ds.length+1=n then (match r (d::ds)with| .ok z=> .ok z| .err x _=> .err x ρ| .bad=> .bad)else .bad)else .bad
 |_=> .bad
theorem rD {c:cw ly} {r:List D->R D} {n:Nat} {σ:St} {H:Hp} {Q:VK} (T:fR X.K cls C) (h:tQ X.K c (gE cls m n r fo fs) σ H Q):uf C m (sL X.K n r) [] (zi X c) (tQ X.K c fo) (Ab X.K c fs) σ H Q:=by
 obtain⟨F,ρ,ri,w⟩:=h
 refine⟨F,ρ,ri,(aA.bind.mp w).imp λd hd w1 v H1 F1 e1 r1=> ?_⟩
 cases d with
 |ins y fds=>
  dsimp only at w1
  split at w1
  ·rename_i hy
   obtain⟨rfl,hm⟩:=hy
   obtain⟨a,C',dx,MG,vs,rfl,h1,h2,h3,h4,h5⟩:=c1.ins e1.sub (H:=H1) (.inl r1)
   have ec:C'=C:=by rw[T.ns]at h2;cases h2;rfl
   subst ec
   have N9:MG.lookup m=none:=by
    cases e:MG.lookup m with
    |none=>rfl
    |some v=>
     have:=h4 m v e
     rw[h5.names]at this
     exact absurd this (eU hm)
   refine⟨a,dx,MG,rfl,h1,N9,F1,ρ,ri.step e1,(aA.bind.mp w1).imp λds _ w2 us H2 F2 e2 r2=> ?_⟩
   show sL X.K n r (V.ref a::(us++[])) H2 Q (zi X c σ)
   rw[EG]
   split at w2
   ·rename_i hl
    refine⟨by rw[DA,r2.length];exact hl,F2,_,e2.sub, .cons (r1.mono e2.grow) r2,?_⟩
    split at w2
    ·rename_i z hz
     try rw[hz]
     exact λv H' F' e' r'=>w2 v H' F' ((e1.trans e2).trans e') r'
    ·rename_i z _ hz
     try rw[hz]
     exact λcls a H' F' ec e'=>⟨_,ρ,F',ec,ri.step ((e1.trans e2).trans e'),w2⟩
    ·exact w2.elim
   ·exact w2.elim
  ·exact w1.elim
 |_=>exact w1.elim
theorem nZ {k n:Nat} {r:List D->R D} {pl:Gy Bool} (G:cr X.prog X.w X.K X.mg X.base k cls m n r) (hr:bN k X.A) (ho:PQ ly X o fo) (ha:pS ly X (e::es) fs)
  (N8:Dm (e::es) X.env=(false,DC e X.env)::Dm es X.env:=by rfl) (L3:(DQ pos (Dm es X.env)).any (·.1)=false:=by rfl)
  (ht:DC (.Call (.Attribute o m Kh) (e::es) [] pos) X.env=(do
   let ov<-DC o X.env
   GY Kh.atName
   let (f,first)<-GZ [ov] (G4 ov m pl)
   H9 pos f first (DQ pos (Dm (e::es) X.env)) (EK pos (Em [] X.env))):=by rfl):
  PQ ly X (.Call (.Attribute o m Kh) (e::es) [] pos) (gE cls m n r fo fs):=by
 obtain⟨C,f,fd,ps,h1,h2,h3,h4⟩:=G.ex
 exact λc=>PE.weak (qZ (pl:=pl) (ho c) h2.cl h3 h1 hr h4 .nil (la c) (ha c) N8 L3 ht) λσ H Q h=>rD h2 h
theorem xj {k n:Nat} {r:List D->R D} {pl:Gy Bool} (G:cr X.prog X.w X.K X.mg X.base k cls m n r) (hr:bN k X.A) (ho:PQ ly X o fo)
  (ht:DC (.Call (.Attribute o m Kh) [] [] pos) X.env=(do
   let ov<-DC o X.env
   GY Kh.atName
   let (f,first)<-GZ [ov] (G4 ov m pl)
   H9 pos f first (DQ pos (Dm [] X.env)) (EK pos (Em [] X.env))):=by rfl):
  PQ ly X (.Call (.Attribute o m Kh) [] [] pos) (gE cls m n r fo ak):=by
 obtain⟨C,f,fd,ps,h1,h2,h3,h4⟩:=G.ex
 refine λc=>PE.weak (ug (pl:=pl) (ho c) h2.cl h3 h1 hr h4 .nil (la c) ht) λσ H Q h=> ?_
 obtain⟨F,ρ,ri,w⟩:=rD h2 h
 refine⟨F,ρ,ri,w.imp λd _ k v H1 F1 e1 r1=> ?_⟩
 obtain⟨a,dx,MG,g1,g2,g3,F2,ρ2,Nq,w2⟩:=k v H1 F1 e1 r1
 exact⟨a,dx,MG,g1,g2,g3,w2 [] H1 F2 (bi.refl Nq.sub) .nil⟩
theorem aw.ghost {K4:List (Dk×DT)} {σ:St} {H:Hp} {s:Dl} (I:aw X K4 σ H s) {i:Nat} {g:Dj} {v:Option V} (hi:X.N[i]? =some g) (hv:¬kD X.env.scope g):aw X K4 (σ.set i v) H s:=by
 refine {I with loc:= ?_,len:=by rw[List.length_set];exact I.len}
 obtain⟨mm,h1,h2⟩:=I.loc
 refine⟨mm,h1,λj x u e1 e2 e3=> ?_⟩
 by_cases z:i=j
 ·subst z
  rw[hi]at e1
  cases e1
  exact absurd e3 hv
 ·rw[ac z]at e2
  exact h2 j x u e1 e2 e3
def B5 (K:Dh) (i:Nat) (ta tv:TE) (f:Dj):TS:=λD σ H=>tv σ H λy H1=>ta σ H1 λx H2=>∃a C dx fs,x= .ref a/\H2 a=some (.ins C dx fs)/\oN K C/\cC K C f/\fs.length<1000/\
 D.nx (σ.set i (some y)) (bc H2 a (.ins C dx (ef f y fs)))
theorem rE {value:Dr} {Kw:DZ} {ta tv:TE} {g:Dj} (i:Nat) (hi:X.N[i]? =some g) (hvis:¬kD X.env.scope g) (ha:PE X o ta) (hv:PE X value tv) (hs:Eg value (some (.Attribute o f Kw)) pos.line X.env=pure false):
  PS X (.Assign [.Attribute o f Kw] value pos) (B5 X.K i ta tv f):=by
 intro K4 s σ H D I h
 refine GB (bU (hv K4 s σ H _ I h) λu s1 z=> ?_) hs
 obtain⟨y,H1,I1,ry,q⟩:=z
 refine bU (ha K4 s1 σ H1 _ I1 q) λov s2 z=> ?_
 obtain⟨x,H2,I2,rx,a,C,dx,fs,ex,ea,c,n,l,q2⟩:=z
 subst ex
 obtain rfl:ov=DP a:=rx
 exact kU I2 ea c n l ry λs3 I3=>⟨_,_,L2.Pu.aw.ghost I3 hi hvis,q2⟩
theorem m_ (f:Dj) (v:V):∀fs:List (Dj×V),(ef f v fs).map (·.1)=if f∈fs.map (·.1)then fs.map (·.1)else fs.map (·.1)++[f]
 |[]=>rfl
 |(g,x)::r=>by
  show (if g=f then (g,v)::r else (g,x)::ef f v r).map (·.1)=_
  by_cases e:g=f
  ·subst e;simp
  ·rw[if_neg e,DH,m_ f v r]
   by_cases h:f∈r.map (·.1)
   ·rw[if_pos h,if_pos (by rw[DH];exact DF _ h)];rfl
   ·rw[if_neg h,if_neg (by rw[DH];intro z;exact(DN.mp z).elim (λq=>e q.symm) h)];rfl
theorem n_ (f:Dj) (v:V) {fs:List (Dj×V)} (h:(fs.map (·.1)).Nodup):((ef f v fs).map (·.1)).Nodup:=by
 rw[m_]
 split
 ·exact h
 ·rename_i hf
  refine Gp.mpr ⟨h,by simp,λa ha b hb=> ?_⟩
  rw[DJ.mp hb]
  intro z;subst z;exact hf ha
theorem ci {α:Type} [DecidableEq α]:∀{l m:List α},l.Nodup->(∀x∈l,x∈m)->l.length<=m.length
 |[],_,_,_=>FD _
 |a::l,m,h,s=>by
  obtain⟨h1,h2⟩:=Fd.mp h
  have ha:=s a DI
  have:=ci (m:=m.erase a) h2 λx hx=>(List.mem_erase_of_ne (λz=>h1 (by rw[<-z];exact hx))).mpr (s x (DF _ hx))
  rw[List.length_erase_of_mem ha]at this
  have hp:0<m.length:=List.length_pos_of_mem ha
  rw[DA]
  omega
theorem gl {α:Type} {f:Dj}:∀{fs:List (Dj×α)},f∈fs.map (·.1)->∃v,fs.lookup f=some v
 |(g,x)::r,h=>by
  rw[En]
  cases e:f==g with
  |true=>exact⟨x,rfl⟩
  |false=>
   rw[DH]at h
   rcases DN.mp h with z|z
   ·rw[z]at e;simp at e
   ·exact gl z
theorem RI.fld {K:Dh} {c:cw ly} {ρ:aa} {σ:St} {H F:Hp} (r:RI K c ρ σ H F) {L:cY} (hL:L∈ly) (hρ:ρ[L.x]? =some (some .obj)) {a dx:Dk} {fs:List (Dj×V)} {i:Nat} (hx:σ[L.x]? =some (some (.ref a))) (ha:H a=some (.ins L.C dx fs)) (hf:(f,i)∈L.fl)
  (hn:∀p∈L.fl,p.1=f<->p.2=i) (O8:L.x≠i) (MK:∀M∈ly,M≠L->M.x≠i/\∀p∈M.fl,p.2≠i) {v:V} {d:D} (hd:df K F v d) (Nj:i<σ.length):
  RI K c (ρ.set i (some (.val d))) (σ.set i (some v)) (bc H a (.ins L.C dx (ef f v fs))) F:=by
 obtain⟨b,Om,MG,k0,k1,k2,k3,k4,k5,k6,k7,k8,k9,Oo⟩:=r.obj L hL hρ
 rw[hx]at k1
 cases k1
 rw[ha]at k2
 cases k2
 have Mn:∀{b:Dk} {o:HO},H b=some o->fO K F o d->b≠a:=λ{b o} e q z=>by subst z;rw[ha]at e;cases e;cases q
 refine⟨⟨λx y e=> ?_,λx y e=> ?_,r.ext.grow,r.ext.new⟩,λj e q=> ?_,λj e q=> ?_,λj e q=> ?_,r.bh,λj k e e' x q1 q2 q3 q4=> ?_,by simp[r.len],λM hM hq=> ?_,λM hM M' O9 OS OT x q1 q2=> ?_,r.fm, .no λj x Ka g hs w=> ?_,λM hM a h=> ?_⟩
 ·rw[al (λz=>by rw[z,k4]at e;cases e)];exact r.sub x y e
 ·rw[al (λz=>by rw[z,k6]at e;cases e)];exact r.ext.keep x y e
 ·rcases am q with ⟨rfl,z,l⟩|⟨z,q⟩
  ·cases z;exact⟨v,dB Nj,hd⟩
  ·rw[ac z];exact r.val j e q
 ·rcases am q with ⟨rfl,z,l⟩|⟨z,q⟩
  ·cases z
  ·obtain⟨x,o,g1,g2,g3,g4,g5⟩:=r.own j e q
   have nx:x≠a:=λz=>by subst z;rw[ha]at g2;cases g2;cases g5
   exact⟨x,o,by rw[ac z];exact g1,by rw[al nx];exact g2,g3,g4,g5⟩
 ·rcases am q with ⟨rfl,z,l⟩|⟨z,q⟩
  ·cases z
  ·rw[ac z];exact r.bor j e q
 ·rcases am q1 with ⟨rfl,z,l⟩|⟨z,q1⟩
  ·cases z
  ·rcases am q2 with ⟨rfl,z',l⟩|⟨z',q2⟩
   ·cases z'
   ·rw[ac z]at q3;rw[ac z']at q4
    exact r.dis j k e e' x q1 q2 q3 q4
 ·by_cases Mb:M=L
  ·subst Mb
   refine⟨a,dx,ef f v fs,k0,by rw[ac O8.symm];exact hx,aq,?_,k4,k5,k6,k7,λp hp=> ?_,λg u hu=> ?_,n_ _ _ Oo⟩
   ·rw[al (λz=>by rw[z,ha]at k3;cases k3)];exact k3
   ·rw[bM]
    by_cases e:p.1=f
    ·rw[if_pos e,(hn p hp).mp e,dB Nj];rfl
    ·rw[if_neg e,ac (λz=>e ((hn p hp).mpr z.symm))];exact k8 p hp
   ·rw[bM]at hu
    by_cases e:g=f
    ·subst e;exact ET.mpr ⟨_,hf,rfl⟩
    ·rw[if_neg e]at hu;exact k9 g u hu
  ·have ho:=MK M hM Mb
   rw[ac ho.1.symm]at hq
   obtain⟨b,dy,gs,g0,g1,g2,g3,g4,g5,g6,g7,g8,g9⟩:=r.obj M hM hq
   have nb:b≠a:=λz=>Mb (r.odis M hM L hL hq hρ a (by rw[<-z];exact g1) hx)
   have nd:dy≠a:=λz=>by subst z;rw[ha]at g3;cases g3
   refine⟨b,dy,gs,g0,by rw[ac ho.1.symm];exact g1,by rw[al nb];exact g2,by rw[al nd];exact g3,g4,g5,g6,g7,λp hp=> ?_,g9⟩
   rw[ac (ho.2 p hp).symm];exact g8 p hp
 ·have Nx:∀M∈ly,M.x≠i:=λM hM=>by
   by_cases Mb:M=L
   ·subst Mb;exact O8
   ·exact(MK M hM Mb).1
  rw[ac (Nx M hM).symm]at q1 OS
  rw[ac (Nx M' O9).symm]at q2 OT
  exact r.odis M hM M' O9 OS OT x q1 q2
 ·rcases am w with ⟨rfl,z,l⟩|⟨z,w⟩
  ·cases z
  ·have:=r.cel.one j L.x x Ka g hs .obj w hρ rfl
   subst this
   rw[hρ]at w
   cases w
 ·have Nx:M.x≠i:=by
   by_cases Mb:M=L
   ·subst Mb;exact O8
   ·exact(MK M hM Mb).1
  rw[ac Nx.symm];exact r.pin M hM a h
def o0 (x:Nat) (g:aa->R aU):aa->R aU:=λρ=>match ρ[x]? with
 |some (some .obj)=>g ρ
 |_=> .bad
theorem xk {c:cw ly} {x:Nat} {g:aa->R aU} {ρ:aa} {P:aU->Prop} (w:aA c (o0 x g ρ) P):ρ[x]? =some (some .obj)/\aA c (g ρ) P:=by
 unfold o0 at w
 split at w
 ·rename_i h;exact⟨h,w⟩
 ·exact w.elim
structure v7 (ly:List cY) (L:cY) (f:Dj) (i:Nat):Prop where
 mem:L∈ly
 fl:(f,i)∈L.fl
 un:∀p∈L.fl,p.1=f<->p.2=i
 x:L.x≠i
 oth:∀M∈ly,M≠L->M.x≠i/\∀p∈M.fl,p.2≠i
 few:L.fl.length<1000
theorem jK {value:Dr} {Kw px:DZ} {fv:aa->R D} {y g:Dj} {L:cY} (i:Nat) (hC:oN X.K L.C) (n:cC X.K L.C f) (A:v7 ly L f i) (hv:PQ ly X value fv) (hN:X.N[L.x]? =some y:=by rfl) (Qi:kD X.env.scope y:=by first|exact E7 rfl|exact DV (E7 rfl)|exact DV (DV rfl)) (hd:(y==("__debug__":Dj))=false:=by decide)
  (Lc:(y==("__classdict__":Dj))=false:=by decide) (hi:X.N[i]? =some g:=by rfl) (hvis:¬kD X.env.scope g:=by decide+kernel) (hs:Eg value (some (.Attribute (.Name y px) f Kw)) pos.line X.env=pure false:=by rfl):
  jD ly X (.Assign [.Attribute (.Name y px) f Kw] value pos) (o0 L.x (bQ fv (gN i))):=λc K4 s σ H D I q=>by
 refine rE i hi hvis (pv L.x hN Qi hd Lc) (hv c) hs K4 s σ H D I ?_
 obtain⟨F,ρ,ri,w⟩:=q
 obtain⟨hρ,w⟩:=xk w
 refine⟨F,ρ,ri,(aA.bind.mp w).imp λd _ w1 v H1 F1 e1 r1=> ?_⟩
 have MF:=ri.step e1
 obtain⟨a,dx,fs,h0,h1,h2,h3,h4,h5,h6,h7,h8,h9,Oq⟩:=MF.obj L A.mem hρ
 have Nj:i<σ.length:=by rw[I.len];exact(Dx.mp hi).1
 have Ki:fs.length<1000:=by
  have:=ci (m:=L.fl.map (·.1)) Oq λx hx=>by
   obtain⟨v,e⟩:=gl hx
   exact h9 x v e
  rw[Dp,Dp]at this
  exact Hd this A.few
 refine⟨.ref a,h1,a,L.C,dx,fs,rfl,h2,hC,n,Ki,?_⟩
 exact w1 _ _ F1 e1.grow (MF.fld A.mem hρ h1 h2 A.fl A.un A.x A.oth r1 Nj)
end
end L2.Pu
namespace L2.Pu
open PySem PySem.Spec PyProof.Rows
variable {ly:List cY}
section
variable {X:Cx} {pos px:DZ} {f y:Dj}
def CD (x:Nat) (g:aa->R D):aa->R D:=λρ=>match ρ[x]? with
 |some (some .obj)=>g ρ
 |_=> .bad
end
def cH:List (Dj×Nat)->aa->Option (List (Dj×D))
 |[],_=>some []
 |p::r,ρ=>match ρ[p.2]? with
  |some (some (.val d))=>(cH r ρ).map λt=>(p.1,d)::t
  |_=>none
def gm (n:Nat) (ds:List D):aa:=some Slot.obj::c2 n ds
def v8 (fl:List (Dj×Nat)) (ρ:aa):R (List (Dj×D)):=match ρ[0]? with
 |some (some Slot.obj)=>R.of (cH fl ρ)
 |_=> .bad
def kI (k n:Nat) (fl:List (Dj×Nat)) (g:aa->R aU) (ds:List D):R (List (Dj×D)):=if ds.length=k then g (gm n ds)>>=λo=>match o with
 | .nx ρ=>v8 fl ρ
 |_=> .bad else .bad
def v9 (K:Dh) (C:Dk) (cls:Dj) (k:Nat) (mi:List D->R (List (Dj×D))):Sp:=λvs H Q E=>∃F x dx us ds Hz,vs= .ref x::us/\us.length=k/\aG F Hz/\Hz x=none/\Hz dx=none/\dx≠x/\H=bc (bc Hz dx (.own x)) x (.ins C dx [])/\Reps K F us ds/\match mi ds with
 | .ok fds=>∀H' F',bi Hz F H' F'->df K F' (.ref x) (.ins cls fds)->Q .non H'
 | .err z _=>∀ec a H' F',d3 K z ec->bi Hz F H' F'->E ec a H'
 | .bad=>False
theorem iN {K:Dh} {c:cw ly} {ρ:aa} {σ:St} {H F:Hp} (ri:RI K c ρ σ H F) {fs:List (Dj×V)}:∀{fl:List (Dj×Nat)} {fds:List (Dj×D)},cH fl ρ=some fds->(∀p∈fl,fs.lookup p.1=(σ[p.2]?).join)->
  ∃vs:List (Dj×V),RepF K F vs fds/\vs.map (·.1)=fl.map (·.1)/\∀p∈vs,fs.lookup p.1=some p.2
 |[],fds,h,_=>by cases h;exact⟨[], .nil,rfl,λp hp=>by cases hp⟩
 |p::fl,fds,h,hl=>by
  unfold cH at h
  split at h
  ·rename_i d hd
   cases e:cH fl ρ with
   |none=>rw[e]at h;cases h
   |some t=>
    rw[e]at h
    cases h
    obtain⟨vs,h1,h2,h3⟩:=iN ri e λq hq=>hl q (DF _ hq)
    obtain⟨v,g1,g2⟩:=ri.val _ d hd
    refine⟨(p.1,v)::vs, .cons g2 h1,by rw[DH,DH,h2],λq hq=> ?_⟩
    rcases DN.mp hq with rfl|hq
    ·have:=hl p DI
     rw[this,g1];rfl
    ·exact h3 q hq
  ·cases h
theorem n0 {K:Dh} {N:List Dj} {C x dx:Dk} {fl:List (Dj×Nat)} {Hz F:Hp} {us:List V} {ds:List D} {Er:Dj->aa->Prop} {n:Nat} (hn:N.length=n+1) (s:aG F Hz) (hx:Hz x=none) (OU:Hz dx=none) (Mn:dx≠x) (r:Reps K F us ds) (SM:us.length<=n) (hg:∀p∈fl,us.length<p.2):
  RI K (⟨Hz,F,λ_=>none,Er,λ_=>some x,λ_=>none⟩:cw [⟨0,C,fl⟩]) (gm n ds) (cS N (.ref x::us)) (bc (bc Hz dx (.own x)) x (.ins C dx [])) F:=by
 have keep:aG Hz (bc (bc Hz dx (.own x)) x (.ins C dx [])):=(bC OU).trans (bC (by rw[al (E_ Mn)];exact hx))
 have hv:∀(i:Nat) sl,(gm n ds)[i]? =some (some sl)->(i=0/\sl= .obj)\/∃j d,i=j+1/\ds[j]? =some d/\sl= .val d:=λi sl h=>by
  cases i with
  |MS=>exact .inl ⟨rfl,by cases h;rfl⟩
  |succ j=>
   have h':(c2 n ds)[j]? =some (some sl):=h
   refine .inr ?_
   unfold c2 at h'
   rw[FR]at h'
   split at h'
   ·rw[DX]at h'
    cases e:ds[j]? with
    |none=>rw[e]at h';cases h'
    |some d=>rw[e]at h';simp at h';exact⟨j,d,rfl,e,h'.symm⟩
   ·rw[EY]at h'
    split at h'<;>simp at h'
 have OV:(cS N (V.ref x::us))[0]? =some (some (V.ref x)):=rfl
 refine⟨⟨s.trans keep,keep,aG.refl _,λ_ h=> .inl h⟩,λi d h=> ?_,λi d h=> ?_,λi d h=> ?_,(λb o e=>by cases e),λi j d d' a h=> ?_,?_,λL hL _=> ?_,λL hL L' M9 _ _ a _ _=> ?_,(λ_ _ e=>by cases e), .no λi x Ka f hs h=>(by obtain⟨_,z⟩|⟨j,d',_,_,z⟩:=hv i _ h<;>cases z),λL hL a h=>by rw[DJ.mp hL];cases h;exact OV⟩
 ·obtain⟨rfl,z⟩|⟨j,d',rfl,e,z⟩:=hv i _ h
  ·cases z
  cases z
  obtain⟨v,h1,h2⟩:=r.get e
  refine⟨v,?_,h2⟩
  unfold cS
  have hl:j<us.length:=(Dx.mp h1).1
  rw[EN (by simpa using hl),DX]
  show (us[j]?).map some=_
  rw[h1]
  rfl
 ·obtain⟨_,z⟩|⟨j,d',_,_,z⟩:=hv i _ h<;>cases z
 ·obtain⟨_,z⟩|⟨j,d',_,_,z⟩:=hv i _ h<;>cases z
 ·obtain⟨_,z⟩|⟨j,d',_,_,z⟩:=hv i _ h<;>cases z
 ·simp only[gm,c2,cS,DA,E5,Dp,GA,hn]
  have:=r.length
  omega
 ·rw[DJ.mp hL]
  refine⟨x,dx,[],(λb hb=>by cases hb;rfl),OV,aq,?_,s.free hx,s.free OU,hx,OU,λp hp=> ?_,(λf v h=>by cases h),JO⟩
  ·rw[al Mn];exact aq
  ·have NL:=hg p hp
   show none=_
   unfold cS
   rw[FV (by simp;omega),EY]
   split<;>rfl
 ·rw[DJ.mp hL,DJ.mp M9]
theorem xl {K:Dh} {C:Dk} {cls:Dj} {fl:List (Dj×Nat)} {c:cw [⟨0,C,fl⟩]} {ρ:aa} {σ:St} {H F:Hp} {fds:List (Dj×D)} {x:Dk} (ri:RI K c ρ σ H F) (hρ:ρ[0]? =some (some .obj)) (Qj:c.oa 0=some x) (MI:DB K Dt cls=some (some (.ref C))) (h:cH fl ρ=some fds):
  ∃F',bi c.H0 c.F0 H F'/\df K F' (.ref x) (.ins cls fds):=by
 obtain⟨a,dx,fs,h0,h1,h2,h3,h4,h5,h6,h7,h8,h9,Oq⟩:=ri.obj _ (DJ.mpr rfl) hρ
 cases h0 x Qj
 obtain⟨vs,g1,g2,g3⟩:=iN ri h h8
 have Mn:dx≠x:=λz=>by rw[z,h2]at h3;cases h3
 have s1:aG F (bc F dx (.own x)):=bC h5
 have s2:aG (bc F dx (.own x)) (bc (bc F dx (.own x)) x (.ins C dx fs)):=bC (by rw[al (E_ Mn)];exact h4)
 have sF:=s1.trans s2
 refine⟨bc (bc F dx (.own x)) x (.ins C dx fs),⟨λb u e=> ?_,ri.ext.keep,ri.ext.grow.trans sF,λb e=> ?_⟩, .ins aq (by rw[al Mn];exact aq) MI g3 (λf v e=>by rw[g2];exact h9 f v e) (g1.mono sF)⟩
 ·by_cases z:b=x
  ·subst z;rw[aq]at e;rw[<-e];exact h2
  ·rw[al z]at e
   by_cases z2:b=dx
   ·subst z2;rw[aq]at e;rw[<-e];exact h3
   ·rw[al z2]at e;exact ri.sub b u e
 ·by_cases z:b=x
  ·subst z;exact .inr h6
  ·rw[al z]at e
   by_cases z2:b=dx
   ·subst z2;exact .inr h7
   ·rw[al z2]at e;exact ri.ext.new b e
theorem xm {P:Dy} {w:DG} {K:Dh} {mg:Dj->Option Di} {base:DE} {x qual cls:Dj} {st:DU} {f C:Dk} {fd:Ep} {N ps:List Dj} {k n m:Nat} {fl:List (Dj×Nat)} {g:aa->R aU} (F:re K x qual st f fd) (S:aF N ps (ah st))
  (MI:DB K Dt cls=some (some (.ref C))) (hn:ps.length=n+1) (hm:N.length=m+1) (hg:∀p∈fl,n<p.2) (Nr:n<=m)
  (Ko:∀(Kf:Di) (A:DO) (outer:List EO) (s:Dl) (H:Hp) (E:XK),bN k (A.deeper (ES qual (ah st) s.heap.objs.size f Kf))->
   gi [⟨0,C,fl⟩] (fg (gW P w) P w K mg base N qual (ah st) f Kf A outer s H E) (aN st) g):d2 P w K mg base (gW P w) (k+1) f fd ps (v9 K C cls n (kI n m fl g)):=by
 refine Bz F S (λvs H Q E h=> ?_) (λKf A outer s H vs Q E hr h=> ?_)
 ·obtain⟨Fz,y,dy,us,ds,Hz,rfl,hl,_⟩:=h
  rw[DA,hl,hn]
 ·obtain⟨Fz,y,dy,us,ds,Hz,rfl,hl,sub,hy,OW,Mn,rfl,r,w⟩:=h
  refine⟨_,Ko Kf A outer s _ E hr ⟨⟨Hz,Fz,λ_=>none,λz _=>∀ec a H' F',d3 K z ec->bi Hz Fz H' F'->E ec a H',λ_=>some y,λ_=>none⟩,nO λz ρ er ec a H' F' σ hc ri=>er ec a H' F' hc ri.ext⟩,?_⟩
  refine⟨Fz,gm m ds,n0 hm sub hy OW Mn r (by omega) (λp hp=>by rw[hl];exact hg p hp),?_⟩
  have hd:ds.length=n:=by rw[<-r.length];exact hl
  unfold kI at w
  rw[if_pos hd]at w
  cases e:g (gm m ds)with
  |bad=>rw[e]at w;exact w.elim
  |err c ρ=>rw[e]at w;exact w
  |ok o=>
   rw[e]at w
   cases o with
   |nx ρ=>
    intro σ' H' F' _ M3
    rw[ai]at w
    split at w
    ·rename_i fds hf
     replace hf:v8 fl ρ= .ok fds:=hf
     unfold v8 at hf
     split at hf
     ·rename_i hρ
      cases e2:cH fl ρ with
      |none=>rw[e2]at hf;cases hf
      |some RS=>
       rw[e2]at hf
       cases hf
       obtain⟨F2,x1,x2⟩:=xl M3 hρ rfl MI e2
       exact w H' F2 x1 x2
     ·cases hf
    ·rename_i z ρe hf
     replace hf:v8 fl ρ= .err z ρe:=hf
     unfold v8 at hf
     split at hf
     ·cases e2:cH fl ρ<;>rw[e2]at hf<;>cases hf
     ·cases hf
    ·exact w.elim
   |_=>exact w.elim
structure gp (P:Dy) (w:DG) (K:Dh) (mg:Dj->Option Di) (base:DE) (k:Nat) (cls:Dj) (n:Nat) (mi:List D->R (List (Dj×D))):Prop where
 ex:∃C f fd ps,d2 P w K mg base (gW P w) k f fd ps (v9 K C cls n mi)/\mg cls=some (.ref C)/\Mk K C f/\dv K fd ps []
section
variable {X:Cx} {e:Dr} {es:List Dr} {fs:aa->R (List D)} {cls:Dj} {p pos:DZ}
def kl (cls:Dj) (n:Nat) (mi:List D->R (List (Dj×D))) (fs:aa->R (List D)):aa->R D:=λρ=>fs ρ>>=λds=>if ds.length=n then (match mi ds with| .ok fds=> .ok (.ins cls fds)| .err x _=> .err x ρ| .bad=> .bad)else .bad
theorem lv {k n:Nat} {mi:List D->R (List (Dj×D))} (G:gp X.prog X.w X.K X.mg X.base k cls n mi) (hr:bN (k+1) X.A) (ha:pS ly X (e::es) fs) (hg:Gl X cls:=by rfl) (La:(cls==("__debug__":Dj))=false:=by decide)
  (he:Dm (e::es) X.env=(false,DC e X.env)::Dm es X.env:=by rfl) (L3:(DQ pos (Dm es X.env)).any (·.1)=false:=by rfl):PQ ly X (.Call (.Name cls p) (e::es) [] pos) (kl cls n mi fs):=by
 obtain⟨C,f,fd,ps,h1,h2,h3,h4⟩:=G.ex
 refine λc=>PE.weak (q_ h3 h1 hr hg h2 h4 .nil (la c) (ha c) La he L3) λσ H Q ⟨F,ρ,ri,w⟩=>⟨F,ρ,ri,(aA.bind.mp w).imp λds _ w1 vs H1 F1 e1 r1 x dx hx OU Mn=> ?_⟩
 rw[EG]
 split at w1
 ·rename_i hl
  refine⟨F1,x,dx,vs,ds,H1,rfl,by rw[r1.length];exact hl,e1.sub,hx,OU,Mn,rfl,r1,?_⟩
  split at w1
  ·rename_i fds hm
   exact λH' F' e' r'=>⟨rfl,w1 _ H' F' (e1.trans e') r'⟩
  ·exact λec a H' F' hc e'=>⟨_,ρ,F',hc,ri.step (e1.trans e'),w1⟩
  ·exact w1.elim
 ·exact w1.elim
end
end L2.Pu
namespace L2.Pu
open PySem PySem.Spec PyProof.Rows
variable {ly:List cY}
section
variable {X:Cx} {e:Dr} {es:List Dr} {fs:aa->R (List D)} {x:Dj} {np Kb pos:DZ}
structure cU (K:Dh) (mg:Dj->Option Di) (x:Dj):Prop where
 ex:∃C,DB K Dt x=some (some (.ref C))/\mg x=some (.ref C)/\nL K C
def c3 (x:Dj) (fs:aa->R (List D)):aa->R aU:=λρ=>fs ρ>>=λds=>if ds.length<=lim then .err x ρ else .bad
theorem va {c:fE ly X} {C:Dk} {σ:St} {H:Hp} {D:jw} {ρ:aa} {F:Hp} (MI:DB X.K Dt x=some (some (.ref C)))
  (O4:∀K4 σ ρ H F s a cls x,aw X K4 σ H s->RI X.K c.1 ρ σ H F->Fl X K4 H s.heap a cls->d3 X.K x cls->c.1.Er x ρ->X.xe (.ref a) s)
  (ri:RI X.K c.1 ρ σ H F) (w:aA c.1 (c3 x fs ρ) (eB X.K c.1 F D)):uB X C (Ab X.K c.1 fs) D σ H:=by
 refine⟨F,ρ,ri,(aA.bind.mp w).imp λds _ w1 vs H1 F1 e1 r1=> ?_⟩
 split at w1
 ·rename_i hl
  exact⟨DY (by rw[r1.length];exact hl) eg,λK4 s a I fl=>O4 K4 σ ρ H1 F1 s a _ x I (ri.step e1) fl ⟨C,rfl,MI⟩ w1⟩
 ·exact w1.elim
theorem vb {c:cw ly} {ρ:aa} {F:Hp} {D:jw} (no:∀x ρ,¬c.Er x ρ) (w:aA c (c3 x fs ρ) (eB X.K c F D)):False:=by
 unfold c3 at w
 cases h:fs ρ with
 |bad=>rw[h]at w;exact w
 |err y ρ'=>rw[h]at w;exact no _ _ w
 |ok ds=>
  rw[h,ai]at w
  split at w
  ·exact no _ _ w
  ·exact w
theorem dX (k:cU X.K X.mg x) (hc:X.calm=true) (ha:pS ly X (e::es) fs) (hg:Gl X x:=by rfl) (La:(x==("__debug__":Dj))=false:=by decide)
  (he:Dm (e::es) X.env=(false,DC e X.env)::Dm es X.env:=by rfl) (L3:(DQ Kb (Dm es X.env)).any (·.1)=false:=by rfl) (N8:X.stack=X.env::X.outer:=by rfl):jD ly X (.Raise (some (.Call (.Name x np) (e::es) [] Kb)) none pos) (c3 x fs):=by
 obtain⟨C,h1,h2,h3⟩:=k.ex
 intro c K4 s σ H D I q
 obtain⟨F,ρ,ri,w⟩:=q
 rcases c.2.plain N8 with ⟨hp,O4⟩|no
 ·exact uC h3 h2 hp hc (ha c) hg La he L3 K4 s σ H D I (va h1 O4 ri w)
 ·exact(vb (X:=X) no w).elim
end
def B6 (i:Nat):aU->aU
 | .nx ρ=> .nx (ρ.set i none)
 | .brk ρ=> .brk (ρ.set i none)
 | .cnt ρ=> .cnt (ρ.set i none)
 | .ret d=> .ret d
 | .retc d ρ=> .retc d (ρ.set i none)
def n4 (i:Nat) (sub:Dj->Bool) (gh:aa->R aU) (x:Dj) (ρ:aa):R aU:=if sub x=true then (match gh (ρ.set i (some (.val (.exc x))))with
 | .ok o=> .ok (B6 i o)
 |_=> .bad)else .bad
def qB (i:Nat) (sub:Dj->Bool) (g gh:aa->R aU):aa->R aU:=λρ=>match g ρ with
 | .err x ρ'=>n4 i sub gh x ρ'
 |r=>r
section
variable {X:Cx} {K4:List (Dk×DT)} {σ:St} {H:Hp} {s:Dl}
abbrev _root_.L2.Cx.inT (X:Cx) (E:Di->Dl->Prop) (pn:List (Dk×DT)):Cx:={X with xe:=E,pn:=pn}
theorem D3 {E:Di->Dl->Prop} {pn:List (Dk×DT)} (ok:X.Ok):(X.inT E pn).Ok:=
 ⟨ok.mod,ok.kind,ok.glob,ok.blt,ok.above,ok.inj,ok.has,ok.cab,ok.hd,ok.frames,ok.stk,ok.exf,ok.bs,ok.bsz,ok.noex,ok.exfs,ok.funs,ok.frf⟩
theorem inT {E:Di->Dl->Prop} (I:aw X K4 σ H s):aw (X.inT E (X.pn++K4)) [] σ H s:=⟨D3 I.ok,I.os,I.bare,I.base,I.loc,I.cell,I.free,I.freeC,λp hp=>I.pin p (by simpa using hp),I.hok,I.len⟩
theorem vc {E:Di->Dl->Prop} {Lm:List (Dk×DT)} (ok:X.Ok) (I:aw (X.inT E (X.pn++K4)) Lm σ H s):aw X K4 σ H s:=⟨ok,I.os,I.bare,I.base,I.loc,I.cell,I.free,I.freeC,λp hp=>I.pin p (Ei _ hp),I.hok,I.len⟩
theorem newT {E:Di->Dl->Prop} {Lm:List (Dk×DT)} {b:Dk} (n:qj (X.inT E (X.pn++K4)) Lm H b):qj X K4 H b:=⟨n.s0,n.no,λp hp=>n.pin p (Ei _ hp)⟩
theorem D4 {E:Di->Dl->Prop} {Lm:List (Dk×DT)} {h:DE} {a:Dk} {cls:Di} (f:Fl (X.inT E (X.pn++K4)) Lm H h a cls):Fl X K4 H h a cls:=by
 obtain⟨oe,vs,h1,h2,h3,h4⟩:=f.at_
 refine⟨newT f.new,oe,vs,h1,h2,h3,h4.imp id λ⟨T,fl,e,t,hf⟩=>⟨T,fl,e,⟨newT t.new,t.ne,t.at_⟩,hf⟩⟩
theorem D5 {E:Di->Dl->Prop} {D:jw} {f:Flow} (ok:X.Ok) (h:SP (X.inT E (X.pn++K4)) [] D f s):SP X K4 D f s:=by
 cases f with
 |next=>obtain⟨σ',H',I,q⟩:=h;exact⟨σ',H',vc ok I,q⟩
 |brk=>obtain⟨σ',H',I,q⟩:=h;exact⟨σ',H',vc ok I,q⟩
 |cont=>obtain⟨σ',H',I,q⟩:=h;exact⟨σ',H',vc ok I,q⟩
 |ret u=>obtain⟨v,σ',H',I,r,q⟩:=h;exact⟨v,σ',H',vc ok I,r,q⟩
end
section
variable {K:Dh} {c:cw ly} {ρ:aa} {σ:St} {H F:Hp}
def cw.er (c:cw ly) (F:Hp) (Er:Dj->aa->Prop):cw ly:=⟨c.H0,c.F0,c.B,Er,c.oa,F⟩
theorem RI.er {Er:Dj->aa->Prop} (r:RI K c ρ σ H F):RI K (c.er F Er) ρ σ H F:=⟨r.ext,r.val,r.own,r.bor,r.bh,r.dis,r.len,r.obj,r.odis,aG.refl _,r.cel,r.pin⟩
theorem RI.unEr {F1:Hp} {Er:Dj->aa->Prop} (r:RI K (c.er F1 Er) ρ σ H F) (m:aG c.Fm F1):RI K c ρ σ H F:=⟨r.ext,r.val,r.own,r.bor,r.bh,r.dis,r.len,r.obj,r.odis,m.trans r.fm,r.cel,r.pin⟩
theorem eB.er {D:jw} {o:aU} {F1:Hp} {Er:Dj->aa->Prop} (m:aG c.Fm F1) (h:eB K c F D o):eB K (c.er F1 Er) F D o:=by
 cases o with
 |nx ρ=>exact λσ' H' F' s r=>h σ' H' F' s (r.unEr m)
 |brk ρ=>exact λσ' H' F' s r=>h σ' H' F' s (r.unEr m)
 |cnt ρ=>exact λσ' H' F' s r=>h σ' H' F' s (r.unEr m)
 |ret d=>exact λv H' F' s e r=>h v H' F' s e r
 |retc d ρ=>exact λv σ' H' F' s e r=>h v σ' H' F' s (e.unEr m) r
end
section
variable {X:Cx} {body M8:List DU} {b₀:DU} {g gh:aa->R aU} {cx n:Dj} {np MW pos:DZ} {sub:Dj->Bool}
structure pc (K:Dh) (mg:Dj->Option Di) (cx:Dj) (sub:Dj->Bool):Prop where
 ex:∃C,mg cx=some (.ref C)/\∀x cls,sub x=true->d3 K x cls->FL K cls (.ref C)=some true
theorem B7 (i:Nat) (p:fM X) (hN:X.N.Nodup) (U:pc X.K X.mg cx sub) (hb:∀E pn,gi ly (X.inT E pn) body g) (hh:∀v,gi ly (X.inH v) (b₀::M8) gh) (hi:X.N[i]? =some n:=by rfl) (hk:X.env.scope.names.lookup n=some .local:=by rfl) (hg:Gl X cx:=by rfl)
  (La:(cx==("__debug__":Dj))=false:=by decide) (LO:gY ly i:=by(repeat (first|assumption|exact L2.Pu.dA|refine L2.Pu.cN ⟨by first|decide|simp,by first|decide|simp⟩ ?_))):jD ly X (.Try body [.ExceptHandler (some (.Name cx np)) (some n) (b₀::M8) MW] [] [] pos) (qB i sub g gh):=by
 obtain⟨Cc,hm,Qk⟩:=U.ex
 intro c K4 s σ H D I q
 obtain⟨F,ρ,ri,w⟩:=q
 refine wpAny_Try_except ?_
 have ok:=I.ok
 let R1:Di->Dl->Prop:=λe s₁=>Du (Dz X.prog X.w) X.A (J8 e X.env) (λ_ s₂=>Du (Dz X.prog X.w) X.A (setFlight e none) (λ_ s₃=>Du (Dz X.prog X.w) X.A (handleBy e X.env [.ExceptHandler (some (.Name cx np)) (some n) (b₀::M8) MW]) (SP X K4 D) X.xe s₃) X.xe s₂) X.xe s₁
 let c':cw ly:=c.1.er F λx ρ'=>aA c.1 (n4 i sub gh x ρ') (eB X.K c.1 F D)
 have O4:zj (X.inT R1 (X.pn++K4)) c':=by
  refine .inl ⟨⟨p.st,p.fr,p.ex⟩,λLm σ' ρ' H' F' s' a cls x I' M3 fl ec er=> ?_⟩
  obtain⟨C,rfl,MI⟩:=ec
  have Ot:RI X.K c.1 ρ' σ' H' F':=M3.unEr ri.fm
  have sF:aG F F':=M3.fm
  refine oX (vc ok I') p (D4 fl) λh2 I2 f2=> ?_
  replace er:aA c.1 (n4 i sub gh x ρ') (eB X.K c.1 F D):=er
  unfold n4 at er
  split at er
  ·rename_i hs
   refine sK I2 p f2 hN hi hk hg hm (Qk x _ hs ⟨C,rfl,MI⟩) La λs3 I3=> ?_
   have e2:=bi.lay (o:= .ext (fN a (.ref C))) Ot.sub f2.new.no
   have MX:=(Ot.step e2).setVal i LO (df.exc aq MI)
   split at er
   ·rename_i o ho
    let D2:jw:={nx:=λσ1 H1=>D.nx (σ1.set i none) H1,rt:=D.rt,bk:=λσ1 H1=>D.bk (σ1.set i none) H1,ct:=λσ1 H1=>D.ct (σ1.set i none) H1}
    have Ql:eB X.K (c.1.er F λ_ _=>False) (bc F' a (.ext (fN a (.ref C)))) D2 o:=by
     have OX:=sF.trans e2.grow
     cases o with
     |nx ρ1=>exact λσ1 H1 F1 s1 r1=>er _ H1 F1 (OX.trans s1) ((r1.unEr ri.fm).setNone i LO)
     |brk ρ1=>exact λσ1 H1 F1 s1 r1=>er _ H1 F1 (OX.trans s1) ((r1.unEr ri.fm).setNone i LO)
     |cnt ρ1=>exact λσ1 H1 F1 s1 r1=>er _ H1 F1 (OX.trans s1) ((r1.unEr ri.fm).setNone i LO)
     |ret d=>exact λv H1 F1 s1 e1 r1=>er v H1 F1 (OX.trans s1) e1 r1
     |retc d ρ1=>exact λv σ1 H1 F1 s1 e1 r1=>er v _ H1 F1 (OX.trans s1) ((e1.unEr ri.fm).setNone i (v:=none) LO) r1
    have RT:RI X.K (c.1.er F λ_ _=>False) (ρ'.set i (some (.val (.exc x)))) (σ'.set i (some (.ref a))) (bc H' a (.ext (fN a (.ref C)))) (bc F' a (.ext (fN a (.ref C)))):=⟨MX.ext,MX.val,MX.own,MX.bor,MX.bh,MX.dis,MX.len,MX.obj,MX.odis,sF.trans e2.grow,MX.cel,MX.pin⟩
    refine bU (hh (.ref a) ⟨c.1.er F λ_ _=>False, .no λ_ _ z=>z⟩ K4 s3 _ _ D2 I3 ⟨_,_,RT,by rw[ho];exact Ql⟩) λf s4 q4=> ?_
    have Ny:∀{σ1 H1},aw (X.inH (.ref a)) K4 σ1 H1 s4->(∀s5,aw X K4 (σ1.set i none) H1 s5->SP X K4 D f s5)->Du (Dz X.prog X.w) X.A (do bindName X.env n FO;GP X.env n MW) (λ_ s5=>SP X K4 D f s5) X.xe s4:=λI4 kk=>sI (I4.outH ok) hN hi hk kk
    cases f with
    |next=>obtain⟨σ1,H1,I4,q5⟩:=q4;exact Ny I4 λs5 I5=>⟨_,H1,I5,q5⟩
    |brk=>obtain⟨σ1,H1,I4,q5⟩:=q4;exact Ny I4 λs5 I5=>⟨_,H1,I5,q5⟩
    |cont=>obtain⟨σ1,H1,I4,q5⟩:=q4;exact Ny I4 λs5 I5=>⟨_,H1,I5,q5⟩
    |ret u=>obtain⟨v,σ1,H1,I4,r,q5⟩:=q4;exact Ny I4 λs5 I5=>⟨v,_,H1,I5,r,q5⟩
   ·exact er.elim
  ·exact er.elim
 have wb:aA c' (g ρ) (eB X.K c' F D):=by
  unfold qB at w
  cases h:g ρ with
  |bad=>rw[h]at w;exact w
  |err x ρ'=>rw[h]at w;exact w
  |ok o=>rw[h]at w;exact eB.er ri.fm w
 refine bU (hb R1 (X.pn++K4) ⟨c',O4⟩ [] s σ H D (inT I) ⟨F,ρ,ri.er,wb⟩) λf s1 q1=> ?_
 have q2:=D5 ok q1
 cases f with
 |next=>exact GI q2
 |brk=>exact q2
 |cont=>exact q2
 |ret u=>exact q2
end
section
variable {X:Cx} {a:Dr} {fa:aa->R D} {x:Dj} {p p2 pos:DZ} {tb:Dj->Option Bool}
structure km (K:Dh) (v:Di) (tb:Dj->Option Bool):Prop where
 ok:∀x b cls,tb x=some b->d3 K x cls->Eh K cls v=some b/\∃C,cls= .ref C/\nL K C
def lw (tb:Dj->Option Bool) (f:aa->R D):aa->R D:=λρ=>f ρ>>=λd=>match d with
 | .exc x=>R.of ((tb x).map .bl)
 |_=> .bad
def B8 (K:Dh):List V->Hp->VK->Prop:=λxs H Q=>∃a C v c b,xs=[.ref a,v]/\H a=some (.ext (fN a (.ref C)))/\nL K C/\((∃T,v= .ty T/\c= .type T)\/∃C2,v= .ref C2/\c= .ref C2)/\Eh K (.ref C) c=some b/\Q (.bl b) H
theorem pd:fJ X (.builtin "isinstance") (B8 X.K):=by
 intro K4 s σ H xs us Q I rv h
 obtain⟨a,C,v,c,b,rfl,ea,k,hc,e,q⟩:=h
 obtain⟨u,w',rfl,ru,ME⟩:=xW rv
 cases (show u=DP a from ru)
 obtain⟨⟨o,g1,g2⟩,_⟩:=(show bB X.prog X.w H s.heap a (.ext (fN a (.ref C)))from I.hok a _ ea)
 have ew:w'=c:=by
  rcases hc with ⟨T,rfl,rfl⟩|⟨C2,rfl,rfl⟩
  ·exact ME
  ·exact ME
 subst ew
 exact Ej (uA k) I.kIn ⟨o,g1,g2⟩ e (λz=>nomatch z) λtk=>⟨.bl b,H,I.tok tk,rfl,q⟩
theorem c1.exc {K:Dh} {H F:Hp} {v:V} {x:Dj} (s:aG F H):c1 K H F v (.exc x)->∃a C,v= .ref a/\H a=some (.ext (fN a (.ref C)))/\DB K Dt x=some (some (.ref C)):=λh=>by
 obtain⟨a,C,e,h,n⟩:=h.in rfl
 exact⟨a,C,e,s _ _ h,n⟩
theorem ve {K:Dh} {c:cw ly} {tv:V} {cv:Di} {σ:St} {H:Hp} {Q:VK} (T:km K cv tb) (hv:(∃T,tv= .ty T/\cv= .type T)\/∃C2,tv= .ref C2/\cv= .ref C2) (h:tQ K c (lw tb fa) σ H Q):
  tB' K c fa σ H λv H1=>B8 K [v,tv] H1 Q:=by
 obtain⟨F,ρ,ri,w⟩:=h
 refine⟨F,ρ,ri,(aA.bind.mp w).imp λd _ w1 v H1 F1 e1 r1=> ?_⟩
 cases d with
 |exc x=>
  obtain⟨d',hd,k⟩:=w1.of
  cases ht:tb x with
  |none=>rw[ht]at hd;cases hd
  |some b=>
   rw[ht]at hd
   cases hd
   obtain⟨a,C,rfl,h1,h2⟩:=r1.exc e1.sub
   obtain⟨g1,C',g2,g3⟩:=T.ok x b (.ref C) ht ⟨C,rfl,h2⟩
   cases g2
   exact⟨a,C,tv,cv,b,rfl,h1,g3,hv,g1,k _ H1 F1 e1 (.bl b)⟩
 |_=>exact w1.elim
theorem B9 {C2:Dk} (T:km X.K (.ref C2) tb) (hm:X.mg x=some (.ref C2)) (O6:X.mg "isinstance"=none) (ha:PB ly X a fa) (O7:Gl X "isinstance":=by rfl) (hg:Gl X x:=by rfl) (La:(x==("__debug__":Dj))=false:=by decide)
  (he:Dm [a, .Name x p2] X.env=(false,DC a X.env)::Dm [.Name x p2] X.env:=by rfl) (Na:Dm [.Name x p2] X.env=(false,DC (.Name x p2) X.env)::Dm [] X.env:=by rfl) (L3:(DQ pos (Dm [.Name x p2] X.env)).any (·.1)=false:=by rfl):
  PQ ly X (.Call (.Name "isinstance" p) [a, .Name x p2] [] pos) (lw tb fa):=λc=>
 PE.weak (gT pd O7 O6 l3 (bt (ha c) (bt (qR hg hm (v:= .ref C2) rfl La) d0 Na) he) (by decide) (by decide) he L3) λσ H Q h=>ve T (.inr ⟨C2,rfl,rfl⟩) h
theorem zH {Ty:String} (T:km X.K (.type Ty) tb) (hv:E4 x=some (.type Ty)) (hm:X.mg x=none) (O6:X.mg "isinstance"=none) (ha:PB ly X a fa) (O7:Gl X "isinstance":=by rfl) (hg:Gl X x:=by rfl) (hn:x≠"__name__":=by decide) (La:(x==("__debug__":Dj))=false:=by decide)
  (he:Dm [a, .Name x p2] X.env=(false,DC a X.env)::Dm [.Name x p2] X.env:=by rfl) (Na:Dm [.Name x p2] X.env=(false,DC (.Name x p2) X.env)::Dm [] X.env:=by rfl) (L3:(DQ pos (Dm [.Name x p2] X.env)).any (·.1)=false:=by rfl):
  PQ ly X (.Call (.Name "isinstance" p) [a, .Name x p2] [] pos) (lw tb fa):=λc=>
 PE.weak (gT pd O7 O6 l3 (bt (ha c) (bt (qS (v:= .ty Ty) hg hm hv rfl hn La) d0 Na) he) (by decide) (by decide) he L3) λσ H Q h=>ve T (.inl ⟨Ty,rfl,rfl⟩) h
end
end L2.Pu
namespace L2.Pu
open PySem PySem.Spec PyProof.Rows
variable {ly:List cY}
def tN (K:Dh) (c:cw ly) (f:aa->R D):TE:=λσ H Q=>∃F ρ,RI K c ρ σ H F/\aA c (f ρ) λd=>∀a o H' F',bi H F H' F'->H a=none->H' a=some o->F' a=none->fO K F' o d->Q (.ref a) H'
def PN (ly:List cY) (X:Cx) (e:Dr) (f:aa->R D):Prop:=∀c:fE ly X,PE X e (tN X.K c.1 f)
def vf (K:Dh) (r:List V->Hp->VK->Prop) (g:List D->Option D):Prop:=∀vs ds d H F Q,aG F H->kg K H F vs ds->g ds=some d->(∀a o,H a=none->fO K F o d->Q (.ref a) (bc H a o))->r vs H Q
section
variable {X:Cx} {a b e:Dr} {es:List Dr} {fa fb f:aa->R D} {fs:aa->R (List D)} {pos p:DZ} {x:Dj} {id T:String} {rc:List V->Hp->VK->Prop}
theorem rF {K:Dh} {H F H1 F1:Hp} {d:D} {Q:VK} (e1:bi H F H1 F1) (k:∀a o H' F',bi H F H' F'->H a=none->H' a=some o->F' a=none->fO K F' o d->Q (.ref a) H'):∀a o,H1 a=none->fO K F1 o d->Q (.ref a) (bc H1 a o):=
 λa o ha r=>k a o (bc H1 a o) F1 (e1.trans (bi.layOwn e1.sub ha)) (e1.keep.free ha) aq (e1.sub.free ha) r
theorem BD {g:List D->Option D} (hc:fJ X (.builtin id) rc) (MJ:vf X.K rc g) (hm:X.mg x=none) (hv:E4 x=some (.builtin id)) (ha:zk ly X (e::es) fs) (hg:Gl X x:=by rfl) (hn:x≠"__name__":=by decide) (La:(x==("__debug__":Dj))=false:=by decide)
  (he:Dm (e::es) X.env=(false,DC e X.env)::Dm es X.env:=by rfl) (L3:(DQ pos (Dm es X.env)).any (·.1)=false:=by rfl):PN ly X (.Call (.Name x p) (e::es) [] pos) (dr g fs):=λc=>
 PE.weak (gT hc hg hm hv (ha c) hn La he L3) λσ H Q ⟨F,ρ,ri,w⟩=>⟨F,ρ,ri,(aA.bind.mp w).imp λds hd w1 vs H1 F1 e1 r1=>by
  obtain⟨d,hd,k⟩:=w1.of
  exact MJ vs ds d H1 F1 Q e1.sub r1 hd (rF e1 k)⟩
theorem vg {g:List D->Option D} (hc:fJ X (.type T) rc) (MJ:vf X.K rc g) (hm:X.mg x=none) (hv:E4 x=some (.type T)) (ha:zk ly X (e::es) fs) (hg:Gl X x:=by rfl) (hn:x≠"__name__":=by decide) (La:(x==("__debug__":Dj))=false:=by decide)
  (he:Dm (e::es) X.env=(false,DC e X.env)::Dm es X.env:=by rfl) (L3:(DQ pos (Dm es X.env)).any (·.1)=false:=by rfl):PN ly X (.Call (.Name x p) (e::es) [] pos) (dr g fs):=λc=>
 PE.weak (mE hc hg hm hv (ha c) hn La he L3) λσ H Q ⟨F,ρ,ri,w⟩=>⟨F,ρ,ri,(aA.bind.mp w).imp λds hd w1 vs H1 F1 e1 r1=>by
  obtain⟨d,hd,k⟩:=w1.of
  exact MJ vs ds d H1 F1 Q e1.sub r1 hd (rF e1 k)⟩
def vh (i:Nat) (f:aa->R D):aa->R aU:=λρ=>f ρ>>=λd=> .ok (.nx (ρ.set i (some (.own d))))
theorem zI (i:Nat) {x:Dj} {Kw:DZ} (hN:X.N.Nodup) (h:PN ly X e f) (hi:X.N[i]? =some x:=by rfl) (hx:tM X.env.scope x:=by first|exact E7 rfl|exact DV rfl) (hs:Eg e (some (.Name x Kw)) pos.line X.env=pure false:=by rfl)
  (hf:X.fn x=true\/X.env.scope.names.lookup x=some .local:=by first|exact .inl rfl|exact .inr rfl|assumption) (LO:gY ly i:=by(repeat (first|assumption|exact L2.Pu.dA|refine L2.Pu.cN ⟨by first|decide|simp,by first|decide|simp⟩ ?_))):jD ly X (.Assign [.Name x Kw] e pos) (vh i f):=λc=>
 PS.weak (jx hN hi hx (h c) hs hf) λD σ H ⟨F,ρ,ri,w⟩=>⟨F,ρ,ri,(aA.bind.mp w).imp λd _ w1 a o H1 F1 e1 n1 h1 f1 r1=>by
  refine w1 _ H1 F1 e1.grow ((ri.step e1).setOwn i LO h1 f1 (ri.ext.keep.free n1) r1 (λj d' _ hj ej=> ?_) (ri.celNe e1.keep n1))
  obtain⟨b,o',k1,k2,_⟩:=ri.own j d' hj
  rw[ej]at k1
  cases k1
  rw[n1]at k2
  cases k2⟩
end
section
variable {K:Dh}
theorem sS:vf K (λxs H Q=>∃p ys,xs=[.ref p]/\(cp K H p ys\/fc K H p ys)/\∀l,H l=none->Q (.ref l) (bc H l (.lst ys))) je:=by
 intro vs ds d H F Q s rv h k
 match ds,h with
 |[.lst xs],h=>
  obtain⟨v,rfl,r⟩:=rv.one
  obtain⟨a,ws,rfl,h1,h2⟩:=r.lst s
  cases h
  exact⟨a,ws,rfl, .inl (cp.of h1),λl hl=>k _ _ hl (.lst h2)⟩
 |[.tup xs],h=>
  obtain⟨v,rfl,r⟩:=rv.one
  obtain⟨a,ws,rfl,h1,h2⟩:=r.tup s
  cases h
  exact⟨a,ws,rfl, .inr (fc.of h1),λl hl=>k _ _ hl (.lst h2)⟩
 |[.scr ns],h=>
  obtain⟨v,rfl,r⟩:=rv.one
  obtain⟨a,rfl,h1⟩:=r.scr s
  cases h
  exact⟨a,_,rfl, .inl h1,λl hl=>k _ _ hl (.lst (jG ns))⟩
end
end L2.Pu
namespace L2.Pu
open PySem PySem.Spec PyProof.Rows
variable {ly:List cY}
structure dS (K:Dh) (cls m qual:Dj) (st:DU) (ps:List Dj):Prop where
 ex:∃C f fd,re K m qual st f fd/\fR K cls C/\q0 K C m f/\dv K fd ps []
structure lz (K:Dh) (mg:Dj->Option Di) (cls qual:Dj) (st:DU) (ps:List Dj) (fs:List Dj):Prop where
 ex:∃C f fd,re K "__init__" qual st f fd/\fR K cls C/\mg cls=some (.ref C)/\Mk K C f/\dv K fd ps []/\∀x∈fs,cC K C x
structure cV (K:Dh) (cls:Dj) (fs:List Dj):Prop where
 ex:∃C,fR K cls C/\∀x∈fs,cC K C x
section
variable {P:Dy} {w:DG} {K:Dh} {mg:Dj->Option Di} {base:DE}
theorem fS {cls mm qual:Dj} {st:DU} {N ps:List Dj} {k n m:Nat} {g:aa->R aU} (A:dS K cls mm qual st ps) (S:aF N ps (ah st)) (hn:ps.length=n) (hm:N.length=m)
  (Ko:∀(f:Dk) (Kf:Di) (A:DO) (outer:List EO) (s:Dl) (H:Hp) (E:XK),bN k (A.deeper (ES qual (ah st) s.heap.objs.size f Kf))->
   gi [] (fg (gW P w) P w K mg base N qual (ah st) f Kf A outer s H E) (aN st) g):cr P w K mg base (k+1) cls mm n (bf n m g):=by
 obtain⟨C,f,fd,F,h1,h2,h3⟩:=A.ex
 exact⟨C,f,fd,ps,zt F S hn hm λKf A outer s H E hr=>Ko f Kf A outer s H E hr,h1,h2,h3⟩
theorem sT {cls qual:Dj} {st:DU} {N ps fs:List Dj} {k n m:Nat} {fl:List (Dj×Nat)} {g:aa->R aU} (A:lz K mg cls qual st ps fs) (S:aF N ps (ah st)) (hn:ps.length=n+1) (hm:N.length=m+1) (hg:∀p∈fl,n<p.2) (Nr:n<=m)
  (Ko:∀(C f:Dk) (Kf:Di) (A:DO) (outer:List EO) (s:Dl) (H:Hp) (E:XK),oN K C->(∀x∈fs,cC K C x)->bN k (A.deeper (ES qual (ah st) s.heap.objs.size f Kf))->
   gi [⟨0,C,fl⟩] (fg (gW P w) P w K mg base N qual (ah st) f Kf A outer s H E) (aN st) g):gp P w K mg base (k+1) cls n (kI n m fl g):=by
 obtain⟨C,f,fd,F,h1,h2,h3,h4,h5⟩:=A.ex
 exact⟨C,f,fd,ps,xm F S h1.ns hn hm hg Nr λKf A outer s H E hr=>Ko C f Kf A outer s H E h1.cl h5 hr,h2,h3,h4⟩
theorem iO {C:Dk} {fl:List (Dj×Nat)} {f:Dj} {i:Nat} (h1:(f,i)∈fl) (h2:∀p∈fl,p.1=f<->p.2=i) (h3:0≠i) (h4:fl.length<1000):v7 [⟨0,C,fl⟩] ⟨0,C,fl⟩ f i:=
 ⟨DI,h1,h2,h3,λM hM Mn=>absurd (DJ.mp hM) Mn,h4⟩
theorem xn {C:Dk} (e1:Eo K C qo "ValueError.__new__"=true) (e2:DD K (.ref C) "__getattribute__"=some (some (.builtin "BaseException.__getattribute__"))) (e3:DD K (.ref C) "__getattr__"=some none)
  (e4:DD K (.ref C) "__class__"=some (some (.builtin "object.__class__"))) (e5:DW K C (.type "object")=some true) (e6:DW K C (.type "BaseException")=some true) (e7:FK K (.ref C) (.ref C)=some true)
  (e8:FF K (.builtin "object.__class__") "__get__"=some (some (.builtin "getset_descriptor.__get__"))) (e9:G0 K (.builtin "object.__class__")=some true):nL K C:=
 ⟨⟨_,_,_,_,e1,F.excBase_ValueError,by decide⟩,e2,e3,e4,e8,e9,e5,e6,e7⟩
theorem qC {D:Dk} {Np:List Di} {Oa:String} (e:Eo K D Np Oa=true):((JU K D).isSome&&Im K (.ref D)==some (.type "type"))=true:=by
 unfold Eo at e
 split at e
 ·rename_i lk
  unfold JU Im
  simp only[lk]
  rfl
 ·cases e
theorem jL {C D:Dk} {b:Bool} {Np:List Di} {Oa:String} (e:Eo K D Np Oa=true) (m:DW K C (.ref D)=some b):FK K (.ref C) (.ref D)=some b:=by
 unfold FK
 dsimp only
 rw[if_pos (qC e)]
 exact m
theorem sU {C D:Dk} {b:Bool} {Np:List Di} {Oa:String} (e:Eo K D Np Oa=true) (m:DW K C (.ref D)=some b) (s:DW K C (.ref C)=some true):Eh K (.ref C) (.ref D)=some b:=by
 unfold Eh
 split
 ·rename_i h
  have ez:DP C=DP D:=eq_of_beq h
  cases ez
  exact s.symm.trans m
 ·exact jL e m
theorem ku:JI "ValueError"=true:=by unfold JI;decide+kernel
theorem sV {C:Dk} {b:Bool} (m:DW K C (.type "ValueError")=some b):Eh K (.ref C) (.type "ValueError")=some b:=by
 unfold Eh
 rw[if_neg (by intro h;exact absurd (eq_of_beq h) (λz=>by cases z))]
 unfold FK
 dsimp only
 rw[if_pos ku]
 exact m
theorem sW {C D:Dk} {b:Bool} {Np:List Di} {Oa:String} (e:Eo K D Np Oa=true) (m:DW K C (.ref D)=some b) (mb:DW K D (.type "BaseException")=some true):FL K (.ref C) (.ref D)=some b:=by
 unfold FL
 rw[if_pos (by show (DW K D (.type "BaseException")==some true)=true;rw[mb];rfl)]
 exact jL e m
def sX (xs:List Dj) (x:Dj):Bool:=xs.contains x
theorem vi {cx:Dj} {C:Dk} {xs:List Dj} (hm:mg cx=some (.ref C)) (h:∀x∈xs,∃Ce,DB K Dt x=some (some (.ref Ce))/\FL K (.ref Ce) (.ref C)=some true):pc K mg cx (sX xs):=by
 refine⟨C,hm,λx cls hx ⟨C',e,hc⟩=> ?_⟩
 obtain⟨Ce,h1,h2⟩:=h x (by simpa[sX]using hx)
 rw[hc]at h1
 cases h1
 rw[e]
 exact h2
def vj (l:List (Dj×Bool)) (x:Dj):Option Bool:=l.lookup x
theorem n5 {α:Type} {x:Dj} {b:α}:∀{l:List (Dj×α)},l.lookup x=some b->(x,b)∈l
 |(k,v)::r,h=>by
  rw[En]at h
  cases e:x==k with
  |true=>rw[e]at h;cases h;cases eq_of_beq e;exact DI
  |false=>rw[e]at h;exact DF _ (n5 h)
theorem pe {v:Di} {l:List (Dj×Bool)} (h:∀p∈l,∃Ce,DB K Dt p.1=some (some (.ref Ce))/\Eh K (.ref Ce) v=some p.2/\nL K Ce):km K v (vj l):=by
 refine⟨λx b cls hb ⟨C',e,hc⟩=> ?_⟩
 obtain⟨Ce,h1,h2,h3⟩:=h _ (n5 hb)
 rw[hc]at h1
 cases h1
 subst e
 exact⟨h2,C',rfl,h3⟩
structure jg (K:Dh) (mg:Dj->Option Di) (x:Dj) (tb:Dj->Option Bool):Prop where
 ex:∃C,mg x=some (.ref C)/\km K (.ref C) tb
end
section
variable {X:Cx} {a e o:Dr} {es:List Dr} {fa f fo:aa->R D} {fs:aa->R (List D)} {cls fld x m:Dj} {p p2 pos Kh:DZ} {xs:List Dj} {tb:Dj->Option Bool}
theorem bg (T:cV X.K cls xs) (hf:fld∈xs) (ha:PB ly X a fa) (hb:E9 a fld X.env (DC a X.env)=DC a X.env:=by rfl):PQ ly X (.Attribute a fld pos) (cG cls fld fa):=by
 obtain⟨C,h1,h2⟩:=T.ex
 exact B4 h1 (h2 fld hf) ha hb
theorem jM (T:jg X.K X.mg x tb) (O6:X.mg "isinstance"=none) (ha:PB ly X a fa) (O7:Gl X "isinstance":=by rfl) (hg:Gl X x:=by rfl) (La:(x==("__debug__":Dj))=false:=by decide)
  (he:Dm [a, .Name x p2] X.env=(false,DC a X.env)::Dm [.Name x p2] X.env:=by rfl) (Na:Dm [.Name x p2] X.env=(false,DC (.Name x p2) X.env)::Dm [] X.env:=by rfl) (L3:(DQ pos (Dm [.Name x p2] X.env)).any (·.1)=false:=by rfl):
  PQ ly X (.Call (.Name "isinstance" p) [a, .Name x p2] [] pos) (lw tb fa):=by
 obtain⟨C,h1,h2⟩:=T.ex
 exact B9 h2 h1 O6 ha O7 hg La he Na L3
def gF (f:aa->R D):aa->R aU:=λρ=>f ρ>>=λ_=> .ok (.nx ρ)
theorem lA (h:PQ ly X e f) (Mr:Eg e none pos.line X.env=pure false:=by rfl):jD ly X (.Expr e pos) (gF f):=λc=>
 PS.weak (ia (h c) Mr) λD σ H ⟨F,ρ,ri,w⟩=>⟨F,ρ,ri,(aA.bind.mp w).imp λd _ w1 v H1 F1 e1 r1=>w1 σ H1 F1 e1.grow (ri.step e1)⟩
end
theorem zJ {P:Dy} {w:DG} {outer:List EO} {H:Hp} {s s':Dl} {e:Di} (h:gW P w outer H s (λ_ _ _=>False) e s'):False:=by
 obtain⟨_,_,_,_,_,_,_,_,_,z⟩:=h
 exact z
theorem kx:E4 "ValueError"=some (.type "ValueError"):=by decide+kernel
end L2.Pu
namespace L2.Pu
open PySem PySem.Spec PyProof.Rows
variable {ly:List cY}
theorem RI.up {K:Dh} {c:cw ly} {ρ:aa} {σ:St} {H F H':Hp} (r:RI K c ρ σ H F) (e:aG H H'):RI K c ρ σ H' F:=r.step ⟨r.sub.trans e,e,aG.refl _,λ_ h=> .inl h⟩
section
variable {X:Cx} {e:Dr} {es:List Dr} {f:aa->R D} {g:aa->R Bool} {pos:DZ}
theorem vm {H F H':Hp} (s:aG F H) (e:aG H H'):bi H F H' F:=⟨s.trans e,e,aG.refl _,λ_ h=> .inl h⟩
end
section
variable {X:Cx} {e:Dr} {f:aa->R D} {pos:DZ}
end
end L2.Pu
namespace L2
open PySem PySem.Spec PyProof.Rows
def pf:List V->List V->Bool
 |[],[]=>true
 |x::xs,y::ys=>tO x y&&pf xs ys
 |_,_=>false
theorem ph:∀{xs ys:List V},xs.length≠ys.length->pf xs ys=false
 |[],[],h=>absurd rfl h
 |[],_::_,_=>rfl
 |_::_,[],_=>rfl
 |x::xs,y::ys,h=>by
  rw[pf,ph (λz=>h (by rw[DA,DA,z])),Iq]
theorem pi:∀{xs ys:List V},xs.length=ys.length->(Ef xs.length).all (λj=>tO (xs.getD j .non) (ys.getD j .non))=pf xs ys
 |[],[],_=>rfl
 |x::xs,y::ys,h=>by
  have h':xs.length=ys.length:=by simpa using h
  rw[DA,List.range_succ_eq_map,EJ,List.all_map,pf,<-pi h']
  rfl
def zK (K:Dh):R2:=λx y H Q=>∃p q xs ys,x= .ref p/\y= .ref q/\cp K H p xs/\cp K H q ys/\xs.all eA=true/\ys.all eA=true/\Q (.bl (pf xs ys)) H
theorem aI.getR {xs:List V} {us:List Di} (r:aI xs us):∀(j:Nat) (h:j<us.length),b9 (xs.getD j .non) us[j]:=by
 induction r with
 |nil=>intro j h;cases h
 |cons r t ih=>
  intro j h
  cases j with
  |MS=>exact r
  |succ j=>exact ih j (by simpa using h)
theorem pj {xs:List V} (h:xs.all eA=true) (j:Nat):eA (xs.getD j .non)=true:=by
 rw[Hm]
 cases e:xs[j]? with
 |none=>rfl
 |some x=>exact FT.mp h x (Ez e)
theorem zL {X:Cx} (hu:X.A.units+1<FG):gQ X (Eu .Eq) (zK X.K):=by
 intro K4 s σ H x y v u Q I rx ry h
 obtain⟨p,q,xs,ys,rfl,rfl,h1,h2,f1,f2,k⟩:=h
 cases rx
 cases ry
 obtain⟨its,r,pl,hz⟩:=I.list h1
 obtain⟨Lz,r2,OY,RU⟩:=I.list h2
 have l1:=r.length
 have l2:=r2.length
 by_cases hl:its.length=Lz.length
 ·refine SeqAt.eq_listAt (e:=λj=>tO (xs.getD j .non) (ys.getD j .non)) pl.isList OY.isList (by simpa using hl) (by omega) (λj a b=> ?_) ⟨.bl _,H,I,rfl,?_⟩
  ·have a':j<its.length:=by simpa using a
   have b':j<Lz.length:=by simpa using b
   simpa using uk (r.getR j a') (r2.getR j b') (pj f1 j) (pj f2 j)
  ·have hx:its.toArray.size=xs.length:=by simpa using l1.symm
   rw[hx,pi (by omega)]
   exact k
 ·refine SeqAt.eq_list_lengthsAt pl.isList OY.isList (by simpa using hl) (by omega) ⟨.bl false,H,I,rfl,?_⟩
  rw[ph (by omega)]at k
  exact k
section
variable {X:Cx} {tg:Dr}
end
end L2
namespace L2.Pu
open PySem PySem.Spec PyProof.Rows
variable {ly:List cY}
def vn:List D->List D->Bool
 |[],[]=>true
 |x::xs,y::ys=>Ae x y&&vn xs ys
 |_,_=>false
def sY (x y:D):Option D:=match x,y with
 | .lst a, .lst b=>if a.all eR=true/\b.all eR=true then some (.bl (vn a b))else none
 |x,y=>iK x y
theorem Reps.eqs {K:Dh} {F:Hp}:∀{vs us:List V} {ds es:List D},Reps K F vs ds->Reps K F us es->ds.all eR=true->es.all eR=true->pf vs us=vn ds es
 |_,_,_,_, .nil, .nil,_,_=>rfl
 |_,_,_,_, .nil, .cons _ _,_,_=>rfl
 |_,_,_,_, .cons _ _, .nil,_,_=>rfl
 |_,_,_,_, .cons r t, .cons r' t',h,h'=>by
  rw[EJ,Ee]at h h'
  rw[pf,vn,uO r r' h.1 h'.1,Reps.eqs t t' h.2 h'.2]
theorem xo {K:Dh}:fP K (λx y H Q=>Bv x y H Q\/zK K x y H Q) sY:=by
 intro v u x y d H F Q s rx ry h k
 unfold sY at h
 split at h
 ·split at h
  ·rename_i a b hf
   cases h
   obtain⟨p,vs,rfl,h1,h2⟩:=rx.lst s
   obtain⟨q,us,rfl,h3,h4⟩:=ry.lst s
   refine .inr ⟨p,q,vs,us,rfl,rfl,cp.of h1,cp.of h3,h2.flat hf.1,h4.flat hf.2,?_⟩
   rw[Reps.eqs h2 h4 hf.1 hf.2]
   exact k _ H F (bi.refl s) (.bl _)
  ·cases h
 ·exact .inl (cX v u x y d H F Q s rx ry h k)
theorem zM {X:Cx} (hu:X.A.units+1<FG):gQ X (Eu .Eq) (λx y H Q=>Bv x y H Q\/zK X.K x y H Q):=eu.or (zL hu)
section
variable {X:Cx} {a b d:Dr} {fs:aa->R (List D)} {pos:DZ}
end
end L2.Pu
namespace L2
open PySem PySem.Spec PyProof.Rows
end L2
namespace L2.Pu
open PySem PySem.Spec PyProof.Rows
variable {ly:List cY}
end L2.Pu
namespace L2.Pu
section
variable {α:Type} {P:List α->Prop}
theorem D6 (h:P []):∀us:List α,us.length=0->P us:=λus e=>by
 rw[List.length_eq_zero_iff.mp e];exact h
theorem Ba {n:Nat} (h:∀a us,us.length=n->P (a::us)):∀us:List α,us.length=n+1->P us:=λus e=>by
 cases us with
 |nil=>cases e
 |cons a us=>exact h a us (Nat.succ.inj e)
theorem CF (h:∀a,P [a]):∀us:List α,us.length=1->P us:=Ba λa=>D6 (P:=λus=>P (a::us)) (h a)
theorem CG (h:∀a b,P [a,b]):∀us:List α,us.length=2->P us:=Ba λa=>CF (P:=λus=>P (a::us)) (h a)
theorem CH (h:∀a b c,P [a,b,c]):∀us:List α,us.length=3->P us:=Ba λa=>CG (P:=λus=>P (a::us)) (h a)
theorem CI (h:∀a b c d,P [a,b,c,d]):∀us:List α,us.length=4->P us:=Ba λa=>CH (P:=λus=>P (a::us)) (h a)
theorem D7 (h:∀a b c d e,P [a,b,c,d,e]):∀us:List α,us.length=5->P us:=Ba λa=>CI (P:=λus=>P (a::us)) (h a)
end
end L2.Pu
namespace L2
open PySem PySem.Spec PyProof.Rows
end L2
namespace L2.Pu
open PySem PySem.Spec PyProof.Rows
variable {ly:List cY}
end L2.Pu
namespace L2.Pu
open PySem PySem.Spec PyProof.Rows
variable {ly:List cY}
def Slot.kind:Slot->Nat
 | .own _=>1
 | .cel .. =>2
 |_=>0
def dI (ρ:aa):List Nat->Option (List Slot)
 |[]=>some []
 |i::r=>match ρ[i]? with
  |some (some s)=>(dI ρ r).map λt=>s::t
  |_=>none
def pq (ρ:aa):List Nat->List Slot->aa
 |i::is,s::ss=>pq (ρ.set i (some s)) is ss
 |_,_=>ρ
theorem pr:∀(is:List Nat) (ss:List Slot) (ρ:aa),(pq ρ is ss).length=ρ.length
 |[],ss,ρ=>by cases ss<;>rfl
 |i::is,[],ρ=>rfl
 |i::is,s::ss,ρ=>by
  show (pq (ρ.set i (some s)) is ss).length=_
  rw[pr is ss];simp
theorem pw:∀{is:List Nat} {ss:List Slot} {ρ:aa} {j:Nat} {s:Slot},is.Nodup->ss.length=is.length->(pq ρ is ss)[j]? =some (some s)->(∃k:Nat,is[k]? =some j/\ss[k]? =some s)\/(j∉is/\ρ[j]? =some (some s))
 |[],ss,ρ,j,s,_,_,h=>by
  refine .inr ⟨by simp,?_⟩
  cases ss<;>exact h
 |i::is,[],ρ,j,s,_,hl,h=>by simp at hl
 |i::is,t::ss,ρ,j,s,nd,hl,h=>by
  obtain⟨n1,n2⟩:=Fd.mp nd
  rcases pw (ρ:=ρ.set i (some t)) n2 (by simpa using hl) h with ⟨k,h1,h2⟩|⟨h1,h2⟩
  ·exact .inl ⟨k+1,h1,h2⟩
  ·rcases am h2 with ⟨rfl,z,_⟩|⟨z,h2⟩
   ·cases z;exact .inl ⟨0,rfl,rfl⟩
   ·exact .inr ⟨λm=>(DN.mp m).elim (λq=>z q.symm) h1,h2⟩
inductive At (ρ:aa) (σ:St):List Nat->List Slot->List Dk->Prop
 |nil:At ρ σ [] [] []
 |cons {i:Nat} {s:Slot} {a:Dk} {is:List Nat} {ss:List Slot} {as:List Dk}:ρ[i]? =some (some s)->s.kind≠0->σ[i]? =some (some (.ref a))->At ρ σ is ss as->At ρ σ (i::is) (s::ss) (a::as)
theorem At.idx {ρ:aa} {σ:St} {is:List Nat} {ss:List Slot} {as:List Dk} (h:At ρ σ is ss as):∀{k i:Nat},is[k]? =some i->∃s a,ss[k]? =some s/\as[k]? =some a/\ρ[i]? =some (some s)/\s.kind≠0/\σ[i]? =some (some (.ref a)):=by
 induction h with
 |nil=>intro k i e;simp at e
 |cons h1 h2 h3 _ ih=>
  intro k i e
  cases k with
  |MS=>cases e;exact⟨_,_,rfl,rfl,h1,h2,h3⟩
  |succ k=>exact ih e
theorem At.lens {ρ:aa} {σ:St} {is:List Nat} {ss:List Slot} {as:List Dk} (h:At ρ σ is ss as):ss.length=is.length/\as.length=is.length:=by
 induction h with
 |nil=>exact⟨rfl,rfl⟩
 |cons _ _ _ _ ih=>exact⟨by simp[ih.1],by simp[ih.2]⟩
theorem At.get {ρ:aa} {σ:St} {is:List Nat} {ss:List Slot} {as:List Dk} (h:At ρ σ is ss as) {k:Nat} {s:Slot} (e:ss[k]? =some s):∃i a,is[k]? =some i/\as[k]? =some a/\ρ[i]? =some (some s)/\s.kind≠0/\σ[i]? =some (some (.ref a)):=by
 have hk:k<is.length:=by rw[<-h.lens.1];exact(Dx.mp e).1
 obtain⟨s',a,h1,h2,h3⟩:=h.idx (k:=k) (i:=is[k]) (by simp[hk])
 rw[e]at h1
 cases h1
 exact⟨is[k],a,by simp[hk],h2,h3⟩
def eJ (H:Hp) (ρ:aa) (σ:St) (i:Nat) (z:Dk):Prop:=
 (∃d,ρ[i]? =some (some (.own d))/\σ[i]? =some (some (.ref z)))\/∃x Ka f hs a C dx fs,ρ[i]? =some (some (.cel x Ka f hs))/\σ[i]? =some (some (.ref a))/\H a=some (.ins C dx fs)/\(z=a\/z=dx\/fs.lookup f=some (.ref z))
open Classical in
noncomputable def gq (H:Hp) (ρ:aa) (σ:St) (is:List Nat):Hp:=λz=>if ∃i∈is,eJ H ρ σ i z then none else H z
theorem hU {H:Hp} {ρ:aa} {σ:St} {is:List Nat} {z:Dk} {i:Nat} (hi:i∈is) (h:eJ H ρ σ i z):gq H ρ σ is z=none:=if_pos ⟨i,hi,h⟩
theorem xp {H:Hp} {ρ:aa} {σ:St} {is:List Nat} {z:Dk} (h:∀i∈is,¬eJ H ρ σ i z):gq H ρ σ is z=H z:=if_neg λ⟨i,hi,o⟩=>h i hi o
theorem n6 {H:Hp} {ρ:aa} {σ:St} {is:List Nat} {z:Dk} {u:HO} (h:gq H ρ σ is z=some u):H z=some u:=by
 unfold gq at h
 split at h
 ·cases h
 ·exact h
section
variable {K:Dh} {c:cw ly} {ρ:aa} {σ:St} {H F:Hp} {i j:Nat} {z:Dk}
theorem RI.celIn (r:RI K c ρ σ H F) {x:Dj} {Ka:List (Dj×D)} {f:Dj} {hs:List D} {a:Dk} {C dx:Dk} {fs:List (Dj×V)} (h1:ρ[i]? =some (some (.cel x Ka f hs))) (h2:σ[i]? =some (some (.ref a))) (h3:H a=some (.ins C dx fs)):
  ∃b,gX K c.H0 H F a dx b x Ka f hs/\fs.lookup f=some (.ref b)/\∀(j:Nat) d,ρ[j]? =some (some (.own d))->σ[j]? ≠some (some (.ref b)):=by
 obtain⟨a',Om,b,k1,k2,k3⟩:=r.cel.ex i x Ka f hs h1
 rw[h2]at k1
 cases k1
 obtain⟨C',MG,vs,us,g1,g2,g3,g4⟩:=k2.ex
 rw[h3]at g1
 cases g1
 exact⟨b,k2,g3,k3⟩
theorem RI.owns (r:RI K c ρ σ H F) (o:eJ H ρ σ i z):c.H0 z=none/\F z=none/\∃u,H z=some u:=by
 rcases o with ⟨d,h1,h2⟩|⟨x,Ka,f,hs,a,C,dx,fs,h1,h2,h3,h4⟩
 ·obtain⟨p,u,k1,k2,k3,k4,_⟩:=r.own i d h1
  rw[h2]at k1
  cases k1
  exact⟨k4,k3,u,k2⟩
 ·obtain⟨b,k1,k2,_⟩:=r.celIn h1 h2 h3
  rcases h4 with rfl|rfl|h4
  ·exact⟨k1.za,k1.fa,_,h3⟩
  ·exact⟨k1.zd,k1.fd,_,k1.own⟩
  ·rw[k2]at h4
   cases h4
   obtain⟨C',MG,vs,us,g1,g2,g3,g4,_⟩:=k1.ex
   exact⟨k1.zb,k1.fb,_,g4⟩
theorem RI.owns_inj (r:RI K c ρ σ H F) (o:eJ H ρ σ i z) (o':eJ H ρ σ j z):i=j:=by
 have oc:∀{i j:Nat},(∃d,ρ[i]? =some (some (.own d))/\σ[i]? =some (some (.ref z)))->(∃x Ka f hs a C dx fs,ρ[j]? =some (some (.cel x Ka f hs))/\σ[j]? =some (some (.ref a))/\H a=some (.ins C dx fs)/\(z=a\/z=dx\/fs.lookup f=some (.ref z)))->False:=by
  rintro i j ⟨d,h1,h2⟩ ⟨x,Ka,f,hs,a,C,dx,fs,k1,k2,k3,k4⟩
  obtain⟨p,u,g1,g2,g3,g4,g5⟩:=r.own i d h1
  rw[h2]at g1
  cases g1
  obtain⟨b,m1,m2,m3⟩:=r.celIn k1 k2 k3
  rcases k4 with rfl|rfl|k4
  ·rw[k3]at g2;cases g2;cases g5
  ·rw[m1.own]at g2;cases g2;cases g5
  ·rw[m2]at k4;cases k4;exact m3 i d h1 h2
 rcases o with h|h
 ·rcases o' with k|k
  ·obtain⟨d,h1,h2⟩:=h
   obtain⟨d',k1,k2⟩:=k
   exact r.dis i j d d' z h1 k1 h2 k2
  ·exact(oc h k).elim
 ·rcases o' with k|k
  ·exact(oc k h).elim
  ·obtain⟨x,Ka,f,hs,a,C,dx,fs,h1,_⟩:=h
   obtain⟨x',MY,f',KC,a',C',Om,MG,k1,_⟩:=k
   exact r.cel.one i j x Ka f hs _ h1 k1 rfl
end
abbrev MC (Hz F:Hp):cw []:=⟨Hz,F,λ_=>none,λ_ _=>False,λ_=>none,λ_=>none⟩
def xq (K:Dh) (Hz F:Hp) (ss:List Slot) (as:List Dk) (H' F':Hp):Prop:=RI K (MC Hz F) (ss.map some) (as.map λa=>some (.ref a)) H' F'
theorem map_some {α β:Type} {l:List α} {g:α->β} {k:Nat} {b:β} (h:(l.map g)[k]? =some b):∃a,l[k]? =some a/\g a=b:=by
 rw[DX]at h
 cases e:l[k]? with
 |none=>rw[e]at h;cases h
 |some a=>rw[e]at h;exact⟨a,rfl,by simpa using h⟩
theorem ij {α β:Type} {l:List α} {g:α->β} {k:Nat} {a:α} (h:l[k]? =some a):(l.map g)[k]? =some (g a):=by rw[DX,h];rfl
theorem vo {is:List Nat} (nd:is.Nodup) {k k' i:Nat} (h:is[k]? =some i) (h':is[k']? =some i):k=k':=by
 obtain⟨l,e⟩:=Dx.mp h
 obtain⟨l',e'⟩:=Dx.mp h'
 exact(HB nd).mp (e.trans e'.symm)
section
variable {K:Dh} {c:cw ly} {ρ:aa} {σ:St} {H F H' F':Hp} {is:List Nat} {ss ss':List Slot} {as:List Dk}
theorem RI.split (r:RI K c ρ σ H F) (A:At ρ σ is ss as) (nd:is.Nodup):xq K (gq H ρ σ is) F ss as H F:=by
 have Nz:∀{k:Nat} {s:Slot},(ss.map some)[k]? =some (some s)->∃i a,is[k]? =some i/\as[k]? =some a/\ρ[i]? =some (some s)/\s.kind≠0/\σ[i]? =some (some (.ref a)):=λ{k s} h=>by
  obtain⟨s',h1,h2⟩:=map_some h
  cases h2
  exact A.get h1
 have Mc:∀{k:Nat} {a:Dk},as[k]? =some a->(as.map λa=>some (V.ref a))[k]? =some (some (.ref a)):=λh=>ij h
 have Qm:∀{k:Nat} {a a':Dk},as[k]? =some a->(as.map λa=>some (V.ref a))[k]? =some (some (.ref a'))->a=a':=λ{k a a'} h h'=>by
  rw[Mc h]at h';cases h';rfl
 refine⟨⟨r.sub,λz u e=>n6 e,aG.refl _,λ_ h=> .inl h⟩,λk d h=> ?_,λk d h=> ?_,λk d h=> ?_,(λ_ _ e=>by cases e),λk k' d d' a h h' e e'=> ?_,?_,(λL h=>by cases h),(λL h=>by cases h),(λ_ _ e=>by cases e),⟨λk x Ka f hs h=> ?_,λk k' x Ka f hs s h h' KC=> ?_⟩,(λL h=>by cases h)⟩
 ·obtain⟨i,a,_,_,_,z,_⟩:=Nz h;exact absurd rfl z
 ·obtain⟨i,a,h1,h2,h3,h4,h5⟩:=Nz h
  obtain⟨p,u,k1,k2,k3,k4,k5⟩:=r.own i d h3
  rw[h5]at k1
  cases k1
  exact⟨a,u,Mc h2,k2,k3,hU (Ez h1) (.inl ⟨d,h3,h5⟩),k5⟩
 ·obtain⟨i,a,_,_,_,z,_⟩:=Nz h;exact absurd rfl z
 ·obtain⟨i1,a1,h1,h2,h3,h4,h5⟩:=Nz h
  obtain⟨i2,a2,g1,g2,g3,g4,g5⟩:=Nz h'
  cases Qm h2 e
  cases Qm g2 e'
  cases r.dis i1 i2 d d' _ h3 g3 h5 g5
  exact vo nd h1 g1
 ·simp only[Dp];rw[A.lens.1,A.lens.2]
 ·obtain⟨i,a,h1,h2,h3,h4,h5⟩:=Nz h
  obtain⟨a',dx,b,k1,k2,k3⟩:=r.cel.ex i x Ka f hs h3
  rw[h5]at k1
  cases k1
  have OZ:=k2
  obtain⟨C,fs,vs,us,g1,g2,g3,g4⟩:=k2.ex
  have o:∀z,(z=a\/z=dx\/fs.lookup f=some (.ref z))->gq H ρ σ is z=none:=λz hz=>hU (Ez h1) (.inr ⟨x,Ka,f,hs,a,C,dx,fs,h3,h5,g1,hz⟩)
  refine⟨a,dx,b,Mc h2,⟨k2.ex,k2.own,k2.fa,k2.fd,k2.fb,o a (.inl rfl),o dx (.inr (.inl rfl)),o b (.inr (.inr g3))⟩,λk' d h' e=> ?_⟩
  obtain⟨i2,a2,m1,m2,m3,m4,m5⟩:=Nz h'
  cases Qm m2 e
  exact k3 i2 d m3 m5
 ·obtain⟨i1,a1,h1,h2,h3,h4,h5⟩:=Nz h
  obtain⟨i2,a2,g1,g2,g3,g4,g5⟩:=Nz h'
  cases r.cel.one i1 i2 x Ka f hs s h3 g3 KC
  exact vo nd h1 g1
theorem vp {s:Slot} (h:s.kind=2):∃x Ka f hs,s= .cel x Ka f hs:=by cases s<;>first|exact⟨_,_,_,_,rfl⟩|cases h
theorem RI.join (r:RI K c ρ σ H F) (A:At ρ σ is ss as) (nd:is.Nodup) (m:xq K (gq H ρ σ is) F ss' as H' F') (hk:ss'.map Slot.kind=ss.map Slot.kind):RI K c (pq ρ is ss') σ H' F':=by
 have hl:ss'.length=is.length:=by rw[<-A.lens.1,<-Dp (f:=Slot.kind),hk,Dp]
 have LH:∀{k:Nat} {s:Slot},ss'[k]? =some s->∃s0 i a,is[k]? =some i/\as[k]? =some a/\ρ[i]? =some (some s0)/\s0.kind=s.kind/\s.kind≠0/\σ[i]? =some (some (.ref a)):=λ{k s} h=>by
  have h1:(ss.map Slot.kind)[k]? =some s.kind:=by rw[<-hk];exact ij h
  obtain⟨s0,g1,g2⟩:=map_some h1
  obtain⟨i,a,k1,k2,k3,k4,k5⟩:=A.get g1
  exact⟨s0,i,a,k1,k2,k3,g2,by rw[<-g2];exact k4,k5⟩
 have ms:∀{k:Nat} {s:Slot},ss'[k]? =some s->(ss'.map some)[k]? =some (some s):=λh=>ij h
 have Mc:∀{k:Nat} {a:Dk},as[k]? =some a->(as.map λa=>some (V.ref a))[k]? =some (some (.ref a)):=λh=>ij h
 have hz:∀{z:Dk},gq H ρ σ is z=none->c.H0 z=none:=λ{z} e=>by
  unfold gq at e
  split at e
  ·rename_i h
   obtain⟨i,hi,o⟩:=h
   exact(r.owns o).1
  ·exact r.ext.keep.free e
 have kz:∀{z:Dk} {u:HO},H z=some u->(∀i∈is,¬eJ H ρ σ i z)->gq H ρ σ is z=some u:=λh n=>by rw[xp n];exact h
 have me:=m.ext
 have LU:∀{z:Dk} {u:HO},H z=some u->(∀i∈is,¬eJ H ρ σ i z)->H' z=some u:=λh n=>me.keep _ _ (kz h n)
 have MZ:∀{z:Dk} {u:HO},H z=some u->(∀i∈is,¬eJ H ρ σ i z)->F z=none->F' z=none:=λh n f=>me.out (kz h n) f
 have Nk:∀{j:Nat} {z:Dk},j∉is->eJ H ρ σ j z->∀i∈is,¬eJ H ρ σ i z:=λ{j z} hj o i hi o'=>hj (by rw[r.owns_inj o o'];exact hi)
 have Ln:∀{j:Nat} {s:Slot},(pq ρ is ss')[j]? =some (some s)->(∃k:Nat,is[k]? =some j/\ss'[k]? =some s)\/(j∉is/\ρ[j]? =some (some s)):=λh=>pw nd hl h
 have M_:∀{k j:Nat} {d:D},is[k]? =some j->ss'[k]? =some (.own d)->∃a o,σ[j]? =some (some (.ref a))/\as[k]? =some a/\H' a=some o/\F' a=none/\gq H ρ σ is a=none/\fO K F' o d:=λ{k j d} h1 h2=>by
  obtain⟨s0,i,a,k1,k2,k3,k4,k5,k6⟩:=LH h2
  rw[h1]at k1
  cases k1
  obtain⟨p,u,g1,g2,g3,g4,g5⟩:=m.own k d (ms h2)
  rw[Mc k2]at g1
  cases g1
  exact⟨a,u,k6,k2,g2,g3,g4,g5⟩
 have Ob:∀{j:Nat} {d:D} {p:Dk} {u:HO},j∉is->ρ[j]? =some (some (.own d))->σ[j]? =some (some (.ref p))->H p=some u->gq H ρ σ is p=some u:=λhj h1 h2 h3=>kz h3 (Nk hj (.inl ⟨_,h1,h2⟩))
 refine⟨⟨me.sub,λz u e=>LU (r.ext.keep z u e) λi hi o=>(by rw[(r.owns o).1]at e;cases e),r.ext.grow.trans me.grow,λz e=>(me.new z e).elim (λq=>r.ext.new z q) λq=> .inr (hz q)⟩,λj d h=> ?_,λj d h=> ?_,λj d h=> ?_,r.bh,λj j' d d' p h h' e e'=> ?_,?_,λL hL h=> ?_,λL hL L' M9 h h'=> ?_,r.fm.trans me.grow,⟨λj x Ka f hs h=> ?_,λj j' x Ka f hs s h h' KC=> ?_⟩,r.pin⟩
 ·rcases Ln h with ⟨k,h1,h2⟩|⟨_,h2⟩
  ·obtain⟨_,_,_,_,_,_,_,z,_⟩:=LH h2;exact absurd rfl z
  ·obtain⟨v,k1,k2⟩:=r.val j d h2;exact⟨v,k1,k2.mono me.grow⟩
 ·rcases Ln h with ⟨k,h1,h2⟩|⟨hj,h2⟩
  ·obtain⟨a,o,k1,k2,k3,k4,k5,k6⟩:=M_ h1 h2
   exact⟨a,o,k1,k3,k4,hz k5,k6⟩
  ·obtain⟨p,u,k1,k2,k3,k4,k5⟩:=r.own j d h2
   have n:=Nk hj (.inl ⟨d,h2,k1⟩)
   exact⟨p,u,k1,LU k2 n,MZ k2 n k3,k4,k5.mono me.grow⟩
 ·rcases Ln h with ⟨k,h1,h2⟩|⟨_,h2⟩
  ·obtain⟨_,_,_,_,_,_,_,z,_⟩:=LH h2;exact absurd rfl z
  ·exact r.bor j d h2
 ·rcases Ln h with ⟨k,h1,h2⟩|⟨hj,h2⟩
  ·obtain⟨a,o,k1,k2,k3,k4,k5,k6⟩:=M_ h1 h2
   rw[k1]at e
   cases e
   rcases Ln h' with ⟨k',Md,Lo⟩|⟨MV,Lo⟩
   ·obtain⟨a',o',Qn,OZ,RV,RW,Qo,RX⟩:=M_ Md Lo
    rw[Qn]at e'
    cases e'
    have:=m.dis k k' d d' p (ms h2) (ms Lo) (Mc k2) (Mc OZ)
    subst this
    rw[h1]at Md
    exact Ec Md
   ·obtain⟨p',u,g1,g2,g3,g4,g5⟩:=r.own j' d' Lo
    rw[e']at g1
    cases g1
    rw[Ob MV Lo e' g2]at k5
    cases k5
  ·rcases Ln h' with ⟨k',Md,Lo⟩|⟨MV,Lo⟩
   ·obtain⟨a',o',Qn,OZ,RV,RW,Qo,RX⟩:=M_ Md Lo
    rw[Qn]at e'
    cases e'
    obtain⟨p',u,g1,g2,g3,g4,g5⟩:=r.own j d h2
    rw[e]at g1
    cases g1
    rw[Ob hj h2 e g2]at Qo
    cases Qo
   ·exact r.dis j j' d d' p h2 Lo e e'
 ·rw[pr];exact r.len
 ·rcases Ln h with ⟨k,h1,h2⟩|⟨hj,h2⟩
  ·obtain⟨_,_,_,_,_,_,_,z,_⟩:=LH h2;exact absurd rfl z
  ·obtain⟨a,dx,fs,k0,k1,k2,k3,k4,k5,k6⟩:=r.obj L hL h2
   have no:∀{z:Dk} {u:HO},H z=some u->(∀d,¬fO K F u d)->∀i∈is,¬eJ H ρ σ i z:=λ{z u} hz nr i hi o=>by
    rcases o with ⟨d,g1,g2⟩|⟨x,Ka,f,hs,a,C,dx,fs,g1,_⟩
    ·obtain⟨p,u',q1,q2,_,_,q5⟩:=r.own i d g1
     rw[g2]at q1
     cases q1
     rw[hz]at q2
     cases q2
     exact nr d q5
    ·exact hj (by rw[<-r.cel.one i L.x x Ka f hs _ g1 h2 rfl];exact hi)
   have na:=no k2 (λd q=>by cases q)
   have nd:=no k3 (λd q=>by cases q)
   exact⟨a,dx,fs,k0,k1,LU k2 na,LU k3 nd,MZ k2 na k4,MZ k3 nd k5,k6⟩
 ·refine r.odis L hL L' M9 ?_ ?_
  ·rcases Ln h with ⟨k,h1,h2⟩|⟨_,h2⟩
   ·obtain⟨_,_,_,_,_,_,_,z,_⟩:=LH h2;exact absurd rfl z
   ·exact h2
  ·rcases Ln h' with ⟨k,h1,h2⟩|⟨_,h2⟩
   ·obtain⟨_,_,_,_,_,_,_,z,_⟩:=LH h2;exact absurd rfl z
   ·exact h2
 ·rcases Ln h with ⟨k,h1,h2⟩|⟨hj,h2⟩
  ·obtain⟨s0,i,a,k1,k2,k3,k4,k5,k6⟩:=LH h2
   rw[h1]at k1
   cases k1
   obtain⟨a',dx,b,g1,g2,g3⟩:=m.cel.ex k x Ka f hs (ms h2)
   rw[Mc k2]at g1
   cases g1
   refine⟨a,dx,b,k6,⟨g2.ex,g2.own,g2.fa,g2.fd,g2.fb,hz g2.za,hz g2.zd,hz g2.zb⟩,λj' d h' e=> ?_⟩
   rcases Ln h' with ⟨k',Md,Lo⟩|⟨MV,Lo⟩
   ·obtain⟨a',o',q1,q2,_⟩:=M_ Md Lo
    rw[q1]at e
    cases e
    exact g3 k' d (ms Lo) (Mc q2)
   ·obtain⟨p',u,q1,q2,_⟩:=r.own j' d Lo
    rw[e]at q1
    cases q1
    have:gq H ρ σ is b=none:=g2.zb
    rw[Ob MV Lo e q2]at this
    cases this
  ·obtain⟨a,dx,b,g1,g2,g3⟩:=r.cel.ex j x Ka f hs h2
   have SN:=g2
   obtain⟨C,fs,vs,us,q1,q2,q3,q4,q5,q6,q7⟩:=g2.ex
   have ow:∀z,(z=a\/z=dx\/fs.lookup f=some (.ref z))->∀i∈is,¬eJ H ρ σ i z:=λz hz=>Nk hj (.inr ⟨x,Ka,f,hs,a,C,dx,fs,h2,g1,q1,hz⟩)
   have na:=ow a (.inl rfl)
   have nd:=ow dx (.inr (.inl rfl))
   have nb:=ow b (.inr (.inr q3))
   refine⟨a,dx,b,g1,⟨⟨C,fs,vs,us,LU q1 na,q2,q3,LU q4 nb,q5.mono me.grow,q6.mono me.grow,q7⟩,LU g2.own nd,MZ q1 na g2.fa,MZ g2.own nd g2.fd,MZ q4 nb g2.fb,g2.za,g2.zd,g2.zb⟩,λj' d h' e=> ?_⟩
   rcases Ln h' with ⟨k',Md,Lo⟩|⟨MV,Lo⟩
   ·obtain⟨a',o',w1,w2,w3,w4,w5,w6⟩:=M_ Md Lo
    rw[w1]at e
    cases e
    rw[kz q4 nb]at w5
    cases w5
   ·exact g3 j' d Lo e
 ·have O_:∀{k:Nat} {s:Slot},ss'[k]? =some s->s.single=true->∃x Ka f hs i,is[k]? =some i/\ρ[i]? =some (some (.cel x Ka f hs)):=λ{k s} h hs=>by
   obtain⟨s0,i,a,k1,k2,k3,k4,k5,k6⟩:=LH h
   have:s.kind=2:=by cases s<;>first|rfl|exact absurd rfl k5|cases hs
   rw[this]at k4
   obtain⟨x,Ka,f,hs,rfl⟩:=vp k4
   exact⟨x,Ka,f,hs,i,k1,k3⟩
  rcases Ln h with ⟨k,h1,h2⟩|⟨hj,h2⟩
  ·rcases Ln h' with ⟨k',Md,Lo⟩|⟨MV,Lo⟩
   ·have:=m.cel.one k k' x Ka f hs s (ms h2) (ms Lo) KC
    subst this
    rw[h1]at Md
    exact Ec Md
   ·obtain⟨x0,P0,f0,OV,i,g1,g2⟩:=O_ h2 rfl
    have:=r.cel.one i j' x0 P0 f0 OV s g2 Lo KC
    subst this
    exact absurd (Ez g1) MV
  ·rcases Ln h' with ⟨k',Md,Lo⟩|⟨MV,Lo⟩
   ·obtain⟨x0,P0,f0,OV,i,g1,g2⟩:=O_ Lo KC
    have:=r.cel.one j i x Ka f hs _ h2 g2 rfl
    subst this
    exact absurd (Ez g1) hj
   ·exact r.cel.one j j' x Ka f hs s h2 Lo KC
end
end L2.Pu
namespace L2.Pu
open PySem PySem.Spec PyProof.Rows
variable {ly:List cY}
def cB:Nat->aa->Option (List Slot)
 |0,_=>some []
 |n+1,some s::ρ=>(cB n ρ).map λt=>s::t
 |_+1,_=>none
theorem n8:∀{n:Nat} {ρ:aa} {ss:List Slot},cB n ρ=some ss->ss.length=n/\∀(k:Nat) s,ss[k]? =some s->ρ[k]? =some (some s)
 |0,ρ,ss,h=>by cases h;exact⟨rfl,λk s e=>by simp at e⟩
 |n+1,some s::ρ,ss,h=>by
  unfold cB at h
  cases e:cB n ρ with
  |none=>rw[e]at h;cases h
  |some t=>
   rw[e]at h
   cases h
   obtain⟨h1,h2⟩:=n8 e
   refine⟨by simp[h1],λk s' e'=> ?_⟩
   cases k with
   |MS=>cases e';rfl
   |succ k=>exact h2 k s' e'
 |n+1,none::ρ,ss,h=>by cases h
 |n+1,[],ss,h=>by cases h
def dJ (n:Nat) (ss:List Slot) (ds:List D):aa:=ss.map some++c2 n ds
def gK (nm k n:Nat) (g:aa->R aU) (ss:List Slot) (ds:List D):R (D×List Slot):=if ss.length=nm/\ds.length=k then (match g (dJ n ss ds)with
 | .ok (.retc d ρ)=>(match cB nm ρ with|some ss'=> .ok (d,ss')|none=> .bad)
 | .ok (.nx ρ)=>(match cB nm ρ with|some ss'=> .ok (.non,ss')|none=> .bad)
 | .err z ρ=> .err z ρ
 |_=> .bad)else .bad
def BE (K:Dh) (nm n:Nat) (m:List Slot->List D->R (D×List Slot)):Sp:=λvs H Q E=>∃F as ws ss ds Hz,vs=as.map V.ref++ws/\as.length=nm/\ws.length=n/\xq K Hz F ss as H F/\(∀s∈ss,s.kind≠0)/\Reps K F ws ds/\match m ss ds with
 | .ok r=>∀v H' F',xq K Hz F r.2 as H' F'->df K F' v r.1->Q v H'
 | .err z ρe=>∃ss',cB nm ρe=some ss'/\∀ec q H' F',d3 K z ec->xq K Hz F ss' as H' F'->E ec q H'
 | .bad=>False
theorem RI.restrict {K:Dh} {c:cw ly} {ρ:aa} {σ:St} {H F:Hp} {nm:Nat} {ss:List Slot} {as:List Dk} (r:RI K c ρ σ H F) (hB:c.B=λ_=>none) (ht:cB nm ρ=some ss) (hl:as.length=nm) (hσ:∀(j:Nat) a,as[j]? =some a->σ[j]? =some (some (.ref a))):xq K c.H0 c.F0 ss as H F:=by
 obtain⟨t1,t2⟩:=n8 ht
 have up:∀{k:Nat} {s:Slot},(ss.map some)[k]? =some (some s)->ρ[k]? =some (some s)/\k<as.length:=λ{k s} h=>by
  obtain⟨s',h1,h2⟩:=map_some h
  cases h2
  exact⟨t2 k s h1,by rw[hl,<-t1];exact(Dx.mp h1).1⟩
 have at_:∀{k:Nat},k<as.length->(as.map λa=>some (V.ref a))[k]? =σ[k]? :=λ{k} h=>by
  have:as[k]? =some as[k]:=E2 h
  rw[hσ k _ this,ij this]
 refine⟨r.ext,λk d h=> ?_,λk d h=> ?_,λk d h=> ?_,(λ_ _ e=>by cases e),λk k' d d' a h h' e e'=> ?_,?_,(λL h=>by cases h),(λL h=>by cases h),(λ_ _ e=>by cases e),⟨λk x Ka f hs h=> ?_,λk k' x Ka f hs s h h' KC=> ?_⟩,(λL h=>by cases h)⟩
 ·obtain⟨h1,h2⟩:=up h
  rw[at_ h2];exact r.val k d h1
 ·obtain⟨h1,h2⟩:=up h
  rw[at_ h2];exact r.own k d h1
 ·obtain⟨h1,h2⟩:=up h
  obtain⟨a,o,_,z,_⟩:=r.bor k d h1
  rw[hB]at z
  cases z
 ·obtain⟨h1,h2⟩:=up h
  obtain⟨g1,g2⟩:=up h'
  rw[at_ h2]at e
  rw[at_ g2]at e'
  exact r.dis k k' d d' a h1 g1 e e'
 ·simp only[Dp];rw[t1,hl]
 ·obtain⟨h1,h2⟩:=up h
  obtain⟨a,dx,b,k1,k2,k3⟩:=r.cel.ex k x Ka f hs h1
  refine⟨a,dx,b,by rw[at_ h2];exact k1,k2,λj d hj e=> ?_⟩
  obtain⟨g1,g2⟩:=up hj
  rw[at_ g2]at e
  exact k3 j d g1 e
 ·exact r.cel.one k k' x Ka f hs s (up h).1 (up h').1 KC
theorem sZ {K:Dh} {N:List Dj} {Hz F H:Hp} {ss:List Slot} {as:List Dk} {ws:List V} {ds:List D} {Er:Dj->aa->Prop} {nm m:Nat} (mr:xq K Hz F ss as H F) (hk:∀s∈ss,s.kind≠0) (r:Reps K F ws ds) (hl:as.length=nm) (hN:N.length=nm+m) (hw:ws.length<=m)
  (P1:∀L∈ly,L.x<nm):RI K (⟨Hz,F,λ_=>none,Er,λj=>as[j]?,λ_=>none⟩:cw ly) (dJ m ss ds) (cS N (as.map V.ref++ws)) H F:=by
 have Qp:ss.length=as.length:=by have:=mr.len;simpa using this
 have pre:∀{i:Nat},i<as.length->(cS N (as.map V.ref++ws))[i]? =(as.map λa=>some (V.ref a))[i]? :=λ{i} h=>by
  unfold cS
  rw[Et,Gm,EN (by simpa using h),Fc];rfl
 have hv:∀{i:Nat} {sl:Slot},(dJ m ss ds)[i]? =some (some sl)->((ss.map some)[i]? =some (some sl)/\i<as.length/\sl.kind≠0)\/∃(j:Nat) (d:D),i=as.length+j/\ds[j]? =some d/\sl= .val d:=λ{i sl} h=>by
  unfold dJ at h
  rw[FR]at h
  split at h
  ·rename_i hi
   obtain⟨s',h1,h2⟩:=map_some h
   cases h2
   exact .inl ⟨h,by rw[<-Qp];simpa using hi,hk _ (Ez h1)⟩
  ·rename_i hi
   refine .inr ⟨i - as.length,?_⟩
   have e:(ss.map (some:Slot->Option Slot)).length=as.length:=by simp[Qp]
   rw[e]at h
   unfold c2 at h
   rw[FR]at h
   split at h
   ·rw[DX]at h
    cases e2:ds[i - as.length]? with
    |none=>rw[e2]at h;cases h
    |some d=>rw[e2]at h;simp at h;exact⟨d,by simp at hi;omega,rfl,h.symm⟩
   ·rw[EY]at h
    split at h<;>simp at h
 have Mt:∀{i:Nat} {sl:Slot},(dJ m ss ds)[i]? =some (some sl)->(∀d,sl≠ .val d)->(ss.map some)[i]? =some (some sl)/\i<as.length:=λh n=>by
  rcases hv h with ⟨a,b,_⟩|⟨j,d,_,_,z⟩
  ·exact⟨a,b⟩
  ·exact absurd z (n d)
 refine⟨mr.ext,λi d h=> ?_,λi d h=> ?_,λi d h=> ?_,(λ_ _ e=>by cases e),λi j d d' a h h' e e'=> ?_,?_,λL hL h=> ?_,λL hL L' M9 h _=> ?_,(λ_ _ e=>by cases e),⟨λi x Ka f hs h=> ?_,λi j x Ka f hs s h h' KC=> ?_⟩,λL hL a h=> ?_⟩
 ·rcases hv h with ⟨a,b,z⟩|⟨j,d',rfl,e,z⟩
  ·exact absurd rfl z
  ·cases z
   obtain⟨v,h1,h2⟩:=r.get e
   refine⟨v,?_,h2⟩
   unfold cS
   have hj:j<ws.length:=(Dx.mp h1).1
   rw[Et,Gm,FV (by simp),EN (by simp;omega)]
   simp[h1]
 ·obtain⟨h1,h2⟩:=Mt h (λd' z=>by cases z)
  rw[pre h2];exact mr.own i d h1
 ·obtain⟨h1,h2⟩:=Mt h (λd' z=>by cases z)
  obtain⟨a,o,_,z,_⟩:=mr.bor i d h1
  cases z
 ·obtain⟨h1,h2⟩:=Mt h (λd' z=>by cases z)
  obtain⟨g1,g2⟩:=Mt h' (λd' z=>by cases z)
  rw[pre h2]at e
  rw[pre g2]at e'
  exact mr.dis i j d d' a h1 g1 e e'
 ·have:=r.length
  simp only[dJ,c2,cS,E5,Dp,GA,Qp]
  omega
 ·rcases hv h with ⟨a,b,z⟩|⟨j,d',_,_,z⟩
  ·exact absurd rfl z
  ·cases z
 ·rcases hv h with ⟨a,b,z⟩|⟨j,d',_,_,z⟩
  ·exact absurd rfl z
  ·cases z
 ·obtain⟨h1,h2⟩:=Mt h (λd' z=>by cases z)
  obtain⟨a,dx,b,k1,k2,k3⟩:=mr.cel.ex i x Ka f hs h1
  refine⟨a,dx,b,by rw[pre h2];exact k1,k2,λj d hj e=> ?_⟩
  obtain⟨g1,g2⟩:=Mt hj (λd' z=>by cases z)
  rw[pre g2]at e
  exact k3 j d g1 e
 ·exact mr.cel.one i j x Ka f hs s (Mt h (λd' z=>by cases z)).1 (Mt h' (λd' z=>by subst z;cases KC)).1 KC
 ·have:=P1 L hL
  rw[pre (by omega)]
  exact ij (show as[L.x]? =some a from h)
theorem Bb {P:Dy} {w:DG} {K:Dh} {mg:Dj->Option Di} {base:DE} {x qual:Dj} {st:DU} {f:Dk} {fd:Ep} {N ps:List Dj} {k nm n m:Nat} {g:aa->R aU} (F:re K x qual st f fd) (S:aF N ps (ah st))
  (hn:ps.length=nm+n) (hm:N.length=nm+m) (Nr:n<=m) (P1:∀j,j<nm->∃L∈ly,L.x=j) (Oc:∀L∈ly,L.x<nm)
  (Ko:∀(Kf:Di) (A:DO) (outer:List EO) (s:Dl) (H:Hp) (E:XK),bN k (A.deeper (ES qual (ah st) s.heap.objs.size f Kf))->
   gi ly (fg (gW P w) P w K mg base N qual (ah st) f Kf A outer s H E) (aN st) g):d2 P w K mg base (gW P w) (k+1) f fd ps (BE K nm n (gK nm n m g)):=by
 refine Bz F S (λvs H Q E h=> ?_) (λKf A outer s H vs Q E hr h=> ?_)
 ·obtain⟨Fz,as,ws,ss,ds,Hz,rfl,h1,h2,_⟩:=h
  rw[E5,Dp,h1,h2,hn]
 ·obtain⟨Fz,as,ws,ss,ds,Hz,rfl,h1,h2,mr,hk,r,w⟩:=h
  let c:cw ly:=⟨Hz,Fz,λ_=>none,λz ρe=>∃ss',cB nm ρe=some ss'/\∀ec q H' F',d3 K z ec->xq K Hz Fz ss' as H' F'->E ec q H',λj=>as[j]?,λ_=>none⟩
  have back:∀{ρ σ H' F' ss'},RI K c ρ σ H' F'->cB nm ρ=some ss'->xq K Hz Fz ss' as H' F':=λ{ρ σ H' F' ss'} ri t=>ri.restrict rfl t h1 λj a e=>by
   have hj:j<nm:=by rw[<-h1];exact(Dx.mp e).1
   obtain⟨L,hL,rfl⟩:=P1 j hj
   exact ri.pin L hL a e
  refine⟨_,Ko Kf A outer s H E hr ⟨c,nO λz ρ er ec a H' F' σ hc ri=> ?_⟩,?_⟩
  ·obtain⟨ss',t,q⟩:=er
   exact q ec a H' F' hc (back ri t)
  refine⟨Fz,dJ m ss ds,sZ mr hk r h1 hm (by omega) Oc,?_⟩
  have hd:ss.length=nm/\ds.length=n:=⟨by have:=mr.len;simp only[Dp]at this;omega,by rw[<-r.length];exact h2⟩
  unfold gK at w
  rw[if_pos hd]at w
  cases e:g (dJ m ss ds)with
  |bad=>rw[e]at w;exact w.elim
  |err z ρ=>rw[e]at w;exact w
  |ok o=>
   rw[e]at w
   cases o with
   |retc d ρ=>
    intro v σ' H' F' _ M3 rv
    dsimp only at w
    cases t:cB nm ρ with
    |none=>rw[t]at w;exact w.elim
    |some ss'=>rw[t]at w;exact w v H' F' (back M3 t) rv
   |nx ρ=>
    intro σ' H' F' _ M3
    dsimp only at w
    cases t:cB nm ρ with
    |none=>rw[t]at w;exact w.elim
    |some ss'=>rw[t]at w;exact w .non H' F' (back M3 t) .non
   |_=>exact w.elim
structure Bc (P:Dy) (w:DG) (K:Dh) (mg:Dj->Option Di) (base:DE) (k:Nat) (x:Dj) (nm n:Nat) (m:List Slot->List D->R (D×List Slot)):Prop where
 ex:∃f fd ps,d2 P w K mg base (gW P w) k f fd ps (BE K nm n m)/\mg x=some (.ref f)/\E8 K (.ref f)=true/\dv K fd ps []
structure di (P:Dy) (w:DG) (K:Dh) (mg:Dj->Option Di) (base:DE) (k:Nat) (cls mm:Dj) (n:Nat) (m:List Slot->List D->R (D×List Slot)):Prop where
 ex:∃C f fd ps,d2 P w K mg base (gW P w) k f fd ps (BE K 1 n m)/\fR K cls C/\q0 K C mm f/\dv K fd ps []
section
variable {P:Dy} {w:DG} {K:Dh} {mg:Dj->Option Di} {base:DE}
theorem zN {x:Dj} {st:DU} {N ps:List Dj} {k nm n m:Nat} {g:aa->R aU} (ly:List cY) (A:eT K mg x st ps) (S:aF N ps (ah st)) (hn:ps.length=nm+n) (hm:N.length=nm+m) (Nr:n<=m) (P1:∀j,j<nm->∃L∈ly,L.x=j) (Oc:∀L∈ly,L.x<nm)
  (Ko:∀(f:Dk) (Kf:Di) (A:DO) (outer:List EO) (s:Dl) (H:Hp) (E:XK),bN k (A.deeper (ES x (ah st) s.heap.objs.size f Kf))->
   gi ly (fg (gW P w) P w K mg base N x (ah st) f Kf A outer s H E) (aN st) g):Bc P w K mg base (k+1) x nm n (gK nm n m g):=by
 obtain⟨f,fd,F,h1,h2⟩:=A.ex
 exact⟨f,fd,ps,Bb F S hn hm Nr P1 Oc λKf A outer s H E hr=>Ko f Kf A outer s H E hr,h1,F.kp,h2⟩
theorem hV {cls mm qual:Dj} {st:DU} {N ps:List Dj} {k n m:Nat} {g:aa->R aU} (A:dS K cls mm qual st ps) (S:aF N ps (ah st)) (hn:ps.length=1+n) (hm:N.length=1+m) (Nr:n<=m)
  (Ko:∀(f:Dk) (Kf:Di) (A:DO) (outer:List EO) (s:Dl) (H:Hp) (E:XK),bN k (A.deeper (ES qual (ah st) s.heap.objs.size f Kf))->
   gi [⟨0,0,[]⟩] (fg (gW P w) P w K mg base N qual (ah st) f Kf A outer s H E) (aN st) g):di P w K mg base (k+1) cls mm n (gK 1 n m g):=by
 obtain⟨C,f,fd,F,h1,h2,h3⟩:=A.ex
 exact⟨C,f,fd,ps,Bb F S hn hm Nr (λj hj=>⟨_,DJ.mpr rfl,by show (0:Nat)=j;omega⟩) (λL hL=>by rw[DJ.mp hL];exact Nat.zero_lt_one) λKf A outer s H E hr=>Ko f Kf A outer s H E hr,h1,h2,h3⟩
end
def eV (is:List Nat) (m:List Slot->List D->R (D×List Slot)) (n:Nat) (fs:aa->R (List D)):aa->R (D×aa):=λρ=>match dI ρ is with
 |some ss=>if (ss.all λs=>s.kind != 0)=true/\is.Nodup then (fs ρ>>=λds=>if ds.length=n then (match m ss ds with
  | .ok r=>if r.2.map Slot.kind=ss.map Slot.kind then .ok (r.1,pq ρ is r.2)else .bad
  | .err z ρe=>(match cB is.length ρe with
   |some ss'=>if ss'.map Slot.kind=ss.map Slot.kind then .err z (pq ρ is ss')else .bad
   |none=> .bad)
  | .bad=> .bad)else .bad)else .bad
 |none=> .bad
def tX (K:Dh) (c:cw ly) (fx:aa->R (D×aa)):TE:=λσ H Q=>∃F ρ,RI K c ρ σ H F/\aA c (fx ρ) λr=>∀v H' F',aG F F'->RI K c r.2 σ H' F'->df K F' v r.1->Q v H'
def PX (ly:List cY) (X:Cx) (e:Dr) (fx:aa->R (D×aa)):Prop:=∀c:fE ly X,PE X e (tX X.K c.1 fx)
theorem At.of {K:Dh} {c:cw ly} {ρ:aa} {σ:St} {H F:Hp} (r:RI K c ρ σ H F):∀{is:List Nat} {ss:List Slot},dI ρ is=some ss->(ss.all λs=>s.kind != 0)=true->∃as,At ρ σ is ss as
 |[],ss,h,_=>by cases h;exact⟨[], .nil⟩
 |i::is,ss,h,k=>by
  unfold dI at h
  split at h
  ·rename_i s hs
   cases e:dI ρ is with
   |none=>rw[e]at h;cases h
   |some t=>
    rw[e]at h
    cases h
    rw[EJ,Ee]at k
    obtain⟨as,A⟩:=At.of r e k.2
    have hk:s.kind≠0:=by simpa using k.1
    have:∃a,σ[i]? =some (some (.ref a)):=by
     cases s with
     |own d=>obtain⟨a,o,h1,_⟩:=r.own i d hs;exact⟨a,h1⟩
     |cel x Ka f KC=>obtain⟨a,dx,b,h1,_⟩:=r.cel.ex i x Ka f KC hs;exact⟨a,h1⟩
     |_=>exact absurd rfl hk
    obtain⟨a,ha⟩:=this
    exact⟨a::as, .cons hs hk ha A⟩
  ·cases h
section
variable {X:Cx} {e:Dr} {es:List Dr} {fs:aa->R (List D)} {is:List Nat} {p pos Kh:DZ} {x m:Dj}
theorem vq {c:fE ly X} {mf:List Slot->List D->R (D×List Slot)} {n:Nat} {ρ:aa} {σ:St} {H F:Hp} {Q:VK} (ri:RI X.K c.1 ρ σ H F) (w:aA c.1 (eV is mf n fs ρ) λr=>∀v H' F',aG F F'->RI X.K c.1 r.2 σ H' F'->df X.K F' v r.1->Q v H'):
  ∃ss as,At ρ σ is ss as/\Ab X.K c.1 fs σ H λvs H1=>BE X.K is.length n mf (as.map V.ref++vs) H1 Q (zi X c.1 σ):=by
 unfold eV at w
 split at w
 ·rename_i ss hs
  split at w
  ·rename_i hk
   obtain⟨hk,nd⟩:=hk
   obtain⟨as,A⟩:=At.of ri hs hk
   refine⟨ss,as,A,F,ρ,ri,(aA.bind.mp w).imp λds _ w1 vs H1 F1 e1 r1=> ?_⟩
   split at w1
   ·rename_i hl
    have r':=ri.step e1
    refine⟨F1,as,vs,ss,ds,gq H1 ρ σ is,rfl,A.lens.2,by rw[r1.length];exact hl,r'.split A nd,λs KC=>by have:=FT.mp hk s KC;simpa using this,r1,?_⟩
    split at w1
    ·rename_i r hr
     split at w1
     ·rename_i NW
      intro v H' F' mr rv
      exact w1 v H' F' (e1.grow.trans mr.ext.grow) (r'.join A nd mr NW) rv
     ·exact w1.elim
    ·rename_i z ρe hr
     split at w1
     ·rename_i ss' ht
      split at w1
      ·rename_i NW
       exact⟨ss',ht,λec q H' F' hc mr=>⟨z,_,F',hc,r'.join A nd mr NW,w1⟩⟩
      ·exact w1.elim
     ·exact w1.elim
    ·exact w1.elim
   ·exact w1.elim
  ·exact w.elim
 ·exact w.elim
def qD:List Nat->TA->TA
 |[],t=>t
 |i::is,t=>xY (tR i) (qD is t)
theorem n9 {t:TA} {ρ:aa} {σ:St} {H:Hp}:∀{is:List Nat} {ss:List Slot} {as:List Dk} {Q:List V->Hp->Prop},At ρ σ is ss as->t σ H (λvs H1=>Q (as.map V.ref++vs) H1)->qD is t σ H Q
 |[],_,_,Q, .nil,h=>h
 |i::is,_,_,Q, .cons h1 h2 h3 A,h=>⟨_,h3,n9 A h⟩
def BF (ly:List cY) (X:Cx) (es:List Dr) (is:List Nat) (fs:aa->R (List D)):Prop:=∀c:fE ly X,PA X es (qD is (Ab X.K c.1 fs))
theorem zO (h:pS ly X es fs):BF ly X es [] fs:=λc=>h c
theorem xr (i:Nat) (h:BF ly X es is fs) (hN:X.N[i]? =some x:=by rfl) (hv:kD X.env.scope x:=by first|exact E7 rfl|exact DV (E7 rfl)|exact DV (DV rfl)) (hd:(x==("__debug__":Dj))=false:=by decide)
  (Lc:(x==("__classdict__":Dj))=false:=by decide) (hs:Dm (.Name x p::es) X.env=(false,DC (.Name x p) X.env)::Dm es X.env:=by rfl):BF ly X (.Name x p::es) (i::is) fs:=λc=>bt (pv i hN hv hd Lc) (h c) hs
theorem Co {k n:Nat} {mf:List Slot->List D->R (D×List Slot)} (G:Bc X.prog X.w X.K X.mg X.base k x is.length n mf) (hr:bN k X.A) (ha:BF ly X (e::es) is fs) (hg:Gl X x:=by rfl) (La:(x==("__debug__":Dj))=false:=by decide)
  (he:Dm (e::es) X.env=(false,DC e X.env)::Dm es X.env:=by rfl) (L3:(DQ pos (Dm es X.env)).any (·.1)=false:=by rfl):PX ly X (.Call (.Name x p) (e::es) [] pos) (eV is mf n fs):=λc=>by
 obtain⟨f,fd,ps,h1,h2,h3,h4⟩:=G.ex
 refine PE.weak (qY h1 hr hg h2 h3 h4 .nil (la c) (ha c) La he L3) λσ H Q q=> ?_
 obtain⟨F,ρ,ri,w⟩:=q
 obtain⟨ss,as,A,t⟩:=vq ri w
 refine n9 A ?_
 obtain⟨F0,ρ0,Ot,w0⟩:=t
 exact⟨F0,ρ0,Ot,w0.imp λds _ k vs H1 F1 e1 r1=>by dsimp only;rw[EG];exact k vs H1 F1 e1 r1⟩
def gL (i:Nat) (cls m:Dj) (fx:aa->R (D×aa)):aa->R (D×aa):=λρ=>match ρ[i]? with
 |some (some (.cel y Ka f hs))=>if y=cls/\m≠f/\Ka.lookup m=none then fx ρ else .bad
 |_=> .bad
theorem xt {c:fE ly X} {i:Nat} {cls:Dj} {fx:aa->R (D×aa)} {ρ:aa} {σ:St} {H F:Hp} {C:Dk} {P:D×aa->Prop} (T:fR X.K cls C) (ri:RI X.K c.1 ρ σ H F) (w:aA c.1 (gL i cls m fx ρ) P):
  ∃a dx fs,σ[i]? =some (some (.ref a))/\H a=some (.ins C dx fs)/\fs.lookup m=none/\aA c.1 (fx ρ) P:=by
 unfold gL at w
 split at w
 ·rename_i y Ka f hs hi
  split at w
  ·rename_i hc
   obtain⟨rfl,h1,h2⟩:=hc
   obtain⟨a,dx,b,k1,k2,k3⟩:=ri.cel.ex i y Ka f hs hi
   obtain⟨C',fs,vs,us,g1,g2,g3,g4,g5,g6,g7,g8,_⟩:=k2.ex
   have:C'=C:=by have:=T.ns;rw[g2]at this;cases this;rfl
   subst this
   refine⟨a,dx,fs,k1,g1,?_,w⟩
   cases q:fs.lookup m with
   |none=>rfl
   |some v=>
    rcases g8 m v q with z|z
    ·exact absurd z h1
    ·rw[g6.names]at z
     exact absurd z (eU h2)
  ·exact w.elim
 ·exact w.elim
theorem hX (i:Nat) {cls y:Dj} {py:DZ} {k n:Nat} {mf:List Slot->List D->R (D×List Slot)} {pl:Gy Bool} (G:di X.prog X.w X.K X.mg X.base k cls m n mf) (hr:bN k X.A) (ha:pS ly X (e::es) fs)
  (hN:X.N[i]? =some y:=by rfl) (hv:kD X.env.scope y:=by first|exact E7 rfl|exact DV (E7 rfl)|exact DV (DV rfl)) (hd:(y==("__debug__":Dj))=false:=by decide) (Lc:(y==("__classdict__":Dj))=false:=by decide)
  (N8:Dm (e::es) X.env=(false,DC e X.env)::Dm es X.env:=by rfl) (L3:(DQ pos (Dm es X.env)).any (·.1)=false:=by rfl)
  (ht:DC (.Call (.Attribute (.Name y py) m Kh) (e::es) [] pos) X.env=(do
   let ov<-DC (.Name y py) X.env
   GY Kh.atName
   let (f,first)<-GZ [ov] (G4 ov m pl)
   H9 pos f first (DQ pos (Dm (e::es) X.env)) (EK pos (Em [] X.env))):=by rfl):
  PX ly X (.Call (.Attribute (.Name y py) m Kh) (e::es) [] pos) (gL i cls m (eV [i] mf n fs)):=λc=>by
 obtain⟨C,f,fd,ps,h1,h2,h3,h4⟩:=G.ex
 refine PE.weak (qZ (pv i hN hv hd Lc) h2.cl h3 h1 hr h4 .nil (la c) (ha c) N8 L3 ht) λσ H Q q=> ?_
 obtain⟨F,ρ,ri,w⟩:=q
 obtain⟨a,dx,MG,k1,k2,k3,w⟩:=xt h2 ri w
 obtain⟨ss,as,A,t⟩:=vq ri w
 cases A with
 |cons q1 q2 q3 A0=>
  cases A0
  rw[k1]at q3
  cases q3
  refine⟨.ref a,k1,a,dx,MG,rfl,k2,k3,?_⟩
  obtain⟨F0,ρ0,Ot,w0⟩:=t
  exact⟨F0,ρ0,Ot,w0.imp λds _ k vs H1 F1 e1 r1=>by dsimp only;rw[EG];exact k vs H1 F1 e1 r1⟩
end
end L2.Pu
namespace L2.Pu
open PySem PySem.Spec PyProof.Rows
variable {ly:List cY}
def vr (g:Dj) (d:D) (Ka:List (Dj×D)):List (Dj×D):=Ka.map λp=>if p.1=g then (p.1,d)else p
section
variable {K:Dh} {c:cw ly} {ρ:aa} {σ:St} {H F:Hp} {i:Nat} {z:Dk}
theorem RepF.put {vs:List (Dj×V)} {Ka:List (Dj×D)} {g:Dj} {v:V} {d:D} (h:RepF K F vs Ka) (r:df K F v d):RepF K F (vs.map λp=>if p.1=g then (p.1,v)else p) (vr g d Ka):=by
 induction Ka generalizing vs with
 |nil=>rw[h.nilI];exact .nil
 |cons p Ka ih=>
  obtain⟨k,x⟩:=p
  obtain⟨u,us,rfl,h1,h2⟩:=h.consI
  have:=ih h2
  unfold vr at this ⊢
  rw[DH,DH]
  dsimp only
  by_cases e:k=g
  ·rw[if_pos e,if_pos e];exact .cons r this
  ·rw[if_neg e,if_neg e];exact .cons h1 this
theorem RI.celUpd (r:RI K c ρ σ H F) {x x':Dj} {Ka MY:List (Dj×D)} {f f':Dj} {hs KC:List D} {a dx b:Dk} {o':HO} (hi:ρ[i]? =some (some (.cel x Ka f hs))) (h1:σ[i]? =some (some (.ref a))) (hz:eJ H ρ σ i z)
  (A':gX K (gq H ρ σ [i]) (bc H z o') F a dx b x' MY f' KC):RI K c (ρ.set i (some (.cel x' MY f' KC))) σ (bc H z o') F:=by
 refine r.join (is:=[i]) (ss:=[.cel x Ka f hs]) (ss':=[.cel x' MY f' KC]) (as:=[a]) (.cons hi (by intro e;cases e) h1 .nil) (by simp) ?_ rfl
 have RY:gq H ρ σ [i] z=none:=hU (DJ.mpr rfl) hz
 have only:∀{k:Nat} {s:Slot},(([Slot.cel x' MY f' KC]:List Slot).map some)[k]? =some (some s)->k=0/\s= .cel x' MY f' KC:=λ{k s} h=>by
  cases k with
  |MS=>cases h;exact⟨rfl,rfl⟩
  |succ k=>simp at h
 refine⟨⟨λy u e=> ?_,λy u e=> ?_,aG.refl _,λ_ h=> .inl h⟩,λk d h=> ?_,λk d h=> ?_,λk d h=> ?_,(λ_ _ e=>by cases e),λk k' d d' a h=> ?_,rfl,(λL h=>by cases h),(λL h=>by cases h),(λ_ _ e=>by cases e),⟨λk y vd g hh h=> ?_,λk k' y vd g hh s h h' _=> ?_⟩,(λL h=>by cases h)⟩
 ·rw[al (λq=>by rw[q,(r.owns hz).2.1]at e;cases e)];exact r.sub y u e
 ·have e':gq H ρ σ [i] y=some u:=e
  rw[al (λq=>by rw[q,RY]at e';cases e')];exact n6 e'
 ·obtain⟨_,q⟩:=only h;cases q
 ·obtain⟨_,q⟩:=only h;cases q
 ·obtain⟨_,q⟩:=only h;cases q
 ·obtain⟨_,q⟩:=only h;cases q
 ·obtain⟨rfl,q⟩:=only h
  cases q
  exact⟨a,dx,b,rfl,A',λj d hj=>by obtain⟨_,q⟩:=only hj;cases q⟩
 ·rw[(only h).1,(only h').1]
end
section
variable {X:Cx} {a b e value:Dr} {es:List Dr} {fa fb f fv:aa->R D} {fs:aa->R (List D)} {pos px Kh Nl Kb Kw:DZ} {y g cls:Dj} {xs:List Dj}
def cI (i:Nat) (cls g:Dj):aa->R D:=λρ=>match ρ[i]? with
 |some (some (.cel x Ka _ _))=>if x=cls then R.of (Ka.lookup g)else .bad
 |_=> .bad
theorem kJ {K:Dh} {c:cw ly} {ρ:aa} {σ:St} {H F:Hp} {i:Nat} {C:Dk} {x:Dj} {Ka:List (Dj×D)} {f:Dj} {hs:List D} (ri:RI K c ρ σ H F) (T:fR K x C) (hi:ρ[i]? =some (some (.cel x Ka f hs))):
  ∃a dx b fs vs us,σ[i]? =some (some (.ref a))/\H a=some (.ins C dx fs)/\gX K c.H0 H F a dx b x Ka f hs/\fs.lookup f=some (.ref b)/\H b=some (.lst us)/\Reps K F us hs/\RepF K F vs Ka/\(∀p∈vs,fs.lookup p.1=some p.2)/\
   (∀g v,fs.lookup g=some v->g=f\/g∈vs.map (·.1))/\(fs.map (·.1)).Nodup/\f∉vs.map (·.1):=by
 obtain⟨a,dx,b,k1,k2,k3⟩:=ri.cel.ex i x Ka f hs hi
 obtain⟨C',fs,vs,us,g1,g2,g3⟩:=k2.ex
 have:C'=C:=by have:=T.ns;rw[g2]at this;cases this;rfl
 subst this
 exact⟨a,dx,b,fs,vs,us,k1,g1,k2,g3⟩
theorem dU (i:Nat) (T:cV X.K cls xs) (hx:g∈xs) (hN:X.N[i]? =some y:=by rfl) (hv:kD X.env.scope y:=by first|exact E7 rfl|exact DV (E7 rfl)|exact DV (DV rfl)) (hd:(y==("__debug__":Dj))=false:=by decide)
  (Lc:(y==("__classdict__":Dj))=false:=by decide) (hb:E9 (.Name y px) g X.env (DC (.Name y px) X.env)=DC (.Name y px) X.env:=by rfl):PQ ly X (.Attribute (.Name y px) g pos) (cI i cls g):=by
 obtain⟨C,h1,h2⟩:=T.ex
 exact λc=>PE.weak (nD (pv i hN hv hd Lc) hb) λσ H Q ⟨F,ρ,ri,w⟩=>by
  unfold cI at w
  split at w
  ·rename_i x Ka f hs hi
   split at w
   ·rename_i hc
    subst hc
    obtain⟨d,hd,k⟩:=w.of
    obtain⟨a,dx,b,fs,vs,us,k1,k2,k3,k4,k5,k6,k7,k8,_⟩:=kJ ri h1 hi
    obtain⟨v,m1,m2⟩:=k7.get hd
    exact⟨.ref a,k1,a,C,dx,fs,v,rfl,k2,h1.cl,h2 g hx,k8 _ m1,k v H F (bi.refl ri.sub) m2⟩
   ·exact w.elim
  ·exact w.elim
def lB (i:Nat) (cls g:Dj):aa->R D:=λρ=>match ρ[i]? with
 |some (some (.cel x _ f hs))=>if x=cls/\f=g then .ok (.lst hs)else .bad
 |_=> .bad
theorem zP (i:Nat) (T:cV X.K cls xs) (hx:g∈xs) (hN:X.N[i]? =some y:=by rfl) (hv:kD X.env.scope y:=by first|exact E7 rfl|exact DV (E7 rfl)|exact DV (DV rfl)) (hd:(y==("__debug__":Dj))=false:=by decide)
  (Lc:(y==("__classdict__":Dj))=false:=by decide) (hb:E9 (.Name y px) g X.env (DC (.Name y px) X.env)=DC (.Name y px) X.env:=by rfl):PB ly X (.Attribute (.Name y px) g pos) (lB i cls g):=by
 obtain⟨C,h1,h2⟩:=T.ex
 exact λc=>PE.weak (nD (pv i hN hv hd Lc) hb) λσ H Q ⟨F,ρ,ri,w⟩=>by
  unfold lB at w
  split at w
  ·rename_i x Ka f hs hi
   split at w
   ·rename_i hc
    obtain⟨rfl,rfl⟩:=hc
    obtain⟨a,dx,b,fs,vs,us,k1,k2,k3,k4,k5,k6,_⟩:=kJ ri h1 hi
    exact⟨.ref a,k1,a,C,dx,fs, .ref b,rfl,k2,h1.cl,h2 _ hx,k4,w (.ref b) H F (bi.refl ri.sub) (.inr ⟨b, .lst us,rfl,k5, .lst k6⟩)⟩
   ·exact w.elim
  ·exact w.elim
def o3 (i:Nat) (cls g:Dj) (fv:aa->R D):aa->R aU:=λρ=>match ρ[i]? with
 |some (some (.cel x Ka f hs))=>fv ρ>>=λd=>if x=cls/\(Ka.lookup g).isSome=true/\Ka.length<900 then .ok (.nx (ρ.set i (some (.cel x (vr g d Ka) f hs))))else .bad
 |_=> .bad
theorem pz {α:Type} {g:Dj}:∀{l:List (Dj×α)},(l.lookup g).isSome=true->g∈l.map (·.1)
 |(k,v)::r,h=>by
  rw[En]at h
  cases e:g==k with
  |true=>rw[eq_of_beq e];exact DI
  |false=>rw[e]at h;exact DF _ (pz h)
theorem vt (i:Nat) (T:cV X.K cls xs) (hx:g∈xs) (hv:PQ ly X value fv) (hN:X.N[i]? =some y:=by rfl) (RZ:kD X.env.scope y:=by first|exact E7 rfl|exact DV (E7 rfl)|exact DV (DV rfl)) (hd:(y==("__debug__":Dj))=false:=by decide)
  (Lc:(y==("__classdict__":Dj))=false:=by decide) (hs:Eg value (some (.Attribute (.Name y px) g Kw)) pos.line X.env=pure false:=by rfl):jD ly X (.Assign [.Attribute (.Name y px) g Kw] value pos) (o3 i cls g fv):=by
 obtain⟨C,h1,h2⟩:=T.ex
 exact λc=>PS.weak (yP (pv i hN RZ hd Lc) (hv c) hs) λD σ H ⟨F,ρ,ri,w⟩=>by
  unfold o3 at w
  split at w
  ·rename_i x Ka f hs hi
   refine⟨F,ρ,ri,(aA.bind.mp w).imp λd _ w1 v H1 F1 e1 r1=> ?_⟩
   split at w1
   ·rename_i hc
    obtain⟨rfl,hl,Ki⟩:=hc
    have MF:=ri.step e1
    obtain⟨a,dx,b,fs,vs,us,k1,k2,k3,k4,k5,k6,k7,k8,k9,Oo,R3⟩:=kJ MF h1 hi
    have Qq:g∈vs.map (·.1):=by rw[k7.names];exact pz hl
    have R_:g≠f:=λz=>by rw[z]at Qq;exact R3 Qq
    have P2:fs.length<1000:=by
     have:(fs.map (·.1)).length<=(f::vs.map (·.1)).length:=ci Oo λq hq=>by
      obtain⟨u,hu⟩:=gl hq
      rcases k9 q u hu with z|z
      ·rw[z];exact DI
      ·exact DF _ z
     rw[Dp,DA,k7.names,Dp]at this
     omega
    refine⟨_,k1,a,C,dx,fs,rfl,k2,h1.cl,h2 g hx,P2,?_⟩
    have oa:eJ H1 ρ σ i a:= .inr ⟨x,Ka,f,hs,a,C,dx,fs,hi,k1,k2, .inl rfl⟩
    have cz:∀z,(z=a\/z=dx\/fs.lookup f=some (.ref z))->gq H1 ρ σ [i] z=none:=λz hz=>hU (DJ.mpr rfl) (.inr ⟨x,Ka,f,hs,a,C,dx,fs,hi,k1,k2,hz⟩)
    have S0:dx≠a:=λz=>by have:=k3.own;rw[z,k2]at this;cases this
    have S1:b≠a:=λz=>by rw[z,k2]at k5;cases k5
    refine w1 σ _ F1 e1.grow (MF.celUpd (dx:=dx) (b:=b) hi k1 oa ⟨⟨C,ef g v fs,vs.map (λp=>if p.1=g then (p.1,v)else p),us,aq,h1.ns,?_,?_,k6,k7.put r1,λp hp=> ?_,λq u hq=> ?_,n_ _ _ Oo,?_⟩,?_,k3.fa,k3.fd,k3.fb,cz a (.inl rfl),cz dx (.inr (.inl rfl)),cz b (.inr (.inr k4))⟩)
    ·rw[bM,if_neg (E_ R_)];exact k4
    ·rw[al S1];exact k5
    ·obtain⟨q,hq,rfl⟩:=ET.mp hp
     rw[bM]
     by_cases z:q.1=g
     ·rw[if_pos z,if_pos z]
     ·rw[if_neg z,if_neg z];exact k8 q hq
    ·have Od:(vs.map (λp=>if p.1=g then (p.1,v)else p)).map (·.1)=vs.map (·.1):=by
      rw[Fc];refine GX λp _=> ?_
      show (if p.1=g then (p.1,v)else p).1=p.1
      split<;>rfl
     rw[Od]
     rw[bM]at hq
     by_cases z:q=g
     ·rw[z];exact .inr Qq
     ·rw[if_neg z]at hq;exact k9 q u hq
    ·have Od:(vs.map (λp=>if p.1=g then (p.1,v)else p)).map (·.1)=vs.map (·.1):=by
      rw[Fc];refine GX λp _=> ?_
      show (if p.1=g then (p.1,v)else p).1=p.1
      split<;>rfl
     rw[Od];exact R3
    ·rw[al S0];exact k3.own
   ·exact w1.elim
  ·exact w.elim
theorem xu {K:Dh} {c:cw ly} {ρ:aa} {σ:St} {H F:Hp} {i:Nat} {C:Dk} {x:Dj} {Ka:List (Dj×D)} {f:Dj} {hs KC:List D} {a dx b:Dk} {fs:List (Dj×V)} {us Qr:List V} (ri:RI K c ρ σ H F) (hi:ρ[i]? =some (some (.cel x Ka f hs))) (k1:σ[i]? =some (some (.ref a))) (k2:H a=some (.ins C dx fs))
  (k3:gX K c.H0 H F a dx b x Ka f hs) (k4:fs.lookup f=some (.ref b)) (k5:H b=some (.lst us)) (q:Reps K F Qr KC):RI K c (ρ.set i (some (.cel x Ka f KC))) σ (bc H b (.lst Qr)) F:=by
 have cz:∀z,(z=a\/z=dx\/fs.lookup f=some (.ref z))->eJ H ρ σ i z:=λz hz=> .inr ⟨x,Ka,f,hs,a,C,dx,fs,hi,k1,k2,hz⟩
 have cy:∀z,eJ H ρ σ i z->gq H ρ σ [i] z=none:=λz o=>hU (DJ.mpr rfl) o
 have S2:a≠b:=λz=>by rw[<-z,k2]at k5;cases k5
 have S3:dx≠b:=λz=>by have:=k3.own;rw[z,k5]at this;cases this
 obtain⟨C',MG,vs,SO,g1,g2,g3,g4,g5,g6,g7⟩:=k3.ex
 rw[k2]at g1
 cases g1
 exact ri.celUpd (dx:=dx) (b:=b) hi k1 (cz b (.inr (.inr k4))) ⟨⟨C,fs,vs,Qr,by rw[al S2];exact k2,g2,k4,aq,q,g6,g7⟩,by rw[al S3];exact k3.own,k3.fa,k3.fd,k3.fb,cy _ (cz a (.inl rfl)),cy _ (cz dx (.inr (.inl rfl))),cy _ (cz b (.inr (.inr k4)))⟩
def kK (i:Nat) (cls g:Dj) (f:aa->R D):aa->R aU:=λρ=>match ρ[i]? with
 |some (some (.cel x Ka h hs))=>if x=cls/\h=g then (f ρ>>=λd=>if hs.length<lim then .ok (.nx (ρ.set i (some (.cel x Ka h (hs++[d])))))else .bad)else .bad
 |_=> .bad
theorem vv (i:Nat) (T:cV X.K cls xs) (hx:g∈xs) (h:PQ ly X e f) (hN:X.N[i]? =some y:=by rfl) (hv:kD X.env.scope y:=by first|exact E7 rfl|exact DV (E7 rfl)|exact DV (DV rfl)) (hd:(y==("__debug__":Dj))=false:=by decide)
  (Lc:(y==("__classdict__":Dj))=false:=by decide) (hb:E9 (.Name y px) g X.env (DC (.Name y px) X.env)=DC (.Name y px) X.env:=by rfl)
  (KJ:E9 (.Attribute (.Name y px) g Nl) "append" X.env (DC (.Attribute (.Name y px) g Nl) X.env)=DC (.Attribute (.Name y px) g Nl) X.env:=by rfl)
  (Li:((DQ Kb (Dm [e] X.env)).all (λx=> !x.1)&&(EK Kb (Em [] X.env)).all (λx=>x.1.isSome)
   &&decide (([e]:List Dr).length+([]:List EH).length+(if ([]:List EH).isEmpty then 0 else 1)<30))=true:=by rfl)
  (KL:(Kh.endLine==Kb.line)=true:=by rfl) (hs:Dm [e] X.env=(false,DC e X.env)::Dm [] X.env:=by rfl) (Kr:(DQ Kb (Dm [] X.env)).any (·.1)=false:=by rfl)
  (Mr:Eg (.Call (.Attribute (.Attribute (.Name y px) g Nl) "append" Kh) [e] [] Kb) none pos.line X.env=pure false:=by rfl):jD ly X (.Expr (.Call (.Attribute (.Attribute (.Name y px) g Nl) "append" Kh) [e] [] Kb) pos) (kK i cls g f):=by
 obtain⟨C,h1,h2⟩:=T.ex
 exact λc=>PS.weak (ia (mG Ew G9 Ga ib (nD (pv i hN hv hd Lc) hb) (bt (h c) d0 hs) KJ Li KL hs Kr) Mr) λD σ H ⟨F,ρ,ri,w⟩=>by
  unfold kK at w
  split at w
  ·rename_i x Ka f' hs hi
   split at w
   ·rename_i hc
    obtain⟨rfl,rfl⟩:=hc
    obtain⟨a,dx,b,fs,vs,us,k1,k2,k3,k4,k5,k6,_⟩:=kJ ri h1 hi
    refine⟨.ref a,k1,a,C,dx,fs, .ref b,rfl,k2,h1.cl,h2 _ hx,k4, .inl ⟨rfl,us,cp.of k5⟩,F,ρ,ri,(aA.bind.mp w).imp λd _ w1 v H1 F1 e1 r1=> ?_⟩
    split at w1
    ·rename_i hl
     refine⟨b,us,v,rfl,rfl,e1.keep _ _ k5,DS (by rw[k6.length];exact hl) eg,?_⟩
     exact w1 σ _ F1 e1.grow (xu (ri.step e1) hi k1 (e1.keep _ _ k2) (k3.step e1) k4 (e1.keep _ _ k5) ((k6.mono e1.grow).append (.cons r1 .nil)))
    ·exact w1.elim
   ·exact w.elim
  ·exact w.elim
variable {fx:aa->R (D×aa)}
def nc (f:aa->R D):aa->R aU:=λρ=>f ρ>>=λd=> .ok (.retc d ρ)
theorem vw (h:PQ ly X e f):jD ly X (.Return (some e) pos) (nc f):=λc=>PS.weak (pV (h c)) λD σ H ⟨F,ρ,ri,w⟩=>
 ⟨F,ρ,ri,(aA.bind.mp w).imp λd _ w1 v H' F' e r=>w1 v σ H' F' e.grow (ri.step e) r⟩
def hZ (fx:aa->R (D×aa)):aa->R aU:=λρ=>fx ρ>>=λr=> .ok (.retc r.1 r.2)
theorem vx (h:PX ly X e fx):jD ly X (.Return (some e) pos) (hZ fx):=λc=>PS.weak (pV (h c)) λD σ H ⟨F,ρ,ri,w⟩=>
 ⟨F,ρ,ri,(aA.bind.mp w).imp λr _ w1 v H' F' e M3 rv=>w1 v σ H' F' e M3 rv⟩
def eW (fx:aa->R (D×aa)):aa->R aU:=λρ=>fx ρ>>=λr=> .ok (.nx r.2)
theorem jh (h:PX ly X e fx) (Mr:Eg e none pos.line X.env=pure false:=by rfl):jD ly X (.Expr e pos) (eW fx):=λc=>PS.weak (ia (h c) Mr) λD σ H ⟨F,ρ,ri,w⟩=>
 ⟨F,ρ,ri,(aA.bind.mp w).imp λr _ w1 v H' F' e M3 rv=>w1 σ H' F' e M3⟩
def pA (i:Nat) (fx:aa->R (D×aa)):aa->R aU:=λρ=>fx ρ>>=λr=> .ok (.nx (r.2.set i (some (.val r.1))))
theorem zQ (i:Nat) {x:Dj} (hN:X.N.Nodup) (he:PX ly X e fx) (hi:X.N[i]? =some x:=by rfl) (hx:tM X.env.scope x:=by first|exact E7 rfl|exact DV rfl) (hs:Eg e (some (.Name x Kw)) pos.line X.env=pure false:=by rfl)
  (hf:X.fn x=true\/X.env.scope.names.lookup x=some .local:=by first|exact .inl rfl|exact .inr rfl|assumption) (LO:gY ly i:=by(repeat (first|assumption|exact L2.Pu.dA|refine L2.Pu.cN ⟨by first|decide|simp,by first|decide|simp⟩ ?_))):jD ly X (.Assign [.Name x Kw] e pos) (pA i fx):=λc=>
 PS.weak (jx hN hi hx (he c) hs hf) λD σ H ⟨F,ρ,ri,w⟩=>⟨F,ρ,ri,(aA.bind.mp w).imp λr _ w1 v H' F' e M3 rv=>w1 _ H' F' e (M3.setVal i LO rv)⟩
def eX (f:aa->R D) (fx:aa->R (D×aa)):aa->R (D×aa):=λρ=>f ρ>>=λd=>fx ρ>>=λr=> .ok (.lst [d,r.1],r.2)
theorem vy (h:PQ ly X a f) (hx:PX ly X b fx) (hs:Dm [a,b] X.env=(false,DC a X.env)::Dm [b] X.env:=by rfl) (Nt:Dm [b] X.env=(false,DC b X.env)::Dm [] X.env:=by rfl):PX ly X (.List [a,b] pos) (eX f fx):=λc=>
 PE.weak (nE (bt (h c) (bt (hx c) d0 Nt) hs)) λσ H Q ⟨F,ρ,ri,w⟩=>⟨F,ρ,ri,(aA.bind.mp w).imp λd _ w1 v H1 F1 e1 r1=>⟨F1,ρ,ri.step e1,(aA.bind.mp w1).imp λr _ w2 u H2 F2 e2 Nq r2=>by
  refine⟨by show 2<=sizeLine;exact DY (by decide) eg,λp hp=> ?_⟩
  have e3:=bi.lay (o:= .lst [v,u]) Nq.sub hp
  exact w2 _ _ _ ((e1.grow.trans e2).trans e3.grow) (Nq.step e3) (.lst aq (.cons ((r1.mono e2).mono e3.grow) (.cons (r2.mono e3.grow) .nil)))⟩⟩
def CJ (K:Dh) (c:cw ly) (gx:aa->R (Bool×aa)):TT:=λσ H Q=>∃F ρ,RI K c ρ σ H F/\aA c (gx ρ) λr=>∀H' F',aG F F'->RI K c r.2 σ H' F'->Q r.1 H'
def D8 (ly:List cY) (X:Cx) (e:Dr) (gx:aa->R (Bool×aa)):Prop:=∀c:fE ly X,PT X e (CJ X.K c.1 gx)
end
end L2.Pu
namespace L2.Pu
open PySem PySem.Spec PyProof.Rows
variable {ly:List cY}
def Slot.frozen:Slot->Slot
 | .own d=> .val d
 | .cel x Ka f hs=> .val (.ins x (Ka++[(f, .lst hs)]))
 |s=>s
theorem o4 (s:Slot):s.frozen.frozen=s.frozen:=by cases s<;>rfl
def lC (i:Nat) (ρ:aa):aa:=match ρ[i]? with
 |some (some s)=>ρ.set i (some s.frozen)
 |_=>ρ
def lD (L:List Nat) (ρ:aa):aa:=L.foldl (λr i=>lC i r) ρ
theorem s_ (i:Nat) (ρ:aa):(lC i ρ).length=ρ.length:=by
 unfold lC
 split
 ·simp
 ·rfl
theorem ng:∀(L:List Nat) (ρ:aa),(lD L ρ).length=ρ.length
 |[],ρ=>rfl
 |i::L,ρ=>(ng L (lC i ρ)).trans (s_ i ρ)
theorem nj {i j:Nat} {ρ:aa} {s:Slot} (h:(lC i ρ)[j]? =some (some s)):(i=j/\∃s0,ρ[j]? =some (some s0)/\s=s0.frozen)\/(i≠j/\ρ[j]? =some (some s)):=by
 unfold lC at h
 split at h
 ·rename_i s0 hs
  rcases am h with ⟨rfl,z,_⟩|⟨z,h⟩
  ·cases z;exact .inl ⟨rfl,s0,hs,rfl⟩
  ·exact .inr ⟨z,h⟩
 ·rename_i n
  refine .inr ⟨λe=> ?_,h⟩
  subst e
  exact n s h
theorem cj:∀{L:List Nat} {j:Nat} {ρ:aa} {s:Slot},(lD L ρ)[j]? =some (some s)->(j∈L/\∃s0,ρ[j]? =some (some s0)/\s=s0.frozen)\/(j∉L/\ρ[j]? =some (some s))
 |[],j,ρ,s,h=> .inr ⟨by simp,h⟩
 |i::L,j,ρ,s,h=>by
  rcases cj (L:=L) (ρ:=lC i ρ) h with ⟨h1,s0,h2,h3⟩|⟨h1,h2⟩
  ·refine .inl ⟨DF _ h1,?_⟩
   rcases nj h2 with ⟨rfl,s1,g1,g2⟩|⟨_,g1⟩
   ·exact⟨s1,g1,by rw[h3,g2,o4]⟩
   ·exact⟨s0,g1,h3⟩
  ·rcases nj h2 with ⟨rfl,s1,g1,g2⟩|⟨n,g1⟩
   ·exact .inl ⟨DI,s1,g1,g2⟩
   ·exact .inr ⟨λm=>(DN.mp m).elim (λq=>n q.symm) h1,g1⟩
open Classical in
noncomputable def ix (H F:Hp) (ρ:aa) (σ:St) (L:List Nat):Hp:=λz=>if ∃i∈L,eJ H ρ σ i z then H z else F z
section
variable {K:Dh} {c:cw ly} {ρ:aa} {σ:St} {H F H' F':Hp} {L:List Nat}
theorem jN {i:Nat} {z:Dk} (hi:i∈L) (h:eJ H ρ σ i z):ix H F ρ σ L z=H z:=if_pos ⟨i,hi,h⟩
theorem h_ {z:Dk} (h:¬∃i∈L,eJ H ρ σ i z):ix H F ρ σ L z=F z:=if_neg h
theorem RepF.snoc {vs:List (Dj×V)} {Ka:List (Dj×D)} {f:Dj} {v:V} {d:D} (h:RepF K F vs Ka) (r:df K F v d):RepF K F (vs++[(f,v)]) (Ka++[(f,d)]):=by
 induction Ka generalizing vs with
 |nil=>rw[h.nilI];exact .cons r .nil
 |cons p Ka ih=>
  obtain⟨k,x⟩:=p
  obtain⟨u,us,rfl,h1,h2⟩:=h.consI
  exact .cons h1 (ih h2)
theorem RI.lend (r:RI K c ρ σ H F) (L:List Nat):aG F (ix H F ρ σ L)/\RI K c (lD L ρ) σ H (ix H F ρ σ L):=by
 have grow:aG F (ix H F ρ σ L):=λz u e=>by
  by_cases o:∃i∈L,eJ H ρ σ i z
  ·obtain⟨i,hi,o⟩:=o
   rw[(r.owns o).2.1]at e
   cases e
  ·rw[h_ o];exact e
 have out:∀{j:Nat} {z:Dk},j∉L->eJ H ρ σ j z->ix H F ρ σ L z=none:=λ{j z} hj o=>by
  rw[h_ (λ⟨i,hi,o'⟩=>hj (by rw[r.owns_inj o o'];exact hi))]
  exact(r.owns o).2.1
 refine⟨grow,⟨⟨λz u e=> ?_,r.ext.keep,r.ext.grow.trans grow,λz e=> ?_⟩,λj d h=> ?_,λj d h=> ?_,λj d h=> ?_,r.bh,λj j' d d' a h h'=> ?_,?_,λM hM h=> ?_,λM hM M' O9 h h'=> ?_,r.fm.trans grow,⟨λj x Ka f hs h=> ?_,λj j' x Ka f hs s h h' KC=> ?_⟩,r.pin⟩⟩
 ·by_cases o:∃i∈L,eJ H ρ σ i z
  ·obtain⟨i,hi,o⟩:=o
   rw[jN hi o]at e;exact e
  ·rw[h_ o]at e;exact r.sub z u e
 ·by_cases o:∃i∈L,eJ H ρ σ i z
  ·obtain⟨i,hi,o⟩:=o
   exact .inr (r.owns o).1
  ·rw[h_ o]at e;exact r.ext.new z e
 ·rcases cj h with ⟨hj,s0,h1,h2⟩|⟨_,h1⟩
  ·cases s0 with
   |val d'=>cases h2;obtain⟨v,k1,k2⟩:=r.val j d h1;exact⟨v,k1,k2.mono grow⟩
   |own d'=>
    cases h2
    obtain⟨a,o,k1,k2,k3,k4,k5⟩:=r.own j d h1
    have fa:ix H F ρ σ L a=some o:=by rw[jN hj (.inl ⟨d,h1,k1⟩)];exact k2
    refine⟨.ref a,k1,?_⟩
    cases k5 with
    |lst q=>exact .lst fa (q.mono grow)
    |dic q n=>exact .dic fa (q.mono grow) n
   |cel x Ka f hs=>
    cases h2
    obtain⟨a,dx,b,k1,k2,k3⟩:=r.cel.ex j x Ka f hs h1
    have OZ:=k2
    obtain⟨C,fs,vs,us,g1,g2,g3,g4,g5,g6,g7,g8,g9,QX⟩:=k2.ex
    have ow:∀z,(z=a\/z=dx\/fs.lookup f=some (.ref z))->ix H F ρ σ L z=H z:=λz hz=>jN hj (.inr ⟨x,Ka,f,hs,a,C,dx,fs,h1,k1,g1,hz⟩)
    refine⟨.ref a,k1, .ins (by rw[ow a (.inl rfl)];exact g1) (by rw[ow dx (.inr (.inl rfl))];exact k2.own) g2 (vs:=vs++[(f, .ref b)]) (λp hp=> ?_) (λg v hg=> ?_) ((g6.mono grow).snoc (.lst (by rw[ow b (.inr (.inr g3))];exact g4) (g5.mono grow)))⟩
    ·rcases Es.mp hp with q|q
     ·exact g7 p q
     ·rw[DJ.mp q];exact g3
    ·rw[Et]
     rcases g8 g v hg with q|q
     ·rw[q];exact DR _ DI
     ·exact Ei _ q
   |bor d'=>cases h2
   |obj=>cases h2
  ·obtain⟨v,k1,k2⟩:=r.val j d h1;exact⟨v,k1,k2.mono grow⟩
 ·rcases cj h with ⟨hj,s0,h1,h2⟩|⟨hj,h1⟩
  ·cases s0<;>cases h2
  ·obtain⟨a,o,k1,k2,k3,k4,k5⟩:=r.own j d h1
   exact⟨a,o,k1,k2,out hj (.inl ⟨d,h1,k1⟩),k4,k5.mono grow⟩
 ·rcases cj h with ⟨hj,s0,h1,h2⟩|⟨hj,h1⟩
  ·cases s0 with
   |bor d'=>cases h2;exact r.bor j d h1
   |_=>cases h2
  ·exact r.bor j d h1
 ·have un:∀{j:Nat} {d:D},(lD L ρ)[j]? =some (some (.own d))->ρ[j]? =some (some (.own d)):=λh=>by
   rcases cj h with ⟨hj,s0,h1,h2⟩|⟨hj,h1⟩
   ·cases s0<;>cases h2
   ·exact h1
  exact r.dis j j' d d' a (un h) (un h')
 ·rw[ng];exact r.len
 ·have h1:ρ[M.x]? =some (some .obj):=by
   rcases cj h with ⟨hj,s0,h1,h2⟩|⟨hj,h1⟩
   ·cases s0 with
    |obj=>exact h1
    |_=>cases h2
   ·exact h1
  obtain⟨a,dx,fs,k0,k1,k2,k3,k4,k5,k6⟩:=r.obj M hM h1
  have no:∀{z:Dk} {u:HO},H z=some u->(∀d,¬fO K F u d)->F z=none->ix H F ρ σ L z=none:=λ{z u} hz nr hf=>by
   rw[h_]
   ·exact hf
   ·rintro⟨i,hi,o⟩
    rcases o with ⟨d,g1,g2⟩|⟨x,Ka,f,hs,a,C,dx,fs,g1,_⟩
    ·obtain⟨p,u',q1,q2,_,_,q5⟩:=r.own i d g1
     rw[g2]at q1
     cases q1
     rw[hz]at q2
     cases q2
     exact nr d q5
    ·have:=r.cel.one i M.x x Ka f hs _ g1 h1 rfl
     subst this
     rw[h1]at g1
     cases g1
  exact⟨a,dx,fs,k0,k1,k2,k3,no k2 (λd q=>by cases q) k4,no k3 (λd q=>by cases q) k5,k6⟩
 ·have un:∀{j:Nat},(lD L ρ)[j]? =some (some .obj)->ρ[j]? =some (some .obj):=λh=>by
   rcases cj h with ⟨hj,s0,h1,h2⟩|⟨hj,h1⟩
   ·cases s0 with
    |obj=>exact h1
    |_=>cases h2
   ·exact h1
  exact r.odis M hM M' O9 (un h) (un h')
 ·rcases cj h with ⟨hj,s0,h1,h2⟩|⟨hj,h1⟩
  ·cases s0<;>cases h2
  ·obtain⟨a,dx,b,k1,k2,k3⟩:=r.cel.ex j x Ka f hs h1
   have OZ:=k2
   obtain⟨C,fs,vs,us,g1,g2,g3,g4,g5,g6,g7⟩:=k2.ex
   have ow:∀z,(z=a\/z=dx\/fs.lookup f=some (.ref z))->ix H F ρ σ L z=none:=λz hz=>out hj (.inr ⟨x,Ka,f,hs,a,C,dx,fs,h1,k1,g1,hz⟩)
   refine⟨a,dx,b,k1,⟨⟨C,fs,vs,us,g1,g2,g3,g4,g5.mono grow,g6.mono grow,g7⟩,k2.own,ow a (.inl rfl),ow dx (.inr (.inl rfl)),ow b (.inr (.inr g3)),k2.za,k2.zd,k2.zb⟩,λj' d h'=> ?_⟩
   rcases cj h' with ⟨MV,s0,Md,Lo⟩|⟨MV,Md⟩
   ·cases s0<;>cases Lo
   ·exact k3 j' d Md
 ·have un:∀{j:Nat} {s:Slot},(lD L ρ)[j]? =some (some s)->s.single=true->ρ[j]? =some (some s):=λh hs=>by
   rcases cj h with ⟨hj,s0,h1,h2⟩|⟨hj,h1⟩
   ·cases s0 with
    |obj=>rw[h2];exact h1
    |_=>rw[h2]at hs;cases hs
   ·exact h1
  exact r.cel.one j j' x Ka f hs s (un h rfl) (un h' KC) KC
end
section
variable {X:Cx} {e:Dr} {es:List Dr} {f:aa->R D} {g:aa->R Bool} {pos:DZ}
def o5 (L:List Nat) (g:aa->R Bool):aa->R Bool:=λρ=>g (lD L ρ)
theorem rG (L:List Nat) (h:oG ly X e g):oG ly X e (o5 L g):=λc=>PT.weak (h c) λσ H Q ⟨F,ρ,ri,w⟩=>by
 obtain⟨s,M3⟩:=ri.lend L
 exact⟨_,_,M3,aA.imp w λb _ w1 H1 F1 e1=>w1 H1 F (vm ri.sub e1.keep)⟩
end
end L2.Pu
namespace L2.Pu
open PySem PySem.Spec PyProof.Rows
variable {ly:List cY}
theorem RI.fldO {K:Dh} {c:cw ly} {ρ:aa} {σ:St} {H F:Hp} (r:RI K c ρ σ H F) {f:Dj} {L:cY} (hL:L∈ly) (hρ:ρ[L.x]? =some (some .obj)) {a dx p:Dk} {fs:List (Dj×V)} {i:Nat} {o:HO} {d:D} (hx:σ[L.x]? =some (some (.ref a))) (ha:H a=some (.ins L.C dx fs)) (hf:(f,i)∈L.fl)
  (hn:∀p∈L.fl,p.1=f<->p.2=i) (O8:L.x≠i) (MK:∀M∈ly,M≠L->M.x≠i/\∀p∈M.fl,p.2≠i) (Nj:i<σ.length) (hp:H p=some o) (fp:F p=none) (zp:c.H0 p=none) (ro:fO K F o d) (ne:∀(j:Nat) d',ρ[j]? =some (some (.own d'))->σ[j]? ≠some (some (.ref p))):
  RI K c (ρ.set i (some (.own d))) (σ.set i (some (.ref p))) (bc H a (.ins L.C dx (ef f (.ref p) fs))) F:=by
 obtain⟨b,Om,MG,k0,k1,k2,k3,k4,k5,k6,k7,k8,k9,Oo⟩:=r.obj L hL hρ
 rw[hx]at k1
 cases k1
 rw[ha]at k2
 cases k2
 have S4:p≠a:=λz=>by subst z;rw[ha]at hp;cases hp;cases ro
 refine⟨⟨λx y e=> ?_,λx y e=> ?_,r.ext.grow,r.ext.new⟩,λj e q=> ?_,λj e q=> ?_,λj e q=> ?_,r.bh,λj k e e' x q1 q2 q3 q4=> ?_,by simp[r.len],λM hM hq=> ?_,λM hM M' O9 OS OT x q1 q2=> ?_,r.fm, .no λj x Ka g hs w=> ?_,λM hM a h=> ?_⟩
 ·rw[al (λz=>by rw[z,k4]at e;cases e)];exact r.sub x y e
 ·rw[al (λz=>by rw[z,k6]at e;cases e)];exact r.ext.keep x y e
 ·rcases am q with ⟨rfl,z,l⟩|⟨z,q⟩
  ·cases z
  ·rw[ac z];exact r.val j e q
 ·rcases am q with ⟨rfl,z,l⟩|⟨z,q⟩
  ·cases z;exact⟨p,o,dB Nj,by rw[al S4];exact hp,fp,zp,ro⟩
  ·obtain⟨x,o,g1,g2,g3,g4,g5⟩:=r.own j e q
   have nx:x≠a:=λz=>by subst z;rw[ha]at g2;cases g2;cases g5
   exact⟨x,o,by rw[ac z];exact g1,by rw[al nx];exact g2,g3,g4,g5⟩
 ·rcases am q with ⟨rfl,z,l⟩|⟨z,q⟩
  ·cases z
  ·rw[ac z];exact r.bor j e q
 ·rcases am q1 with ⟨rfl,z,l⟩|⟨z,q1⟩
  ·rw[dB Nj]at q3
   cases q3
   rcases am q2 with ⟨rfl,z',l⟩|⟨z',q2⟩
   ·rfl
   ·rw[ac z']at q4;exact absurd q4 (ne k e' q2)
  ·rw[ac z]at q3
   rcases am q2 with ⟨rfl,z',l⟩|⟨z',q2⟩
   ·rw[dB Nj]at q4
    cases q4
    exact absurd q3 (ne j e q1)
   ·rw[ac z']at q4
    exact r.dis j k e e' x q1 q2 q3 q4
 ·by_cases Mb:M=L
  ·subst Mb
   refine⟨a,dx,ef f (.ref p) fs,k0,by rw[ac O8.symm];exact hx,aq,?_,k4,k5,k6,k7,λp hp=> ?_,λg u hu=> ?_,n_ _ _ Oo⟩
   ·rw[al (λz=>by rw[z,ha]at k3;cases k3)];exact k3
   ·rw[bM]
    by_cases e:p.1=f
    ·rw[if_pos e,(hn p hp).mp e,dB Nj];rfl
    ·rw[if_neg e,ac (λz=>e ((hn p hp).mpr z.symm))];exact k8 p hp
   ·rw[bM]at hu
    by_cases e:g=f
    ·subst e;exact ET.mpr ⟨_,hf,rfl⟩
    ·rw[if_neg e]at hu;exact k9 g u hu
  ·have ho:=MK M hM Mb
   rw[ac ho.1.symm]at hq
   obtain⟨b,dy,gs,g0,g1,g2,g3,g4,g5,g6,g7,g8,g9⟩:=r.obj M hM hq
   have nb:b≠a:=λz=>Mb (r.odis M hM L hL hq hρ a (by rw[<-z];exact g1) hx)
   have nd:dy≠a:=λz=>by subst z;rw[ha]at g3;cases g3
   refine⟨b,dy,gs,g0,by rw[ac ho.1.symm];exact g1,by rw[al nb];exact g2,by rw[al nd];exact g3,g4,g5,g6,g7,λp hp=> ?_,g9⟩
   rw[ac (ho.2 p hp).symm];exact g8 p hp
 ·have Nx:∀M∈ly,M.x≠i:=λM hM=>by
   by_cases Mb:M=L
   ·subst Mb;exact O8
   ·exact(MK M hM Mb).1
  rw[ac (Nx M hM).symm]at q1 OS
  rw[ac (Nx M' O9).symm]at q2 OT
  exact r.odis M hM M' O9 OS OT x q1 q2
 ·rcases am w with ⟨rfl,z,l⟩|⟨z,w⟩
  ·cases z
  ·have:=r.cel.one j L.x x Ka g hs .obj w hρ rfl
   subst this
   rw[hρ]at w
   cases w
 ·have Nx:M.x≠i:=by
   by_cases Mb:M=L
   ·subst Mb;exact O8
   ·exact(MK M hM Mb).1
  rw[ac Nx.symm];exact r.pin M hM a h
section
variable {X:Cx} {pos Kw px pl:DZ} {f y g:Dj}
def vz (x i:Nat):aa->R aU:=λρ=>match ρ[x]? with
 |some (some .obj)=> .ok (.nx (ρ.set i (some (.own (.lst [])))))
 |_=> .bad
theorem zR {L:cY} (i:Nat) (hC:oN X.K L.C) (n:cC X.K L.C f) (A:v7 ly L f i) (hN:X.N[L.x]? =some y:=by rfl) (Qi:kD X.env.scope y:=by first|exact E7 rfl|exact DV (E7 rfl)|exact DV (DV rfl)) (hd:(y==("__debug__":Dj))=false:=by decide)
  (Lc:(y==("__classdict__":Dj))=false:=by decide) (hi:X.N[i]? =some g:=by rfl) (hvis:¬kD X.env.scope g:=by decide+kernel) (hs:Eg (.List [] pl) (some (.Attribute (.Name y px) f Kw)) pos.line X.env=pure false:=by rfl):
  jD ly X (.Assign [.Attribute (.Name y px) f Kw] (.List [] pl) pos) (vz L.x i):=by
 intro c K4 s σ H D I q
 obtain⟨F,ρ,ri,w⟩:=q
 have Nj:i<σ.length:=by rw[I.len];exact(Dx.mp hi).1
 unfold vz at w
 split at w
 ·rename_i hρ
  refine rE i hi hvis (pv L.x hN Qi hd Lc) (nE d0) hs K4 s σ H D I ⟨FD _,λp hp=> ?_⟩
  have MF:=ri.step (bi.layOwn ri.sub (o:= .lst []) hp)
  obtain⟨a,dx,fs,h0,h1,h2,h3,h4,h5,h6,h7,h8,h9,Oq⟩:=MF.obj L A.mem hρ
  have Ki:fs.length<1000:=by
   have:(fs.map (·.1)).length<=(L.fl.map (·.1)).length:=ci Oq λq hq=>by
    obtain⟨u,hu⟩:=gl hq
    exact h9 q u hu
   rw[Dp,Dp]at this
   exact Hd this A.few
  refine⟨_,h1,a,L.C,dx,fs,rfl,h2,hC,n,Ki,?_⟩
  refine w _ _ F (aG.refl _) (MF.fldO A.mem hρ h1 h2 A.fl A.un A.x A.oth Nj aq (ri.sub.free hp) (ri.ext.keep.free hp) (.lst .nil) λj d' hj e=> ?_)
  obtain⟨b,o',q1,q2,_⟩:=ri.own j d' hj
  rw[e]at q1
  cases q1
  rw[hp]at q2
  cases q2
 ·exact w.elim
end
def md (fl:List (Dj×Nat)) (fo:Dj) (io:Nat) (ρ:aa):R (List (Dj×D)×Dj×List D):=match ρ[0]? with
 |some (some Slot.obj)=>(match ρ[io]? with
  |some (some (.own (.lst hs)))=>(match cH fl ρ with
   |some fds=> .ok (fds,fo,hs)
   |none=> .bad)
  |_=> .bad)
 |_=> .bad
def i0 (k n:Nat) (fl:List (Dj×Nat)) (fo:Dj) (io:Nat) (g:aa->R aU) (ds:List D):R (List (Dj×D)×Dj×List D):=if ds.length=k then g (gm n ds)>>=λo=>match o with
 | .nx ρ=>md fl fo io ρ
 |_=> .bad else .bad
def rH (K:Dh) (C:Dk) (cls:Dj) (k:Nat) (mi:List D->R (List (Dj×D)×Dj×List D)):Sp:=λvs H Q E=>∃F x dx us ds Hz,vs= .ref x::us/\us.length=k/\aG F Hz/\Hz x=none/\Hz dx=none/\dx≠x/\H=bc (bc Hz dx (.own x)) x (.ins C dx [])/\Reps K F us ds/\match mi ds with
 | .ok r=>∀H' F' Om b,bi Hz F H' F'->gX K Hz H' F' x Om b cls r.1 r.2.1 r.2.2->Q .non H'
 | .err z _=>∀ec a H' F',d3 K z ec->bi Hz F H' F'->E ec a H'
 | .bad=>False
theorem xv {K:Dh} {C:Dk} {cls fo:Dj} {io:Nat} {fl:List (Dj×Nat)} {c:cw [⟨0,C,fl++[(fo,io)]⟩]} {ρ:aa} {σ:St} {H F:Hp} {fds:List (Dj×D)} {hs:List D} {x:Dk} (ri:RI K c ρ σ H F) (hρ:ρ[0]? =some (some .obj)) (Qj:c.oa 0=some x) (MI:DB K Dt cls=some (some (.ref C)))
  (ho:ρ[io]? =some (some (.own (.lst hs)))) (h:cH fl ρ=some fds) (P4:fo∉fl.map (·.1)):∃dx b,gX K c.H0 H F x dx b cls fds fo hs:=by
 obtain⟨a,dx,fs,h0,h1,h2,h3,h4,h5,h6,h7,h8,h9,Oq⟩:=ri.obj _ (DJ.mpr rfl) hρ
 cases h0 x Qj
 obtain⟨vs,g1,g2,g3⟩:=iN ri h λp hp=>h8 p (Ei _ hp)
 obtain⟨b,o,k1,k2,k3,k4,k5⟩:=ri.own io _ ho
 cases k5 with
 |lst q=>
  have lf:fs.lookup fo=some (.ref b):=by
   have:=h8 (fo,io) (DR _ DI)
   rw[this]
   show (σ[io]?).join=_
   rw[k1];rfl
  refine⟨dx,b,⟨⟨C,fs,vs,_,h2,MI,lf,k2,q,g1,g3,λg v hg=> ?_,Oq,by rw[g2];exact P4⟩,h3,h4,h5,k3,h6,h7,k4⟩⟩
  have:=h9 g v hg
  rw[Et]at this
  rcases Es.mp this with z|z
  ·exact .inr (by rw[g2];exact z)
  ·exact .inl (DJ.mp z)
theorem vA {P:Dy} {w:DG} {K:Dh} {mg:Dj->Option Di} {base:DE} {x qual cls fo:Dj} {st:DU} {f C:Dk} {fd:Ep} {N ps:List Dj} {k n m io:Nat} {fl:List (Dj×Nat)} {g:aa->R aU} (F:re K x qual st f fd) (S:aF N ps (ah st))
  (MI:DB K Dt cls=some (some (.ref C))) (hn:ps.length=n+1) (hm:N.length=m+1) (hg:∀p∈fl++[(fo,io)],n<p.2) (Nr:n<=m) (P4:fo∉fl.map (·.1))
  (Ko:∀(Kf:Di) (A:DO) (outer:List EO) (s:Dl) (H:Hp) (E:XK),bN k (A.deeper (ES qual (ah st) s.heap.objs.size f Kf))->
   gi [⟨0,C,fl++[(fo,io)]⟩] (fg (gW P w) P w K mg base N qual (ah st) f Kf A outer s H E) (aN st) g):d2 P w K mg base (gW P w) (k+1) f fd ps (rH K C cls n (i0 n m fl fo io g)):=by
 refine Bz F S (λvs H Q E h=> ?_) (λKf A outer s H vs Q E hr h=> ?_)
 ·obtain⟨Fz,y,dy,us,ds,Hz,rfl,hl,_⟩:=h
  rw[DA,hl,hn]
 ·obtain⟨Fz,y,dy,us,ds,Hz,rfl,hl,sub,hy,OW,Mn,rfl,r,w⟩:=h
  refine⟨_,Ko Kf A outer s _ E hr ⟨⟨Hz,Fz,λ_=>none,λz _=>∀ec a H' F',d3 K z ec->bi Hz Fz H' F'->E ec a H',λ_=>some y,λ_=>none⟩,nO λz ρ er ec a H' F' σ hc ri=>er ec a H' F' hc ri.ext⟩,?_⟩
  refine⟨Fz,gm m ds,n0 hm sub hy OW Mn r (by omega) (λp hp=>by rw[hl];exact hg p hp),?_⟩
  have hd:ds.length=n:=by rw[<-r.length];exact hl
  unfold i0 at w
  rw[if_pos hd]at w
  cases e:g (gm m ds)with
  |bad=>rw[e]at w;exact w.elim
  |err c ρ=>rw[e]at w;exact w
  |ok o=>
   rw[e]at w
   cases o with
   |nx ρ=>
    intro σ' H' F' _ M3
    rw[ai]at w
    cases hρ:ρ[0]? with
    |none=>simp only[md,hρ]at w
    |some s0=>
     cases s0 with
     |none=>simp only[md,hρ]at w
     |some s0=>
      cases s0 with
      |obj=>
       cases ho:ρ[io]? with
       |none=>simp only[md,hρ,ho]at w
       |some s1=>
        cases s1 with
        |none=>simp only[md,hρ,ho]at w
        |some s1=>
         cases s1 with
         |own d=>
          cases d with
          |lst hs=>
           cases e2:cH fl ρ with
           |none=>simp only[md,hρ,ho,e2]at w
           |some RS=>
            simp only[md,hρ,ho,e2]at w
            obtain⟨dx,b,A⟩:=xv M3 hρ rfl MI ho e2 P4
            exact w H' F' dx b M3.ext A
          |_=>simp only[md,hρ,ho]at w
         |_=>simp only[md,hρ,ho]at w
      |_=>simp only[md,hρ]at w
   |_=>exact w.elim
structure pB (P:Dy) (w:DG) (K:Dh) (mg:Dj->Option Di) (base:DE) (k:Nat) (cls:Dj) (n:Nat) (mi:List D->R (List (Dj×D)×Dj×List D)):Prop where
 ex:∃C f fd ps,d2 P w K mg base (gW P w) k f fd ps (rH K C cls n mi)/\mg cls=some (.ref C)/\Mk K C f/\dv K fd ps []
theorem vB {P:Dy} {w:DG} {K:Dh} {mg:Dj->Option Di} {base:DE} {cls qual fo:Dj} {st:DU} {N ps fs:List Dj} {k n m io:Nat} {fl:List (Dj×Nat)} {g:aa->R aU} (A:lz K mg cls qual st ps fs) (S:aF N ps (ah st)) (hn:ps.length=n+1) (hm:N.length=m+1) (hg:∀p∈fl++[(fo,io)],n<p.2) (Nr:n<=m) (P4:fo∉fl.map (·.1))
  (Ko:∀(C f:Dk) (Kf:Di) (A:DO) (outer:List EO) (s:Dl) (H:Hp) (E:XK),oN K C->(∀x∈fs,cC K C x)->bN k (A.deeper (ES qual (ah st) s.heap.objs.size f Kf))->
   gi [⟨0,C,fl++[(fo,io)]⟩] (fg (gW P w) P w K mg base N qual (ah st) f Kf A outer s H E) (aN st) g):pB P w K mg base (k+1) cls n (i0 n m fl fo io g):=by
 obtain⟨C,f,fd,F,h1,h2,h3,h4,h5⟩:=A.ex
 exact⟨C,f,fd,ps,vA F S h1.ns hn hm hg Nr P4 λKf A outer s H E hr=>Ko C f Kf A outer s H E h1.cl h5 hr,h2,h3,h4⟩
def BG (i:Nat) (ρ:aa):Bool:=(Ef ρ.length).all λj=>j==i||(match ρ[j]? with
 |some (some s)=> !s.single
 |_=>true)
theorem o6 {i j:Nat} {ρ:aa} {s:Slot} (h:BG i ρ=true) (hs:ρ[j]? =some (some s)) (hj:j≠i):s.single=false:=by
 have:=FT.mp h j (Fj.mpr (Dx.mp hs).1)
 rw[hs]at this
 simpa[hj]using this
theorem RI.setCel {K:Dh} {c:cw ly} {ρ:aa} {σ:St} {H F:Hp} (r:RI K c ρ σ H F) (i:Nat) {a dx b:Dk} {x:Dj} {Ka:List (Dj×D)} {f:Dj} {hs:List D} (hf:gY ly i) (hn:BG i ρ=true) (A:gX K c.H0 H F a dx b x Ka f hs) (ne:∀(j:Nat) d',ρ[j]? =some (some (.own d'))->σ[j]? ≠some (some (.ref b))):
  RI K c (ρ.set i (some (.cel x Ka f hs))) (σ.set i (some (.ref a))) H F where
 obj:=λL hL hρ=>by
  rw[ac (hf L hL).1.symm]at hρ
  have:=o6 hn hρ (hf L hL).1
  cases this
 odis:=λL hL L' M9 q1 q2 b k1 k2=>by
  rw[ac (hf L hL).1.symm]at k1 q1
  rw[ac (hf L' M9).1.symm]at k2 q2
  exact r.odis L hL L' M9 q1 q2 b k1 k2
 fm:=r.fm
 ext:=r.ext
 val:=λj e q=>by
  rcases am q with ⟨rfl,z,l⟩|⟨z,q⟩
  ·cases z
  ·rw[ac z];exact r.val j e q
 own:=λj e q=>by
  rcases am q with ⟨rfl,z,l⟩|⟨z,q⟩
  ·cases z
  ·rw[ac z];exact r.own j e q
 bor:=λj e q=>by
  rcases am q with ⟨rfl,z,l⟩|⟨z,q⟩
  ·cases z
  ·rw[ac z];exact r.bor j e q
 bh:=r.bh
 dis:=λj k e e' a q1 q2 q3 q4=>by
  rcases am q1 with ⟨rfl,z,l⟩|⟨z,q1⟩
  ·cases z
  ·rcases am q2 with ⟨rfl,z',l⟩|⟨z',q2⟩
   ·cases z'
   ·rw[ac z]at q3;rw[ac z']at q4
    exact r.dis j k e e' a q1 q2 q3 q4
 len:=by simp[r.len]
 pin:=λL hL b h=>by rw[ac (hf L hL).1.symm];exact r.pin L hL b h
 cel:=by
  refine⟨λj y vd g hh q=> ?_,λj k y vd g hh s q1 q2 KC=> ?_⟩
  ·rcases am q with ⟨rfl,z,l⟩|⟨z,q⟩
   ·cases z
    refine⟨a,dx,b,dB (by rw[<-r.len];exact l),A,λk d hk=> ?_⟩
    rcases am hk with ⟨rfl,z',l'⟩|⟨z',hk⟩
    ·cases z'
    ·rw[ac z'];exact ne k d hk
   ·have:=o6 hn q (E_ z)
    cases this
  ·rcases am q1 with ⟨rfl,z,l⟩|⟨z,q1⟩
   ·rcases am q2 with ⟨rfl,z',l'⟩|⟨z',q2⟩
    ·rfl
    ·have:=o6 hn q2 (E_ z')
     rw[KC]at this
     cases this
   ·have:=o6 hn q1 (E_ z)
    cases this
section
variable {X:Cx} {e:Dr} {es:List Dr} {fs:aa->R (List D)} {cls:Dj} {p pos LR Kw:DZ}
def o7 (i:Nat) (cls:Dj) (n:Nat) (mi:List D->R (List (Dj×D)×Dj×List D)) (fs:aa->R (List D)):aa->R aU:=λρ=>if BG i ρ=true then (fs ρ>>=λds=>if ds.length=n then (match mi ds with
 | .ok r=> .ok (.nx (ρ.set i (some (.cel cls r.1 r.2.1 r.2.2))))
 | .err x _=> .err x ρ
 | .bad=> .bad)else .bad)else .bad
theorem xw (i:Nat) {x:Dj} {k n:Nat} {mi:List D->R (List (Dj×D)×Dj×List D)} (S5:X.N.Nodup) (G:pB X.prog X.w X.K X.mg X.base k cls n mi) (hr:bN (k+1) X.A) (ha:pS ly X (e::es) fs) (hi:X.N[i]? =some x:=by rfl) (hx:tM X.env.scope x:=by first|exact E7 rfl|exact DV rfl)
  (hs:Eg (.Call (.Name cls p) (e::es) [] pos) (some (.Name x Kw)) LR.line X.env=pure false:=by rfl) (hf:X.fn x=true\/X.env.scope.names.lookup x=some .local:=by first|exact .inl rfl|exact .inr rfl|assumption)
  (hg:Gl X cls:=by rfl) (La:(cls==("__debug__":Dj))=false:=by decide) (he:Dm (e::es) X.env=(false,DC e X.env)::Dm es X.env:=by rfl) (L3:(DQ pos (Dm es X.env)).any (·.1)=false:=by rfl)
  (LO:gY ly i:=by(repeat (first|assumption|exact L2.Pu.dA|refine L2.Pu.cN ⟨by first|decide|simp,by first|decide|simp⟩ ?_))):jD ly X (.Assign [.Name x Kw] (.Call (.Name cls p) (e::es) [] pos) LR) (o7 i cls n mi fs):=by
 obtain⟨C,f,fd,ps,h1,h2,h3,h4⟩:=G.ex
 refine λc=>PS.weak (jx S5 hi hx (q_ h3 h1 hr hg h2 h4 .nil (la c) (ha c) La he L3) hs hf) λD σ H q=> ?_
 obtain⟨F,ρ,ri,w⟩:=q
 unfold o7 at w
 split at w
 ·rename_i hn
  refine⟨F,ρ,ri,(aA.bind.mp w).imp λds _ w1 vs H1 F1 e1 r1 y dy hy OW Mn=> ?_⟩
  rw[EG]
  split at w1
  ·rename_i hl
   have MF:=ri.step e1
   refine⟨F1,y,dy,vs,ds,H1,rfl,by rw[r1.length];exact hl,e1.sub,hy,OW,Mn,rfl,r1,?_⟩
   split at w1
   ·rename_i r hm
    intro H' F' Om b e' A
    refine⟨rfl,?_⟩
    have kf:∀{z:Dk},H1 z=none->c.1.H0 z=none:=λh=>MF.ext.keep.free h
    refine w1 _ H' F' (e1.grow.trans e'.grow) ((MF.step e').setCel i LO hn ⟨A.ex,A.own,A.fa,A.fd,A.fb,kf A.za,kf A.zd,kf A.zb⟩ λj d' hj ej=> ?_)
    obtain⟨q,o,q1,q2,_⟩:=MF.own j d' hj
    rw[ej]at q1
    cases q1
    have:=A.zb
    rw[q2]at this
    cases this
   ·exact λec a H' F' hc e'=>⟨_,ρ,F',hc,MF.step e',w1⟩
   ·exact w1.elim
  ·exact w1.elim
 ·exact w.elim
end
end L2.Pu
namespace L2.Pu
open PySem PySem.Spec PyProof.Rows
variable {ly:List cY}
section
variable {K:Dh} {F:Hp}
def eY:List D->Option (List Bool)
 |[]=>some []
 | .bl b::r=>(eY r).map (b::·)
 |_=>none
theorem jO:∀{ds:List D} {bs:List Bool} {vs:List V},eY ds=some bs->Reps K F vs ds->vs=bs.map V.bl:=by
 intro ds
 induction ds with
 |nil=>intro bs vs h r;cases h;rw[r.nilI];rfl
 |cons d r ih=>
  intro bs vs h g
  obtain⟨v,us,rfl,r1,t⟩:=g.consI
  cases d with
  |bl b=>
   cases r1
   replace h:(eY r).map (b::·)=some bs:=h
   cases e:eY r with
   |none=>rw[e]at h;cases h
   |some ms=>rw[e]at h;cases h;rw[ih e t];rfl
  |_=>cases h
theorem t0 (bs:List Bool):eY (bs.map .bl)=some bs:=by
 induction bs with
 |nil=>rfl
 |cons n r ih=>show (eY (r.map D.bl)).map (n::·)=_;rw[ih];rfl
def qE:List D->Option D
 |[.lst ds]=>(eY ds).map λbs=> .bl (bs.any id)
 |_=>none
theorem kL:qp K (λxs H Q=>∃(p:Dk) (bs:List Bool),xs=[.ref p]/\cp K H p (bs.map V.bl)/\Q (.bl (bs.any id)) H) qE:=by
 intro vs ds d H F Q s rv h k
 match ds,h with
 |[.lst xs],h=>
  obtain⟨v,rfl,r⟩:=rv.one
  obtain⟨a,ws,rfl,h1,h2⟩:=r.lst s
  replace h:(eY xs).map (λbs=>D.bl (bs.any id))=some d:=h
  cases e:eY xs with
  |none=>rw[e]at h;cases h
  |some bs=>
   rw[e]at h
   cases h
   rw[jO e h2]at h1
   exact⟨a,bs,rfl,cp.of h1,k _ H F (bi.refl s) (.bl _)⟩
theorem ji:E4 "any"=some (.builtin "any"):=by decide+kernel
end
section
variable {X:Cx} {a o e:Dr} {fa fo fk:aa->R D} {Kh Kb pos Lw p1 p2:DZ}
def kM (f:aa->R D):aa->R D:=λρ=>f ρ>>=λd=>match d with
 | .lst ds=>(match cq ds with|some ns=>if ns.length<4000 then .ok (.int (dz ns))else .bad|none=> .bad)
 | .tup ds=>(match cq ds with|some ns=>if ns.length<4000 then .ok (.int (dz ns))else .bad|none=> .bad)
 |_=> .bad
theorem vC (hc:X.calm=true) (Q6:X.mg "len"=none) (NZ:X.mg "set"=none) (ha:PB ly X a fa) (Q7:Gl X "len":=by rfl) (Q8:Gl X "set":=by rfl)
  (Pd:Dm [a] X.env=(false,DC a X.env)::Dm [] X.env:=by rfl) (N_:(DQ Lw (Dm [] X.env)).any (·.1)=false:=by rfl)
  (Na:Dm [.Call (.Name "set" p2) [a] [] Lw] X.env=(false,DC (.Call (.Name "set" p2) [a] [] Lw) X.env)::Dm [] X.env:=by rfl) (O0:(DQ pos (Dm [] X.env)).any (·.1)=false:=by rfl):
  PQ ly X (.Call (.Name "len" p1) [.Call (.Name "set" p2) [a] [] Lw] [] pos) (kM fa):=λc=>
 PE.weak (sH hc (ha c) Q6 NZ Q7 Q8 Pd N_ Na O0) λσ H Q ⟨F,ρ,ri,w⟩=>⟨F,ρ,ri,(aA.bind.mp w).imp λd _ w1 v H1 F1 e1 r1=>by
  cases d with
  |lst ds=>
   obtain⟨p,vs,rfl,h1,h2⟩:=r1.lst e1.sub
   cases q:cq ds with
   |none=>simp only[q]at w1;exact w1.elim
   |some ns=>
    simp only[q]at w1
    split at w1
    ·rename_i hl
     rw[eS q h2]at h1
     exact⟨p,ns,rfl, .inl (cp.of h1),hl,w1 _ H1 F1 e1 (.int _)⟩
    ·exact w1.elim
  |tup ds=>
   obtain⟨p,vs,rfl,h1,h2⟩:=r1.tup e1.sub
   cases q:cq ds with
   |none=>simp only[q]at w1;exact w1.elim
   |some ns=>
    simp only[q]at w1
    split at w1
    ·rename_i hl
     rw[eS q h2]at h1
     exact⟨p,ns,rfl, .inr (fc.of h1),hl,w1 _ H1 F1 e1 (.int _)⟩
    ·exact w1.elim
  |_=>exact w1.elim⟩
def yn (fo fk:aa->R D):aa->R D:=λρ=>fo ρ>>=λd=>match d with
 | .lst ds=>fk ρ>>=λk=>(match eY ds,k with
  |some bs, .bl b=> .ok (.int (bs.count b))
  |_,_=> .bad)
 |_=> .bad
def yo (fo fk:aa->R D):aa->R D:=λρ=>fo ρ>>=λd=>match d with
 | .lst ds=>fk ρ>>=λk=>(match eY ds,k with
  |some bs, .bl b=>if b∈bs/\bs.length<1000 then .ok (.int (bs.idxOf b))else .bad
  |_,_=> .bad)
 |_=> .bad
theorem zS (ho:PB ly X o fo) (hk:PQ ly X a fk) (KJ:E9 o "count" X.env (DC o X.env)=DC o X.env:=by rfl)
  (Li:((DQ Kb (Dm [a] X.env)).all (λx=> !x.1)&&(EK Kb (Em [] X.env)).all (λx=>x.1.isSome)
   &&decide (([a]:List Dr).length+([]:List EH).length+(if ([]:List EH).isEmpty then 0 else 1)<30))=true:=by rfl)
  (KL:(Kh.endLine==Kb.line)=true:=by rfl) (hs:Dm [a] X.env=(false,DC a X.env)::Dm [] X.env:=by rfl) (Kr:(DQ Kb (Dm [] X.env)).any (·.1)=false:=by rfl):
  PQ ly X (.Call (.Attribute o "count" Kh) [a] [] Kb) (yn fo fk):=λc=>
 PE.weak (mG Ew Fw HV sC (ho c) (bt (hk c) d0 hs) KJ Li KL hs Kr) λσ H Q ⟨F,ρ,ri,w⟩=>⟨F,ρ,ri,(aA.bind.mp w).imp λd _ w1 v H1 F1 e1 r1=>by
  cases d with
  |lst ds=>
   obtain⟨p,vs,rfl,h1,h2⟩:=r1.lst e1.sub
   refine⟨.inl ⟨rfl,vs,cp.of h1⟩,F1,ρ,ri.step e1,(aA.bind.mp w1).imp λk _ w2 u H2 F2 e2 r2=> ?_⟩
   cases q:eY ds with
   |none=>simp only[q]at w2;exact w2.elim
   |some bs=>
    cases k with
    |bl b=>
     cases r2
     simp only[q]at w2
     rw[jO q h2]at h1
     exact⟨p,b,bs,rfl,rfl,cp.of (e2.keep _ _ h1),w2 _ H2 F2 (e1.trans e2) (.int _)⟩
    |_=>simp only[q]at w2;exact w2.elim
  |_=>exact w1.elim⟩
theorem zT (ho:PB ly X o fo) (hk:PQ ly X a fk) (KJ:E9 o "index" X.env (DC o X.env)=DC o X.env:=by rfl)
  (Li:((DQ Kb (Dm [a] X.env)).all (λx=> !x.1)&&(EK Kb (Em [] X.env)).all (λx=>x.1.isSome)
   &&decide (([a]:List Dr).length+([]:List EH).length+(if ([]:List EH).isEmpty then 0 else 1)<30))=true:=by rfl)
  (KL:(Kh.endLine==Kb.line)=true:=by rfl) (hs:Dm [a] X.env=(false,DC a X.env)::Dm [] X.env:=by rfl) (Kr:(DQ Kb (Dm [] X.env)).any (·.1)=false:=by rfl):
  PQ ly X (.Call (.Attribute o "index" Kh) [a] [] Kb) (yo fo fk):=λc=>
 PE.weak (mG Ew HU PySem.F.type_list_index sD (ho c) (bt (hk c) d0 hs) KJ Li KL hs Kr) λσ H Q ⟨F,ρ,ri,w⟩=>⟨F,ρ,ri,(aA.bind.mp w).imp λd _ w1 v H1 F1 e1 r1=>by
  cases d with
  |lst ds=>
   obtain⟨p,vs,rfl,h1,h2⟩:=r1.lst e1.sub
   refine⟨.inl ⟨rfl,vs,cp.of h1⟩,F1,ρ,ri.step e1,(aA.bind.mp w1).imp λk _ w2 u H2 F2 e2 r2=> ?_⟩
   cases q:eY ds with
   |none=>simp only[q]at w2;exact w2.elim
   |some bs=>
    cases k with
    |bl b=>
     cases r2
     simp only[q]at w2
     split at w2
     ·rename_i hb
      rw[jO q h2]at h1
      exact⟨p,b,bs,rfl,rfl,cp.of (e2.keep _ _ h1),hb.1,hb.2,w2 _ H2 F2 (e1.trans e2) (.int _)⟩
     ·exact w2.elim
    |_=>simp only[q]at w2;exact w2.elim
  |_=>exact w1.elim⟩
end
end L2.Pu
namespace L2
open PySem PySem.Spec PyProof.Rows
section
variable {X:Cx}
def t6 (k:Int):Di->Bool
 | .int b _=>b==k
 |_=>false
theorem o8 {k:Int}:∀{ns:List Int} {its:List Di},aI (ns.map V.int) its->its.countP (t6 k)=ns.count k
 |[],its,r=>by cases r;rfl
 |b::bs,its,r=>by
  cases r with
  |cons h t=>obtain⟨u,rfl⟩:=h;rw[Jr,JE,o8 t];rfl
def rJ (K:Dh):V->List V->Hp->VK->Prop:=λx vs H Q=>∃(l:Dk) (k:Int) (ns:List Int),x= .ref l/\vs=[.int k]/\cp K H l (ns.map V.int)/\Q (.int (ns.count k)) H
theorem t8:yW X "list.count" (rJ X.K):=by
 intro K4 s σ H x vs v us Q I rx rv h
 obtain⟨l,k,bs,rfl,rfl,hx,q⟩:=h
 cases rx
 obtain⟨u,rfl,ru⟩:=rv.one
 obtain⟨tk,rfl⟩:=ru
 obtain⟨its,r,ht,hz⟩:=I.list hx
 obtain⟨⟨cls,dd,data,sl⟩,ho,hc,n,hd⟩:=ht.isList
 simp only at hc hd
 subst hc hd
 refine FA Fw ⟨_,ho,rfl⟩ HM (Ht _ _) (HN l its.toArray n dd sl (.int k tk) (t6 k)) ⟨ho,λy hy=> ?_,?_⟩
 ·obtain⟨i,hi,e⟩:=EZ (show y∈its by simpa using hy)
  obtain⟨t,rfl⟩:=nK r (i:=i) (v:=y) (by rw[E2 hi,e])
  exact Gr _ t k tk
 ·rw[show its.toArray.toList=its from rfl,o8 r]
  exact⟨.int _,H,I.tok _,⟨_,rfl⟩,q⟩
def Bd (K:Dh):R2:=λx y H Q=>∃p q xs,x= .ref p/\y= .ref q/\cp K H p xs/\cp K H q []/\Q (.bl (!xs.isEmpty)) H
theorem qF (hu:X.A.units+1<FG):gQ X (Eu .NotEq) (Bd X.K):=by
 intro K4 s σ H x y v u Q I rx ry h
 obtain⟨p,q,xs,rfl,rfl,h1,h2,k⟩:=h
 cases rx
 cases ry
 obtain⟨its,r,pl,hz⟩:=I.list h1
 obtain⟨Lz,r2,OY,RU⟩:=I.list h2
 cases r2
 have l:=r.length
 cases xs with
 |nil=>
  cases its with
  |nil=>exact SeqAt.RcNeAt.lists (e:=λ_=>true) pl.isList OY.isList rfl (by omega) (λj a b=>by simp at b) X.prog X.w X.xe (EP X K4 σ Q) ⟨.bl _,H,I,rfl,by simpa using k⟩
  |cons a b=>cases l
 |cons a b=>
  cases its with
  |nil=>cases l
  |cons c d=>exact SeqAt.RcNeAt.lists_lengths pl.isList OY.isList (by simp) (by omega) X.prog X.w X.xe (EP X K4 σ Q) ⟨.bl _,H,I,rfl,by simpa using k⟩
end
end L2
namespace L2.Pu
open PySem PySem.Spec PyProof.Rows
variable {ly:List cY}
section
variable {K:Dh} {F:Hp}
def D9:List D->Option D
 |[.lst ds]=>(eY ds).map λbs=> .bl (bs.all id)
 |_=>none
def o9:D->D->Option D
 | .lst ds, .lst []=>some (.bl (!ds.isEmpty))
 |_,_=>none
theorem og:fP K (Bd K) o9:=by
 intro v u x y d H F Q s rx ry h k
 unfold o9 at h
 split at h
 ·rename_i ds
  cases h
  obtain⟨p,vs,rfl,h1,h2⟩:=rx.lst s
  obtain⟨q,us,rfl,h3,h4⟩:=ry.lst s
  rw[h4.nilI]at h3
  refine⟨p,q,vs,rfl,rfl,cp.of h1,cp.of h3,?_⟩
  have l:=h2.length
  have e:vs.isEmpty=ds.isEmpty:=by
   cases vs<;>cases ds<;>first|rfl|cases l
  rw[e]
  exact k _ H F (bi.refl s) (.bl _)
 ·cases h
end
section
variable {X:Cx} {a b o e:Dr} {fa fb fo fk:aa->R D} {Kh Kb pos:DZ}
end
end L2.Pu
namespace L2.Pu
open PySem PySem.Spec PyProof.Rows
variable {ly:List cY}
section
variable {X:Cx} {LF tg Kl:Dr} {Lv:List Dr} {scope:EX} {pos:DZ} {fi:aa->R (List D)} {g:D->aa->R aa} {gt:aa->R Bool} {fe:aa->R D}
end
end L2.Pu
namespace L2
open PySem PySem.Spec PyProof.Rows
section
variable {X:Cx} {K4:List (Dk×DT)} {σ:St} {H:Hp} {s:Dl}
end
end L2
namespace L2.Pu
open PySem PySem.Spec PyProof.Rows
variable {ly:List cY}
section
variable {X:Cx} {a b e:Dr} {f fk fv:aa->R D} {pos:DZ}
end
end L2.Pu
namespace L2
open PySem PySem.Spec PyProof.Rows
section
variable {X:Cx} {K4:List (Dk×DT)} {σ:St} {H:Hp} {s:Dl} {h':DE}
variable {o:Dr} {to:TE} {p1 Kh Kb pos:DZ}
end
end L2
namespace L2.Pu
open PySem PySem.Spec PyProof.Rows
variable {ly:List cY}
section
variable {K:Dh} {F:Hp}
end
section
variable {X:Cx} {o:Dr} {fo:aa->R D} {p1 Kh Kb pos:DZ}
end
end L2.Pu
namespace L2.Pu
open PySem PySem.Spec PyProof.Rows
variable {ly:List cY}
section
variable {X:Cx} {e:Dr} {f:aa->R D} {pos:DZ}
end
end L2.Pu
namespace L2.Pu
open PySem PySem.Spec PyProof.Rows
variable {ly:List cY}
section
variable {X:Cx} {a b e:Dr} {rest:List Dr} {f:aa->R D} {fx fy:aa->R (D×aa)} {gx gy:aa->R (Bool×aa)} {g:aa->R Bool} {pos:DZ}
def pC (i:Nat) (fx:aa->R (D×aa)):aa->R aU:=λρ=>match ρ[i]? with
 |some (some (.own (.lst _)))=>fx ρ>>=λr=>match r.2[i]? with
  |some (some (.own (.lst ds)))=>if ds.length<lim then .ok (.nx (r.2.set i (some (.own (.lst (ds++[r.1]))))))else .bad
  |_=> .bad
 |_=> .bad
theorem t9 (i:Nat) {x:Dj} {px Kh Kb:DZ} (h:PX ly X e fx) (hN:X.N[i]? =some x:=by rfl) (hv:kD X.env.scope x:=by first|exact E7 rfl|exact DV (E7 rfl)|exact DV (DV rfl)) (hd:(x==("__debug__":Dj))=false:=by decide)
  (Lc:(x==("__classdict__":Dj))=false:=by decide) (KJ:E9 (.Name x px) "append" X.env (DC (.Name x px) X.env)=DC (.Name x px) X.env:=by rfl)
  (Li:((DQ Kb (Dm [e] X.env)).all (λx=> !x.1)&&(EK Kb (Em [] X.env)).all (λx=>x.1.isSome)
   &&decide (([e]:List Dr).length+([]:List EH).length+(if ([]:List EH).isEmpty then 0 else 1)<30))=true:=by rfl)
  (KL:(Kh.endLine==Kb.line)=true:=by rfl) (hs:Dm [e] X.env=(false,DC e X.env)::Dm [] X.env:=by rfl) (Kr:(DQ Kb (Dm [] X.env)).any (·.1)=false:=by rfl)
  (Mr:Eg (.Call (.Attribute (.Name x px) "append" Kh) [e] [] Kb) none pos.line X.env=pure false:=by rfl):jD ly X (.Expr (.Call (.Attribute (.Name x px) "append" Kh) [e] [] Kb) pos) (pC i fx):=λc=>
 PS.weak (ia (mG Ew G9 Ga ib (pv i hN hv hd Lc) (bt (h c) d0 hs) KJ Li KL hs Kr) Mr) λD σ H ⟨F,ρ,ri,w⟩=>by
  unfold pC at w
  split at w
  ·rename_i ds hi
   obtain⟨a,vs,h1,h2,h3⟩:=ri.ownL hi
   refine⟨_,h1, .inl ⟨rfl,vs,cp.of h2⟩,F,ρ,ri,(aA.bind.mp w).imp λr _ w1 v H1 F1 e1 MF r1=> ?_⟩
   split at w1
   ·rename_i ds' Mq
    obtain⟨a',O3,Md,Lo,R4⟩:=MF.ownL Mq
    have ea:=h1.symm.trans Md
    cases ea
    split at w1
    ·rename_i hl
     refine⟨a,O3,v,rfl,rfl,Lo,DS (by rw[R4.length];exact hl) eg,?_⟩
     exact w1 σ _ F1 e1 (MF.change (o:= .lst O3) Mq Md (.lst (R4.append (.cons r1 .nil))))
    ·exact w1.elim
   ·exact w1.elim
  ·exact w.elim
def CK (ly:List cY) (X:Cx) (e:Dr) (gx:aa->R (Bool×aa)):Prop:=∀c:fE ly X,PW X e (CJ X.K c.1 gx)
theorem CK.t (h:CK ly X e gx):D8 ly X e gx:=λc=>(h c).pt
def iy (k:Int):List Int->Option Nat
 |[]=>none
 |x::r=>if x=k then some 0 else (iy k r).map (·+1)
theorem lE {k:Int}:∀{xs:List Int} {j:Nat},iy k xs=some j->xs[j]? =some k/\∀m,m<j->∃y,xs[m]? =some y/\y≠k
 |[],j,h=>by cases h
 |x::r,j,h=>by
  unfold iy at h
  by_cases e:x=k
  ·rw[if_pos e]at h;cases h;exact⟨by rw[e];rfl,λm hm=>absurd hm (Nat.not_lt_zero m)⟩
  ·rw[if_neg e]at h
   cases q:iy k r with
   |none=>rw[q]at h;cases h
   |some i=>
    rw[q]at h
    cases h
    obtain⟨h1,h2⟩:=lE q
    refine⟨h1,λm hm=> ?_⟩
    cases m with
    |MS=>exact⟨x,rfl,e⟩
    |succ m=>exact h2 m (Nat.lt_of_succ_lt_succ hm)
def xx:V->List V->Hp->VK->Prop:=λx vs H Q=>∃(l:Dk) (k:Int) (ns:List Int) (j:Nat),x= .ref l/\vs=[.int k]/\H l=some (.lst (ns.map V.int))/\iy k ns=some j/\Q .non (bc H l (.lst ((ns.map V.int).eraseIdx j)))
theorem tf:yW X "list.remove" xx:=by
 intro K4 s σ H x vs v us Q I rx rv h
 obtain⟨l,k,ns,j,rfl,rfl,hH,hj,q⟩:=h
 cases rx
 obtain⟨u,rfl,ru⟩:=rv.one
 obtain⟨tk,rfl⟩:=ru
 obtain⟨z,its,n,r,hl,e⟩:=I.lstM hH
 obtain⟨f1,f2⟩:=lE hj
 have at_:∀(i:Nat) (y:Int),ns[i]? =some y->∃t,its[i]? =some (.int y t):=λi y hy=>by
  obtain⟨w,hw,ME⟩:=r.get (i:=i) (x:= .int y) (by rw[DX,hy];rfl)
  obtain⟨t,rfl⟩:=ME
  exact⟨t,hw⟩
 have Ki:its.length=ns.length:=by rw[<-hl,Dp]
 have SQ:j<ns.length:=(Dx.mp f1).1
 refine FA HQ ⟨_,e,rfl⟩ PySem.F.entry_list_remove (PySem.F.args_list_remove_2 _ _)
  (MeetsSeq.list_remove l its.toArray n (.int k tk) (t6 k) (λy hy=> ?_) j (by rw[Ds];omega) ?_ (λm hm MU=> ?_) (by rw[Ds];omega)) ⟨e,?_⟩
 ·obtain⟨i,hi,e⟩:=EZ (show y∈its by simpa using hy)
  obtain⟨t,ht⟩:=at_ i (ns[i]'(by omega)) (E2 _)
  rw[E2 hi,e]at ht
  cases ht
  exact K3 _ _ _ _
 ·obtain⟨t,ht⟩:=at_ j k f1
  have:its.toArray[j]'(by rw[Ds];omega)= .int k t:=by
   rw[ID];rw[E2 (by omega)]at ht;exact Ec ht
  rw[this];unfold t6;exact beq_self_eq_true k
 ·obtain⟨y,hy,Mn⟩:=f2 m MU
  obtain⟨t,ht⟩:=at_ m y hy
  have:its.toArray[m]'hm= .int y t:=by
   rw[ID];rw[E2 (by rw[Ds]at hm;exact hm)]at ht;exact Ec ht
  rw[this];unfold t6;exact beq_false_of_ne Mn
 ·refine⟨.non,_,I.lset (its':=its.eraseIdx j) hH e ?_ (r.eraseIdx j) ?_,rfl,q⟩
  ·show its.toArray.eraseIdxIfInBounds j=(its.eraseIdx j).toArray
   rw[List.eraseIdxIfInBounds_toArray]
  ·have:=mH (ns.map V.int) j
   omega
def xy (i:Nat) (fk:aa->R D):aa->R aU:=λρ=>match ρ[i]? with
 |some (some (.own (.lst ds)))=>fk ρ>>=λk=>match k,cq ds with
  | .int n,some ns=>(match iy n ns with
   |some m=> .ok (.nx (ρ.set i (some (.own (.lst (ds.eraseIdx m))))))
   |none=> .bad)
  |_,_=> .bad
 |_=> .bad
theorem vD (i:Nat) {x:Dj} {px Kh Kb:DZ} (h:PQ ly X e f) (hN:X.N[i]? =some x:=by rfl) (hv:kD X.env.scope x:=by first|exact E7 rfl|exact DV (E7 rfl)|exact DV (DV rfl)) (hd:(x==("__debug__":Dj))=false:=by decide)
  (Lc:(x==("__classdict__":Dj))=false:=by decide) (KJ:E9 (.Name x px) "remove" X.env (DC (.Name x px) X.env)=DC (.Name x px) X.env:=by rfl)
  (Li:((DQ Kb (Dm [e] X.env)).all (λx=> !x.1)&&(EK Kb (Em [] X.env)).all (λx=>x.1.isSome)
   &&decide (([e]:List Dr).length+([]:List EH).length+(if ([]:List EH).isEmpty then 0 else 1)<30))=true:=by rfl)
  (KL:(Kh.endLine==Kb.line)=true:=by rfl) (hs:Dm [e] X.env=(false,DC e X.env)::Dm [] X.env:=by rfl) (Kr:(DQ Kb (Dm [] X.env)).any (·.1)=false:=by rfl)
  (Mr:Eg (.Call (.Attribute (.Name x px) "remove" Kh) [e] [] Kb) none pos.line X.env=pure false:=by rfl):jD ly X (.Expr (.Call (.Attribute (.Name x px) "remove" Kh) [e] [] Kb) pos) (xy i f):=λc=>
 PS.weak (ia (mG Ew HQ PySem.F.type_list_remove tf (pv i hN hv hd Lc) (bt (h c) d0 hs) KJ Li KL hs Kr) Mr) λD σ H ⟨F,ρ,ri,w⟩=>by
  unfold xy at w
  split at w
  ·rename_i ds hi
   obtain⟨a,vs,h1,h2,h3⟩:=ri.ownL hi
   refine⟨_,h1, .inl ⟨rfl,vs,cp.of h2⟩,F,ρ,ri,(aA.bind.mp w).imp λk _ w1 v H1 F1 e1 r1=> ?_⟩
   cases q:cq ds with
   |none=>cases k<;>(simp only[q]at w1;exact w1.elim)
   |some ns=>
    cases k with
    |int n=>
     cases r1
     simp only[q]at w1
     split at w1
     ·rename_i m hm
      have R5:=eS q h3
      refine⟨a,n,ns,m,rfl,rfl,by rw[<-R5];exact e1.keep _ _ h2,hm,?_⟩
      rw[<-R5]
      exact w1 _ _ F1 e1.grow ((ri.step e1).change (o:= .lst vs) hi h1 (.lst ((h3.mono e1.grow).eraseIdx m)))
     ·exact w1.elim
    |_=>simp only[q]at w1;exact w1.elim
  ·exact w.elim
end
end L2.Pu
namespace L2.Pu
open PySem PySem.Spec PyProof.Rows
section
variable {K:Dh} {mg:Dj->Option Di} {h:DE}
def UF (K:Dh) (x:Dj) (st:DU):Prop:=∃(f:Dk) (oc:Di) (od:Option Dk) (kV L4 pm:Di) (an:Option Dk) (Kf ct:Di) (M1:Array (Option Di)),DB K Dt x=some (some (.ref f))/\K.lookup f=some ⟨oc,od, .func (Ea x x (bZ st) (aN st) (ah st) .none kV L4 pm an Kf ct),M1⟩/\Fn K Kf x=true/\E8 K (.ref f)=true
def oh (K:Dh) (C:Dk) (m qual:Dj) (st:DU):Prop:=∃(f:Dk) (oc:Di) (od:Option Dk) (kV L4 pm:Di) (an:Option Dk) (Kf ct:Di) (M1:Array (Option Di)),DD K (.ref C) m=some (some (.ref f))/\K.lookup f=some ⟨oc,od, .func (Ea m qual (bZ st) (aN st) (ah st) .none kV L4 pm an Kf ct),M1⟩/\Fn K Kf qual=true/\E8 K (.ref f)=true/\GJ K (.ref f)=true
def BA (x qual:Dj) (st:DU) (ps:List Dj):Prop:=∀(kV L4 pm:Di) (an:Option Dk) (Kf ct:Di) (us:List Di),us.length=ps.length->Fe (Ea x qual (bZ st) (aN st) (ah st) .none kV L4 pm an Kf ct) ⟨us,[]⟩=pure (ps.zip us)
theorem UF.at {x:Dj} {st:DU} {ps:List Dj} (u:UF K x st) (X:K.In h) (G:h.Ns Dt mg) (hb:BA x x st ps):eT K mg x st ps:=by
 obtain⟨f,oc,od,kV,L4,pm,an,Kf,ct,M1,h1,h2,h3,h4⟩:=u
 exact⟨_,_,iD (st:=st) h2 h3 h4,E6 X G h1,(iD (st:=st) h2 h3 h4).binds hb⟩
theorem oh.at {C:Dk} {cls m qual:Dj} {st:DU} {ps:List Dj} (u:oh K C m qual st) (c:fR K cls C) (hb:BA m qual st ps):dS K cls m qual st ps:=by
 obtain⟨f,oc,od,kV,L4,pm,an,Kf,ct,M1,h1,h2,h3,h4,h5⟩:=u
 exact⟨_,_,_,iD (st:=st) h2 h3 h4,c,⟨h1,h5,h4⟩,(iD (st:=st) h2 h3 h4).binds hb⟩
theorem oh.mk {C:Dk} {cls qual:Dj} {st:DU} {ps fs:List Dj} (u:oh K C "__init__" qual st) (c:fR K cls C) (hm:mg cls=some (.ref C)) (p5:F_ K C=true) (p6:E8 K (.ref C)=true) (no:∀x∈fs,cC K C x) (hb:BA "__init__" qual st ps):lz K mg cls qual st ps fs:=by
 obtain⟨f,oc,od,kV,L4,pm,an,Kf,ct,M1,h1,h2,h3,h4,h5⟩:=u
 exact⟨_,_,_,iD (st:=st) h2 h3 h4,c,hm,⟨p5,h1,h5,p6⟩,(iD (st:=st) h2 h3 h4).binds hb,no⟩
def xz (K:Dh) (C:Dk):Prop:=Eo K C qo "ValueError.__new__"=true/\DD K (.ref C) "__getattribute__"=some (some (.builtin "BaseException.__getattribute__"))/\DD K (.ref C) "__getattr__"=some none/\DD K (.ref C) "__class__"=some (some (.builtin "object.__class__"))/\
 DW K C (.type "object")=some true/\DW K C (.type "BaseException")=some true/\DW K C (.ref C)=some true
def qG (K:Dh):List Dk->Prop
 |[]=>True
 |C::r=>xz K C/\qG K r
def oi (K:Dh):List Dj->List Dk->Prop
 |[],[]=>True
 |x::xs,C::Cs=>DB K Dt x=some (some (.ref C))/\oi K xs Cs
 |_,_=>False
def jj (K:Dh) (v:Di) (f:Nat->Bool):Nat->List Dk->Prop
 |_,[]=>True
 |i,C::r=>DW K C v=some (f i)/\jj K v f (i+1) r
def ti {α:Type} (f:Nat->Bool):Nat->List α->List (α×Bool)
 |_,[]=>[]
 |i,x::r=>(x,f i)::ti f (i+1) r
def Ah (K:Dh):Prop:=FF K (.builtin "object.__class__") "__get__"=some (some (.builtin "getset_descriptor.__get__"))/\G0 K (.builtin "object.__class__")=some true
theorem xz.ok {C:Dk} (e:xz K C) (s:Ah K):nL K C:=by
 obtain⟨e1,e2,e3,e4,e5,e6,e7⟩:=e
 exact xn e1 e2 e3 e4 e5 e6 (jL e1 e7) s.1 s.2
theorem jP {v:Di} {f:Nat->Bool} (s:Ah K) (hk:∀C b,DW K C v=some b->DW K C (.ref C)=some true->Eh K (.ref C) v=some b):∀{xs:List Dj} {Cs:List Dk} {i:Nat},oi K xs Cs->qG K Cs->jj K v f i Cs->
  ∀p∈ti f i xs,∃Ce,DB K Dt p.1=some (some (.ref Ce))/\Eh K (.ref Ce) v=some p.2/\nL K Ce
 |[],[],i,n,e,r,p,hp=>by cases hp
 |[],_::_,i,n,e,r,p,hp=>n.elim
 |_::_,[],i,n,e,r,p,hp=>n.elim
 |x::xs,C::Cs,i,n,e,r,p,hp=>by
  rcases DN.mp hp with rfl|hp
  ·exact⟨C,n.1,hk C _ r.1 e.1.2.2.2.2.2.2,e.1.ok s⟩
  ·exact jP s hk n.2 e.2 r.2 p hp
theorem fU {x:Dj} {C:Dk} {f:Nat->Bool} {xs:List Dj} {Cs:List Dk} (s:Ah K) (N:oi K xs Cs) (E:qG K Cs) (hm:mg x=some (.ref C)) (e1:Eo K C qo "ValueError.__new__"=true) (R:jj K (.ref C) f 0 Cs):jg K mg x (vj (ti f 0 xs)):=
 ⟨_,hm,pe (jP s (λ_ _ m q=>sU e1 m q) N E R)⟩
theorem xA {f:Nat->Bool} {xs:List Dj} {Cs:List Dk} (s:Ah K) (N:oi K xs Cs) (E:qG K Cs) (R:jj K (.type "ValueError") f 0 Cs):km K (.type "ValueError") (vj (ti f 0 xs)):=
 pe (jP s (λ_ _ m _=>sV m) N E R)
theorem dL (s:Ah K) (X:K.In h) (G:h.Ns Dt mg):∀{xs:List Dj} {Cs:List Dk},oi K xs Cs->qG K Cs->∀x∈xs,cU K mg x
 |[],[],n,e,x,hx=>by cases hx
 |[],_::_,n,e,x,hx=>n.elim
 |_::_,[],n,e,x,hx=>n.elim
 |y::xs,C::Cs,n,e,x,hx=>by
  rcases DN.mp hx with rfl|hx
  ·exact⟨C,n.1,E6 X G n.1,e.1.ok s⟩
  ·exact dL s X G n.2 e.2 x hx
theorem cQ:∀{xs:List Dj} {Cs:List Dk},oi K xs Cs->qG K Cs->∀(x:Dj) (C:Dk),(xs.zip Cs).lookup x=some C->DB K Dt x=some (some (.ref C))/\xz K C
 |[],Cs,n,e,x,C,hx=>by cases hx
 |_::_,[],n,e,x,C,hx=>n.elim
 |y::xs,C'::Cs,n,e,x,C,hx=>by
  rw[List.zip_cons_cons,En]at hx
  cases q:x==y with
  |true=>rw[q]at hx;cases hx;rw[eq_of_beq q];exact⟨n.1,e.1⟩
  |false=>rw[q]at hx;exact cQ n.2 e.2 x C hx
theorem tj {cx:Dj} {D:Dk} (hm:mg cx=some (.ref D)) (e1:Eo K D qo "ValueError.__new__"=true) (e6:DW K D (.type "BaseException")=some true) {xs:List Dj} {Cs:List Dk} (N:oi K xs Cs) (R:jj K (.ref D) (λ_=>true) 0 Cs):pc K mg cx (sX xs):=by
 refine vi hm ?_
 have:∀{xs:List Dj} {Cs:List Dk} {i:Nat},oi K xs Cs->jj K (.ref D) (λ_=>true) i Cs->∀x∈xs,∃Ce,DB K Dt x=some (some (.ref Ce))/\FL K (.ref Ce) (.ref D)=some true:=by
  intro xs
  induction xs with
  |nil=>intro Cs i n r x hx;cases hx
  |cons y xs ih=>
   intro Cs i n r x hx
   cases Cs with
   |nil=>exact n.elim
   |cons C Cs=>
    rcases DN.mp hx with rfl|hx
    ·exact⟨C,n.1,sW e1 r.1 e6⟩
    ·exact ih n.2 r.2 x hx
 exact this N R
end
section
variable {x qual:Dj} {st:DU}
theorem b1 {p:Dj} (h:∀kV L4 pm an Kf ct a,Fe (Ea x qual (bZ st) (aN st) (ah st) .none kV L4 pm an Kf ct) ⟨[a],[]⟩=pure [(p,a)]:=by intros;rfl):BA x qual st [p]:=λ_ _ _ _ _ _=>CF (P:=λus=>Fe _ ⟨us,[]⟩=pure (IE _ us)) (h _ _ _ _ _ _)
theorem b2 {p q:Dj} (h:∀kV L4 pm an Kf ct a b,Fe (Ea x qual (bZ st) (aN st) (ah st) .none kV L4 pm an Kf ct) ⟨[a,b],[]⟩=pure [(p,a),(q,b)]:=by intros;rfl):BA x qual st [p,q]:=λ_ _ _ _ _ _=>CG (P:=λus=>Fe _ ⟨us,[]⟩=pure (IE _ us)) (h _ _ _ _ _ _)
theorem b3 {p q r:Dj} (h:∀kV L4 pm an Kf ct a b c,Fe (Ea x qual (bZ st) (aN st) (ah st) .none kV L4 pm an Kf ct) ⟨[a,b,c],[]⟩=pure [(p,a),(q,b),(r,c)]:=by intros;rfl):BA x qual st [p,q,r]:=λ_ _ _ _ _ _=>CH (P:=λus=>Fe _ ⟨us,[]⟩=pure (IE _ us)) (h _ _ _ _ _ _)
theorem b4 {p q r t:Dj} (h:∀kV L4 pm an Kf ct a b c d,Fe (Ea x qual (bZ st) (aN st) (ah st) .none kV L4 pm an Kf ct) ⟨[a,b,c,d],[]⟩=pure [(p,a),(q,b),(r,c),(t,d)]:=by intros;rfl):BA x qual st [p,q,r,t]:=λ_ _ _ _ _ _=>CI (P:=λus=>Fe _ ⟨us,[]⟩=pure (IE _ us)) (h _ _ _ _ _ _)
theorem b5 {p q r t u:Dj} (h:∀kV L4 pm an Kf ct a b c d e,Fe (Ea x qual (bZ st) (aN st) (ah st) .none kV L4 pm an Kf ct) ⟨[a,b,c,d,e],[]⟩=pure [(p,a),(q,b),(r,c),(t,d),(u,e)]:=by intros;rfl):BA x qual st [p,q,r,t,u]:=λ_ _ _ _ _ _=>D7 (P:=λus=>Fe _ ⟨us,[]⟩=pure (IE _ us)) (h _ _ _ _ _ _)
end
end L2.Pu
namespace L2.Pu
open PySem PySem.Spec PyProof.Rows
variable {ly:List cY}
section
variable {X:Cx} {a b e:Dr} {es:List Dr} {st:DU} {rest:List DU} {f:aa->R D} {fs:aa->R (List D)} {g:aa->R aU} {gn:aa->R D} {pos p:DZ} {x:Dj}
end
section
variable {P:Dy} {w:DG} {K:Dh} {mg:Dj->Option Di} {base:DE}
end
end L2.Pu
namespace L2
open PySem PySem.Spec PyProof.Rows
section
variable {X:Cx}
end
end L2
namespace L2.Pu
open PySem PySem.Spec PyProof.Rows
end L2.Pu
namespace L2
open PySem PySem.Spec PyProof.Rows L2.Pu
section
variable {X:Cx} {o e:Dr} {es:List Dr} {to:TE} {t:TA} {Kh Kb:DZ}
def rK:V->List V->Hp->VK->Prop:=λx vs H Q=>∃(l:Dk) (k:Int) (ns:List Int),x= .ref l/\vs=[.int k]/\H l=some (.tup (ns.map V.int))/\Q (.int (ns.count k)) H
theorem tm:yW X "tuple.count" rK:=by
 intro K4 s σ H x vs v us Q I rx rv h
 obtain⟨l,k,bs,rfl,rfl,hx,q⟩:=h
 cases rx
 obtain⟨u,rfl,ru⟩:=rv.one
 obtain⟨tk,rfl⟩:=ru
 obtain⟨hz,its,r,⟨cls,dd,data,sl⟩,ho,hc,n,hd,_⟩:=(show bB X.prog X.w H s.heap l (.tup (bs.map V.int))from I.hok l _ hx)
 simp only at hc hd
 subst hc hd
 refine FA HR ⟨_,ho,rfl⟩ PySem.F.entry_tuple_count (PySem.F.args_tuple_count_2 _ _) (PySem.SeqAt.tuple_countAt l its.toArray n dd sl (.int k tk) (t6 k)) ⟨ho,λy hy=> ?_,?_⟩
 ·obtain⟨i,hi,e⟩:=EZ (show y∈its by simpa using hy)
  obtain⟨t,rfl⟩:=nK r (i:=i) (v:=y) (by rw[E2 hi,e])
  exact Gr _ t k tk
 ·rw[show its.toArray.toList=its from rfl,o8 r]
  exact⟨.int _,H,I.tok _,⟨_,rfl⟩,q⟩
theorem zU (ho:PE X o to) (ha:PA X (e::es) t) (KJ:E9 o "count" X.env (DC o X.env)=DC o X.env)
  (Li:((DQ Kb (Dm (e::es) X.env)).all (λx=> !x.1)&&(EK Kb (Em [] X.env)).all (λx=>x.1.isSome)
   &&decide ((e::es).length+([]:List EH).length+(if ([]:List EH).isEmpty then 0 else 1)<30))=true)
  (KL:(Kh.endLine==Kb.line)=true) (hs:Dm (e::es) X.env=(false,DC e X.env)::Dm es X.env) (Kr:(DQ Kb (Dm es X.env)).any (·.1)=false):
  PE X (.Call (.Attribute o "count" Kh) (e::es) [] Kb) (λσ H Q=>to σ H λx H1=>(C8 X.K "list" x H1/\t σ H1 λxs H2=>rJ X.K x xs H2 Q)\/∃p vs,x= .ref p/\H1 p=some (.tup vs)/\t σ H1 λxs H2=>rK x xs H2 Q):=by
 intro K4 s σ H Q I h
 refine Ih KJ Li KL rfl (bU (ho K4 s σ H _ I h) λv s1 z_=> ?_)
 obtain⟨x,H1,I1,r1,z⟩:=z_
 rcases z with ⟨ty,q1⟩|⟨p,vs,rfl,hp,q1⟩
 ·obtain⟨h1,h2⟩:=um I1 r1 ty
  refine⟨"list","list.count",Ew,Fw,HV,h1,h2,?_⟩
  have hA:=ha Kb K4 s1 σ H1 _ I1 q1
  rw[hs]at hA ⊢
  refine Gs (by show (false||(DQ Kb (Dm es X.env)).any (·.1))=false;rw[Kr]<;>rfl) (FQ ?_)
  exact bU hA λus s2 ⟨vs,H2,I2,r2,q2⟩=>t8 K4 s2 σ H2 x vs v us Q I2 r1 r2 q2
 ·cases r1
  obtain⟨hz,its,r,ob,Nm,hc,n,hd,S6⟩:=(show bB X.prog X.w H1 s1.heap p (.tup vs)from I1.hok p _ hp)
  refine⟨"tuple","tuple.count",PySem.F.plainAttrs_tuple,HR,PySem.F.type_tuple_count,⟨ob,Nm,hc⟩,λa e=>by cases e;exact⟨ob,Nm,S6⟩,?_⟩
  have hA:=ha Kb K4 s1 σ H1 _ I1 q1
  rw[hs]at hA ⊢
  refine Gs (by show (false||(DQ Kb (Dm es X.env)).any (·.1))=false;rw[Kr]<;>rfl) (FQ ?_)
  exact bU hA λus s2 ⟨O3,H2,I2,r2,q2⟩=>tm K4 s2 σ H2 (.ref p) O3 (.ref p) us Q I2 rfl r2 q2
end
end L2
namespace L2.Pu
open PySem PySem.Spec PyProof.Rows
variable {ly:List cY} {X:Cx} {a o:Dr} {fo fk:aa->R D} {Kh Kb:DZ}
def pD (fo fk:aa->R D):aa->R D:=λρ=>fo ρ>>=λd=>match d with
 | .lst ds=>fk ρ>>=λk=>(match cq ds,k with
  |some bs, .int b=> .ok (.int (bs.count b))
  |_,_=> .bad)
 | .tup ds=>fk ρ>>=λk=>(match cq ds,k with
  |some bs, .int b=> .ok (.int (bs.count b))
  |_,_=> .bad)
 |_=> .bad
theorem vE (ho:PB ly X o fo) (hk:PQ ly X a fk) (KJ:E9 o "count" X.env (DC o X.env)=DC o X.env:=by rfl)
  (Li:((DQ Kb (Dm [a] X.env)).all (λx=> !x.1)&&(EK Kb (Em [] X.env)).all (λx=>x.1.isSome)
   &&decide (([a]:List Dr).length+([]:List EH).length+(if ([]:List EH).isEmpty then 0 else 1)<30))=true:=by rfl)
  (KL:(Kh.endLine==Kb.line)=true:=by rfl) (hs:Dm [a] X.env=(false,DC a X.env)::Dm [] X.env:=by rfl) (Kr:(DQ Kb (Dm [] X.env)).any (·.1)=false:=by rfl):
  PQ ly X (.Call (.Attribute o "count" Kh) [a] [] Kb) (pD fo fk):=λc=>
 PE.weak (zU (ho c) (bt (hk c) d0 hs) KJ Li KL hs Kr) λσ H Q ⟨F,ρ,ri,w⟩=>⟨F,ρ,ri,(aA.bind.mp w).imp λd _ w1 v H1 F1 e1 r1=>by
  cases d with
  |lst ds=>
   obtain⟨p,vs,rfl,h1,h2⟩:=r1.lst e1.sub
   refine .inl ⟨.inl ⟨rfl,vs,cp.of h1⟩,F1,ρ,ri.step e1,(aA.bind.mp w1).imp λk _ w2 u H2 F2 e2 r2=> ?_⟩
   cases q:cq ds with
   |none=>simp only[q]at w2;exact w2.elim
   |some bs=>
    cases k with
    |int b=>
     cases r2
     simp only[q]at w2
     rw[eS q h2]at h1
     exact⟨p,b,bs,rfl,rfl,cp.of (e2.keep _ _ h1),w2 _ H2 F2 (e1.trans e2) (.int _)⟩
    |_=>simp only[q]at w2;exact w2.elim
  |tup ds=>
   obtain⟨p,vs,rfl,h1,h2⟩:=r1.tup e1.sub
   refine .inr ⟨p,vs,rfl,h1,F1,ρ,ri.step e1,(aA.bind.mp w1).imp λk _ w2 u H2 F2 e2 r2=> ?_⟩
   cases q:cq ds with
   |none=>simp only[q]at w2;exact w2.elim
   |some bs=>
    cases k with
    |int b=>
     cases r2
     simp only[q]at w2
     rw[eS q h2]at h1
     exact⟨p,b,bs,rfl,rfl,e2.keep _ _ h1,w2 _ H2 F2 (e1.trans e2) (.int _)⟩
    |_=>simp only[q]at w2;exact w2.elim
  |_=>exact w1.elim⟩
end L2.Pu
namespace L2.Pu
open PySem PySem.Spec PyProof.Rows
section
variable {K:Dh} {f:Dk} {oc:Di} {od:Option Dk} {kV L4 pm:Di} {an:Option Dk} {Kf ct:Di} {M1:Array (Option Di)} {x qual:Dj} {st:DU} {C:Dk}
theorem UF.of (h1:DB K Dt x=some (some (.ref f))) (h2:K.lookup f=some ⟨oc,od, .func (Ea x x (bZ st) (aN st) (ah st) .none kV L4 pm an Kf ct),M1⟩) (h3:Fn K Kf x=true) (h4:E8 K (.ref f)=true):UF K x st:=
 ⟨f,oc,od,kV,L4,pm,an,Kf,ct,M1,h1,h2,h3,h4⟩
theorem oh.of (h1:DD K (.ref C) x=some (some (.ref f))) (h2:K.lookup f=some ⟨oc,od, .func (Ea x qual (bZ st) (aN st) (ah st) .none kV L4 pm an Kf ct),M1⟩) (h3:Fn K Kf qual=true) (h4:E8 K (.ref f)=true) (h5:GJ K (.ref f)=true):oh K C x qual st:=
 ⟨f,oc,od,kV,L4,pm,an,Kf,ct,M1,h1,h2,h3,h4,h5⟩
end
end L2.Pu
namespace L2
open PySem PySem.Spec PyProof.Rows
section
variable {X:Cx}
end
end L2
namespace L2.Pu
open PySem PySem.Spec PyProof.Rows
section
variable {K:Dh}
end
end L2.Pu
namespace My
open PySem PySem.Spec PyProof.Rows L2 L2.Pu
def lF (i:Nat):DU:=PySem.Challenge.pw_tankbalance_k21_meters_come_and_go.main.body.getD i (.Pass ⟨0,0,0,0⟩)
abbrev RL:List Dj:=["BadTanks","UnknownPlace","SamePlace","UnknownStream","Twice","AlreadyMetered","NotMetered","TooManyStreams","TooManyMeters","TooManyDeeds"]
abbrev tb (k:Nat):Dj->Option Bool:=vj (ti (·==k) 0 RL)
abbrev Cp:Dj->Option Bool:=vj (ti (λ_=>true) 0 RL)
abbrev aY:List Dj:=["came","streams","meters","passed"]
abbrev ck:List Dj:=["tanks","now","history"]
abbrev c_:DU:=cZ (lF 19) 0
def ky:aa->R aU:=
 aB (o0 0 (bQ (ax 1) (gN 5)))
  (aB (o0 0 (bQ (ax 2) (gN 6)))
  (aB (o0 0 (bQ (ax 3) (gN 7)))
  (o0 0 (bQ (ax 4) (gN 8)))))
def jQ:List (Dj×Nat):=[("came",5),("streams",6),("meters",7),("passed",8)]
def aE:List D->R (List (Dj×D)):=kI 4 8 jQ ky
abbrev c4:DU:=cZ (lF 19) 1
def c5:aa->R aU:=
 aB (bQ (f2 eH (cG "Standing" "came" (af 0)) (fC (.int 1))) (gN 3))
  (c8 (kl "Standing" 4 aE (a7 (ax 3) (a7 (f2 eH (cG "Standing" "streams" (af 0)) (eF (a7 (eF (a7 (ax 3) (a7 (ax 1) (a7 (ax 2) (ak))))) (ak)))) (a7 (cG "Standing" "meters" (af 0)) (a7 (cG "Standing" "passed" (af 0)) (ak)))))))
def b0:List D->R D:=bf 3 4 c5
abbrev bH:DU:=cZ (lF 19) 2
def bI:aa->R aU:=
 aB (bQ (dr d4 (a7 (fL (bY ["self","number","streams","meters"] [(".0", .local),("stream", .local),("number", .free)] (dD (cG "Standing" "streams" (af 0))) (gN 1) (fT (f2 v_ (f2 iW (af 1) (fC (.int 0))) (af 2))) (ax 1))) (ak))) (gN 2))
  (aB (bQ (dr d4 (a7 (fL (bY ["self","number","streams","meters"] [(".0", .local),("meter", .local),("number", .free)] (dD (cG "Standing" "meters" (af 0))) (gN 1) (fT (f2 v_ (af 1) (af 2))) (ax 1))) (ak))) (gN 3))
  (c8 (kl "Standing" 4 aE (a7 (cG "Standing" "came" (af 0)) (a7 (ax 2) (a7 (ax 3) (a7 (cG "Standing" "passed" (af 0)) (ak))))))))
def aQ:List D->R D:=bf 2 4 bI
abbrev c7:DU:=cZ (lF 19) 3
def gr:aa->R aU:=
 c8 (kl "Standing" 4 aE (a7 (cG "Standing" "came" (af 0)) (a7 (cG "Standing" "streams" (af 0)) (a7 (f2 eH (cG "Standing" "meters" (af 0)) (dr d4 (a7 (af 1) (ak)))) (a7 (cG "Standing" "passed" (af 0)) (ak))))))
def b7:List D->R D:=bf 2 2 gr
abbrev bJ:DU:=cZ (lF 19) 4
def bK:aa->R aU:=
 aB (bQ (dr d4 (a7 (fL (bY ["self","numbers","meters"] [(".0", .local),("meter", .local),("numbers", .free)] (dD (cG "Standing" "meters" (af 0))) (gN 1) (fT (f2 (dE true) (af 1) (af 2))) (ax 1))) (ak))) (gN 2))
  (c8 (kl "Standing" 4 aE (a7 (cG "Standing" "came" (af 0)) (a7 (cG "Standing" "streams" (af 0)) (a7 (ax 2) (a7 (cG "Standing" "passed" (af 0)) (ak)))))))
def aR:List D->R D:=bf 2 3 bK
abbrev eh:DU:=lF 21
def kA:aa->R aU:=
 aB (dO (cF (dr qE (a7 (fL (bY ["tanks","places"] [(".0", .local),("place", .local),("OUTSIDE", .globalImplicit),("tanks", .free)] (dD (ax 1)) (gN 1) (kt) (x4 (f2 yh (af 1) (fC (.int 0))) (f2 yi (af 1) (af 3))))) (ak))))
  (c3 "UnknownPlace" (a7 (fC (.str "a place is neither the outside nor one of the tanks")) (ak)))
  (aK))
  (dO (fT (f2 iK (f2 iW (af 1) (fC (.int 0))) (f2 iW (af 1) (fC (.int 1)))))
  (c3 "SamePlace" (a7 (fC (.str "a stream leads from one place to another one")) (ak)))
  (aK))
def cg:List D->R D:=bf 2 2 kA
abbrev dW:DU:=lF 22
def jR:aa->R aU:=
 aB (iJ 2 (bY ["standing","numbers","there"] [(".0", .local),("stream", .local)] (dD (cG "Standing" "streams" (af 0))) (gN 1) (kt) (f2 iW (af 1) (fC (.int 0)))))
  (aB (dO (cF (dr qE (a7 (fL (bY ["standing","numbers","there"] [(".0", .local),("number", .local),("there", .free)] (dD (ax 1)) (gN 1) (kt) (f2 (dE true) (af 1) (af 2)))) (ak))))
  (c3 "UnknownStream" (a7 (fC (.str "a stream that is named is not there")) (ak)))
  (aK))
  (dO (fT (f2 yh (kM (af 1)) (dr cO (a7 (af 1) (ak)))))
  (c3 "Twice" (a7 (fC (.str "a stream is named twice")) (ak)))
  (aK)))
def aP:List D->R D:=bf 2 3 jR
abbrev d5:DU:=lF 23
def iP:aa->R aU:=
 dO (cF (dr qE (a7 (fL (bY ["standing","numbers"] [(".0", .local),("number", .local),("standing", .free)] (dD (ax 1)) (gN 1) (kt) (f2 (dE true) (af 1) (cG "Standing" "meters" (af 2))))) (ak))))
  (c3 "NotMetered" (a7 (fC (.str "a stream that is named has no meter")) (ak)))
  (aK)
def bD:List D->R D:=bf 2 2 iP
abbrev dY:DU:=cZ (lF 24) 0
def fG:aa->R aU:=
 aB (dO (qq (fT (f2 yh (af 1) (fC (.int 0)))) (fT (f2 yi (af 1) (fC (.int 7)))))
  (c3 "BadTanks" (a7 (fC (.str "a cellar can't have that many tanks")) (ak)))
  (aK))
  (aB (o0 0 (bQ (ax 1) (gN 2)))
  (aB (o0 0 (bQ (kl "Standing" 4 aE (a7 (fC (.int 0)) (a7 (eF (ak)) (a7 (eF (ak)) (a7 (eF (ak)) (ak)))))) (gN 3)))
  (vz 0 4)))
def lG:List (Dj×Nat):=[("tanks",2),("now",3)]
def cm:List D->R (List (Dj×D)×Dj×List D):=i0 1 4 lG "history" 4 fG
abbrev d7:DU:=cZ (lF 24) 1
def d8:aa->R aU:=
 aB (dO (fT (f2 x6 (dr cO (a7 (lB 0 "Cellar" "history") (ak))) (fC (.int 60))))
  (c3 "TooManyDeeds" (a7 (fC (.str "no more deeds can be kept")) (ak)))
  (aK))
  (aB (kK 0 "Cellar" "history" (eF (a7 (ax 1) (a7 (cI 0 "Cellar" "now") (ak)))))
  (o3 0 "Cellar" "now" (ax 2)))
def aC:List Slot->List D->R (D×List Slot):=gK 1 2 2 d8
abbrev cu:DU:=cZ (lF 24) 2
def gM:aa->R aU:=
 aB (gF (aZ cg 2 (a7 (cI 0 "Cellar" "tanks") (a7 (eF (a7 (ax 1) (a7 (ax 2) (ak)))) (ak)))))
  (aB (dO (fT (f2 x6 (dr cO (a7 (cG "Standing" "streams" (cI 0 "Cellar" "now")) (ak))) (fC (.int 12))))
  (c3 "TooManyStreams" (a7 (fC (.str "no more streams can be there")) (ak)))
  (aK))
  (aB (eW (gL 0 "Cellar" "keep_deed" (eV [0] aC 2 (a7 (eF (a7 (fC (.str "stream comes")) (a7 (ax 1) (a7 (ax 2) (ak))))) (a7 (gE "Standing" "with_stream" 3 b0 (cI 0 "Cellar" "now") (a7 (ax 1) (a7 (ax 2) (ak)))) (ak))))))
  (nc (cG "Standing" "came" (cI 0 "Cellar" "now")))))
def bd:List Slot->List D->R (D×List Slot):=gK 1 2 2 gM
abbrev cJ:DU:=cZ (lF 24) 3
def i3:aa->R aU:=
 aB (gF (aZ aP 2 (a7 (cI 0 "Cellar" "now") (a7 (eF (a7 (ax 1) (ak))) (ak)))))
  (eW (gL 0 "Cellar" "keep_deed" (eV [0] aC 2 (a7 (eF (a7 (fC (.str "stream goes")) (a7 (ax 1) (ak)))) (a7 (gE "Standing" "without_stream" 2 aQ (cI 0 "Cellar" "now") (a7 (ax 1) (ak))) (ak))))))
def bj:List Slot->List D->R (D×List Slot):=gK 1 1 1 i3
abbrev cK:DU:=cZ (lF 24) 4
def i4:aa->R aU:=
 aB (gF (aZ aP 2 (a7 (cI 0 "Cellar" "now") (a7 (ax 1) (ak)))))
  (aB (dO (o5 [0] (cF (dr qE (a7 (fL (bY ["self","numbers"] [(".0", .local),("number", .local),("self", .free)] (dD (ax 1)) (gN 1) (kt) (f2 (dE false) (af 1) (cG "Standing" "meters" (cG "Cellar" "now" (af 2)))))) (ak)))))
  (c3 "AlreadyMetered" (a7 (fC (.str "a stream that is named has a meter already")) (ak)))
  (aK))
  (aB (dO (fT (f2 yi (f2 eH (dr cO (a7 (cG "Standing" "meters" (cI 0 "Cellar" "now")) (ak))) (dr cO (a7 (af 1) (ak)))) (fC (.int 10))))
  (c3 "TooManyMeters" (a7 (fC (.str "no more meters can be there")) (ak)))
  (aK))
  (eW (gL 0 "Cellar" "keep_deed" (eV [0] aC 2 (a7 (eF (a7 (fC (.str "meters come")) (a7 (dr d4 (a7 (af 1) (ak))) (ak)))) (a7 (gE "Standing" "with_meters" 2 b7 (cI 0 "Cellar" "now") (a7 (ax 1) (ak))) (ak))))))))
def aM:List Slot->List D->R (D×List Slot):=gK 1 1 1 i4
abbrev d9:DU:=cZ (lF 24) 5
def iQ:aa->R aU:=
 aB (gF (aZ aP 2 (a7 (cI 0 "Cellar" "now") (a7 (ax 1) (ak)))))
  (aB (gF (aZ bD 2 (a7 (cI 0 "Cellar" "now") (a7 (ax 1) (ak)))))
  (eW (gL 0 "Cellar" "keep_deed" (eV [0] aC 2 (a7 (eF (a7 (fC (.str "meters go")) (a7 (dr d4 (a7 (af 1) (ak))) (ak)))) (a7 (gE "Standing" "without_meters" 2 aR (cI 0 "Cellar" "now") (a7 (ax 1) (ak))) (ak)))))))
def aX:List Slot->List D->R (D×List Slot):=gK 1 1 1 iQ
abbrev ek:DU:=cZ (lF 24) 8
def eo:aa->R aU:=
 aB (bQ (cG "Standing" "meters" (cG "Cellar" "now" (af 0))) (gN 1))
  (c8 (dr d4 (a7 (fL (bY ["self","meters"] [(".0", .local),("stream", .local),("meters", .free)] (dD (cG "Standing" "streams" (cG "Cellar" "now" (af 0)))) (gN 1) (kt) (f2 eH (af 1) (eF (a7 (f2 (dE false) (f2 iW (af 1) (fC (.int 0))) (af 2)) (ak)))))) (ak))))
def bn:List D->R D:=bf 1 2 eo
abbrev lH:DU:=lF 26
def pE:aa->R aU:=
 aB (dO (fT (f2 yh (af 1) (dr cO (a7 (af 0) (ak)))))
  (c8 (f2 iW (af 0) (af 1)))
  (aK))
  (c8 (fC (.int 0)))
def bO:List D->R D:=bf 2 2 pE
abbrev iR:DU:=lF 27
def iS:aa->R aU:=
 aB (dO (fT (f2 iK (f2 cf (aZ bO 2 (a7 (ax 0) (a7 (fC (.int 0)) (ak)))) (fC (.int 2))) (fC (.int 0))))
  (c8 (aZ bO 2 (a7 (ax 0) (a7 (ax 1) (ak)))))
  (aK))
  (aB (bQ (f2 cf (f2 m9 (f2 eH (f2 eH (f2 eH (aZ bO 2 (a7 (ax 0) (a7 (ax 1) (ak)))) (f2 ft (aZ bO 2 (a7 (ax 0) (a7 (fC (.int 0)) (ak)))) (fC (.int 2)))) (f2 m9 (fC (.int 7919)) (af 1))) (fC (.int 1))) (fC (.int 48271))) (fC (.int 2147483647))) (gN 2))
  (c8 (f2 cf (f2 m9 (f2 eH (af 2) (af 1)) (fC (.int 69621))) (fC (.int 2147483647)))))
def bp:List D->R D:=bf 2 3 iS
abbrev fH:DU:=lF 28
def dM:aa->R aU:=
 dO (cF (af 1))
  (aB (bQ (f2 cf (f2 m9 (f2 eH (f2 eH (af 0) (f2 m9 (fC (.int 7919)) (af 6))) (fC (.int 1))) (fC (.int 48271))) (fC (.int 2147483647))) (gN 7))
  (li 4 (f2 cf (f2 cf (f2 m9 (f2 eH (af 7) (af 6)) (fC (.int 69621))) (fC (.int 2147483647))) (af 3))))
  (aB (li 4 (f2 cf (af 5) (af 3)))
  (bQ (f2 ft (af 5) (af 3)) (gN 5)))
def fI:aa->R aU:=
 aB (j9 4 (ak))
  (aB (bQ (ax 0) (gN 5))
  (aB (ja (eG (a7 (ax 2) (ak))) (gN 6) (dM))
  (j8 [4] (c8 (ax 4)))))
def bT:List D->R D:=bf 4 8 fI
abbrev gu:DU:=lF 29
def fu (Me:List D->R D):aa->R aU:=
 dO (jA (cF (aZ Me 2 (a7 (f2 iW (af 0) (af 2)) (a7 (f2 iW (af 1) (af 2)) (ak))))))
  (c8 (fC (.bl false)))
  (aK)
def da (Me:List D->R D):aa->R aU:=
 aB (dO (cF (ma "tuple" (af 1)))
  (aB (dO (qq (jA (cF (ma "tuple" (af 0)))) (fT (f2 v_ (dr cO (a7 (af 0) (ak))) (dr cO (a7 (af 1) (ak))))))
  (c8 (fC (.bl false)))
  (aK))
  (aB (ja (eG (a7 (dr cO (a7 (af 1) (ak))) (ak))) (gN 2) (fu Me))
  (c8 (fC (.bl true)))))
  (aK))
  (aB (dO (cF (ma "bool" (af 1)))
  (c8 (lc (ma "bool" (af 0)) (f2 iK (af 0) (af 1))))
  (aK))
  (c8 (lc (ma "int" (af 0)) (lc (mR (ma "bool" (af 0))) (f2 iK (af 0) (af 1))))))
def bP:Nat->List D->R D
 |0=>λ_=> .bad
 |n+1=>bf 2 3 (da (bP n))
def db:List D->R D:=bP 8
abbrev jS:DU:=lF 30
def gw:aa->R aU:=
 dO (qq (fT (f2 sY (af 2) (iF (ak)))) (fT (f2 iK (f2 cf (af 7) (fC (.int 9))) (fC (.int 8)))))
  (li 6 (f2 m8 (f2 ft (af 7) (fC (.int 9))) (fC (.int 1))))
  (li 6 (f2 iW (af 2) (f2 cf (f2 ft (af 7) (fC (.int 9))) (dr cO (a7 (af 2) (ak))))))
def jT:aa->R aU:=
 aB (bQ (aZ bp 2 (a7 (ax 0) (a7 (ax 1) (ak)))) (gN 4))
  (aB (bQ (aZ bT 4 (a7 (f2 ft (af 4) (fC (.int 64))) (a7 (f2 iK (f2 cf (aZ bO 2 (a7 (ax 0) (a7 (fC (.int 0)) (ak)))) (fC (.int 2))) (fC (.int 1))) (a7 (fC (.int 3)) (a7 (fC (.int 198)) (ak)))))) (gN 5))
  (aB (j9 6 (ak))
  (aB (ja (dD (Ag (af 5) (mW) (kj (f2 cf (f2 ft (af 4) (fC (.int 8))) (fC (.int 4)))))) (gN 7) (gw))
  (aB (iJ 8 (bY ["_law_script","_law_k","_law_there","_law_meters","_law_cell_here","_law_figures_here","_law_row_here","_law_one","_law_bare"] [(".0", .local),("_law_number", .local),("_law_meters", .free)] (dD (ax 2)) (gN 1) (fT (f2 (dE true) (af 1) (af 2))) (ax 1)))
  (aB (dO (fT (f2 iK (f2 cf (af 4) (fC (.int 8))) (fC (.int 5))))
  (j8 [8] (bQ (ax 8) (gN 6)))
  (aK))
  (aB (dO (fT (f2 iK (f2 cf (af 4) (fC (.int 8))) (fC (.int 6))))
  (bQ (Ag (af 8) (mW) (kj (f2 m8 (fC (.int 10)) (dr cO (a7 (af 3) (ak)))))) (gN 6))
  (aK))
  (aB (dO (fT (f2 iK (f2 cf (af 4) (fC (.int 8))) (fC (.int 7))))
  (vh 6 (dr je (a7 (af 3) (ak))))
  (aK))
  (aB (dO (fT (f2 iK (f2 cf (f2 ft (af 4) (fC (.int 32))) (fC (.int 2))) (fC (.int 1))))
  (bQ (xb (af 6)) (gN 6))
  (aK))
  (j8 [6] (c8 (ax 6)))))))))))
def eK:List D->R D:=bf 4 9 jT
abbrev iT:DU:=lF 31
def eZ:aa->R aU:=
 aB (j9 3 (ak))
  (aB (qB 4 (sX RL)
  (aB (dO (cF (af 1))
  (hZ (eX (fC (.str "")) (gL 0 "Cellar" "meters_come" (eV [0] aM 1 (a7 (ax 2) (ak))))))
  (aK))
  (hZ (eX (fC (.str "")) (gL 0 "Cellar" "meters_go" (eV [0] aX 1 (a7 (ax 2) (ak)))))))
  (aB (j9 3 (a7 (lw (tb 3) (af 4)) (a7 (lw (tb 4) (af 4)) (a7 (lw (tb 5) (af 4)) (ak)))))
  (aB (bQ (f2 eH (af 3) (iF (a7 (lw (tb 6) (af 4)) (a7 (lw (tb 8) (af 4)) (a7 (lw (tb 9) (af 4)) (ak)))))) (gN 3))
  (bQ (f2 eH (af 3) (iF (a7 (mR (lw Cp (af 4))) (ak)))) (gN 3)))))
  (aB (bQ (fC (.str "another")) (gN 5))
  (aB (dO (fT (f2 iK (yn (af 3) (fC (.bl true))) (fC (.int 1))))
  (aB (j9 6 (a7 (fC (.str "UnknownStream")) (a7 (fC (.str "Twice")) (a7 (fC (.str "AlreadyMetered")) (a7 (fC (.str "NotMetered")) (a7 (fC (.str "TooManyMeters")) (a7 (fC (.str "TooManyDeeds")) (a7 (ax 5) (ak)))))))))
  (bQ (f2 iW (af 6) (yo (af 3) (fC (.bl true)))) (gN 5)))
  (aK))
  (nc (iF (a7 (ax 5) (a7 (fC .non) (ak))))))))
def dc:List Slot->List D->R (D×List Slot):=gK 1 2 6 eZ
abbrev e_:DU:=lF 32
def lI:aa->R aU:=
 aB (iJ 4 (bY ["_law_there","_law_meters","_law_come","_law_row_here","_law_have"] [(".0", .local),("_law_number", .local),("_law_meters", .free)] (dD (ax 3)) (gN 1) (fT (f2 (dE false) (af 1) (af 2))) (ax 1)))
  (aB (dO (fT (f2 o9 (fL (bY ["_law_there","_law_meters","_law_come","_law_row_here","_law_have"] [(".0", .local),("_law_number", .local),("_law_there", .free)] (dD (ax 3)) (gN 1) (fT (f2 (dE true) (af 1) (af 2))) (ax 1))) (iF (ak))))
  (c8 (fC (.str "UnknownStream")))
  (aK))
  (aB (dO (fT (f2 o9 (fL (bY ["_law_there","_law_meters","_law_come","_law_row_here","_law_have"] [(".0", .local),("_law_number", .local),("_law_row_here", .free)] (dD (ax 3)) (gN 1) (fT (f2 yi (pD (af 2) (ax 1)) (fC (.int 1)))) (ax 1))) (iF (ak))))
  (c8 (fC (.str "Twice")))
  (aK))
  (aB (dO (gg (cF (af 2)) (fT (f2 o9 (af 4) (iF (ak)))))
  (c8 (fC (.str "AlreadyMetered")))
  (aK))
  (aB (dO (gg (jA (cF (af 2))) (fT (f2 yh (dr cO (a7 (af 4) (ak))) (dr cO (a7 (af 3) (ak))))))
  (c8 (fC (.str "NotMetered")))
  (aK))
  (aB (dO (gg (cF (af 2)) (fT (f2 yi (f2 eH (dr cO (a7 (af 1) (ak))) (dr cO (a7 (af 3) (ak)))) (fC (.int 10)))))
  (c8 (fC (.str "TooManyMeters")))
  (aK))
  (c8 (fC (.str ""))))))))
def bW:List D->R D:=bf 4 5 lI
abbrev lJ:DU:=lF 33
def oj:aa->R aU:=
 pC 2 (gL 1 "Cellar" "stream_comes" (eV [1] bd 2 (a7 (f2 cf (af 3) (fC (.int 3))) (a7 (f2 cf (f2 eH (af 3) (fC (.int 1))) (fC (.int 3))) (ak)))))
def qH:aa->R aU:=
 aB (eW (gL 1 "Cellar" "stream_goes" (eV [1] bj 1 (a7 (ax 5) (ak)))))
  (xy 2 (ax 5))
def lK:aa->R aU:=
 aB (j8 [2,7] (bQ (aZ eK 4 (a7 (ax 0) (a7 (ax 3) (a7 (ax 2) (a7 (ax 7) (ak)))))) (gN 8)))
  (aB (bQ (f2 (dE false) (f2 cf (aZ bp 2 (a7 (ax 0) (a7 (ax 3) (ak)))) (fC (.int 8))) (eF (a7 (fC (.int 0)) (a7 (fC (.int 1)) (a7 (fC (.int 2)) (a7 (fC (.int 5)) (a7 (fC (.int 6)) (ak)))))))) (gN 9))
  (aB (j8 [2,7] (bQ (aZ bW 4 (a7 (ax 2) (a7 (ax 7) (a7 (ax 9) (a7 (ax 8) (ak)))))) (gN 10)))
  (aB (dO (gg (fT (f2 iK (af 10) (fC (.str "")))) (fT (f2 x6 (af 6) (fC (.int 60)))))
  (bQ (fC (.str "TooManyDeeds")) (gN 10))
  (aK))
  (aB (pA 11 (eV [1] dc 2 (a7 (ax 9) (a7 (dr je (a7 (af 8) (ak))) (ak)))))
  (aB (dO (qq (fT (f2 v_ (f2 iW (af 11) (fC (.int 0))) (af 10))) (fT (f2 nS (f2 iW (af 11) (fC (.int 1))) (fC .non))))
  (c8 (fC (.bl false)))
  (aK))
  (aB (dO (fT (f2 iK (af 10) (fC (.str ""))))
  (aB (bQ (f2 eH (af 6) (fC (.int 1))) (gN 6))
  (j8 [2] (iJ 7 (bY ["_law_script","_law_cellar","_law_there","_law_k","_law_gone","_law_number","_law_good","_law_meters","_law_row_here","_law_come","_law_word","_law_found","_law_due"] [(".0", .local),("_law_number", .local),("_law_come", .free),("_law_meters", .free),("_law_row_here", .free)] (dD (ax 2)) (gN 1) (qq (gg (fT (f2 (dE false) (af 1) (af 4))) (cF (af 2))) (gg (fT (f2 (dE false) (af 1) (af 3))) (fT (f2 (dE true) (af 1) (af 4))))) (ax 1)))))
  (aK))
  (aB (j8 [2] (iJ 12 (bY ["_law_script","_law_cellar","_law_there","_law_k","_law_gone","_law_number","_law_good","_law_meters","_law_row_here","_law_come","_law_word","_law_found","_law_due"] [(".0", .local),("_law_number", .local),("_law_meters", .free)] (dD (ax 2)) (gN 1) (kt) (eF (a7 (ax 1) (a7 (f2 cf (f2 m8 (af 1) (fC (.int 1))) (fC (.int 3))) (a7 (f2 cf (af 1) (fC (.int 3))) (a7 (f2 (dE false) (af 1) (af 2)) (ak)))))))))
  (dO (o5 [1] (jA (cF (aZ db 2 (a7 (gE "Cellar" "layout" 1 bn (ax 1) ak) (a7 (dr d4 (a7 (af 12) (ak))) (ak)))))))
  (c8 (fC (.bl false)))
  (aK)))))))))
def vF:aa->R aU:=
 aB (o7 1 "Cellar" 1 cm (a7 (fC (.int 2)) (ak)))
  (aB (j9 2 (ak))
  (aB (ja (eG (a7 (f2 cf (aZ bp 2 (a7 (ax 0) (a7 (fC (.int 1)) (ak)))) (fC (.int 13))) (ak))) (gN 3) (oj))
  (aB (bQ (aZ bT 4 (a7 (aZ bp 2 (a7 (ax 0) (a7 (fC (.int 2)) (ak)))) (a7 (f2 iK (f2 cf (aZ bO 2 (a7 (ax 0) (a7 (fC (.int 0)) (ak)))) (fC (.int 2))) (fC (.int 1))) (a7 (dr cO (a7 (af 2) (ak))) (a7 (fC (.int 4)) (ak)))))) (gN 4))
  (aB (ja (dD (fL (bY ["_law_script","_law_cellar","_law_there","_law_k","_law_gone","_law_number","_law_good","_law_meters","_law_row_here","_law_come","_law_word","_law_found","_law_due"] [(".0", .local),("_law_k", .local),("_law_gone", .free)] (eG (a7 (dr cO (a7 (af 2) (ak))) (ak))) (gN 1) (fT (f2 iK (f2 iW (af 2) (af 1)) (fC (.int 0)))) (f2 eH (af 1) (fC (.int 1)))))) (gN 5) (qH))
  (aB (bQ (f2 eH (dr cO (a7 (af 4) (ak))) (pD (af 4) (fC (.int 0)))) (gN 6))
  (aB (j9 7 (ak))
  (aB (ja (nN (a7 (fC (.int 3)) (a7 (dr cO (a7 (af 0) (ak))) (ak)))) (gN 3) (lK))
  (c8 (fC (.bl true))))))))))
def nk:List D->R D:=bf 1 13 vF
end My
namespace My
open PySem PySem.Spec PyProof.Rows L2 L2.Pu
section
variable {P:Dy} {w:DG} {K:Dh} {mg:Dj->Option Di} {base:DE}
abbrev BN:List Dj:=["ValueError","any","bool","int","isinstance","len","list","range","set","tuple"]
theorem fV:aF ["self","came","streams","meters","passed","self.came","self.streams","self.meters","self.passed"] ["self","came","streams","meters","passed"] (ah c_):=⟨rfl,rfl,rfl,by decide+kernel,rfl,by decide+kernel,by decide+kernel⟩
theorem cR:∀g∈(["self.came","self.streams","self.meters","self.passed"]:List Dj),¬kD (ah c_) g:=by unfold kD;decide+kernel
theorem jU (A:lz K mg "Standing" "Standing.__init__" c_ ["self","came","streams","meters","passed"] aY) (B:Bl mg BN):gp P w K mg base 1 "Standing" 4 aE:=by
 refine sT A fV rfl rfl (by decide) (by decide) λC f Kf A outer s H E hC N9 hr=> ?_
 have hu:=cD hr
 have S:=fV
 exact aj (jK 5 hC (N9 "came" (by decide)) (iO (by decide) (by decide) (by decide) (by decide)) (au 1) (hvis:=cR "self.came" (by decide))) (aj (jK 6 hC (N9 "streams" (by decide)) (iO (by decide) (by decide) (by decide) (by decide)) (au 2) (hvis:=cR "self.streams" (by decide))) (aj (jK 7 hC (N9 "meters" (by decide)) (iO (by decide) (by decide) (by decide) (by decide)) (au 3) (hvis:=cR "self.meters" (by decide))) (ar (jK 8 hC (N9 "passed" (by decide)) (iO (by decide) (by decide) (by decide) (by decide)) (au 4) (hvis:=cR "self.passed" (by decide))))))
theorem dk:aF ["self","source","target","number"] ["self","source","target"] (ah c4):=⟨rfl,rfl,rfl,by decide+kernel,rfl,by decide+kernel,by decide+kernel⟩
theorem fW (A:dS K "Standing" "with_stream" "Standing.with_stream" c4 ["self","source","target"]) (B:Bl mg BN) (K6:gp P w K mg base 1 "Standing" 4 aE) (K5:cV K "Standing" aY):cr P w K mg base 3 "Standing" "with_stream" 3 b0:=by
 refine fS A dk rfl rfl λf Kf A outer s H E hr=> ?_
 have hu:=cD hr
 have S:=dk
 exact aj (cb 3 S.nd (aH bu bv (PQ.bo (bg K5 (by decide) (ag 0))) (PQ.bo (av)))) (ar (c9 (lv K6 (hr.mono (by decide)) (a9 (au 3) (a9 (aH bu bv (PQ.bo (bg K5 (by decide) (ag 0))) (PQ.bo (eM (a9 (eM (a9 (au 3) (a9 (au 1) (a9 (au 2) (ao))))) (ao))))) (a9 (bg K5 (by decide) (ag 0)) (a9 (bg K5 (by decide) (ag 0)) (ao))))))))
theorem cL:aF ["self","number","streams","meters"] ["self","number"] (ah bH):=⟨rfl,rfl,rfl,by decide+kernel,rfl,by decide+kernel,by decide+kernel⟩
theorem f6 (A:dS K "Standing" "without_stream" "Standing.without_stream" bH ["self","number"]) (B:Bl mg BN) (K6:gp P w K mg base 1 "Standing" 4 aE) (K5:cV K "Standing" aY):cr P w K mg base 3 "Standing" "without_stream" 2 aQ:=by
 refine fS A cL rfl rfl λf Kf A outer s H E hr=> ?_
 have hu:=cD hr
 have S:=cL
 exact aj (cb 2 S.nd (dC bz dh (B.no "tuple" (by decide)) L2.Pu.bR (aJ (PQ.bo (eP (aL.of rfl (by first|decide+kernel|rfl)) rfl (ee (bg K5 (by decide) (ag 0))) (λ_ _ _=>bG 1 (show ([".0","stream","number"]:List Dj).Nodup by decide+kernel)) (λ_ _ _=>gj (bq qX nR (PQ.bo (jF hu (ag 1) (PQ.bo (av)))) (ag 2))) (λ_ _ _=>au 1))) (aS)))) (aj (cb 3 S.nd (dC bz dh (B.no "tuple" (by decide)) L2.Pu.bR (aJ (PQ.bo (eP (aL.of rfl (by first|decide+kernel|rfl)) rfl (ee (bg K5 (by decide) (ag 0))) (λ_ _ _=>bG 1 (show ([".0","meter","number"]:List Dj).Nodup by decide+kernel)) (λ_ _ _=>gj (bq qX nR (ag 1) (ag 2))) (λ_ _ _=>au 1))) (aS)))) (ar (c9 (lv K6 (hr.mono (by decide)) (a9 (bg K5 (by decide) (ag 0)) (a9 (au 2) (a9 (au 3) (a9 (bg K5 (by decide) (ag 0)) (ao)))))))))
theorem dn:aF ["self","numbers"] ["self","numbers"] (ah c7):=⟨rfl,rfl,rfl,by decide+kernel,rfl,by decide+kernel,by decide+kernel⟩
theorem fX (A:dS K "Standing" "with_meters" "Standing.with_meters" c7 ["self","numbers"]) (B:Bl mg BN) (K6:gp P w K mg base 1 "Standing" 4 aE) (K5:cV K "Standing" aY):cr P w K mg base 3 "Standing" "with_meters" 2 b7:=by
 refine fS A dn rfl rfl λf Kf A outer s H E hr=> ?_
 have hu:=cD hr
 have S:=dn
 exact ar (c9 (lv K6 (hr.mono (by decide)) (a9 (bg K5 (by decide) (ag 0)) (a9 (bg K5 (by decide) (ag 0)) (a9 (aH bu bv (PQ.bo (bg K5 (by decide) (ag 0))) (PQ.bo (dC bz dh (B.no "tuple" (by decide)) L2.Pu.bR (aJ (ag 1) (aS))))) (a9 (bg K5 (by decide) (ag 0)) (ao)))))))
theorem cM:aF ["self","numbers","meters"] ["self","numbers"] (ah bJ):=⟨rfl,rfl,rfl,by decide+kernel,rfl,by decide+kernel,by decide+kernel⟩
theorem f7 (A:dS K "Standing" "without_meters" "Standing.without_meters" bJ ["self","numbers"]) (B:Bl mg BN) (K6:gp P w K mg base 1 "Standing" 4 aE) (K5:cV K "Standing" aY):cr P w K mg base 3 "Standing" "without_meters" 2 aR:=by
 refine fS A cM rfl rfl λf Kf A outer s H E hr=> ?_
 have hu:=cD hr
 have S:=cM
 exact aj (cb 2 S.nd (dC bz dh (B.no "tuple" (by decide)) L2.Pu.bR (aJ (PQ.bo (eP (aL.of rfl (by first|decide+kernel|rfl)) rfl (ee (bg K5 (by decide) (ag 0))) (λ_ _ _=>bG 1 (show ([".0","meter","numbers"]:List Dj).Nodup by decide+kernel)) (λ_ _ _=>gj (kG hu (ag 1) (ag 2))) (λ_ _ _=>au 1))) (aS)))) (ar (c9 (lv K6 (hr.mono (by decide)) (a9 (bg K5 (by decide) (ag 0)) (a9 (bg K5 (by decide) (ag 0)) (a9 (au 2) (a9 (bg K5 (by decide) (ag 0)) (ao))))))))
theorem fY:aF ["tanks","places"] ["tanks","places"] (ah eh):=⟨rfl,rfl,rfl,by decide+kernel,rfl,by decide+kernel,by decide+kernel⟩
theorem jV (A:eT K mg "refuse_places" eh ["tanks","places"]) (B:Bl mg BN) {LA:GC} (Lp:mg "OUTSIDE"=some (.int 0 LA)) (Lj:cU K mg "SamePlace") (KW:cU K mg "UnknownPlace"):bX P w K mg base 1 "refuse_places" 2 cg:=by
 refine eI A fY rfl rfl λf Kf A outer s H E hr=> ?_
 have hu:=cD hr
 have S:=fY
 exact aj (cW (eN (PQ.bo (a_ (ic rfl) kL (B.no "any" (by decide)) L2.Pu.ji (aJ (PQ.bo (eP (aL.of rfl (by first|decide+kernel|rfl)) rfl (ee (au 1)) (λ_ _ _=>bG 1 (show ([".0","place","OUTSIDE","tanks"]:List Dj).Nodup by decide+kernel)) (λ_ _ _=>iH) (λ_ _ _=>Ch (kh oK lj (ag 1) (PQ.bo (j7 rfl Lp))) (uF (kh oM lm (ag 1) (ag 3)))))) (aS))))) (ar (dX KW rfl (a9 (bA) (ao)))) (aW)) (ar (cW (bq eu cX (PQ.bo (jF hu (ag 1) (PQ.bo (av)))) (PQ.bo (jF hu (ag 1) (PQ.bo (av))))) (ar (dX Lj rfl (a9 (bA) (ao)))) (aW)))
theorem fw:aF ["standing","numbers","there"] ["standing","numbers"] (ah dW):=⟨rfl,rfl,rfl,by decide+kernel,rfl,by decide+kernel,by decide+kernel⟩
theorem jk (A:eT K mg "refuse_numbers" dW ["standing","numbers"]) (B:Bl mg BN) (Mf:cU K mg "Twice") (KN:cU K mg "UnknownStream") (K5:cV K "Standing" aY):bX P w K mg base 1 "refuse_numbers" 2 aP:=by
 refine eI A fw rfl rfl λf Kf A outer s H E hr=> ?_
 have hu:=cD hr
 have S:=fw
 exact aj (rC 2 (aL.of rfl (by first|decide+kernel|rfl)) rfl S.nd (ee (bg K5 (by decide) (ag 0))) (λ_ _ _=>bG 1 (show ([".0","stream"]:List Dj).Nodup by decide+kernel)) (λ_ _ _=>iH) (λ_ _ _=>jF hu (ag 1) (PQ.bo (av)))) (aj (cW (eN (PQ.bo (a_ (ic rfl) kL (B.no "any" (by decide)) L2.Pu.ji (aJ (PQ.bo (eP (aL.of rfl (by first|decide+kernel|rfl)) rfl (ee (au 1)) (λ_ _ _=>bG 1 (show ([".0","number","there"]:List Dj).Nodup by decide+kernel)) (λ_ _ _=>iH) (λ_ _ _=>rs hu (ag 1) (ag 2)))) (aS))))) (ar (dX KN rfl (a9 (bA) (ao)))) (aW)) (ar (cW (bq oK lj (PQ.bo (vC rfl (B.no "len" (by decide)) (B.no "set" (by decide)) (ag 1))) (PQ.bo (a_ aO bx (B.no "len" (by decide)) E1 (aJ (ag 1) (aS))))) (ar (dX Mf rfl (a9 (bA) (ao)))) (aW))))
theorem eC:aF ["standing","numbers"] ["standing","numbers"] (ah d5):=⟨rfl,rfl,rfl,by decide+kernel,rfl,by decide+kernel,by decide+kernel⟩
theorem im (A:eT K mg "refuse_unmetered" d5 ["standing","numbers"]) (B:Bl mg BN) (Ld:cU K mg "NotMetered") (K5:cV K "Standing" aY):bX P w K mg base 1 "refuse_unmetered" 2 bD:=by
 refine eI A eC rfl rfl λf Kf A outer s H E hr=> ?_
 have hu:=cD hr
 have S:=eC
 exact ar (cW (eN (PQ.bo (a_ (ic rfl) kL (B.no "any" (by decide)) L2.Pu.ji (aJ (PQ.bo (eP (aL.of rfl (by first|decide+kernel|rfl)) rfl (ee (au 1)) (λ_ _ _=>bG 1 (show ([".0","number","standing"]:List Dj).Nodup by decide+kernel)) (λ_ _ _=>iH) (λ_ _ _=>rs hu (ag 1) (PQ.bo (bg K5 (by decide) (ag 2)))))) (aS))))) (ar (dX Ld rfl (a9 (bA) (ao)))) (aW))
theorem i5:aF ["self","tanks","self.tanks","self.now","self.history"] ["self","tanks"] (ah dY):=⟨rfl,rfl,rfl,by decide+kernel,rfl,by decide+kernel,by decide+kernel⟩
theorem f8:∀g∈(["self.tanks","self.now","self.history"]:List Dj),¬kD (ah dY) g:=by unfold kD;decide+kernel
theorem lL (A:lz K mg "Cellar" "Cellar.__init__" dY ["self","tanks"] ck) (B:Bl mg BN) (K6:gp P w K mg base 1 "Standing" 4 aE) {Le:GC} (L5:mg "MOST_TANKS"=some (.int 7 Le)) (Lq:cU K mg "BadTanks"):pB P w K mg base 3 "Cellar" 1 cm:=by
 refine vB A i5 rfl rfl (by decide) (by decide) (by decide) λC f Kf A outer s H E hC N9 hr=> ?_
 have hu:=cD hr
 have S:=i5
 exact aj (cW (nM.t (uE (bq oK lj (ag 1) (PQ.bo (av))) (oZ (bq oM lm (ag 1) (PQ.bo (j7 rfl L5)))))) (ar (dX Lq rfl (a9 (bA) (ao)))) (aW)) (aj (jK 2 hC (N9 "tanks" (by decide)) (iO (by decide) (by decide) (by decide) (by decide)) (au 1) (hvis:=f8 "self.tanks" (by decide))) (aj (jK 3 hC (N9 "now" (by decide)) (iO (by decide) (by decide) (by decide) (by decide)) (lv K6 (hr.mono (by decide)) (a9 (av) (a9 (eM (ao)) (a9 (eM (ao)) (a9 (eM (ao)) (ao)))))) (hvis:=f8 "self.now" (by decide))) (ar (zR 4 hC (N9 "history" (by decide)) (iO (by decide) (by decide) (by decide) (by decide)) (hvis:=f8 "self.history" (by decide))))))
theorem eD:aF ["self","deed","after"] ["self","deed","after"] (ah d7):=⟨rfl,rfl,rfl,by decide+kernel,rfl,by decide+kernel,by decide+kernel⟩
theorem ip (A:dS K "Cellar" "keep_deed" "Cellar.keep_deed" d7 ["self","deed","after"]) (B:Bl mg BN) {Lf:GC} (L6:mg "MOST_DEEDS"=some (.int 60 Lf)) (KY:cU K mg "TooManyDeeds") (K9:cV K "Cellar" ck):di P w K mg base 1 "Cellar" "keep_deed" 2 aC:=by
 refine hV A eD rfl rfl (by decide) λf Kf A outer s H E hr=> ?_
 have hu:=cD hr
 have S:=eD
 exact aj (cW (bq ua qv (PQ.bo (a_ aO bx (B.no "len" (by decide)) E1 (aJ (zP 0 K9 (by decide)) (aS)))) (PQ.bo (j7 rfl L6))) (ar (dX KY rfl (a9 (bA) (ao)))) (aW)) (aj (vv 0 K9 (by decide) (eM (a9 (au 1) (a9 (dU 0 K9 (by decide)) (ao))))) (ar (vt 0 K9 (by decide) (au 2))))
theorem dN:aF ["self","source","target"] ["self","source","target"] (ah cu):=⟨rfl,rfl,rfl,by decide+kernel,rfl,by decide+kernel,by decide+kernel⟩
theorem gz (A:dS K "Cellar" "stream_comes" "Cellar.stream_comes" cu ["self","source","target"]) (B:Bl mg BN) (KO:bX P w K mg base 1 "refuse_places" 2 cg) (K7:di P w K mg base 1 "Cellar" "keep_deed" 2 aC) (Km:cr P w K mg base 3 "Standing" "with_stream" 3 b0) {KZ:GC} (KP:mg "MOST_STREAMS"=some (.int 12 KZ)) (KD:cU K mg "TooManyStreams") (K9:cV K "Cellar" ck) (K5:cV K "Standing" aY):di P w K mg base 4 "Cellar" "stream_comes" 2 bd:=by
 refine hV A dN rfl rfl (by decide) λf Kf A outer s H E hr=> ?_
 have hu:=cD hr
 have S:=dN
 exact aj (lA (fF KO (hr.mono (by decide)) (a9 (dU 0 K9 (by decide)) (a9 (eM (a9 (au 1) (a9 (au 2) (ao)))) (ao))))) (aj (cW (bq ua qv (PQ.bo (a_ aO bx (B.no "len" (by decide)) E1 (aJ (PQ.bo (bg K5 (by decide) (PQ.bo (dU 0 K9 (by decide))))) (aS)))) (PQ.bo (j7 rfl KP))) (ar (dX KD rfl (a9 (bA) (ao)))) (aW)) (aj (jh (hX 0 K7 (hr.mono (by decide)) (a9 (eM (a9 (bA) (a9 (au 1) (a9 (au 2) (ao))))) (a9 (nZ Km (hr.mono (by decide)) (dU 0 K9 (by decide)) (a9 (au 1) (a9 (au 2) (ao)))) (ao))))) (ar (vw (bg K5 (by decide) (PQ.bo (dU 0 K9 (by decide))))))))
theorem dP:aF ["self","number"] ["self","number"] (ah cJ):=⟨rfl,rfl,rfl,by decide+kernel,rfl,by decide+kernel,by decide+kernel⟩
theorem gO (A:dS K "Cellar" "stream_goes" "Cellar.stream_goes" cJ ["self","number"]) (B:Bl mg BN) (Kd:bX P w K mg base 1 "refuse_numbers" 2 aP) (K7:di P w K mg base 1 "Cellar" "keep_deed" 2 aC) (Kj:cr P w K mg base 3 "Standing" "without_stream" 2 aQ) (K9:cV K "Cellar" ck):di P w K mg base 4 "Cellar" "stream_goes" 1 bj:=by
 refine hV A dP rfl rfl (by decide) λf Kf A outer s H E hr=> ?_
 have hu:=cD hr
 have S:=dP
 exact aj (lA (fF Kd (hr.mono (by decide)) (a9 (dU 0 K9 (by decide)) (a9 (eM (a9 (au 1) (ao))) (ao))))) (ar (jh (hX 0 K7 (hr.mono (by decide)) (a9 (eM (a9 (bA) (a9 (au 1) (ao)))) (a9 (nZ Kj (hr.mono (by decide)) (dU 0 K9 (by decide)) (a9 (au 1) (ao))) (ao))))))
theorem dQ:aF ["self","numbers"] ["self","numbers"] (ah cK):=⟨rfl,rfl,rfl,by decide+kernel,rfl,by decide+kernel,by decide+kernel⟩
theorem gP (A:dS K "Cellar" "meters_come" "Cellar.meters_come" cK ["self","numbers"]) (B:Bl mg BN) (Kd:bX P w K mg base 1 "refuse_numbers" 2 aP) (K7:di P w K mg base 1 "Cellar" "keep_deed" 2 aC) (Kn:cr P w K mg base 3 "Standing" "with_meters" 2 b7) {L7:GC} (K_:mg "MOST_METERS"=some (.int 10 L7)) (KG:cU K mg "AlreadyMetered") (KQ:cU K mg "TooManyMeters") (K9:cV K "Cellar" ck) (K5:cV K "Standing" aY):di P w K mg base 4 "Cellar" "meters_come" 1 aM:=by
 refine hV A dQ rfl rfl (by decide) λf Kf A outer s H E hr=> ?_
 have hu:=cD hr
 have S:=dQ
 exact aj (lA (fF Kd (hr.mono (by decide)) (a9 (dU 0 K9 (by decide)) (a9 (au 1) (ao))))) (aj (cW (rG [0] (eN (PQ.bo (a_ (ic rfl) kL (B.no "any" (by decide)) L2.Pu.ji (aJ (PQ.bo (eP (aL.of rfl (by first|decide+kernel|rfl)) rfl (ee (au 1)) (λ_ _ _=>bG 1 (show ([".0","number","self"]:List Dj).Nodup by decide+kernel)) (λ_ _ _=>iH) (λ_ _ _=>xa hu (ag 1) (PQ.bo (bg K5 (by decide) (PQ.bo (bg K9 (by decide) (ag 2)))))))) (aS)))))) (ar (dX KG rfl (a9 (bA) (ao)))) (aW)) (aj (cW (bq oM lm (PQ.bo (aH bu bv (PQ.bo (a_ aO bx (B.no "len" (by decide)) E1 (aJ (PQ.bo (bg K5 (by decide) (PQ.bo (dU 0 K9 (by decide))))) (aS)))) (PQ.bo (a_ aO bx (B.no "len" (by decide)) E1 (aJ (ag 1) (aS)))))) (PQ.bo (j7 rfl K_))) (ar (dX KQ rfl (a9 (bA) (ao)))) (aW)) (ar (jh (hX 0 K7 (hr.mono (by decide)) (a9 (eM (a9 (bA) (a9 (dC bz dh (B.no "tuple" (by decide)) L2.Pu.bR (aJ (ag 1) (aS))) (ao)))) (a9 (nZ Kn (hr.mono (by decide)) (dU 0 K9 (by decide)) (a9 (au 1) (ao))) (ao))))))))
theorem eE:aF ["self","numbers"] ["self","numbers"] (ah d9):=⟨rfl,rfl,rfl,by decide+kernel,rfl,by decide+kernel,by decide+kernel⟩
theorem iq (A:dS K "Cellar" "meters_go" "Cellar.meters_go" d9 ["self","numbers"]) (B:Bl mg BN) (Kd:bX P w K mg base 1 "refuse_numbers" 2 aP) (Kx:bX P w K mg base 1 "refuse_unmetered" 2 bD) (K7:di P w K mg base 1 "Cellar" "keep_deed" 2 aC) (Kk:cr P w K mg base 3 "Standing" "without_meters" 2 aR) (K9:cV K "Cellar" ck):di P w K mg base 4 "Cellar" "meters_go" 1 aX:=by
 refine hV A eE rfl rfl (by decide) λf Kf A outer s H E hr=> ?_
 have hu:=cD hr
 have S:=eE
 exact aj (lA (fF Kd (hr.mono (by decide)) (a9 (dU 0 K9 (by decide)) (a9 (au 1) (ao))))) (aj (lA (fF Kx (hr.mono (by decide)) (a9 (dU 0 K9 (by decide)) (a9 (au 1) (ao))))) (ar (jh (hX 0 K7 (hr.mono (by decide)) (a9 (eM (a9 (bA) (a9 (dC bz dh (B.no "tuple" (by decide)) L2.Pu.bR (aJ (ag 1) (aS))) (ao)))) (a9 (nZ Kk (hr.mono (by decide)) (dU 0 K9 (by decide)) (a9 (au 1) (ao))) (ao)))))))
theorem fZ:aF ["self","meters"] ["self"] (ah ek):=⟨rfl,rfl,rfl,by decide+kernel,rfl,by decide+kernel,by decide+kernel⟩
theorem jW (A:dS K "Cellar" "layout" "Cellar.layout" ek ["self"]) (B:Bl mg BN) (K9:cV K "Cellar" ck) (K5:cV K "Standing" aY):cr P w K mg base 1 "Cellar" "layout" 1 bn:=by
 refine fS A fZ rfl rfl λf Kf A outer s H E hr=> ?_
 have hu:=cD hr
 have S:=fZ
 exact aj (cb 1 S.nd (bg K5 (by decide) (PQ.bo (bg K9 (by decide) (ag 0))))) (ar (c9 (dC bz dh (B.no "tuple" (by decide)) L2.Pu.bR (aJ (PQ.bo (eP (aL.of rfl (by first|decide+kernel|rfl)) rfl (ee (bg K5 (by decide) (PQ.bo (bg K9 (by decide) (ag 0))))) (λ_ _ _=>bG 1 (show ([".0","stream","meters"]:List Dj).Nodup by decide+kernel)) (λ_ _ _=>iH) (λ_ _ _=>aH bu bv (ag 1) (PQ.bo (eM (a9 (xa hu (PQ.bo (jF hu (ag 1) (PQ.bo (av)))) (ag 2)) (ao))))))) (aS)))))
theorem nl:aF ["_law_script","_law_k"] ["_law_script","_law_k"] (ah lH):=⟨rfl,rfl,rfl,by decide+kernel,rfl,by decide+kernel,by decide+kernel⟩
theorem tq (A:eT K mg "_law_at" lH ["_law_script","_law_k"]) (B:Bl mg BN):bX P w K mg base 1 "_law_at" 2 bO:=by
 refine eI A nl rfl rfl λf Kf A outer s H E hr=> ?_
 have hu:=cD hr
 have S:=nl
 exact aj (cW (bq oK lj (ag 1) (PQ.bo (a_ aO bx (B.no "len" (by decide)) E1 (aJ (ag 0) (aS))))) (ar (c9 (jF hu (ag 0) (ag 1)))) (aW)) (ar (c9 (av)))
theorem kn:aF ["_law_script","_law_k","_law_mixed"] ["_law_script","_law_k"] (ah iR):=⟨rfl,rfl,rfl,by decide+kernel,rfl,by decide+kernel,by decide+kernel⟩
theorem pF (A:eT K mg "_law_cell" iR ["_law_script","_law_k"]) (B:Bl mg BN) (Kp:bX P w K mg base 1 "_law_at" 2 bO):bX P w K mg base 2 "_law_cell" 2 bp:=by
 refine eI A kn rfl rfl λf Kf A outer s H E hr=> ?_
 have hu:=cD hr
 have S:=kn
 exact aj (cW (bq eu cX (PQ.bo (aH bF b8 (PQ.bo (fF Kp (hr.mono (by decide)) (a9 (au 0) (a9 (av) (ao))))) (PQ.bo (av)))) (PQ.bo (av))) (ar (c9 (fF Kp (hr.mono (by decide)) (a9 (au 0) (a9 (au 1) (ao)))))) (aW)) (aj (cb 2 S.nd (aH bF b8 (PQ.bo (aH ie ig (PQ.bo (aH bu bv (PQ.bo (aH bu bv (PQ.bo (aH bu bv (PQ.bo (fF Kp (hr.mono (by decide)) (a9 (au 0) (a9 (au 1) (ao))))) (PQ.bo (aH gf eQ (PQ.bo (fF Kp (hr.mono (by decide)) (a9 (au 0) (a9 (av) (ao))))) (PQ.bo (av)))))) (PQ.bo (aH ie ig (PQ.bo (av)) (ag 1))))) (PQ.bo (av)))) (PQ.bo (av)))) (PQ.bo (av)))) (ar (c9 (aH bF b8 (PQ.bo (aH ie ig (PQ.bo (aH bu bv (ag 2) (ag 1))) (PQ.bo (av)))) (PQ.bo (av))))))
theorem i6:aF ["_law_cell_here","_law_mixed","_law_many","_law_size","_law_found","_law_rest","_law_k","_law_one"] ["_law_cell_here","_law_mixed","_law_many","_law_size"] (ah fH):=⟨rfl,rfl,rfl,by decide+kernel,rfl,by decide+kernel,by decide+kernel⟩
theorem lM (A:eT K mg "_law_figures" fH ["_law_cell_here","_law_mixed","_law_many","_law_size"]) (B:Bl mg BN):bX P w K mg base 1 "_law_figures" 4 bT:=by
 refine eI A i6 rfl rfl λf Kf A outer s H E hr=> ?_
 have hu:=cD hr
 have S:=i6
 exact aj (iG 4 S.nd (ao)) (aj (cb 5 S.nd (au 0)) (aj (mS Fh rfl (jb (B.no "range" (by decide)) (a9 (au 2) (ao))) (bG 6 S.nd) (ar (cW (eN (ag 1)) (aj (cb 7 S.nd (aH bF b8 (PQ.bo (aH ie ig (PQ.bo (aH bu bv (PQ.bo (aH bu bv (ag 0) (PQ.bo (aH ie ig (PQ.bo (av)) (ag 6))))) (PQ.bo (av)))) (PQ.bo (av)))) (PQ.bo (av)))) (ar (jd 4 (aH bF b8 (PQ.bo (aH bF b8 (PQ.bo (aH ie ig (PQ.bo (aH bu bv (ag 7) (ag 6))) (PQ.bo (av)))) (PQ.bo (av)))) (ag 3))))) (aj (jd 4 (aH bF b8 (ag 5) (ag 3))) (ar (cb 5 S.nd (aH gf eQ (ag 5) (ag 3)))))))) (ar (lg [4] (c9 (au 4))))))
theorem ko:aF ["_law_found","_law_due","_law_k"] ["_law_found","_law_due"] (ah gu):=⟨rfl,rfl,rfl,by decide+kernel,rfl,by decide+kernel,by decide+kernel⟩
theorem jl (A:eT K mg "_law_same" gu ["_law_found","_law_due"]) (B:Bl mg BN):∀n:Nat,bX P w K mg base n "_law_same" 2 (bP n)
 |0=>uW A rfl
 |n+1=>by
  have Qs:=jl A B n
  refine eI A ko rfl rfl λf Kf A outer s H E hr=> ?_
  have hu:=cD hr
  have S:=ko
  exact aj (cW (eN (PQ.bo (mV (.inr (.inr (.inr (.inl rfl)))) (B.no "isinstance" (by decide)) (B.no "tuple" (by decide)) L2.Pu.bR (ag 1)))) (aj (cW (nM.t (uE (rq (eN (PQ.bo (mV (.inr (.inr (.inr (.inl rfl)))) (B.no "isinstance" (by decide)) (B.no "tuple" (by decide)) L2.Pu.bR (ag 0))))) (oZ (bq qX nR (PQ.bo (a_ aO bx (B.no "len" (by decide)) E1 (aJ (ag 0) (aS)))) (PQ.bo (a_ aO bx (B.no "len" (by decide)) E1 (aJ (ag 1) (aS)))))))) (ar (c9 (oY))) (aW)) (aj (mS Fh rfl (jb (B.no "range" (by decide)) (a9 (a_ aO bx (B.no "len" (by decide)) E1 (aJ (ag 1) (aS))) (ao))) (bG 2 S.nd) (ar (cW (rq (eN (PQ.bo (fF Qs (hr.mono (by omega)) (a9 (jF hu (ag 0) (ag 2)) (a9 (jF hu (ag 1) (ag 2)) (ao))))))) (ar (c9 (oY))) (aW)))) (ar (c9 (oY))))) (aW)) (aj (cW (eN (PQ.bo (mV (.inl rfl) (B.no "isinstance" (by decide)) (B.no "bool" (by decide)) L2.Pu.jH (ag 1)))) (ar (c9 (uG (mV (.inl rfl) (B.no "isinstance" (by decide)) (B.no "bool" (by decide)) L2.Pu.jH (ag 0)) (uF (kh eu cX (ag 0) (ag 1)))))) (aW)) (ar (c9 (uG (mV (.inr (.inl rfl)) (B.no "isinstance" (by decide)) (B.no "int" (by decide)) L2.Pu.uX (ag 0)) (uG (yf (mV (.inl rfl) (B.no "isinstance" (by decide)) (B.no "bool" (by decide)) L2.Pu.jH (ag 0))) (uF (kh eu cX (ag 0) (ag 1))))))))
theorem pG (A:eT K mg "_law_same" gu ["_law_found","_law_due"]) (B:Bl mg BN):bX P w K mg base 8 "_law_same" 2 db:=(jl A B 8).mono (by decide)
theorem lN:aF ["_law_script","_law_k","_law_there","_law_meters","_law_cell_here","_law_figures_here","_law_row_here","_law_one","_law_bare"] ["_law_script","_law_k","_law_there","_law_meters"] (ah jS):=⟨rfl,rfl,rfl,by decide+kernel,rfl,by decide+kernel,by decide+kernel⟩
theorem qI (A:eT K mg "_law_row" jS ["_law_script","_law_k","_law_there","_law_meters"]) (B:Bl mg BN) (Kt:bX P w K mg base 2 "_law_cell" 2 bp) (Kq:bX P w K mg base 1 "_law_figures" 4 bT) (Kp:bX P w K mg base 1 "_law_at" 2 bO):bX P w K mg base 3 "_law_row" 4 eK:=by
 refine eI A lN rfl rfl λf Kf A outer s H E hr=> ?_
 have hu:=cD hr
 have S:=lN
 exact aj (cb 4 S.nd (fF Kt (hr.mono (by decide)) (a9 (au 0) (a9 (au 1) (ao))))) (aj (cb 5 S.nd (fF Kq (hr.mono (by decide)) (a9 (aH gf eQ (ag 4) (PQ.bo (av))) (a9 (kh eu cX (PQ.bo (aH bF b8 (PQ.bo (fF Kp (hr.mono (by decide)) (a9 (au 0) (a9 (av) (ao))))) (PQ.bo (av)))) (PQ.bo (av))) (a9 (av) (a9 (av) (ao))))))) (aj (iG 6 S.nd (ao)) (aj (mS Fh rfl (ee (rz (ag 5) (uU) (uV (aH bF b8 (PQ.bo (aH gf eQ (ag 4) (PQ.bo (av)))) (PQ.bo (av)))))) (bG 7 S.nd) (ar (cW (nM.t (uE (bq (zM hu) xo (ag 2) (PQ.bo (lb (ao)))) (oZ (bq eu cX (PQ.bo (aH bF b8 (ag 7) (PQ.bo (av)))) (PQ.bo (av)))))) (ar (jd 6 (aH pY nQ (PQ.bo (aH gf eQ (ag 7) (PQ.bo (av)))) (PQ.bo (av))))) (ar (jd 6 (jF hu (ag 2) (PQ.bo (aH bF b8 (PQ.bo (aH gf eQ (ag 7) (PQ.bo (av)))) (PQ.bo (a_ aO bx (B.no "len" (by decide)) E1 (aJ (ag 2) (aS)))))))))))) (aj (qt 8 (aL.of rfl (by first|decide+kernel|rfl)) rfl S.nd (ee (au 2)) (λ_ _ _=>bG 1 (show ([".0","_law_number","_law_meters"]:List Dj).Nodup by decide+kernel)) (λ_ _ _=>gj (kG hu (ag 1) (ag 2))) (λ_ _ _=>au 1)) (aj (cW (bq eu cX (PQ.bo (aH bF b8 (ag 4) (PQ.bo (av)))) (PQ.bo (av))) (ar (lg [8] (cb 6 S.nd (au 8)))) (aW)) (aj (cW (bq eu cX (PQ.bo (aH bF b8 (ag 4) (PQ.bo (av)))) (PQ.bo (av))) (ar (cb 6 S.nd (rz (ag 8) (uU) (uV (aH pY nQ (PQ.bo (av)) (PQ.bo (a_ aO bx (B.no "len" (by decide)) E1 (aJ (ag 3) (aS))))))))) (aW)) (aj (cW (bq eu cX (PQ.bo (aH bF b8 (ag 4) (PQ.bo (av)))) (PQ.bo (av))) (ar (zI 6 S.nd (vg j2 sS (B.no "list" (by decide)) L2.Pu.mX (aJ (ag 3) (aS))))) (aW)) (aj (cW (bq eu cX (PQ.bo (aH bF b8 (PQ.bo (aH gf eQ (ag 4) (PQ.bo (av)))) (PQ.bo (av)))) (PQ.bo (av))) (ar (cb 6 S.nd (B0 (ag 6)))) (aW)) (ar (lg [6] (c9 (au 6))))))))))))
theorem kq:aF ["_law_cellar","_law_come","_law_row_here","_law_kinds","e","_law_word","_law_words"] ["_law_cellar","_law_come","_law_row_here"] (ah iT):=⟨rfl,rfl,rfl,by decide+kernel,rfl,by decide+kernel,by decide+kernel⟩
theorem pH (A:eT K mg "_law_done" iT ["_law_cellar","_law_come","_law_row_here"]) (B:Bl mg BN) (Ku:di P w K mg base 4 "Cellar" "meters_come" 1 aM) (Ky:di P w K mg base 4 "Cellar" "meters_go" 1 aX) (KH:jg K mg "AlreadyMetered" (tb 5)) (Lg:jg K mg "NotMetered" (tb 6)) (L0:jg K mg "TooManyDeeds" (tb 9)) (KR:jg K mg "TooManyMeters" (tb 8)) (Mg:jg K mg "Twice" (tb 4)) (KS:jg K mg "UnknownStream" (tb 3)) (Lh:km K (.type "ValueError") Cp) (L8:pc K mg "CellarError" (sX RL)):Bc P w K mg base 5 "_law_done" 1 2 dc:=by
 refine zN [⟨0,0,[]⟩] A kq rfl rfl (by decide) (by decide) (by decide) λf Kf A outer s H E hr=> ?_
 have hu:=cD hr
 have S:=kq
 exact aj (iG 3 S.nd (ao)) (aj (B7 4 l9 S.nd L8 (λ_ _=>aj (cW (eN (ag 1)) (ar (vx (vy (bA) (hX 0 Ku (hr.mono (by decide)) (a9 (au 2) (ao)))))) (aW)) (ar (vx (vy (bA) (hX 0 Ky (hr.mono (by decide)) (a9 (au 2) (ao))))))) (λ_=>aj (iG 3 S.nd (a9 (jM KS (B.no "isinstance" (by decide)) (ag 4)) (a9 (jM Mg (B.no "isinstance" (by decide)) (ag 4)) (a9 (jM KH (B.no "isinstance" (by decide)) (ag 4)) (ao))))) (aj (cb 3 S.nd (aH bu bv (ag 3) (PQ.bo (lb (a9 (jM Lg (B.no "isinstance" (by decide)) (ag 4)) (a9 (jM KR (B.no "isinstance" (by decide)) (ag 4)) (a9 (jM L0 (B.no "isinstance" (by decide)) (ag 4)) (ao)))))))) (ar (cb 3 S.nd (aH bu bv (ag 3) (PQ.bo (lb (a9 (yf (zH Lh L2.Pu.kx (B.no "ValueError" (by decide)) (B.no "isinstance" (by decide)) (ag 4))) (ao)))))))))) (aj (cb 5 S.nd (bA)) (aj (cW (bq eu cX (PQ.bo (zS (ag 3) (oY))) (PQ.bo (av))) (aj (iG 6 S.nd (a9 (bA) (a9 (bA) (a9 (bA) (a9 (bA) (a9 (bA) (a9 (bA) (a9 (au 5) (ao))))))))) (ar (cb 5 S.nd (jF hu (ag 6) (PQ.bo (zT (ag 3) (oY))))))) (aW)) (ar (vw (lb (a9 (au 5) (a9 (ye) (ao)))))))))
theorem gG:aF ["_law_there","_law_meters","_law_come","_law_row_here","_law_have"] ["_law_there","_law_meters","_law_come","_law_row_here"] (ah e_):=⟨rfl,rfl,rfl,by decide+kernel,rfl,by decide+kernel,by decide+kernel⟩
theorem kB (A:eT K mg "_law_due_word" e_ ["_law_there","_law_meters","_law_come","_law_row_here"]) (B:Bl mg BN):bX P w K mg base 1 "_law_due_word" 4 bW:=by
 refine eI A gG rfl rfl λf Kf A outer s H E hr=> ?_
 have hu:=cD hr
 have S:=gG
 exact aj (qt 4 (aL.of rfl (by first|decide+kernel|rfl)) rfl S.nd (ee (au 3)) (λ_ _ _=>bG 1 (show ([".0","_law_number","_law_meters"]:List Dj).Nodup by decide+kernel)) (λ_ _ _=>gj (zv hu (ag 1) (ag 2))) (λ_ _ _=>au 1)) (aj (cW (bq (qF hu) og (PQ.bo (eP (aL.of rfl (by first|decide+kernel|rfl)) rfl (ee (au 3)) (λ_ _ _=>bG 1 (show ([".0","_law_number","_law_there"]:List Dj).Nodup by decide+kernel)) (λ_ _ _=>gj (kG hu (ag 1) (ag 2))) (λ_ _ _=>au 1))) (PQ.bo (lb (ao)))) (ar (c9 (bA))) (aW)) (aj (cW (bq (qF hu) og (PQ.bo (eP (aL.of rfl (by first|decide+kernel|rfl)) rfl (ee (au 3)) (λ_ _ _=>bG 1 (show ([".0","_law_number","_law_row_here"]:List Dj).Nodup by decide+kernel)) (λ_ _ _=>gj (bq oM lm (PQ.bo (vE (ag 2) (au 1))) (PQ.bo (av)))) (λ_ _ _=>au 1))) (PQ.bo (lb (ao)))) (ar (c9 (bA))) (aW)) (aj (cW (nM.t (mQ (eN (ag 2)) (jB (bq (qF hu) og (ag 4) (PQ.bo (lb (ao))))))) (ar (c9 (bA))) (aW)) (aj (cW (nM.t (mQ (rq (eN (ag 2))) (jB (bq oK lj (PQ.bo (a_ aO bx (B.no "len" (by decide)) E1 (aJ (ag 4) (aS)))) (PQ.bo (a_ aO bx (B.no "len" (by decide)) E1 (aJ (ag 3) (aS)))))))) (ar (c9 (bA))) (aW)) (aj (cW (nM.t (mQ (eN (ag 2)) (jB (bq oM lm (PQ.bo (aH bu bv (PQ.bo (a_ aO bx (B.no "len" (by decide)) E1 (aJ (ag 1) (aS)))) (PQ.bo (a_ aO bx (B.no "len" (by decide)) E1 (aJ (ag 3) (aS)))))) (PQ.bo (av)))))) (ar (c9 (bA))) (aW)) (ar (c9 (bA))))))))
theorem vG:aF ["_law_script","_law_cellar","_law_there","_law_k","_law_gone","_law_number","_law_good","_law_meters","_law_row_here","_law_come","_law_word","_law_found","_law_due"] ["_law_script"] (ah lJ):=⟨rfl,rfl,rfl,by decide+kernel,rfl,by decide+kernel,by decide+kernel⟩
theorem zV {f:Dk} {fd:Ep} (F:re K "law" "law" lJ f fd) (B:Bl mg BN) (L9:pB P w K mg base 3 "Cellar" 1 cm) (Kt:bX P w K mg base 2 "_law_cell" 2 bp) (Ks:di P w K mg base 4 "Cellar" "stream_comes" 2 bd) (Kq:bX P w K mg base 1 "_law_figures" 4 bT) (Kp:bX P w K mg base 1 "_law_at" 2 bO) (Kv:di P w K mg base 4 "Cellar" "stream_goes" 1 bj) (LB:bX P w K mg base 3 "_law_row" 4 eK) (L1:bX P w K mg base 1 "_law_due_word" 4 bW) (Lr:Bc P w K mg base 5 "_law_done" 1 2 dc) (Ls:bX P w K mg base 8 "_law_same" 2 db) (KU:cr P w K mg base 1 "Cellar" "layout" 1 bn):d2 P w K mg base (gW P w) 9 f fd ["_law_script"] (sL K 1 nk):=by
 refine zt F vG rfl rfl λKf A outer s H E hr=> ?_
 have hu:=cD hr
 have S:=vG
 exact aj (xw 1 S.nd L9 (hr.mono (by decide)) (a9 (av) (ao))) (aj (iG 2 S.nd (ao)) (aj (mS Fh rfl (jb (B.no "range" (by decide)) (a9 (aH bF b8 (PQ.bo (fF Kt (hr.mono (by decide)) (a9 (au 0) (a9 (av) (ao))))) (PQ.bo (av))) (ao))) (bG 3 S.nd) (ar (t9 2 (hX 1 Ks (hr.mono (by decide)) (a9 (aH bF b8 (ag 3) (PQ.bo (av))) (a9 (aH bF b8 (PQ.bo (aH bu bv (ag 3) (PQ.bo (av)))) (PQ.bo (av))) (ao))))))) (aj (cb 4 S.nd (fF Kq (hr.mono (by decide)) (a9 (fF Kt (hr.mono (by decide)) (a9 (au 0) (a9 (av) (ao)))) (a9 (kh eu cX (PQ.bo (aH bF b8 (PQ.bo (fF Kp (hr.mono (by decide)) (a9 (au 0) (a9 (av) (ao))))) (PQ.bo (av)))) (PQ.bo (av))) (a9 (a_ aO bx (B.no "len" (by decide)) E1 (aJ (ag 2) (aS))) (a9 (av) (ao))))))) (aj (mS Fh rfl (ee (eP (aL.of rfl (by first|decide+kernel|rfl)) rfl (jb (B.no "range" (by decide)) (a9 (a_ aO bx (B.no "len" (by decide)) E1 (aJ (ag 2) (aS))) (ao))) (λ_ _ _=>bG 1 (show ([".0","_law_k","_law_gone"]:List Dj).Nodup by decide+kernel)) (λ_ _ _=>gj (bq eu cX (PQ.bo (jF hu (ag 2) (ag 1))) (PQ.bo (av)))) (λ_ _ _=>aH bu bv (ag 1) (PQ.bo (av))))) (bG 5 S.nd) (aj (jh (hX 1 Kv (hr.mono (by decide)) (a9 (au 5) (ao)))) (ar (vD 2 (au 5))))) (aj (cb 6 S.nd (aH bu bv (PQ.bo (a_ aO bx (B.no "len" (by decide)) E1 (aJ (ag 4) (aS)))) (PQ.bo (vE (ag 4) (av))))) (aj (iG 7 S.nd (ao)) (aj (mS Fh rfl (uJ (B.no "range" (by decide)) (a9 (av) (a9 (a_ aO bx (B.no "len" (by decide)) E1 (aJ (ag 0) (aS))) (ao)))) (bG 3 S.nd) (aj (lg [2,7] (cb 8 S.nd (fF LB (hr.mono (by decide)) (a9 (au 0) (a9 (au 3) (a9 (au 2) (a9 (au 7) (ao)))))))) (aj (cb 9 S.nd (xa hu (PQ.bo (aH bF b8 (PQ.bo (fF Kt (hr.mono (by decide)) (a9 (au 0) (a9 (au 3) (ao))))) (PQ.bo (av)))) (PQ.bo (eM (a9 (av) (a9 (av) (a9 (av) (a9 (av) (a9 (av) (ao)))))))))) (aj (lg [2,7] (cb 10 S.nd (fF L1 (hr.mono (by decide)) (a9 (au 2) (a9 (au 7) (a9 (au 9) (a9 (au 8) (ao)))))))) (aj (cW (nM.t (mQ (bq eu cX (ag 10) (PQ.bo (bA))) (jB (bq ua qv (ag 6) (PQ.bo (av)))))) (ar (cb 10 S.nd (bA))) (aW)) (aj (zQ 11 S.nd (Co Lr (hr.mono (by decide)) (xr 1 (zO (a9 (au 9) (a9 (dC j2 uS (B.no "list" (by decide)) L2.Pu.mX (aJ (ag 8) (aS))) (ao))))))) (aj (cW (nM.t (uE (bq qX nR (PQ.bo (jF hu (ag 11) (PQ.bo (av)))) (ag 10)) (oZ (bq wj qx (PQ.bo (jF hu (ag 11) (PQ.bo (av)))) (PQ.bo (ye)))))) (ar (c9 (oY))) (aW)) (aj (cW (bq eu cX (ag 10) (PQ.bo (bA))) (aj (cb 6 S.nd (aH bu bv (ag 6) (PQ.bo (av)))) (ar (lg [2] (rC 7 (aL.of rfl (by first|decide+kernel|rfl)) rfl S.nd (ee (au 2)) (λ_ _ _=>bG 1 (show ([".0","_law_number","_law_come","_law_meters","_law_row_here"]:List Dj).Nodup by decide+kernel)) (λ_ _ _=>gj (nM.t (uE (nM.t (mQ (zv hu (ag 1) (ag 4)) (jB (eN (ag 2))))) (oZ (nM.t (mQ (zv hu (ag 1) (ag 3)) (jB (kG hu (ag 1) (ag 4))))))))) (λ_ _ _=>au 1))))) (aW)) (aj (lg [2] (qt 12 (aL.of rfl (by first|decide+kernel|rfl)) rfl S.nd (ee (au 2)) (λ_ _ _=>bG 1 (show ([".0","_law_number","_law_meters"]:List Dj).Nodup by decide+kernel)) (λ_ _ _=>iH) (λ_ _ _=>eM (a9 (au 1) (a9 (aH bF b8 (PQ.bo (aH pY nQ (ag 1) (PQ.bo (av)))) (PQ.bo (av))) (a9 (aH bF b8 (ag 1) (PQ.bo (av))) (a9 (xa hu (ag 1) (ag 2)) (ao)))))))) (ar (cW (rG [1] (rq (eN (PQ.bo (fF Ls (hr.mono (by decide)) (a9 (xj KU (hr.mono (by decide)) (au 1)) (a9 (dC bz dh (B.no "tuple" (by decide)) L2.Pu.bR (aJ (ag 12) (aS))) (ao)))))))) (ar (c9 (oY))) (aW)))))))))))) (ar (c9 (oY))))))))))
theorem zW {l:I0} {h:DE} {fa Kc Kg KI X0 X1 X2 X3 X4 X5 X6 X7 X8 X9:Dk} (X:K.In h) (G:h.Ns Dt mg) (S7:mg "law"=some (.ref fa))
  (LV:DB K Dt "Standing"=some (some (.ref Kc)))
  (Mu:DB K Dt "Cellar"=some (some (.ref Kg)))
  (M4:DB K Dt "CellarError"=some (some (.ref KI)))
  (N:oi K RL [X0,X1,X2,X3,X4,X5,X6,X7,X8,X9])
  (Mv:Fo K Kc JP=true)
  (Mw:FE K Kc=true)
  (Mx:Gi K Kc=true)
  (Mz:DD K (.ref Kc) "__setattr__"=some (some (.builtin "object.__setattr__")))
  (LL:DD K (.ref Kc) "came"=some none)
  (Lu:DD K (.ref Kc) "streams"=some none)
  (Lx:DD K (.ref Kc) "meters"=some none)
  (Ly:DD K (.ref Kc) "passed"=some none)
  (MA:F_ K Kc=true)
  (MB:E8 K (.ref Kc)=true)
  (N0:Fo K Kg JP=true)
  (N1:FE K Kg=true)
  (N2:Gi K Kg=true)
  (N3:DD K (.ref Kg) "__setattr__"=some (some (.builtin "object.__setattr__")))
  (LW:DD K (.ref Kg) "tanks"=some none)
  (Mh:DD K (.ref Kg) "now"=some none)
  (LC:DD K (.ref Kg) "history"=some none)
  (N4:F_ K Kg=true)
  (N6:E8 K (.ref Kg)=true)
  (u1:oh K Kc "__init__" "Standing.__init__" c_)
  (u2:oh K Kc "with_stream" "Standing.with_stream" c4)
  (u3:oh K Kc "without_stream" "Standing.without_stream" bH)
  (u4:oh K Kc "with_meters" "Standing.with_meters" c7)
  (u5:oh K Kc "without_meters" "Standing.without_meters" bJ)
  (u6:UF K "refuse_places" eh)
  (u7:UF K "refuse_numbers" dW)
  (u8:UF K "refuse_unmetered" d5)
  (u9:oh K Kg "__init__" "Cellar.__init__" dY)
  (u10:oh K Kg "keep_deed" "Cellar.keep_deed" d7)
  (u11:oh K Kg "stream_comes" "Cellar.stream_comes" cu)
  (u12:oh K Kg "stream_goes" "Cellar.stream_goes" cJ)
  (S8:oh K Kg "meters_come" "Cellar.meters_come" cK)
  (S9:oh K Kg "meters_go" "Cellar.meters_go" d9)
  (Sa:oh K Kg "layout" "Cellar.layout" ek)
  (Sb:UF K "_law_at" lH)
  (Sd:UF K "_law_cell" iR)
  (Se:UF K "_law_figures" fH)
  (Sf:UF K "_law_same" gu)
  (Sg:UF K "_law_row" jS)
  (Sh:UF K "_law_done" iT)
  (Si:UF K "_law_due_word" e_)
  (Sj:UF K "law" lJ)
  (Z:Ah K)
  (E:qG K [X0,X1,X2,X3,X4,X5,X6,X7,X8,X9])
  (LX:Eo K KI qo "ValueError.__new__"=true)
  (LY:DW K KI (.type "BaseException")=some true)
  (LD:jj K (.ref X5) (·==5) 0 [X0,X1,X2,X3,X4,X5,X6,X7,X8,X9])
  (Mi:jj K (.ref X6) (·==6) 0 [X0,X1,X2,X3,X4,X5,X6,X7,X8,X9])
  (LZ:jj K (.ref X9) (·==9) 0 [X0,X1,X2,X3,X4,X5,X6,X7,X8,X9])
  (LM:jj K (.ref X8) (·==8) 0 [X0,X1,X2,X3,X4,X5,X6,X7,X8,X9])
  (NA:jj K (.ref X4) (·==4) 0 [X0,X1,X2,X3,X4,X5,X6,X7,X8,X9])
  (LN:jj K (.ref X3) (·==3) 0 [X0,X1,X2,X3,X4,X5,X6,X7,X8,X9])
  (Mj:jj K (.type "ValueError") (λ_=>true) 0 [X0,X1,X2,X3,X4,X5,X6,X7,X8,X9])
  (M5:jj K (.ref KI) (λ_=>true) 0 [X0,X1,X2,X3,X4,X5,X6,X7,X8,X9])
  {Lf:GC}
  (Ml:DB K Dt "MOST_DEEDS"=some (some (.int 60 Lf)))
  {L7:GC}
  (M6:DB K Dt "MOST_METERS"=some (some (.int 10 L7)))
  {KZ:GC}
  (L_:DB K Dt "MOST_STREAMS"=some (some (.int 12 KZ)))
  {Le:GC}
  (Mm:DB K Dt "MOST_TANKS"=some (some (.int 7 Le)))
  {LA:GC}
  (N7:DB K Dt "OUTSIDE"=some (some (.int 0 LA)))
  (z0:DB K Dt "ValueError"=some none)
  (z1:DB K Dt "any"=some none)
  (z2:DB K Dt "bool"=some none)
  (z3:DB K Dt "int"=some none)
  (z4:DB K Dt "isinstance"=some none)
  (z5:DB K Dt "len"=some none)
  (z6:DB K Dt "list"=some none)
  (z7:DB K Dt "range"=some none)
  (z8:DB K Dt "set"=some none)
  (z9:DB K Dt "tuple"=some none)
  :∃fd:Ep,(∀(s:Dl) (v:Di),Io s fd ⟨[v],[]⟩ [("_law_script",v)])/\∀base:DE,K.In base->base.Ns Dt mg->d2 l.prog w K mg base (gW l.prog w) 9 fa fd ["_law_script"] (sL K 1 nk):=by
 obtain⟨f0,SR,SS,Sk,Sl,Sm,Sn,So,Sq,SU,a0,l0,c0,k0⟩:=Sj
 have e:=S7.symm.trans (E6 X G a0)
 cases e
 have B:Bl mg BN:=⟨λx hx=>by
  simp only[BN,DN,FU,or_false]at hx
  rcases hx with rfl|rfl|rfl|rfl|rfl|rfl|rfl|rfl|rfl|rfl
  ·exact El X G z0
  ·exact El X G z1
  ·exact El X G z2
  ·exact El X G z3
  ·exact El X G z4
  ·exact El X G z5
  ·exact El X G z6
  ·exact El X G z7
  ·exact El X G z8
  ·exact El X G z9⟩
 have Kz:fR K "Standing" Kc:=⟨LV,Mv,Mw,Mx,Mz⟩
 have LI:∀x∈aY,cC K Kc x:=λx hx=>by
  simp only[aY,DN,FU,or_false]at hx
  rcases hx with rfl|rfl|rfl|rfl
  ·exact LL
  ·exact Lu
  ·exact Lx
  ·exact Ly
 have K5:cV K "Standing" aY:=⟨_,Kz,LI⟩
 have KA:fR K "Cellar" Kg:=⟨Mu,N0,N1,N2,N3⟩
 have Ma:∀x∈ck,cC K Kg x:=λx hx=>by
  simp only[ck,DN,FU,or_false]at hx
  rcases hx with rfl|rfl|rfl
  ·exact LW
  ·exact Mh
  ·exact LC
 have K9:cV K "Cellar" ck:=⟨_,KA,Ma⟩
 have L6:=E6 X G Ml
 have K_:=E6 X G M6
 have KP:=E6 X G L_
 have L5:=E6 X G Mm
 have Lp:=E6 X G N7
 have KG:cU K mg "AlreadyMetered":=dL Z X G N E _ (by decide+kernel)
 have Lq:cU K mg "BadTanks":=dL Z X G N E _ (by decide+kernel)
 have Ld:cU K mg "NotMetered":=dL Z X G N E _ (by decide+kernel)
 have Lj:cU K mg "SamePlace":=dL Z X G N E _ (by decide+kernel)
 have KY:cU K mg "TooManyDeeds":=dL Z X G N E _ (by decide+kernel)
 have KQ:cU K mg "TooManyMeters":=dL Z X G N E _ (by decide+kernel)
 have KD:cU K mg "TooManyStreams":=dL Z X G N E _ (by decide+kernel)
 have Mf:cU K mg "Twice":=dL Z X G N E _ (by decide+kernel)
 have KW:cU K mg "UnknownPlace":=dL Z X G N E _ (by decide+kernel)
 have KN:cU K mg "UnknownStream":=dL Z X G N E _ (by decide+kernel)
 have KH:jg K mg "AlreadyMetered" (tb 5):=fU Z N E (E6 X G (cQ N E "AlreadyMetered" _ rfl).1) (cQ N E "AlreadyMetered" _ rfl).2.1 LD
 have Lg:jg K mg "NotMetered" (tb 6):=fU Z N E (E6 X G (cQ N E "NotMetered" _ rfl).1) (cQ N E "NotMetered" _ rfl).2.1 Mi
 have L0:jg K mg "TooManyDeeds" (tb 9):=fU Z N E (E6 X G (cQ N E "TooManyDeeds" _ rfl).1) (cQ N E "TooManyDeeds" _ rfl).2.1 LZ
 have KR:jg K mg "TooManyMeters" (tb 8):=fU Z N E (E6 X G (cQ N E "TooManyMeters" _ rfl).1) (cQ N E "TooManyMeters" _ rfl).2.1 LM
 have Mg:jg K mg "Twice" (tb 4):=fU Z N E (E6 X G (cQ N E "Twice" _ rfl).1) (cQ N E "Twice" _ rfl).2.1 NA
 have KS:jg K mg "UnknownStream" (tb 3):=fU Z N E (E6 X G (cQ N E "UnknownStream" _ rfl).1) (cQ N E "UnknownStream" _ rfl).2.1 LN
 have Lh:km K (.type "ValueError") Cp:=xA Z N E Mj
 have L8:pc K mg "CellarError" (sX RL):=tj (E6 X G M4) LX LY N M5
 refine⟨Ea "law" "law" (bZ lJ) (aN lJ) (ah lJ) .none Sk Sl Sm Sn So Sq,λs v=> .of_eq rfl,λbase _ _=> ?_⟩
 have K6:gp l.prog w K mg base 1 "Standing" 4 aE:=jU (u1.mk Kz (E6 X G LV) MA MB LI b5) B
 have Km:cr l.prog w K mg base 3 "Standing" "with_stream" 3 b0:=fW (u2.at Kz b3) B K6 K5
 have Kj:cr l.prog w K mg base 3 "Standing" "without_stream" 2 aQ:=f6 (u3.at Kz b2) B K6 K5
 have Kn:cr l.prog w K mg base 3 "Standing" "with_meters" 2 b7:=fX (u4.at Kz b2) B K6 K5
 have Kk:cr l.prog w K mg base 3 "Standing" "without_meters" 2 aR:=f7 (u5.at Kz b2) B K6 K5
 have KO:bX l.prog w K mg base 1 "refuse_places" 2 cg:=jV (u6.at X G b2) B Lp Lj KW
 have Kd:bX l.prog w K mg base 1 "refuse_numbers" 2 aP:=jk (u7.at X G b2) B Mf KN K5
 have Kx:bX l.prog w K mg base 1 "refuse_unmetered" 2 bD:=im (u8.at X G b2) B Ld K5
 have L9:pB l.prog w K mg base 3 "Cellar" 1 cm:=lL (u9.mk KA (E6 X G Mu) N4 N6 Ma b2) B K6 L5 Lq
 have K7:di l.prog w K mg base 1 "Cellar" "keep_deed" 2 aC:=ip (u10.at KA b3) B L6 KY K9
 have Ks:di l.prog w K mg base 4 "Cellar" "stream_comes" 2 bd:=gz (u11.at KA b3) B KO K7 Km KP KD K9 K5
 have Kv:di l.prog w K mg base 4 "Cellar" "stream_goes" 1 bj:=gO (u12.at KA b2) B Kd K7 Kj K9
 have Ku:di l.prog w K mg base 4 "Cellar" "meters_come" 1 aM:=gP (S8.at KA b2) B Kd K7 Kn K_ KG KQ K9 K5
 have Ky:di l.prog w K mg base 4 "Cellar" "meters_go" 1 aX:=iq (S9.at KA b2) B Kd Kx K7 Kk K9
 have KU:cr l.prog w K mg base 1 "Cellar" "layout" 1 bn:=jW (Sa.at KA b1) B K9 K5
 have Kp:bX l.prog w K mg base 1 "_law_at" 2 bO:=tq (Sb.at X G b2) B
 have Kt:bX l.prog w K mg base 2 "_law_cell" 2 bp:=pF (Sd.at X G b2) B Kp
 have Kq:bX l.prog w K mg base 1 "_law_figures" 4 bT:=lM (Se.at X G b4) B
 have Ls:bX l.prog w K mg base 8 "_law_same" 2 db:=pG (Sf.at X G b2) B
 have LB:bX l.prog w K mg base 3 "_law_row" 4 eK:=qI (Sg.at X G b4) B Kt Kq Kp
 have Lr:Bc l.prog w K mg base 5 "_law_done" 1 2 dc:=pH (Sh.at X G b3) B Ku Ky KH Lg L0 KR Mg KS Lh L8
 have L1:bX l.prog w K mg base 1 "_law_due_word" 4 bW:=kB (Si.at X G b4) B
 exact zV (iD (st:=lJ) l0 c0 k0) B L9 Kt Ks Kq Kp Kv LB L1 Lr Ls KU
end
theorem walk {l:I0} {q:Dy} {M7:List Dj} {XP:(Dj->Option Di)->DE->Prop} {YP:DG->DE->Prop} {d:DefRec} {K:Params->Dh} (hn:l.most=some 63) (OG:d.params.defaults=[])
  (hY:∀(w:DG) (h:DE),YP w h->(K w.params).In h) (main:∀ns:List Int,ns.length<=63->nk [.scr ns]= .ok (.bl true))
  (F:∀(w:DG) (mg:Dj->Option Di) (fa:Dk) (h:DE),(K w.params).In h->h.Ns Dt mg->mg d.name=some (.ref fa)->
   ∃fd:Ep,(∀(s:Dl) (u:Di),Io s fd ⟨[u],[]⟩ [("_law_script",u)])/\∀base:DE,(K w.params).In base->base.Ns Dt mg->d2 l.prog w (K w.params) mg base (gW l.prog w) 9 fa fd ["_law_script"] (sL (K w.params) 1 nk)):
  JS q M7 XP YP l.row.toRowW d [] (λf vs=>JB f vs):=
 L2.wL (n:=63) (k:=9) (x:="_law_script") (CX:=λw=>gW l.prog w) (sp:=λw=>sL (K w.params) 1 nk) hn (by decide) OG ⟨rfl,by decide,by decide⟩ hY F (λ_ _ a ns hl _ hS=>zy (main ns hl) hS) λ_ _ _ _ _ z=>L2.Pu.zJ z
end My
namespace My
open PySem PySem.Spec PyProof.Rows L2 L2.Pu
local macro_rules|`(tactic|simp! [$xs,*])=>`(tactic|simp only[aB,bQ,gN,dO,c8,aK,j8,ja,j9,iJ,li,frz,frz1,IB,dD,f2,f1,dr,iF,eF,fL,aZ,lc,x4,mR,CY,fT,cF,gg,qq,jA,a7,ak,ax,af,fC,xb,ai,cA,Ex,Ey,List.set_cons_zero,List.set_cons_succ,v4,v5,v6,DA,GQ,Nat.zero_add,Nat.reduceAdd,if_true,if_false,Ek,Gv,FN,jC,decide_true,decide_false,iL,nX,lp,uZ,mY,B2,mZ,p8,zA,ym,hE,jI,xc,xf,u_,v0,p9,rA,H_,G2,FD,$xs,*])
def cel (ns:List Int) (k:Nat):Int:=ns.getD k 0
theorem rL (ns:List Int) (k:Nat):bO [.scr ns, .int (k:Int)]= .ok (.int (cel ns k)):=by
 unfold bO bf
 simp only[c2,pE,aB,dO,c8,aK,f2,dr,af,fC,fT,a7,ak,zB,mY,B3,DA,GQ,if_true,DH,Fq,E0,Nat.sub_self,EG,Ex,Ey,Slot.data,ai,cA]
 by_cases h:k<ns.length
 ·have h':(k:Int)<(ns.length:Int):=by omega
  simp only[h',decide_true,if_true,hG h,G2,cA,ai]
  simp[cel,h]
 ·have h':¬(k:Int)<(ns.length:Int):=by omega
  simp only[h',decide_false,if_false,Ek,ai]
  simp[cel,HI h]
theorem Cq (ns:List Int):bO [.scr ns, .int 0]= .ok (.int (cel ns 0)):=rL ns 0
def cl (ns:List Int) (k:Nat):Int:=if cel ns 0%2=0 then cel ns k else ((cel ns k+cel ns 0 / 2+7919*(k:Int)+1)*48271%2147483647+(k:Int))*69621%2147483647
theorem jX (ns:List Int) (k:Nat):bp [.scr ns, .int (k:Int)]= .ok (.int (cl ns k)):=by
 refine cP rfl ?_
 show iS [some (.val (.scr ns)),some (.val (.int (k:Int))),none]=_
 by_cases h:cel ns 0%2=0<;>simp! [iS,Cq,rL,h,br (show (0:Int)<2 by decide),fQ (show (0:Int)<2/\(2:Int)<1073741824 by decide),nW (show GR 48271<18446744073709551616 by decide),nW (show GR 69621<18446744073709551616 by decide),uY (show GR 7919<18446744073709551616 by decide),br (show (0:Int)<2147483647 by decide),cl]
theorem pI {g:D->aa->R aa} {gb:aa->R aU} {n:Nat} {P:Nat->aa->Prop} (h:∀k,k<n->∀ρ,P k ρ->∃ρ1 ρ2,g (.int (k:Int)) ρ= .ok ρ1/\(gb ρ1= .ok (.nx ρ2)\/gb ρ1= .ok (.cnt ρ2))/\P (k+1) ρ2):∀(j k:Nat) (ρ:aa),k+j=n->P k ρ->∃ρ',dg g gb ((Ij k j).map λk:Nat=>D.int (k:Int)) ρ= .ok (.nx ρ')/\P n ρ'
 |0,k,ρ,e,hp=>⟨ρ,rfl,by rw[Nat.add_zero]at e;exact e▸hp⟩
 |j+1,k,ρ,e,hp=>by
  obtain⟨ρ1,ρ2,e1,e2,h2⟩:=h k (by omega) ρ hp
  obtain⟨ρ',e3,h3⟩:=pI h j (k+1) ρ2 (by omega) h2
  refine⟨ρ',?_,h3⟩
  rw[List.range'_succ,DH]
  rcases e2 with e2|e2
  ·rw[jf e1 e2,e3]
  ·rw[v3 e1 e2,e3]
theorem rM {g:D->aa->R aa} {gb:aa->R aU} {n:Nat} {P:Nat->aa->Prop} {fs:aa->R (List D)} {ρ:aa} (hf:fs ρ= .ok [.int (n:Int)]) (hn:n<=1000) (h0:P 0 ρ) (h:∀k,k<n->∀ρ,P k ρ->∃ρ1 ρ2,g (.int (k:Int)) ρ= .ok ρ1/\(gb ρ1= .ok (.nx ρ2)\/gb ρ1= .ok (.cnt ρ2))/\P (k+1) ρ2):∃ρ',ja (eG fs) g gb ρ= .ok (.nx ρ')/\P n ρ':=by
 obtain⟨ρ',e,hp⟩:=pI h n 0 ρ (by omega) h0
 rw[<-List.range_eq_range']at e
 exact⟨ρ',(nY (jJ hf (by unfold lim;omega))).trans e,hp⟩
inductive Wf:Nat->D->Prop
 |int (n:Nat) (i:Int):Wf n (.int i)
 |bl (n:Nat) (b:Bool):Wf n (.bl b)
 |tup {n:Nat} {ds:List D}:ds.length<=1000->(∀d∈ds,Wf n d)->Wf (n+1) (.tup ds)
theorem Wf.up {n:Nat} {d:D} (h:Wf n d):∀k,Wf (n+k) d:=by
 induction h with
 |int n i=>exact λk=> .int _ i
 |bl n b=>exact λk=> .bl _ b
 | @tup n ds h1 h2 ih=>exact λk=>by rw[Nat.add_right_comm];exact .tup h1 λd hd=>ih d hd k
theorem tu {Me:List D->R D} {ds:List D} (h:∀d∈ds,Me [d,d]= .ok (.bl true)) {k:Nat} (hk:k<ds.length):
  fu Me [some (.val (.tup ds)),some (.val (.tup ds)),some (.val (.int (k:Int)))]= .ok (.nx [some (.val (.tup ds)),some (.val (.tup ds)),some (.val (.int (k:Int)))]):=by
 have hr:=h ds[k] (HL hk)
 simp only[fu,dO,jA,cF,aZ,a7,ak,f2,af,c8,aK,fC,ai,cA,Ex,Ey,Slot.data,rA,hG hk,DA,GQ,if_true,hr,jC,Gv,Ek,if_false]
theorem nq {Me:List D->R D} {ds:List D} (h:∀d∈ds,Me [d,d]= .ok (.bl true)):∀(ks:List Nat) (x:Option Slot),(∀k∈ks,k<ds.length)->
  ∃y,dg (gN 2) (fu Me) (ks.map λk:Nat=>D.int (k:Int)) [some (.val (.tup ds)),some (.val (.tup ds)),x]= .ok (.nx [some (.val (.tup ds)),some (.val (.tup ds)),y])
 |[],x,_=>⟨x,rfl⟩
 |k::ks,x,hk=>by
  obtain⟨y,e⟩:=nq h ks (some (.val (.int (k:Int)))) λj hj=>hk j (DF _ hj)
  exact⟨y,by rw[DH,jf rfl (tu h (hk k DI)),e]⟩
theorem zX {b:Bool}:p4 "tuple" (.bl b)=some (.bl false):=rfl
theorem zY {b:Bool}:p4 "bool" (.bl b)=some (.bl true):=rfl
theorem xB (n:Nat) (b:Bool):bP (n+1) [.bl b, .bl b]= .ok (.bl true):=by
 refine cP rfl ?_
 show da (bP n) [some (.val (.bl b)),some (.val (.bl b)),none]=_
 simp only[da,aB,dO,c8,aK,cF,ma,af,lc,mR,f2,fT,fC,ai,cA,Ex,Ey,Slot.data,zX,zY,ym,jC,if_true,Ek,if_false,FN,decide_true]
theorem vH (n:Nat) (i:Int):bP (n+1) [.int i, .int i]= .ok (.bl true):=by
 refine cP rfl ?_
 show da (bP n) [some (.val (.int i)),some (.val (.int i)),none]=_
 simp only[da,aB,dO,c8,aK,cF,ma,af,lc,mR,f2,ai,cA,Ex,Ey,Slot.data,zD,zE,zF,jC,Ek,if_false,FN,lp,decide_true]
theorem tw {n:Nat} {d:D} (h:Wf n d):bP (n+1) [d,d]= .ok (.bl true):=by
 induction h with
 |int n i=>exact vH n i
 |bl n b=>exact xB n b
 | @tup n ds h1 h2 ih=>
  obtain⟨y,e⟩:=nq ih (Ef ds.length) none λk hk=>Fj.mp hk
  refine cP rfl ?_
  show da (bP (n+1)) [some (.val (.tup ds)),some (.val (.tup ds)),none]=_
  simp only[da,aB,dO,c8,aK,qq,jA,fT,cF,ma,af,fC,f2,dr,a7,ak,ai,cA,Ex,Ey,Slot.data,zC,jC,if_true,Gv,Ek,if_false,jI,uZ,decide_true,ja]
  rw[jJ (n:=ds.length) (by simp only[a7,ak,dr,af,ai,cA,Ex,Ey,Slot.data,jI]) (by unfold lim;omega),ai,e]
  simp only[ai]
theorem vI {n:Nat} (hn:n<=7) {d:D} (h:Wf n d):db [d,d]= .ok (.bl true):=by
 have:=tw (h.up (7 - n))
 rw[show n+(7 - n)+1=8 by omega]at this
 exact this
abbrev xC:=Int×Int×Int
def jY (r:xC):D:= .tup [.int r.1, .int r.2.1, .int r.2.2]
def jm (n:Int) (now:D):List (Dj×D):=[("tanks", .int n),("now",now)]
def aD (n:Int) (now:D) (hs:List D):Slot:= .cel "Cellar" (jm n now) "history" hs
theorem vJ (n:Int) (now:D):(jm n now).lookup ("tanks":Dj)=some (D.int n):=rfl
theorem ol (n:Int) (now:D):(jm n now).lookup ("now":Dj)=some now:=rfl
theorem xD (n:Int) (now d:D):vr "now" d (jm n now)=jm n d:=rfl
theorem gA {cls g:Dj} {f:aa->R D} {ρ:aa} {fds:List (Dj×D)} {d:D} (h:f ρ= .ok (.ins cls fds)) (h2:fds.lookup g=some d):cG cls g f ρ= .ok d:=by
 unfold cG
 rw[h,ai]
 dsimp only
 rw[if_pos rfl,h2,cA]
theorem kN {i:Nat} {g:Dj} {ρ:aa} {n:Int} {now d:D} {hs:List D} (h:ρ[i]? =some (some (aD n now hs))) (h2:(jm n now).lookup g=some d):cI i "Cellar" g ρ= .ok d:=by
 unfold cI
 rw[h]
 show (if ("Cellar":Dj)="Cellar" then R.of ((jm n now).lookup g)else .bad)=_
 rw[if_pos rfl,h2,cA]
theorem rN {i:Nat} {ρ:aa} {n:Int} {now:D} {hs:List D} (h:ρ[i]? =some (some (aD n now hs))):lB i "Cellar" "history" ρ= .ok (.lst hs):=by
 unfold lB
 rw[h]
 exact if_pos ⟨rfl,rfl⟩
theorem jn {g g':aa->R aU} {ρ ρ':aa} {x:Dj} (h:g ρ= .err x ρ'):aB g g' ρ= .err x ρ':=by
 unfold aB
 rw[h];rfl
theorem pJ {g g':aa->R aU} {ρ ρ':aa} {d:D} (h:g ρ= .ok (.retc d ρ')):aB g g' ρ= .ok (.retc d ρ'):=by
 unfold aB
 rw[h,ai]
theorem mh {gc:aa->R Bool} {g g':aa->R aU} {ρ:aa} (h:gc ρ= .ok true):dO gc g g' ρ=g ρ:=by unfold dO;rw[h,ai];rfl
theorem lO {gc:aa->R Bool} {g g':aa->R aU} {ρ:aa} (h:gc ρ= .ok false):dO gc g g' ρ=g' ρ:=by unfold dO;rw[h,ai];rfl
theorem bE {f:aa->R D} {ρ:aa} {b:Bool} (h:f ρ= .ok (.bl b)):fT f ρ= .ok b:=by unfold fT;rw[h,ai]
theorem vK {f:aa->R D} {ρ:aa} {b:Bool} (h:f ρ= .ok (.bl b)):cF f ρ= .ok b:=by unfold cF;rw[h,ai];rfl
theorem lP {x:Dj} {s:Dj} {ρ:aa}:c3 x (a7 (fC (.str s)) ak) ρ= .err x ρ:=by
 unfold c3 a7 fC ak
 simp only[ai]
 exact if_pos (show 1<=lim by decide)
theorem f9 {fs:aa->R (List D)} {ρ:aa} {ds:List D} (h:fs ρ= .ok ds) (hl:ds.length<=lim):eF fs ρ= .ok (.tup ds):=by unfold eF;rw[h,ai,if_pos hl]
theorem xE {f:aa->R D} {ρ:aa} {d:D} (h:f ρ= .ok d):gF f ρ= .ok (.nx ρ):=by unfold gF;rw[h,ai]
theorem vL {f:aa->R D} {ρ ρ':aa} {x:Dj} (h:f ρ= .err x ρ'):gF f ρ= .err x ρ':=by unfold gF;rw[h];rfl
theorem vM {m:List D->R D} {n:Nat} {fs:aa->R (List D)} {ρ ρ':aa} {ds:List D} {x:Dj} (h:fs ρ= .ok ds) (hl:ds.length=n) (hm:m ds= .err x ρ'):aZ m n fs ρ= .err x ρ:=by
 unfold aZ
 rw[h,ai,if_pos hl,hm]
theorem jp {cls m:Dj} {n:Nat} {r:List D->R D} {fo:aa->R D} {fs:aa->R (List D)} {ρ:aa} {fds:List (Dj×D)} {ds:List D} {z:D} (h1:fo ρ= .ok (.ins cls fds)) (h2:fs ρ= .ok ds) (hl:ds.length+1=n) (e:r (.ins cls fds::ds)= .ok z) (hm:fds.lookup m=none):gE cls m n r fo fs ρ= .ok z:=by
 unfold gE
 rw[h1,ai]
 dsimp only
 rw[if_pos ⟨rfl,hm⟩,h2,ai,if_pos hl,e]
theorem iU {i:Nat} {mf:List Slot->List D->R (D×List Slot)} {k:Nat} {fs:aa->R (List D)} {ρ:aa} {ds:List D} {n n':Int} {now Oe d:D} {hs KC:List D} (h:ρ[i]? =some (some (aD n now hs))) (h2:fs ρ= .ok ds) (hl:ds.length=k) (e:mf [aD n now hs] ds= .ok (d,[aD n' Oe KC])):
  eV [i] mf k fs ρ= .ok (d,ρ.set i (some (aD n' Oe KC))):=by
 unfold eV
 have NB:dI ρ [i]=some [aD n now hs]:=by unfold dI dI;rw[h];rfl
 rw[NB]
 dsimp only
 rw[if_pos ⟨rfl,by simp⟩,h2,ai,if_pos hl,e]
 dsimp only
 rw[if_pos (show List.map Slot.kind [aD n' Oe KC]=List.map Slot.kind [aD n now hs]from rfl)]
 rfl
theorem om {i:Nat} {mf:List Slot->List D->R (D×List Slot)} {k:Nat} {fs:aa->R (List D)} {ρ ρe:aa} {ds:List D} {n:Int} {now:D} {hs:List D} {x:Dj} (h:ρ[i]? =some (some (aD n now hs))) (h2:fs ρ= .ok ds) (hl:ds.length=k) (e:mf [aD n now hs] ds= .err x ρe) (ht:cB 1 ρe=some [aD n now hs]) (hi:ρ.set i (some (aD n now hs))=ρ):
  eV [i] mf k fs ρ= .err x ρ:=by
 unfold eV
 have KC:dI ρ [i]=some [aD n now hs]:=by unfold dI dI;rw[h];rfl
 rw[KC]
 dsimp only
 rw[if_pos ⟨rfl,by simp⟩,h2,ai,if_pos hl,e]
 dsimp only
 rw[show cB [i].length ρe=some [aD n now hs]from ht]
 dsimp only
 rw[if_pos rfl]
 show R.err x (ρ.set i (some (aD n now hs)))=_
 rw[hi]
theorem i7 {i:Nat} {m:Dj} {fx:aa->R (D×aa)} {ρ:aa} {n:Int} {now:D} {hs:List D} (h:ρ[i]? =some (some (aD n now hs))) (h1:m≠"history":=by decide) (h2:(jm n now).lookup m=none:=by rfl):gL i "Cellar" m fx ρ=fx ρ:=by
 unfold gL
 rw[h]
 exact if_pos ⟨rfl,h1,h2⟩
theorem pK {fx:aa->R (D×aa)} {ρ ρ':aa} {d:D} (h:fx ρ= .ok (d,ρ')):eW fx ρ= .ok (.nx ρ'):=by unfold eW;rw[h,ai]
theorem tz {fx:aa->R (D×aa)} {ρ ρ':aa} {x:Dj} (h:fx ρ= .err x ρ'):eW fx ρ= .err x ρ':=by unfold eW;rw[h];rfl
theorem jZ {nm k n:Nat} {g:aa->R aU} {ss ss':List Slot} {ds:List D} {d:D} {ρ:aa} (h:ss.length=nm/\ds.length=k) (e:g (dJ n ss ds)= .ok (.retc d ρ)) (ht:cB nm ρ=some ss'):gK nm k n g ss ds= .ok (d,ss'):=by
 unfold gK
 rw[if_pos h,e]
 dsimp only
 rw[ht]
theorem rO {nm k n:Nat} {g:aa->R aU} {ss ss':List Slot} {ds:List D} {ρ:aa} (h:ss.length=nm/\ds.length=k) (e:g (dJ n ss ds)= .ok (.nx ρ)) (ht:cB nm ρ=some ss'):gK nm k n g ss ds= .ok (.non,ss'):=by
 unfold gK
 rw[if_pos h,e]
 dsimp only
 rw[ht]
theorem lQ {nm k n:Nat} {g:aa->R aU} {ss:List Slot} {ds:List D} {x:Dj} {ρ:aa} (h:ss.length=nm/\ds.length=k) (e:g (dJ n ss ds)= .err x ρ):gK nm k n g ss ds= .err x ρ:=by
 unfold gK
 rw[if_pos h,e]
theorem vN {k n:Nat} {g:aa->R aU} {ds:List D} {x:Dj} {ρ:aa} (h:ds.length=k) (e:g (c2 n ds)= .err x ρ):bf k n g ds= .err x ρ:=by
 unfold bf
 rw[if_pos h,e];rfl
theorem xF {f:aa->R D} {ρ:aa} {d:D} (h:f ρ= .ok d):nc f ρ= .ok (.retc d ρ):=by unfold nc;rw[h,ai]
theorem gH {α:Type} {gt:aa->R Bool} {fe:aa->R D} {enc out:α->D} {p:α->Bool} {a0:Option Slot} {rest:aa}:∀(xs:List α) (v:Option Slot),(∀x∈xs,gt (a0::some (.val (enc x))::rest)= .ok (p x))->(∀x∈xs,p x=true->fe (a0::some (.val (enc x))::rest)= .ok (out x))->
  gZ (gN 1) gt fe (xs.map enc) (a0::v::rest)= .ok ((xs.filter p).map out)
 |[],v,h1,h2=>rfl
 |x::xs,v,h1,h2=>by
  have e1:=h1 x DI
  have ih:=gH (gt:=gt) (fe:=fe) (enc:=enc) (out:=out) (p:=p) (a0:=a0) (rest:=rest) xs (some (.val (enc x))) (λy hy=>h1 y (DF _ hy)) (λy hy=>h2 y (DF _ hy))
  rw[DH,gZ]
  show (gt (a0::some (.val (enc x))::rest)>>=λb=>if b=true then (fe (a0::some (.val (enc x))::rest)>>=λy=>gZ (gN 1) gt fe (xs.map enc) (a0::some (.val (enc x))::rest)>>=λys=> .ok (y::ys))else gZ (gN 1) gt fe (xs.map enc) (a0::some (.val (enc x))::rest))=_
  rw[e1,ai,ih]
  cases q:p x with
  |true=>rw[if_pos rfl,h2 x DI q,ai,ai,Ft,if_pos q];rfl
  |false=>rw[if_neg (by simp),Ft,if_neg (by rw[q];simp)]
theorem iV {α:Type} (xs:List α):xs.filter (λ_=>true)=xs:=by simp
theorem CL {x:D} {r:List D}:iW (.tup (x::r)) (.int 0)=some x:=by
 rw[rA]
 have:=hG (xs:=x::r) (k:=0) (by simp)
 simpa using this
theorem Dc {x y:D} {r:List D}:iW (.tup (x::y::r)) (.int 1)=some y:=by
 rw[rA]
 have:=hG (xs:=x::y::r) (k:=1) (by simp)
 simpa using this
theorem Dd {x:D} {r:List D}:iW (.lst (x::r)) (.int 0)=some x:=by
 rw[p9]
 have:=hG (xs:=x::r) (k:=0) (by simp)
 simpa using this
theorem De {x y:D} {r:List D}:iW (.lst (x::y::r)) (.int 1)=some y:=by
 rw[p9]
 have:=hG (xs:=x::y::r) (k:=1) (by simp)
 simpa using this
theorem oo {r:xC}:iW (jY r) (.int 0)=some (.int r.1):=CL
abbrev Rd:=Int×Int
def zZ (r:Rd):D:= .tup [.int r.1, .int r.2]
structure A1 where
 ss:List xC
 ri:List Int
 rd:List Rd
structure Mo where
 c:Int
 ss:List xC
 ms:List Int
 mm:List Int
 ds:List A1
 dd:List D
def Cr (n:Int) (d:A1):List (Dj×D):=[("tanks", .int n),("streams", .tup (d.ss.map jY)),("rises", .tup (d.ri.map .int)),("readings", .tup (d.rd.map zZ))]
def Be (n:Int) (d:A1):D:= .ins "Day" (Cr n d)
def pT (n:Int) (m:Mo):List (Dj×D):=[("came", .int m.c),("streams", .tup (m.ss.map jY)),("meters", .tup (m.ms.map .int)),("passed", .tup (m.ds.map (Be n)))]
def aT (n:Int) (m:Mo):D:= .ins "Standing" (pT n m)
abbrev Mo.nu (m:Mo):List Int:=m.ss.map (·.1)
theorem jq (n:Int) (m:Mo):(pT n m).lookup ("came":Dj)=some (D.int m.c):=rfl
theorem de (n:Int) (m:Mo):(pT n m).lookup ("streams":Dj)=some (D.tup (m.ss.map jY)):=rfl
theorem dq (n:Int) (m:Mo):(pT n m).lookup ("meters":Dj)=some (D.tup (m.ms.map .int)):=rfl
theorem ik (n:Int) (m:Mo):(pT n m).lookup ("passed":Dj)=some (D.tup (m.ds.map (Be n))):=rfl
def Mo.comes (m:Mo) (a b:Int):Mo:={m with c:=m.c+1,ss:=m.ss++[(m.c+1,a,b)],dd:=m.dd++[.tup [.str "stream comes", .int a, .int b]]}
def Mo.goes (m:Mo) (a:Int):Mo:={m with ss:=m.ss.filter λr=>decide (r.1≠a),ms:=m.ms.filter λx=>decide (x≠a),mm:=m.mm.filter λx=>decide (x≠a),dd:=m.dd++[.tup [.str "stream goes", .int a]]}
def Mo.mcome (m:Mo) (ns:List Int):Mo:={m with ms:=m.ms++ns,mm:=ut (m.mm++ns),dd:=m.dd++[.tup [.str "meters come", .tup (ns.map .int)]]}
def Mo.mgo (m:Mo) (ns:List Int):Mo:={m with ms:=m.ms.filter λx=> !decide (x∈ns),mm:=m.mm.filter λx=> !decide (x∈ns),dd:=m.dd++[.tup [.str "meters go", .tup (ns.map .int)]]}
def Df (rd:List Rd):List Rd:=rd.mergeSort λa b=>decide (a.1<=b.1)
def Mo.passes (m:Mo) (ri:List Int) (rd:List Rd):Mo:={m with ds:=m.ds++[⟨m.ss,ri,Df rd⟩],dd:=m.dd++[.tup [.str "day passes", .tup (ri.map .int), .tup (rd.map zZ)]]}
structure Mo.Ok (m:Mo):Prop where
 inc:m.ss.Pairwise λa b=>a.1<b.1
 le:∀r∈m.ss,r.1<=m.c
 len:m.ss.length<=12
 per:m.mm.Perm m.ms
 nd:m.ms.Nodup
 sub:∀x∈m.ms,x∈m.nu
 ten:m.ms.length<=10
 dl:m.ds.length<=12
theorem kO {fs:aa->R (List D)} {ρ:aa} {a b c d:D} (h:fs ρ= .ok [a,b,c,d]):kl "Standing" 4 aE fs ρ= .ok (.ins "Standing" [("came",a),("streams",b),("meters",c),("passed",d)]):=by
 unfold kl
 rw[h,ai,if_pos (show [a,b,c,d].length=4 from rfl),show aE [a,b,c,d]= .ok [("came",a),("streams",b),("meters",c),("passed",d)]from rfl]
theorem qJ {a b:List D} (h:a.length+b.length<=1000):eH (.tup a) (.tup b)=some (.tup (a++b)):=if_pos (by unfold lim;omega)
theorem vO {a b:Int}:v_ (.int a) (.int b)=some (.bl (decide (a≠b))):=by rw[uZ];first|rfl|simp
section
variable {n:Int} {m:Mo} {hs:List D}
theorem rP {x:List (Option Slot)} {g:Dj} {d:D} (h:(pT n m).lookup g=some d):cG "Standing" g (af 0) (some (.val (aT n m))::x)= .ok d:=gA rfl h
theorem j_ (g:m.Ok) (a b:Int):b0 [aT n m, .int a, .int b]= .ok (aT n (m.comes a b)):=by
 refine cP rfl ?_
 show c5 [some (.val (aT n m)),some (.val (.int a)),some (.val (.int b)),none]=_
 unfold c5
 rw[az (ρ':=[some (.val (aT n m)),some (.val (.int a)),some (.val (.int b)),some (.val (.int (m.c+1)))]) (dG (ay (rP (jq n m)) rfl rfl) rfl)]
 refine lq ((kO (ae rfl (ae (ay (rP (de n m)) (f9 (ds:=[jY (m.c+1,a,b)]) (ae (f9 (ds:=[.int (m.c+1), .int a, .int b]) rfl (show 3<=lim by decide)) rfl) (show 1<=lim by decide)) (qJ (by have:=g.len;simp;omega))) (ae (rP (dq n m)) (ae (rP (ik n m)) rfl))))).trans ?_)
 simp only[aT,pT,Mo.comes,Et,DH,Fq,jY]
theorem oq {x:List (Option Slot)} {g:Dj} {l:List D} (h:(pT n m).lookup g=some (.tup l)):dD (cG "Standing" g (af 0)) (some (.val (aT n m))::x)= .ok l:=by
 unfold dD
 rw[rP h,ai]
theorem ir (g:m.Ok) (a:Int):aQ [aT n m, .int a]= .ok (aT n (m.goes a)):=by
 refine cP rfl ?_
 show bI [some (.val (aT n m)),some (.val (.int a)),none,none]=_
 unfold bI
 rw[az (ρ':=[some (.val (aT n m)),some (.val (.int a)),some (.val (.tup ((m.ss.filter λr=>decide (r.1≠a)).map jY))),none]) (dG (bS (ae (qA (dF (oq (de n m)) (by have:=g.len;simp;unfold lim;omega) (τ:=[none,none,some (.val (.int a))]) rfl (gH (p:=λr:xC=>decide (r.1≠a)) (out:=jY) m.ss none (λr _=>bE (ay (ay rfl rfl oo) rfl vO)) (λr _ _=>rfl)))) rfl) rfl) rfl)]
 rw[az (ρ':=[some (.val (aT n m)),some (.val (.int a)),some (.val (.tup ((m.ss.filter λr=>decide (r.1≠a)).map jY))),some (.val (.tup ((m.ms.filter λr=>decide (r≠a)).map .int)))]) (dG (bS (ae (qA (dF (oq (dq n m)) (by have:=g.ten;simp;unfold lim;omega) (τ:=[none,none,some (.val (.int a))]) rfl (gH (p:=λr:Int=>decide (r≠a)) (out:= .int) m.ms none (λr _=>bE (ay (a:= .int r) rfl rfl vO)) (λr _ _=>rfl)))) rfl) rfl) rfl)]
 exact lq (kO (ae (rP (jq n m)) (ae rfl (ae rfl (ae (rP (ik n m)) rfl)))))
def dR (d:D) (row:List Int):Prop:=d= .lst (row.map .int)\/d= .tup (row.map .int)
theorem dR.seq {d:D} {row:List Int} (h:dR d row) {ρ:aa} {f:aa->R D} (e:f ρ= .ok d):dD f ρ= .ok (row.map .int):=by
 unfold dD
 rw[e]
 rcases h with rfl|rfl<;>rfl
theorem dR.len {d:D} {row:List Int} (h:dR d row):cO [d]=some (.int (row.length:Int)):=by
 rcases h with rfl|rfl
 ·rw[hE,Dp]
 ·rw[jI,Dp]
theorem dR.set {d:D} {row:List Int} (h:dR d row) (hl:row.length<4000) {ρ:aa} {f:aa->R D} (e:f ρ= .ok d):kM f ρ= .ok (.int (L2.dz row)):=by
 unfold kM
 rw[e]
 rcases h with rfl|rfl<;>simp only[ai,gk,hl,if_true]
theorem dR.out {d:D} {row:List Int} (h:dR d row) (k:Int):dE true (.int k) d=some (.bl (!decide (k∈row))):=by
 rcases h with rfl|rfl
 ·exact hJ
 ·exact pb
theorem dR.tup {d:D} {row:List Int} (h:dR d row):d4 [d]=some (.tup (row.map .int)):=by rcases h with rfl|rfl<;>rfl
theorem ka (g:m.Ok) {d:D} {ns:List Int} (h:dR d ns) (hl:ns.length<=100):b7 [aT n m,d]= .ok (aT n (m.mcome ns)):=by
 refine cP rfl (lq ((kO (ae (rP (x:=[some (.val d)]) (jq n m)) (ae (rP (de n m)) (ae (ay (rP (dq n m)) (bS (ae rfl rfl) h.tup) (qJ (by have:=g.ten;simp;omega))) (ae (rP (ik n m)) rfl))))).trans ?_))
 simp only[aT,pT,Mo.mcome,Et]
theorem iu (g:m.Ok) {d:D} {ns:List Int} (h:dR d ns):aR [aT n m,d]= .ok (aT n (m.mgo ns)):=by
 refine cP rfl ?_
 show bK [some (.val (aT n m)),some (.val d),none]=_
 unfold bK
 rw[az (ρ':=[some (.val (aT n m)),some (.val d),some (.val (.tup ((m.ms.filter λr=> !decide (r∈ns)).map .int)))]) (dG (bS (ae (qA (dF (oq (dq n m)) (by have:=g.ten;simp;unfold lim;omega) (τ:=[none,none,some (.val d)]) rfl (gH (p:=λr:Int=> !decide (r∈ns)) (out:= .int) m.ms none (λr _=>bE (ay (a:= .int r) rfl rfl (h.out r))) (λr _ _=>rfl)))) rfl) rfl) rfl)]
 exact lq (kO (ae (rP (jq n m)) (ae (rP (de n m)) (ae rfl (ae (rP (ik n m)) rfl)))))
end
theorem ou:∀(ns Ll:List Int),Ll.Nodup->(ns.foldl Gf Ll).length<=Ll.length+ns.length/\((ns.foldl Gf Ll).length=Ll.length+ns.length<->(Ll++ns).Nodup)
 |[],Ll,h=>⟨by simp,by simpa using h⟩
 |k::ns,Ll,h=>by
  rw[JA]
  unfold Gf
  by_cases hk:k∈Ll
  ·have e:Ll.any (·==k)=true:=EL.mpr ⟨k,hk,by simp⟩
   rw[if_pos e]
   obtain⟨h1,_⟩:=ou ns Ll h
   refine⟨by rw[DA];exact Nat.le_succ_of_le h1,λz=> ?_,λz=> ?_⟩
   ·rw[DA]at z
    have:=h1
    unfold Gf at this
    omega
   ·exact absurd rfl ((Gp.mp z).2.2 k hk k DI)
  ·have e:¬Ll.any (·==k)=true:=λz=>by
    obtain⟨x,hx,Sr⟩:=EL.mp z
    have:x=k:=by simpa using Sr
    exact hk (this▸hx)
   rw[if_neg e]
   have hn:(Ll++[k]).Nodup:=Gp.mpr ⟨h,by simp,λa ha b hb=>by
    have:b=k:=by simpa using hb
    subst this
    intro z
    exact hk (z▸ha)⟩
   obtain⟨h1,h2⟩:=ou ns (Ll++[k]) hn
   rw[E5,FJ]at h1 h2
   rw[Gm]at h2
   rw[DA]
   unfold Gf at h1 h2
   refine⟨by omega,?_⟩
   rw[show Ll.length+(ns.length+1)=Ll.length+1+ns.length by omega]
   exact h2
theorem lR (ns:List Int):(Ef ns.length).map (λi=>ns.getD i 0)=ns:=by
 apply List.ext_getElem
 ·simp
 ·intro i h1 h2
  simp[h2]
theorem pL (ns:List Int):decide ((L2.dz ns:Int)<(ns.length:Int))= !decide ns.Nodup:=by
 have e:L2.dz ns=(ns.foldl Gf []).length:=by
  unfold L2.dz Js
  rw[lR]
 obtain⟨h1,h2⟩:=ou ns [] JO
 rw[GQ,Nat.zero_add]at h1 h2
 rw[H_]at h2
 rw[e]
 by_cases h:ns.Nodup
 ·have:=h2.mpr h
  simp[h,this]
 ·have:(ns.foldl Gf []).length≠ns.length:=λz=>h (h2.mp z)
  simp[h]
  omega
def et (a b:Dj):Dj:=if a="" then b else a
def i8 (b:Bool) (w:Dj):Dj:=if b=true then w else ""
def Bf (r:R D) (w:Dj):Prop:=(w≠""->∃ρ,r= .err w ρ)/\(w=""->r= .ok .non)
def pU (g:aa->R aU) (ρ:aa) (w:Dj) (r:R aU):Prop:=(w≠""->∃ρe,g ρ= .err w ρe/\cB 1 ρe=cB 1 ρ)/\(w=""->g ρ=r)
def qK (r:R (D×List Slot)) (s:Slot) (w:Dj) (a:D) (s':Slot):Prop:=(w≠""->∃ρ,r= .err w ρ/\cB 1 ρ=some [s])/\(w=""->r= .ok (a,[s']))
theorem jr {m:List D->R D} {k:Nat} {fs:aa->R (List D)} {ρ:aa} {ds:List D} {g':aa->R aU} {w w':Dj} {r:R aU} (h:fs ρ= .ok ds) (hl:ds.length=k) (hr:Bf (m ds) w) (h2:pU g' ρ w' r):pU (aB (gF (aZ m k fs)) g') ρ (et w w') r:=by
 by_cases e:w=""
 ·have:aB (gF (aZ m k fs)) g' ρ=g' ρ:=az (xE (dH h hl (hr.2 e)))
  unfold et pU
  rw[if_pos e,this];exact h2
 ·unfold et
  rw[if_neg e]
  obtain⟨ρe,e1⟩:=hr.1 e
  exact⟨λ_=>⟨ρ,jn (vL (vM h hl e1)),rfl⟩,λz=>absurd z e⟩
theorem lS {t:aa->R Bool} {ρ:aa} {b:Bool} {x s w':Dj} {g':aa->R aU} {r:R aU} (h:t ρ= .ok b) (h2:pU g' ρ w' r) (hx:x≠"":=by decide):pU (aB (dO t (c3 x (a7 (fC (.str s)) ak)) aK) g') ρ (et (i8 b x) w') r:=by
 cases b with
 |true=>
  have:et (i8 true x) w'=x:=by unfold et i8;rw[if_pos rfl,if_neg hx]
  rw[this]
  exact⟨λ_=>⟨ρ,jn (by rw[mh h];exact lP),rfl⟩,λz=>absurd z hx⟩
 |false=>
  have:et (i8 false x) w'=w':=rfl
  have e:aB (dO t (c3 x (a7 (fC (.str s)) ak)) aK) g' ρ=g' ρ:=az (by rw[lO h];rfl)
  unfold pU
  rw[this,e];exact h2
theorem A2 {g g':aa->R aU} {ρ ρ':aa} {w:Dj} {r:R aU} (h:g ρ= .ok (.nx ρ')) (ht:cB 1 ρ'=cB 1 ρ) (h2:pU g' ρ' w r):pU (aB g g') ρ w r:=by
 unfold pU
 rw[az h,<-ht];exact h2
theorem xG {g:aa->R aU} {ρ ρ':aa} {w:Dj} {f:aa->R D} {d:D} (h:pU g ρ w (.ok (.nx ρ'))) (hf:f ρ'= .ok d):pU (aB g (nc f)) ρ w (.ok (.retc d ρ')):=
 ⟨λz=>by obtain⟨ρe,e,t⟩:=h.1 z;exact⟨ρe,jn e,t⟩,λz=>by rw[az (h.2 z)];exact xF hf⟩
theorem oy {g:aa->R aU} {k n:Nat} {s s':Slot} {ds:List D} {w:Dj} {ρ':aa} (hl:ds.length=k) (h:pU g (dJ n [s] ds) w (.ok (.nx ρ'))) (ht:cB 1 ρ'=some [s']):qK (gK 1 k n g [s] ds) s w .non s':=
 ⟨λz=>by obtain⟨ρe,e,t⟩:=h.1 z;exact⟨ρe,lQ ⟨rfl,hl⟩ e,t⟩,λz=>rO ⟨rfl,hl⟩ (h.2 z) ht⟩
theorem tD {g:aa->R aU} {k n:Nat} {s s':Slot} {ds:List D} {w:Dj} {ρ':aa} {d:D} (hl:ds.length=k) (h:pU g (dJ n [s] ds) w (.ok (.retc d ρ'))) (ht:cB 1 ρ'=some [s']):qK (gK 1 k n g [s] ds) s w d s':=
 ⟨λz=>by obtain⟨ρe,e,t⟩:=h.1 z;exact⟨ρe,lQ ⟨rfl,hl⟩ e,t⟩,λz=>jZ ⟨rfl,hl⟩ (h.2 z) ht⟩
theorem lT {t:aa->R Bool} {ρ:aa} {b:Bool} {x s:Dj} (h:t ρ= .ok b) (hx:x≠"":=by decide):pU (dO t (c3 x (a7 (fC (.str s)) ak)) aK) ρ (i8 b x) (.ok (.nx ρ)):=by
 cases b with
 |true=>exact⟨λ_=>⟨ρ,by rw[mh h];exact lP,rfl⟩,λz=>absurd z hx⟩
 |false=>exact⟨λz=>absurd rfl z,λ_=>by rw[lO h];rfl⟩
theorem qL {g:aa->R aU} {k n:Nat} {ds:List D} {w:Dj} {ρ':aa} (hl:ds.length=k) (h:pU g (c2 n ds) w (.ok (.nx ρ'))):Bf (bf k n g ds) w:=
 ⟨λz=>by obtain⟨ρe,e,_⟩:=h.1 z;exact⟨ρe,vN hl e⟩,λz=>zG hl (h.2 z)⟩
theorem A3 {α:Type} (l:List α) (p:α->Bool):qE [.lst ((l.filter λ_=>true).map λx=>D.bl (p x))]=some (.bl (l.any p)):=by
 rw[iV]
 show (eY (l.map λx=>D.bl (p x))).map (λbs=>D.bl (bs.any id))=_
 rw[show l.map (λx=>D.bl (p x))=(l.map p).map .bl by rw[Fc];rfl,t0]
 show some (D.bl ((l.map p).any id))=_
 rw[List.any_map];rfl
theorem xH {α:Type} {N:List Dj} {names:List (Dj×Ed)} {fi:aa->R (List D)} {fe:aa->R D} {ρ rest:aa} {enc:α->D} {l:List α} {p:α->Bool} (h:fi ρ= .ok (l.map enc)) (hl:l.length<=1000) (hr:gD N names ρ=none::none::rest) (he:∀x∈l,fe (none::some (.val (enc x))::rest)= .ok (.bl (p x))):
  cF (dr qE (a7 (fL (bY N names fi (gN 1) kt fe)) ak)) ρ= .ok (l.any p):=
 vK (bS (ae (qA (dF h (by rw[Dp];unfold lim;omega) hr (gH (p:=λ_=>true) (out:=λx=> .bl (p x)) l none (λr _=>rfl) (λr Of _=>he r Of)))) rfl) (A3 l p))
def Bg (n a:Int):Bool:=decide (a<0)||decide (a>n)
def BH (n a b:Int):Dj:=et (i8 ([a,b].any (Bg n)) "UnknownPlace") (i8 (decide (a=b)) "SamePlace")
theorem qM (n a b:Int):Bf (cg [.int n, .tup [.int a, .int b]]) (BH n a b):=by
 refine qL rfl (lS (ρ:=[some (.val (.int n)),some (.val (.tup [.int a, .int b]))]) (xH (enc:= .int) (l:=[a,b]) rfl (by simp) (rest:=[none,some (.val (.int n))]) rfl λr _=> ?_) (lT (bE (ay (ay rfl rfl CL) (ay rfl rfl Dc) lp))))
 unfold x4
 rw[ay (a:= .int r) (b:= .int 0) rfl rfl mY,ai]
 by_cases h:r<0
 ·simp only[h,decide_true,Bg,JZ]
 ·simp only[h,decide_false,Bg,JV]
  exact ay (a:= .int r) (b:= .int n) rfl rfl mZ
def vP (nu ns:List Int):Dj:=et (i8 (ns.any λx=> !decide (x∈nu)) "UnknownStream") (i8 (!decide ns.Nodup) "Twice")
section
variable {n:Int} {m:Mo} {hs:List D}
theorem Bh {N:List Dj} {names:List (Dj×Ed)} {fi:aa->R (List D)} {ρ rest:aa} (g:m.Ok) (h:fi ρ= .ok (m.ss.map jY)) (hr:gD N names ρ=none::none::rest):bY N names fi (gN 1) kt (f2 iW (af 1) (fC (.int 0))) ρ= .ok (m.nu.map .int):=by
 rw[dF h (by have:=g.len;rw[Dp];unfold lim;omega) hr (gH (p:=λ_=>true) (out:=λr=> .int r.1) m.ss none (λr _=>rfl) (λr _ _=>ay rfl rfl oo)),iV,Fc];rfl
theorem own_of {i:Nat} {f:aa->R (List D)} {ρ:aa} {ds:List D} (h:f ρ= .ok ds):iJ i f ρ= .ok (.nx (ρ.set i (some (.own (.lst ds))))):=by unfold iJ;rw[h,ai]
theorem i9 (g:m.Ok) {d:D} {ns:List Int} (h:dR d ns) (hl:ns.length<=100):Bf (aP [aT n m,d]) (vP m.nu ns):=by
 refine qL rfl (A2 (ρ:=[some (.val (aT n m)),some (.val d),none]) (ρ':=[some (.val (aT n m)),some (.val d),some (.own (.lst (m.nu.map .int)))]) (own_of (Bh g (oq (de n m)) rfl)) rfl (lS (xH (enc:= .int) (l:=ns) (h.seq rfl) (by omega) (rest:=[some (.bor (.lst (m.nu.map .int)))]) rfl λr _=>ay (a:= .int r) (b:= .lst (m.nu.map .int)) rfl rfl hJ) (lT (bE (ay (a:= .int (L2.dz ns)) (h.set (by omega) rfl) (bS (ae rfl rfl) h.len) ?_)))))
 rw[mY,pL]
def xI (ms ns:List Int):Dj:=i8 (ns.any λx=> !decide (x∈ms)) "NotMetered"
theorem mj {d:D} {ns:List Int} (h:dR d ns) (hl:ns.length<=100):Bf (bD [aT n m,d]) (xI m.ms ns):=
 qL rfl (lT (ρ:=[some (.val (aT n m)),some (.val d)]) (xH (enc:= .int) (l:=ns) (h.seq rfl) (by omega) (rest:=[some (.val (aT n m))]) rfl λr _=>ay (a:= .int r) (b:= .tup (m.ms.map .int)) rfl (gA (fds:=pT n m) rfl (dq n m)) pb))
def Dg (i:Int):Bool:=decide (i< -1000)||decide (i>1000)
def CM (ns:List Int):Dj:=i8 (ns.any Dg) "OutOfRange"
def gB (hs:List D):Dj:=i8 (decide ((60:Int)<=(hs.length:Int))) "TooManyDeeds"
theorem tE {now deed after:D}:qK (aC [aD n now hs] [deed,after]) (aD n now hs) (gB hs) .non (aD n after (hs++[.tup [deed,now]])):=by
 by_cases P5:(60:Int)<=(hs.length:Int)
 ·have e1:fT (f2 x6 (dr cO (a7 (lB 0 "Cellar" "history") (ak))) (fC (.int 60))) [some (aD n now hs),some (.val deed),some (.val after)]= .ok true:=bE (ay (bS (ae (rN rfl) rfl) hE) rfl (by rw[p8,decide_eq_true P5]))
  have w:gB hs="TooManyDeeds":=by unfold gB i8;rw[decide_eq_true P5,if_pos rfl]
  rw[w]
  exact⟨λ_=>⟨_,lQ ⟨rfl,rfl⟩ (ρ:=[some (aD n now hs),some (.val deed),some (.val after)]) (jn (by rw[show dJ 2 [aD n now hs] [deed,after]=[some (aD n now hs),some (.val deed),some (.val after)]from rfl,mh e1];exact lP)),rfl⟩,λz=>absurd z (by decide)⟩
 ·have e1:fT (f2 x6 (dr cO (a7 (lB 0 "Cellar" "history") (ak))) (fC (.int 60))) [some (aD n now hs),some (.val deed),some (.val after)]= .ok false:=bE (ay (bS (ae (rN rfl) rfl) hE) rfl (by rw[p8,decide_eq_false P5]))
  have w:gB hs="":=by unfold gB i8;rw[decide_eq_false P5];rfl
  rw[w]
  refine⟨λz=>absurd rfl z,λ_=>rO ⟨rfl,rfl⟩ (ρ:=[some (aD n after (hs++[.tup [deed,now]])),some (.val deed),some (.val after)]) ?_ rfl⟩
  show d8 [some (aD n now hs),some (.val deed),some (.val after)]=_
  unfold d8
  rw[az (by rw[lO e1];rfl)]
  have e2:kK 0 "Cellar" "history" (eF (a7 (ax 1) (a7 (cI 0 "Cellar" "now") (ak)))) [some (aD n now hs),some (.val deed),some (.val after)]= .ok (.nx [some (aD n now (hs++[.tup [deed,now]])),some (.val deed),some (.val after)]):=by
   have hf:eF (a7 (ax 1) (a7 (cI 0 "Cellar" "now") (ak))) [some (aD n now hs),some (.val deed),some (.val after)]= .ok (.tup [deed,now]):=f9 (ae rfl (ae (kN (n:=n) (now:=now) (hs:=hs) rfl (ol n now)) rfl)) (show 2<=lim by decide)
   show (if ("Cellar":Dj)="Cellar"/\("history":Dj)="history" then (eF (a7 (ax 1) (a7 (cI 0 "Cellar" "now") (ak))) [some (aD n now hs),some (.val deed),some (.val after)]>>=λd=>if hs.length<lim then R.ok (aU.nx ([some (aD n now hs),some (.val deed),some (.val after)].set 0 (some (.cel "Cellar" (jm n now) "history" (hs++[d])))))else .bad)else .bad)=_
   rw[if_pos ⟨rfl,rfl⟩,hf,ai,if_pos (by unfold lim;omega)]
   rfl
  rw[az e2]
  show ((ax 2:aa->R D) [some (aD n now (hs++[.tup [deed,now]])),some (.val deed),some (.val after)]>>=λd=>if ("Cellar":Dj)="Cellar"/\((jm n now).lookup ("now":Dj)).isSome=true/\(jm n now).length<900 then R.ok (aU.nx ([some (aD n now (hs++[.tup [deed,now]])),some (.val deed),some (.val after)].set 0 (some (.cel "Cellar" (vr "now" d (jm n now)) "history" (hs++[.tup [deed,now]])))))else .bad)=_
  rw[show (ax 2:aa->R D) [some (aD n now (hs++[.tup [deed,now]])),some (.val deed),some (.val after)]= .ok after from rfl,ai,if_pos ⟨rfl,by rw[ol];rfl,show 2<900 by decide⟩,xD]
  rfl
theorem js {now deed after:D} {fs:aa->R (List D)} {rest:aa} (h:fs (some (aD n now hs)::rest)= .ok [deed,after]):pU (eW (gL 0 "Cellar" "keep_deed" (eV [0] aC 2 fs))) (some (aD n now hs)::rest) (gB hs) (.ok (.nx (some (aD n after (hs++[.tup [deed,now]]))::rest))):=by
 have k:=tE (n:=n) (hs:=hs) (now:=now) (deed:=deed) (after:=after)
 refine⟨λz=> ?_,λz=>pK (by rw[i7 (n:=n) (now:=now) (hs:=hs) rfl];exact iU (k:=2) (n:=n) (now:=now) (hs:=hs) rfl h rfl (k.2 z))⟩
 obtain⟨ρe,e,t⟩:=k.1 z
 exact⟨_,tz (by rw[i7 (n:=n) (now:=now) (hs:=hs) rfl];exact om (k:=2) (n:=n) (now:=now) (hs:=hs) rfl h rfl e t rfl),rfl⟩
theorem oz {rest:aa}:cI 0 "Cellar" "now" (some (aD n (aT n m) hs)::rest)= .ok (aT n m):=kN (n:=n) (now:=aT n m) (hs:=hs) rfl (ol n _)
theorem Bi {now:D} {rest:aa}:cI 0 "Cellar" "tanks" (some (aD n now hs)::rest)= .ok (.int n):=kN (n:=n) (now:=now) (hs:=hs) rfl (vJ n _)
theorem CN {rest:aa} {g:Dj} {d:D} (h:(pT n m).lookup g=some d):cG "Standing" g (cI 0 "Cellar" "now") (some (aD n (aT n m) hs)::rest)= .ok d:=gA oz h
def oA (a b:Int):D:= .tup [.str "stream comes", .int a, .int b]
def oB (n:Int) (m:Mo) (hs:List D) (a b:Int):Dj:=et (BH n a b) (et (i8 (decide ((12:Int)<=(m.ss.length:Int))) "TooManyStreams") (gB hs))
theorem qN (g:m.Ok) (a b:Int):qK (bd [aD n (aT n m) hs] [.int a, .int b]) (aD n (aT n m) hs) (oB n m hs a b) (.int (m.c+1)) (aD n (aT n (m.comes a b)) (hs++[.tup [oA a b,aT n m]])):=
 tD rfl (jr (ρ:=[some (aD n (aT n m) hs),some (.val (.int a)),some (.val (.int b))]) (ds:=[.int n, .tup [.int a, .int b]]) (ae Bi (ae (f9 (ds:=[.int a, .int b]) rfl (show 2<=lim by decide)) rfl)) rfl (qM n a b)
  (lS (bE (ay (bS (ae (CN (de n m)) rfl) jI) rfl (by rw[p8,Dp])))
  (xG (js (ae (f9 (ds:=[.str "stream comes", .int a, .int b]) rfl (show 3<=lim by decide)) (ae (jp (n:=3) (fds:=pT n m) (ds:=[.int a, .int b]) oz rfl rfl (j_ g a b) rfl) rfl)))
   (gA (kN (n:=n) (now:=aT n (m.comes a b)) (hs:=hs++[.tup [oA a b,aT n m]]) rfl (ol n _)) (jq n (m.comes a b)))))) rfl
def pM (a:Int):D:= .tup [.str "stream goes", .int a]
def rQ (m:Mo) (hs:List D) (a:Int):Dj:=et (vP m.nu [a]) (gB hs)
theorem tF (g:m.Ok) (a:Int):qK (bj [aD n (aT n m) hs] [.int a]) (aD n (aT n m) hs) (rQ m hs a) .non (aD n (aT n (m.goes a)) (hs++[.tup [pM a,aT n m]])):=
 oy rfl (jr (ρ:=[some (aD n (aT n m) hs),some (.val (.int a))]) (ds:=[aT n m, .tup [.int a]]) (ae oz (ae (f9 (ds:=[.int a]) rfl (show 1<=lim by decide)) rfl)) rfl (i9 g (ns:=[a]) (.inr rfl) (by simp))
  (js (ae (f9 (ds:=[.str "stream goes", .int a]) rfl (show 2<=lim by decide)) (ae (jp (n:=2) (fds:=pT n m) (ds:=[.int a]) oz rfl rfl (ir g a) rfl) rfl)))) rfl
def qO (ns:List Int):D:= .tup [.str "meters come", .tup (ns.map .int)]
def lU (m:Mo) (hs:List D) (ns:List Int):Dj:=et (vP m.nu ns) (et (i8 (ns.any λx=>decide (x∈m.ms)) "AlreadyMetered") (et (i8 (decide ((m.ms.length:Int)+(ns.length:Int)>10)) "TooManyMeters") (gB hs)))
def mn (n:Int) (now:D) (hs:List D):List (Dj×D):=jm n now++[(("history":Dj),D.lst hs)]
theorem lV (g:m.Ok) {d:D} {ns:List Int} (h:dR d ns) (hl:ns.length<=100):qK (aM [aD n (aT n m) hs] [d]) (aD n (aT n m) hs) (lU m hs ns) .non (aD n (aT n (m.mcome ns)) (hs++[.tup [qO ns,aT n m]])):=
 oy rfl (jr (ρ:=[some (aD n (aT n m) hs),some (.val d)]) (ds:=[aT n m,d]) (ae oz rfl) rfl (i9 g h hl)
  (lS (b:=ns.any λx=>decide (x∈m.ms)) (xH (ρ:=[some (.val (.ins "Cellar" (mn n (aT n m) hs))),some (.val d)]) (enc:= .int) (l:=ns) (h.seq rfl) (by omega) (rest:=[some (.val (.ins "Cellar" (mn n (aT n m) hs)))]) rfl λr _=>ay (a:= .int r) (b:= .tup (m.ms.map .int)) rfl (gA (fds:=pT n m) (gA (fds:=mn n (aT n m) hs) rfl rfl) (dq n m)) v1)
  (lS (bE (ay (ay (bS (ae (CN (dq n m)) rfl) jI) (bS (ae rfl rfl) h.len) iL) rfl (by rw[mZ,Dp])))
  (js (ae (f9 (ds:=[.str "meters come", .tup (ns.map .int)]) (ae rfl (ae (bS (ae rfl rfl) h.tup) rfl)) (show 2<=lim by decide)) (ae (jp (n:=2) (fds:=pT n m) (ds:=[d]) oz rfl rfl (ka g h hl) rfl) rfl)))))) rfl
def A4 (ns:List Int):D:= .tup [.str "meters go", .tup (ns.map .int)]
def vQ (m:Mo) (hs:List D) (ns:List Int):Dj:=et (vP m.nu ns) (et (xI m.ms ns) (gB hs))
theorem pN (g:m.Ok) {d:D} {ns:List Int} (h:dR d ns) (hl:ns.length<=100):qK (aX [aD n (aT n m) hs] [d]) (aD n (aT n m) hs) (vQ m hs ns) .non (aD n (aT n (m.mgo ns)) (hs++[.tup [A4 ns,aT n m]])):=
 oy rfl (jr (ρ:=[some (aD n (aT n m) hs),some (.val d)]) (ds:=[aT n m,d]) (ae oz rfl) rfl (i9 g h hl)
  (jr (ds:=[aT n m,d]) (ae oz rfl) rfl (mj h hl)
  (js (ae (f9 (ds:=[.str "meters go", .tup (ns.map .int)]) (ae rfl (ae (bS (ae rfl rfl) h.tup) rfl)) (show 2<=lim by decide)) (ae (jp (n:=2) (fds:=pT n m) (ds:=[d]) oz rfl rfl (iu g h) rfl) rfl))))) rfl
end
def xJ (d:D) (rd:List Rd):Prop:=d= .lst (rd.map zZ)\/d= .tup (rd.map zZ)
theorem xJ.seq {d:D} {rd:List Rd} (h:xJ d rd) {ρ:aa} {f:aa->R D} (e:f ρ= .ok d):dD f ρ= .ok (rd.map zZ):=by
 unfold dD
 rw[e]
 rcases h with rfl|rfl<;>rfl
theorem xJ.tup {d:D} {rd:List Rd} (h:xJ d rd):d4 [d]=some (.tup (rd.map zZ)):=by rcases h with rfl|rfl<;>rfl
theorem yp {α:Type} {N:List Dj} {names:List (Dj×Ed)} {fi:aa->R (List D)} {fe:aa->R D} {ρ rest:aa} {enc out:α->D} {l:List α} (h:fi ρ= .ok (l.map enc)) (hl:l.length<=1000) (hr:gD N names ρ=none::none::rest) (he:∀x∈l,fe (none::some (.val (enc x))::rest)= .ok (out x)):
  bY N names fi (gN 1) kt fe ρ= .ok (l.map out):=by
 rw[dF h (by rw[Dp];unfold lim;omega) hr (gH (p:=λ_=>true) (out:=out) l none (λr _=>rfl) (λr Of _=>he r Of)),iV]
theorem qP {nu ns:List Int} (h:vP nu ns=""):ns.Nodup/\∀x∈ns,x∈nu:=by
 unfold vP et i8 at h
 by_cases a:(ns.any λx=> !decide (x∈nu))=true
 ·rw[if_pos a,if_neg (by decide)]at h;exact absurd h (by decide)
 ·rw[if_neg a,if_pos rfl]at h
  by_cases b:ns.Nodup
  ·refine⟨b,λx hx=> ?_⟩
   by_cases c:x∈nu
   ·exact c
   ·exact absurd (EL.mpr ⟨x,hx,by simp[c]⟩) a
  ·rw[decide_eq_false b]at h;exact absurd h (by decide)
section
variable {n:Int} {m:Mo} {hs:List D}
def Bj (ri:List Int) (rd:List Rd):D:= .tup [.str "day passes", .tup (ri.map .int), .tup (rd.map zZ)]
def Bk (n:Int) (m:Mo) (hs:List D) (ri:List Int) (rd:List Rd):Dj:=et (i8 (!decide ((ri.length:Int)=n)) "WrongRises") (et (vP m.nu (rd.map (·.1))) (et (xI m.ms (rd.map (·.1))) (et (i8 (m.ms.any λx=> !decide (x∈rd.map (·.1))) "ReadingMissing") (et (CM ri) (et (CM (rd.map (·.2))) (et (i8 (decide ((12:Int)<=(m.ds.length:Int))) "TooManyDays") (gB hs)))))))
def qQ (ms:List Int) (r:xC):D:= .tup [.int r.1, .int r.2.1, .int r.2.2, .bl (decide (r.1∈ms))]
theorem pO (g:m.Ok):bn [.ins "Cellar" (mn n (aT n m) hs)]= .ok (.tup (m.ss.map (qQ m.ms))):=by
 refine cP rfl ?_
 show eo [some (.val (.ins "Cellar" (mn n (aT n m) hs))),none]=_
 unfold eo
 have nw:∀{x:Option Slot},cG "Cellar" "now" (af 0) [some (.val (.ins "Cellar" (mn n (aT n m) hs))),x]= .ok (aT n m):=λ{x}=>gA (fds:=mn n (aT n m) hs) rfl rfl
 rw[az (ρ':=[some (.val (.ins "Cellar" (mn n (aT n m) hs))),some (.val (.tup (m.ms.map .int)))]) (dG (gA nw (dq n m)) rfl)]
 refine lq (bS (ae (qA (yp (enc:=jY) (l:=m.ss) (by unfold dD;rw[gA nw (de n m)];rfl) (by have:=g.len;omega) (rest:=[some (.val (.tup (m.ms.map .int)))]) rfl λr _=>ay (a:=jY r) (b:= .tup [.bl (decide (r.1∈m.ms))]) rfl (f9 (ds:=[.bl (decide (r.1∈m.ms))]) (ae (ay (ay rfl rfl oo) rfl v1) rfl) (show 1<=lim by decide)) (qJ (by simp[jY])))) rfl) rfl)
end
section
variable {n:Int} {m:Mo} {hs:List D}
theorem Mo.Ok.mem (g:m.Ok) (x:Int):decide (x∈m.mm)=decide (x∈m.ms):=decide_eq_decide.mpr g.per.mem_iff
def Ai (g:aa->R aU) (ρ:aa) (w:Dj):Prop:=g ρ= .ok (.ret (.str w))
theorem lW {t:aa->R Bool} {ρ:aa} {b:Bool} {x w':Dj} {g':aa->R aU} (h:t ρ= .ok b) (h2:Ai g' ρ w') (hx:x≠"":=by decide):Ai (aB (dO t (c8 (fC (.str x))) aK) g') ρ (et (i8 b x) w'):=by
 cases b with
 |true=>
  have:et (i8 true x) w'=x:=by unfold et i8;rw[if_pos rfl,if_neg hx]
  unfold Ai
  rw[this];exact xi (by rw[mh h];rfl)
 |false=>exact(az (by rw[lO h];rfl)).trans h2
theorem xK {ρ:aa}:Ai (c8 (fC (.str ""))) ρ "":=rfl
theorem A5 {g g':aa->R aU} {ρ ρ':aa} {w:Dj} (h:g ρ= .ok (.nx ρ')) (h2:Ai g' ρ' w):Ai (aB g g') ρ w:=(az h).trans h2
theorem yq (w:Dj):et w ""=w:=by unfold et;split<;>simp_all
theorem rR (a b c:Dj):et (et a b) c=et a (et b c):=by
 unfold et
 by_cases h:a=""
 ·simp[h]
 ·simp[h]
theorem lX {α:Type} (p:α->Bool):∀l:List α,(!(l.filter p).isEmpty)=l.any p
 |[]=>rfl
 |a::l=>by
  rw[EB,Ft]
  cases q:p a with
  |true=>rfl
  |false=>exact lX p l
theorem neC {α:Type} {N:List Dj} {names:List (Dj×Ed)} {fi:aa->R (List D)} {gt:aa->R Bool} {ρ rest:aa} {enc:α->D} {l:List α} {p:α->Bool} (h:fi ρ= .ok (l.map enc)) (hl:l.length<=1000) (hr:gD N names ρ=none::none::rest) (ht:∀x∈l,gt (none::some (.val (enc x))::rest)= .ok (p x)):
  fT (f2 o9 (fL (bY N names fi (gN 1) gt (ax 1))) (iF ak)) ρ= .ok (l.any p):=by
 refine bE (ay (qA (dF h (by rw[Dp];unfold lim;omega) hr (gH (p:=p) (out:=enc) l none (λr Of=>ht r Of) (λr _ _=>rfl)))) rfl ?_)
 show some (D.bl (!((l.filter p).map enc).isEmpty))=_
 congr 2
 rw[Ju]
 rw[lX]
theorem Bm {x y:Dj}:v_ (.str x) (.str y)=some (.bl (!decide (x=y))):=rfl
theorem rS {fo fk:aa->R D} {ρ:aa} {d:D} {ns:List Int} {k:Int} (h:dR d ns) (ho:fo ρ= .ok d) (hk:fk ρ= .ok (.int k)):pD fo fk ρ= .ok (.int (ns.count k)):=by
 unfold pD
 rw[ho,ai]
 rcases h with rfl|rfl
 ·dsimp only
  rw[hk,ai,gk]
 ·dsimp only
  rw[hk,ai,gk]
theorem xL (ns:List Int):(ns.any λx=>decide ((ns.count x:Int)>1))= !decide ns.Nodup:=by
 by_cases h:ns.Nodup
 ·rw[decide_eq_true h,Gv,Bool.eq_false_iff]
  intro z
  obtain⟨x,_,hx⟩:=EL.mp z
  have:=IF.mp h x
  have:=of_decide_eq_true hx
  omega
 ·rw[decide_eq_false h,FN]
  refine EL.mpr ?_
  by_cases z:∃x∈ns,decide ((ns.count x:Int)>1)=true
  ·exact z
  ·refine absurd (IF.mpr λa=> ?_) h
   by_cases ha:a∈ns
   ·have:¬((ns.count a:Int)>1):=λq=>z ⟨a,ha,decide_eq_true q⟩
    omega
   ·rw[List.count_eq_zero_of_not_mem ha];omega
end
section
variable {n:Int} {m:Mo} {hs:List D}
inductive iw where
 |comes (a b:Int)|goes (a:Int)|mcome (ns:List Int)|mgo (ns:List Int)|pass (ri:List Int) (rd:List Rd)|back
def iw.dt:iw->L2.Pu.D
 | .comes a b=>oA a b
 | .goes a=>pM a
 | .mcome ns=>qO ns
 | .mgo ns=>A4 ns
 | .pass ri rd=>Bj ri rd
 | .back=> .tup [.str "take back"]
def iw.W (n:Int) (m:Mo) (hs:List L2.Pu.D):iw->Dj
 | .comes a b=>oB n m hs a b
 | .goes a=>rQ m hs a
 | .mcome ns=>lU m hs ns
 | .mgo ns=>vQ m hs ns
 | .pass ri rd=>Bk n m hs ri rd
 | .back=>i8 (decide (hs.length=0)) "NothingDone"
def iw.next (m:Mo):iw->Mo
 | .comes a b=>m.comes a b
 | .goes a=>m.goes a
 | .mcome ns=>m.mcome ns
 | .mgo ns=>m.mgo ns
 | .pass ri rd=>m.passes ri rd
 | .back=>m
end
theorem bV {a b:Dj} (h:et a b=""):a=""/\b="":=by
 unfold et at h
 split at h
 ·exact⟨by assumption,h⟩
 ·exact absurd h (by assumption)
theorem jt {b:Bool} {x:Dj} (h:i8 b x="") (hx:x≠"":=by decide):b=false:=by
 cases b
 ·rfl
 ·exact absurd h hx
section
variable {n:Int} {m:Mo} {hs:List D}
theorem vR (h:gB hs=""):hs.length<60:=by
 have:=of_decide_eq_false (jt h)
 omega
theorem iw.nodup (ri:List Int) (rd:List Rd) (h:(iw.pass ri rd).W n m hs=""):(rd.map (·.1)).Nodup:=(qP (bV (bV h).2).1).1
theorem iw.ok (d:iw) (g:m.Ok) (h:d.W n m hs=""):(d.next m).Ok:=by
 cases d with
 |back=>exact g
 |comes a b=>
  have SV:m.ss.length<12:=by
   have:=of_decide_eq_false (jt (bV (bV h).2).1)
   omega
  exact⟨List.pairwise_append.mpr ⟨g.inc,by simp,λr hr r' Of=>by rw[DJ.mp Of];have:=g.le r hr;show r.1<m.c+1;omega⟩,λr hr=>by
    show r.1<=m.c+1
    rcases Es.mp hr with hr|hr
    ·have:=g.le r hr;omega
    ·rw[DJ.mp hr];exact Int.le_refl _,by show (m.ss++_).length<=12;rw[E5,FJ];omega,g.per,g.nd,λx hx=>by
    show x∈(m.ss++_).map (·.1)
    rw[Et];exact Ei _ (g.sub x hx),g.ten,g.dl⟩
 |goes a=>
  exact⟨g.inc.filter _,λr hr=>g.le r (EE.mp hr).1,DY (EM _ _) g.len,g.per.filter _,g.nd.filter _,λx hx=>by
    obtain⟨h1,h2⟩:=EE.mp hx
    obtain⟨r,hr,rfl⟩:=ET.mp (g.sub x h1)
    exact ET.mpr ⟨r,EE.mpr ⟨hr,h2⟩,rfl⟩,DY (EM _ _) g.ten,g.dl⟩
 |mcome ns=>
  obtain⟨w1,w2⟩:=bV h
  obtain⟨w3,w4⟩:=bV w2
  obtain⟨nd,sb⟩:=qP w1
  have dj:=jt w3
  have tn:=of_decide_eq_false (jt (bV w4).1)
  exact⟨g.inc,g.le,g.len,(l4 _).trans (g.per.append_right ns),Gp.mpr ⟨g.nd,nd,λx hx y hy e=>by
    subst e
    exact absurd (EL.mpr ⟨x,hy,decide_eq_true hx⟩) (by rw[dj];simp)⟩,λx hx=>by
    rcases Es.mp hx with hx|hx
    ·exact g.sub x hx
    ·exact sb x hx,by show (m.ms++ns).length<=10;rw[E5];omega,g.dl⟩
 |mgo ns=>exact⟨g.inc,g.le,g.len,g.per.filter _,g.nd.filter _,λx hx=>g.sub x (EE.mp hx).1,DY (EM _ _) g.ten,g.dl⟩
 |pass ri rd=>
  have hd:=of_decide_eq_false (jt (bV (bV (bV (bV (bV (bV (bV h).2).2).2).2).2).2).1)
  exact⟨g.inc,g.le,g.len,g.per,g.nd,g.sub,g.ten,by show (m.ds++_).length<=12;rw[E5,FJ];omega⟩
theorem iw.dd (d:iw) (hb:d≠ .back):(d.next m).dd=m.dd++[d.dt]:=by
 cases d with
 |back=>exact absurd rfl hb
 |_=>rfl
theorem rT {fx:aa->R (D×aa)} {ρ ρ':aa} {d:D} (h:fx ρ= .ok (d,ρ')):hZ fx ρ= .ok (.retc d ρ'):=by unfold hZ;rw[h,ai]
theorem pP {fx:aa->R (D×aa)} {ρ ρ':aa} {x:Dj} (h:fx ρ= .err x ρ'):hZ fx ρ= .err x ρ':=by unfold hZ;rw[h];rfl
theorem rV {f:aa->R D} {fx:aa->R (D×aa)} {ρ ρ':aa} {d e:D} (h:f ρ= .ok d) (h2:fx ρ= .ok (e,ρ')):eX f fx ρ= .ok (.lst [d,e],ρ'):=by unfold eX;rw[h,ai,h2,ai]
theorem pQ {f:aa->R D} {fx:aa->R (D×aa)} {ρ ρ':aa} {d:D} {x:Dj} (h:f ρ= .ok d) (h2:fx ρ= .err x ρ'):eX f fx ρ= .err x ρ':=by unfold eX;rw[h,ai,h2];rfl
end
theorem ju (c:Int) (mx:Bool) (k:Nat) (sz:Int) (hs:0<sz/\sz<1073741824) (hk:k<=100):∃xs:List Int,bT [.int c, .bl mx, .int (k:Int), .int sz]= .ok (.lst (xs.map .int))/\xs.length=k/\∀x∈xs,0<=x:=by
 let P (xs:List Int) (r:Int) (y z:Option Slot):aa:=[some (.val (.int c)),some (.val (.bl mx)),some (.val (.int (k:Int))),some (.val (.int sz)),some (.own (.lst (xs.map .int))),some (.val (.int r)),y,z]
 obtain⟨ρ',e,xs,r,y,z,rfl,h1,h2⟩:=rM (g:=gN 6) (gb:=dM) (n:=k) (fs:=a7 (ax 2) (ak)) (ρ:=P [] c none none) (P:=λj ρ=>∃xs r y z,ρ=P xs r y z/\xs.length=j/\∀x∈xs,0<=x) (ae rfl rfl) (by omega) ⟨[],c,none,none,rfl,rfl,λx hx=>by cases hx⟩ λj hj ρ hρ=>by
  obtain⟨xs,r,y,z,rfl,h1,h2⟩:=hρ
  have hl:(xs.map D.int).length<lim:=by rw[Dp];unfold lim;omega
  refine⟨P xs r (some (.val (.int (j:Int)))) z,?_⟩
  have nn:∀{v:Int},∀x∈xs++[v%sz],0<=x:=λ{v} x hx=>by
   rcases Es.mp hx with hx|hx
   ·exact h2 x hx
   ·rw[DJ.mp hx];exact GS _ (by omega)
  have ap:∀v:Int,xs.map D.int++[.int v]=(xs++[v]).map .int:=λv=>by simp
  cases mx with
  |true=>exact⟨P (xs++[((c+7919*(j:Int)+1)*48271%2147483647+(j:Int))*69621%2147483647%sz]) r (some (.val (.int (j:Int)))) (some (.val (.int ((c+7919*(j:Int)+1)*48271%2147483647)))),rfl, .inl (by simp! [P,dM,nW (show GR 48271<18446744073709551616 by decide),nW (show GR 69621<18446744073709551616 by decide),uY (show GR 7919<18446744073709551616 by decide),br (show (0:Int)<2147483647 by decide),br hs.1,hl,ap]),_,_,_,_,rfl,by simp[h1],nn⟩
  |false=>exact⟨P (xs++[r%sz]) (r / sz) (some (.val (.int (j:Int)))) z,rfl, .inl (by simp! [P,dM,br hs.1,fQ hs,hl,ap]),_,_,_,_,rfl,by simp[h1],nn⟩
 refine⟨xs,cP rfl ?_,h1,h2⟩
 show fI [some (.val (.int c)),some (.val (.bl mx)),some (.val (.int (k:Int))),some (.val (.int sz)),none,none,none,none]=_
 unfold fI
 rw[az (ρ':=[some (.val (.int c)),some (.val (.bl mx)),some (.val (.int (k:Int))),some (.val (.int sz)),some (.own (.lst [])),none,none,none]) rfl,az (ρ':=P [] c none none) rfl,az e]
 rfl
def Ev (f:aa->R D) (ρ:aa) (P:Int->Prop):Prop:=∃i:Int,f ρ= .ok (.int i)/\P i
def Ts (t:aa->R Bool) (ρ:aa):Prop:=∃b,t ρ= .ok b
section
variable {f g:aa->R D} {ρ:aa} {P Q:Int->Prop} {c:Int}
theorem Ev.imp (h:Ev f ρ P) (h2:∀i,P i->Q i):Ev f ρ Q:=by obtain⟨i,e,p⟩:=h;exact⟨i,e,h2 i p⟩
theorem Ev.any (h:Ev f ρ P):Ev f ρ λ_=>True:=h.imp λ_ _=>trivial
theorem oE (h:Ev f ρ P) (hc:0<c:=by decide):Ev (f2 cf f (fC (.int c))) ρ λj=>0<=j/\j<c:=by
 obtain⟨i,e,_⟩:=h
 exact⟨i%c,ay e rfl (br hc),GS _ (by omega),He _ hc⟩
theorem A6 (h:Ev f ρ P) {k:Int} (h2:g ρ= .ok (.int k)) (hk:0<k):Ev (f2 cf f g) ρ λj=>0<=j/\j<k:=by
 obtain⟨i,e,_⟩:=h
 exact⟨i%k,ay e h2 (br hk),GS _ (by omega),He _ hk⟩
theorem oF (h:Ev f ρ P) (hc:0<c/\c<1073741824:=by decide):Ev (f2 ft f (fC (.int c))) ρ λ_=>True:=by
 obtain⟨i,e,_⟩:=h
 exact⟨i / c,ay e rfl (fQ hc),trivial⟩
theorem A7 (h:Ev f ρ P) (h2:Ev g ρ Q):Ev (f2 m8 f g) ρ λ_=>True:=by
 obtain⟨i,e,_⟩:=h;obtain⟨j,e2,_⟩:=h2
 exact⟨i - j,ay e e2 nX,trivial⟩
theorem xM {i:Int}:Ev (fC (.int i)) ρ (·=i):=⟨i,rfl,rfl⟩
theorem A8 {xs:List Int} (h:g ρ= .ok (.lst (xs.map .int))) (h2:Ev f ρ λj=>0<=j/\j<(xs.length:Int)):Ev (f2 iW g f) ρ λv=>v∈xs:=by
 obtain⟨j,e,h0,h1⟩:=h2
 obtain⟨k,rfl⟩:=Int.eq_ofNat_of_zero_le h0
 have hk:k<xs.length:=by omega
 exact⟨xs[k],ay h e (by rw[p9,hG (by rw[Dp];exact hk)];simp),HL hk⟩
theorem kb {α:Type} {enc:α->D} {xs:List α} (h:f ρ= .ok (.lst (xs.map enc))):dr cO (a7 f ak) ρ= .ok (.int (xs.length:Int)):=
 bS (ae h rfl) (by rw[hE,Dp])
theorem vS (h:Ev f ρ P) (h2:Ev g ρ Q):Ts (fT (f2 iK f g)) ρ:=by
 obtain⟨i,e,_⟩:=h;obtain⟨j,e2,_⟩:=h2
 exact⟨_,bE (ay e e2 lp)⟩
theorem Bo {α:Type} {enc:α->D} {xs:List α} (h:f ρ= .ok (.lst (xs.map enc))):fT (f2 o9 f (iF ak)) ρ= .ok (!xs.isEmpty):=
 bE (ay (g:=o9) h (fb:=iF ak) rfl (by show some (D.bl (!(xs.map enc).isEmpty))=_;rw[Ju]))
theorem lY {t:aa->R Bool} {g1 g2:aa->R aU} {T:R aU->Prop} (ht:Ts t ρ) (h1:T (g1 ρ)) (h2:T (g2 ρ)):T (dO t g1 g2 ρ):=by
 obtain⟨b,e⟩:=ht
 cases b with
 |false=>rw[lO e];exact h2
 |true=>rw[mh e];exact h1
end
section
variable {α:Type} {enc:α->D} {ρ:aa} {i:Nat} {row:List α} {fa fb:aa->R D}
theorem rW:∀(l:List α) (k:Nat),(l.map enc).eraseIdx k=(l.eraseIdx k).map enc
 |[],k=>rfl
 |a::l,0=>rfl
 |a::l,k+1=>by rw[DH,Gh,Gh,DH,rW l k]
end
def m0:Mo:=⟨0,[],[],[],[],[]⟩
theorem Bp:m0.Ok:=⟨.nil,λr h=>(by cases h),by decide, .refl _, .nil,λx h=>(by cases h),by decide,by decide⟩
theorem tH {n:Int} (h0:0<=n) (h7:n<=7):cm [.int n]= .ok (jm n (aT n m0),"history",[]):=by
 unfold cm i0
 rw[if_pos (show [D.int n].length=1 from rfl)]
 show (fG [some .obj,some (.val (.int n)),none,none,none]>>=_)=_
 unfold fG
 rw[az (ρ':=[some .obj,some (.val (.int n)),none,none,none]) (by
  rw[lO]
  ·rfl
  ·unfold qq
   rw[bE (ay (a:= .int n) (b:= .int 0) rfl rfl mY),ai,decide_eq_false (by omega),if_neg (by simp)]
   rw[bE (ay (a:= .int n) (b:= .int 7) rfl rfl mZ),decide_eq_false (by omega)])]
 rfl
theorem vT {x y:Dj}:iK (.str x) (.str y)=some (.bl (decide (x=y))):=rfl
theorem rX {i:Nat} {fx:aa->R (D×aa)} {ρ ρ':aa} {d:D} (h:fx ρ= .ok (d,ρ')):pA i fx ρ= .ok (.nx (ρ'.set i (some (.val d)))):=by unfold pA;rw[h,ai]
theorem xN {i:Nat} {fx:aa->R (D×aa)} {ρ ρ':aa} {d:D} {ds ds':List D} (h0:ρ[i]? =some (some (.own (.lst ds)))) (h:fx ρ= .ok (d,ρ')) (h1:ρ'[i]? =some (some (.own (.lst ds')))) (hl:ds'.length<=900):pC i fx ρ= .ok (.nx (ρ'.set i (some (.own (.lst (ds'++[d])))))):=by
 unfold pC
 rw[h0]
 dsimp only
 rw[h,ai]
 dsimp only
 rw[h1]
 dsimp only
 rw[if_pos (by unfold lim;omega)]
section
variable {hs:List D}
theorem vU (h:hs.length<60):gB hs="":=by
 unfold gB i8
 rw[decide_eq_false (by omega)];rfl
end
theorem rY {α:Type} {f:α->D} (l:List α) (lo hi:Option Int):∃l':List α,CC (.lst (l.map f)) lo hi=some (.lst (l'.map f))/\l'.length<=l.length/\∀x∈l',x∈l:=by
 refine⟨(l.drop (HT.cT l.length 0 lo)).take (HT.cT l.length l.length hi - HT.cT l.length 0 lo),?_,?_,λx hx=>List.mem_of_mem_drop (List.mem_of_mem_take hx)⟩
 ·show some (D.lst (L2.Pu.qz (l.map f) lo hi))=_
  unfold L2.Pu.qz
  rw[Dp,List.map_take,List.map_drop]
 ·rw[Gw,HF];omega
theorem xO (th:List Int):sY (.lst (th.map .int)) (.lst [])=some (.bl th.isEmpty):=by
 cases th with
 |nil=>rfl
 |cons a l=>
  show (if (D.int a::l.map D.int).all eR=true/\([]:List D).all eR=true then some (D.bl (vn (D.int a::l.map D.int) []))else none)=_
  rw[if_pos ⟨by rw[FT];intro d hd;rcases DN.mp hd with rfl|hd;rfl;obtain⟨x,_,rfl⟩:=ET.mp hd;rfl,rfl⟩]
  rfl
theorem vV (ns:List Int) (k:Nat) (th ms:List Int) (l1:th.length<=12) (l2:ms.length<=12):∃row:List Int,eK [.scr ns, .int (k:Int), .lst (th.map .int), .lst (ms.map .int)]= .ok (.lst (row.map .int))/\row.length<=40:=by
 let A:Option Slot:=some (.val (.scr ns));let K:Option Slot:=some (.val (.int (k:Int)));let T:Option Slot:=some (.val (.lst (th.map .int)));let M:Option Slot:=some (.val (.lst (ms.map .int)))
 let c:=cl ns k
 let C:Option Slot:=some (.val (.int c))
 obtain⟨xs,f5,lx,_⟩:=ju (c / 64) (decide (cel ns 0%2=1)) 3 198 (by decide) (by omega)
 let F:Option Slot:=some (.val (.lst (xs.map .int)))
 let R (row:List Int) (o b:Option Slot):aa:=[A,K,T,M,C,F,some (.own (.lst (row.map .int))),o,b]
 have R6:∀{row:List Int} {o b:Option Slot} {f:aa->Pu.R D},row.length<=100->Ev f (R row o b) (λ_=>True)->∃Lk:List Int,Lk.length=row.length+1/\li 6 f (R row o b)= .ok (.nx (R Lk o b)):=λ{row o b f} hl h=>by
  obtain⟨i,e,_⟩:=h
  refine⟨row++[i],by simp,?_⟩
  unfold li
  rw[show (R row o b)[6]? =some (some (.own (.lst (row.map .int))))from rfl]
  dsimp only
  rw[e,ai,if_pos (by rw[Dp];unfold lim;omega)]
  simp only[R,Et,DH,Fq]
  rfl
 have Nv:∀(l row:List Int) (o:Option Slot),row.length+l.length<=100->∃(Lk:List Int) (o':Option Slot),Lk.length=row.length+l.length/\dg (gN 7) gw (l.map .int) (R row o none)= .ok (.nx (R Lk o' none)):=by
  intro l
  induction l with
  |nil=>exact λrow o _=>⟨row,o,rfl,rfl⟩
  |cons x l ih=>
   intro row o hl
   rw[DA]at hl
   let O:Option Slot:=some (.val (.int x))
   have ex:∀{row:List Int},Ev (af 7) (R row O none) λ_=>True:=⟨x,rfl,trivial⟩
   have h1:∃Lk:List Int,Lk.length=row.length+1/\gw (R row O none)= .ok (.nx (R Lk O none)):=by
    unfold gw
    have a1:∃Lk:List Int,Lk.length=row.length+1/\li 6 (f2 m8 (f2 ft (af 7) (fC (.int 9))) (fC (.int 1))) (R row O none)= .ok (.nx (R Lk O none)):=R6 (by omega) (A7 (oF (c:=9) ex) xM)
    have t1:fT (f2 sY (af 2) (iF (ak))) (R row O none)= .ok th.isEmpty:=bE (ay (a:= .lst (th.map .int)) (b:= .lst []) rfl rfl (xO th))
    cases Qt:th.isEmpty with
    |true=>
     rw[Qt]at t1
     obtain⟨r,h,e⟩:=a1
     exact⟨r,h,by rw[mh (by unfold qq;rw[t1,ai];rfl)];exact e⟩
    |false=>
     rw[Qt]at t1
     have hp:0<th.length:=by cases th with|nil=>simp at Qt|cons _ _=>exact Nat.succ_pos _
     have a2:∃Lk:List Int,Lk.length=row.length+1/\li 6 (f2 iW (af 2) (f2 cf (f2 ft (af 7) (fC (.int 9))) (dr cO (a7 (af 2) (ak))))) (R row O none)= .ok (.nx (R Lk O none)):=R6 (by omega) (A8 (g:=af 2) (xs:=th) rfl (A6 (oF (c:=9) ex) (kb (f:=af 2) (enc:= .int) (xs:=th) rfl) (by omega))).any
     obtain⟨b,t2⟩:=vS (oE (c:=9) (ex (row:=row))) (xM (i:=8))
     have tt:qq (fT (f2 sY (af 2) (iF (ak)))) (fT (f2 iK (f2 cf (af 7) (fC (.int 9))) (fC (.int 8)))) (R row O none)= .ok b:=by unfold qq;rw[t1,ai];exact t2
     exact lY (T:=λr=>∃Lk:List Int,Lk.length=row.length+1/\r= .ok (.nx (R Lk O none))) ⟨b,tt⟩ a1 a2
   obtain⟨r1,SW,e1⟩:=h1
   obtain⟨r2,o2,SX,e2⟩:=ih r1 O (by omega)
   exact⟨r2,o2,by rw[DA];omega,by rw[DH,jf rfl e1,e2]⟩
 let ba:List Int:=th.filter λx=> !decide (x∈ms)
 have SY:ba.length<=12:=DY (EM _ _) l1
 have go:∃row:List Int,jT [A,K,T,M,none,none,none,none,none]= .ok (.ret (.lst (row.map .int)))/\row.length<=40:=by
  unfold jT
  rw[az (ρ':=[A,K,T,M,C,none,none,none,none]) (dG (dH (n:=2) rfl rfl (jX ns k)) rfl)]
  rw[az (ρ':=[A,K,T,M,C,F,none,none,none]) (dG (dH (n:=4) (ae (ay (a:= .int c) (b:= .int 64) rfl rfl (fQ (by decide))) (ae (ay (ay (dH (n:=2) rfl rfl (Cq ns)) rfl (br (by decide))) rfl lp) (ae rfl (ae rfl rfl)))) rfl f5) rfl)]
  rw[az (ρ':=R [] none none) rfl]
  obtain⟨l',Nw,ll,_⟩:=rY (f:=D.int) xs none (some (c / 8%4))
  obtain⟨r1,o1,Ss,e1⟩:=Nv l' [] none (by simp;omega)
  rw[az ((nY (ds:=l'.map .int) (by
   unfold dD Ag
   rw[show (af 5:aa->Pu.R D) (R [] none none)= .ok (.lst (xs.map .int))from rfl,ai,show mW (R [] none none)= .ok none from rfl,ai]
   rw[show kj (f2 cf (f2 ft (af 4) (fC (.int 8))) (fC (.int 4))) (R [] none none)= .ok (some (c / 8%4)) by
    unfold kj
    rw[ay (ay (a:= .int c) (b:= .int 8) rfl rfl (fQ (by decide))) (b:= .int 4) rfl (br (by decide))]
    rfl,ai,Nw,cA]
   rfl)).trans e1)]
  have lr:r1.length<=40:=by rw[Ss];simp;omega
  let V (s6 s8:Slot):aa:=[A,K,T,M,C,F,some s6,o1,some s8]
  let MD (s:Slot):Prop:=∃row:List Int,row.length<=40/\(s= .own (.lst (row.map .int))\/s= .val (.lst (row.map .int)))
  let Og (s:Slot):Prop:=s= .own (.lst (ba.map .int))\/s= .val (.lst (ba.map .int))
  have Qu:∀{s6 s8:Slot},Og s8->af 8 (V s6 s8)= .ok (.lst (ba.map .int)):=λ{s6 s8} h=>by rcases h with rfl|rfl<;>rfl
  have cc:∀{s6 s8:Slot} {d x:Int},Ts (fT (f2 iK (f2 cf (af 4) (fC (.int 8))) (fC (.int x)))) (V s6 s8):=λ{s6 s8 d x}=>vS (oE (c:=8) ⟨c,rfl,trivial⟩ (P:=λ_=>True)) xM
  rw[az (ρ':=V (.own (.lst (r1.map .int))) (.own (.lst (ba.map .int)))) ((own_of (dF (ds:=th.map .int) rfl (by rw[Dp];unfold lim;omega) (τ:=[none,none,M]) rfl (gH (enc:= .int) (p:=λx=> !decide (x∈ms)) (out:= .int) th none (λx hx=>bE (ay (a:= .int x) (b:= .lst (ms.map .int)) rfl rfl hJ)) (λr _ _=>rfl)))).trans rfl)]
  have q1:∃s6 s8,MD s6/\Og s8/\dO (fT (f2 iK (f2 cf (af 4) (fC (.int 8))) (fC (.int 5)))) (j8 [8] (bQ (ax 8) (gN 6))) (aK) (V (.own (.lst (r1.map .int))) (.own (.lst (ba.map .int))))= .ok (.nx (V s6 s8)):=
   lY (T:=λr=>∃s6 s8,MD s6/\Og s8/\r= .ok (.nx (V s6 s8))) (cc (d:=0)) ⟨.val (.lst (ba.map .int)), .val (.lst (ba.map .int)),⟨ba,by omega, .inr rfl⟩, .inr rfl,rfl⟩ ⟨_,_,⟨r1,lr, .inl rfl⟩, .inl rfl,rfl⟩
  obtain⟨a6,a8,w6,w8,e⟩:=q1
  rw[az e]
  have q2:∃s6,MD s6/\dO (fT (f2 iK (f2 cf (af 4) (fC (.int 8))) (fC (.int 6)))) (bQ (Ag (af 8) (mW) (kj (f2 m8 (fC (.int 10)) (dr cO (a7 (af 3) (ak)))))) (gN 6)) (aK) (V a6 a8)= .ok (.nx (V s6 a8)):=by
   obtain⟨l2,PJ,S_,_⟩:=rY (f:=D.int) ba none (some (10 - (ms.length:Int)))
   refine lY (T:=λr=>∃s6,MD s6/\r= .ok (.nx (V s6 a8))) (cc (d:=0)) ⟨.val (.lst (l2.map .int)),⟨l2,by omega, .inr rfl⟩,dG (d:= .lst (l2.map .int)) ?_ rfl⟩ ⟨a6,w6,rfl⟩
   unfold Ag
   rw[Qu w8,ai,show mW (V a6 a8)= .ok none from rfl,ai]
   rw[show kj (f2 m8 (fC (.int 10)) (dr cO (a7 (af 3) (ak)))) (V a6 a8)= .ok (some (10 - (ms.length:Int))) by
    unfold kj
    rw[ay (a:= .int 10) (fa:=fC (.int 10)) rfl (kb (f:=af 3) (enc:= .int) (xs:=ms) rfl) nX]
    rfl,ai,PJ,cA]
  obtain⟨b6,w6,e⟩:=q2
  rw[az e]
  have q3:∃s6,MD s6/\dO (fT (f2 iK (f2 cf (af 4) (fC (.int 8))) (fC (.int 7)))) (vh 6 (dr je (a7 (af 3) (ak)))) (aK) (V b6 a8)= .ok (.nx (V s6 a8)):=
   lY (T:=λr=>∃s6,MD s6/\r= .ok (.nx (V s6 a8))) (cc (d:=0)) ⟨.own (.lst (ms.map .int)),⟨ms,by omega, .inl rfl⟩,rfl⟩ ⟨b6,w6,rfl⟩
  obtain⟨c6,⟨r6,l6,w6⟩,e⟩:=q3
  rw[az e]
  have q4:∃s6,MD s6/\dO (fT (f2 iK (f2 cf (f2 ft (af 4) (fC (.int 32))) (fC (.int 2))) (fC (.int 1)))) (bQ (xb (af 6)) (gN 6)) (aK) (V c6 a8)= .ok (.nx (V s6 a8)):=
   lY (T:=λr=>∃s6,MD s6/\r= .ok (.nx (V s6 a8))) (vS (oE (oF (c:=32) ⟨c,rfl,trivial⟩ (P:=λ_=>True))) xM) ⟨.val (.lst (r6.reverse.map .int)),⟨r6.reverse,by simpa using l6, .inr rfl⟩,by
    rw[List.map_reverse]
    rcases w6 with rfl|rfl<;>rfl⟩ ⟨c6,⟨r6,l6,w6⟩,rfl⟩
  obtain⟨d6,⟨r7,l7,w7⟩,e⟩:=q4
  rw[az e]
  refine⟨r7,?_,l7⟩
  rcases w7 with rfl|rfl<;>rfl
 obtain⟨row,e,h⟩:=go
 exact⟨row,cP rfl e,h⟩
def Aj:List Dj:=["UnknownStream","Twice","AlreadyMetered","NotMetered","TooManyMeters","TooManyDeeds"]
section
variable {n:Int} {m:Mo} {hs:List D}
def iz (m:Mo) (hs:List D) (c:Bool) (ns:List Int):Dj:=if c=true then lU m hs ns else vQ m hs ns
def mq (m:Mo) (c:Bool) (ns:List Int):Mo:=if c=true then m.mcome ns else m.mgo ns
def nv (c:Bool) (ns:List Int):D:=if c=true then qO ns else A4 ns
theorem xP {row:List Int} {c:Bool} (g:m.Ok) (hl:row.length<=100) (hw:iz m hs c row=""):dc [aD n (aT n m) hs] [.bl c, .lst (row.map .int)]= .ok (.lst [.str "", .non],[aD n (aT n (mq m c row)) (hs++[.tup [nv c row,aT n m]])]):=by
 refine jZ ⟨rfl,rfl⟩ (ρ:=[some (aD n (aT n (mq m c row)) (hs++[.tup [nv c row,aT n m]])),some (.val (.bl c)),some (.val (.lst (row.map .int))),some (.own (.lst [])),none,none,none]) ?_ rfl
 show eZ [some (aD n (aT n m) hs),some (.val (.bl c)),some (.val (.lst (row.map .int))),none,none,none,none]=_
 unfold eZ
 rw[az (ρ':=[some (aD n (aT n m) hs),some (.val (.bl c)),some (.val (.lst (row.map .int))),some (.own (.lst [])),none,none,none]) rfl]
 refine pJ ?_
 cases c with
 |true=>
  have h:=(lV (n:=n) (hs:=hs) g (d:= .lst (row.map .int)) (ns:=row) (.inl rfl) hl).2 hw
  unfold qB
  rw[pJ (ρ':=[some (aD n (aT n (mq m true row)) (hs++[.tup [nv true row,aT n m]])),some (.val (.bl true)),some (.val (.lst (row.map .int))),some (.own (.lst [])),none,none,none]) (d:= .lst [.str "", .non]) (by
   rw[mh rfl]
   exact(rT (rV (d:= .str "") (e:= .non) rfl ((i7 (n:=n) (now:=aT n m) (hs:=hs) rfl).trans (iU (i:=0) (k:=1) (n:=n) (now:=aT n m) (hs:=hs) rfl (ae rfl rfl) rfl h)))).trans rfl)]
 |false=>
  have h:=(pN (n:=n) (hs:=hs) g (d:= .lst (row.map .int)) (ns:=row) (.inl rfl) hl).2 hw
  unfold qB
  rw[az (ρ':=[some (aD n (aT n m) hs),some (.val (.bl false)),some (.val (.lst (row.map .int))),some (.own (.lst [])),none,none,none]) rfl]
  rw[rT (ρ':=[some (aD n (aT n (mq m false row)) (hs++[.tup [nv false row,aT n m]])),some (.val (.bl false)),some (.val (.lst (row.map .int))),some (.own (.lst [])),none,none,none]) (rV (d:= .str "") (e:= .non) rfl ((i7 (n:=n) (now:=aT n m) (hs:=hs) rfl).trans (iU (i:=0) (k:=1) (n:=n) (now:=aT n m) (hs:=hs) rfl (ae rfl rfl) rfl h)))]
theorem vW {row:List Int} {c:Bool} {w:Dj} (g:m.Ok) (hl:row.length<=100) (hb:iz m hs c row=w) (hw:w∈Aj):dc [aD n (aT n m) hs] [.bl c, .lst (row.map .int)]= .ok (.lst [.str w, .non],[aD n (aT n m) hs]):=by
 have nw:w≠"":=λz=>by rw[z]at hw;exact absurd hw (by decide+kernel)
 let ρ1:aa:=[some (aD n (aT n m) hs),some (.val (.bl c)),some (.val (.lst (row.map .int))),some (.own (.lst [])),none,none,none]
 have h1:aB (dO (cF (af 1)) (hZ (eX (fC (.str "")) (gL 0 "Cellar" "meters_come" (eV [0] aM 1 (a7 (ax 2) (ak)))))) (aK)) (hZ (eX (fC (.str "")) (gL 0 "Cellar" "meters_go" (eV [0] aX 1 (a7 (ax 2) (ak)))))) ρ1= .err w ρ1:=by
  cases c with
  |true=>
   obtain⟨ρe,e,t⟩:=(lV (n:=n) (hs:=hs) g (d:= .lst (row.map .int)) (ns:=row) (.inl rfl) hl).1 (by show iz m hs true row≠"";rw[hb];exact nw)
   rw[show lU m hs row=w from hb]at e
   exact jn (by rw[mh rfl];exact pP (pQ rfl ((i7 (n:=n) (now:=aT n m) (hs:=hs) rfl).trans (om (n:=n) (now:=aT n m) (hs:=hs) rfl (ae rfl rfl) rfl e t rfl))))
  |false=>
   obtain⟨ρe,e,t⟩:=(pN (n:=n) (hs:=hs) g (d:= .lst (row.map .int)) (ns:=row) (.inl rfl) hl).1 (by show iz m hs false row≠"";rw[hb];exact nw)
   rw[show vQ m hs row=w from hb]at e
   rw[az (ρ':=ρ1) rfl]
   exact pP (pQ rfl ((i7 (n:=n) (now:=aT n m) (hs:=hs) rfl).trans (om (n:=n) (now:=aT n m) (hs:=hs) rfl (ae rfl rfl) rfl e t rfl)))
 have hT:∀{i:Nat} {sub:Dj->Bool} {hd rest:aa->R aU},aB (qB i sub (aB (dO (cF (af 1)) (hZ (eX (fC (.str "")) (gL 0 "Cellar" "meters_come" (eV [0] aM 1 (a7 (ax 2) (ak)))))) (aK)) (hZ (eX (fC (.str "")) (gL 0 "Cellar" "meters_go" (eV [0] aX 1 (a7 (ax 2) (ak))))))) hd) rest ρ1=aB (λ_=>n4 i sub hd w ρ1) rest ρ1:=by
  intro i sub hd rest
  conv=>lhs;unfold aB qB
  conv=>rhs;unfold aB
  show (match (match aB _ _ ρ1 with| .err x ρ'=>n4 i sub hd x ρ'|r=>r)>>=_ with|r=>r)=_
  rw[h1]
 have go:eZ [some (aD n (aT n m) hs),some (.val (.bl c)),some (.val (.lst (row.map .int))),none,none,none,none]= .ok (.retc (.lst [.str w, .non]) [some (aD n (aT n m) hs),some (.val (.bl c)),some (.val (.lst (row.map .int))),some (.val (.lst ((Aj.map λx=> .bl (decide (w=x)))++[.bl false]))),none,some (.val (.str w)),some (.own (.lst ((Aj++(["another"]:List Dj)).map .str)))]):=by
  unfold eZ
  rw[az (ρ':=ρ1) rfl,hT]
  unfold Aj at hw
  simp only[DN,FU,or_false]at hw
  rcases hw with rfl|rfl|rfl|rfl|rfl|rfl<;>kernel_rfl
 exact jZ ⟨rfl,rfl⟩ go rfl
end
theorem vX (p:Int->Bool) (l:List Int):decide (((l.filter p).length:Int)<(l.length:Int))=l.any λx=> !p x:=by
 induction l with
 |nil=>rfl
 |cons a l ih=>
  rw[EB,Ft]
  have:=EM p l
  cases q:p a with
  |true=>simp only[if_true,DA,Gv,JV,<-ih];exact decide_eq_decide.mpr (by omega)
  |false=>simp only[Ek,if_false,DA,FN,JZ];exact decide_eq_true (by omega)
theorem vY (th ms row:List Int) (c:Bool) (l1:row.length<=100):bW [.lst (th.map .int), .lst (ms.map .int), .bl c, .lst (row.map .int)]= .ok (.str (et (vP th row) (if c=true then et (i8 (row.any λx=>decide (x∈ms)) "AlreadyMetered") (i8 (decide ((ms.length:Int)+(row.length:Int)>10)) "TooManyMeters")else xI ms row))):=by
 have h1:dR (.lst (row.map .int)) row:= .inl rfl
 let hv:=row.filter λx=>decide (x∈ms)
 let R (x:Option Slot):aa:=[some (.val (.lst (th.map .int))),some (.val (.lst (ms.map .int))),some (.val (.bl c)),some (.val (.lst (row.map .int))),x]
 let H:Option Slot:=some (.own (.lst (hv.map .int)))
 have hh:(af 4:aa->Pu.R D) (R H)= .ok (.lst (hv.map .int)):=rfl
 have t3:gg (cF (af 2)) (fT (f2 o9 (af 4) (iF (ak)))) (R H)= .ok (c&&row.any λx=>decide (x∈ms)):=by
  unfold gg
  rw[show cF (af 2) (R H)= .ok c from rfl,ai,Bo hh,lX]
  cases c<;>rfl
 have t4:gg (jA (cF (af 2))) (fT (f2 yh (dr cO (a7 (af 4) (ak))) (dr cO (a7 (af 3) (ak))))) (R H)= .ok (!c&&row.any λx=> !decide (x∈ms)):=by
  unfold gg jA
  rw[show cF (af 2) (R H)= .ok c from rfl,bE (ay (kb hh) (kb (f:=af 3) (enc:= .int) (xs:=row) rfl) mY),vX]
  cases c<;>rfl
 have t5:gg (cF (af 2)) (fT (f2 yi (f2 eH (dr cO (a7 (af 1) (ak))) (dr cO (a7 (af 3) (ak)))) (fC (.int 10)))) (R H)= .ok (c&&decide ((ms.length:Int)+(row.length:Int)>10)):=by
  unfold gg
  rw[show cF (af 2) (R H)= .ok c from rfl,ai,bE (ay (ay (kb (f:=af 1) (enc:= .int) (xs:=ms) rfl) (kb (f:=af 3) (enc:= .int) (xs:=row) rfl) iL) (b:= .int 10) rfl mZ)]
  cases c<;>rfl
 refine cP rfl ((A5 (ρ:=R none) (ρ':=R H) (own_of (dF (ds:=row.map .int) rfl (by rw[Dp];unfold lim;omega) (τ:=[none,none,some (.val (.lst (ms.map .int)))]) rfl (gH (enc:= .int) (p:=λx=>decide (x∈ms)) (out:= .int) row none (λx hx=>bE (ay (a:= .int x) (b:= .lst (ms.map .int)) rfl rfl rB)) (λr _ _=>rfl))))
  (lW (neC (enc:= .int) (l:=row) rfl (by omega) (rest:=[some (.val (.lst (th.map .int)))]) rfl λr _=>bE (ay (a:= .int r) (b:= .lst (th.map .int)) rfl rfl hJ))
  (lW (neC (enc:= .int) (l:=row) rfl (by omega) (rest:=[some (.val (.lst (row.map .int)))]) rfl λr _=>bE (ay (rS h1 rfl rfl) rfl mZ))
  (lW t3 (lW t4 (lW t5 xK)))))).trans ?_)
 rw[yq,xL]
 unfold vP xI
 rw[rR]
 congr 4
 cases c with
 |true=>rfl
 |false=>
  simp only[JK,FN,Bool.true_and,Ek,if_false]
  refine congrArg (λx=>et (i8 (!decide row.Nodup) "Twice") x) ?_
  show et "" (et _ "")=_
  rw[yq];rfl
def fj (k:Nat):List Int:=(Ef k).map λi:Nat=>(i:Int)+1
theorem nz (k:Nat):fj (k+1)=fj k++[(k:Int)+1]:=by unfold fj;rw[List.range_succ,Et];rfl
theorem jv (k:Nat):(fj k).length=k:=by unfold fj;rw[Dp,Fg]
theorem xQ (k:Nat):(fj k).Nodup:=by
 unfold fj
 rw[List.Nodup,Jl]
 exact HK.imp λh=>by omega
def st3 (x:Int):xC:=(x,(x - 1)%3,x%3)
theorem vZ (th:List Int):(th.map st3).map (λr:xC=>r.1)=th:=by rw[Fc];exact List.map_id th
theorem xR (k:Nat):BH 2 ((k:Int)%3) (((k:Int)+1)%3)="":=by
 have h1:=GS (k:Int) (show (3:Int)≠0 by decide)
 have h2:=He (k:Int) (show (0:Int)<3 by decide)
 have ne:(k:Int)%3≠((k:Int)+1)%3:=by omega
 unfold BH
 rw[show ([(k:Int)%3,((k:Int)+1)%3].any (Bg 2))=false by
  simp only[EB,List.any_nil,Bg,JR,Bool.or_eq_false_iff,decide_eq_false_iff_not]
  omega,decide_eq_false ne]
 rfl
theorem tJ {ns:List Int} {c:Nat} {fs:aa->R (List D)} (hc:c<=12)
  (hf:fs [some (.val (.scr ns)),some (aD 2 (aT 2 m0) []),some (.own (.lst [])),none,none,none,none,none,none,none,none,none,none]= .ok [.int (c:Int)]):
  ∃(m:Mo) (hs:List D) (y:Option Slot),m.Ok/\m.ss=(fj c).map st3/\m.ms=[]/\hs.length=c/\ja (eG fs) (gN 3) oj [some (.val (.scr ns)),some (aD 2 (aT 2 m0) []),some (.own (.lst [])),none,none,none,none,none,none,none,none,none,none]= .ok (.nx [some (.val (.scr ns)),some (aD 2 (aT 2 m) hs),some (.own (.lst ((fj c).map .int))),y,none,none,none,none,none,none,none,none,none]):=by
 let L (s:Slot) (th:List Int) (y:Option Slot):aa:=[some (.val (.scr ns)),some s,some (.own (.lst (th.map .int))),y,none,none,none,none,none,none,none,none,none]
 obtain⟨ρ',e,m,hs,y,rfl,h1,h2,h3,h4,h5⟩:=rM (g:=gN 3) (gb:=oj) (n:=c) (fs:=fs) (ρ:=L (aD 2 (aT 2 m0) []) [] none) (P:=λk ρ=>∃(m:Mo) (hs:List D) (y:Option Slot),ρ=L (aD 2 (aT 2 m) hs) (fj k) y/\m.Ok/\m.c=(k:Int)/\m.ss=(fj k).map st3/\m.ms=[]/\hs.length=k) hf (by omega) ⟨m0,[],none,rfl,Bp,rfl,rfl,rfl,rfl⟩ λk hk ρ hρ=>by
  obtain⟨m,hs,y,rfl,g,Oi,R7,NZ,Qv⟩:=hρ
  have NC:m.ss.length=k:=by rw[R7,Dp,jv]
  have hw:oB 2 m hs ((k:Int)%3) (((k:Int)+1)%3)="":=by
   unfold oB
   rw[xR,vU (by omega),NC,decide_eq_false (by omega)]
   rfl
  have hd:=(qN (n:=2) (hs:=hs) g ((k:Int)%3) (((k:Int)+1)%3)).2 hw
  have Ou:(m.comes ((k:Int)%3) (((k:Int)+1)%3)).Ok:=iw.ok (n:=2) (hs:=hs) (.comes _ _) g hw
  let K:Option Slot:=some (.val (.int (k:Int)))
  let s1:=aD 2 (aT 2 (m.comes ((k:Int)%3) (((k:Int)+1)%3))) (hs++[.tup [oA ((k:Int)%3) (((k:Int)+1)%3),aT 2 m]])
  refine⟨L (aD 2 (aT 2 m) hs) (fj k) K,L s1 (fj (k+1)) K,rfl, .inl ?_,_,_,K,rfl,Ou,?_,?_,NZ,by simp[Qv]⟩
  ·unfold oj
   refine(xN (i:=2) (ds:=(fj k).map .int) (ds':=(fj k).map .int) (ρ':=L s1 (fj k) K) (d:= .int (m.c+1)) rfl ((i7 (n:=2) (now:=aT 2 m) (hs:=hs) rfl).trans (iU (i:=1) (k:=2) (n:=2) (now:=aT 2 m) (hs:=hs) rfl (ae (ay (a:= .int (k:Int)) (b:= .int 3) rfl rfl (br (by decide))) (ae (ay (ay (a:= .int (k:Int)) (b:= .int 1) rfl rfl iL) (b:= .int 3) rfl (br (by decide))) rfl)) rfl hd)) rfl (by rw[Dp,jv];omega)).trans ?_
   rw[Oi]
   show _=Pu.R.ok (aU.nx (L s1 (fj (k+1)) K))
   rw[nz]
   simp only[L,Et,DH,Fq]
   rfl
  ·show m.c+1=((k+1:Nat):Int)
   rw[Oi];rfl
  ·show (m.ss++[(m.c+1,((k:Int)%3,((k:Int)+1)%3))])=_
   rw[nz,R7,Oi,Et,DH,Fq]
   unfold st3
   rw[show (k:Int)+1 - 1=(k:Int) by omega]
 exact⟨m,hs,y,h1,h3,h4,h5,e⟩
theorem pR:∀{l:List Int} {a:Int},a∈l->∃k,iy a l=some k/\l.eraseIdx k=l.erase a:=by
 intro l
 induction l with
 |nil=>intro a h;cases h
 |cons x l ih=>
  intro a h
  by_cases e:x=a
  ·subst e
   exact⟨0,by simp[iy],by simp⟩
  ·have h':a∈l:=by
    rcases DN.mp h with z|z
    ·exact absurd z.symm e
    ·exact z
   obtain⟨k,e1,e2⟩:=ih h'
   refine⟨k+1,?_,?_⟩
   ·simp[iy,e,e1]
   ·rw[Gh,e2,List.erase_cons_tail (by simpa using e)]
theorem rZ {u0 y4 u6 u7 u8 u9 u10 u11 u12 y3:Option Slot}:∀(l th:List Int) (m:Mo) (hs:List D) (x:Option Slot),l.Nodup->(∀a∈l,a∈th)->th.Nodup->m.Ok->m.ss=th.map st3->m.ms=[]->hs.length+l.length<60->
  ∃(P6:List Int) (m':Mo) (KC:List D) (x':Option Slot),P6.Nodup/\m'.Ok/\m'.ss=P6.map st3/\m'.ms=[]/\KC.length=hs.length+l.length/\dg (gN 5) qH (l.map .int) [u0,some (aD 2 (aT 2 m) hs),some (.own (.lst (th.map .int))),y3,y4,x,u6,u7,u8,u9,u10,u11,u12]= .ok (.nx [u0,some (aD 2 (aT 2 m') KC),some (.own (.lst (P6.map .int))),y3,y4,x',u6,u7,u8,u9,u10,u11,u12])
 |[],th,m,hs,x,_,_,h3,g,h5,h6,_=>⟨th,m,hs,x,h3,g,h5,h6,rfl,rfl⟩
 |a::l,th,m,hs,x,h1,h2,h3,g,h5,h6,h7=>by
  rw[DA]at h7
  obtain⟨na,h1⟩:=Fd.mp h1
  have ha:=h2 a DI
  have nu:m.nu=th:=by unfold Mo.nu;rw[h5];exact vZ th
  have hw:rQ m hs a="":=by
   unfold rQ vP
   rw[nu,show ([a].any λx=> !decide (x∈th))=false by simp[ha],vU (by omega),decide_eq_true (show [a].Nodup by simp)]
   rfl
  have hd:=(tF (n:=2) (hs:=hs) g a).2 hw
  have Ou:(m.goes a).Ok:=iw.ok (n:=2) (hs:=hs) (.goes a) g hw
  have e1:th.erase a=th.filter λx=>decide (x≠a):=by rw[h3.erase_eq_filter];exact List.filter_congr λx _=>by rw[Fx];simp
  have NO:(m.goes a).ss=(th.erase a).map st3:=by
   show m.ss.filter (λr=>decide (r.1≠a))=_
   rw[h5,List.filter_map,e1];rfl
  have Qw:(m.goes a).ms=[]:=by show m.ms.filter _=[];rw[h6];rfl
  obtain⟨k,k1,k2⟩:=pR ha
  obtain⟨P6,m',KC,x',q1,q2,q3,q4,q5,e⟩:=rZ (u0:=u0) (y4:=y4) (u6:=u6) (u7:=u7) (u8:=u8) (u9:=u9) (u10:=u10) (u11:=u11) (u12:=u12) (y3:=y3) l (th.erase a) (m.goes a) (hs++[.tup [pM a,aT 2 m]]) (some (.val (.int a))) h1 (λb hb=>by
   rw[e1,EE]
   exact⟨h2 b (DF _ hb),decide_eq_true λz=>na (z▸hb)⟩) (h3.erase a) Ou NO Qw (by simp;omega)
  refine⟨P6,m',KC,x',q1,q2,q3,q4,by rw[q5];simp;omega,?_⟩
  rw[DH,jf (ρ1:=[u0,some (aD 2 (aT 2 m) hs),some (.own (.lst (th.map .int))),y3,y4,some (.val (.int a)),u6,u7,u8,u9,u10,u11,u12]) (ρ2:=[u0,some (aD 2 (aT 2 (m.goes a)) (hs++[.tup [pM a,aT 2 m]])),some (.own (.lst ((th.erase a).map .int))),y3,y4,some (.val (.int a)),u6,u7,u8,u9,u10,u11,u12]) rfl (by
   unfold qH
   rw[az (ρ':=[u0,some (aD 2 (aT 2 (m.goes a)) (hs++[.tup [pM a,aT 2 m]])),some (.own (.lst (th.map .int))),y3,y4,some (.val (.int a)),u6,u7,u8,u9,u10,u11,u12]) ((pK ((i7 (n:=2) (now:=aT 2 m) (hs:=hs) rfl).trans (iU (i:=1) (k:=1) (n:=2) (now:=aT 2 m) (hs:=hs) rfl (ae (d:= .int a) rfl rfl) rfl hd))).trans rfl)]
   unfold xy
   show (match (R.ok (D.int a):R D)>>=λk=>match k,cq (th.map D.int)with
    | .int n,some ns=>(match iy n ns with
     |some m=>R.ok (aU.nx _)
     |none=> .bad)
    |_,_=> .bad with|r=>r)=_
   rw[ai,gk]
   dsimp only
   rw[k1]
   dsimp only
   rw[rW,k2]
   rfl),e]
def tK (w:Dj):Prop:=w=""\/w∈Aj
theorem gC {a b:Dj} (h:tK a) (h2:tK b):tK (et a b):=by unfold et;split<;>assumption
theorem fA {b:Bool} {x:Dj} (h:x∈Aj:=by decide+kernel):tK (i8 b x):=by cases b;exact .inl rfl;exact .inr h
theorem r_ (hs:List D):tK (gB hs):=fA
theorem xS (m:Mo) (hs:List D) (c:Bool) (ns:List Int):tK (iz m hs c ns):=by
 unfold iz
 split
 ·exact gC (gC fA fA) (gC fA (gC fA (r_ hs)))
 ·exact gC (gC fA fA) (gC fA (r_ hs))
theorem xT (ms:List Int) (r:xC):Wf 1 (qQ ms r):= .tup (by simp) λd hd=>by
 simp only[DN,FU,or_false]at hd
 rcases hd with rfl|rfl|rfl|rfl
 ·exact .int _ _
 ·exact .int _ _
 ·exact .int _ _
 ·exact .bl _ _
def IsL (s:Slot) (l:List Int):Prop:=s= .own (.lst (l.map .int))\/s= .val (.lst (l.map .int))
theorem Bq {ns th ml:List Int} {m:Mo} {hs:List D} (g:m.Ok) (NC:m.ss=th.map st3) (Ov:th.Nodup) (R8:ml.Nodup) (mem:∀x,x∈ml<->x∈m.ms) (hh:hs.length<=60) {s2 s7:Slot} (h2:IsL s2 th) (h7:IsL s7 ml) (k:Nat) {G N5 x8 x9 x10 x11 x12:Option Slot}:
  ∃(m':Mo) (KC:List D) (P7:List Int) (Pj:Slot) (y8 y9 Qx Qy ND:Option Slot),m'.Ok/\m'.ss=th.map st3/\P7.Nodup/\(∀x,x∈P7<->x∈m'.ms)/\KC.length<=60/\IsL Pj P7/\
  lK [some (.val (.scr ns)),some (aD 2 (aT 2 m) hs),some s2,some (.val (.int (k:Int))),G,N5,some (.val (.int (hs.length:Int))),some s7,x8,x9,x10,x11,x12]= .ok (.nx [some (.val (.scr ns)),some (aD 2 (aT 2 m') KC),some (.val (.lst (th.map .int))),some (.val (.int (k:Int))),G,N5,some (.val (.int (KC.length:Int))),some Pj,y8,y9,Qx,Qy,ND]):=by
 have nu:m.nu=th:=by unfold Mo.nu;rw[NC];exact vZ th
 have tl:th.length<=12:=by have:=g.len;rw[NC,Dp]at this;exact this
 have Su:ml.length=m.ms.length:=Nat.le_antisymm (ci R8 λx hx=>(mem x).mp hx) (ci g.nd λx hx=>(mem x).mpr hx)
 have dm:∀x,decide (x∈ml)=decide (x∈m.ms):=λx=>decide_eq_decide.mpr (mem x)
 have ten:=g.ten
 obtain⟨row,fr,lr⟩:=vV ns k th ml tl (by omega)
 let A:Option Slot:=some (.val (.scr ns));let T:Option Slot:=some (.val (.lst (th.map .int)));let K:Option Slot:=some (.val (.int (k:Int)))
 let V (s:Slot) (gd:Int) (s7:Slot) (x8 x9 x10 x11 x12:Option Slot):aa:=[A,some s,T,K,G,N5,some (.val (.int gd)),some s7,x8,x9,x10,x11,x12]
 let M:Slot:= .val (.lst (ml.map .int))
 let S:=aD 2 (aT 2 m) hs
 let Ro:Option Slot:=some (.val (.lst (row.map .int)))
 let c:Bool:=decide (cl ns k%8∈[(0:Int),1,2,5,6])
 let C:Option Slot:=some (.val (.bl c))
 let W0:=et (vP th row) (if c=true then et (i8 (row.any λx=>decide (x∈ml)) "AlreadyMetered") (i8 (decide ((ml.length:Int)+(row.length:Int)>10)) "TooManyMeters")else xI ml row)
 have hW:iz m hs c row=et W0 (gB hs):=by
  unfold iz
  have a1:(row.any λx=>decide (x∈ml))=row.any λx=>decide (x∈m.ms):=by congr 1;funext x;exact dm x
  have a2:xI ml row=xI m.ms row:=by unfold xI;congr 2;funext x;rw[dm x]
  simp only[W0,a1,a2,Su]
  split
  ·unfold lU;rw[nu,rR,rR]
  ·unfold vQ;rw[nu,rR]
 have R9:=xS m hs c row
 have fz:∀{g1:aa->Pu.R aU} {x8 x9 x10 x11 x12:Option Slot} {s2 s7:Slot},IsL s2 th->IsL s7 ml->j8 [2,7] g1 [A,some S,some s2,K,G,N5,some (.val (.int (hs.length:Int))),some s7,x8,x9,x10,x11,x12]=g1 (V S (hs.length:Int) M x8 x9 x10 x11 x12):=λ{g1 x8 x9 x10 x11 x12 s2 s7} a b=>by
  rcases a with rfl|rfl<;>rcases b with rfl|rfl<;>rfl
 have s1:j8 [2,7] (bQ (aZ eK 4 (a7 (ax 0) (a7 (ax 3) (a7 (ax 2) (a7 (ax 7) (ak)))))) (gN 8)) [A,some S,some s2,K,G,N5,some (.val (.int (hs.length:Int))),some s7,x8,x9,x10,x11,x12]= .ok (.nx (V S (hs.length:Int) M Ro x9 x10 x11 x12)):=by
  rw[fz h2 h7]
  exact dG (dH (n:=4) (ae rfl (ae rfl (ae rfl (ae rfl rfl)))) rfl fr) rfl
 have Ra:bQ (f2 (dE false) (f2 cf (aZ bp 2 (a7 (ax 0) (a7 (ax 3) (ak)))) (fC (.int 8))) (eF (a7 (fC (.int 0)) (a7 (fC (.int 1)) (a7 (fC (.int 2)) (a7 (fC (.int 5)) (a7 (fC (.int 6)) (ak)))))))) (gN 9) (V S (hs.length:Int) M Ro x9 x10 x11 x12)= .ok (.nx (V S (hs.length:Int) M Ro C x10 x11 x12)):=
  dG (ay (b:= .tup (([0,1,2,5,6]:List Int).map .int)) (ay (dH (n:=2) rfl rfl (jX ns k)) (b:= .int 8) rfl (br (by decide))) rfl v1) rfl
 have s3:j8 [2,7] (bQ (aZ bW 4 (a7 (ax 2) (a7 (ax 7) (a7 (ax 9) (a7 (ax 8) (ak)))))) (gN 10)) (V S (hs.length:Int) M Ro C x10 x11 x12)= .ok (.nx (V S (hs.length:Int) M Ro C (some (.val (.str W0))) x11 x12)):=
  dG (dH (n:=4) (ae rfl (ae rfl (ae rfl (ae rfl rfl)))) rfl (vY th ml row c (by omega))) rfl
 let W:=et W0 (gB hs)
 let Wo:Option Slot:=some (.val (.str W))
 have s4:dO (gg (fT (f2 iK (af 10) (fC (.str "")))) (fT (f2 x6 (af 6) (fC (.int 60))))) (bQ (fC (.str "TooManyDeeds")) (gN 10)) (aK) (V S (hs.length:Int) M Ro C (some (.val (.str W0))) x11 x12)= .ok (.nx (V S (hs.length:Int) M Ro C Wo x11 x12)):=by
  have t1:fT (f2 iK (af 10) (fC (.str ""))) (V S (hs.length:Int) M Ro C (some (.val (.str W0))) x11 x12)= .ok (decide (W0="")):=bE (ay (a:= .str W0) (b:= .str "") rfl rfl vT)
  have t2:fT (f2 x6 (af 6) (fC (.int 60))) (V S (hs.length:Int) M Ro C (some (.val (.str W0))) x11 x12)= .ok (decide ((60:Int)<=(hs.length:Int))):=bE (ay (a:= .int (hs.length:Int)) (b:= .int 60) rfl rfl p8)
  by_cases e:W0=""
  ·by_cases f:(60:Int)<=(hs.length:Int)
   ·rw[mh (by unfold gg;rw[t1,ai,decide_eq_true e,if_pos rfl,t2,decide_eq_true f])]
    have:W="TooManyDeeds":=by simp only[W];unfold et gB i8;rw[if_pos e,decide_eq_true f,if_pos rfl]
    simp only[Wo,this]
    rfl
   ·rw[lO (by unfold gg;rw[t1,ai,decide_eq_true e,if_pos rfl,t2,decide_eq_false f])]
    have:W=W0:=by simp only[W];unfold et gB i8;rw[if_pos e,decide_eq_false f,e];rfl
    simp only[Wo,this]
    rfl
  ·rw[lO (by unfold gg;rw[t1,ai,decide_eq_false e];rfl)]
   have:W=W0:=by simp only[W];unfold et;rw[if_neg e]
   simp only[Wo,this]
   rfl
 have args:a7 (ax 9) (a7 (dr je (a7 (af 8) (ak))) (ak)) (V S (hs.length:Int) M Ro C Wo x11 x12)= .ok [.bl c, .lst (row.map .int)]:=ae rfl (ae (bS (ae (d:= .lst (row.map .int)) rfl rfl) rfl) rfl)
 have look:∀{m1:Mo} {h1:List D} {gd:Int} {s7:Slot} {l:List Int} {x11 x12:Option Slot},m1.Ok->m1.ss=th.map st3->(∀x,x∈l<->x∈m1.ms)->IsL s7 l->∃ND,aB (j8 [2] (iJ 12 (bY ["_law_script","_law_cellar","_law_there","_law_k","_law_gone","_law_number","_law_good","_law_meters","_law_row_here","_law_come","_law_word","_law_found","_law_due"] [(".0", .local),("_law_number", .local),("_law_meters", .free)] (dD (ax 2)) (gN 1) (kt) (eF (a7 (ax 1) (a7 (f2 cf (f2 m8 (af 1) (fC (.int 1))) (fC (.int 3))) (a7 (f2 cf (af 1) (fC (.int 3))) (a7 (f2 (dE false) (af 1) (af 2)) (ak)))))))))
   (dO (o5 [1] (jA (cF (aZ db 2 (a7 (gE "Cellar" "layout" 1 bn (ax 1) ak) (a7 (dr d4 (a7 (af 12) (ak))) (ak)))))))
   (c8 (fC (.bl false))) (aK)) (V (aD 2 (aT 2 m1) h1) gd s7 Ro C Wo x11 x12)= .ok (.nx (V (aD 2 (aT 2 m1) h1) gd s7 Ro C Wo x11 ND)):=by
  intro m1 h1 gd s7 l x11 x12 g1 NO me h7
  let Y:Option Slot:=some (.own (.lst ((th.map st3).map (qQ m1.ms))))
  refine⟨Y,?_⟩
  have ob:∃o:Slot,gD ["_law_script","_law_cellar","_law_there","_law_k","_law_gone","_law_number","_law_good","_law_meters","_law_row_here","_law_come","_law_word","_law_found","_law_due"] [(".0", .local),("_law_number", .local),("_law_meters", .free)] (V (aD 2 (aT 2 m1) h1) gd s7 Ro C Wo x11 x12)=[none,none,some o]/\∀a b,(af 2:aa->Pu.R D) [a,b,some o]= .ok (.lst (l.map .int)):=by
   rcases h7 with rfl|rfl
   ·exact⟨.bor (.lst (l.map .int)),rfl,λ_ _=>rfl⟩
   ·exact⟨.val (.lst (l.map .int)),rfl,λ_ _=>rfl⟩
  obtain⟨o,ho,hb⟩:=ob
  rw[az (ρ':=V (aD 2 (aT 2 m1) h1) gd s7 Ro C Wo x11 Y) (by
   show iJ 12 _ (V (aD 2 (aT 2 m1) h1) gd s7 Ro C Wo x11 x12)=_
   refine(own_of (ds:=(th.map st3).map (qQ m1.ms)) ?_).trans rfl
   rw[yp (enc:= .int) (l:=th) (out:=λx=>qQ m1.ms (st3 x)) rfl (by omega) (rest:=[some o]) ho λx _=>f9 (ds:=[.int x, .int ((x - 1)%3), .int (x%3), .bl (decide (x∈m1.ms))]) (ae rfl (ae (ay (ay (a:= .int x) (b:= .int 1) rfl rfl nX) (b:= .int 3) rfl (br (by decide))) (ae (ay (a:= .int x) (b:= .int 3) rfl rfl (br (by decide))) (ae (ay (a:= .int x) rfl (hb _ _) (by rw[rB,decide_eq_decide.mpr (me x)])) rfl)))) (show 4<=lim by decide),Fc]
   rfl)]
  rw[lO]
  ·rfl
  ·show jA (cF (aZ db 2 (a7 (gE "Cellar" "layout" 1 bn (ax 1) ak) (a7 (dr d4 (a7 (af 12) (ak))) (ak))))) (V (.val (.ins "Cellar" (mn 2 (aT 2 m1) h1))) gd s7 Ro C Wo x11 Y)=_
   unfold jA
   rw[vK (dH (n:=2) (ae (jp (n:=1) (fds:=mn 2 (aT 2 m1) h1) (ds:=[]) rfl rfl rfl (pO g1) rfl) (ae (d:= .tup ((th.map st3).map (qQ m1.ms))) (bS (ae (d:= .lst ((th.map st3).map (qQ m1.ms))) rfl rfl) rfl) rfl)) rfl (by
    rw[NO]
    exact vI (n:=2) (by decide) (.tup (by rw[Dp,Dp];omega) λd hd=>by obtain⟨r,_,rfl⟩:=ET.mp hd;exact xT _ r)))]
   rfl
 have Pk:pA 11 (eV [1] dc 2 (a7 (ax 9) (a7 (dr je (a7 (af 8) (ak))) (ak)))) (V S (hs.length:Int) M Ro C Wo x11 x12)= .ok (.nx (V (if W="" then aD 2 (aT 2 (mq m c row)) (hs++[.tup [nv c row,aT 2 m]])else S) (hs.length:Int) M Ro C Wo (some (.val (.lst [.str W, .non]))) x12)):=by
  by_cases e:W=""
  ·rw[if_pos e,e]
   exact(rX (iU (i:=1) (k:=2) (n:=2) (now:=aT 2 m) (hs:=hs) rfl args rfl (xP g (by omega) (hW.trans e)))).trans (by simp only[Wo,e];first|rfl|done)
  ·rw[if_neg e]
   rw[hW]at R9
   exact(rX (iU (i:=1) (k:=2) (n:=2) (now:=aT 2 m) (hs:=hs) rfl args rfl (vW g (by omega) hW (R9.resolve_left e)))).trans rfl
 have s6:∀{s:Slot},dO (qq (fT (f2 v_ (f2 iW (af 11) (fC (.int 0))) (af 10))) (fT (f2 nS (f2 iW (af 11) (fC (.int 1))) (fC .non)))) (c8 (fC (.bl false))) (aK) (V s (hs.length:Int) M Ro C Wo (some (.val (.lst [.str W, .non]))) x12)= .ok (.nx (V s (hs.length:Int) M Ro C Wo (some (.val (.lst [.str W, .non]))) x12)):=λ{s}=>by
  rw[lO]
  ·rfl
  ·unfold qq
   rw[bE (ay (a:= .str W) (b:= .str W) (ay (a:= .lst [.str W, .non]) rfl rfl Dd) rfl (by rw[Bm,decide_eq_true rfl])),ai]
   exact bE (ay (a:= .non) (b:= .non) (ay (a:= .lst [.str W, .non]) rfl rfl De) rfl rfl)
 have t7:∀{s:Slot},fT (f2 iK (af 10) (fC (.str ""))) (V s (hs.length:Int) M Ro C Wo (some (.val (.lst [.str W, .non]))) x12)= .ok (decide (W="")):=λ{s}=>bE (ay (a:= .str W) (b:= .str "") rfl rfl vT)
 by_cases e:W=""
 ·
  have bw:iz m hs c row="":=hW.trans e
  obtain⟨e1,e2⟩:=bV e
  have P5:=vR e2
  have nd:=qP (bV e1).1
  let m1:=mq m c row
  let h1:=hs++[D.tup [nv c row,aT 2 m]]
  have l1:h1.length=hs.length+1:=by simp[h1]
  have Ou:m1.Ok:=by
   simp only[m1,mq,iz]at bw ⊢
   cases hc:c with
   |true=>rw[hc]at bw;exact iw.ok (n:=2) (hs:=hs) (.mcome row) g bw
   |false=>rw[hc]at bw;exact iw.ok (n:=2) (hs:=hs) (.mgo row) g bw
  have NO:m1.ss=th.map st3:=by simp only[m1,mq];split<;>exact NC
  let l':=th.filter λx=>(decide (x∈row)&&c)||(decide (x∈ml)&& !decide (x∈row))
  have sub:∀x∈m.ms,x∈th:=λx hx=>nu▸g.sub x hx
  have Rb:∀x,x∈l'<->x∈m1.ms:=λx=>by
   simp only[l',EE,JH,Ee,decide_eq_true_eq,Jm,decide_eq_false_iff_not,mem]
   cases hc:c with
   |true=>
    simp only[m1,mq,hc,if_true]
    show _<->x∈m.ms++row
    rw[Es]
    constructor
    ·rintro⟨_,h|h⟩
     ·exact .inr h.1
     ·exact .inl h.1
    ·rintro(h|h)
     ·refine⟨sub x h,?_⟩
      by_cases q:x∈row
      ·exact .inl ⟨q,trivial⟩
      ·exact .inr ⟨h,q⟩
     ·exact⟨nd.2 x h, .inl ⟨h,trivial⟩⟩
   |false=>
    simp only[m1,mq,hc,Ek,if_false,and_false,false_or]
    show _<->x∈m.ms.filter λx=> !decide (x∈row)
    rw[EE]
    simp only[Jm,decide_eq_false_iff_not]
    exact⟨λh=>h.2,λh=>⟨sub x h.1,h⟩⟩
  have Qz:l'.Nodup:=IM.nodup Ov
  obtain⟨ND,el⟩:=look (h1:=h1) (gd:=(h1.length:Int)) (s7:= .own (.lst (l'.map .int))) (x11:=some (.val (.lst [.str W, .non]))) (x12:=x12) Ou NO Rb (.inl rfl)
  refine⟨m1,h1,l', .own (.lst (l'.map .int)),Ro,C,Wo,some (.val (.lst [.str W, .non])),ND,Ou,NO,Qz,Rb,by omega, .inl rfl,?_⟩
  unfold lK
  rw[if_pos e]at Pk
  rw[az s1,az Ra,az s3,az s4,az Pk,az s6]
  rw[az (ρ':=V (aD 2 (aT 2 m1) h1) (h1.length:Int) (.own (.lst (l'.map .int))) Ro C Wo (some (.val (.lst [.str W, .non]))) x12) (by
   rw[mh (by rw[t7,decide_eq_true e])]
   rw[az (ρ':=V (aD 2 (aT 2 m1) h1) (h1.length:Int) M Ro C Wo (some (.val (.lst [.str W, .non]))) x12) (dG (d:= .int (h1.length:Int)) (ay (a:= .int (hs.length:Int)) (b:= .int 1) rfl rfl (by rw[iL,l1];rfl)) rfl)]
   show iJ 7 _ (V (aD 2 (aT 2 m1) h1) (h1.length:Int) M Ro C Wo (some (.val (.lst [.str W, .non]))) x12)=_
   refine(own_of (ds:=l'.map .int) (dF (ds:=th.map .int) rfl (by rw[Dp];unfold lim;omega) (τ:=[none,none,C,some M,Ro]) rfl (gH (enc:= .int) (p:=λx=>(decide (x∈row)&&c)||(decide (x∈ml)&& !decide (x∈row))) (out:= .int) th none (λx hx=> ?_) (λr _ _=>rfl)))).trans rfl
   have a1:fT (f2 (dE false) (af 1) (af 4)) [none,some (.val (.int x)),C,some M,Ro]= .ok (decide (x∈row)):=bE (ay (a:= .int x) (b:= .lst (row.map .int)) rfl rfl rB)
   have a2:fT (f2 (dE false) (af 1) (af 3)) [none,some (.val (.int x)),C,some M,Ro]= .ok (decide (x∈ml)):=bE (ay (a:= .int x) (b:= .lst (ml.map .int)) rfl rfl rB)
   have a3:fT (f2 (dE true) (af 1) (af 4)) [none,some (.val (.int x)),C,some M,Ro]= .ok (!decide (x∈row)):=bE (ay (a:= .int x) (b:= .lst (row.map .int)) rfl rfl hJ)
   have a4:cF (af 2) [none,some (.val (.int x)),C,some M,Ro]= .ok c:=rfl
   unfold qq gg
   rw[a1,a2,a3,a4]
   cases decide (x∈row)<;>cases decide (x∈ml)<;>cases c<;>rfl)]
  exact el
 ·obtain⟨ND,el⟩:=look (h1:=hs) (gd:=(hs.length:Int)) (s7:=M) (x11:=some (.val (.lst [.str W, .non]))) (x12:=x12) g NC mem (.inr rfl)
  refine⟨m,hs,ml,M,Ro,C,Wo,some (.val (.lst [.str W, .non])),ND,g,NC,R8,mem,hh, .inr rfl,?_⟩
  unfold lK
  rw[if_neg e]at Pk
  rw[az s1,az Ra,az s3,az s4,az Pk,az s6]
  rw[az (ρ':=V S (hs.length:Int) M Ro C Wo (some (.val (.lst [.str W, .non]))) x12) (by rw[lO (by rw[t7,decide_eq_false e])];rfl)]
  exact el
theorem tL {xs:List Int} {n:Nat} (h:xs.length=n):((Ef n).filter λk=>decide (xs.getD k 0=0)).length=xs.count 0:=by
 subst h
 have e:=lR xs
 conv=>rhs;rw[<-e]
 rw[List.count,List.countP_map,List.countP_eq_length_filter]
 congr 1
theorem iM (a b:Nat):eO (a:Int) (b:Int)=(Ij a (b - a)).map λk:Nat=>D.int (k:Int):=by
 unfold eO
 rw[show ((b:Int) - (a:Int)).toNat=b - a by omega,List.range'_eq_map_range,Fc]
 exact GX λk _=>by simp
theorem yr {ns th:List Int} (Ov:th.Nodup) {G N5:Option Slot}:∀(l:List Nat) (ml:List Int) (m:Mo) (hs:List D) (s2 s7:Slot) (x3 x8 x9 x10 x11 x12:Option Slot),m.Ok->m.ss=th.map st3->ml.Nodup->(∀x,x∈ml<->x∈m.ms)->hs.length<=60->IsL s2 th->IsL s7 ml->
  ∃ρ',dg (gN 3) lK (l.map λk:Nat=>D.int (k:Int)) [some (.val (.scr ns)),some (aD 2 (aT 2 m) hs),some s2,x3,G,N5,some (.val (.int (hs.length:Int))),some s7,x8,x9,x10,x11,x12]= .ok (.nx ρ')
 |[],ml,m,hs,s2,s7,x3,x8,x9,x10,x11,x12,_,_,_,_,_,_,_=>⟨_,rfl⟩
 |k::l,ml,m,hs,s2,s7,x3,x8,x9,x10,x11,x12,g,h1,h2,h3,h4,h5,h6=>by
  obtain⟨m',KC,P7,Pj,y8,y9,Qx,Qy,ND,g',a1,a2,a3,a4,a5,e⟩:=Bq (ns:=ns) (G:=G) (N5:=N5) (x8:=x8) (x9:=x9) (x10:=x10) (x11:=x11) (x12:=x12) g h1 Ov h2 h3 h4 h5 h6 k
  obtain⟨ρ',e'⟩:=yr (ns:=ns) Ov (G:=G) (N5:=N5) l P7 m' KC (.val (.lst (th.map .int))) Pj (some (.val (.int (k:Int)))) y8 y9 Qx Qy ND g' a1 a2 a3 a4 (.inr rfl) a5
  exact⟨ρ',by rw[DH,jf (ρ1:=[some (.val (.scr ns)),some (aD 2 (aT 2 m) hs),some s2,some (.val (.int (k:Int))),G,N5,some (.val (.int (hs.length:Int))),some s7,x8,x9,x10,x11,x12]) rfl e,e']⟩
theorem main (ns:List Int) (hl:ns.length<=63):nk [.scr ns]= .ok (.bl true):=by
 obtain⟨c,hc,QA⟩:∃c:Nat,cl ns 1%13=(c:Int)/\c<=12:=⟨(cl ns 1%13).toNat,by omega,by omega⟩
 have ce:∀{ρ:aa} (k:Nat) {x:Int},(ax 0:aa->R D) ρ= .ok (.scr ns)->x=(k:Int)->aZ bp 2 (a7 (ax 0) (a7 (fC (.int x)) (ak))) ρ= .ok (.int (cl ns k)):=λ{ρ} k {x} h e=>dH (n:=2) (ae h (ae rfl rfl)) rfl (by rw[e];exact jX ns k)
 let A:Option Slot:=some (.val (.scr ns))
 obtain⟨m,hs,y,g,NC,NZ,Qv,e1⟩:=tJ (ns:=ns) (c:=c) (fs:=a7 (f2 cf (aZ bp 2 (a7 (ax 0) (a7 (fC (.int 1)) (ak)))) (fC (.int 13))) (ak)) QA (ae (ay (ce 1 (x:=1) rfl rfl) (b:= .int 13) rfl ((br (by decide)).trans (by rw[hc]))) rfl)
 obtain⟨xs,f4,lx,_⟩:=ju (cl ns 2) (decide (cel ns 0%2=1)) c 4 (by decide) (by omega)
 let G:Option Slot:=some (.val (.lst (xs.map .int)))
 let q:=(Ef c).filter λk=>decide (xs.getD k 0=0)
 let l:List Int:=q.map λk:Nat=>(k:Int)+1
 have ql:q.length=xs.count 0:=tL lx
 have T1:q.length<=c:=by have:=EM (λk=>decide (xs.getD k 0=0)) (Ef c);rw[Fg]at this;exact this
 have Qz:l.Nodup:=by
  simp only[l]
  rw[List.Nodup,Jl]
  exact(IM.nodup HK).imp λh=>by omega
 have O1:∀a∈l,a∈fj c:=λa ha=>by
  obtain⟨k,hk,rfl⟩:=ET.mp ha
  exact ET.mpr ⟨k,(EE.mp hk).1,rfl⟩
 obtain⟨th,m1,NB,x5,Ov,g1,NO,Qw,Sv,e2⟩:=rZ (u0:=A) (y4:=G) (u6:=none) (u7:=none) (u8:=none) (u9:=none) (u10:=none) (u11:=none) (u12:=none) (y3:=y) l (fj c) m hs none Qz O1 (xQ c) g NC NZ (by simp only[l,Dp];omega)
 have QB:NB.length=c+q.length:=by rw[Sv,Qv];simp only[l,Dp]
 refine cP rfl ?_
 show vF [A,none,none,none,none,none,none,none,none,none,none,none,none]=_
 unfold vF
 rw[az (ρ':=[A,some (aD 2 (aT 2 m0) []),none,none,none,none,none,none,none,none,none,none,none]) (by
  unfold o7
  rw[if_pos (show BG 1 [A,none,none,none,none,none,none,none,none,none,none,none,none]=true from rfl),ae (d:= .int 2) (ds:=[]) rfl rfl,ai,if_pos (show [D.int 2].length=1 from rfl),tH (by omega) (by omega)]
  rfl)]
 rw[az (ρ':=[A,some (aD 2 (aT 2 m0) []),some (.own (.lst [])),none,none,none,none,none,none,none,none,none,none]) rfl]
 rw[az e1]
 rw[az (ρ':=[A,some (aD 2 (aT 2 m) hs),some (.own (.lst ((fj c).map .int))),y,G,none,none,none,none,none,none,none,none]) (dG (dH (n:=4) (ae (ce 2 (x:=2) rfl rfl) (ae (ay (ay (dH (n:=2) rfl rfl (Cq ns)) (b:= .int 2) rfl (br (by decide))) (b:= .int 1) rfl lp) (ae (bS (ae (d:= .lst ((fj c).map .int)) rfl rfl) (by rw[hE,Dp,jv])) (ae rfl rfl)))) rfl f4) rfl)]
 rw[az ((nY (ds:=l.map .int) (by
  unfold dD
  rw[qA (ds:=l.map .int) (by
   refine(dF (ds:=(Ef c).map λk:Nat=>D.int (k:Int)) (jJ (n:=c) (ae (bS (ae (d:= .lst ((fj c).map .int)) rfl rfl) (by rw[hE,Dp,jv])) rfl) (by unfold lim;omega)) (by rw[Dp,Fg];unfold lim;omega) (τ:=[none,none,G]) rfl (gH (enc:=λk:Nat=>D.int (k:Int)) (p:=λk=>decide (xs.getD k 0=0)) (out:=λk:Nat=>D.int ((k:Int)+1)) (Ef c) none (λk hk=> ?_) (λk _ _=>ay (a:= .int (k:Int)) (b:= .int 1) rfl rfl iL))).trans ?_
   ·have QT:=Fj.mp hk
    have hx:iW (.lst (xs.map .int)) (.int (k:Int))=some (.int (xs.getD k 0)):=by
     rw[p9,hG (by rw[Dp];omega)]
     simp[show k<xs.length by omega]
    exact bE (ay (b:= .int 0) (ay (a:= .lst (xs.map .int)) (b:= .int (k:Int)) rfl rfl hx) rfl lp)
   ·simp only[l,q,Fc];rfl)]
  rfl)).trans e2)]
 have hg:(NB.length:Int)=(xs.length:Int)+(xs.count 0:Int):=by rw[QB,<-ql,lx];push_cast;rfl
 rw[az (ρ':=[A,some (aD 2 (aT 2 m1) NB),some (.own (.lst (th.map .int))),y,G,x5,some (.val (.int (NB.length:Int))),none,none,none,none,none,none]) (dG (ay (bS (ae (d:= .lst (xs.map .int)) rfl rfl) (by rw[hE,Dp])) (rS (ns:=xs) (d:= .lst (xs.map .int)) (.inl rfl) rfl rfl) (by rw[iL,hg])) rfl)]
 rw[az (ρ':=[A,some (aD 2 (aT 2 m1) NB),some (.own (.lst (th.map .int))),y,G,x5,some (.val (.int (NB.length:Int))),some (.own (.lst [])),none,none,none,none,none]) rfl]
 obtain⟨ρ',e3⟩:=yr (ns:=ns) Ov (G:=G) (N5:=x5) (Ij 3 (ns.length - 3)) [] m1 NB (.own (.lst (th.map .int))) (.own (.lst [])) y none none none none none g1 NO .nil (λx=>by rw[Qw]) (by omega) (.inl rfl) (.inl rfl)
 rw[az (ρ':=ρ') ((nY (ds:=(Ij 3 (ns.length - 3)).map λk:Nat=>D.int (k:Int)) (by
  unfold nN
  rw[ae (d:= .int 3) rfl (ae (d:= .int (ns.length:Int)) (bS (ae (d:= .scr ns) rfl rfl) rfl) rfl),ai]
  dsimp only
  rw[if_pos ⟨by decide,by unfold lim;omega⟩]
  exact congrArg Pu.R.ok (iM 3 ns.length))).trans e3)]
 rfl
end My
end
inductive PySem.W.Fast
|tw10112771870722757518|tw10417449194639153765|tw10438637864138604515|tw10785366489303840791|tw11302918145543085541|tw11674460470990211870|tw11725121443247785771|tw11761584170141914174|tw11838106183081646916|tw12421106016410269559|tw12756883721066172194|tw12879654818114787016|tw13265747001326690874|tw13306036028897810391|tw13482570692143335994|tw13956820241266371148|tw14099805422864057158|tw14181280209097808924|tw1502395132206284041|tw15090815852159648314|tw15174837705435264824|tw15174951310176379426|tw15379053842935456492|tw15403090378048912104|tw15442354687411187839|tw15469082178616785557|tw15474805341147547383|tw15805240777700007368|tw15876858247325625926|tw16146279248593512564|tw16174012827725872191|tw16267330407293934361|tw16440559865354514775|tw16475487689403815953|tw16789861431449213292|tw16844620091055804642|tw16846039829497794982|tw16870254873544125974|tw17051950445944629844|tw17084283811911248347|tw17387304638362315932|tw17425210003071774607|tw17873810332355847195|tw18015679295022002245|tw18125183895176133873|tw1932341735966102466|tw2672651929636454510|tw2718428284424851479|tw3004669753893444185|tw3187155184230161692|tw3224196531828765825|tw3461812792833264398|tw3720888676827965946|tw4689546980971726046|tw5102137759042618803|tw5201277274970660651|tw5234317761204487367|tw5381544829546289737|tw5563831816159722880|tw5579058460452827326|tw5672131427479089608|tw5844384631970748784|tw597838712338848494|tw6034874586279528041|tw6121944639354253412|tw6618902163613898779|tw6653150870450819703|tw7049948361269458231|tw7128312236703425063|tw715345506061943731|tw7340988391218366260|tw7533240993747562630|tw7552051832331578696|tw7582405367542854697|tw7708320222636644837|tw7783501775262934402|tw7795489467397003717|tw7801406655525207502|tw7815071485731040452|tw7882443472670845046|tw7987886991809678864|tw8288588537907154199|tw8324376568210995757|tw8362143284949219670|tw8554816908531455084|tw8567628304026243819|tw8595696501561185982|tw8691095084034622338|tw8883968379982744071|tw8942914769277830652|tw8966216852847940418|tw9005360715088601545|tw9116783938349184434|tw9542464794653416356|tw9652757220806472178|tw973550323140652937|tw986178140210569478|tw9990142224720964182
open PySem PySem.W PyProof.Rows
set_option maxRecDepth 100000 in
set_option maxHeartbeats 0 in
theorem PySem.Challenge.cw_tankbalance_k21_meters_come_and_go_holds : PySem.Challenge.rw_tankbalance_k21_meters_come_and_go.Holds := by
  w_on; o_law; k_head; (case hw => w_witness2)
  k_fill
  refine My.walk (l := PySem.Challenge.rw_tankbalance_k21_meters_come_and_go) rfl rfl (fun w h Y => PySem.W.kIn_of Y) My.main ?F
  case F =>
    intro w mg fa h KX G hmg
    refine' My.zW KX G hmg ?_ ?_ ?_ ?_ ?_ ?_ ?_ ?_ ?_ ?_ ?_ ?_ ?_ ?_ ?_ ?_ ?_ ?_ ?_ ?_ ?_ ?_ ?_ ?_ ?_ ?_ ?_ ?_ ?_ ?_ ?_ ?_ ?_ ?_ ?_ ?_ ?_ ?_ ?_ ?_ ?_ ?_ ?_ ?_ ?_ ?_ ?_ ?_ ?_ ?_ ?_ ?_ ?_ ?_ ?_ ?_ ?_ ?_ ?_ ?_ ?_ ?_ ?_ ?_ ?_ ?_ ?_ ?_ ?_ ?_ ?_ ?_ ?_
    all_goals try first | k_is | k_exc | (refine' L2.Pu.UF.of ?_ ?_ ?_ ?_ <;> try k_is) | (refine' L2.Pu.oh.of ?_ ?_ ?_ ?_ ?_ <;> try k_is)
    all_goals try (repeat' (first | exact True.intro | refine And.intro ?_ ?_ | (refine @Eq.trans _ _ (some true) _ ?_ rfl; k_is) | (refine @Eq.trans _ _ (some false) _ ?_ rfl; k_is) | k_is | k_exc))
