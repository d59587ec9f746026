import PyProof.Rows.All
import Wide.All
import OpenK.AllK
import Wide.FinOn
import Lean
import PyProof.EqAt
import PyProof.EqKinds
import PyProof.TupleCall
import PyProof.NeKinds
import PySem.Challenge.RW_tankbalance_k19_new_cellar
set_option Elab.async false
set_option linter.all false
set_option maxRecDepth 100000
set_option maxHeartbeats 40000000
open PySem.W renaming Frag->Dd,nsIn->Dq,findIn->Ds,mg_of->DN,mroIn->DR,keepIn->D_,fnOf->E2,mg_none_of->E8,excIn->E9,kitOne->Ea,kia_one->Ec,emptyDict->Es,instObj->EG,plainGet->EU,hasDictIn->E_,codeIn->Fc,makesIn->Fo,plainOver->Fw,specialIn->Fx,kitCls->FF,exmOne->FG,looks_findIn->FJ,takesIn->F_,methodCall_KW->Gi,hideAll_none->Gm,isFn->Gr,nd_pure->Gv,hideAll_get->Gy,plainGet_of->Gz,lookIn->GA,callWith_K->GC,methodObj->GL,takerIn->Hq,OpenLaw->Ht,cellsFrom_some->Hv,typeIn->HD,looks_mroIn->I0,of_hideAll->Ii,kitx_list->II,kitx_dict->IJ,handedIn->IV,hideAll->J8,kitMeta->Jj,WalkO->Jr,Looks->Js,clsIn->Jt
open PySem renaming Value->De,Str->Df,Addr->Dg,Shared->Dh,starEach->Di,Spec->Dj,wpAny_bind->Dk,mainGlobals->Dm,Expr->Dn,wpAny->Du,Program->Dv,model->Dx,Heap->DB,World->DE,wpAny_pure->DG,eval->DH,Around->DI,Stmt->DJ,Obj->DP,backTo->DX,Pos->DY,bootBuiltins->DZ,NameKind->E4,FuncData->Eg,swapsWith->Ei,attributeBase->Em,boot_len->Eo,compareOp->Ep,sizeLine_eq->EB,Env->EF,wpAny_mono->EH,binaryOp->EI,wpAny_truthy_bool->EL,foldedSetIterable->EM,behindInMarks->EN,Scope->EO,keywordEach->EV,wpAny_Call_Name_kw->EW,bindArgs->EY,mem_of_lookup->Fi,Tok->Fn,getMethod->FI,backToKw->FK,wpAny_holding->FQ,standAt->FU,holding->FV,sliceBounds->FX,wpAny_passesOwn->FY,cLine->G0,codeAny_mono->G2,codeAny->G6,Sem->Gd,callWith->Gf,plainObj_wpAny_Assign_Attribute->Gk,wpAny_execs_nil->Gq,codeAny_call_builtin->Gw,unbindBehindTheSuite->Gx,tupleKind_room_in1->GD,wpAny_newList->GJ,wpAny_call->GS,call_meets->GU,valueAt->GZ,callerA->G_,Builtin->H9,GenState->Ha,noFill_tuple_add->He,wpAny_comprehension_free->Hh,wpAny_check_ga_own->Hl,letOwnedTupleGo->Ho,subscripted->Hw,isTrue->HC,BindsTo->HE,getItem->HF,bindL->HL,bindC->HM,seq_tuple_add->HW,wpAny_standAt->HY,tupleKind->Ie,Within->Ig,wpAny_pyIter_tuple->Il,Result->Im,concat_meets->Iu,noteFrame->Iv,scanBound->Iy,Model->IB,CmpOp->IC,Keyword->ID,atKey->IE,relabel->IF,wpAny_pyIter_list->IG,slot_list_getitem->IL,builtinsNs->Ja,wpAny_Name->Jb,truthy->Jc,typeIs_int->Jd,call->Jf,spliced->Jl,BoolOp->Jy
open List renaming length_map->Dl,size_toArray->Dr,mem_cons_self->Dt,mem_cons_of_mem->Dw,getElem?_eq_some_iff->Dy,mem_cons->DA,length_cons->DC,map_cons->DD,mem_singleton->DM,mem_append_right->DO,getElem?_map->DQ,replicate->DU,length_append->E5,range->Eb,append_nil->Ed,pairwise_cons->Ee,lookup_cons->Ef,mem_append_left->Ej,mem_of_getElem?->Ek,mem_range->Ex,getElem?_cons_zero->Ey,getElem?_cons_succ->Ez,replicate_succ->EA,all_cons->EC,any_cons->ED,getElem?_append_left->EE,getElem?_replicate->ER,mem_append->EX,getD_eq_getElem?_getD->EZ,flatten_cons->F7,length_range->F8,pairwise_map->F9,map_nil->Fd,getElem?_eq_getElem->Ff,map_map->Fg,filterMap_cons->Fh,nodup_cons->Fq,find?_cons->Fs,map_append->Fu,length_nil->Fv,getElem?_set->FA,toArray->FE,any_eq_true->FL,getElem?_append->FN,all_eq_true->FO,getElem?_append_right->FP,lookup->FW,pairwise_iff_getElem->G1,mem_map->G4,reverse_cons->G9,append_assoc->Ga,not_mem_nil->Gg,length_replicate->Gj,getElem?_set_ne->Gp,mem_filterMap->GB,nodup_append->GQ,drop_eq_getElem_cons->GW,getElem_inj->Hb,length_eq_zero_iff->Hm,of_mem_zip->Hr,nil_append->Hs,getElem?_set_self->Hu,length_singleton->HG,dropLast_eq_take->HJ,foldl->HP,mem_iff_getElem->HQ,zip->HS,map_congr_left->I9,any_eq_false->IH,length->IT,length_take->IW,getElem_map->IY,getElem_mem->IZ,drop_length->J0,ext_getElem->J4,map->J5,filter_cons->J6,mem_filter->J9,foldl_cons->Je,nodup_nil->Jo
open PySem.Heap renaming get?_push_of_some->Dp,lt_size->Dz,get?_push_size->DT,size_push->FC,get?_none_of_le->Gn,SameBut->Ik
open Bool renaming false_ne_true->DF,false_eq_true->E7,and_eq_true->Eu,eq_iff_iff->FZ,and_false->HH,or_eq_false_iff->HU,not_true->H_,or_eq_true->Ji,not_false->Jp
open Nat renaming le_refl->DK,lt_of_lt_of_le->DS,ne_of_lt->DV,le_trans->E1,lt_irrefl->El,zero_le->Ew,lt_succ_of_lt->Fy,lt_of_le_of_lt->GF,add_sub_cancel->GG,le_succ_of_le->GP,le_of_eq->Hc,lt_succ_self->Hd,le_of_not_lt->Hf,zero_add->Hj,le_of_lt->Ij,lt_trichotomy->IP,le_succ->IS,reduceAdd->Ju
open PySem.Value renaming ref->DL,none->E3,type->Fb,int->Fj,builtin->FR,str->Gh,bool->HK,float->IQ,isStrOf->Jq,isInt->JA,bytes->JB
open Or renaming inr->DW,inl->E6
open Option.some renaming inj->Eh,injEq->GO
open PySem.NameKind renaming free->En,cell->HX
open False renaming elim->Et
open PyProof.Rows renaming envOfC->EJ,callWith_type1->FH,AllBare->G5,step_dedup->G7,callWith_builtin1->Gs,IntsAre->GY,subscriptTail_builtinR->Hx,listUpdate_at->HZ,seqEpoch_at->IU,firstMet->I_,IsTup->J7,sortedHeap->Jg
open PySem.Obj renaming mapSeq->EK
open Array renaming length_toList->ES,getD_eq_getD_getElem?->GH,perm_iff_toList_perm->GK,getElem?_toList->HI,getD->HR,append_assoc->Ih,map->Iw,toList->Jw
open Ne renaming symm->ET
open PySem.Builtin.List renaming listTooLong->Fe
open True renaming intro->Fp
open Option renaming map_some->Ft,bind_some->Hg,isSome_map->IM,getD_none->IX,none->JC
open List.Perm renaming refl->FD,nil_eq->J3,cons->Jm
open Sum renaming inl->FT,inr->GX
open PySem.F renaming args_tuple_add_2->G3,entry_tuple_add->G8,slot_tuple_add->Ge,plainAttrs_list->Hn
open PySem.Builtin.Getset_descriptor renaming descrGet->Gb,descrCheckInstance->HA,descrNameAndClass->HB,descrGetter->Ia
open ForInStep renaming yield->Gu
open PySem.Calls renaming Name_function_global->GI,call_function_entry->GV,callWith_builtin->Hy,evalArgs_plain->HN,spliced_cons->Ir,spliced_nil->IK
open List.Pairwise renaming nil->GN
open PySem.PassesOwn renaming leaving->GR
open Int renaming lt_trans->Hi,emod_nonneg->Jk
open PySem.Str renaming ofString->Hk,empty->Io
open PySem.Paired renaming length->HV
open PySem.SeqAt.EqAt renaming int_str->Ib,str_int->Ic
open PySem.Around renaming under->Ip
open PySem.Code renaming isFrame->Iq,quiet_builtin->Iz
open PySem.W.KF renaming slot_gs->IA
open PySem.Builtin.ObjectAttr renaming takesStores->Jh,bindTo->Jv,find->Jz
open PySem.Builtin.Frozenset renaming updateFrom->Jn
open PySem.Data renaming seq->Jx
local macro_rules | `(tactic| omega) => `(tactic| lia)
noncomputable section
namespace L2
open PySem PySem.Spec PyProof.Rows
abbrev bR:=Sum Int Df
def lD:bR->De->Bool
 | .inl k,v=>JA k v
 | .inr x,v=>Jq x v
def BJ (w:DE):bR->Int
 | .inl k=>hashInt k
 | .inr x=>hashStr w x
theorem bj:∀{k:bR} {v:De},lD k v=true->(∃i t,k=FT i/\v=Fj i t)\/(∃x t,k=GX x/\v=Gh x t)
 | .inl i,v,h=>by
  obtain⟨t,e⟩:=Value.isInt_shape (k:=i) (v:=v) h
  exact .inl ⟨i,t,rfl,e⟩
 | .inr x,v,h=>by
  obtain⟨t,e⟩:=Value.isStrOf_shape (x:=x) (v:=v) h
  exact .inr ⟨x,t,rfl,e⟩
theorem sO (i:Int) (t:Fn):lD (.inl i) (.int i t)=true:=by simp[lD,JA]
theorem sP (x:Df) (t:Fn):lD (.inr x) (.str x t)=true:=by simp[lD,Jq]
theorem yG (a b:Int):decide ((FT a:bR)=FT b)=(a==b):=by
 by_cases e:a=b
 ·subst e;simp
 ·have h:¬(FT a:bR)=FT b:=λq=>e (Sum.inl.inj q)
  rw[decide_eq_false h]
  exact(beq_eq_false_iff_ne.mpr e).symm
theorem yH (a b:Df):decide ((GX a:bR)=GX b)=decide (a=b):=by
 by_cases e:a=b
 ·subst e;simp
 ·have h:¬(GX a:bR)=GX b:=λq=>e (Sum.inr.inj q)
  rw[decide_eq_false h,decide_eq_false e]
theorem yI (a:Int) (b:Df):decide ((FT a:bR)=GX b)=false:=decide_eq_false (λq=>nomatch q)
theorem yJ (a:Df) (b:Int):decide ((GX a:bR)=FT b)=false:=decide_eq_false (λq=>nomatch q)
def cw (prog:Dv) (w:DE):PySem.KeyKind prog w bR where
 is:=lD
 hash:=BJ w
 inj:=λv a b ha hb=>by
  rcases bj ha with ⟨i,t,rfl,rfl⟩|⟨x,t,rfl,rfl⟩
  ·rcases bj hb with ⟨j,u,rfl,e⟩|⟨y,u,rfl,e⟩
   ·injection e with e1 _;rw[e1]
   ·exact nomatch e
  ·rcases bj hb with ⟨j,u,rfl,e⟩|⟨y,u,rfl,e⟩
   ·exact nomatch e
   ·injection e with e1 _;rw[e1]
 byValue:=λk v h=>by
  rcases bj h with ⟨i,t,rfl,rfl⟩|⟨x,t,rfl,rfl⟩<;>rfl
 pyHash:=λhv h=>by
  rcases bj hv with ⟨i,t,rfl,rfl⟩|⟨x,t,rfl,rfl⟩
  ·exact wpAny_pyHash_int h
  ·exact wpAny_pyHash_str h
 eqBool:=λhu hv h=>by
  rcases bj hu with ⟨i,t,rfl,rfl⟩|⟨x,t,rfl,rfl⟩
  ·rcases bj hv with ⟨j,u,rfl,rfl⟩|⟨y,u,rfl,rfl⟩
   ·rw[yG]at h;exact wpAny_eqBool_int h
   ·rw[yI]at h;exact Ib i t y u _ _ _ _ h
  ·rcases bj hv with ⟨j,u,rfl,rfl⟩|⟨y,u,rfl,rfl⟩
   ·rw[yJ]at h;exact Ic x t j u _ _ _ _ h
   ·rw[yH]at h;exact wpAny_eqBool_str h
 «strs»:=λk x t v h=>by
  rcases bj h with ⟨i,u,rfl,e⟩|⟨y,u,rfl,e⟩
  ·exact nomatch e
  ·injection e with e1 _
   subst e1
   cases v<;>rfl
theorem pq (prog:Dv) (w:DE) (i:Int) (t:Fn):(cw prog w).is (.inl i) (.int i t)=true:=sO i t
theorem pw (prog:Dv) (w:DE) (x:Df) (t:Fn):(cw prog w).is (.inr x) (.str x t)=true:=sP x t
end L2
namespace L2
open PySem PySem.Spec PyProof.Rows
inductive V where
 |non|bl (b:Bool)|int (i:Int)|str (x:Df)|byt (b:Array UInt8)|flt (b:UInt64)|ref (a:Dg)|ty (n:String)
 deriving DecidableEq
def aZ:V->De->Prop
 | .non,u=>u=E3
 | .bl b,u=>u=HK b
 | .int i,u=>∃t,u=Fj i t
 | .str x,u=>∃t,u=Gh x t
 | .byt b,u=>∃t,u=JB b t
 | .flt b,u=>∃t,u=IQ b t
 | .ref a,u=>u=DL a
 | .ty n,u=>u=Fb n
abbrev aF:List V->List De->Prop:=Paired aZ
theorem aF.length {xs:List V} {us:List De} (r:aF xs us):xs.length=us.length:=HV r
theorem aF.get:∀{xs:List V} {us:List De} {i:Nat} {x:V},aF xs us->xs[i]? =some x->∃u,us[i]? =some u/\aZ x u
 |_,_,_,_, .nil,e=>by simp at e
 |_,_,0,_, .cons r _,e=>by simp at e;subst e;exact⟨_,rfl,r⟩
 |_,_,i+1,x, .cons _ t,e=>by
  obtain⟨u,h1,h2⟩:=aF.get (i:=i) (x:=x) t (by simpa using e)
  exact⟨u,by simpa using h1,h2⟩
theorem aF.set {x:V} {u:De} (r:aZ x u):∀{xs:List V} {us:List De} (i:Nat),aF xs us->aF (xs.set i x) (us.set i u)
 |_,_,_, .nil=> .nil
 |_,_,0, .cons _ t=> .cons r t
 |_,_,i+1, .cons q t=> .cons q (aF.set r i t)
theorem aF.append:∀{xs ys:List V} {us ws:List De},aF xs us->aF ys ws->aF (xs++ys) (us++ws)
 |_,_,_,_, .nil,s=>s
 |_,_,_,_, .cons r t,s=> .cons r (aF.append t s)
theorem aF.take:∀{xs:List V} {us:List De} (n:Nat),aF xs us->aF (xs.take n) (us.take n)
 |_,_,0,_=> .nil
 |_,_,_+1, .nil=> .nil
 |_,_,n+1, .cons r t=> .cons r (aF.take n t)
theorem aF.drop:∀{xs:List V} {us:List De} (n:Nat),aF xs us->aF (xs.drop n) (us.drop n)
 |_,_,0,r=>r
 |_,_,_+1, .nil=> .nil
 |_,_,n+1, .cons _ t=>aF.drop n t
def hJ:Option V->Option De->Prop
 |some v,some u=>aZ v u
 |none,none=>True
 |_,_=>False
def KV {κ:Type}:List (κ×V)->List (κ×De)->Prop:=Paired λ(p:κ×V) (q:κ×De)=>p.1=q.1/\aZ p.2 q.2
def kV:bR->V
 | .inl i=> .int i
 | .inr x=> .str x
inductive HO where
 |lst (xs:List V)
 |tup (xs:List V)
 |dK (kvs:List (bR×V))|dT (kvs:List (List bR×V))
 |set (S:Int->Bool) (n:Nat)
 |ins (C dx:Dg) (fs:List (Df×V))
 |own (x:Dg)
 |xd (fs:List (Df×V))
 |met (f x:Dg)
 |rng (lo hi:Int)
 |frz (o:DP) (u:HO)
 |tbl (ps:Array De)
 |ext (φ:DB->Prop)
abbrev Hp:=Dg->Option HO
def a_ (H:Hp) (a:Dg) (o:HO):Hp:=λb=>if b=a then some o else H b
theorem ar {H:Hp} {a:Dg} {o:HO}:a_ H a o a=some o:=by unfold a_;rw[if_pos rfl]
theorem ai {H:Hp} {a b:Dg} {o:HO} (h:b≠a):a_ H a o b=H b:=by unfold a_;rw[if_neg h]
theorem bG {H:Hp} {a b:Dg} {o:HO} (h:H a=some o) (h':H b=none):a≠b:=by
 intro e;subst e;rw[h]at h';cases h'
def gG (h:DB) (a:Dg) (L1:Array De):Prop:=∃o,h.get? a=some o/\o.cls= .type "tuple"/\∃n,o.data= .seq L1 n/\o.dict=none
theorem gG.tup {h:DB} {a:Dg} {L1:Array De} (x:gG h a L1):J7 h a L1:=let ⟨o,ho,hc,n,hd,_⟩:=x;⟨o,ho,hc,n,hd⟩
theorem gG.lt {h:DB} {a:Dg} {L1:Array De} (x:gG h a L1):a<h.objs.size:=x.tup.lt
theorem gG.new (h:DB) (L1:Array De):gG (h.push {cls:= .type "tuple",data:= .seq L1}) h.objs.size L1:=⟨_,DT _ rfl,rfl,_,rfl,rfl⟩
section
variable (P:Dv) (w:DE)
def bd (H:Hp) (h:DB) (a:Dg):HO->Prop
 | .lst xs=>xs.length<=sizeLine/\∃(its:List De) (n:Nat),aF xs its/\h.get? a=some {cls:= .type "list",data:= .seq its.toArray n}
 | .tup xs=>xs.length<=sizeLine/\∃its:List De,aF xs its/\gG h a its.toArray
 | .dK kvs=>kvs.length<=sizeLine/\(a==sysModules)=false/\∃vs,KV kvs vs/\h.DictOf (cw P w) a vs
 | .dT kvs=>kvs.length<=sizeLine/\(a==sysModules)=false/\∃xs:List (List bR×Dg×De),
   Paired (λ(p:List bR×V) (q:List bR×Dg×De)=>p.1=q.1/\H q.2.1=some (.tup (p.1.map kV))/\aZ p.2 q.2.2) kvs xs/\
   ∃o es ep,h.get? a=some o/\o.ExactDict/\o.data= .dict es ep/\es.toList=xs.map (entryOfKey (Ie (cw P w)))/\(xs.map (·.1)).Nodup
 | .set S n=>h.SetOf (intKind P w) a S n
 | .ins C dx fs=>H dx=some (.own a)/\fs.length<=1000/\dx≠a/\h.get? a=some (EG C dx)/\
   ∃mA,h.Ns1 dx mA/\(∀f,hJ (fs.lookup f) (mA f))/\Ig mA (fs.map (·.1))
 | .own _=>∃o,h.get? a=some o
 | .xd fs=>∃mA,h.Ns1 a mA/\∀f,hJ (fs.lookup f) (mA f)
 | .rng lo hi=>∃t u v,h.get? a=some {cls:= .type "range",data:= .fields #[.int lo t, .int hi u, .int 1 v]}
 | .frz o u=>h.get? a=some o/\bd H h a u
 | .tbl ps=>h.get? a=some {cls:= .none,data:= .fields ps}
 | .met f x=>h.get? a=some (GL (.ref f) (.ref x))
 | .ext φ=>φ h/\(∃o,h.get? a=some o)/\∀h1 h2:DB,φ h1->(∀o,h1.get? a=some o->h2.get? a=some o)->φ h2
def h_ (H:Hp) (h:DB):Prop:=∀a o,H a=some o->bd P w H h a o
end
section
variable {P:Dv} {w:DE} {H H':Hp} {h h':DB} {a:Dg} {o:HO}
theorem bd.lt (x:bd P w H h a o):a<h.objs.size:=by
 cases o with
 |lst xs=>obtain⟨_,_,_,_,e⟩:=x;exact Dz e
 |tup xs=>obtain⟨_,_,_,p⟩:=x;exact p.lt
 |dK kvs=>obtain⟨_,_,_,_,o,_,_,e,_⟩:=x;exact Dz e
 |dT kvs=>obtain⟨_,_,_,_,o,_,_,e,_⟩:=x;exact Dz e
 |set S n=>obtain⟨o,_,_,_,e,_⟩:=x;exact Dz e
 |ins C dx fs=>obtain⟨_,_,_,e,_⟩:=x;exact Dz e
 |own y=>obtain⟨_,e⟩:=x;exact Dz e
 |xd fs=>obtain⟨_,⟨_,_,_,e,_⟩,_⟩:=x;exact Dz e
 |rng lo hi=>obtain⟨_,_,_,e⟩:=x;exact Dz e
 |frz ob u=>obtain⟨e,_⟩:=x;exact Dz e
 |tbl ps=>exact Dz (show h.get? a=some _ from x)
 |met f y=>exact Dz (show h.get? a=some _ from x)
 |ext φ=>obtain⟨_,⟨_,e⟩,_⟩:=x;exact Dz e
theorem Paired.mapP {α β:Type} {F G:α->β->Prop}:∀{l₁:List α} {l₂:List β},Paired F l₁ l₂->(∀a b,F a b->G a b)->Paired G l₁ l₂
 |_,_, .nil,_=> .nil
 |_,_, .cons r t,f=> .cons (f _ _ r) (Paired.mapP t f)
theorem bd.stay (x:bd P w H h a o) (k:∀b u,(b=a\/H b=some (.own a))->h.get? b=some u->h'.get? b=some u)
  (ho:∀b,H b=some (.own a)->H' b=some (.own a)) (ht:∀b xs,H b=some (.tup xs)->H' b=some (.tup xs)):bd P w H' h' a o:=by
 induction o with
 |lst xs=>obtain⟨z,its,n,r,e⟩:=x;exact⟨z,its,n,r,k _ _ (.inl rfl) e⟩
 |tup xs=>obtain⟨z,its,r,ob,e,c⟩:=x;exact⟨z,its,r,ob,k _ _ (.inl rfl) e,c⟩
 |dK kvs=>obtain⟨z,y,vs,r,ob,es,ep,e,c⟩:=x;exact⟨z,y,vs,r,ob,es,ep,k _ _ (.inl rfl) e,c⟩
 |dT kvs=>
  obtain⟨z,y,xs,r,ob,es,ep,e,c⟩:=x
  exact⟨z,y,xs,Paired.mapP r λp q z=>⟨z.1,ht _ _ z.2.1,z.2.2⟩,ob,es,ep,k _ _ (.inl rfl) e,c⟩
 |set S n=>obtain⟨ob,es,ep,t,e,c⟩:=x;exact⟨ob,es,ep,t,k _ _ (.inl rfl) e,c⟩
 |ins C dx fs=>
  obtain⟨d,z,ne,e,mA,⟨od,es,ep,e2,c⟩,r⟩:=x
  exact⟨ho _ d,z,ne,k _ _ (.inl rfl) e,mA,⟨od,es,ep,k _ _ (.inr d) e2,c⟩,r⟩
 |own y=>obtain⟨ob,e⟩:=x;exact⟨ob,k _ _ (.inl rfl) e⟩
 |xd fs=>obtain⟨mA,⟨od,es,ep,e,c⟩,r⟩:=x;exact⟨mA,⟨od,es,ep,k _ _ (.inl rfl) e,c⟩,r⟩
 |rng lo hi=>obtain⟨t,u,v,e⟩:=x;exact⟨t,u,v,k _ _ (.inl rfl) e⟩
 |frz ob u ih=>obtain⟨e,q⟩:=x;exact⟨k _ _ (.inl rfl) e,ih q⟩
 |tbl ps=>
  have e:h.get? a=some {cls:= .none,data:= .fields ps}:=x
  show h'.get? a=some {cls:= .none,data:= .fields ps}
  exact k a _ (.inl rfl) e
 |met f y=>
  have e:h.get? a=some (GL (.ref f) (.ref y)):=x
  show h'.get? a=some (GL (.ref f) (.ref y))
  exact k a _ (.inl rfl) e
 |ext φ=>obtain⟨p,⟨o,e⟩,st⟩:=x;exact⟨st _ _ p λo q=>k _ _ (.inl rfl) q,⟨o,k _ _ (.inl rfl) e⟩,st⟩
theorem h_.lt (x:h_ P w H h) (e:H a=some o):a<h.objs.size:=(x a o e).lt
theorem h_.fresh (x:h_ P w H h) (e:h.objs.size<=a):H a=none:=by
 cases q:H a with
 |none=>rfl
 |some u=>exact absurd (DS (x.lt q) e) (El _)
theorem h_.kept (x:h_ P w H h) (k:∀b u,h.get? b=some u->h'.get? b=some u):h_ P w H h':=λa o e=>
 (x a o e).stay (λb u _ q=>k b u q) (λ_ q=>q) λ_ _ q=>q
theorem h_.laid (x:h_ P w H h) (k:∀b u,h.get? b=some u->h'.get? b=some u) (hp:h.objs.size<=a) (new:bd P w (a_ H a o) h' a o):h_ P w (a_ H a o) h':=λb u e=>by
 have hn:=x.fresh hp
 by_cases hb:b=a
 ·subst hb;rw[ar]at e;cases e;exact new
 ·rw[ai hb]at e
  exact(x b u e).stay (λc v _ q=>k c v q) (λc q=>by rw[ai (bG q hn)];exact q) λc xs q=>by rw[ai (bG q hn)];exact q
end
def Rd (H:Hp) (a:Dg) (u:HO):Prop:=H a=some u\/∃o,H a=some (.frz o u)
theorem Rd.of {H:Hp} {a:Dg} {u:HO} (h:H a=some u):Rd H a u:= .inl h
theorem Rd.ok {P:Dv} {w:DE} {H:Hp} {h:DB} {a:Dg} {u:HO} (r:Rd H a u) (x:h_ P w H h):bd P w H h a u:=by
 rcases r with r|⟨o,r⟩
 ·exact x a u r
 ·obtain⟨_,q⟩:=x a _ r
  exact q
def Bo:Option HO->Prop
 |some (.lst _)=>True
 |some (.dK _)=>True
 |some (.dT _)=>True
 |some (.set _ _)=>True
 |some (.ins _ _ _)=>True
 |some (.ext _)=>True
 |_=>False
section
variable {P:Dv} {w:DE} {H:Hp} {h h':DB} {x e:Dg} {o':HO}
theorem h_.write (ok:h_ P w H h) (mu:Bo (H x)) (he:e=x\/H e=some (.own x)) (k:∀b u,b≠e->h.get? b=some u->h'.get? b=some u) (OJ:∃u,h'.get? e=some u)
  (new:bd P w (a_ H x o') h' x o'):h_ P w (a_ H x o') h':=λb u q=>by
 have OP:∀c y,H c=some (.own y)->c≠x:=λc y r z=>by subst z;rw[r]at mu;exact mu
 have PM:∀c xs,H c=some (.tup xs)->c≠x:=λc xs r z=>by subst z;rw[r]at mu;exact mu
 by_cases hb:b=x
 ·subst hb;rw[ar]at q;cases q;exact new
 ·rw[ai hb]at q
  by_cases NP:b=e
  ·have q':H b=some (.own x):=by
    rcases he with z|z
    ·exact absurd (NP.trans z) hb
    ·rw[NP];exact z
   rw[q]at q';cases q'
   obtain⟨v,hv⟩:=OJ
   exact⟨v,by rw[NP];exact hv⟩
  ·refine(ok b u q).stay (λc v hc r=>k c v ?_ r) (λc r=>by rw[ai (OP c b r)];exact r) λc xs r=>by rw[ai (PM c xs r)];exact r
   rcases hc with rfl|hc
   ·exact NP
   ·rintro rfl
    rcases he with z|z
    ·exact OP c b hc z
    ·rw[hc]at z;cases z;exact hb rfl
end
structure Un (fs ex:List Dg) (H H':Hp) (h h':DB):Prop where
 keep:∀b o,h.get? b=some o->H b=none->b∉fs->b∉ex->h'.get? b=some o
 slot:∀b o,h.get? b=some o->H b=none->b∈fs->b∉ex->∃sl,h'.get? b=some {o with slots:=sl}
 free:∀b o,h.get? b=some o->H b=none->b∉ex->H' b=none
 there:∀b o,h.get? b=some o->b∉ex->∃o',h'.get? b=some o'
 tups:∀b xs,H b=some (.tup xs)->H' b=some (.tup xs)
 frzs:∀b o u,H b=some (.frz o u)->H' b=some (.frz o u)
 tbls:∀b ps,H b=some (.tbl ps)->∃more,H' b=some (.tbl (ps++more))
section
variable {fs Mf ex Td:List Dg} {H H1 H2:Hp} {h h1 h2 h':DB} {a x e:Dg} {o:HO}
theorem Un.any (u:Un fs ex H H1 h h1) {b:Dg} {ob:DP} (q:h.get? b=some ob) (n:H b=none) (hx:b∉ex):∃sl,h1.get? b=some {ob with slots:=sl}:=by
 by_cases hb:b∈fs
 ·exact u.slot b ob q n hb hx
 ·exact⟨ob.slots,u.keep b ob q n hb hx⟩
theorem Un.trans (a:Un fs ex H H1 h h1) (b:Un fs ex H1 H2 h1 h2):Un fs ex H H2 h h2 where
 keep:=λc ob q n hc hx=>b.keep c ob (a.keep c ob q n hc hx) (a.free c ob q n hx) hc hx
 slot:=λc ob q n hc hx=>by
  obtain⟨sl,e1⟩:=a.slot c ob q n hc hx
  obtain⟨NW,e2⟩:=b.slot c _ e1 (a.free c ob q n hx) hc hx
  exact⟨NW,e2⟩
 free:=λc ob q n hx=>by
  obtain⟨o',e1⟩:=a.there c ob q hx
  exact b.free c o' e1 (a.free c ob q n hx) hx
 there:=λc ob q hx=>by
  obtain⟨o',e1⟩:=a.there c ob q hx
  exact b.there c o' e1 hx
 tups:=λc xs q=>b.tups c xs (a.tups c xs q)
 frzs:=λc ob xs q=>b.frzs c ob xs (a.frzs c ob xs q)
 tbls:=λc ps q=>by
  obtain⟨m1,e1⟩:=a.tbls c ps q
  obtain⟨m2,e2⟩:=b.tbls c _ e1
  exact⟨m1++m2,by rw[e2,Ih]⟩
theorem Un.kept (k:∀b u,h.get? b=some u->h'.get? b=some u):Un fs ex H H h h':=
 ⟨λb ob q _ _ _=>k b ob q,λb ob q _ _ _=>⟨ob.slots,k b ob q⟩,λ_ _ _ n _=>n,λb ob q _=>⟨ob,k b ob q⟩,λ_ _ q=>q,λ_ _ _ q=>q,λ_ ps q=>⟨#[],by rw[q];simp⟩⟩
theorem Un.refl:Un fs ex H H h h:=Un.kept λ_ _ q=>q
theorem Un.laid (k:∀b u,h.get? b=some u->h'.get? b=some u) (hp:h.objs.size<=a) (hn:H a=none):Un fs ex H (a_ H a o) h h' where
 keep:=λb u q _ _ _=>k b u q
 slot:=λb u q _ _ _=>⟨u.slots,k b u q⟩
 free:=λb u q n _=>by rw[ai (DV (DS (Dz q) hp))];exact n
 there:=λb u q _=>⟨u,k b u q⟩
 tups:=λb xs q=>by rw[ai (bG q hn)];exact q
 frzs:=λb u xs q=>by rw[ai (bG q hn)];exact q
 tbls:=λb ps q=>⟨#[],by rw[ai (bG q hn),q];simp⟩
theorem Un.write (mu:Bo (H x)) (he:e=x\/H e=some (.own x)) (k:∀b u,b≠e->h.get? b=some u->h'.get? b=some u) (OJ:∃u,h'.get? e=some u):Un fs ex H (a_ H x o) h h':=by
 have hx:∀b,H b=none->b≠x:=λb n z=>by subst z;rw[n]at mu;exact mu
 have hb:∀b,H b=none->b≠e:=λb n z=>by
  subst z
  rcases he with r|r
  ·exact hx b n r
  ·rw[n]at r;cases r
 have hm:∀b u,H b=some u->¬Bo (some u)->b≠x:=λb u q nm z=>by subst z;rw[q]at mu;exact nm mu
 refine⟨λb u q n _ _=>k b u (hb b n) q,λb u q n _ _=>⟨u.slots,k b u (hb b n) q⟩,λb u q n _=>by rw[ai (hx b n)];exact n,λb u q _=> ?_,
  λb xs q=>by rw[ai (hm b _ q λz=>z)];exact q,λb u xs q=>by rw[ai (hm b _ q λz=>z)];exact q,λb ps q=>⟨#[],by rw[ai (hm b _ q λz=>z),q];simp⟩⟩
 by_cases NP:b=e
 ·subst NP;exact OJ
 ·exact⟨u,k b u NP q⟩
end
def Bp (h:DB) (H:Hp):List Dg:=(Eb h.objs.size).filter λa=>(H a).isSome
def o1 (h:DB) (H:Hp):DB:=J8 h (Bp h H)
theorem sQ (h:DB) (H:Hp):(o1 h H).objs.size=h.objs.size:=PySem.W.hideAll_size _ _
theorem ut {h:DB} {H:Hp} {b:Dg} {o:DP} (e:h.get? b=some o) (n:H b=none):(o1 h H).get? b=some o:=
 Gy _ e λhm=>by
  have q:(H b).isSome=true:=(J9.mp hm).2
  rw[n]at q;simp at q
theorem wC {h:DB} {H:Hp} {b:Dg} {o:DP} (e:(o1 h H).get? b=some o):h.get? b=some o/\H b=none:=by
 have e':h.get? b=some o:=Ii (Bp h H) e
 refine⟨e',?_⟩
 cases q:H b with
 |none=>rfl
 |some x=>
  have hm:b∈Bp h H:=J9.mpr ⟨Ex.mpr (Dz e'),by simp[q]⟩
  have z:(o1 h H).get? b=none:=Gm (Bp h H) hm
  rw[z]at e;cases e
def wD (g h:DB) (L:Dg):List (Dg×DP):=(Eb h.objs.size).filterMap λa=>if a=L\/(g.get? a).isSome=true then none else (h.get? a).map λo=>(a,o)
def rest (g h:DB) (L d:Dg):List (Dg×DP):=(wD g h L).filter λp=>decide (p.1≠d)
end L2
namespace L2
open PySem PySem.Spec PyProof.Rows
structure Mod (K:Dd) (mg:Df->Option De) (base:DB):Prop where
 kin:K.In base
 glob:base.Ns Dm mg
 blt:∃mb,base.Ns Ja mb/\∀x:Df,x≠"__name__"->mb x=DZ x
 nolimit:base.NoLimit
structure Cx where
 prog:Dv
 w:DE
 K:Dd
 mg:Df->Option De
 base:DB
 A:DI
 N:List Df
 s₀:Dh
 H₀:Hp
 env:EF
 outer:List EF
 stack:List EF
 ex:List Dg
 fn:Df->Bool
 calm:Bool
 pn:List (Dg×DP)
 xe:De->Dh->Prop
def lm (l:List EF):List Dg:=l.filterMap (·.frame)
abbrev Cx.fs (X:Cx):List Dg:=lm X.outer
def l7 (sc:EO) (x:Df):Prop:=sc.names.lookup x=some .local\/sc.names.lookup x=some .cell\/sc.names.lookup x=some .free
def uu (sc:EO) (x:Df):Prop:=sc.names.lookup x=some .local\/sc.names.lookup x=some .cell
def BK (env:EF) (h:DB) (m:Df->Option De) (x:Df) (u:De):Prop:=
 (env.kindOf x=some .local/\m x=some u)\/((env.kindOf x=some .cell\/env.kindOf x=some .free)/\∃c,env.cells.lookup x=some c/\h.IsCell c (some u))
structure Cx.Ok (X:Cx):Prop where
 mod:Mod X.K X.mg X.base
 kind:X.env.scope.kind= .function
 glob:X.env.globals=Dm
 blt:X.env.builtins=Ja
 above:X.s₀.heap.objs.size<=X.env.locals
 inj:∀x y c,X.env.cells.lookup x=some c->X.env.cells.lookup y=some c->x=y
 has:∀x,(X.env.kindOf x=some .cell\/X.env.kindOf x=some .free)->∃c,X.env.cells.lookup x=some c
 cab:∀x c,X.fn x=true->X.env.cells.lookup x=some c->X.s₀.heap.objs.size<=c
 hd:X.calm=true->X.A.handled=none
 frames:X.A.frames=some X.stack
 stk:X.stack=X.outer\/(X.stack=X.env::X.outer/\X.env.frame=some X.env.locals)
 exf:∀b∈X.ex,b≠X.env.locals/\∀x c,X.env.cells.lookup x=some c->c≠b
 bs:∀b o,X.base.get? b=some o->X.s₀.heap.get? b=some o/\X.H₀ b=none
 bsz:X.base.objs.size<=X.s₀.heap.objs.size
 noex:∀b o,X.base.get? b=some o->b∉X.ex
 exfs:∀b∈X.ex,b∉X.fs
 funs:X.s₀.heap.FunFrames X.base X.outer
 frf:∀b∈X.fs,X.H₀ b=none
structure au (X:Cx) (JD:List (Dg×DP)) (σ:List (Option V)) (H:Hp) (s:Dh):Prop where
 ok:X.Ok
 os:s.os=X.s₀.os
 bare:G5 s.gens
 base:Un X.fs X.ex X.H₀ H X.s₀.heap s.heap
 loc:∃m,s.heap.Ns X.env.locals m/\∀(i:Nat) (x:Df) (v:V),X.N[i]? =some x->σ[i]? =some (some v)->l7 X.env.scope x->∃u,aZ v u/\BK X.env s.heap m x u
 cell:∀x c,X.env.cells.lookup x=some c->∃v,s.heap.IsCell c v
 free:H X.env.locals=none
 freeC:∀x c,X.env.cells.lookup x=some c->H c=none
 pin:∀p∈X.pn++JD,s.heap.get? p.1=some p.2/\H p.1=none/\p.1≠X.env.locals/\p.1∉X.fs/\∀v,p.2.data≠ .cell v
 hok:h_ X.prog X.w H s.heap
 len:σ.length=X.N.length
section
variable {X:Cx} {JD:List (Dg×DP)} {σ:List (Option V)} {H H':Hp} {s:Dh} {h':DB}
theorem Cx.Ok.nofr (ok:X.Ok) {b:Dg} {o:DP} (e:X.base.get? b=some o):b∉X.fs:=λhb=>by
 have:=(ok.funs.mem hb).1
 rw[e]at this;cases this
theorem au.bs (I:au X JD σ H s):∀b o,X.base.get? b=some o->s.heap.get? b=some o/\H b=none:=λb o e=>
 ⟨I.base.keep b o (I.ok.bs b o e).1 (I.ok.bs b o e).2 (I.ok.nofr e) (I.ok.noex b o e),I.base.free b o (I.ok.bs b o e).1 (I.ok.bs b o e).2 (I.ok.noex b o e)⟩
theorem au.bk (I:au X JD σ H s):∀b o,X.base.get? b=some o->s.heap.get? b=some o:=λb o e=>(I.bs b o e).1
theorem au.mod (I:au X JD σ H s):Mod X.K X.mg X.base:=I.ok.mod
theorem au.kIn (I:au X JD σ H s):X.K.In s.heap:=I.ok.mod.kin.keeps I.bk
theorem au.lt (I:au X JD σ H s):X.env.locals<s.heap.objs.size:=let ⟨_,hn,_⟩:=I.loc;hn.lt
theorem au.sz (I:au X JD σ H s):X.s₀.heap.objs.size<=s.heap.objs.size:=E1 I.ok.above (Ij I.lt)
theorem au.nofs (I:au X JD σ H s) {a:Dg} (h:s.heap.objs.size<=a):a∉X.fs:=λhb=>by
 obtain⟨_,o,ho,_⟩:=I.ok.funs.mem hb
 exact absurd (DS (Dz ho) (E1 I.sz h)) (El _)
theorem au.cne (I:au X JD σ H s):∀x c,X.env.cells.lookup x=some c->c≠X.env.locals:=λx c e z=>by
 obtain⟨v,o,ho,hd⟩:=I.cell x c e
 obtain⟨m,⟨o',es,ep,O6,PN,_⟩,_⟩:=I.loc
 rw[z,O6]at ho;cases ho;rw[PN]at hd;cases hd
theorem au.funs (I:au X JD σ H s):s.heap.FunFrames X.base X.outer:=by
 have all:∀(l:List EF),(∀b∈lm l,b∈X.fs)->X.s₀.heap.FunFrames X.base l->s.heap.FunFrames X.base l:=by
  intro l
  induction l with
  |nil=>intro _ _;trivial
  |cons env r ih=>
   intro hs hl
   obtain⟨hk,⟨L,o,hf,hn,ho,hd⟩,hr⟩:=hl
   have hL:L∈X.fs:=hs L (by unfold lm;rw[Fh,hf];exact Dt)
   obtain⟨sl,e⟩:=I.base.slot L o ho (I.ok.frf L hL) hL λz=>I.ok.exfs L z hL
   exact⟨hk,⟨L,_,hf,hn,e,hd⟩,ih (λb hb=>hs b (by unfold lm;rw[Fh,hf];exact Dw _ hb)) hr⟩
 exact all X.outer (λ_ hb=>hb) I.ok.funs
theorem au.stack (I:au X JD σ H s):s.heap.FunFrames X.base X.stack:=by
 rcases I.ok.stk with e|⟨e,hf⟩
 ·rw[e];exact I.funs
 ·rw[e]
  obtain⟨m,hn,_⟩:=I.loc
  refine .cons (by rw[I.ok.kind];decide) hf hn ?_ I.funs
  exact Gn (E1 I.ok.bsz I.ok.above)
theorem au.stkSub (I:au X JD σ H s):∀b∈lm X.stack,b∈X.env.locals::X.fs:=λb hb=>by
 rcases I.ok.stk with e|⟨e,hf⟩
 ·rw[e]at hb;exact Dw _ hb
 ·rw[e]at hb
  unfold lm at hb
  rw[Fh,hf]at hb
  exact hb
theorem au.stkFree (I:au X JD σ H s):∀b∈lm X.stack,H b=none:=λb hb=>by
 rcases DA.mp (I.stkSub b hb)with e|hb
 ·rw[e];exact I.free
 ·obtain⟨_,o,ho,_⟩:=I.ok.funs.mem hb
  exact I.base.free b o ho (I.ok.frf b hb) λz=>I.ok.exfs b z hb
theorem au.step {g':Array Ha} {t':Nat} {d':Drawn} {ch:List Dg} (I:au X JD σ H s)
  (Nz:∀b∈ch,(b∈X.ex\/X.s₀.heap.get? b=none)/\b≠X.env.locals/\(∀x c,X.env.cells.lookup x=some c->c≠b)/\∀p∈X.pn++JD,p.1≠b)
  (keep:∀b o,b≠X.env.locals->b∉X.fs->b∉ch->s.heap.get? b=some o->H b=none->h'.get? b=some o)
  (slot:∀b o,b≠X.env.locals->b∈X.fs->b∉ch->s.heap.get? b=some o->H b=none->∃sl,h'.get? b=some {o with slots:=sl}) (free:∀b o,b∉ch->s.heap.get? b=some o->H b=none->H' b=none)
  (there:∀b o,b∉ch->s.heap.get? b=some o->∃o',h'.get? b=some o')
  (tups:∀b xs,H b=some (.tup xs)->H' b=some (.tup xs)) (frzs:∀b o u,H b=some (.frz o u)->H' b=some (.frz o u)) (tbls:∀b ps,H b=some (.tbl ps)->∃more,H' b=some (.tbl (ps++more)))
  (ns:∀m,s.heap.Ns X.env.locals m->h'.Ns X.env.locals m) (hok:h_ X.prog X.w H' h') (hg:G5 g'):
  au X JD σ H' {s with heap:=h',gens:=g',drawn:=d',toks:=t'}:=by
 have NX:∀b o,X.s₀.heap.get? b=some o->b≠X.env.locals:=λb o e=>DV (DS (Dz e) I.ok.above)
 have OK:∀b o,X.s₀.heap.get? b=some o->b∉X.ex->b∉ch:=λb o e hx hb=>by
  rcases(Nz b hb).1 with z|z
  ·exact hx z
  ·rw[e]at z;cases z
 have NY:∀x c,X.env.cells.lookup x=some c->∀v,s.heap.IsCell c v->h'.IsCell c v:=λx c e v ⟨o,ho,hd⟩=>by
  have OQ:c∉ch:=λz=>(Nz c z).2.2.1 x c e rfl
  by_cases hc:c∈X.fs
  ·obtain⟨sl,q⟩:=slot c o (I.cne x c e) hc OQ ho (I.freeC x c e)
   exact⟨_,q,hd⟩
  ·exact⟨o,keep c o (I.cne x c e) hc OQ ho (I.freeC x c e),hd⟩
 refine⟨I.ok,I.os,hg,⟨λb o e n hb hx=> ?_,λb o e n hb hx=> ?_,λb o e n hx=> ?_,λb o e hx=> ?_,λb xs e=>tups b xs (I.base.tups b xs e),λb o xs e=>frzs b o xs (I.base.frzs b o xs e),λb ps e=> ?_⟩,?_,λx c e=> ?_,?_,λx c e=> ?_,λp hp=> ?_,hok,I.len⟩
 ·exact keep b o (NX b o e) hb (OK b o e hx) (I.base.keep b o e n hb hx) (I.base.free b o e n hx)
 ·obtain⟨sl,e1⟩:=I.base.slot b o e n hb hx
  obtain⟨NW,e2⟩:=slot b _ (NX b o e) hb (OK b o e hx) e1 (I.base.free b o e n hx)
  exact⟨NW,e2⟩
 ·obtain⟨o',e1⟩:=I.base.there b o e hx
  exact free b o' (OK b o e hx) e1 (I.base.free b o e n hx)
 ·obtain⟨o',e1⟩:=I.base.there b o e hx
  exact there b o' (OK b o e hx) e1
 ·obtain⟨m1,e1⟩:=I.base.tbls b ps e
  obtain⟨m2,e2⟩:=tbls b _ e1
  exact⟨m1++m2,by rw[e2,Ih]⟩
 ·obtain⟨m,hn,hl⟩:=I.loc
  refine⟨m,ns m hn,λi x v e1 e2 e3=> ?_⟩
  obtain⟨u,r,l⟩:=hl i x v e1 e2 e3
  refine⟨u,r,?_⟩
  rcases l with l|⟨k,c,e,z⟩
  ·exact .inl l
  ·exact .inr ⟨k,c,e,NY x c e _ z⟩
 ·obtain⟨v,z⟩:=I.cell x c e
  exact⟨v,NY x c e v z⟩
 ·obtain⟨m,⟨o,_,_,ho,_⟩,_⟩:=I.loc
  exact free _ o (λz=>(Nz _ z).2.1 rfl) ho I.free
 ·obtain⟨v,o,ho,hd⟩:=I.cell x c e
  exact free c o (λz=>(Nz c z).2.2.1 x c e rfl) ho (I.freeC x c e)
 ·obtain⟨e,n,ne,nf,d⟩:=I.pin p hp
  have OQ:p.1∉ch:=λz=>(Nz p.1 z).2.2.2 p hp rfl
  exact⟨keep p.1 p.2 ne nf OQ e n,free p.1 p.2 OQ e n,ne,nf,d⟩
theorem au.un {t':Nat} (I:au X JD σ H s) (u:Un X.fs [] H H' s.heap h') (hok:h_ X.prog X.w H' h'):au X JD σ H' {s with heap:=h',toks:=t'}:=by
 obtain⟨m,⟨o,es,ep,ho,r⟩,_⟩:=id I.loc
 obtain⟨sl,hL⟩:=u.any ho I.free (by simp)
 exact I.step (g':=s.gens) (d':=s.drawn) (ch:=[]) (λ_ z=>nomatch z) (λb o _ hb _ e n=>u.keep b o e n hb (by simp)) (λb o _ hb _ e n=>u.slot b o e n hb (by simp)) (λb o _ e n=>u.free b o e n (by simp)) (λb o _ e=>u.there b o e (by simp)) u.tups u.frzs u.tbls (λm' hm=>by
  obtain⟨o',PO,PR,O6,r'⟩:=hm
  rw[ho]at O6;cases O6
  exact⟨_,PO,PR,hL,r'⟩) hok I.bare
theorem au.call {g':Array Ha} {t':Nat} {d':Drawn} {ch:List Dg} (I:au X JD σ H s) (u:Un (lm X.stack) ch H H' s.heap h') (hok:h_ X.prog X.w H' h') (hg:G5 g')
  (Nz:∀b∈ch,(b∈X.ex\/X.s₀.heap.objs.size<=b)/\b≠X.env.locals/\(∀x c,X.env.cells.lookup x=some c->c≠b)/\∀p∈X.pn++JD,p.1≠b):
  au X JD σ H' {s with heap:=h',gens:=g',drawn:=d',toks:=t'}:=by
 obtain⟨m,⟨o,es,ep,ho,r⟩,_⟩:=id I.loc
 obtain⟨sl,hL⟩:=u.any ho I.free λz=>(Nz _ z).2.1 rfl
 exact I.step (ch:=ch) (λb hb=>⟨(Nz b hb).1.imp id Gn,(Nz b hb).2⟩) (λb o hL hb hc e n=>u.keep b o e n (λz=>(DA.mp (I.stkSub b z)).elim hL hb) hc) (λb o _ _ hc e n=>u.any e n hc) (λb o hc e n=>u.free b o e n hc) (λb o hc e=>u.there b o e hc) u.tups u.frzs u.tbls (λm' hm=>by
  obtain⟨o',PO,PR,O6,r'⟩:=hm
  rw[ho]at O6;cases O6
  exact⟨_,PO,PR,hL,r'⟩) hok hg
theorem au.turned {t':Nat} {it:Dg} (I:au X JD σ H s) (k:∀b o,b≠it->s.heap.get? b=some o->h'.get? b=some o) (hn:H it=none) (hL:it≠X.env.locals)
  (h1:it∈X.ex\/X.s₀.heap.objs.size<=it) (h2:∀x c,X.env.cells.lookup x=some c->c≠it) (h3:∀p∈X.pn++JD,p.1≠it):au X JD σ H {s with heap:=h',toks:=t'}:=by
 have QT:∀b u,H b=some u->b≠it:=λb u e z=>by rw[z,hn]at e;cases e
 refine I.step (g':=s.gens) (d':=s.drawn) (ch:=[it]) (λb hb=> ?_) (λb o _ _ hc e _=>k b o (λz=>hc (by simp[z])) e) (λb o _ _ hc e _=>⟨o.slots,k b o (λz=>hc (by simp[z])) e⟩) (λ_ _ _ _ n=>n)
  (λb o hc e=>⟨o,k b o (λz=>hc (by simp[z])) e⟩) (λ_ _ e=>e) (λ_ _ _ e=>e) (λb ps e=>⟨#[],by rw[e];simp⟩) (λm hm=> ?_) (λb u e=> ?_) I.bare
 ·have e:b=it:=by simpa using hb
  subst e
  exact⟨h1.imp id Gn,hL,h2,h3⟩
 ·obtain⟨o,es,ep,ho,r⟩:=hm
  exact⟨o,es,ep,k _ o (ET hL) ho,r⟩
 ·refine(I.hok b u e).stay (λc v hc q=>k c v ?_ q) (λ_ q=>q) λ_ _ q=>q
  rcases hc with z|z
  ·rw[z];exact QT b u e
  ·exact QT c _ z
theorem au.tok (I:au X JD σ H s) (t:Nat):au X JD σ H {s with toks:=t}:=I.un (h':=s.heap) (t':=t) Un.refl I.hok
theorem au.kept {t':Nat} (I:au X JD σ H s) (k:∀b u,s.heap.get? b=some u->h'.get? b=some u):au X JD σ H {s with heap:=h',toks:=t'}:=I.un (Un.kept k) (I.hok.kept k)
theorem au.laid {a:Dg} {o:HO} {t':Nat} (I:au X JD σ H s) (k:∀b u,s.heap.get? b=some u->h'.get? b=some u) (hp:s.heap.objs.size<=a) (new:bd X.prog X.w (a_ H a o) h' a o):
  au X JD σ (a_ H a o) {s with heap:=h',toks:=t'}:=I.un (Un.laid k hp (I.hok.fresh hp)) (I.hok.laid k hp new)
theorem au.write {x e:Dg} {o:HO} {t':Nat} (I:au X JD σ H s) (mu:Bo (H x)) (he:e=x\/H e=some (.own x)) (k:∀b u,b≠e->s.heap.get? b=some u->h'.get? b=some u) (OJ:∃u,h'.get? e=some u)
  (new:bd X.prog X.w (a_ H x o) h' x o):au X JD σ (a_ H x o) {s with heap:=h',toks:=t'}:=I.un (Un.write mu he k OJ) (I.hok.write mu he k OJ new)
theorem au.pins_of {Ll:List (Dg×DP)} (I:au X JD σ H s) (h:∀p∈Ll,s.heap.get? p.1=some p.2/\H p.1=none/\p.1≠X.env.locals/\p.1∉X.fs/\∀v,p.2.data≠ .cell v):au X Ll σ H s:=
 ⟨I.ok,I.os,I.bare,I.base,I.loc,I.cell,I.free,I.freeC,λp hp=>(EX.mp hp).elim (λz=>I.pin p (Ej _ z)) (h p),I.hok,I.len⟩
theorem lE {N:List Df} (hN:N.Nodup) {i j:Nat} {x:Df} (a:N[i]? =some x) (b:N[j]? =some x):i=j:=by
 obtain⟨h1,e1⟩:=Dy.mp a
 obtain⟨h2,e2⟩:=Dy.mp b
 exact(Hb hN).mp (e1.trans e2.symm)
theorem sR {M:IB} {A:DI} {E:De->Dh->Prop} {i:Nat} {x:Df} {v:V} {u:De} {Q:Unit->Dh->Prop} (I:au X JD σ H s) (hN:X.N.Nodup) (hi:X.N[i]? =some x) (hx:uu X.env.scope x) (r:aZ v u)
  (h:∀s',au X JD (σ.set i (some v)) H s'->(∃a,Ik a s.heap s'.heap/\(a=X.env.locals\/X.env.cells.lookup x=some a))->Q () s') (hf:X.fn x=true\/X.env.scope.names.lookup x=some .local:=by first|exact .inl rfl|exact .inr rfl|assumption):Du M A (storeName X.env x u) Q E s:=by
 obtain⟨m,hn,hl⟩:=id I.loc
 have PU:(X.env.scope.kind== .class||(X.env.scope.kind== .module&&X.env.locals != X.env.globals))=false:=by rw[I.ok.kind];rfl
 have QU:i<σ.length:=by rw[I.len];exact(Dy.mp hi).1
 have cne:=I.cne
 have N3:∀{a:Dg} {h':DB},(∃o,s.heap.get? a=some o/\H a=none)->Ik a s.heap h'->h_ X.prog X.w H h':=λ{a h'} ha hs b ob e=>by
  obtain⟨_,_,NZ⟩:=ha
  refine(I.hok b ob e).stay (λc w' hc q=>(hs.2 c ?_).trans q) (λ_ q=>q) λ_ _ q=>q
  rintro rfl
  rcases hc with rfl|hc
  ·rw[NZ]at e;cases e
  ·rw[NZ]at hc;cases hc
 rcases hx with hk|hk
 ·refine wpAny_storeName_local hk hn (λh' PV hs=> ?_) PU
  obtain⟨oL,_,_,NQ,_⟩:=id hn
  refine h _ ⟨I.ok,I.os,I.bare,⟨λb o e n hb hx=> ?_,λb o e n hb hx=> ?_,I.base.free,λb o e hx=> ?_,I.base.tups,I.base.frzs,I.base.tbls⟩,⟨_,PV,λj y v' e1 e2 e3=> ?_⟩,λy c e=> ?_,I.free,I.freeC,λp hp=> ?_,N3 ⟨oL,NQ,I.free⟩ hs,by simpa using I.len⟩ ⟨_,hs, .inl rfl⟩
  ·exact(hs.2 b (DV (DS (Dz e) I.ok.above))).trans (I.base.keep b o e n hb hx)
  ·obtain⟨sl,e1⟩:=I.base.slot b o e n hb hx
   exact⟨sl,(hs.2 b (DV (DS (Dz e) I.ok.above))).trans e1⟩
  ·obtain⟨o',e1⟩:=I.base.there b o e hx
   exact⟨o',(hs.2 b (DV (DS (Dz e) I.ok.above))).trans e1⟩
  ·by_cases hj:j=i
   ·subst hj
    rw[hi]at e1;cases e1
    rw[Hu QU]at e2
    cases e2
    exact⟨u,r, .inl ⟨hk,by simp⟩⟩
   ·rw[Gp (ET hj)]at e2
    obtain⟨u',r',q⟩:=hl j y v' e1 e2 e3
    refine⟨u',r',?_⟩
    rcases q with ⟨k,e⟩|⟨k,c,e,z⟩
    ·refine .inl ⟨k,?_⟩
     have:y≠x:=λe=>hj (lE hN e1 (e▸hi))
     simp[this,e]
    ·exact .inr ⟨k,c,e,z.sameBut hs (cne y c e)⟩
  ·obtain⟨w',z⟩:=I.cell y c e
   exact⟨w',z.sameBut hs (cne y c e)⟩
  ·obtain⟨e,n,ne,nf,d⟩:=I.pin p hp
   exact⟨(hs.2 p.1 ne).trans e,n,ne,nf,d⟩
 ·have PY:X.fn x=true:=by
   rcases hf with z|z
   ·exact z
   ·rw[z]at hk;cases hk
  obtain⟨c,hc⟩:=I.ok.has x (.inl hk)
  obtain⟨w',z⟩:=I.cell x c hc
  refine wpAny_storeName_cell I.ok.kind hk hc z (λh' QV hs=> ?_)
  obtain⟨oc,QW,PZ⟩:=id z
  refine h {s with heap:=h'} ⟨I.ok,I.os,I.bare,⟨λb o e n hb hx=> ?_,λb o e n hb hx=> ?_,I.base.free,λb o e hx=> ?_,I.base.tups,I.base.frzs,I.base.tbls⟩,⟨m,hn.sameBut hs (ET (cne x c hc)),λj y v' e1 e2 e3=> ?_⟩,λy c' e=> ?_,I.free,I.freeC,λp hp=> ?_,N3 ⟨oc,QW,I.freeC x c hc⟩ hs,by simpa using I.len⟩ ⟨c,hs, .inr hc⟩
  ·exact(hs.2 b (DV (DS (Dz e) (I.ok.cab x c PY hc)))).trans (I.base.keep b o e n hb hx)
  ·obtain⟨sl,e1⟩:=I.base.slot b o e n hb hx
   exact⟨sl,(hs.2 b (DV (DS (Dz e) (I.ok.cab x c PY hc)))).trans e1⟩
  ·obtain⟨o',e1⟩:=I.base.there b o e hx
   exact⟨o',(hs.2 b (DV (DS (Dz e) (I.ok.cab x c PY hc)))).trans e1⟩
  ·by_cases hj:j=i
   ·subst hj
    rw[hi]at e1;cases e1
    rw[Hu QU]at e2
    cases e2
    exact⟨u,r, .inr ⟨.inl hk,c,hc,QV⟩⟩
   ·rw[Gp (ET hj)]at e2
    obtain⟨u',r',q⟩:=hl j y v' e1 e2 e3
    refine⟨u',r',?_⟩
    rcases q with q|⟨k,c',e,z'⟩
    ·exact .inl q
    ·refine .inr ⟨k,c',e,z'.sameBut hs ?_⟩
     rintro rfl
     exact hj (lE hN e1 (I.ok.inj _ _ _ e hc▸hi))
  ·by_cases QX:c'=c
   ·subst QX;exact⟨_,QV⟩
   ·obtain⟨w2,z2⟩:=I.cell y c' e
    exact⟨w2,z2.sameBut hs QX⟩
  ·obtain⟨e,n,ne,nf,d⟩:=I.pin p hp
   refine⟨(hs.2 p.1 ?_).trans e,n,ne,nf,d⟩
   intro q
   rw[q,QW]at e
   have q':oc=p.2:=Eh e
   exact d w' (by rw[<-q'];exact PZ)
theorem lF {M:IB} {A:DI} {E:De->Dh->Prop} {i:Nat} {x:Df} {v:V} {u:De} {Q:Unit->Dh->Prop} (I:au X JD σ H s) (hN:X.N.Nodup) (hi:X.N[i]? =some x) (hx:uu X.env.scope x) (r:aZ v u)
  (h:∀s',au X JD (σ.set i (some v)) H s'->Q () s') (hf:X.fn x=true\/X.env.scope.names.lookup x=some .local:=by first|exact .inl rfl|exact .inr rfl|assumption):Du M A (storeName X.env x u) Q E s:=
 sR I hN hi hx r (λs' I' _=>h s' I') hf
theorem au.call' {s':Dh} {ch:List Dg} (I:au X JD σ H s) (ho:s'.os=s.os) (u:Un (lm X.stack) ch H H' s.heap s'.heap) (hok:h_ X.prog X.w H' s'.heap) (hg:G5 s'.gens)
  (Nz:∀b∈ch,(b∈X.ex\/X.s₀.heap.objs.size<=b)/\b≠X.env.locals/\(∀x c,X.env.cells.lookup x=some c->c≠b)/\∀p∈X.pn++JD,p.1≠b):au X JD σ H' s':=by
 obtain⟨h',g',d',t',o'⟩:=s'
 have e:o'=s.os:=ho
 subst e
 exact I.call (g':=g') (t':=t') (d':=d') u hok hg Nz
end
abbrev XK:=De->Option Dg->Hp->Prop
abbrev St:=List (Option V)
abbrev VK:=V->Hp->Prop
abbrev TE:=St->Hp->VK->Prop
abbrev TT:=St->Hp->(Bool->Hp->Prop)->Prop
abbrev TA:=St->Hp->(List V->Hp->Prop)->Prop
structure jV where
 nx:St->Hp->Prop
 rt:VK
 bk:St->Hp->Prop:=λ_ _=>False
 ct:St->Hp->Prop:=λ_ _=>False
abbrev TS:=jV->St->Hp->Prop
def EP (X:Cx) (JD:List (Dg×DP)) (σ:St) (Q:VK) (u:De) (s':Dh):Prop:=∃v H',au X JD σ H' s'/\aZ v u/\Q v H'
def TP (X:Cx) (JD:List (Dg×DP)) (σ:St) (Q:Bool->Hp->Prop) (b:Bool) (s':Dh):Prop:=∃H',au X JD σ H' s'/\Q b H'
def AP (X:Cx) (JD:List (Dg×DP)) (σ:St) (Q:List V->Hp->Prop) (us:List De) (s':Dh):Prop:=∃vs H',au X JD σ H' s'/\aF vs us/\Q vs H'
def SP (X:Cx) (JD:List (Dg×DP)) (D:jV) (f:Flow) (s':Dh):Prop:=
 match f with
 | .next=>∃σ' H',au X JD σ' H' s'/\D.nx σ' H'
 | .brk=>∃σ' H',au X JD σ' H' s'/\D.bk σ' H'
 | .cont=>∃σ' H',au X JD σ' H' s'/\D.ct σ' H'
 | .ret u=>∃v σ' H',au X JD σ' H' s'/\aZ v u/\D.rt v H'
def PE (X:Cx) (e:Dn) (t:TE):Prop:=
 ∀(JD:List (Dg×DP)) (s:Dh) (σ:St) (H:Hp) (Q:VK),au X JD σ H s->t σ H Q->Du (Dx X.prog X.w) X.A (DH e X.env) (EP X JD σ Q) X.xe s
def PT (X:Cx) (e:Dn) (t:TT):Prop:=
 ∀(JD:List (Dg×DP)) (s:Dh) (σ:St) (H:Hp) (Q:Bool->Hp->Prop),au X JD σ H s->t σ H Q->Du (Dx X.prog X.w) X.A (HC e X.env (DH e X.env)) (TP X JD σ Q) X.xe s
def PW (X:Cx) (e:Dn) (t:TT):Prop:=
 ∀(L3:Gd De) (JD:List (Dg×DP)) (s:Dh) (σ:St) (H:Hp) (Q:Bool->Hp->Prop),au X JD σ H s->t σ H Q->Du (Dx X.prog X.w) X.A (HC e X.env L3) (TP X JD σ Q) X.xe s
theorem PW.pt {X:Cx} {e:Dn} {t:TT} (h:PW X e t):PT X e t:=h _
def PA (X:Cx) (es:List Dn) (t:TA):Prop:=
 ∀(pos:DY) (JD:List (Dg×DP)) (s:Dh) (σ:St) (H:Hp) (Q:List V->Hp->Prop),au X JD σ H s->t σ H Q->Du (Dx X.prog X.w) X.A (Jl (DX pos (Di es X.env))) (AP X JD σ Q) X.xe s
def PS (X:Cx) (st:DJ) (t:TS):Prop:=
 ∀(JD:List (Dg×DP)) (s:Dh) (σ:St) (H:Hp) (D:jV),au X JD σ H s->t D σ H->Du (Dx X.prog X.w) X.A (exec st X.env) (SP X JD D) X.xe s
def nc (X:Cx) (st:List DJ) (t:TS):Prop:=
 ∀(JD:List (Dg×DP)) (s:Dh) (σ:St) (H:Hp) (D:jV),au X JD σ H s->t D σ H->Du (Dx X.prog X.w) X.A (execs st X.env) (SP X JD D) X.xe s
theorem cn {α:Type} {t:Gd α} {Q Q':α->Dh->Prop} {M:IB} {A:DI} {E:De->Dh->Prop} {s:Dh} (h:Du M A t Q E s) (hQ:∀a s,Q a s->Q' a s):Du M A t Q' E s:=EH h hQ λ_ _ x=>x
end L2
namespace L2
open PySem PySem.Spec PyProof.Rows
section
variable {X:Cx}
def uv (i:Nat):TE:=λσ H Q=>∃v,σ[i]? =some (some v)/\Q v H
def tC (v:V):TE:=λ_ H Q=>Q v H
theorem yK {i:Nat} {x:Df} {pos:DY} (hN:X.N[i]? =some x) (hv:l7 X.env.scope x) (hd:(x==("__debug__":Df))=false:=by decide) (Lh:(x==("__classdict__":Df))=false:=by decide):PE X (.Name x pos) (uv i):=by
 intro JD s σ H Q I h
 obtain⟨v,e,h⟩:=h
 obtain⟨m,hn,hl⟩:=I.loc
 obtain⟨u,r,l⟩:=hl i x v hN e hv
 have Mg:EP X JD σ Q u s:=⟨v,H,I,r,h⟩
 rcases l with ⟨hk,hm⟩|⟨hk,c,hc,N4⟩
 ·exact Jb (wpAny_loadName_local I.ok.kind hk hn hm Mg) hd
 ·rcases hk with hk|hk
  ·exact Jb (wpAny_loadName_cell I.ok.kind hk hc N4 Mg) hd
  ·exact Jb (wpAny_loadName_free I.ok.kind hk hc N4 Mg Lh) hd
theorem yL {i j pos}:PE X (.Constant (.int i) j pos) (tC (.int i)):=λ_ _ _ H _ I h=>wpAny_Constant_int ⟨.int i,H,I.tok _,⟨_,rfl⟩,h⟩
theorem Am {b j pos}:PE X (.Constant (.bool b) j pos) (tC (.bl b)):=λ_ _ _ H _ I h=>Constant_bool ⟨.bl b,H,I,rfl,h⟩
theorem yM {x j pos}:PE X (.Constant (.str x) j pos) (tC (.str x)):=λ_ _ _ H _ I h=>Calls.Constant_str ⟨.str x,H,I.tok _,⟨_,rfl⟩,h⟩
def Gl (X:Cx) (x:Df):Prop:=X.env.kindOf x=some .globalImplicit
theorem ji {E:De->Dh->Prop} {JD:List (Dg×DP)} {s:Dh} {σ:St} {H:Hp} {x:Df} {u:De} {pos:DY} {Q:De->Dh->Prop} (I:au X JD σ H s) (hg:Gl X x) (hm:X.mg x=some u) (h:Q u s)
  (hd:(x==("__debug__":Df))=false:=by decide):Du (Dx X.prog X.w) X.A (DH (.Name x pos) X.env) Q E s:=
 GI I.ok.kind hg (Calls.loadGlobal_global (by rw[I.ok.glob];exact I.mod.glob.keeps I.bk) hm h) hd
theorem jW {E:De->Dh->Prop} {JD:List (Dg×DP)} {s:Dh} {σ:St} {H:Hp} {x:Df} {u:De} {pos:DY} {Q:De->Dh->Prop} (I:au X JD σ H s) (hg:Gl X x) (hm:X.mg x=none) (hv:DZ x=some u) (h:Q u s)
  (hn:x≠"__name__":=by decide) (hd:(x==("__debug__":Df))=false:=by decide):Du (Dx X.prog X.w) X.A (DH (.Name x pos) X.env) Q E s:=by
 obtain⟨mb,h1,h2⟩:=I.mod.blt
 exact GI I.ok.kind hg (Calls.loadGlobal_builtin (by rw[I.ok.glob];exact I.mod.glob.keeps I.bk) hm (by rw[I.ok.blt];exact h1.keeps I.bk) ((h2 x hn).trans hv) h) hd
theorem rL {x:Df} {v:V} {u:De} {pos:DY} (hg:Gl X x) (hm:X.mg x=some u) (r:aZ v u) (hd:(x==("__debug__":Df))=false:=by decide):PE X (.Name x pos) (tC v):=
 λ_ _ _ H _ I h=>ji I hg hm ⟨v,H,I,r,h⟩ hd
theorem rM {x:Df} {v:V} {u:De} {pos:DY} (hg:Gl X x) (hm:X.mg x=none) (hv:DZ x=some u) (r:aZ v u) (hn:x≠"__name__":=by decide) (hd:(x==("__debug__":Df))=false:=by decide):PE X (.Name x pos) (tC v):=
 λ_ _ _ H _ I h=>jW I hg hm hv ⟨v,H,I,r,h⟩ hn hd
variable {a b:Dn} {ta tb:TE} {pos:DY}
def PC (X:Cx) (op:IC) (a b:Dn) (t:TE):Prop:=
 ∀(JD:List (Dg×DP)) (s:Dh) (σ:St) (H:Hp) (Q:VK),au X JD σ H s->t σ H Q->
  Du (Dx X.prog X.w) X.A (DH a X.env) (λv s₁=>Du (Dx X.prog X.w) X.A (DH b X.env) (λu s₂=>Du (Dx X.prog X.w) X.A (Ep op v u) (EP X JD σ Q) X.xe s₂) X.xe s₁) X.xe s
def tB (t:TE):TT:=λσ H Q=>t σ H λx H1=>∃c,x= .bl c/\Q c H1
theorem uw {op:IC} {t:TE} (h:PC X op a b t) (h1:EN op b=false:=by first|exact nobehind _ (by decide) (by decide)|rfl):PE X (.Compare a [op] [b] pos) t:=λJD s σ H Q I hw=>wpAny_Compare1 (h JD s σ H Q I hw) h1
theorem yN {e:Dn} {t:TE} (h:PE X e t) (he:∀L3,HC e X.env L3=(do let v<-L3;FU e.pos;FV [v] (Jc v)):=by intro _;rfl):PT X e (tB t):=by
 intro JD s σ H Q I hw
 refine isTrue_plain (cn (h JD s σ H _ I hw) λv s1 z_=> ?_) (he _)
 obtain⟨x,H1,I1,r1,q1⟩:=z_
 obtain⟨d,rfl,q⟩:=q1
 cases r1
 exact EL ⟨H1,I1,q⟩
variable {tA tB':TT} {rest:List Dn}
def CQ (t u:TT):TT:=λσ H Q=>t σ H λc H1=>if c=true then Q true H1 else u σ H1 Q
def BL (t:TT):TT:=λσ H Q=>t σ H λc H1=>Q (!c) H1
theorem ux (ha:PT X a tA):PW X (.BoolOp .Or [a] pos) tA:=by
 intro wh JD s σ H Q I h
 refine isTrue_or (cn (ha JD s σ H Q I h) λc s1 e=> ?_)
 cases c with
 |false=>exact isTrue_or_nil e
 |true=>exact e
theorem yb (ha:PT X a tA) (hb:PW X (.BoolOp .Or (b::rest) pos) tB'):PW X (.BoolOp .Or (a::b::rest) pos) (CQ tA tB'):=by
 intro wh JD s σ H Q I h
 refine isTrue_or (cn (ha JD s σ H _ I h) λc s1 z_=> ?_)
 obtain⟨H1,I1,q1⟩:=z_
 cases c with
 |true=>exact⟨H1,I1,q1⟩
 |false=>exact hb wh JD s1 σ H1 Q I1 q1
theorem uy (ha:PT X a tA):PT X (.UnaryOp .Not a pos) (BL tA):=by
 intro JD s σ H Q I h
 exact isTrue_not (ha JD s σ H (λc H1=>Q (!c) H1) I h)
def An (ta tb:TE):TE:=λσ H Q=>ta σ H λx H1=>∃c,x= .bl c/\if c=true then tb σ H1 Q else Q (.bl false) H1
def BM (ta tb:TE):TE:=λσ H Q=>ta σ H λx H1=>∃c,x= .bl c/\if c=true then Q (.bl true) H1 else tb σ H1 Q
def Ao (ta:TE):TE:=λσ H Q=>ta σ H λx H1=>∃c,x= .bl c/\Q (.bl (!c)) H1
theorem uz {op} {t:TE} (h:PE X a t):PE X (.BoolOp op [a] pos) t:=λJD s σ H Q I hw=>BoolOp_one (h JD s σ H Q I hw)
theorem yO (ha:PE X a ta) (hb:PE X (.BoolOp .And (b::rest) pos) tb):PE X (.BoolOp .And (a::b::rest) pos) (An ta tb):=by
 intro JD s σ H Q I h
 refine BoolOp_and (cn (ha JD s σ H _ I h) λv s1 z_=> ?_)
 obtain⟨x,H1,I1,r1,q1⟩:=z_
 obtain⟨c,rfl,q1⟩:=q1
 cases r1
 refine EL ?_
 cases c with
 |true=>exact hb JD s1 σ H1 Q I1 q1
 |false=>exact⟨.bl false,H1,I1,rfl,q1⟩
theorem yc (ha:PE X a ta) (hb:PE X (.BoolOp .Or (b::rest) pos) tb):PE X (.BoolOp .Or (a::b::rest) pos) (BM ta tb):=by
 intro JD s σ H Q I h
 refine BoolOp_or (cn (ha JD s σ H _ I h) λv s1 z_=> ?_)
 obtain⟨x,H1,I1,r1,q1⟩:=z_
 obtain⟨c,rfl,q1⟩:=q1
 cases r1
 refine EL ?_
 cases c with
 |false=>exact hb JD s1 σ H1 Q I1 q1
 |true=>exact⟨.bl true,H1,I1,rfl,q1⟩
theorem yP (ha:PE X a ta):PE X (.UnaryOp .Not a pos) (Ao ta):=by
 intro JD s σ H Q I h
 refine UnaryOp_ (cn (ha JD s σ H _ I h) λv s1 z_=> ?_)
 obtain⟨x,H1,I1,r1,q1⟩:=z_
 obtain⟨c,rfl,q1⟩:=q1
 cases r1
 exact not_of (EL ⟨.bl (!c),H1,I1,rfl,q1⟩)
end
end L2
namespace L2
open PySem PySem.Spec PyProof.Rows
def dc (K:Dd) (H:Hp) (a:Dg) (xs:List V):Prop:=
 Rd H a (.lst xs)\/
  ∃(o:DP) (its:Array De) (n:Nat),K.lookup a=some o/\o.cls= .type "list"/\o.dict=none/\o.data= .seq its n/\its.size<=sizeLine/\aF xs its.toList
def hU (K:Dd) (H:Hp) (a:Dg) (xs:List V):Prop:=
 Rd H a (.tup xs)\/
  ∃(o:DP) (its:Array De) (n:Nat),K.lookup a=some o/\o.cls= .type "tuple"/\o.data= .seq its n/\its.size<=sizeLine/\aF xs its.toList
def BO:De->Option V
 | .none=>some .non
 | .bool b=>some (.bl b)
 | .int i _=>some (.int i)
 | .str x _=>some (.str x)
 | .bytes b _=>some (.byt b)
 | .float b _=>some (.flt b)
 | .ref a=>some (.ref a)
 | .type n=>some (.ty n)
 |_=>none
theorem aZ.abs {x:V} {u:De} (r:aZ x u):BO u=some x:=by
 cases x with
 |non=>cases r;rfl
 |bl _=>cases r;rfl
 |int _=>obtain⟨t,rfl⟩:=r;rfl
 |str _=>obtain⟨t,rfl⟩:=r;rfl
 |byt _=>obtain⟨t,rfl⟩:=r;rfl
 |flt _=>obtain⟨t,rfl⟩:=r;rfl
 |ref _=>cases r;rfl
 |ty _=>cases r;rfl
theorem aZ.inj {x y:V} {u:De} (r:aZ x u) (q:aZ y u):x=y:=Eh (r.abs.symm.trans q.abs)
theorem aF.inj:∀{xs ys:List V} {us:List De},aF xs us->aF ys us->xs=ys
 |_,_,_, .nil, .nil=>rfl
 |_,_,_, .cons r t, .cons r' t'=>by rw[r.inj r',aF.inj t t']
section
variable {X:Cx} {JD:List (Dg×DP)} {σ:St} {H:Hp} {s:Dh} {a:Dg} {xs ys:List V}
theorem dc.of {K:Dd} (h:H a=some (.lst xs)):dc K H a xs:= .inl (.inl h)
theorem hU.of {K:Dd} (h:H a=some (.tup xs)):hU K H a xs:= .inl (.inl h)
theorem au.list (I:au X JD σ H s) (h:dc X.K H a xs):∃its:List De,aF xs its/\PlainL s.heap a its.toArray/\xs.length<=sizeLine:=by
 rcases h with h|⟨o,its,n,hk,hc,hd,hs,hz,r⟩
 ·obtain⟨z,its,n,r,e⟩:=h.ok I.hok
  exact⟨its,r,⟨_,n,e,rfl,rfl,rfl⟩,z⟩
 ·refine⟨its.toList,r,⟨o,n,I.kIn a o hk,hc,hd,by simpa using hs⟩,?_⟩
  have e:=r.length
  simp only[ES]at e
  omega
theorem au.tuple (I:au X JD σ H s) (h:hU X.K H a xs):∃its:List De,aF xs its/\J7 s.heap a its.toArray/\xs.length<=sizeLine:=by
 rcases h with h|⟨o,its,n,hk,hc,hs,hz,r⟩
 ·obtain⟨z,its,r,p⟩:=h.ok I.hok
  exact⟨its,r,p.tup,z⟩
 ·refine⟨its.toList,r,⟨o,I.kIn a o hk,hc,n,by simpa using hs⟩,?_⟩
  have e:=r.length
  simp only[ES]at e
  omega
theorem au.list_inj (I:au X JD σ H s) (h:dc X.K H a xs) (h':dc X.K H a ys):xs=ys:=by
 obtain⟨its,r,⟨o,n,e,_,_,d⟩,_⟩:=I.list h
 obtain⟨its',r',⟨o',n',e',_,_,d'⟩,_⟩:=I.list h'
 rw[e]at e';cases e'
 rw[d]at d'
 injection d' with d1 _
 have:its=its':=by simpa using congrArg Jw d1
 subst this
 exact r.inj r'
theorem au.tuple_inj (I:au X JD σ H s) (h:hU X.K H a xs) (h':hU X.K H a ys):xs=ys:=by
 obtain⟨its,r,⟨o,e,_,n,d⟩,_⟩:=I.tuple h
 obtain⟨its',r',⟨o',e',_,n',d'⟩,_⟩:=I.tuple h'
 rw[e]at e';cases e'
 rw[d]at d'
 injection d' with d1 _
 have:its=its':=by simpa using congrArg Jw d1
 subst this
 exact r.inj r'
end
abbrev Cx.wish (X:Cx) (E:De->Dh->Prop):Cx:={X with xe:=E}
abbrev Cx.nox (X:Cx):Cx:=X.wish λ_ _=>False
theorem Cx.Ok.wish {X:Cx} (ok:X.Ok) (E:De->Dh->Prop):(X.wish E).Ok:=
 ⟨ok.mod,ok.kind,ok.glob,ok.blt,ok.above,ok.inj,ok.has,ok.cab,ok.hd,ok.frames,ok.stk,ok.exf,ok.bs,ok.bsz,ok.noex,ok.exfs,ok.funs,ok.frf⟩
theorem Cx.Ok.unwish {X:Cx} {E:De->Dh->Prop} (ok:(X.wish E).Ok):X.Ok:=
 ⟨ok.mod,ok.kind,ok.glob,ok.blt,ok.above,ok.inj,ok.has,ok.cab,ok.hd,ok.frames,ok.stk,ok.exf,ok.bs,ok.bsz,ok.noex,ok.exfs,ok.funs,ok.frf⟩
section
variable {X:Cx} {JD:List (Dg×DP)} {σ:St} {H:Hp} {s:Dh} {E:De->Dh->Prop}
theorem au.wish (I:au X JD σ H s) (E:De->Dh->Prop):au (X.wish E) JD σ H s:=⟨I.ok.wish E,I.os,I.bare,I.base,I.loc,I.cell,I.free,I.freeC,I.pin,I.hok,I.len⟩
theorem au.unwish (I:au (X.wish E) JD σ H s):au X JD σ H s:=⟨I.ok.unwish,I.os,I.bare,I.base,I.loc,I.cell,I.free,I.freeC,I.pin,I.hok,I.len⟩
theorem SP.unwish {D:jV} {f:Flow} {s':Dh} (h:SP (X.wish E) JD D f s'):SP X JD D f s':=by
 cases f with
 |next=>obtain⟨σ',H',I,q⟩:=h;exact⟨σ',H',I.unwish,q⟩
 |brk=>obtain⟨σ',H',I,q⟩:=h;exact⟨σ',H',I.unwish,q⟩
 |cont=>obtain⟨σ',H',I,q⟩:=h;exact⟨σ',H',I.unwish,q⟩
 |ret u=>obtain⟨v,σ',H',I,r,q⟩:=h;exact⟨v,σ',H',I.unwish,r,q⟩
theorem PE.nox {e:Dn} {t:TE} (h:PE X.nox e t):PE X e t:=λJD s σ H Q I hw=>
 EH (h JD s σ H Q (I.wish _) hw) (λ_ _ ⟨v,H',I',r,q⟩=>⟨v,H',I'.unwish,r,q⟩) λ_ _ z=>Et z
theorem PT.nox {e:Dn} {t:TT} (h:PT X.nox e t):PT X e t:=λJD s σ H Q I hw=>
 EH (h JD s σ H Q (I.wish _) hw) (λ_ _ ⟨H',I',q⟩=>⟨H',I'.unwish,q⟩) λ_ _ z=>Et z
theorem nc.nox {st:List DJ} {t:TS} (h:nc X.nox st t):nc X st t:=λJD s σ H D I hw=>
 EH (h JD s σ H D (I.wish _) hw) (λ_ _ q=>q.unwish) λ_ _ z=>Et z
end
section
variable {X:Cx} {st:DJ} {rest:List DJ} {t u:TS} {e:Dn} {te:TE} {pos:DY}
def Ap:TS:=λD σ H=>D.nx σ H
def BP (t u:TS):TS:=λD σ H=>t {D with nx:=u D} σ H
theorem wF:nc X [] Ap:=λ_ _ σ H _ I h=>Gq ⟨σ,H,I,h⟩
theorem uA (h1:PS X st t) (h2:nc X rest u):nc X (st::rest) (BP t u):=by
 intro JD s σ H D I h
 refine wpAny_execs_cons (cn (h1 JD s σ H {D with nx:=u D} I h) λf s1 q=> ?_)
 cases f with
 |next=>
  obtain⟨σ',H',I',q⟩:=q
  exact h2 JD s1 σ' H' D I' q
 |ret v=>exact q
 |brk=>exact q
 |cont=>exact q
theorem wG (h1:PS X st t):nc X [st] t:=by
 intro JD s σ H D I h
 refine wpAny_execs_cons (cn (h1 JD s σ H D I h) λf s1 q=> ?_)
 cases f with
 |next=>exact Gq q
 |ret v=>exact q
 |brk=>exact q
 |cont=>exact q
theorem au.quiet {JD:List (Dg×DP)} {σ:St} {H:Hp} {s:Dh} (I:au X JD σ H s):interactive X.env=false:=by simp[interactive,I.ok.kind]
def Aq (te:TE):TS:=λD σ H=>te σ H λ_ H1=>D.nx σ H1
theorem lp (he:PE X e te) (hs:Ei e none pos.line X.env=pure false:=by rfl):PS X (.Expr e pos) (Aq te):=by
 intro JD s σ H D I h
 exact wpAny_Expr_any (cn (he JD s σ H _ I h) λv s1 ⟨x,H1,I1,r1,q1⟩=>⟨σ,H1,I1,q1⟩) I.quiet hs
def BQ (te:TE):TS:=λD σ H=>te σ H D.rt
theorem qv (he:PE X e te):PS X (.Return (some e) pos) (BQ te):=by
 intro JD s σ H D I h
 exact wpAny_Return_some (cn (he JD s σ H _ I h) λv s1 ⟨x,H1,I1,r1,q1⟩=>⟨x,σ,H1,I1,r1,q1⟩)
def BR (c:TT) (t u:TS):TS:=λD σ H=>c σ H λb H1=>if b=true then t D σ H1 else u D σ H1
theorem yd {c:Dn} {a b:List DJ} {tc:TT} (hc:PT X c tc) (ha:nc X a t) (hb:nc X b u):PS X (.If c a b pos) (BR tc t u):=by
 intro JD s σ H D I h
 refine wpAny_If (cn (hc JD s σ H _ I h) λd s1 z_=> ?_)
 obtain⟨H1,I1,q1⟩:=z_
 cases d with
 |true=>exact ha JD s1 σ H1 D I1 q1
 |false=>exact hb JD s1 σ H1 D I1 q1
end
abbrev TG:=V->St->Hp->(St->Hp->Prop)->Prop
def PG (X:Cx) (O7:Dn) (t:TG):Prop:=
 ∀(JD:List (Dg×DP)) (s:Dh) (σ:St) (H:Hp) (v:V) (u:De) (Q:St->Hp->Prop),au X JD σ H s->aZ v u->t v σ H Q->
  Du (Dx X.prog X.w) X.A (assign O7 X.env u) (λ_ s'=>∃σ' H',au X JD σ' H' s'/\Q σ' H') X.xe s
section
variable {X:Cx} {pos:DY}
def ye (i:Nat):TG:=λv σ H Q=>Q (σ.set i (some v)) H
theorem rN {i:Nat} {x:Df} (hN:X.N.Nodup) (hi:X.N[i]? =some x) (hx:uu X.env.scope x) (hf:X.fn x=true\/X.env.scope.names.lookup x=some .local:=by first|exact .inl rfl|exact .inr rfl|assumption):PG X (.Name x pos) (ye i):=by
 intro JD s σ H v u Q I r h
 exact wpAny_assign_Name (lF I hN hi hx r (λs' I'=>⟨_,H,I',h⟩) hf)
def BS (te:TE) (g:TG):TS:=λD σ H=>te σ H λx H1=>g x σ H1 D.nx
theorem lG {i:Nat} {x:Df} {e:Dn} {te:TE} {Kk:DY} (hN:X.N.Nodup) (hi:X.N[i]? =some x) (hx:uu X.env.scope x) (he:PE X e te) (hs:Ei e (some (.Name x Kk)) pos.line X.env=pure false:=by rfl) (hf:X.fn x=true\/X.env.scope.names.lookup x=some .local:=by first|exact .inl rfl|exact .inr rfl|assumption):
  PS X (.Assign [.Name x Kk] e pos) (BS te (ye i)):=by
 intro JD s σ H D I h
 refine wpAny_Assign_Name (cn (he JD s σ H _ I h) λv s1 z_=> ?_) hs
 obtain⟨y,H1,I1,r1,q1⟩:=z_
 exact lF I1 hN hi hx r1 (λs2 I2=>⟨_,H1,I2,q1⟩) hf
end
section
variable {X:Cx} {pos:DY}
end
structure It where
 go:Nat->Hp->Prop
 yld:Nat->Hp->V->Hp->Prop
 stop:Nat->Hp->Prop
def jj (X:Cx) (JD:List (Dg×DP)) (H:Hp) (b:Dg):Prop:=
 H b=none/\b≠X.env.locals/\b∉X.fs/\(b∈X.ex\/X.s₀.heap.objs.size<=b)/\(∀x c,X.env.cells.lookup x=some c->c≠b)/\∀p∈X.pn++JD,p.1≠b
theorem au.fpOk {X:Cx} {JD:List (Dg×DP)} {σ:St} {H H':Hp} {s:Dh} {b:Dg} (I:au X JD σ H s) (hb:s.heap.objs.size<=b) (hn:H' b=none):jj X JD H' b:=by
 refine⟨hn,Nat.ne_of_gt (DS I.lt hb),I.nofs hb, .inr (E1 I.sz hb),λx c e z=> ?_,λp hp z=> ?_⟩
 ·obtain⟨v,q⟩:=I.cell x c e
  exact absurd (DS q.lt (by rw[z];exact hb)) (El _)
 ·exact absurd (DS (Dz (I.pin p hp).1) (by rw[z];exact hb)) (El _)
structure sS (P:Dv) (w:DE) (K:Dd) (tg:Dn) (J:It) (fp:List Dg) (it:Dg) (tn:Nat->DB->Prop):Prop where
 mem:it∈fp
 obj:∀i h,tn i h->∀b∈fp,∃o,h.get? b=some o/\∀v,o.data≠ .cell v
 keep:∀i h h',tn i h->(∀b∈fp,∀o,h.get? b=some o->h'.get? b=some o)->tn i h'
 item:∀(X:Cx),X.prog=P->X.w=w->X.K=K->X.calm=true->∀(i:Nat) (JD:List (Dg×DP)) (s:Dh) (σ:St) (H:Hp) (E:De->Dh->Prop),au X JD σ H s->(∀b∈fp,jj X JD H b)->tn i s.heap->J.go i H->
  Du (Dx P w) X.A (pyNext (.ref it)) (λr s1=>∃u,r=some u/\
   Du (Dx P w) X.A (Ho tg (.ref it) u) (λ_ s2=>∃x H',au X JD σ H' s2/\aZ x u/\J.yld i H x H'/\tn (i+1) s2.heap/\∀b∈fp,H' b=none) E s1) E s
 done:∀(X:Cx),X.prog=P->X.w=w->X.K=K->X.calm=true->∀(i:Nat) (JD:List (Dg×DP)) (s:Dh) (σ:St) (H:Hp) (E:De->Dh->Prop),au X JD σ H s->(∀b∈fp,jj X JD H b)->tn i s.heap->J.stop i H->
  Du (Dx P w) X.A (pyNext (.ref it)) (λr s1=>r=none/\au X JD σ H s1) E s
 self:∀(A:DI) (i:Nat) (s:Dh) (Q:De->Dh->Prop) (E:De->Dh->Prop),tn i s.heap->Q (.ref it) s->Du (Dx P w) A (pyIter (.ref it)) Q E s
abbrev TI:=St->Hp->(It->Hp->Prop)->Prop
def Cz (X:Cx) (JD:List (Dg×DP)) (σ:St) (tg:Dn) (R:It->Hp->Prop) (Px:De) (s2:Dh):Prop:=
 ∃(it:Dg) (fp:List Dg) (tn:Nat->DB->Prop) (J:It) (H':Hp),Px= .ref it/\au X JD σ H' s2/\sS X.prog X.w X.K tg J fp it tn/\tn 0 s2.heap/\(∀b∈fp,jj X JD H' b)/\R J H'
def PI (X:Cx) (tg J_:Dn) (wi:TI):Prop:=
 ∀(JD:List (Dg×DP)) (s:Dh) (σ:St) (H:Hp) (R:It->Hp->Prop),au X JD σ H s->wi σ H R->
  Du (Dx X.prog X.w) X.A (DH J_ X.env) (λv s1=>Du (Dx X.prog X.w) X.A (pyIter v) (Cz X JD σ tg R) X.xe s1) X.xe s
theorem uB {M:IB} {A:DI} {E:De->Dh->Prop} {s:Dh} {tg:Dn} {it:Dg} {u:De} {o:DP} {n:String} {vs:Array De} {Q:Unit->Dh->Prop} (ho:s.heap.get? it=some o) (hc:o.cls= .type n) (hd:o.data= .fields vs)
  (hn:["enumerate","zip","dict_itemiterator","dict_reverseitemiterator","odict_iterator","itertools.zip_longest","itertools.pairwise"].contains n=false) (hQ:Q () s):Du M A (Ho tg (.ref it) u) Q E s:=by
 unfold Ho
 cases tg<;>first
  |exact DG hQ
  |(cases u<;>first
    |exact DG hQ
    |(refine Dk (wpAny_load ho ?_)
      rw[hc,hd]
      show Du M A (if (["enumerate","zip","dict_itemiterator","dict_reverseitemiterator","odict_iterator","itertools.zip_longest","itertools.pairwise"].contains n&&vs[0]? ==some (rawInt _))=true then _ else _) Q E s
      rw[if_neg (by intro h;rw[hn,Bool.false_and]at h;cases h)]
      exact DG hQ))
def Bq (K:Dd) (a:Dg):It:=
 ⟨λi H=>∃xs x,dc K H a xs/\xs[i]? =some x,λi H x H'=>H'=H/\∀xs,dc K H a xs->xs[i]? =some x,λi H=>∃xs,dc K H a xs/\xs.length<=i⟩
def BU (K:Dd) (a:Dg):It:=
 ⟨λi H=>∃xs x,hU K H a xs/\xs[i]? =some x,λi H x H'=>H'=H/\∀xs,hU K H a xs->xs[i]? =some x,λi H=>∃xs,hU K H a xs/\xs.length<=i⟩
def Br (lo:Int) (n:Nat):It:=⟨λi _=>i<n,λi H x H'=>H'=H/\x= .int (lo+i),λi _=>n<=i⟩
theorem sT {P:Dv} {w:DE} {K:Dd} {tg:Dn} (a it:Dg):sS P w K tg (Bq K a) [it] it (λi h=>h.IsListIter it a i)where
 mem:=by simp
 obj:=λi h st b hb=>by
  have e:b=it:=by simpa using hb
  subst e
  obtain⟨o,e,c,d⟩:=st
  exact⟨o,e,λv z=>by rw[d]at z;cases z⟩
 keep:=λi h h' st k=>st.at λo e=>k it (by simp) o e
 item:=by
  intro X hP hw hK hc i JD s σ H E I hf st hg
  subst hP hw hK
  obtain⟨xs,x,hq,hx⟩:=hg
  obtain⟨its,rv,p,hz⟩:=I.list hq
  obtain⟨u,hu,ru⟩:=rv.get hx
  obtain⟨f0,f1,f2,f3,f4,f5⟩:=hf it (by simp)
  refine wpAny_pyNext_list_item st p.isList (x:=u) (by simpa using hu) λh' Nb sb=> ?_
  have I1:au X JD σ H {s with heap:=h'}:=I.turned (t':=s.toks) (λb o hb e=>(sb.2 b hb).trans e) f0 f1 f3 f4 f5
  obtain⟨o,e,c,d⟩:=id Nb
  exact⟨u,rfl,uB (s:={s with heap:=h'}) e c d (by decide) ⟨x,H,I1,ru,⟨rfl,λys hy=>by rw[I.list_inj hy hq];exact hx⟩,Nb,λb hb=>(hf b hb).1⟩⟩
 done:=by
  intro X hP hw hK hc i JD s σ H E I hf st hg
  subst hP hw hK
  obtain⟨xs,hq,hx⟩:=hg
  obtain⟨its,rv,p,hz⟩:=I.list hq
  obtain⟨f0,f1,f2,f3,f4,f5⟩:=hf it (by simp)
  have hl:=rv.length
  exact wpAny_pyNext_list_end (I.ok.hd hc) st p.isList (by simp;omega) λh' eb=>⟨rfl,I.turned (t':=s.toks) (λb o hb e=>eb b o hb e) f0 f1 f3 f4 f5⟩
 self:=λ_ _ _ _ _ st h=>wpAny_pyIter_listiter st h
theorem qw {P:Dv} {w:DE} {K:Dd} {tg:Dn} (a it:Dg):sS P w K tg (BU K a) [it] it (λi h=>h.IsTupleIter it a i)where
 mem:=by simp
 obj:=λi h st b hb=>by
  have e:b=it:=by simpa using hb
  subst e
  obtain⟨o,e,c,d⟩:=st
  exact⟨o,e,λv z=>by rw[d]at z;cases z⟩
 keep:=λi h h' st k=>st.at λo e=>k it (by simp) o e
 item:=by
  intro X hP hw hK hc i JD s σ H E I hf st hg
  subst hP hw hK
  obtain⟨xs,x,hq,hx⟩:=hg
  obtain⟨its,rv,p,hz⟩:=I.tuple hq
  obtain⟨u,hu,ru⟩:=rv.get hx
  obtain⟨f0,f1,f2,f3,f4,f5⟩:=hf it (by simp)
  refine wpAny_pyNext_tuple_item st (show s.heap.IsTuple a its.toArray from p) (x:=u) (by simpa using hu) λh' Nb sb=> ?_
  have I1:au X JD σ H {s with heap:=h'}:=I.turned (t':=s.toks) (λb o hb e=>(sb.2 b hb).trans e) f0 f1 f3 f4 f5
  obtain⟨o,e,c,d⟩:=id Nb
  exact⟨u,rfl,uB (s:={s with heap:=h'}) e c d (by decide) ⟨x,H,I1,ru,⟨rfl,λys hy=>by rw[I.tuple_inj hy hq];exact hx⟩,Nb,λb hb=>(hf b hb).1⟩⟩
 done:=by
  intro X hP hw hK hc i JD s σ H E I hf st hg
  subst hP hw hK
  obtain⟨xs,hq,hx⟩:=hg
  obtain⟨its,rv,p,hz⟩:=I.tuple hq
  obtain⟨f0,f1,f2,f3,f4,f5⟩:=hf it (by simp)
  have hl:=rv.length
  exact wpAny_pyNext_tuple_end (I.ok.hd hc) st (show s.heap.IsTuple a its.toArray from p) (by simp;omega) λh' eb=>⟨rfl,I.turned (t':=s.toks) (λb o hb e=>eb b o hb e) f0 f1 f3 f4 f5⟩
 self:=λ_ _ _ _ _ st h=>wpAny_pyIter_tupleiter st h
theorem qx {P:Dv} {w:DE} {K:Dd} {tg:Dn} (it:Dg) (lo:Int) (n:Nat):sS P w K tg (Br lo n) [it] it (λi h=>IsRangeIter h it (lo+(i:Nat)*1) ((n:Int) - (i:Nat)) 1)where
 mem:=by simp
 obj:=λi h st b hb=>by
  have e:b=it:=by simpa using hb
  subst e
  exact⟨_,st,λv z=>by
   have z':Data.fields _=Data.cell v:=z
   cases z'⟩
 keep:=λi h h' st k=>k it (by simp) _ st
 item:=by
  intro X hP hw hK hc i JD s σ H E I hf st hg
  subst hP hw hK
  obtain⟨f0,f1,f2,f3,f4,f5⟩:=hf it (by simp)
  have W:=Walks.range (prog:=X.prog) (w:=X.w) (I.ok.hd hc) it lo 1 n
  refine W.item i s _ _ hg st λv h' tk hv Nb kk=> ?_
  obtain⟨t,rfl⟩:=hv
  have I1:au X JD σ H {s with heap:=h',toks:=tk}:=I.turned (λb o hb e=>kk b o (by simpa using hb) e) f0 f1 f3 f4 f5
  refine⟨_,rfl,uB (s:={s with heap:=h',toks:=tk}) (n:="range_iterator") Nb rfl rfl (by decide) ⟨.int (lo+i),H,I1,⟨t,?_⟩,⟨rfl,rfl⟩,Nb,λb hb=>(hf b hb).1⟩⟩
  rw[Int.mul_one]
 done:=by
  intro X hP hw hK hc i JD s σ H E I hf st hg
  subst hP hw hK
  obtain⟨f0,f1,f2,f3,f4,f5⟩:=hf it (by simp)
  exact wpAny_pyNext_range_end (I.ok.hd hc) st (by have:n<=i:=hg;omega) λh' eb=>⟨rfl,I.turned (t':=s.toks) (λb o hb e=>eb b o hb e) f0 f1 f3 f4 f5⟩
 self:=λ_ _ _ _ _ st h=>wpAny_pyIter_rangeiter st h
end L2
namespace L2
open PySem PySem.Spec PyProof.Rows
section
variable {X:Cx} {tg:Dn}
def Ar (K:Dd) (tl:TE):TI:=λσ H R=>tl σ H λx H1=>∃a,x= .ref a/\(∃xs,dc K H1 a xs)/\R (Bq K a) H1
def BV (K:Dd) (tl:TE):TI:=λσ H R=>tl σ H λx H1=>∃a,x= .ref a/\(∃xs,hU K H1 a xs)/\R (BU K a) H1
theorem o3 {l:Dn} {tl:TE} (hl:PE X l tl):PI X tg l (Ar X.K tl):=by
 intro JD s σ H R I h
 refine cn (hl JD s σ H _ I h) λv s1 z_=> ?_
 obtain⟨x,H1,I1,r1,q1⟩:=z_
 obtain⟨a,e,⟨xs,hq⟩,q⟩:=q1
 subst e
 cases r1
 obtain⟨its,rv,p,hz⟩:=I1.list hq
 refine IG p.isList ?_
 refine⟨s1.heap.objs.size,[s1.heap.objs.size],_,_,H1,rfl,I1.kept (t':=s1.toks) λb o e=>Dp _ e,sT a _,⟨_,DT _ rfl,rfl,rfl⟩,λb hb=> ?_,q⟩
 have e:b=s1.heap.objs.size:=by simpa using hb
 subst e
 exact I1.fpOk (DK _) (I1.hok.fresh (DK _))
theorem yQ {l:Dn} {tl:TE} (hl:PE X l tl):PI X tg l (BV X.K tl):=by
 intro JD s σ H R I h
 refine cn (hl JD s σ H _ I h) λv s1 z_=> ?_
 obtain⟨x,H1,I1,r1,q1⟩:=z_
 obtain⟨a,e,⟨xs,hq⟩,q⟩:=q1
 subst e
 cases r1
 obtain⟨its,rv,p,hz⟩:=I1.tuple hq
 refine Il (show s1.heap.IsTuple a its.toArray from p) ?_
 refine⟨s1.heap.objs.size,[s1.heap.objs.size],_,_,H1,rfl,I1.kept (t':=s1.toks) λb o e=>Dp _ e,qw a _,⟨_,DT _ rfl,rfl,rfl⟩,λb hb=> ?_,q⟩
 have e:b=s1.heap.objs.size:=by simpa using hb
 subst e
 exact I1.fpOk (DK _) (I1.hok.fresh (DK _))
theorem uC {JD:List (Dg×DP)} {σ:St} {H:Hp} {s:Dh} {R:It->Hp->Prop} {E:De->Dh->Prop} {lo hi:Int} {t u v:Fn} {tk:Nat} (I:au X JD σ H s) (h1: -(2 ^62)<=lo) (h2:lo<2 ^62) (h3: -(2 ^62)<=hi) (h4:hi<2 ^62)
  (q:R (Br lo (hi - lo).toNat) H):Du (Dx X.prog X.w) X.A (pyIter (.ref s.heap.objs.size)) (Cz X JD σ tg R) E {s with heap:=s.heap.push {cls:= .type "range",data:= .fields #[.int lo t, .int hi u, .int 1 v]},toks:=tk}:=by
 refine wpAny_pyIter_range (IsRange.new ..) (small_one h1 h2 h3 h4) ?_
 have I1:au X JD σ H {s with heap:=s.heap.push {cls:= .type "range",data:= .fields #[.int lo t, .int hi u, .int 1 v]},toks:=tk}:=I.kept λb o e=>Dp _ e
 refine⟨(s.heap.push {cls:= .type "range",data:= .fields #[.int lo t, .int hi u, .int 1 v]}).objs.size,[(s.heap.push {cls:= .type "range",data:= .fields #[.int lo t, .int hi u, .int 1 v]}).objs.size],_,_,H,rfl,
  I1.kept (t':=tk) λb o e=>Dp _ e,qx _ lo (hi - lo).toNat,?_,λb hb=> ?_,q⟩
 ·have e1:lo+((0:Nat):Int)*1=lo:=by simp
  have e2:(((hi - lo).toNat:Nat):Int) - ((0:Nat):Int)=Builtin.Range.rangeSize lo hi 1:=by rw[rangeSize_one];split<;>omega
  show IsRangeIter _ _ (lo+((0:Nat):Int)*1) ((((hi - lo).toNat:Nat):Int) - ((0:Nat):Int)) 1
  rw[e1,e2]
  exact DT _ rfl
 ·have e:b=(s.heap.push {cls:= .type "range",data:= .fields #[.int lo t, .int hi u, .int 1 v]}).objs.size:=by simpa using hb
  subst e
  exact I1.fpOk (DK _) (I1.hok.fresh (DK _))
def As (ta:TA):TI:=λσ H R=>ta σ H λvs H1=>∃j:Int,vs=[.int j]/\ -(2 ^62)<=j/\j<2 ^62/\R (Br 0 j.toNat) H1
theorem sU {a:Dn} {ta:TA} {p pos:DY} (hg:Gl X "range") (hm:X.mg "range"=none) (ha:PA X [a] ta) (hs:Di [a] X.env=[(false,DH a X.env)]:=by rfl):PI X tg (.Call (.Name "range" p) [a] [] pos) (As ta):=by
 intro JD s σ H R I h
 refine Call_ (jW I hg hm boot_range (FH (cn (ha pos JD s σ H _ I h) λus s1 z_=> ?_) hs rfl))
 obtain⟨vs,H1,I1,r1,q1⟩:=z_
 obtain⟨j,e,q1,q2,q⟩:=q1
 subst e
 cases r1 with
 |cons r rr=>
  cases rr
  obtain⟨t,rfl⟩:=r
  exact call_range_1 (uC I1 (by omega) (by omega) q1 q2 (by simpa using q))
def Au (wi:TI) (g:TG) (tb:TS):TS:=λD σ H=>wi σ H λJ H1=>∃W:Nat->Nat->St->Hp->Prop,(∃m,W 0 m σ H1)/\∀i m σ H,W i m σ H->
 (J.stop i H/\D.nx σ H)\/(J.go i H/\∃N:St->Hp->Prop,(∀σ' H',N σ' H'->∃m',m'<m/\W (i+1) m' σ' H')/\∀x H',J.yld i H x H'->g x σ H' λσ2 H2=>tb {D with nx:=N,ct:=N,bk:=D.nx} σ2 H2)
def lH (fp:List Dg) (h:DB):List (Dg×DP):=fp.filterMap λb=>(h.get? b).map λo=>(b,o)
theorem gH {fp:List Dg} {h:DB} {b:Dg} {o:DP} (hb:b∈fp) (e:h.get? b=some o):(b,o)∈lH fp h:=GB.mpr ⟨b,hb,by rw[e];rfl⟩
theorem sV {fp:List Dg} {h:DB} {p:Dg×DP} (hp:p∈lH fp h):p.1∈fp/\h.get? p.1=some p.2:=by
 obtain⟨b,hb,e⟩:=GB.mp hp
 cases q:h.get? b with
 |none=>rw[q]at e;cases e
 |some o=>
  rw[q]at e
  have e':(b,o)=p:=Eh e
  subst e'
  exact⟨hb,q⟩
theorem au.pinned {JD:List (Dg×DP)} {σ:St} {H:Hp} {s:Dh} {fp:List Dg} (I:au X JD σ H s) (hf:∀b∈fp,jj X JD H b) (ho:∀b∈fp,∃o,s.heap.get? b=some o/\∀v,o.data≠ .cell v):au X (JD++lH fp s.heap) σ H s:=
 I.pins_of λp hp=>(EX.mp hp).elim (λz=>I.pin p (DO _ z)) λz=>by
  obtain⟨hb,e⟩:=sV z
  obtain⟨f0,f1,f2,_⟩:=hf p.1 hb
  obtain⟨o,e',d⟩:=ho p.1 hb
  rw[e]at e';cases e'
  exact⟨e,f0,f1,f2,d⟩
theorem au.unpinned {JD pl:List (Dg×DP)} {σ:St} {H:Hp} {s:Dh} (I:au X (JD++pl) σ H s):au X JD σ H s:=I.pins_of λp hp=>I.pin p (DO _ (Ej _ hp))
theorem yR {J_:Dn} {body:List DJ} {wi:TI} {g:TG} {tb:TS} {pos:DY} (hp:PassesOwn (Dx X.prog X.w) X.A X.env X.xe) (hc:X.calm=true) (hi:PI X tg J_ wi) (hg:PG X tg g) (hb:nc X body tb)
  (hs:∀x,EM J_ X.env x=pure x:=by intro _;rfl):PS X (.For tg J_ body [] pos) (Au wi g tb):=by
 intro JD s σ H D I h
 refine wpAny_For (cn (hi JD s σ H _ I h) λv s1 h1=>cn h1 λPx s2 h2=> ?_) hs
 obtain⟨it,fp,tn,J,H2,e,I2,T,N_,f2,W,⟨m0,w0⟩,O8⟩:=h2
 subst e
 have MU:∀{H':Hp},(∀b∈fp,H' b=none)->∀b∈fp,jj X JD H' b:=λhn b hb=>⟨hn b hb,(f2 b hb).2⟩
 refine codeAny_forLoop_any (λn s'=>∃i σ' H',au X JD σ' H' s'/\tn i s'.heap/\(∀b∈fp,H' b=none)/\W i n σ' H') ?_ m0 ⟨0,σ,H2,I2,N_,λb hb=>(f2 b hb).1,w0⟩
 rintro n s3 ⟨i,σ3,H3,I3,QY,QZ,w3⟩
 rcases O8 i n σ3 H3 w3 with ⟨stop,qn⟩|⟨go,N,hN,step⟩
 ·refine FY hp (cn (T.done X rfl rfl rfl hc i JD s3 σ3 H3 X.xe I3 (MU QZ) QY stop) λr s4 z_=> ?_)
  obtain⟨hr,I4⟩:=z_
  subst hr
  exact Gq ⟨σ3,H3,I4,qn⟩
 ·refine FY hp (cn (T.item X rfl rfl rfl hc i JD s3 σ3 H3 X.xe I3 (MU QZ) QY go) λr s4 z_=> ?_)
  obtain⟨u,hr,h4⟩:=z_
  subst hr
  refine FY hp (cn h4 λ_ s5 z_=> ?_)
  obtain⟨x,H5,I5,r5,y5,P_,Rw⟩:=z_
  have Rx:=I5.pinned (MU Rw) (T.obj _ _ P_)
  refine FY hp (cn (hg _ s5 σ3 H5 x u _ Rx r5 (step x H5 y5)) λ_ s6 z_=> ?_)
  obtain⟨σ6,H6,I6,q6⟩:=z_
  refine FY hp (cn (hb _ s6 σ6 H6 _ I6 q6) λf s7 q7=> ?_)
  have again:∀{σ7:St} {H7:Hp},au X (JD++lH fp s5.heap) σ7 H7 s7->N σ7 H7->∃m,m<n/\∃i σ' H',au X JD σ' H' s7/\tn i s7.heap/\(∀b∈fp,H' b=none)/\W i m σ' H':=λ{σ7 H7} I7 n7=>by
   obtain⟨m',hm,w7⟩:=hN σ7 H7 n7
   refine⟨m',hm,i+1,σ7,H7,I7.unpinned,T.keep _ _ _ P_ λb hb o e=>(I7.pin (b,o) (DO _ (DO _ (gH hb e)))).1,λb hb=> ?_,w7⟩
   obtain⟨o,e,d⟩:=T.obj _ _ P_ b hb
   exact(I7.pin (b,o) (DO _ (DO _ (gH hb e)))).2.1
  cases f with
  |next=>obtain⟨σ7,H7,I7,n7⟩:=q7;exact again I7 n7
  |cont=>obtain⟨σ7,H7,I7,n7⟩:=q7;exact again I7 n7
  |brk=>obtain⟨σ7,H7,I7,q7⟩:=q7;exact⟨σ7,H7,I7.unpinned,q7⟩
  |ret v=>obtain⟨x7,σ7,H7,I7,r7,q7⟩:=q7;exact⟨x7,σ7,H7,I7.unpinned,r7,q7⟩
end
end L2
namespace L2
open PySem PySem.Spec PyProof.Rows
abbrev R2:=V->V->Hp->VK->Prop
def i0 (X:Cx) (f:De->De->Gd De) (r:R2):Prop:=
 ∀(JD:List (Dg×DP)) (s:Dh) (σ:St) (H:Hp) (x y:V) (v u:De) (Q:VK),au X JD σ H s->aZ x v->aZ y u->r x y H Q->
  Du (Dx X.prog X.w) X.A (f v u) (EP X JD σ Q) X.xe s
def Bs (X:Cx) (f:De->Gd De) (r:V->Hp->VK->Prop):Prop:=
 ∀(JD:List (Dg×DP)) (s:Dh) (σ:St) (H:Hp) (x:V) (v:De) (Q:VK),au X JD σ H s->aZ x v->r x H Q->
  Du (Dx X.prog X.w) X.A (f v) (EP X JD σ Q) X.xe s
def d6 (X:Cx) (f:De) (r:List V->Hp->VK->Prop):Prop:=
 ∀(JD:List (Dg×DP)) (s:Dh) (σ:St) (H:Hp) (xs:List V) (us:List De) (Q:VK),au X JD σ H s->aF xs us->r xs H Q->
  Du (Dx X.prog X.w) X.A (call f us) (EP X JD σ Q) X.xe s
def BW (X:Cx) (r:V->Hp->(Bool->Hp->Prop)->Prop):Prop:=
 ∀(JD:List (Dg×DP)) (s:Dh) (σ:St) (H:Hp) (x:V) (v:De) (Q:Bool->Hp->Prop),au X JD σ H s->aZ x v->r x H Q->
  Du (Dx X.prog X.w) X.A (Jc v) (TP X JD σ Q) X.xe s
def Bt (r:R2) (ta tb:TE):TE:=λσ H Q=>ta σ H λx H1=>tb σ H1 λy H2=>r x y H2 Q
def CS (r:V->Hp->VK->Prop) (ta:TE):TE:=λσ H Q=>ta σ H λx H1=>r x H1 Q
def rI (C:Int->Int->Prop) (g:Int->Int->V):R2:=λx y H Q=>∃i j,x= .int i/\y= .int j/\C i j/\Q (g i j) H
def sW (g:Int->Int->V):R2:=λx y H Q=>∃i j,x= .int i/\y= .int j/\Q (g i j) H
def rU (g:Int->V):V->Hp->VK->Prop:=λx H Q=>∃i,x= .int i/\Q (g i) H
section
variable {X:Cx} {a b c:Dn} {ta tb tc:TE} {pos:DY}
theorem yS (ha:PE X a ta) (hb:PE X b tb) {JD:List (Dg×DP)} {s:Dh} {σ:St} {H:Hp} {R:V->V->Hp->Prop} (I:au X JD σ H s)
  (h:ta σ H λx H1=>tb σ H1 λy H2=>R x y H2) {Q:De->Dh->Prop} {f:De->De->Gd De}
  (hf:∀v u s2 x y H2,au X JD σ H2 s2->aZ x v->aZ y u->R x y H2->Du (Dx X.prog X.w) X.A (f v u) Q X.xe s2):
  Du (Dx X.prog X.w) X.A (DH a X.env) (λv s₁=>Du (Dx X.prog X.w) X.A (DH b X.env) (λu s₂=>Du (Dx X.prog X.w) X.A (f v u) Q X.xe s₂) X.xe s₁) X.xe s:=by
 refine cn (ha JD s σ H _ I h) λv s1 z_=> ?_
 obtain⟨x,H1,I1,r1,q1⟩:=z_
 refine cn (hb JD s1 σ H1 _ I1 q1) λu s2 z_=> ?_
 obtain⟨y,H2,I2,r2,q2⟩:=z_
 exact hf v u s2 x y H2 I2 r1 r2 q2
theorem Av {op:Operator} {r:R2} (ho:i0 X (EI op) r) (ha:PE X a ta) (hb:PE X b tb):PE X (.BinOp a op b pos) (Bt r ta tb):=by
 intro JD s σ H Q I h
 exact wpAny_BinOp (yS ha hb I h λv u s2 x y H2 I2 rx ry q=>ho JD s2 σ H2 x y v u Q I2 rx ry q)
theorem Aw {op:UnaryOp} {r:V->Hp->VK->Prop} (ho:Bs X (unaryOp op) r) (ha:PE X a ta):PE X (.UnaryOp op a pos) (CS r ta):=by
 intro JD s σ H Q I h
 exact UnaryOp_ (cn (ha JD s σ H _ I h) λv s1 ⟨x,H1,I1,r1,q1⟩=>ho JD s1 σ H1 x v Q I1 r1 q1)
theorem Bu {f:De->De->Gd De} {C:Int->Int->Prop} {g:Int->Int->Int}
  (rule:∀(i j:Int) (t u:Fn) (s:Dh) (Q:De->Dh->Prop) (E:De->Dh->Prop),C i j->Q (.int (g i j) s.toks) {s with toks:=s.toks+1}->Du (Dx X.prog X.w) X.A (f (.int i t) (.int j u)) Q E s):
  i0 X f (rI C λi j=> .int (g i j)):=by
 intro JD s σ H x y v u Q I rx ry h
 obtain⟨i,j,rfl,rfl,hc,q⟩:=h
 obtain⟨t,rfl⟩:=rx
 obtain⟨t',rfl⟩:=ry
 exact rule i j t t' s _ _ hc ⟨.int (g i j),H,I.tok _,⟨_,rfl⟩,q⟩
theorem Ax {f:De->De->Gd De} {g:Int->Int->Int}
  (rule:∀(i j:Int) (t u:Fn) (s:Dh) (Q:De->Dh->Prop) (E:De->Dh->Prop),Q (.int (g i j) s.toks) {s with toks:=s.toks+1}->Du (Dx X.prog X.w) X.A (f (.int i t) (.int j u)) Q E s):
  i0 X f (sW λi j=> .int (g i j)):=by
 intro JD s σ H x y v u Q I rx ry h
 obtain⟨i,j,rfl,rfl,q⟩:=h
 obtain⟨t,rfl⟩:=rx
 obtain⟨t',rfl⟩:=ry
 exact rule i j t t' s _ _ ⟨.int (g i j),H,I.tok _,⟨_,rfl⟩,q⟩
theorem yT {f:De->De->Gd De} {g:Int->Int->Bool}
  (rule:∀(i j:Int) (t u:Fn) (s:Dh) (Q:De->Dh->Prop) (E:De->Dh->Prop),Q (.bool (g i j)) s->Du (Dx X.prog X.w) X.A (f (.int i t) (.int j u)) Q E s):
  i0 X f (sW λi j=> .bl (g i j)):=by
 intro JD s σ H x y v u Q I rx ry h
 obtain⟨i,j,rfl,rfl,q⟩:=h
 obtain⟨t,rfl⟩:=rx
 obtain⟨t',rfl⟩:=ry
 exact rule i j t t' s _ _ ⟨.bl (g i j),H,I,rfl,q⟩
def wH (i j:Int):Prop:=0<j/\j<1073741824
def wI (i j:Int):Prop:=0<=j/\j<=1000000/\i.natAbs<2 ^64
def sX (i j:Int):Prop:=(-(2 ^64)<i/\i<2 ^64)\/(-(2 ^64)<j/\j<2 ^64)
theorem sX.ok {i j:Int} (h:sX i j):IntMulOk i j:=by
 rcases h with ⟨h1,h2⟩|⟨h1,h2⟩
 ·exact .of_left (intBits_le_64 h1 h2)
 ·exact .of_right (intBits_le_64 h1 h2)
theorem yU:i0 X (EI .Add) (sW λi j=> .int (i+j)):=Ax λ_ _ _ _ _ _ _ q=>add_int q
theorem qy:i0 X (EI .Sub) (sW λi j=> .int (i - j)):=Ax λ_ _ _ _ _ _ _ q=>sub_int q
theorem yV:i0 X (EI .Mult) (rI sX λi j=> .int (i*j)):=Bu λ_ _ _ _ _ _ _ hc q=>mul_int q hc.ok
theorem wJ:i0 X (EI .FloorDiv) (rI wH λi j=> .int (i / j)):=Bu λi j _ _ _ _ _ hc q=>by
 have h1:(0:Int)<j:=hc.1
 have h2:j<1073741824:=hc.2
 exact floordiv_int (by omega) (by rw[Int.fdiv_eq_ediv_of_nonneg i (by omega)];exact q) (.inl (PyProof.noPylong_small (by omega)))
theorem i3:i0 X (EI .Mod) (rI (λ_ j=>0<j) λi j=> .int (i%j)):=Bu λi j _ _ _ _ _ hc q=>by
 have h1:(0:Int)<j:=hc
 exact mod_int' (by omega) (by rw[Int.fmod_eq_emod_of_nonneg i (by omega)];exact q)
theorem uD:i0 X (EI .Pow) (rI wI λi j=> .int (i ^j.toNat)):=Bu λ_ _ _ _ _ _ _ hc q=>pow_int_small hc.1 hc.2.1 hc.2.2 q
theorem CT {f:De->Gd De} {g:Int->Int}
  (rule:∀(i:Int) (t:Fn) (s:Dh) (Q:De->Dh->Prop) (E:De->Dh->Prop),Q (.int (g i) s.toks) {s with toks:=s.toks+1}->Du (Dx X.prog X.w) X.A (f (.int i t)) Q E s):
  Bs X f (rU λi=> .int (g i)):=by
 intro JD s σ H x v Q I rx h
 obtain⟨i,rfl,q⟩:=h
 obtain⟨t,rfl⟩:=rx
 exact rule i t s _ _ ⟨.int (g i),H,I.tok _,⟨_,rfl⟩,q⟩
theorem uE:Bs X (unaryOp .USub) (rU λi=> .int (-i)):=CT λ_ _ _ _ _ q=>neg_int q
end
def yW:V->V->Bool
 | .non, .non=>true| .non, .int _=>true| .int _, .non=>true| .non, .bl _=>true| .bl _, .non=>true| .non, .str _=>true| .str _, .non=>true
 | .int _, .int _=>true| .bl _, .bl _=>true| .str _, .str _=>true| .byt _, .byt _=>true
 | .int _, .str _=>true| .str _, .int _=>true| .bl _, .str _=>true| .str _, .bl _=>true
 |_,_=>false
def Bv:R2:=λx y H Q=>yW x y=true/\Q (.bl (decide (x=y))) H
def CA:R2:=λx y H Q=>yW x y=true/\Q (.bl (!decide (x=y))) H
theorem rO {i j:Int}:decide (V.int i=V.int j)=(i==j):=by
 rw[FZ]
 simp
theorem uF {i j:Bool}:decide (V.bl i=V.bl j)=(i==j):=by
 rw[FZ]
 simp
theorem rP {i j:Df}:decide (V.str i=V.str j)=(i==j):=by
 rw[FZ]
 simp
theorem rQ {i j:Array UInt8}:decide (V.byt i=V.byt j)=(i.toList==j.toList):=by
 rw[FZ]
 cases i
 cases j
 simp
section
variable {X:Cx} {a b c:Dn} {ta tb tc:TE} {pos:DY}
theorem aV {JD:List (Dg×DP)} {σ:St} {H:Hp} {s:Dh} {Q:VK} {k k':Bool} (I:au X JD σ H s) (q:Q (.bl k) H) (e:k=k'):EP X JD σ Q (.bool k') s:=by
 subst e
 exact⟨.bl k,H,I,rfl,q⟩
theorem i4:i0 X (Ep .Eq) Bv:=by
 intro JD s σ H x y v u Q I rx ry h
 obtain⟨hs,q⟩:=h
 cases x with
 |non=>
  cases rx
  cases y with
  |non=>cases ry;exact PySem.EqNone.eq_none_none (aV I q (by simp))
  |bl j=>cases ry;exact PySem.EqNone.eq_none_bool (aV I q (by simp))
  |int j=>obtain⟨t',rfl⟩:=ry;exact PySem.EqNone.eq_none_int (aV I q (by simp))
  |str j=>obtain⟨t',rfl⟩:=ry;exact PySem.EqNone.eq_none_str (aV I q (by simp))
  |_=>exact absurd (show false=true from hs) DF
 |bl i=>
  cases rx
  cases y with
  |non=>cases ry;exact PySem.EqNone.eq_bool_none (aV I q (by simp))
  |bl j=>cases ry;exact eq_bool (aV I q uF)
  |str j=>obtain⟨t',rfl⟩:=ry;exact PySem.EqMixed.eq_bool_str (aV I q (by simp))
  |_=>exact absurd (show false=true from hs) DF
 |int i=>
  obtain⟨t,rfl⟩:=rx
  cases y with
  |non=>cases ry;exact PySem.EqNone.eq_int_none (aV I q (by simp))
  |int j=>obtain⟨t',rfl⟩:=ry;exact eq_int (aV I q rO)
  |str j=>obtain⟨t',rfl⟩:=ry;exact PySem.EqMixed.eq_int_str (aV I q (by simp))
  |_=>exact absurd (show false=true from hs) DF
 |str i=>
  obtain⟨t,rfl⟩:=rx
  cases y with
  |non=>cases ry;exact PySem.EqNone.eq_str_none (aV I q (by simp))
  |bl j=>cases ry;exact PySem.EqMixed.eq_str_bool (aV I q (by simp))
  |int j=>obtain⟨t',rfl⟩:=ry;exact PySem.EqMixed.eq_str_int (aV I q (by simp))
  |str j=>obtain⟨t',rfl⟩:=ry;exact eq_str (aV I q rP)
  |_=>exact absurd (show false=true from hs) DF
 |byt i=>
  obtain⟨t,rfl⟩:=rx
  cases y with
  |byt j=>obtain⟨t',rfl⟩:=ry;exact PySem.W.eq_bytes (aV I q rQ)
  |_=>exact absurd (show false=true from hs) DF
 |_=>cases y<;>exact absurd (show false=true from hs) DF
theorem yf:i0 X (Ep .NotEq) CA:=by
 intro JD s σ H x y v u Q I rx ry h
 obtain⟨hs,q⟩:=h
 cases x with
 |non=>
  cases rx
  cases y with
  |non=>cases ry;exact PySem.EqNone.ne_none_none (aV I q (by simp))
  |bl j=>cases ry;exact PySem.EqNone.ne_none_bool (aV I q (by simp))
  |int j=>obtain⟨t',rfl⟩:=ry;exact PySem.EqNone.ne_none_int (aV I q (by simp))
  |str j=>obtain⟨t',rfl⟩:=ry;exact PySem.EqNone.ne_none_str (aV I q (by simp))
  |_=>exact absurd (show false=true from hs) DF
 |bl i=>
  cases rx
  cases y with
  |non=>cases ry;exact PySem.EqNone.ne_bool_none (aV I q (by simp))
  |bl j=>cases ry;exact ne_bool (aV I q (congrArg not uF))
  |str j=>obtain⟨t',rfl⟩:=ry;exact PySem.EqMixed.ne_bool_str (aV I q (by simp))
  |_=>exact absurd (show false=true from hs) DF
 |int i=>
  obtain⟨t,rfl⟩:=rx
  cases y with
  |non=>cases ry;exact PySem.EqNone.ne_int_none (aV I q (by simp))
  |int j=>obtain⟨t',rfl⟩:=ry;exact ne_int (aV I q (congrArg not rO))
  |str j=>obtain⟨t',rfl⟩:=ry;exact PySem.EqMixed.ne_int_str (aV I q (by simp))
  |_=>exact absurd (show false=true from hs) DF
 |str i=>
  obtain⟨t,rfl⟩:=rx
  cases y with
  |non=>cases ry;exact PySem.EqNone.ne_str_none (aV I q (by simp))
  |bl j=>cases ry;exact PySem.EqMixed.ne_str_bool (aV I q (by simp))
  |int j=>obtain⟨t',rfl⟩:=ry;exact PySem.EqMixed.ne_str_int (aV I q (by simp))
  |str j=>obtain⟨t',rfl⟩:=ry;exact ne_str (aV I q (congrArg not rP))
  |_=>exact absurd (show false=true from hs) DF
 |byt i=>
  obtain⟨t,rfl⟩:=rx
  cases y with
  |byt j=>obtain⟨t',rfl⟩:=ry;exact PySem.W.ne_bytes (aV I q (congrArg not rQ))
  |_=>exact absurd (show false=true from hs) DF
 |_=>cases y<;>exact absurd (show false=true from hs) DF
theorem pz:i0 X (Ep .Lt) (sW λi j=> .bl (decide (i<j))):=yT λ_ _ _ _ _ _ _ q=>lt_int q
theorem rR:i0 X (Ep .Gt) (sW λi j=> .bl (decide (j<i))):=yT λ_ _ _ _ _ _ _ q=>gt_int q
theorem uG:i0 X (Ep .GtE) (sW λi j=> .bl (decide (j<=i))):=yT λ_ _ _ _ _ _ _ q=>ge_int q
theorem i0.or {f:De->De->Gd De} {r r':R2} (h:i0 X f r) (h':i0 X f r'):i0 X f (λx y H Q=>r x y H Q\/r' x y H Q):=by
 intro JD s σ H x y v u Q I rx ry q
 rcases q with q|q
 ·exact h JD s σ H x y v u Q I rx ry q
 ·exact h' JD s σ H x y v u Q I rx ry q
theorem uH (b:Dn) {op:IC} (h:op≠ .In:=by decide) (h2:op≠ .NotIn:=by decide):EN op b=false:=by
 have e1:(op==CmpOp.In)=false:=by cases op<;>first|rfl|exact absurd rfl h
 have e2:(op==CmpOp.NotIn)=false:=by cases op<;>first|rfl|exact absurd rfl h2
 cases b<;>simp[EN,e1,e2]
theorem wK {op:IC} {r:R2} (ho:i0 X (Ep op) r) (ha:PE X a ta) (hb:PE X b tb) (hm:EN op b=false):PE X (.Compare a [op] [b] pos) (Bt r ta tb):=by
 intro JD s σ H Q I h
 exact wpAny_Compare1 (yS ha hb I h λv u s2 x y H2 I2 rx ry q=>ho JD s2 σ H2 x y v u Q I2 rx ry q) hm
def yg (t:TE):TT:=λσ H Q=>t σ H λx H'=>∃k,x= .bl k/\Q k H'
theorem wL {op:IC} {r:R2} (ho:i0 X (Ep op) r) (ha:PE X a ta) (hb:PE X b tb) (hm:EN op b=false):PT X (.Compare a [op] [b] pos) (yg (Bt r ta tb)):=by
 intro JD s σ H Q I h
 refine wpAny_isTrue_Compare1 (cn (ha JD s σ H _ I h) λv s1 ⟨x,H1,I1,r1,q1⟩=>cn (hb JD s1 σ H1 _ I1 q1) λu s2 ⟨y,H2,I2,r2,q2⟩=>
  cn (ho JD s2 σ H2 x y v u _ I2 r1 r2 q2) λc s3 ⟨z,H3,I3,r3,k,e,q3⟩=> ?_) hm
 subst e
 cases r3
 exact EL ⟨H3,I3,q3⟩
def Ay (K:Dd) (x:V) (H:Hp) (k:Bool):Prop:=
 match x with
 | .non=>k=false
 | .bl b=>k=b
 | .int i=>k=(i != 0)
 | .str y=>y.length<=sizeLine/\k=((y.length:Int) != 0)
 | .byt y=>y.size<=sizeLine/\k=((y.size:Int) != 0)
 | .ref p=>(∃xs,dc K H p xs/\k= !xs.isEmpty)\/(∃xs,hU K H p xs/\k= !xs.isEmpty)\/∃kvs,H p=some (.dK kvs)/\k= !kvs.isEmpty
 |_=>False
theorem qz {κ:Type} {kvs:List (κ×V)} {vs:List (κ×De)} (r:KV kvs vs):(!vs.isEmpty)= !kvs.isEmpty:=by
 cases r<;>rfl
theorem lI {xs:List V} {its:List De} (r:aF xs its):(!its.toArray.isEmpty)= !xs.isEmpty:=by
 cases r<;>simp
theorem lJ:(sizeLine:Nat)<2 ^63:=by rw[EB];decide
theorem yX:BW X (λx H Q=>∃k,Ay X.K x H k/\Q k H):=by
 intro JD s σ H x v Q I rx h
 obtain⟨k,e,q⟩:=h
 have hl:=lJ
 have hs:sizeLine=16777216:=EB
 cases x with
 |non=>
  cases rx
  have e':k=false:=e
  subst e'
  exact truthy_none ⟨H,I,q⟩
 |bl b=>
  cases rx
  have e':k=b:=e
  subst e'
  exact EL ⟨H,I,q⟩
 |int i=>
  obtain⟨t,rfl⟩:=rx
  have e':k=(i != 0):=e
  subst e'
  exact PySem.P.truthy_int ⟨H,I,q⟩
 |str y=>
  obtain⟨t,rfl⟩:=rx
  obtain⟨hy,e'⟩:y.length<=sizeLine/\k=((y.length:Int) != 0):=e
  subst e'
  exact PySem.P.truthy_str (by omega) ⟨H,I.tok _,q⟩
 |byt y=>
  obtain⟨t,rfl⟩:=rx
  obtain⟨hy,e'⟩:y.size<=sizeLine/\k=((y.size:Int) != 0):=e
  subst e'
  exact PySem.W.truthy_bytes (by omega) ⟨H,I.tok _,q⟩
 |ref p=>
  cases rx
  have e':(∃xs,dc X.K H p xs/\k= !xs.isEmpty)\/(∃xs,hU X.K H p xs/\k= !xs.isEmpty)\/∃kvs,H p=some (.dK kvs)/\k= !kvs.isEmpty:=e
  rcases e' with ⟨xs,hx,e'⟩|⟨xs,hx,e'⟩|⟨kvs,hx,e'⟩
  ·subst e'
   obtain⟨its,r,pl,hz⟩:=I.list hx
   have K7:=r.length
   exact wpAny_truthy_list pl.isList (by simp only[Dr];omega) ⟨H,I.tok _,by rw[lI r];exact q⟩
  ·subst e'
   obtain⟨its,r,pl,hz⟩:=I.tuple hx
   have K7:=r.length
   exact truthy_tuple pl (by simp only[Dr];omega) ⟨H,I.tok _,by rw[lI r];exact q⟩
  ·subst e'
   obtain⟨hz,hS,vs,r,m⟩:kvs.length<=sizeLine/\(p==sysModules)=false/\∃vs,KV kvs vs/\s.heap.DictOf (cw X.prog X.w) p vs:=I.hok p _ hx
   have K7:kvs.length=vs.length:=HV r
   exact wpAny_truthy_dict hS m (by omega) ⟨H,I.tok _,by rw[qz r];exact q⟩
 |_=>exact(show False from e).elim
theorem uI (ha:PE X a ta) (he:∀L3,HC a X.env L3=(do let v<-L3;FU a.pos;FV [v] (Jc v))):
  PT X a (λσ H Q=>ta σ H λx H'=>∃k,Ay X.K x H' k/\Q k H'):=by
 intro JD s σ H Q I h
 exact isTrue_plain (cn (ha JD s σ H _ I h) λv s1 ⟨x,H1,I1,r1,q1⟩=>yX JD s1 σ H1 x v Q I1 r1 q1) (he _)
theorem jk {x:V} {us:List De} (r:aF [x] us):∃u,us=[u]/\aZ x u:=by
 cases r with
 |cons r1 r2=>cases r2;exact⟨_,rfl,r1⟩
theorem yh {x y:V} {us:List De} (r:aF [x,y] us):∃u w',us=[u,w']/\aZ x u/\aZ y w':=by
 cases r with
 |cons r1 r2=>
  cases r2 with
  |cons r3 r4=>cases r4;exact⟨_,_,rfl,r1,r3⟩
end
end L2
namespace L2
open PySem PySem.Spec PyProof.Rows
structure qA (h:DB) (x dx C:Dg) (mA:Df->Option De):Prop where
 obj:h.get? x=some (EG C dx)
 ns:h.Ns1 dx mA
 ne:dx≠x
theorem sY {h:DB} {dx:Dg} {mA:Df->Option De} (n:h.Ns1 dx mA):∃od,h.get? dx=some od/\∀name,GA name od=some (mA name):=by
 obtain⟨o,es,ep,ho,hd,hk,_,hm⟩:=n
 refine⟨o,ho,λname=> ?_⟩
 have e:=hm name
 unfold nsFind findBy at e
 rw[<-Array.find?_toList]at e
 unfold GA
 rw[hd]
 dsimp only
 split
 ·rename_i y q
  rw[q]at e
  exact congrArg some e
 ·rename_i q
  rw[q]at e
  have a:es.toList.any (·.refKey)=false:=by
   rw[IH]
   intro y hy
   obtain⟨z,t,O9⟩:=hk y (Array.mem_toList_iff.mp hy)
   simp[DictEntry.refKey,O9]
  have a':¬es.toList.any (·.refKey)=true:=by rw[a];exact DF
  rw[if_neg a']
  exact congrArg some e
theorem qA.look {h:DB} {x dx C:Dg} {mA:Df->Option De} (I:qA h x dx C mA):∃od,PySem.W.InstAt h x (EG C dx) C (some od)/\∀name,GA name od=some (mA name):=
 let ⟨od,ho,hl⟩:=sY I.ns
 ⟨od,⟨I.obj,rfl,rfl,ho⟩,hl⟩
section
variable {prog:Dv} {w:DE} {A:DI} {E:De->Dh->Prop} {s:Dh} {K:Dd} {x dx C f:Dg} {mA:Df->Option De} {name:Df} {v:De}
theorem wM {Q0:Bool} {Q:De->Dh->Prop} (X:K.In s.heap) (I:qA s.heap x dx C mA) (hg:EU K C name=true) (hh:E_ K C=true)
  (ha:Ds K (.ref C) name=some none) (hv:mA name=some v) (OR:IV v=true) (h:Q v {s with toks:=s.toks+1}):
  Du (Dx prog w) A (getAttr (.ref x) name Q0) Q E s:=by
 obtain⟨od,J,hl⟩:=I.look
 exact PySem.W.get_value X J (Gz hg).1 (PySem.W.findObj_own hh ha rfl (by rw[hl,hv])) OR h
theorem uJ {pl:Gd Bool} {Q:De×List De->Dh->Prop} (X:K.In s.heap) (I:qA s.heap x dx C mA) (hg:EU K C name=true)
  (hf:Ds K (.ref C) name=some (some (.ref f))) (ht:Gr K (.ref f)=true) (hv:mA name=none) (h:Q (.ref f,[.ref x]) s):
  Du (Dx prog w) A (FI (.ref x) name pl) Q E s:=by
 obtain⟨od,J,hl⟩:=I.look
 exact PySem.W.method_fn X J (Gz hg).1 (Gz hg).2 hf (beq_iff_eq.mp ht) (by show (GA name od).map (·.isSome)=some false;rw[hl,hv];rfl) h
theorem wN {ns:List Df} {Q:Unit->Dh->Prop} (X:K.In s.heap) (I:qA s.heap x dx C mA)
  (hs:Ds K (.ref C) "__setattr__"=some (some (.builtin "object.__setattr__"))) (hp:Fw K C=true) (ht:Hq K C name=some none) (hh:E_ K C=true)
  (hw:Ig mA ns) (hsz:ns.length<=sizeLine)
  (h:∀h',qA h' x dx C (λy=>if y=name then some v else mA y)->Ik dx s.heap h'->Q () {s with heap:=h',toks:=s.toks+2}):
  Du (Dx prog w) A (setAttr (.ref x) name v) Q E s:=by
 obtain⟨od,J,hl⟩:=I.look
 refine PySem.W.set_plain X J hs (PySem.W.osa_open (s:={s with toks:=s.toks+1}) (r:=none) X J hp ht λb=> ?_)
 obtain⟨cd,hc,PN⟩:=PySem.W.any_some hh
 have hx:s.heap.get? x=some ⟨.ref C,some dx, .plain,#[]⟩:=I.obj
 refine Dk (DG (Dk (Dk (wpAny_loadPart hx (Dk (PySem.W.Looks.here (s:={s with toks:=s.toks+1}) (PySem.W.looks_clsIn X hc) ?_))))))
 rw[PN]
 refine DG (a:=some dx) (Dk (DG (Dk ?_)))
 refine wpAny_nsSet1 (s:={s with toks:=s.toks+1}) I.ns λh' Oa Q_=> ?_
 obtain⟨oD,Te,Tf,Ry,Rz,RA⟩:=Oa.count (PySem.Within.cons name v hw)
 refine Dk (wpAny_lookBehind Ry (by rw[Rz];exact pastItsLine_dict (E1 RA (by rw[DC];omega))) ?_)
 exact DG (h _ ⟨(Q_.2 _ (ET I.ne)).trans I.obj,Oa,I.ne⟩ Q_)
theorem uK {R:Im->Dh->Prop} {vs:List De} {kw:List (Df×De)} (X:K.In s.heap) (hm:Fo K C=true)
  (hi:Ds K (.ref C) "__init__"=some (some (.ref f))) (hf:HD K (.ref f)=some (.type "function"))
  (h:G6 (Dx prog w) (A.under (.builtin "type.__call__" ⟨.ref C::vs,kw⟩)) (.call (.ref f) ⟨.ref (s.heap.objs.size+1)::vs,kw⟩) (PySem.W.InitBack (s.heap.objs.size+1) R)
   {s with heap:=(s.heap.push Es).push (EG C s.heap.objs.size)}):
  G6 (Dx prog w) A (.call (.ref C) ⟨vs,kw⟩) R s:=by
 obtain⟨hh,g,d,t,os⟩:=s
 exact PySem.W.make_core (PySem.W.makes_of X hm) (FJ X hi) (λself=>PySem.W.bind_fn X self hf) (.inl rfl) h
end
def et (f:Df) (v:V):List (Df×V)->List (Df×V)
 |[]=>[(f,v)]
 |(g,x)::r=>if g=f then (g,v)::r else (g,x)::et f v r
theorem bE (f g:Df) (v:V):∀fs:List (Df×V),(et f v fs).lookup g=if g=f then some v else fs.lookup g
 |[]=>by
  show FW g [(f,v)]=_
  by_cases h:g=f
  ·have hb:(g==f)=true:=beq_iff_eq.mpr h
   simp only[FW,hb,if_pos h]
  ·have hb:(g==f)=false:=beq_eq_false_iff_ne.mpr h
   simp only[FW,hb,if_neg h]
 |(k,x)::r=>by
  have ih:=bE f g v r
  rw[show et f v ((k,x)::r)=(if k=f then (k,v)::r else (k,x)::et f v r)from rfl]
  by_cases hk:k=f
  ·rw[if_pos hk]
   by_cases h:g=k
   ·have hb:(g==k)=true:=beq_iff_eq.mpr h
    simp only[FW,hb,if_pos (h.trans hk)]
   ·have hb:(g==k)=false:=beq_eq_false_iff_ne.mpr h
    simp only[FW,hb,if_neg (λe:g=f=>h (e.trans hk.symm))]
  ·rw[if_neg hk]
   by_cases h:g=k
   ·have hb:(g==k)=true:=beq_iff_eq.mpr h
    simp only[FW,hb,if_neg (λe:g=f=>hk (h.symm.trans e))]
   ·have hb:(g==k)=false:=beq_eq_false_iff_ne.mpr h
    simp only[FW,hb]
    exact ih
theorem jX (f:Df) (v:V):∀fs:List (Df×V),f∈(et f v fs).map (·.1)/\∀g,g∈fs.map (·.1)->g∈(et f v fs).map (·.1)
 |[]=>⟨by simp[et],λg h=>by simp at h⟩
 |(k,x)::r=>by
  obtain⟨i1,i2⟩:=jX f v r
  rw[show et f v ((k,x)::r)=(if k=f then (k,v)::r else (k,x)::et f v r)from rfl]
  by_cases hk:k=f
  ·rw[if_pos hk]
   subst hk
   exact⟨by simp,λg h=>by simpa using h⟩
  ·rw[if_neg hk]
   refine⟨?_,λg h=> ?_⟩
   ·rw[DD]
    exact Dw _ i1
   ·rw[DD]at h ⊢
    rcases DA.mp h with e|e
    ·exact DA.mpr (.inl e)
    ·exact Dw _ (i2 g e)
theorem kJ (f:Df) (v:V):∀fs:List (Df×V),(et f v fs).length<=fs.length+1
 |[]=>by simp[et]
 |(k,x)::r=>by
  have ih:=kJ f v r
  rw[show et f v ((k,x)::r)=(if k=f then (k,v)::r else (k,x)::et f v r)from rfl]
  by_cases hk:k=f
  ·rw[if_pos hk,DC,DC];omega
  ·rw[if_neg hk,DC,DC];omega
theorem hJ.some_of {v:V} {o:Option De} (r:hJ (some v) o):∃u,o=some u/\aZ v u:=by
 cases o with
 |none=>exact(show False from r).elim
 |some u=>exact⟨u,rfl,r⟩
theorem hJ.none_of {o:Option De} (r:hJ none o):o=none:=by
 cases o with
 |none=>rfl
 |some u=>exact(show False from r).elim
theorem sZ {v:V} {u:De} (r:aZ v u):IV u=true:=by
 cases v with
 |non=>cases (show u=E3 from r);rfl
 |bl b=>cases (show u=HK b from r);rfl
 |int i=>obtain⟨t,e⟩:=(show ∃t,u=Fj i t from r);cases e;rfl
 |str x=>obtain⟨t,e⟩:=(show ∃t,u=Gh x t from r);cases e;rfl
 |byt b=>obtain⟨t,e⟩:=(show ∃t,u=JB b t from r);cases e;rfl
 |flt b=>obtain⟨t,e⟩:=(show ∃t,u=IQ b t from r);cases e;rfl
 |ref a=>cases (show u=DL a from r);rfl
 |ty n=>cases (show u=Fb n from r);rfl
section
variable {P:Dv} {w:DE} {H H':Hp} {h h':DB} {a C dx:Dg} {fs Mf:List (Df×V)}
theorem lq (hok:h_ P w H h) (e:H a=some (.ins C dx fs)):∃mA,qA h a dx C mA/\(∀f,hJ (fs.lookup f) (mA f))/\Ig mA (fs.map (·.1))/\fs.length<=1000/\H dx=some (.own a):=by
 obtain⟨d,z,ne,ob,mA,n,r,q⟩:=(show bd P w H h a (.ins C dx fs)from hok a _ e)
 exact⟨mA,⟨ob,n,ne⟩,r,q,z,d⟩
end
structure pA (K:Dd) (C:Dg):Prop where
 pg:EU K C Io=true
 hd:E_ K C=true
 po:Fw K C=true
 sa:Ds K (.ref C) "__setattr__"=some (some (.builtin "object.__setattr__"))
theorem pA.get {K:Dd} {C:Dg} (c:pA K C) (f:Df):EU K C f=true:=c.pg
def cb (K:Dd) (C:Dg) (f:Df):Prop:=Ds K (.ref C) f=some none
theorem cb.taker {K:Dd} {C:Dg} {f:Df} (n:cb K C f):Hq K C f=some none:=by
 unfold Hq
 rw[show Ds K (.ref C) f=some none from n]
 rfl
structure qB (K:Dd) (C:Dg) (m:Df) (f:Dg):Prop where
 at_:Ds K (.ref C) m=some (some (.ref f))
 fn:Gr K (.ref f)=true
 kp:D_ K (.ref f)=true
section
variable {X:Cx} {JD:List (Dg×DP)} {σ:St} {H:Hp} {s:Dh} {a C dx:Dg} {fs:List (Df×V)} {f:Df} {v:V} {A:DI} {E:De->Dh->Prop}
theorem qC {b:Bool} {Q:De->Dh->Prop} (I:au X JD σ H s) (e:H a=some (.ins C dx fs)) (c:pA X.K C) (n:cb X.K C f) (l:fs.lookup f=some v)
  (h:∀u s',au X JD σ H s'->aZ v u->Q u s'):Du (Dx X.prog X.w) A (getAttr (.ref a) f b) Q E s:=by
 obtain⟨mA,O,r,_,_,_⟩:=lq I.hok e
 obtain⟨u,hu,ru⟩:=hJ.some_of (v:=v) (o:=mA f) (by rw[<-l];exact r f)
 exact wM I.kIn O (c.get f) c.hd n hu (sZ ru) (h u _ (I.tok _) ru)
theorem iX {m:Df} {g:Dg} {pl:Gd Bool} {Q:De×List De->Dh->Prop} (I:au X JD σ H s) (e:H a=some (.ins C dx fs)) (c:pA X.K C) (k:qB X.K C m g) (l:fs.lookup m=none)
  (h:Q (.ref g,[.ref a]) s):Du (Dx X.prog X.w) A (FI (.ref a) m pl) Q E s:=by
 obtain⟨mA,O,r,_,_,_⟩:=lq I.hok e
 have hn:mA m=none:=hJ.none_of (by rw[<-l];exact r m)
 exact uJ I.kIn O (c.get m) k.at_ k.fn hn h
theorem lK {y:V} {u:De} {Q:Unit->Dh->Prop} (I:au X JD σ H s) (e:H a=some (.ins C dx fs)) (c:pA X.K C) (n:cb X.K C f) (hl:fs.length<1000) (ry:aZ y u)
  (h:∀s',au X JD σ (a_ H a (.ins C dx (et f y fs))) s'->Q () s'):Du (Dx X.prog X.w) A (setAttr (.ref a) f u) Q E s:=by
 obtain⟨mA,O,r,wi,_,ho⟩:=lq I.hok e
 have hz:(fs.map (·.1)).length<=sizeLine:=by rw[Dl,EB];omega
 refine wN I.kIn O c.sa c.po n.taker c.hd wi hz λh' O' sb=>h _ ?_
 have hd:∃o,h'.get? dx=some o:=let ⟨o,_,_,e',_⟩:=O'.ns;⟨o,e'⟩
 refine I.write (x:=a) (e:=dx) (by rw[e];exact Fp) (.inr ho) (λb q hb z=>(sb.2 b hb).trans z) hd ?_
 refine⟨by rw[ai O.ne];exact ho,?_,O.ne,O'.obj,_,O'.ns,λg=> ?_,λg hg=> ?_⟩
 ·have:=kJ f y fs;omega
 ·show hJ ((et f y fs).lookup g) (if g=f then some u else mA g)
  rw[bE]
  by_cases q:g=f
  ·rw[if_pos q,if_pos q];exact ry
  ·rw[if_neg q,if_neg q];exact r g
 ·by_cases q:g=f
  ·rw[q];exact(jX f y fs).1
  ·refine(jX f y fs).2 g (wi g λz=>hg ?_)
   show (if g=f then some u else mA g)=none
   rw[if_neg q];exact z
theorem au.made (I:au X JD σ H s):au X JD σ (a_ (a_ H s.heap.objs.size (.own (s.heap.objs.size+1))) (s.heap.objs.size+1) (.ins C s.heap.objs.size []))
  {s with heap:=(s.heap.push Es).push (EG C s.heap.objs.size)}:=by
 have e1:(s.heap.push Es).get? s.heap.objs.size=some Es:=DT s.heap rfl
 have e2:((s.heap.push Es).push (EG C s.heap.objs.size)).get? (s.heap.objs.size+1)=some (EG C s.heap.objs.size):=by
  have:=DT (s.heap.push Es) (o:=EG C s.heap.objs.size) rfl
  rwa [FC]at this
 have e3:(s.heap.push Es).Ns s.heap.objs.size (λ_=>none):=⟨Es,#[],_,e1,rfl,(λe he=>absurd he (by simp)),λ_=>rfl⟩
 have I1:=I.laid (a:=s.heap.objs.size) (o:= .own (s.heap.objs.size+1)) (h':=s.heap.push Es) (t':=s.toks) (λb u q=>Dp _ q) (DK _) ⟨_,e1⟩
 refine I1.laid (a:=s.heap.objs.size+1) (o:= .ins C s.heap.objs.size []) (t':=s.toks) (λb u q=>Dp _ q) (Hc (FC _ _)) ?_
 have ne:s.heap.objs.size≠s.heap.objs.size+1:=DV (Hd _)
 refine⟨by rw[ai ne,ar],Ew _,ne,e2,λ_=>none,(Heap.Ns1.of_empty e3).at λo q=>Dp _ q,λ_=>Fp,λy hy=>absurd rfl hy⟩
theorem wO {prog:Dv} {w:DE} {env:EF} {e:Dn} {f:Df} {pos:DY} {s:Dh} {Q:De->Dh->Prop} (hb:Em e f env (DH e env)=DH e env)
  (h:Du (Dx prog w) A (DH e env) (λo s₁=>Du (Dx prog w) A (getAttr o f true) Q E s₁) E s):Du (Dx prog w) A (DH (.Attribute e f pos) env) Q E s:=
 Attribute_any_ h (by rw[arm_eval_Attribute,hb])
end
def BX (K:Dd) (ta:TE) (f:Df):TE:=λσ H Q=>ta σ H λx H1=>∃a C dx fs v,x= .ref a/\H1 a=some (.ins C dx fs)/\pA K C/\cb K C f/\fs.lookup f=some v/\Q v H1
def BY (K:Dd) (ta tv:TE) (f:Df):TS:=λD σ H=>tv σ H λy H1=>ta σ H1 λx H2=>∃a C dx fs,x= .ref a/\H2 a=some (.ins C dx fs)/\pA K C/\cb K C f/\fs.length<1000/\
 D.nx σ (a_ H2 a (.ins C dx (et f y fs)))
section
variable {X:Cx} {o e value:Dn} {f:Df} {pos Kk Q1:DY} {ta tv:TE}
theorem lL (he:PE X e ta) (hb:Em e f X.env (DH e X.env)=DH e X.env):PE X (.Attribute e f pos) (BX X.K ta f):=by
 intro JD s σ H Q I h
 refine wO hb (cn (he JD s σ H _ I h) λu s1 z_=> ?_)
 obtain⟨x,H1,I1,rx,a,C,dx,fs,v,ex,ea,c,n,l,q⟩:=z_
 subst ex
 obtain rfl:u=DL a:=rx
 exact qC I1 ea c n l λu' s2 I2 ru=>⟨v,H1,I2,ru,q⟩
theorem yY (ha:PE X o ta) (hv:PE X value tv) (hs:Ei value (some (.Attribute o f Kk)) pos.line X.env=pure false):PS X (.Assign [.Attribute o f Kk] value pos) (BY X.K ta tv f):=by
 intro JD s σ H D I h
 refine Gk (cn (hv JD s σ H _ I h) λu s1 ⟨y,H1,I1,ry,q⟩=>cn (ha JD s1 σ H1 _ I1 q) λov s2 z_=> ?_) hs
 obtain⟨x,H2,I2,rx,a,C,dx,fs,ex,ea,c,n,l,q2⟩:=z_
 subst ex
 obtain rfl:ov=DL a:=rx
 exact lK I2 ea c n l ry λs3 I3=>⟨σ,_,I3,q2⟩
theorem yi {pl:Gd Bool} {m:Df} {JV:DY} {args:List Dn} {JD:List (Dg×DP)} {s:Dh} {σ:St} {H:Hp} {Q:De->Dh->Prop} {te:TE} (he:PE X e te) (I:au X JD σ H s)
  (h:te σ H λx H1=>∃a C dx fs g,x= .ref a/\H1 a=some (.ins C dx fs)/\pA X.K C/\qB X.K C m g/\fs.lookup m=none/\
   ∀s1,au X JD σ H1 s1->Du (Dx X.prog X.w) X.A (Gf pos (.ref g) [.ref a] (DX pos (Di args X.env)) (FK pos (EV [] X.env))) Q X.xe s1)
  (ht:DH (.Call (.Attribute e m JV) args [] pos) X.env=(do
   let ov<-DH e X.env
   FU JV.atName
   let (f,first)<-FV [ov] (FI ov m pl)
   Gf pos f first (DX pos (Di args X.env)) (FK pos (EV [] X.env)))):
  Du (Dx X.prog X.w) X.A (DH (.Call (.Attribute e m JV) args [] pos) X.env) Q X.xe s:=by
 refine Gi (pl:=pl) (cn (he JD s σ H _ I h) λu s1 z_=> ?_) ht
 obtain⟨x,H1,I1,rx,a,C,dx,fs,g,ex,ea,c,k,l,q⟩:=z_
 subst ex
 obtain rfl:u=DL a:=rx
 exact iX I1 ea c k l (q s1 I1)
end
section
variable {X:Cx} {JD:List (Dg×DP)} {σ:St} {H:Hp} {s:Dh} {A:DI} {E:De->Dh->Prop} {Q:De->Dh->Prop} {c:De} {b:Bool}
inductive jl (K:Dd) (H:Hp):V->De->Prop where
 |non:jl K H .non (.type "NoneType")
 |bl (x:Bool):jl K H (.bl x) (.type "bool")
 |int (i:Int):jl K H (.int i) (.type "int")
 |str (x:Df):jl K H (.str x) (.type "str")
 |flt (x:UInt64):jl K H (.flt x) (.type "float")
 |lst {a:Dg} {xs:List V} (e:H a=some (.lst xs)):jl K H (.ref a) (.type "list")
 |frz {a:Dg} {o:DP} {xs:List V} (e:H a=some (.frz o (.lst xs))):jl K H (.ref a) (.type "list")
 |tup {a:Dg} {xs:List V} (e:H a=some (.tup xs)):jl K H (.ref a) (.type "tuple")
 |dK {a:Dg} {kvs:List (bR×V)} (e:H a=some (.dK kvs)):jl K H (.ref a) (.type "dict")
 |dT {a:Dg} {kvs:List (List bR×V)} (e:H a=some (.dT kvs)):jl K H (.ref a) (.type "dict")
 |ins {a C dx:Dg} {fs:List (Df×V)} (e:H a=some (.ins C dx fs)) (cl:pA K C) (ha:Ds K (.ref C) "__class__"=some (some (.builtin "object.__class__")))
   (hn:Fx K (.builtin "object.__class__") "__get__"=some (some (.builtin "getset_descriptor.__get__"))) (R0:F_ K (.builtin "object.__class__")=some true)
   (hm:DR K C (.type "object")=some true):jl K H (.ref a) (.ref C)
theorem s_ {x:V} {u t:De} (I:au X JD σ H s) (rx:aZ x u) (ty:jl X.K H x t) (e:Ea X.K t c=some b) (h:∀tk,Q (.bool b) {s with toks:=tk}):
  Du (Dx X.prog X.w) A (call (.builtin "isinstance") [u,c]) Q E s:=by
 cases ty with
 |non=>cases (show u=E3 from rx);exact Ec PySem.W.kitx_none I.kIn Fp e (λz=>nomatch z) h
 |bl y=>cases (show u=HK y from rx);exact Ec PySem.W.kitx_bool I.kIn Fp e (λz=>nomatch z) h
 |int i=>obtain⟨t,q⟩:=(show ∃t,u=Fj i t from rx);cases q;exact Ec PySem.W.kitx_int I.kIn Fp e (λz=>nomatch z) h
 |str y=>obtain⟨t,q⟩:=(show ∃t,u=Gh y t from rx);cases q;exact Ec PySem.W.kitx_str I.kIn Fp e (λz=>nomatch z) h
 |flt y=>obtain⟨t,q⟩:=(show ∃t,u=IQ y t from rx);cases q;exact Ec PySem.W.kitx_float I.kIn Fp e (λz=>nomatch z) h
 | @lst a xs ea=>
  cases (show u=DL a from rx)
  obtain⟨_,_,n,_,h1⟩:=(show bd X.prog X.w H s.heap a (.lst xs)from I.hok a _ ea)
  exact Ec II I.kIn ⟨_,h1,rfl⟩ e (λz=>nomatch z) h
 | @frz a ob xs ea=>
  cases (show u=DL a from rx)
  obtain⟨_,_,_,n,_,h1⟩:=(show bd X.prog X.w H s.heap a (.frz ob (.lst xs))from I.hok a _ ea)
  exact Ec II I.kIn ⟨_,h1,rfl⟩ e (λz=>nomatch z) h
 | @tup a xs ea=>
  cases (show u=DL a from rx)
  obtain⟨_,_,_,p⟩:=(show bd X.prog X.w H s.heap a (.tup xs)from I.hok a _ ea)
  obtain⟨o,h1,h2,_⟩:=p
  exact Ec PySem.W.kitx_tuple I.kIn ⟨o,h1,h2⟩ e (λz=>nomatch z) h
 | @dK a kvs ea=>
  cases (show u=DL a from rx)
  obtain⟨_,_,vs,_,p⟩:=(show bd X.prog X.w H s.heap a (.dK kvs)from I.hok a _ ea)
  obtain⟨o,es,ep,h1,h2,_⟩:=p
  exact Ec IJ I.kIn ⟨o,h1,h2.1⟩ e (λz=>nomatch z) h
 | @dT a kvs ea=>
  cases (show u=DL a from rx)
  obtain⟨_,_,xs,_,o,es,ep,h1,h2,_⟩:=(show bd X.prog X.w H s.heap a (.dT kvs)from I.hok a _ ea)
  exact Ec IJ I.kIn ⟨o,h1,h2.1⟩ e (λz=>nomatch z) h
 | @ins a C dx fs ea cl ha hn R0 hm=>
  cases (show u=DL a from rx)
  obtain⟨mA,O,_⟩:=lq I.hok ea
  obtain⟨od,J,_⟩:=O.look
  exact Ec (PySem.W.kitx_own (cl.get _) cl.hd ha hn R0 hm) I.kIn J e (λz=>nomatch z) h
end
end L2
namespace L2
open PySem PySem.Spec PyProof.Rows
structure br (k:Nat) (A:DI):Prop where
 hd:A.handled=none
 dp:A.depth+3*k+5<recursionLimit
 un:A.units+16*k+200<G0
theorem br.mono {j k:Nat} {A:DI} (r:br k A) (h:j<=k):br j A:=⟨r.hd,by have:=r.dp;omega,by have:=r.un;omega⟩
theorem br.deeper {k:Nat} {A:DI} (r:br (k+1) A) (env:EF):br k (A.deeper env):=
 ⟨r.hd,by have:=r.dp;show A.depth+1+3*k+5<_;omega,by have:=r.un;show A.units+3+16*k+200<_;omega⟩
theorem qD {A:DI} {C:Dg} {us:List De} {kw:List (Df×De)}:(A.under (.builtin "type.__call__" ⟨.ref C::us,kw⟩)).depth=A.depth+1:=by
 first|rfl|simp[Ip,Code.weight,Code.isCreation,Code.isGuard,Code.isCaller,Code.frames,Iq,guardIds]
theorem qE {A:DI} {C:Dg} {us:List De} {kw:List (Df×De)}:(A.under (.builtin "type.__call__" ⟨.ref C::us,kw⟩)).units=A.units+1:=by
 first|rfl|simp[Ip,Code.cUnits,Code.frames,Iq]
theorem br.make {k:Nat} {A:DI} (r:br (k+1) A) (C:Dg) (us:List De) (kw:List (Df×De)):br k (A.under (.builtin "type.__call__" ⟨.ref C::us,kw⟩)):=
 ⟨r.hd,by have:=r.dp;rw[qD];omega,by have:=r.un;rw[qE];omega⟩
theorem br.depth {k:Nat} {A:DI} (r:br k A):A.depth<recursionLimit:=by have:=r.dp;omega
theorem br.units {k:Nat} {A:DI} (r:br k A):A.units+64<G0:=by have:=r.un;omega
def Az:TA:=λ_ H Q=>Q [] H
def yj (ta:TE) (tr:TA):TA:=λσ H Q=>ta σ H λx H1=>tr σ H1 λxs H2=>Q (x::xs) H2
section
variable {X:Cx} {e:Dn} {es:List Dn} {te:TE} {t:TA} {pos:DY}
theorem gI:PA X [] Az:=λ_ _ _ _ H Q I h=>IK ⟨[],H,I, .nil,h⟩
theorem cR (ha:PE X e te) (hr:PA X es t) (hs:Di (e::es) X.env=(false,DH e X.env)::Di es X.env:=by rfl):PA X (e::es) (yj te t):=by
 intro pos JD s σ H Q I h
 rw[hs]
 show Du _ _ (Jl ((false,DH e X.env)::DX pos (Di es X.env))) _ _ s
 refine Ir (cn (ha JD s σ H _ I h) λu s1 z_=> ?_)
 obtain⟨x,H1,I1,r1,q1⟩:=z_
 exact cn (hr pos JD s1 σ H1 _ I1 q1) λus s2 ⟨xs,H2,I2,r2,q2⟩=>⟨x::xs,H2,I2, .cons r1 r2,q2⟩
def BZ (t:TA):TE:=λσ H Q=>t σ H λxs H1=>xs.length<=sizeLine/\∀p,H1 p=none->Q (.ref p) (a_ H1 p (.tup xs))
def B_ (t:TA):TE:=λσ H Q=>t σ H λxs H1=>xs.length<=sizeLine/\∀p,H1 p=none->Q (.ref p) (a_ H1 p (.lst xs))
theorem yZ {x1} (h:PA X es t):PE X (.Tuple es x1 pos) (BZ t):=by
 intro JD s σ H Q I hq
 refine wpAny_Tuple_spliced (cn (h pos JD s σ H _ I hq) λus s1 ⟨xs,H1,I1,r,z,q⟩=>⟨by rw[<-r.length];exact z,?_⟩)
 have hf:H1 s1.heap.objs.size=none:=I1.hok.fresh (DK _)
 refine⟨.ref s1.heap.objs.size,a_ H1 s1.heap.objs.size (.tup xs),I1.laid (t':=s1.toks) (λb u e=>Dp _ e) (DK _) ?_,rfl,q _ hf⟩
 exact⟨z,us,r,⟨_,DT _ rfl,rfl,_,rfl,rfl⟩⟩
theorem qF (h:PA X es t):PE X (.List es pos) (B_ t):=by
 intro JD s σ H Q I hq
 refine wpAny_List_spliced (cn (h pos JD s σ H _ I hq) λus s1 ⟨xs,H1,I1,r,z,q⟩=>⟨by rw[<-r.length];exact z,?_⟩)
 have hf:H1 s1.heap.objs.size=none:=I1.hok.fresh (DK _)
 refine⟨.ref s1.heap.objs.size,a_ H1 s1.heap.objs.size (.lst xs),I1.laid (t':=s1.toks) (λb u e=>Dp _ e) (DK _) ?_,rfl,q _ hf⟩
 exact⟨z,us,0,r,DT _ rfl⟩
end
abbrev Sp:=List V->Hp->VK->XK->Prop
abbrev qG:=List EF->Hp->Dh->XK->De->Dh->Prop
structure qH (P:Dv) (w:DE) (K:Dd) (mg:Df->Option De) (base:DB) (A:DI) (outer:List EF) (s:Dh) (H:Hp):Prop where
 frames:A.frames=some outer
 mod:Mod K mg base
 bs:∀b o,base.get? b=some o->s.heap.get? b=some o/\H b=none
 bsz:base.objs.size<=s.heap.objs.size
 funs:s.heap.FunFrames base outer
 frf:∀b∈lm outer,H b=none
 hok:h_ P w H s.heap
 bare:G5 s.gens
def CE (outer:List EF) (P:Dv) (w:DE) (H:Hp) (s:Dh) (Q:VK) (u:De) (s':Dh):Prop:=
 ∃v H',s'.os=s.os/\G5 s'.gens/\Un (lm outer) [] H H' s.heap s'.heap/\h_ P w H' s'.heap/\aZ v u/\Q v H'
def CR (CX:qG) (outer:List EF) (P:Dv) (w:DE) (H:Hp) (s:Dh) (Q:VK) (E:XK) (r:Im) (s':Dh):Prop:=
 match r with
 | .ok (.ret u)=>CE outer P w H s Q u s'
 | .ok _=>False
 | .error e=>CX outer H s E e s'
structure cV (P:Dv) (w:DE) (K:Dd) (mg:Df->Option De) (base:DB) (CX:qG) (k:Nat) (f:Dg) (fd:Eg) (ps:List Df) (sp:Sp):Prop where
 len:∀vs H Q E,sp vs H Q E->vs.length=ps.length
 run:∀(A:DI) (outer:List EF) (s:Dh) (H:Hp) (args:Args) (us:List De) (vs:List V) (Q:VK) (E:XK),br k A->qH P w K mg base A outer s H->HE s fd args (ps.zip us)->aF vs us->sp vs H Q E->
  G6 (Dx P w) A (.call (.ref f) args) (CR CX outer P w H s Q E) s
theorem cV.mono {P:Dv} {w:DE} {K:Dd} {mg:Df->Option De} {base:DB} {CX:qG} {j k:Nat} {f:Dg} {fd:Eg} {ps:List Df} {sp:Sp} (F:cV P w K mg base CX j f fd ps sp) (h:j<=k):
  cV P w K mg base CX k f fd ps sp:=⟨F.len,λA outer s H args us vs Q E hr=>F.run A outer s H args us vs Q E (hr.mono h)⟩
theorem cV.imp {P:Dv} {w:DE} {K:Dd} {mg:Df->Option De} {base:DB} {CX:qG} {k:Nat} {f:Dg} {fd:Eg} {ps:List Df} {sp R1:Sp} (F:cV P w K mg base CX k f fd ps sp)
  (h:∀vs H Q E,R1 vs H Q E->sp vs H Q E):cV P w K mg base CX k f fd ps R1:=
 ⟨λvs H Q E q=>F.len vs H Q E (h _ _ _ _ q),λA outer s H args us vs Q E hr he hb hv hs=>F.run A outer s H args us vs Q E hr he hb hv (h _ _ _ _ hs)⟩
theorem qH.make {P:Dv} {w:DE} {K:Dd} {mg:Df->Option De} {base:DB} {A:DI} {outer:List EF} {s:Dh} {H:Hp} (e:qH P w K mg base A outer s H) (C:Dg) (us:List De) (kw:List (Df×De)):
  qH P w K mg base (A.under (.builtin "type.__call__" ⟨.ref C::us,kw⟩)) outer s H:=⟨by first|exact e.frames|(simpa[Ip,Code.envs,Iq,pushEnvs]using e.frames),e.mod,e.bs,e.bsz,e.funs,e.frf,e.hok,e.bare⟩
section
variable {X:Cx} {JD:List (Dg×DP)} {σ:St} {H:Hp} {s s':Dh}
theorem au.env0 (I:au X JD σ H s):qH X.prog X.w X.K X.mg X.base X.A X.stack s H:=
 ⟨I.ok.frames,I.ok.mod,I.bs,E1 I.ok.bsz I.sz,I.stack,I.stkFree,I.hok,I.bare⟩
theorem au.after {Q:VK} {u:De} (I:au X JD σ H s) (h:CE X.stack X.prog X.w H s Q u s'):EP X JD σ Q u s':=by
 obtain⟨v,H',os,bare,un,hok,r,q⟩:=h
 obtain⟨hh,g,d,t,Q2⟩:=s'
 obtain rfl:Q2=s.os:=os
 exact⟨v,H',I.call (h':=hh) (g':=g) (d':=d) (t':=t) (ch:=[]) un hok bare (λb z=>absurd z (by simp)),r,q⟩
end
def yk (sp:Sp) (M5:List V) (E:St->XK) (t:TA):TE:=λσ H Q=>t σ H λvs H1=>sp (vs++M5) H1 Q (E σ)
def uL (C:Dg) (m:Df) (sp:Sp) (M5:List V) (E:St->XK) (ta:TE) (t:TA):TE:=λσ H Q=>ta σ H λx H1=>∃a dx fs,x= .ref a/\H1 a=some (.ins C dx fs)/\fs.lookup m=none/\
 t σ H1 λvs H2=>sp (x::(vs++M5)) H2 Q (E σ)
def AA (C:Dg) (sp:Sp) (M5:List V) (E:St->XK) (t:TA):TE:=λσ H Q=>t σ H λvs H1=>∀x dx,H1 x=none->H1 dx=none->dx≠x->
 sp (.ref x::(vs++M5)) (a_ (a_ H1 dx (.own x)) x (.ins C dx [])) (λv H2=>v= .non/\Q (.ref x) H2) (E σ)
def dg (K:Dd) (fd:Eg) (ps:List Df) (ds:List De):Prop:=
 ∀(s:Dh) (us:List De),K.In s.heap->(us++ds).length=ps.length->HE s fd ⟨us,[]⟩ (ps.zip (us++ds))
theorem dg.all {K:Dd} {fd:Eg} {ps:List Df} (h:∀us:List De,us.length=ps.length->EY fd ⟨us,[]⟩=pure (ps.zip us)):dg K fd ps []:=λs us _ hl=>by
 rw[Ed]at hl ⊢
 exact .of_eq (h us hl)
def gJ (CX:qG) (X:Cx) (E:St->XK):Prop:=∀(JD:List (Dg×DP)) (σ:St) (H:Hp) (s:Dh) (e:De) (s':Dh),au X JD σ H s->CX X.stack H s (E σ) e s'->X.xe e s'
section
variable {X:Cx} {CX:qG} {k:Nat} {f C:Dg} {fd:Eg} {ps:List Df} {sp:Sp} {M5:List V} {ds:List De} {E:St->XK} {x m:Df} {p pos JV:DY} {e o:Dn} {es:List Dn} {ta:TE} {t:TA}
theorem qI {JD:List (Dg×DP)} {σ:St} {H:Hp} {s:Dh} {Q:VK} {us:List De} {vs:List V} (F:cV X.prog X.w X.K X.mg X.base CX k f fd ps sp) (hr:br k X.A) (hb:dg X.K fd ps ds) (hd:aF M5 ds) (hx:gJ CX X E)
  (I:au X JD σ H s) (r:aF vs us) (h:sp (vs++M5) H Q (E σ)):Du (Dx X.prog X.w) X.A (call (.ref f) us) (EP X JD σ Q) X.xe s:=by
 have r2:aF (vs++M5) (us++ds):=r.append hd
 have hl:(us++ds).length=ps.length:=by rw[<-r2.length];exact F.len _ _ _ _ h
 refine GS (G2 (F.run X.A X.stack s H ⟨us,[]⟩ (us++ds) (vs++M5) Q (E σ) hr I.env0 (hb s us I.kIn hl) r2 h) λr s' hq=> ?_)
 cases r with
 |error e=>exact hx JD σ H s e s' I hq
 |ok fl=>
  cases fl with
  |ret u=>exact I.after hq
  |next=>exact Et hq
  |brk=>exact Et hq
  |cont=>exact Et hq
theorem o4 (F:cV X.prog X.w X.K X.mg X.base CX k f fd ps sp) (hr:br k X.A) (hg:Gl X x) (hm:X.mg x=some (.ref f)) (hk:D_ X.K (.ref f)=true) (hb:dg X.K fd ps ds) (hd:aF M5 ds) (hx:gJ CX X E)
  (ha:PA X (e::es) t) (L4:(x==("__debug__":Df))=false:=by decide) (he:Di (e::es) X.env=(false,DH e X.env)::Di es X.env:=by rfl) (KL:(DX pos (Di es X.env)).any (·.1)=false:=by rfl):
  PE X (.Call (.Name x p) (e::es) [] pos) (yk sp M5 E t):=by
 intro JD s σ H Q I h
 refine EW (ji I hg hm ?_ L4)
 refine GC (h₀:=X.base) I.ok.mod.kin hk (cn (ha pos JD s σ H _ I h) λus s1 ⟨vs,H1,I1,r,q⟩=>⟨I1.kIn,?_⟩) he KL
 exact qI F hr hb hd hx I1 r q
theorem rS {pl:Gd Bool} (he:PE X o ta) (c:pA X.K C) (hm:qB X.K C m f) (F:cV X.prog X.w X.K X.mg X.base CX k f fd ps sp) (hr:br k X.A) (hb:dg X.K fd ps ds) (hd:aF M5 ds) (hx:gJ CX X E) (ha:PA X (e::es) t)
  (NL:Di (e::es) X.env=(false,DH e X.env)::Di es X.env:=by rfl) (KL:(DX pos (Di es X.env)).any (·.1)=false:=by rfl)
  (ht:DH (.Call (.Attribute o m JV) (e::es) [] pos) X.env=(do
   let ov<-DH o X.env
   FU JV.atName
   let (f,first)<-FV [ov] (FI ov m pl)
   Gf pos f first (DX pos (Di (e::es) X.env)) (FK pos (EV [] X.env))):=by rfl):
  PE X (.Call (.Attribute o m JV) (e::es) [] pos) (uL C m sp M5 E ta t):=by
 intro JD s σ H Q I h
 refine Gi (pl:=pl) (cn (he JD s σ H _ I h) λu s1 z_=> ?_) ht
 obtain⟨x,H1,I1,rx,a,dx,fs,ex,ea,l,q⟩:=z_
 subst ex
 obtain rfl:u=DL a:=rx
 refine iX I1 ea c hm l ?_
 refine GC (first:=[.ref a]) (h₀:=X.base) I.ok.mod.kin hm.kp (cn (ha pos JD s1 σ H1 _ I1 q) λus s2 ⟨vs,H2,I2,r,q2⟩=>⟨I2.kIn,?_⟩) NL KL
 exact qI (us:= .ref a::us) (vs:= .ref a::vs) F hr hb hd hx I2 (.cons rfl r) q2
theorem pB {pl:Gd Bool} (he:PE X o ta) (c:pA X.K C) (hm:qB X.K C m f) (F:cV X.prog X.w X.K X.mg X.base CX k f fd ps sp) (hr:br k X.A) (hb:dg X.K fd ps ds) (hd:aF M5 ds) (hx:gJ CX X E)
  (ht:DH (.Call (.Attribute o m JV) [] [] pos) X.env=(do
   let ov<-DH o X.env
   FU JV.atName
   let (f,first)<-FV [ov] (FI ov m pl)
   Gf pos f first (DX pos (Di [] X.env)) (FK pos (EV [] X.env))):=by rfl):
  PE X (.Call (.Attribute o m JV) [] [] pos) (uL C m sp M5 E ta Az):=by
 intro JD s σ H Q I h
 refine Gi (pl:=pl) (cn (he JD s σ H _ I h) λu s1 z_=> ?_) ht
 obtain⟨x,H1,I1,rx,a,dx,fs,ex,ea,l,q⟩:=z_
 subst ex
 obtain rfl:u=DL a:=rx
 refine iX I1 ea c hm l ?_
 exact PySem.W.callWith_K0 (first:=[.ref a]) I1.kIn hm.kp (qI (us:=[.ref a]) (vs:=[.ref a]) F hr hb hd hx I1 (.cons rfl .nil) q)
structure Mk (K:Dd) (C f:Dg):Prop where
 makes:Fo K C=true
 init:Ds K (.ref C) "__init__"=some (some (.ref f))
 fn:Gr K (.ref f)=true
 kp:D_ K (.ref C)=true
theorem uM {JD:List (Dg×DP)} {σ:St} {H:Hp} {s:Dh} {Q:VK} {us:List De} {vs:List V} (M:Mk X.K C f) (F:cV X.prog X.w X.K X.mg X.base CX k f fd ps sp) (hr:br (k+1) X.A) (hb:dg X.K fd ps ds) (hd:aF M5 ds)
  (hx:gJ CX X E) (I:au X JD σ H s) (r:aF vs us)
  (h:∀x dx,H x=none->H dx=none->dx≠x->sp (.ref x::(vs++M5)) (a_ (a_ H dx (.own x)) x (.ins C dx [])) (λv H2=>v= .non/\Q (.ref x) H2) (E σ)):
  Du (Dx X.prog X.w) X.A (call (.ref C) us) (EP X JD σ Q) X.xe s:=by
 have hq:=h (s.heap.objs.size+1) s.heap.objs.size (I.hok.fresh (IS _)) (I.hok.fresh (DK _)) (DV (Hd _))
 have I2:=au.made (C:=C) I
 have r2:aF (V.ref (s.heap.objs.size+1)::(vs++M5)) (DL (s.heap.objs.size+1)::(us++ds)):= .cons rfl (r.append hd)
 have hl:(DL (s.heap.objs.size+1)::us++ds).length=ps.length:=by
  have e:=r2.length
  rw[F.len _ _ _ _ hq]at e
  exact e.symm
 refine GS (uK (f:=f) I.kIn M.makes M.init (beq_iff_eq.mp M.fn) (G2 (F.run _ X.stack _ _ ⟨DL (s.heap.objs.size+1)::us,[]⟩ (DL (s.heap.objs.size+1)::(us++ds)) _ _ (E σ) (hr.make C us [])
  (I2.env0.make C us []) (hb _ (DL (s.heap.objs.size+1)::us) I2.kIn hl) r2 hq) λr s' OS=> ?_))
 cases r with
 |error e=>exact hx JD σ _ _ e s' I2 OS
 |ok fl=>
  cases fl with
  |ret u=>
   obtain⟨v,H',I3,rv,ev,q3⟩:=I2.after OS
   subst ev
   exact⟨rv,⟨V.ref (s.heap.objs.size+1),H',I3,rfl,q3⟩⟩
  |next=>exact Et OS
  |brk=>exact Et OS
  |cont=>exact Et OS
theorem o5 (M:Mk X.K C f) (F:cV X.prog X.w X.K X.mg X.base CX k f fd ps sp) (hr:br (k+1) X.A) (hg:Gl X x) (hm:X.mg x=some (.ref C)) (hb:dg X.K fd ps ds) (hd:aF M5 ds) (hx:gJ CX X E)
  (ha:PA X (e::es) t) (L4:(x==("__debug__":Df))=false:=by decide) (he:Di (e::es) X.env=(false,DH e X.env)::Di es X.env:=by rfl) (KL:(DX pos (Di es X.env)).any (·.1)=false:=by rfl):
  PE X (.Call (.Name x p) (e::es) [] pos) (AA C sp M5 E t):=by
 intro JD s σ H Q I h
 refine EW (ji I hg hm ?_ L4)
 refine GC (h₀:=X.base) I.ok.mod.kin M.kp (cn (ha pos JD s σ H _ I h) λus s1 ⟨vs,H1,I1,r,q⟩=>⟨I1.kIn,?_⟩) he KL
 exact uM M F hr hb hd hx I1 r q
end
section
variable {X:Cx} {CX:qG} {k:Nat} {f C:Dg} {fd:Eg} {ps ks:List Df} {sp:Sp} {E:St->XK} {x m:Df} {p pos JV RB:DY} {e o:Dn} {es:List Dn} {Tg:List ID} {te ta:TE} {t tk:TA} {nm:Option Df}
variable {g:List De->List De->List De} {gV:List V->List V->List V}
end
structure aw (N P:List Df) (sc:EO):Prop where
 kind:sc.kind= .function
 co:sc.isCoroutine=false
 gen:sc.isGenerator=false
 nd:N.Nodup
 pre:N.take P.length=P
 par:∀x∈P,sc.names.lookup x=some .local\/sc.names.lookup x=some .cell
 nofree:∀y∈sc.names,y.2≠ .free
theorem ng {kindOf:Df->Option E4} {x:Df}:∀{binds:List (Df×De)} {m:Df->Option De},(∀v,(x,v)∉binds)->HL kindOf binds m x=m x
 |[],_,_=>rfl
 |(n,v)::r,m,h=>by
  unfold HL
  rw[ng λw hw=>h w (Dw _ hw)]
  split
  ·have:x≠n:=by rintro rfl;exact h v Dt
   simp[this]
  ·rfl
theorem nj {kindOf:Df->Option E4} {x:Df}:∀{binds:List (Df×De)} {m:Df->Option De},(∀v,(x,v)∉binds)->HM kindOf binds m x=m x
 |[],_,_=>rfl
 |(n,v)::r,m,h=>by
  unfold HM
  rw[nj λw hw=>h w (Dw _ hw)]
  split
  ·rfl
  ·have:x≠n:=by rintro rfl;exact h v Dt
   simp[this]
theorem nk {kindOf:Df->Option E4} {x:Df} {v:De}:∀{P:List Df} {vs:List De} {i:Nat} {m:Df->Option De},P.Nodup->P[i]? =some x->vs[i]? =some v->kindOf x=some .local->
  HL kindOf (P.zip vs) m x=some v
 |[],_,_,_,_,h,_,_=>by simp at h
 |_::_,[],_,_,_,_,h,_=>by simp at h
 |p::P,w::vs,0,m,nd,h1,h2,hk=>by
  simp at h1 h2;subst h1;subst h2
  show HL kindOf ((p,w)::P.zip vs) m p=_
  unfold HL
  rw[ng λv hv=>(Fq.mp nd).1 (Hr hv).1,if_pos hk]
  simp
 |p::P,w::vs,i+1,m,nd,h1,h2,hk=>by
  show HL kindOf ((p,w)::P.zip vs) m x=_
  unfold HL
  exact nk (i:=i) (Fq.mp nd).2 (by simpa using h1) (by simpa using h2) hk
theorem nl {kindOf:Df->Option E4} {x:Df} {v:De}:∀{P:List Df} {vs:List De} {i:Nat} {m:Df->Option De},P.Nodup->P[i]? =some x->vs[i]? =some v->kindOf x≠some .local->
  HM kindOf (P.zip vs) m x=some v
 |[],_,_,_,_,h,_,_=>by simp at h
 |_::_,[],_,_,_,_,h,_=>by simp at h
 |p::P,w::vs,0,m,nd,h1,h2,hk=>by
  simp at h1 h2;subst h1;subst h2
  show HM kindOf ((p,w)::P.zip vs) m p=_
  unfold HM
  rw[nj λv hv=>(Fq.mp nd).1 (Hr hv).1,if_neg hk]
  simp
 |p::P,w::vs,i+1,m,nd,h1,h2,hk=>by
  show HM kindOf ((p,w)::P.zip vs) m x=_
  unfold HM
  exact nl (i:=i) (Fq.mp nd).2 (by simpa using h1) (by simpa using h2) hk
def cF (N:List Df) (vs:List V):St:=vs.map some++DU (N.length - vs.length) none
def fA (CX:qG) (P:Dv) (w:DE) (K:Dd) (mg:Df->Option De) (base:DB) (N:List Df) (qual:Df) (scope:EO) (f:Dg) (cd:De) (A:DI) (outer:List EF) (s:Dh) (H:Hp) (E:XK):Cx where
 prog:=P
 w:=w
 K:=K
 mg:=mg
 base:=base
 A:=A.deeper (EJ qual scope s.heap.objs.size f cd)
 N:=N
 s₀:=s
 H₀:=H
 env:=EJ qual scope s.heap.objs.size f cd
 outer:=outer
 stack:=EJ qual scope s.heap.objs.size f cd::outer
 ex:=[]
 calm:=true
 fn:=λ_=>true
 pn:=[]
 xe:=λe s'=>Du (Dx P w) (A.deeper (EJ qual scope s.heap.objs.size f cd)) (leaving (EJ qual scope s.heap.objs.size f cd) e) (λ_ OT=>CX outer H s E e OT) (λe' OT=>CX outer H s E e' OT) s'
theorem pC {sc:EO} {n:Nat} {x:Df} (h:sc.names.lookup x=some .cell):∃c,(cellsFrom n sc.names []).lookup x=some c:=by
 have q:=Hv sc.names n [] (.inl h)
 exact Option.isSome_iff_exists.mp q
theorem t4 {CX:qG} {P:Dv} {w:DE} {K:Dd} {mg:Df->Option De} {base:DB} {N ps:List Df} {qual:Df} {scope:EO} {f:Dg} {cd:De} {A:DI} {outer:List EF} {s s1:Dh} {H:Hp} {E:XK} {us:List De} {vs:List V}
  (S:aw N ps scope) (hd:A.handled=none) (e0:qH P w K mg base A outer s H) (hl:vs.length=ps.length) (r:aF vs us)
  (x:InCallC s s.heap.objs.size (HL (EJ qual scope s.heap.objs.size f cd).kindOf (ps.zip us) λ_=>none) (cellsFrom (s.heap.objs.size+1) scope.names []) (HM (EJ qual scope s.heap.objs.size f cd).kindOf (ps.zip us) λ_=>none) s1):
  au (fA CX P w K mg base N qual scope f cd A outer s H E) [] (cF N vs) H s1:=by
 have KL:ps.length<=N.length:=by have:=congrArg IT S.pre;rw[IW]at this;omega
 obtain⟨h1,tk,rfl,hk⟩:=x.done
 have OU:∀b:Dg,b∉(fA CX P w K mg base N qual scope f cd A outer s H E).ex:=λb z=>absurd (show b∈([]:List Dg)from z) (by simp)
 refine⟨⟨e0.mod,S.kind,rfl,rfl,DK _,λy z c h1 h2=> ?_,λy hy=> ?_,λy c _ h=> ?_,λ_=>hd,Around.frames_deeper e0.frames, .inr ⟨rfl,rfl⟩,λb z=>absurd z (OU b),e0.bs,e0.bsz,λb _ _=>OU b,λb z=>absurd z (OU b),e0.funs,e0.frf⟩,
  rfl,e0.bare,Un.kept hk,⟨_,x.toInCall.ns,λi y v h1 h2 h3=> ?_⟩,λy c h=>⟨_,x.cell y c h⟩,e0.hok.fresh (DK _),λy c h=> ?_,λp hp=>absurd (show p∈([]:List (Dg×DP))from hp) (by simp),e0.hok.kept hk,?_⟩
 ·exact name_of_addr x.apart (Fi h1) (Fi h2)
 ·have hy:scope.names.lookup y=some .cell\/scope.names.lookup y=some .free:=hy
  rcases hy with hy|hy
  ·exact pC hy
  ·exact absurd rfl (S.nofree _ (Fi hy))
 ·exact Ij (x.above y c (Fi h))
 ·have hi:i<vs.length:=by
   unfold cF at h2
   by_cases hi:i<vs.length
   ·exact hi
   ·rw[FP (by simpa using hi)]at h2
    rw[ER]at h2
    split at h2<;>cases h2
  have ha:vs[i]? =some v:=by
   unfold cF at h2
   rw[EE (by simpa using hi),DQ]at h2
   cases e:vs[i]? with
   |none=>rw[e]at h2;cases h2
   |some a=>rw[e]at h2;cases h2;rfl
  obtain⟨u,hu,rv⟩:=r.get ha
  have hp:ps[i]? =some y:=by
   rw[<-S.pre,List.getElem?_take_of_lt (by omega)];exact h1
  have R3:ps.Nodup:=by rw[<-S.pre];exact S.nd.sublist (List.take_sublist _ _)
  refine⟨u,rv,?_⟩
  rcases S.par y (Ek hp)with k|k
  ·exact .inl ⟨k,nk R3 hp hu k⟩
  ·obtain⟨c,e⟩:=pC (n:=s.heap.objs.size+1) k
   refine .inr ⟨.inl k,c,e,?_⟩
   have q:=x.cell y c e
   rw[nl R3 hp hu (by show scope.names.lookup y≠_;rw[k];decide)]at q
   exact q
 ·exact e0.hok.fresh (Ij (x.above y c (Fi h)))
 ·unfold cF
  show _=N.length
  rw[E5,Dl,Gj]
  omega
theorem yl {CX:qG} {P:Dv} {w:DE} {K:Dd} {mg:Df->Option De} {base:DB} {k:Nat} {f:Dg} {name qual:Df} {params:Arguments} {body:List DJ} {scope:EO} {dV kV KW pm JK ct oc:De} {an od:Option Dg}
  {M6:Array (Option De)} {N ps:List Df} {sp:Sp} (lk:K.lookup f=some ⟨oc,od, .func (E2 name qual params body scope dV kV KW pm an JK ct),M6⟩) (Lh:Fc K JK qual=true) (S:aw N ps scope)
  (len:∀vs H Q E,sp vs H Q E->vs.length=ps.length)
  (K2:∀(A:DI) (outer:List EF) (s:Dh) (H:Hp) (vs:List V) (Q:VK) (E:XK),br k (A.deeper (EJ qual scope s.heap.objs.size f JK))->sp vs H Q E->
   ∃t,nc (fA CX P w K mg base N qual scope f JK A outer s H E) body t/\t {nx:=λ_ H'=>Q .non H',rt:=Q} (cF N vs) H):
  cV P w K mg base CX (k+1) f (E2 name qual params body scope dV kV KW pm an JK ct) ps sp:=by
 refine⟨len,λA outer s H args us vs Q E hr e0 hb r NM=> ?_⟩
 have hl:=len _ _ _ _ NM
 have KX:K.In s.heap:=e0.mod.kin.keeps λb o e=>(e0.bs b o e).1
 have lim:s.heap.NoLimit:=e0.mod.nolimit.keeps λb o e=>(e0.bs b o e).1
 have OV:∀y∈ps.zip us,scope.names.lookup y.1=some .local\/(scope.names.lookup y.1=some .cell/\((cellsFrom (s.heap.objs.size+1) scope.names []).lookup y.1).isSome=true):=λ⟨n,v⟩ hy=>by
  rcases S.par n (Hr hy).1 with q|q
  ·exact .inl q
  ·exact .inr ⟨q,Hv _ _ _ (.inl q)⟩
 refine codeAny_call_function hr.depth (KX _ _ lk) rfl S.co S.gen rfl (PySem.W.codeRec_of KX Lh) (hb _ _ _ _ ?_)
 refine wpAny_newFunctionEnv_cells S.kind OV λenv he s1 x=> ?_
 subst he
 refine⟨lim.keeps x.toInCall.keep,codeAny_func ?_⟩
 obtain⟨t,ht,hq⟩:=K2 A outer s H vs Q E (hr.deeper _) NM
 have I:au (fA CX P w K mg base N qual scope f JK A outer s H E) [] (cF N vs) H s1:=t4 S hr.hd e0 hl r x
 refine EH (ht [] s1 (cF N vs) H _ I hq) (λfl s' hs=> ?_) λe s' hs=>hs
 have Mg:∀{σ':St} {H':Hp} {v:V} {u:De},au (fA CX P w K mg base N qual scope f JK A outer s H E) [] σ' H' s'->aZ v u->Q v H'->CE outer P w H s Q u s':=
  λ{σ' H' v u} J rv q=>⟨v,H',J.os,J.bare,J.base,J.hok,rv,q⟩
 cases fl with
 |ret u=>
  obtain⟨v,σ',H',J,rv,q⟩:=hs
  exact Mg J rv q
 |next=>
  obtain⟨σ',H',J,q⟩:=hs
  exact Mg (v:=V.non) (u:=E3) J rfl q
 |brk=>
  obtain⟨_,_,_,q⟩:=hs
  exact Et q
 |cont=>
  obtain⟨_,_,_,q⟩:=hs
  exact Et q
end L2
namespace L2
open PySem PySem.Spec PyProof.Rows
section
variable {X:Cx} {x:Df} {p pos:DY} {e:Dn} {es:List Dn} {t:TA} {id T:String} {r:List V->Hp->VK->Prop}
def C1 (r:List V->Hp->VK->Prop) (t:TA):TE:=λσ H Q=>t σ H λvs H1=>r vs H1 Q
theorem jm (hc:d6 X (.builtin id) r) (hg:Gl X x) (hm:X.mg x=none) (hv:DZ x=some (.builtin id)) (ha:PA X (e::es) t) (hn:x≠"__name__":=by decide) (L4:(x==("__debug__":Df))=false:=by decide)
  (he:Di (e::es) X.env=(false,DH e X.env)::Di es X.env:=by rfl) (KL:(DX pos (Di es X.env)).any (·.1)=false:=by rfl):PE X (.Call (.Name x p) (e::es) [] pos) (C1 r t):=by
 intro JD s σ H Q I h
 refine EW (jW I hg hm hv ?_ hn L4)
 exact Gs (cn (ha pos JD s σ H _ I h) λus s1 ⟨vs,H1,I1,r1,q1⟩=>hc JD s1 σ H1 vs us Q I1 r1 q1) he KL
theorem t5 (hc:d6 X (.type T) r) (hg:Gl X x) (hm:X.mg x=none) (hv:DZ x=some (.type T)) (ha:PA X (e::es) t) (hn:x≠"__name__":=by decide) (L4:(x==("__debug__":Df))=false:=by decide)
  (he:Di (e::es) X.env=(false,DH e X.env)::Di es X.env:=by rfl) (KL:(DX pos (Di es X.env)).any (·.1)=false:=by rfl):PE X (.Call (.Name x p) (e::es) [] pos) (C1 r t):=by
 intro JD s σ H Q I h
 refine EW (jW I hg hm hv ?_ hn L4)
 exact FH (cn (ha pos JD s σ H _ I h) λus s1 ⟨vs,H1,I1,r1,q1⟩=>hc JD s1 σ H1 vs us Q I1 r1 q1) he KL
end
end L2
namespace HT
open PySem PyProof.Rows
section
open PySem.SeqAt
open PySem.AutoSeq1 (wpAny_loadPart')
open PySem.MeetsSeq PySem.MeetsSeq2 PySem.MeetsSeq3
end
section
variable {prog:Dv} {w:DE} {A:DI} {E:De->Dh->Prop} {s:Dh}
theorem wQ {t b:Dg} {vs ws:List De} {Q:De->Dh->Prop} (ht:J7 s.heap t vs.toArray) (hb:J7 s.heap b ws.toArray) (hv:vs≠[])
  (h1:ws=[]->Q (.ref t) s) (h2:ws≠[]->Q (.ref s.heap.objs.size) {s with heap:=s.heap.push {cls:= .type "tuple",data:= .seq (vs++ws).toArray}})
  (hsz:vs.length+ws.length<=sizeLine):Du (Dx prog w) A (EI .Add (.ref t) (.ref b)) Q E s:=by
 obtain⟨⟨cls,dd,data,sl⟩,ho,hc,n,hd⟩:=id ht
 obtain⟨⟨Q3,OL,data2,OM⟩,Ob,OW,n2,OX⟩:=id hb
 simp only at hc hd OW OX
 subst hc hd OW OX
 have e:vs.toArray++ws.toArray=(vs++ws).toArray:=by simp
 by_cases hw:ws=[]
 ·exact Iu ⟨_,ho,rfl⟩ ⟨_,Ob,rfl⟩ He HW Ge G8 (G3 _ _)
   (tuple_addW1 t b vs.toArray ws.toArray n n2 dd OL sl OM (by simpa using hv) (by simp[hw])) ⟨ho,Ob,h1 hw⟩
 ·refine Iu ⟨_,ho,rfl⟩ ⟨_,Ob,rfl⟩ He HW Ge G8 (G3 _ _)
   (tuple_addW2 t b vs.toArray ws.toArray n n2 dd OL sl OM (by simpa using hv) (by simpa using hw) (by rw[Dr,Dr];exact hsz)) ⟨ho,Ob,?_⟩
  rw[e]
  exact h2 hw
def qJ (n d:Nat):Option Int->Nat
 |none=>d
 |some v=>if v<0 then (v+(n:Int)).toNat else min v.toNat n
end
end HT
namespace L2
open PySem PySem.Spec PyProof.Rows
theorem iY {ns:List Int}:∀{us:List De},aF (ns.map V.int) us->GY us ns:=by
 induction ns with
 |nil=>intro us r;rw[Fd]at r;cases r;exact .nil
 |cons n ns ih=>
  intro us r
  rw[DD]at r
  cases r with
  |cons r1 r2=>
   obtain⟨t,e⟩:=r1
   subst e
   exact .cons n t (ih r2)
section
variable {X:Cx} {e:Dn} {te:TE} {lo hi:Option Dn} {tl th:TO} {pos p2:DY}
def CU (X:Cx) (r:V->Option Int->Option Int->Hp->VK->Prop):Prop:=
 ∀(JD:List (Dg×DP)) (s:Dh) (σ:St) (H:Hp) (x:V) (v vl vu:De) (lo hi:Option Int) (sl:Dg) (Q:VK),au X JD σ H s->aZ x v->s.heap.IsSliceOf sl vl vu .none->IsPart vl lo->IsPart vu hi->r x lo hi H Q->
  ∃T id,typeLookup (.type T) "__getitem__"=pure (some (.builtin id))/\s.TypeIs v T/\Du (Dx X.prog X.w) X.A (HF v (.ref sl)) (EP X JD σ Q) X.xe s
def wR (xs:List V) (lo hi:Option Int):List V:=(xs.drop (HT.qJ xs.length 0 lo)).take (HT.qJ xs.length xs.length hi - HT.qJ xs.length 0 lo)
theorem pD (xs:List V) (lo hi:Option Int):(wR xs lo hi).length<=xs.length:=by
 unfold wR
 rw[IW,List.length_drop]
 omega
def ym (K:Dd):R2:=λx y H Q=>∃a b xs ys,x= .ref a/\y= .ref b/\hU K H a xs/\hU K H b ys/\xs≠[]/\xs.length+ys.length<=sizeLine/\
 (ys=[]->Q (.ref a) H)/\(ys≠[]->∀p,H p=none->Q (.ref p) (a_ H p (.tup (xs++ys))))
theorem aF.nil_iff {xs:List V} {us:List De} (r:aF xs us):us=[]<->xs=[]:=by
 cases r with
 |nil=>simp
 |cons _ _=>simp
theorem wU:i0 X (EI .Add) (ym X.K):=by
 intro JD s σ H x y v u Q I rx ry h
 obtain⟨a,b,xs,ys,rfl,rfl,ha,hb,hx,hz,q1,q2⟩:=h
 cases rx
 cases ry
 obtain⟨its,r1,p1,_⟩:=I.tuple ha
 obtain⟨Lm,r2,p2,_⟩:=I.tuple hb
 refine HT.wQ p1 p2 (λz=>hx (r1.nil_iff.mp z)) (λz=>⟨.ref a,H,I,rfl,q1 (r2.nil_iff.mp z)⟩) (λz=> ?_) (by rw[<-r1.length,<-r2.length];exact hz)
 refine⟨.ref s.heap.objs.size,_,I.laid (t':=s.toks) (o:= .tup (xs++ys)) (λb ob q=>Dp _ q) (DK _) ?_,rfl,q2 (λw=>z (r2.nil_iff.mpr w)) _ (I.hok.fresh (DK _))⟩
 exact⟨by rw[E5];exact hz,_,r1.append r2,gG.new _ _⟩
end
end L2
namespace L2
open PySem PySem.Spec PyProof.Rows
def yn (n:Nat) (i:Int):Option Nat:=if 0<=i then (if i<n then some i.toNat else none)else if -(n:Int)<=i then some (i+n).toNat else none
def atI {α:Type} (xs:List α) (i:Int):Option α:=(yn xs.length i).bind λj=>xs[j]?
theorem wV {n:Nat} {i:Int} {j:Nat} (h:yn n i=some j):seqIndex? i n=some j/\j<n/\ -(n:Int)<=i/\i<n:=by
 unfold yn at h
 by_cases h0:0<=i
 ·rw[if_pos h0]at h
  by_cases h1:i<n
  ·rw[if_pos h1]at h
   have e:i.toNat=j:=Eh h
   exact⟨by rw[seqIndex_of h0 h1,e],by omega,by omega,h1⟩
  ·rw[if_neg h1]at h;cases h
 ·rw[if_neg h0]at h
  by_cases h1: -(n:Int)<=i
  ·rw[if_pos h1]at h
   have e:(i+n).toNat=j:=Eh h
   exact⟨by rw[seqIndex_neg (by omega) h1,e],by omega,h1,by omega⟩
  ·rw[if_neg h1]at h;cases h
theorem o6 {α:Type} {xs:List α} {i:Int} {v:α} (h:atI xs i=some v):∃j,seqIndex? i xs.length=some j/\xs[j]? =some v/\j<xs.length/\ -(xs.length:Int)<=i/\i<xs.length:=by
 unfold atI at h
 cases e:yn xs.length i with
 |none=>rw[e]at h;cases h
 |some j=>
  rw[e]at h
  obtain⟨h1,h2,h3,h4⟩:=wV e
  exact⟨j,h1,h,h2,h3,h4⟩
theorem wW {α:Type} {xs:List α} {j:Nat} {v:α} (h:xs[j]? =some v):atI xs (j:Int)=some v:=by
 have hj:j<xs.length:=(Dy.mp h).1
 have e:yn xs.length (j:Int)=some j:=by
  unfold yn
  rw[if_pos (by omega),if_pos (by omega)];simp
 unfold atI;rw[e];exact h
def rT (b:Dn):Prop:=∀o i,Hw b false o i=operate [o,i] (HF o i)
def wX (X:Cx) (r:R2):Prop:=
 ∀(value L5:Dn) (JD:List (Dg×DP)) (s:Dh) (σ:St) (H:Hp) (x y:V) (v u:De) (Q:VK),au X JD σ H s->aZ x v->aZ y u->r x y H Q->
  Hw L5 false v u=operate [v,u] (HF v u)->Du (Dx X.prog X.w) X.A (subscriptTail value L5 v u) (EP X JD σ Q) X.xe s
def CB (X:Cx) (id:String) (r:V->List V->Hp->VK->Prop):Prop:=
 ∀(JD:List (Dg×DP)) (s:Dh) (σ:St) (H:Hp) (x:V) (xs:List V) (v:De) (us:List De) (Q:VK),au X JD σ H s->aZ x v->aF xs us->r x xs H Q->
  Du (Dx X.prog X.w) X.A (call (.builtin id) (v::us)) (EP X JD σ Q) X.xe s
section
variable {X:Cx} {a b:Dn} {ta tb:TE} {pos:DY}
theorem wX.or {r r':R2} (h:wX X r) (h':wX X r'):wX X (λx y H Q=>r x y H Q\/r' x y H Q):=by
 intro value L5 JD s σ H x y v u Q I rx ry q hs
 rcases q with q|q
 ·exact h value L5 JD s σ H x y v u Q I rx ry q hs
 ·exact h' value L5 JD s σ H x y v u Q I rx ry q hs
theorem AB {r:R2} (hr:wX X r) (ha:PE X a ta) (hb:PE X b tb) (hs:rT b):PE X (.Subscript a b pos) (Bt r ta tb):=by
 intro JD s σ H Q I h
 exact Subscript_ (yS ha hb I h λv u s2 x y H2 I2 rx ry q=>hr a b JD s2 σ H2 x y v u Q I2 rx ry q (hs _ _))
def AD (K:Dd):R2:=λx y H Q=>∃p xs i v,x= .ref p/\y= .int i/\dc K H p xs/\atI xs i=some v/\Q v H
def AE (K:Dd):R2:=λx y H Q=>∃p xs i v,x= .ref p/\y= .int i/\hU K H p xs/\atI xs i=some v/\Q v H
def AF:R2:=λx y H Q=>∃z i c,x= .str z/\y= .int i/\z.length<=sizeLine/\atI z.cps.toList i=some c/\Q (.str ⟨#[c]⟩) H
theorem wY:wX X (AD X.K):=by
 intro value L5 JD s σ H x y v u Q I rx ry h hs
 obtain⟨p,xs,i,z,rfl,rfl,hq,he,q⟩:=h
 cases rx
 obtain⟨t,rfl⟩:=ry
 obtain⟨its,r,pl,hz⟩:=I.list hq
 obtain⟨j,h1,h2,h3,h4,h5⟩:=o6 he
 obtain⟨w,ew,N5⟩:=r.get h2
 have hl:=r.length
 have hn:=lJ
 have Mg:EP X JD σ Q w s:=⟨z,H,I,N5,q⟩
 by_cases h0:0<=i
 ·have hj:i.toNat=j:=by
   rw[seqIndex_of h0 h5]at h1
   exact Eh h1
  exact item_listR pl.isList h0 (by omega) (by rw[hj];simpa using ew) Mg hs
 ·have hj:(i+(its.toArray.size:Int)).toNat=j:=by
   rw[seqIndex_neg (by omega) h4]at h1
   rw[Dr,<-hl]
   exact Eh h1
  exact Hx (x:=w) pl.isList.typeIs IL.lookup
   (wpAny_getItem_list_neg (Q:=λr s'=>r=w/\EP X JD σ Q r s') pl.isList (by omega) (by rw[Dr]<;>omega) (by omega) (by rw[hj];simpa using ew) ⟨rfl,Mg⟩) hs
theorem y_:wX X (AE X.K):=by
 intro value L5 JD s σ H x y v u Q I rx ry h hs
 obtain⟨p,xs,i,z,rfl,rfl,hq,he,q⟩:=h
 cases rx
 obtain⟨t,rfl⟩:=ry
 obtain⟨its,r,pl,hz⟩:=I.tuple hq
 obtain⟨j,h1,h2,h3,h4,h5⟩:=o6 he
 obtain⟨w,ew,N5⟩:=r.get h2
 have hl:=r.length
 have hn:=lJ
 have Mg:EP X JD σ Q w s:=⟨z,H,I,N5,q⟩
 exact Hx (x:=w) pl.typeIs slot_tuple_getitem.lookup
  (getItem_tuple (j:=j) (Q:=λr s'=>r=w/\EP X JD σ Q r s') pl (by omega) (by omega) (by rw[Dr,<-hl];exact h1) (by simpa using ew) ⟨rfl,Mg⟩) hs
theorem zc:wX X AF:=by
 intro value L5 JD s σ H x y v u Q I rx ry h hs
 obtain⟨z,i,c,rfl,rfl,hz,he,q⟩:=h
 obtain⟨t,rfl⟩:=rx
 obtain⟨t',rfl⟩:=ry
 obtain⟨j,h1,h2,h3,h4,h5⟩:=o6 he
 have hl:z.cps.toList.length=z.length:=by simp[Str.length]
 rw[hl]at h1 h4 h5
 have hn:=lJ
 exact tail_any (typeIs_str s z t) slot_str_getitem.lookup (getItem_str (c:=c) (by
  have e1:decide (i< -(2 ^63:Int))=false:=decide_eq_false (by omega)
  have e2:decide (i>=2 ^63)=false:=decide_eq_false (by omega)
  rw[e1,e2,Bool.or_false]) (by rw[h1];simpa using h2) ⟨.str ⟨#[c]⟩,H,I.tok _,⟨_,rfl⟩,q⟩) hs
def CC (K:Dd):R2:=λx y H Q=>AD K x y H Q\/AE K x y H Q\/AF x y H Q
theorem ze:wX X (CC X.K):=wY.or (y_.or zc)
theorem au.lst {JD:List (Dg×DP)} {σ:St} {H:Hp} {s:Dh} {p:Dg} {xs:List V} (I:au X JD σ H s) (h:H p=some (.lst xs)):
  ∃(its:List De) (n:Nat),aF xs its/\s.heap.get? p=some {cls:= .type "list",data:= .seq its.toArray n}/\xs.length<=sizeLine:=by
 obtain⟨z,its,n,r,e⟩:=I.hok p _ h
 exact⟨its,n,r,e,z⟩
theorem o7 (lo hi:Option Int) (n:Nat):(FX lo hi none n).1=((HT.qJ n 0 lo:Nat):Int)/\(FX lo hi none n).2.1=((HT.qJ n n hi:Nat):Int)/\(FX lo hi none n).2.2=1:=by
 refine⟨?_,?_,rfl⟩
 ·cases lo with
  |none=>simp[FX,HT.qJ]
  |some i=>
   simp only[FX,HT.qJ,IX,show (1:Int)>0 by decide,if_true]
   by_cases h:i<0
   ·simp only[h,if_true]<;>omega
   ·simp only[h,if_false]<;>omega
 ·cases hi with
  |none=>simp[FX,HT.qJ]
  |some i=>
   simp only[FX,HT.qJ,IX,show (1:Int)>0 by decide,if_true]
   by_cases h:i<0
   ·simp only[h,if_true]<;>omega
   ·simp only[h,if_false]<;>omega
theorem mS (its:List De) (lo hi:Option Int):slicePick its.toArray lo hi none=((its.drop (HT.qJ its.length 0 lo)).take (HT.qJ its.length its.length hi - HT.qJ its.length 0 lo)).toArray:=by
 obtain⟨h1,h2,h3⟩:=o7 lo hi its.toArray.size
 unfold slicePick
 rw[h1,h2,h3]
 simp only[sliceRange_one,pick_run,Dr]<;>rfl
def C3 (K:Dd):V->Option Int->Option Int->Hp->VK->Prop:=λx lo hi H Q=>∃a xs,x= .ref a/\dc K H a xs/\∀p,H p=none->Q (.ref p) (a_ H p (.lst (wR xs lo hi)))
theorem Bw:CU X (C3 X.K):=by
 intro JD s σ H x v vl vu lo hi sl Q I rx hs pl pu h
 obtain⟨a,xs,rfl,hx,q⟩:=h
 cases rx
 obtain⟨its,r,ht,hz⟩:=I.list hx
 have K7:=r.length
 refine⟨"list",_,IL.lookup,ht.isList.typeIs,?_⟩
 refine wpAny_getItem_list_slice ht.isList hs pl pu .none (by simp) ?_ (by rw[Dr]<;>omega)
 rw[mS,<-K7]
 refine⟨.ref s.heap.objs.size,_,I.laid (t':=s.toks) (o:= .lst (wR xs lo hi)) (λb ob q=>Dp _ q) (DK _) ?_,rfl,q _ (I.hok.fresh (DK _))⟩
 exact⟨E1 (pD xs lo hi) hz,_,0,(r.drop (HT.qJ xs.length 0 lo)).take (HT.qJ xs.length xs.length hi - HT.qJ xs.length 0 lo),DT _ rfl⟩
def dE:V->Bool
 | .non=>true
 | .bl _=>true
 | .int _=>true
 | .str _=>true
 |_=>false
def t6:V->V->Bool
 | .non, .non=>true
 | .bl a, .bl b=>a==b
 | .bl a, .int b=>(if a then 1 else 0)==b
 | .int a, .bl b=>a==(if b then 1 else 0)
 | .int a, .int b=>a==b
 | .str a, .str b=>a==b
 |_,_=>false
theorem qK {A:DI} {s:Dh} {y x:V} {u v:De} (ry:aZ y u) (rx:aZ x v) (fy:dE y=true) (fx:dE x=true):SeqAt.EqAt A s u v (t6 y x):=by
 cases y with
 |non=>
  cases ry
  cases x with
  |non=>cases rx;exact SeqAt.EqAt.same _
  |bl b=>cases rx;exact SeqAt.EqAt.none_bool b
  |int b=>obtain⟨t,rfl⟩:=rx;exact SeqAt.EqAt.none_int b t
  |str b=>obtain⟨t,rfl⟩:=rx;exact SeqAt.EqAt.none_str b t
  |_=>exact absurd (show false=true from fx) DF
 |bl a=>
  cases ry
  cases x with
  |non=>cases rx;exact SeqAt.EqAt.bool_none a
  |bl b=>cases rx;exact SeqAt.EqAt.bool_bool a b
  |int b=>obtain⟨t,rfl⟩:=rx;exact SeqAt.EqAt.bool_int a b t
  |str b=>obtain⟨t,rfl⟩:=rx;exact SeqAt.EqAt.bool_str a b t
  |_=>exact absurd (show false=true from fx) DF
 |int a=>
  obtain⟨t',rfl⟩:=ry
  cases x with
  |non=>cases rx;exact SeqAt.EqAt.int_none a t'
  |bl b=>cases rx;exact SeqAt.EqAt.int_bool a t' b
  |int b=>obtain⟨t,rfl⟩:=rx;exact SeqAt.EqAt.int_int a t' b t
  |str b=>obtain⟨t,rfl⟩:=rx;exact Ib a t' b t
  |_=>exact absurd (show false=true from fx) DF
 |str a=>
  obtain⟨t',rfl⟩:=ry
  cases x with
  |non=>cases rx;exact SeqAt.EqAt.str_none a t'
  |bl b=>cases rx;exact SeqAt.EqAt.str_bool a t' b
  |int b=>obtain⟨t,rfl⟩:=rx;exact Ic a t' b t
  |str b=>obtain⟨t,rfl⟩:=rx;exact SeqAt.EqAt.str_str a t' b t
  |_=>exact absurd (show false=true from fx) DF
 |_=>exact absurd (show false=true from fy) DF
def qL (x:V) (u:De):Bool:=match u with
 | .none=>t6 .non x
 | .bool b=>t6 (.bl b) x
 | .int i _=>t6 (.int i) x
 | .str z _=>t6 (.str z) x
 |_=>false
theorem uN {x y:V} {u:De} (r:aZ y u) (f:dE y=true):qL x u=t6 y x:=by
 cases y with
 |non=>cases r;rfl
 |bl b=>cases r;rfl
 |int i=>obtain⟨t,rfl⟩:=r;rfl
 |str z=>obtain⟨t,rfl⟩:=r;rfl
 |_=>exact absurd (show false=true from f) DF
theorem jn {x:V}:∀{xs:List V} {us:List De},aF xs us->xs.all dE=true->us.any (qL x)=xs.any λy=>t6 y x
 |_,_, .nil,_=>rfl
 |y::xs,u::us, .cons r t,f=>by
  rw[EC,Eu]at f
  rw[ED,ED,uN r f.1,jn t f.2]
theorem i5 {A:DI} {s:Dh} {x:V} {v:De} (rx:aZ x v) (fx:dE x=true):∀{xs:List V} {us:List De},aF xs us->xs.all dE=true->∀u∈us,SeqAt.EqAt A s u v (qL x u)
 |_,_, .nil,_=>λu hu=>by cases hu
 |y::xs,u::us, .cons r t,f=>λu' hu=>by
  rw[EC,Eu]at f
  rcases DA.mp hu with rfl|hu
  ·rw[uN r f.1];exact qK r rx f.1 fx
  ·exact i5 rx fx t f.2 u' hu
def inV (x:V) (xs:List V):Bool:=xs.any λy=>t6 y x
def C4 (K:Dd) (LN:Bool):R2:=λx y H Q=>∃p xs,y= .ref p/\(dc K H p xs\/hU K H p xs)/\dE x=true/\xs.all dE=true/\Q (.bl (if LN then !inV x xs else inV x xs)) H
theorem t7:i0 X (Ep .In) (C4 X.K false):=by
 intro JD s σ H x y v u Q I rx ry h
 obtain⟨p,xs,rfl,hq,fx,fs,q⟩:=h
 cases ry
 rcases hq with hq|hq
 ·obtain⟨its,r,pl,hz⟩:=I.list hq
  refine SeqAt.in_listAt (qL x) pl.isList (λw hw=>i5 rx fx r fs w (by simpa using hw)) ⟨.bl _,H,I,rfl,?_⟩
  rw[show its.toArray.any (qL x)=its.any (qL x) by simp,jn r fs]
  exact q
 ·obtain⟨its,r,pl,hz⟩:=I.tuple hq
  refine SeqAt.in_tupleAt (qL x) pl (λw hw=>i5 rx fx r fs w (by simpa using hw)) ⟨.bl _,H,I,rfl,?_⟩
  rw[show its.toArray.any (qL x)=its.any (qL x) by simp,jn r fs]
  exact q
theorem o8:i0 X (Ep .NotIn) (C4 X.K true):=by
 intro JD s σ H x y v u Q I rx ry h
 obtain⟨p,xs,rfl,hq,fx,fs,q⟩:=h
 cases ry
 rcases hq with hq|hq
 ·obtain⟨its,r,pl,hz⟩:=I.list hq
  refine SeqAt.notIn_listAt (qL x) pl.isList (λw hw=>i5 rx fx r fs w (by simpa using hw)) ⟨.bl _,H,I,rfl,?_⟩
  rw[show its.toArray.any (qL x)=its.any (qL x) by simp,jn r fs]
  exact q
 ·obtain⟨its,r,pl,hz⟩:=I.tuple hq
  refine SeqAt.notIn_tupleAt (qL x) pl (λw hw=>i5 rx fx r fs w (by simpa using hw)) ⟨.bl _,H,I,rfl,?_⟩
  rw[show its.toArray.any (qL x)=its.any (qL x) by simp,jn r fs]
  exact q
theorem o9:d6 X (.builtin "len") (λxs H Q=>∃p ys,xs=[.ref p]/\(dc X.K H p ys\/hU X.K H p ys)/\Q (.int ys.length) H):=by
 intro JD s σ H xs us Q I r h
 obtain⟨p,ys,rfl,hq,q⟩:=h
 obtain⟨u,rfl,rx⟩:=jk r
 cases rx
 have hn:=lJ
 rcases hq with hq|hq
 ·obtain⟨its,r',pl,hz⟩:=I.list hq
  have K7:=r'.length
  exact Calls.call_len_list pl.isList (by simp only[Dr]<;>omega) ⟨.int ys.length,H,I.tok _,⟨s.toks+1,by rw[Dr,K7]⟩,q⟩
 ·obtain⟨its,r',pl,hz⟩:=I.tuple hq
  have K7:=r'.length
  exact len_tuple pl (by simp only[Dr]<;>omega) ⟨.int ys.length,H,I.tok _,⟨s.toks+1,by rw[Dr,K7]⟩,q⟩
theorem d6.or {f:De} {r r':List V->Hp->VK->Prop} (h:d6 X f r) (h':d6 X f r'):d6 X f (λxs H Q=>r xs H Q\/r' xs H Q):=by
 intro JD s σ H xs us Q I rs q
 rcases q with q|q
 ·exact h JD s σ H xs us Q I rs q
 ·exact h' JD s σ H xs us Q I rs q
theorem bn:d6 X (.type "tuple") (λxs H Q=>∃p ys,xs=[.ref p]/\((dc X.K H p ys/\∀l,H l=none->Q (.ref l) (a_ H l (.tup ys)))\/(hU X.K H p ys/\Q (.ref p) H))):=by
 intro JD s σ H xs us Q I r h
 obtain⟨p,ys,rfl,h⟩:=h
 obtain⟨u,rfl,rx⟩:=jk r
 cases rx
 rcases h with ⟨hq,q⟩|⟨hq,q⟩
 ·obtain⟨its,r',pl,hz⟩:=I.list hq
  have K7:=r'.length
  refine call_tuple_list pl.isList (λh' kp=> ?_) (by simp only[Dr]<;>omega)
  have I1:au X JD σ H {s with heap:=h'}:=I.kept (t':=s.toks) kp
  have I2:au X JD σ (a_ H h'.objs.size (.tup ys)) {s with heap:=h'.push {cls:= .type "tuple",data:= .seq its.toArray}}:=
   I1.laid (t':=s.toks) (λb o e=>Dp _ e) (DK _) (show bd X.prog X.w _ _ _ (.tup ys)from ⟨hz,its,r',gG.new _ _⟩)
  exact⟨.ref h'.objs.size,_,I2,rfl,q _ (I1.hok.fresh (DK _))⟩
 ·obtain⟨its,r',pl,hz⟩:=I.tuple hq
  exact call_tuple_same pl ⟨.ref p,H,I,rfl,q⟩
def C5 (K:Dd) (T:String) (x:V) (H:Hp):Prop:=match x with
 | .str _=>T="str"
 | .int _=>T="int"
 | .ref p=>(T="list"/\∃xs,dc K H p xs)\/(T="tuple"/\∃o,K.lookup p=some o/\o.cls= .type "tuple"/\o.dict=none)\/
   (T="dict"/\((∃kvs,H p=some (.dK kvs))\/∃kvs,H p=some (.dT kvs)))\/(T="set"/\∃S n,H p=some (.set S n))
 |_=>False
theorem uO {JD:List (Dg×DP)} {σ:St} {H:Hp} {s:Dh} {T:String} {x:V} {v:De} (I:au X JD σ H s) (r:aZ x v) (ty:C5 X.K T x H):
  s.TypeIs v T/\∀a,v= .ref a->∃ob,s.heap.get? a=some ob/\ob.dict=none:=by
 cases x with
 |str z=>
  obtain⟨t,rfl⟩:=r
  cases (show T="str" from ty)
  exact⟨typeIs_str s z t,λ_ e=>nomatch e⟩
 |int i=>
  obtain⟨t,rfl⟩:=r
  cases (show T="int" from ty)
  exact⟨Jd s i t,λ_ e=>nomatch e⟩
 |ref p=>
  cases r
  rcases ty with ⟨rfl,xs,hq⟩|⟨rfl,o,hk,hc,hd⟩|⟨rfl,hk⟩|⟨rfl,S,n,hk⟩
  ·obtain⟨its,_,pl,_⟩:=I.list hq
   refine⟨pl.isList.typeIs,λa e=> ?_⟩
   cases e
   obtain⟨o,n,e,c,hd,_⟩:=pl
   exact⟨o,e,hd⟩
  ·refine⟨⟨o,I.kIn p o hk,hc⟩,λa e=> ?_⟩
   cases e
   exact⟨o,I.kIn _ o hk,hd⟩
  ·have z:∃o,s.heap.get? p=some o/\o.ExactDict:=by
    rcases hk with ⟨kvs,hk⟩|⟨kvs,hk⟩
    ·obtain⟨_,_,_,_,o,_,_,e,ex,_⟩:=I.hok p _ hk
     exact⟨o,e,ex⟩
    ·obtain⟨_,_,_,_,o,_,_,e,ex,_⟩:=I.hok p _ hk
     exact⟨o,e,ex⟩
   obtain⟨o,e,ex⟩:=z
   refine⟨⟨o,e,ex.1⟩,λa e2=> ?_⟩
   cases e2
   exact⟨o,e,ex.2.1⟩
  ·obtain⟨o,_,_,_,e,ex,_⟩:=I.hok p _ hk
   refine⟨⟨o,e,ex.1⟩,λa e2=> ?_⟩
   cases e2
   exact⟨o,e,ex.2.1⟩
 |_=>exact Et ty
def C6 (K:Dd) (T:String) (r:V->List V->Hp->VK->Prop) (to:TE):TE:=λσ H Q=>to σ H λx H1=>C5 K T x H1/\r x [] H1 Q
def CV (K:Dd) (T:String) (r:V->List V->Hp->VK->Prop) (to:TE) (t:TA):TE:=λσ H Q=>to σ H λx H1=>C5 K T x H1/\t σ H1 λxs H2=>r x xs H2 Q
variable {o e:Dn} {es:List Dn} {to:TE} {t:TA} {name:Df} {JV K9:DY} {T id:String} {r:V->List V->Hp->VK->Prop}
theorem zf (pa:PlainAttrs T) (slot:Slot T name id) (Q4:typeOf (.builtin id)=pure (.type "method_descriptor")) (hm:CB X id r) (ho:PE X o to)
  (LU:Em o name X.env (DH o X.env)=DH o X.env:=by rfl) (LV:(JV.endLine==K9.line)=true:=by rfl):PE X (.Call (.Attribute o name JV) [] [] K9) (C6 X.K T r to):=by
 intro JD s σ H Q I h
 refine wpAny_Call_method0_late LU LV (cn (ho JD s σ H _ I h) λv s1 z_=> ?_)
 obtain⟨x,H1,I1,r1,ty,q1⟩:=z_
 obtain⟨h1,h2⟩:=uO I1 r1 ty
 exact⟨T,id,pa,slot,Q4,h1,h2,Hy rfl (PySem.evalArgs_none (hm JD s1 σ H1 x [] v [] Q I1 r1 .nil q1))⟩
theorem AG (pa:PlainAttrs T) (slot:Slot T name id) (Q4:typeOf (.builtin id)=pure (.type "method_descriptor")) (hm:CB X id r) (ho:PE X o to) (ha:PA X (e::es) t)
  (LU:Em o name X.env (DH o X.env)=DH o X.env:=by rfl)
  (Oc:((DX K9 (Di (e::es) X.env)).all (λx=> !x.1)&&(FK K9 (EV [] X.env)).all (λx=>x.1.isSome)
   &&decide ((e::es).length+([]:List ID).length+(if ([]:List ID).isEmpty then 0 else 1)<30))=true:=by rfl)
  (LV:(JV.endLine==K9.line)=true:=by rfl) (hs:Di (e::es) X.env=(false,DH e X.env)::Di es X.env:=by rfl) (MV:(DX K9 (Di es X.env)).any (·.1)=false:=by rfl):
  PE X (.Call (.Attribute o name JV) (e::es) [] K9) (CV X.K T r to t):=by
 intro JD s σ H Q I h
 refine wpAny_Call_method_late LU Oc LV rfl (cn (ho JD s σ H _ I h) λv s1 z_=> ?_)
 obtain⟨x,H1,I1,r1,ty,q1⟩:=z_
 obtain⟨h1,h2⟩:=uO I1 r1 ty
 refine⟨T,id,pa,slot,Q4,h1,h2,?_⟩
 have hA:=ha K9 JD s1 σ H1 _ I1 q1
 rw[hs]at hA ⊢
 refine Hy (by show (false||(DX K9 (Di es X.env)).any (·.1))=false;rw[MV]<;>rfl) (HN ?_)
 exact cn hA λus s2 ⟨vs,H2,I2,r2,q2⟩=>hm JD s2 σ H2 x vs v us Q I2 r1 r2 q2
end
end L2
namespace L2
open PySem PySem.Spec PyProof.Rows
def C7 (X:Cx) (id:String) (r:V->List V->Hp->VK->Prop):Prop:=
 ∀(JD:List (Dg×DP)) (s:Dh) (σ:St) (H:Hp) (x:V) (xs:List V) (v:De) (us:List De) (Q:VK),au X JD σ H s->aZ x v->aF xs us->r x xs H Q->
  Du (Dx X.prog X.w) X.A (call (.builtin id) (v::us)) (EP X JD σ Q) X.xe s
theorem aF.one:∀{x:V} {us:List De},aF [x] us->∃u,us=[u]/\aZ x u:=λh=>by
 cases h with
 |cons r t=>cases t;exact⟨_,rfl,r⟩
theorem aF.zero:∀{us:List De},aF [] us->us=[]
 |_, .nil=>rfl
theorem aF.dropLast {xs:List V} {us:List De} (h:aF xs us):aF xs.dropLast us.dropLast:=by
 induction h with
 |nil=>exact .nil
 |cons r t ih=>
  cases t with
  |nil=>exact .nil
  |cons q t'=>exact .cons r ih
theorem aF.reverse {xs:List V} {us:List De} (h:aF xs us):aF xs.reverse us.reverse:=by
 induction h with
 |nil=>exact .nil
 |cons r t ih=>rw[G9,G9];exact aF.append ih (.cons r .nil)
theorem aF.rep {xs:List V} {us:List De} (h:aF xs us):∀k:Nat,aF (DU k xs).flatten (DU k us).flatten
 |0=> .nil
 |k+1=>by
  rw[EA,EA,F7,F7]
  exact aF.append h (aF.rep h k)
theorem qM {α:Type} (l:List α):l.eraseIdx (l.length - 1)=l.dropLast:=by
 induction l with
 |nil=>rfl
 |cons a r ih=>
  cases r with
  |nil=>rfl
  |cons b r=>
   have e:(a::b::r).length - 1=((b::r).length - 1)+1:=by
    have h1:(a::b::r).length=r.length+2:=rfl
    have h2:(b::r).length=r.length+1:=rfl
    omega
   rw[e,List.eraseIdx_cons_succ,ih]
   all_goals rfl
theorem nn (its:List De):∀(k:Nat) (KR:List De),
  HP (λx1 x2=>x1++x2) KR.toArray (DU k its.toArray)=(KR++(DU k its).flatten).toArray
 |0,KR=>by simp
 |k+1,KR=>by
  have e:KR.toArray++its.toArray=(KR++its).toArray:=by simp
  have e2:(KR++its)++(DU k its).flatten=KR++(DU (k+1) its).flatten:=by
   rw[EA,F7,Ga]
  rw[<-e2,<-nn its k (KR++its),<-e,EA,Je]
section
variable {X:Cx} {JD:List (Dg×DP)} {σ:St} {H:Hp} {s:Dh} {l b:Dg} {xs ys zs:List V}
theorem au.lset {its its':List De} {n:Nat} {f:Array De->Array De} {t':Nat} (I:au X JD σ H s) (hH:H l=some (.lst xs))
  (e:s.heap.get? l=some {cls:= .type "list",data:= .seq its.toArray n}) (hf:f its.toArray=its'.toArray) (hv:aF ys its') (hz:ys.length<=sizeLine):
  au X JD σ (a_ H l (.lst ys)) {s with heap:=s.heap.update l (EK f),toks:=t'}:=by
 have q:=PySem.IsL.update e f
 rw[hf]at q
 refine I.write (x:=l) (e:=l) (by rw[hH];exact trivial) (.inl rfl) (λb' u hb hu=>(Heap.get?_update_other s.heap (EK f) (ET hb)).trans hu) ⟨_,q⟩ ?_
 exact⟨hz,its',_,hv,q⟩
theorem au.lnew {its:List De} {t':Nat} (I:au X JD σ H s) (hv:aF ys its) (hz:ys.length<=sizeLine):
  au X JD σ (a_ H s.heap.objs.size (.lst ys)) {s with heap:=s.heap.push {cls:= .type "list",data:= .seq its.toArray},toks:=t'}:=
 I.laid (λ_ _ q=>Dp _ q) (DK _) ⟨hz,its,0,hv,DT _ rfl⟩
theorem au.fresh (I:au X JD σ H s):H s.heap.objs.size=none:=I.hok.fresh (DK _)
theorem au.lstM (I:au X JD σ H s) (hH:H l=some (.lst xs)):xs.length<=sizeLine/\∃(its:List De) (n:Nat),aF xs its/\xs.length=its.length/\s.heap.get? l=some {cls:= .type "list",data:= .seq its.toArray n}:=by
 obtain⟨z,its,n,r,e⟩:=I.hok l _ hH
 exact⟨z,its,n,r,r.length,e⟩
theorem pE {n:Nat} (h:n<=sizeLine):Fe n=false:=by
 unfold Fe
 exact decide_eq_false (by omega)
end
section
variable {X:Cx}
def wZ:V->List V->Hp->VK->Prop:=λx vs H Q=>∃l xs y,x= .ref l/\vs=[y]/\H l=some (.lst xs)/\xs.length<sizeLine/\Q .non (a_ H l (.lst (xs++[y])))
theorem nq:C7 X "list.append" wZ:=by
 intro JD s σ H x vs v us Q I rx rv h
 obtain⟨l,xs,y,rfl,rfl,hH,hz,q⟩:=h
 cases rx
 obtain⟨u,rfl,ru⟩:=rv.one
 obtain⟨z,its,n,r,hl,e⟩:=I.lstM hH
 refine GU F.slot_list_append ⟨_,e,rfl⟩ F.entry_list_append (F.args_list_append_2 _ _) (PySem.list_append l its.toArray n u (by rw[Dr];omega)) ⟨e,?_⟩
 refine⟨.non,_,I.lset (its':=its++[u]) hH e (by simp) (r.append (.cons ru .nil)) ?_,rfl,q⟩
 rw[E5,HG]
 omega
def w_:V->List V->Hp->VK->Prop:=λx vs H Q=>∃l b xs zs,x= .ref l/\vs=[.ref b]/\H l=some (.lst xs)/\H b=some (.lst zs)/\xs.length+zs.length<=sizeLine/\Q .non (a_ H l (.lst (xs++zs)))
theorem Ab:C7 X "list.extend" w_:=by
 intro JD s σ H x vs v us Q I rx rv h
 obtain⟨l,b,xs,zs,rfl,rfl,hH,hB,hz,q⟩:=h
 cases rx
 obtain⟨u,rfl,ru⟩:=rv.one
 cases ru
 obtain⟨z,its,n,r,hl,e⟩:=I.lstM hH
 obtain⟨z2,Lm,n2,r2,O0,e2⟩:=I.lstM hB
 have hsz:its.toArray.size+Lm.toArray.size<=sizeLine:=by rw[Dr,Dr];omega
 have NA:¬(!its.toArray.isEmpty&&Fe (its.toArray.size+Lm.toArray.size))=true:=by
  rw[pE hsz,HH]
  exact DF
 refine GU F.slot_list_extend ⟨_,e,rfl⟩ F.entry_list_extend (F.args_list_extend_2 _ _)
  (AutoSeq1.list_extend_list_list_0 l its.toArray n b Lm.toArray n2 NA (by rw[Dr];omega) (by omega)) ⟨e,e2,?_⟩
 refine⟨.non,_,I.lset (its':=its++Lm) hH e (by simp) (r.append r2) ?_,rfl,q⟩
 rw[E5]
 omega
def C8:V->List V->Hp->VK->Prop:=λx vs H Q=>∃l xs y,x= .ref l/\vs=[]/\H l=some (.lst xs)/\xs[xs.length - 1]? =some y/\Q y (a_ H l (.lst xs.dropLast))
theorem zg:C7 X "list.pop" C8:=by
 intro JD s σ H x vs v us Q I rx rv h
 obtain⟨l,xs,y,rfl,rfl,hH,hy,q⟩:=h
 cases rx
 have R4:=rv.zero
 subst R4
 obtain⟨z,its,n,r,hl,e⟩:=I.lstM hH
 obtain⟨u,hu,ru⟩:=r.get hy
 have RC:its.toArray[its.toArray.size - 1]? =some u:=by
  show its.toArray[its.length - 1]? =some u
  rw[<-HI,<-hl]
  exact hu
 refine GU F.slot_list_pop ⟨_,e,rfl⟩ F.entry_list_pop (F.args_list_pop_1 _) (MeetsSeq.list_pop_last l its.toArray n u RC (by rw[Dr];omega)) ⟨e,?_⟩
 refine⟨y,_,I.lset (its':=its.dropLast) hH e ?_ r.dropLast ?_,ru,q⟩
 ·show its.toArray.eraseIdxIfInBounds (its.toArray.size - 1)=its.dropLast.toArray
  rw[Dr,List.eraseIdxIfInBounds_toArray,qM]
 ·rw[List.length_dropLast]
  omega
def AH:R2:=λx y H Q=>∃l b xs zs,x= .ref l/\y= .ref b/\H l=some (.lst xs)/\H b=some (.lst zs)/\xs.length+zs.length<=sizeLine/\∀p,H p=none->Q (.ref p) (a_ H p (.lst (xs++zs)))
theorem zh:i0 X (EI .Add) AH:=by
 intro JD s σ H x y v u Q I rx ry h
 obtain⟨l,b,xs,zs,rfl,rfl,hH,hB,hz,q⟩:=h
 cases rx
 cases ry
 obtain⟨z,its,n,r,hl,e⟩:=I.lstM hH
 obtain⟨z2,Lm,n2,r2,O0,e2⟩:=I.lstM hB
 refine PySem.P.add_list e e2 ?_ (by rw[Dr,Dr];omega)
 have ea:its.toArray++Lm.toArray=(its++Lm).toArray:=by simp
 rw[ea]
 exact⟨.ref _,_,I.lnew (t':=s.toks) (r.append r2) (by rw[E5];omega),rfl,q _ I.fresh⟩
def AI:R2:=λx y H Q=>∃l k xs,x= .ref l/\y= .int k/\H l=some (.lst xs)/\ -(2 ^63)<=k/\k<2 ^63/\xs.length*k.toNat<=sizeLine/\
 ∀p,H p=none->Q (.ref p) (a_ H p (.lst (DU k.toNat xs).flatten))
theorem x4 {α:Type} (xs:List α) (k:Nat):(DU k xs).flatten.length=k*xs.length:=by
 induction k with
 |zero=>simp
 |succ k ih=>rw[EA,F7,E5,ih,Nat.succ_mul,Nat.add_comm]
theorem zi:i0 X (EI .Mult) AI:=by
 intro JD s σ H x y v u Q I rx ry h
 obtain⟨l,k,xs,rfl,rfl,hH,h1,h2,hz,q⟩:=h
 cases rx
 obtain⟨t,rfl⟩:=ry
 obtain⟨z,its,n,r,hl,e⟩:=I.lstM hH
 have K7:its.toArray.size*k.toNat<=sizeLine:=by rw[Dr,<-hl];exact hz
 have Q5:¬its.toArray.size*k.toNat>(2 ^63 - 1) / 8:=by
  have:(sizeLine:Nat)<=(2 ^63 - 1) / 8:=by decide
  omega
 have Q6:¬(!Builtin.List.listFitsIndex k)=true:=by
  rw[fitsIndex_both h1 h2]
  exact DF
 have NA:¬Fe (its.toArray.size*k.toNat)=true:=by
  rw[pE K7]
  exact DF
 have Q7:HP (λx1 x2=>x1++x2) #[] (DU (if its.toArray.isEmpty=true then 0 else k.toNat) its.toArray)=(DU k.toNat its).flatten.toArray:=by
  have f0:∀m:Nat,HP (λx1 x2=>x1++x2) #[] (DU m its.toArray)=(DU m its).flatten.toArray:=λm=>by
   have:=nn its m []
   rw[Hs]at this
   exact this
  rw[f0]
  cases its with
  |nil=>simp
  |cons a r'=>rw[if_neg (by simp)]
 refine wpAny_binaryOp_repeat_ref (T:="list") (U:="int") (by decide) ⟨_,e,rfl⟩ (λs'=>Jd s' k t) noFill_list_mul F.fills_int_mul F.slot_int_rmul repeat_list F.slot_int_index.lookup
  (GU F.slot_int_rmul (Jd s k t) F.entry_int_rmul (F.args_int_rmul_2 _ _) (int___rmul___int_list k t l its.toArray n)
   ⟨e,rfl,⟨_,e,rfl⟩,GU F.slot_list_mul ⟨_,e,rfl⟩ F.entry_list_mul (F.args_list_mul_2 _ _) (AutoListH.list___mul___list_int_3 l its.toArray n k t Q6 Q5 NA) ⟨e,?_⟩⟩)
 rw[Q7]
 exact⟨.ref _,_,I.lnew (t':=s.toks) (r.rep k.toNat) (by rw[x4,Nat.mul_comm];exact hz),rfl,q _ I.fresh⟩
end
section
variable {prog:Dv} {w:DE} {A:DI} {E:De->Dh->Prop} {s:Dh}
end
section
variable {X:Cx}
end
end L2
namespace L2
open PySem PySem.Spec PyProof.Rows
section
variable {κ:Type} [DecidableEq κ]
def hV (kvs:List (κ×V)) (k:κ):Option V:=(kvs.find? λkv=>decide (kv.1=k)).map (·.2)
def x5 (kvs:List (κ×V)) (k:κ) (v:V):List (κ×V):=
 if (kvs.any λkv=>decide (kv.1=k))=true then kvs.map (λkv=>if kv.1=k then (kv.1,v)else kv)else kvs++[(k,v)]
theorem pF {p:κ×V} {r:List (κ×V)} {k:κ} (e:p.1=k):hV (p::r) k=some p.2:=by simp[hV,Fs,e]
theorem pG {p:κ×V} {r:List (κ×V)} {k:κ} (e:¬p.1=k):hV (p::r) k=hV r k:=by simp[hV,Fs,e]
theorem hJ.isSome_eq {o:Option V} {u:Option De} (r:hJ o u):o.isSome=u.isSome:=by
 cases o with
 |none=>cases u with
  |none=>rfl
  |some _=>exact(show False from r).elim
 |some _=>cases u with
  |none=>exact(show False from r).elim
  |some _=>rfl
theorem hJ.getD {o:Option V} {u:Option De} {d:V} {d':De} (r:hJ o u) (rd:aZ d d'):aZ (o.getD d) (u.getD d'):=by
 cases o with
 |none=>cases u with
  |none=>exact rd
  |some _=>exact(show False from r).elim
 |some _=>cases u with
  |none=>exact(show False from r).elim
  |some _=>exact r
theorem KV.val {kvs:List (κ×V)} {vs:List (κ×De)} (r:KV kvs vs) (k:κ):hJ (hV kvs k) (GZ vs k):=by
 unfold KV at r
 induction r with
 |nil=>exact Fp
 | @cons p q ps qs h t ih=>
  obtain⟨h1,h2⟩:=h
  by_cases e:p.1=k
  ·have e':q.1=k:=h1.symm.trans e
   have b:GZ (q::qs) k=some q.2:=by simp[GZ,Fs,e']
   rw[pF e,b];exact h2
  ·have e':¬q.1=k:=λz=>e (h1.trans z)
   have b:GZ (q::qs) k=GZ qs k:=by simp[GZ,Fs,e']
   rw[pG e,b];exact ih
theorem KV.any {kvs:List (κ×V)} {vs:List (κ×De)} (r:KV kvs vs) (k:κ):(kvs.any λkv=>decide (kv.1=k))=vs.any λkv=>decide (kv.1=k):=by
 unfold KV at r
 induction r with
 |nil=>rfl
 |cons h t ih=>rw[ED,ED,ih,h.1]
theorem KV.keys {kvs:List (κ×V)} {vs:List (κ×De)} (r:KV kvs vs):kvs.map (·.1)=vs.map (·.1):=by
 unfold KV at r
 induction r with
 |nil=>rfl
 |cons h t ih=>rw[DD,DD,ih,h.1]
theorem KV.length {kvs:List (κ×V)} {vs:List (κ×De)} (r:KV kvs vs):kvs.length=vs.length:=HV r
end
theorem rV {P:Dv} {w:DE} {k:bR} {u:De} (r:aZ (kV k) u):(cw P w).is k u=true:=by
 cases k with
 |inl i=>obtain⟨t,e⟩:=(show ∃t,u=Fj i t from r);subst e;exact pq P w i t
 |inr x=>obtain⟨t,e⟩:=(show ∃t,u=Gh x t from r);subst e;exact pw P w x t
theorem nv {P:Dv} {w:DE}:∀{ks:List bR} {us:List De},aF (ks.map kV) us->ItemsAre (cw P w) ks us
 |[],_,r=>by rw[Fd]at r;cases r;exact .nil
 |k::ks,_,r=>by
  rw[DD]at r
  cases r with
  |cons h t=>exact .cons (rV h) (nv t)
abbrev KT (H:Hp):List (List bR×V)->List (List bR×Dg×De)->Prop:=Paired λp q=>p.1=q.1/\H q.2.1=some (.tup (p.1.map kV))/\aZ p.2 q.2.2
theorem KT.val {H:Hp} {kvs:List (List bR×V)} {xs:List (List bR×Dg×De)} (r:KT H kvs xs) (k:List bR):hJ (hV kvs k) ((IE xs k).map (·.2)):=by
 induction r with
 |nil=>exact Fp
 | @cons p q ps qs h t ih=>
  obtain⟨h1,_,h2⟩:=h
  by_cases e:p.1=k
  ·have e':q.1=k:=h1.symm.trans e
   have b:IE (q::qs) k=some q.2:=by simp[IE,Fs,e']
   rw[pF e,b];exact h2
  ·have e':¬q.1=k:=λz=>e (h1.trans z)
   have b:IE (q::qs) k=IE qs k:=by simp[IE,Fs,e']
   rw[pG e,b];exact ih
section
variable {P:Dv} {w:DE} {H:Hp} {h:DB} {a:Dg}
theorem yo {u:HO} (ok:h_ P w H h) (e:Rd H a u):bd P w H h a u:=e.ok ok
theorem nz {kvs:List (bR×V)} (ok:h_ P w H h) (e:Rd H a (.dK kvs)):kvs.length<=sizeLine/\(a==sysModules)=false/\∃vs,KV kvs vs/\h.DictOf (cw P w) a vs:=
 show bd P w H h a (.dK kvs)from yo ok e
theorem AJ {kvs:List (bR×V)} (ok:h_ P w H h) (e:H a=some (.dK kvs)):kvs.length<=sizeLine/\(a==sysModules)=false/\∃vs,KV kvs vs/\h.DictOf (cw P w) a vs:=nz ok (.inl e)
theorem og {ks:List bR} (ok:h_ P w H h) (e:H a=some (.tup (ks.map kV))):(Ie (cw P w)).is h ks a:=by
 obtain⟨_,its,r,o,h1,h2,n,h3,_⟩:=(show bd P w H h a (.tup (ks.map kV))from ok a _ e)
 exact⟨o,its.toArray,n,h1,h2,h3,by simpa using nv r⟩
theorem rW {kvs:List (List bR×V)} (ok:h_ P w H h) (e:Rd H a (.dT kvs)):kvs.length<=sizeLine/\(a==sysModules)=false/\
  ∃xs,KT H kvs xs/\h.DictOfH (Ie (cw P w)) a xs:=by
 obtain⟨z,y,xs,r,o,es,ep,h1,h2,h3,h4,h5⟩:=(show bd P w H h a (.dT kvs)from yo ok e)
 refine⟨z,y,xs,r,o,es,ep,h1,h2,h3,h4,λx hx=> ?_,h5⟩
 have all:∀{l:List (List bR×V)} {m:List (List bR×Dg×De)},KT H l m->∀x∈m,(Ie (cw P w)).is h x.1 x.2.1:=by
  intro l m q
  induction q with
  |nil=>intro x hx;exact nomatch hx
  | @cons p q ps qs hq t ih=>
   intro x hx
   rcases DA.mp hx with e|hx
   ·subst e
    exact og ok (by rw[<-hq.1];exact hq.2.1)
   ·exact ih x hx
 exact all r x hx
end
def jp (H:Hp) (a:Dg) (y:V) (r:Option V):Prop:=
 (∃kvs k,Rd H a (.dK kvs)/\y=kV k/\r=hV kvs k)\/∃kvs k b,Rd H a (.dT kvs)/\y= .ref b/\H b=some (.tup (k.map kV))/\r=hV kvs k
def x6 (H:Hp) (a:Dg) (y v:V) (H':Hp):Prop:=
 (∃kvs k,H a=some (.dK kvs)/\y=kV k/\kvs.length<sizeLine/\H'=a_ H a (.dK (x5 kvs k v)))\/
 ∃kvs k b,H a=some (.dT kvs)/\y= .ref b/\H b=some (.tup (k.map kV))/\kvs.length<sizeLine/\H'=a_ H a (.dT (x5 kvs k v))
theorem jp.k {H:Hp} {a:Dg} {kvs:List (bR×V)} {k:bR} (e:H a=some (.dK kvs)):jp H a (kV k) (hV kvs k):= .inl ⟨kvs,k, .inl e,rfl,rfl⟩
theorem jp.t {H:Hp} {a b:Dg} {kvs:List (List bR×V)} {k:List bR} (e:H a=some (.dT kvs)) (eb:H b=some (.tup (k.map kV))):jp H a (.ref b) (hV kvs k):= .inr ⟨kvs,k,b, .inl e,rfl,eb,rfl⟩
theorem x6.k {H:Hp} {a:Dg} {kvs:List (bR×V)} {k:bR} {v:V} (e:H a=some (.dK kvs)) (hl:kvs.length<sizeLine):x6 H a (kV k) v (a_ H a (.dK (x5 kvs k v))):= .inl ⟨kvs,k,e,rfl,hl,rfl⟩
theorem x6.t {H:Hp} {a b:Dg} {kvs:List (List bR×V)} {k:List bR} {v:V} (e:H a=some (.dT kvs)) (eb:H b=some (.tup (k.map kV))) (hl:kvs.length<sizeLine):
  x6 H a (.ref b) v (a_ H a (.dT (x5 kvs k v))):= .inr ⟨kvs,k,b,e,rfl,eb,hl,rfl⟩
section
variable {X:Cx} {JD:List (Dg×DP)} {σ:St} {H:Hp} {s:Dh} {a:Dg} {y v:V} {u r:De} {o:Option V} {A:DI} {E:De->Dh->Prop}
theorem t8 {Q:De->Dh->Prop} (hu:A.units+1<G0) (I:au X JD σ H s) (g:jp H a y (some v)) (ry:aZ y u) (h:∀w' s',au X JD σ H s'->aZ v w'->Q w' s'):
  Du (Dx X.prog X.w) A (HF (.ref a) u) Q E s:=by
 rcases g with ⟨kvs,k,e,ey,l⟩|⟨kvs,k,b,e,ey,eb,l⟩
 ·subst ey
  obtain⟨z,hd,vs,Mx,dd⟩:=nz I.hok e
  obtain⟨w',hw,N5⟩:=hJ.some_of (v:=v) (o:=GZ vs k) (by rw[l];exact Mx.val k)
  exact wpAny_getItem_of (rV ry) dd.mapOf hw (h w' _ (I.tok _) N5)
 ·subst ey
  cases (show u=DL b from ry)
  obtain⟨z,hd,xs,Mx,dd⟩:=rW I.hok e
  obtain⟨w',hw,N5⟩:=hJ.some_of (v:=v) (o:=(IE xs k).map (·.2)) (by rw[l];exact Mx.val k)
  obtain⟨p,hp,O1⟩:=Option.map_eq_some_iff.mp hw
  refine wpAny_getItem_heap (GD hu) (og I.hok eb) dd hp ?_
  rw[O1]
  exact h w' _ (I.tok _) N5
theorem C9 {Q:De->Dh->Prop} (hu:A.units+1<G0) (I:au X JD σ H s) (g:jp H a y o) (ry:aZ y u) (h:∀s',au X JD σ H s'->Q (.bool o.isSome) s'):
  Du (Dx X.prog X.w) A (Ep .In u (.ref a)) Q E s:=by
 rcases g with ⟨kvs,k,e,ey,l⟩|⟨kvs,k,b,e,ey,eb,l⟩
 ·subst ey
  obtain⟨z,hd,vs,Mx,dd⟩:=nz I.hok e
  refine wpAny_in_of (rV ry) hd dd.mapOf ?_
  rw[<-(Mx.val k).isSome_eq,<-l]
  exact h _ (I.tok _)
 ·subst ey
  cases (show u=DL b from ry)
  obtain⟨z,hd,xs,Mx,dd⟩:=rW I.hok e
  refine wpAny_in_heap (GD hu) (og I.hok eb) hd dd ?_
  have q:=(Mx.val k).isSome_eq
  rw[IM]at q
  rw[<-q,<-l]
  exact h _ (I.tok _)
theorem x8 {Q:De->Dh->Prop} (hu:A.units+1<G0) (I:au X JD σ H s) (g:jp H a y o) (ry:aZ y u) (h:∀s',au X JD σ H s'->Q (.bool (!o.isSome)) s'):
  Du (Dx X.prog X.w) A (Ep .NotIn u (.ref a)) Q E s:=by
 rcases g with ⟨kvs,k,e,ey,l⟩|⟨kvs,k,b,e,ey,eb,l⟩
 ·subst ey
  obtain⟨z,hd,vs,Mx,dd⟩:=nz I.hok e
  refine wpAny_notIn_of (rV ry) hd dd.mapOf ?_
  rw[<-(Mx.val k).isSome_eq,<-l]
  exact h _ (I.tok _)
 ·subst ey
  cases (show u=DL b from ry)
  obtain⟨z,hd,xs,Mx,dd⟩:=rW I.hok e
  refine wpAny_notIn_heap (GD hu) (og I.hok eb) hd dd ?_
  have q:=(Mx.val k).isSome_eq
  rw[IM]at q
  rw[<-q,<-l]
  exact h _ (I.tok _)
end
section
variable {X:Cx} {JD:List (Dg×DP)} {σ:St} {H:Hp} {s:Dh} {a:Dg} {kvs:List (bR×V)} {k:bR} {u:De} {A:DI} {E:De->Dh->Prop}
theorem AK {Q:De->Dh->Prop} (I:au X JD σ H s) (e:Rd H a (.dK kvs)) (h:∀t s',au X JD σ H s'->Q (.int kvs.length t) s'):Du (Dx X.prog X.w) A (call (.builtin "len") [.ref a]) Q E s:=by
 obtain⟨z,hd,vs,Mx,dd⟩:=nz I.hok e
 refine call_len_dict hd dd (by rw[<-Mx.length];rw[EB]at z;omega) ?_
 rw[<-Mx.length]
 exact h _ _ (I.tok _)
end
def AL (i:Dn):Prop:=∀ov iv,Hw i false ov iv=operate [ov,iv] (HF ov iv)
theorem x9 {prog:Dv} {w:DE} {A:DI} {E:De->Dh->Prop} {s:Dh} {env:EF} {value L5:Dn} {pos:DY} {T id:String} {Q:De->Dh->Prop}
  (hl:typeLookup (.type T) "__getitem__"=pure (some (.builtin id))) (hs:AL L5)
  (h:Du (Dx prog w) A (DH value env) (λo s₁=>Du (Dx prog w) A (DH L5 env) (λi s₂=>s₂.TypeIs o T/\Du (Dx prog w) A (HF o i) Q E s₂) E s₁) E s):
  Du (Dx prog w) A (DH (.Subscript value L5 pos) env) Q E s:=by
 refine Subscript_ (EH h (λo s₁ h₁=>EH h₁ (λi s₂ h₂=> ?_) λ_ _ x=>x) λ_ _ x=>x)
 obtain⟨hT,h₂⟩:=h₂
 unfold subscriptTail
 refine Dk ?_
 rw[getitemInPython_of_ne hT.not_modules]
 refine Dk (wpAny_specialOf hT hl ?_)
 have Mg:Du (Dx prog w) A (Hw L5 false o i) (λr s₃=>Du (Dx prog w) A (letTemporaryGo value o r>>=λ_=>pure r) Q E s₃) E s₂:=by
  rw[hs o i]
  exact wpAny_operating (EH h₂ (λr s₃ h₃=>Dk (wpAny_letTemporaryGo (DG h₃))) λ_ _ x=>x)
 first
  |exact DG (Dk Mg)
  |exact Dk (DG (Dk Mg))
  |exact Dk Mg
theorem pH {X:Cx} {JD:List (Dg×DP)} {σ:St} {H:Hp} {s:Dh} {a:Dg} {y:V} {o:Option V} (I:au X JD σ H s) (g:jp H a y o):s.TypeIs (.ref a) "dict":=by
 rcases g with ⟨kvs,k,e,_,_⟩|⟨kvs,k,b,e,_,_,_⟩
 ·obtain⟨_,_,vs,_,dd⟩:=nz I.hok e
  exact dd.typeIs
 ·obtain⟨_,_,xs,_,dd⟩:=rW I.hok e
  exact dd.typeIs
def AM (td ty:TE):TE:=λσ H Q=>td σ H λx H1=>ty σ H1 λy H2=>∃a v,x= .ref a/\jp H2 a y (some v)/\Q v H2
def AN (ty td:TE):TE:=λσ H Q=>ty σ H λy H1=>td σ H1 λx H2=>∃a o,x= .ref a/\jp H2 a y o/\Q (.bl o.isSome) H2
def rX (ty td:TE):TE:=λσ H Q=>ty σ H λy H1=>td σ H1 λx H2=>∃a o,x= .ref a/\jp H2 a y o/\Q (.bl (!o.isSome)) H2
section
variable {X:Cx} {o i e value:Dn} {pos Kk Q1:DY} {td ty tv:TE}
theorem xa (hu:X.A.units+1<G0) (ho:PE X o td) (hi:PE X i ty) (hs:AL i):PE X (.Subscript o i pos) (AM td ty):=by
 intro JD s σ H Q I h
 refine x9 PySem.F.slot_dict_getitem.lookup hs (cn (ho JD s σ H _ I h) λu s1 ⟨x,H1,I1,rx,q1⟩=>cn (hi JD s1 σ H1 _ I1 q1) λiv s2 z_=> ?_)
 obtain⟨y,H2,I2,ry,a,v,ex,g,q2⟩:=z_
 subst ex
 obtain rfl:u=DL a:=rx
 exact⟨pH I2 g,t8 hu I2 g ry λw' s3 I3 N5=>⟨v,H2,I3,N5,q2⟩⟩
theorem zj (hu:X.A.units+1<G0) (hi:PE X i ty) (ho:PE X o td):PC X .In i o (AN ty td):=by
 intro JD s σ H Q I h
 refine cn (hi JD s σ H _ I h) λiv s1 ⟨y,H1,I1,ry,q1⟩=>cn (ho JD s1 σ H1 _ I1 q1) λu s2 z_=> ?_
 obtain⟨x,H2,I2,rx,a,ov,ex,g,q2⟩:=z_
 subst ex
 obtain rfl:u=DL a:=rx
 exact C9 hu I2 g ry λs3 I3=>⟨.bl ov.isSome,H2,I3,rfl,q2⟩
theorem t9 (hu:X.A.units+1<G0) (hi:PE X i ty) (ho:PE X o td):PC X .NotIn i o (rX ty td):=by
 intro JD s σ H Q I h
 refine cn (hi JD s σ H _ I h) λiv s1 ⟨y,H1,I1,ry,q1⟩=>cn (ho JD s1 σ H1 _ I1 q1) λu s2 z_=> ?_
 obtain⟨x,H2,I2,rx,a,ov,ex,g,q2⟩:=z_
 subst ex
 obtain rfl:u=DL a:=rx
 exact x8 hu I2 g ry λs3 I3=>⟨.bl (!ov.isSome),H2,I3,rfl,q2⟩
end
section
variable {X:Cx} {pos:DY}
end
section
variable {X:Cx} {JD:List (Dg×DP)} {σ:St} {H:Hp} {s:Dh} {a:Dg} {y d:V} {u r:De} {o:Option V} {A:DI} {E:De->Dh->Prop}
end
section
variable {X:Cx} {o e f:Dn} {JV K9:DY} {td ty tx:TE}
end
section
variable {X:Cx} {JD:List (Dg×DP)} {σ:St} {H:Hp} {s:Dh} {a:Dg} {kvs:List (bR×V)} {A:DI} {E:De->Dh->Prop}
end
section
variable {X:Cx} {JD:List (Dg×DP)} {σ:St} {H:Hp} {s:Dh} {a:Dg} {y:V} {u:De} {A:DI} {E:De->Dh->Prop}
end
end L2
namespace Att
open PySem PySem.W PySem.Calls PyProof.Rows
theorem l8 {P:Params} {h:DB}:∀(ns:List Int) (vs:List De),WellAll P h vs (ns.map WData.int)->GY vs ns:=by
 intro ns
 induction ns with
 |nil=>
  intro vs w
  rw[Fd]at w
  cases w
  exact .nil
 |cons n ns ih=>
  intro vs w
  rw[DD]at w
  cases w with
  |cons a b=>
   cases a
   exact .cons _ _ (ih _ b)
theorem tf {l:OpenLaw} {n:Nat} (hn:l.most=some n) {P:Params} {h:DB} {args:List WData} {Od:List De}
  (NR:l.row.toRowW.claim.pre args=true) (Q8:WellAll P h Od args):
  ∃a vs ns,Od=[DL a]/\args=[WData.list (ns.map WData.int)]/\h.get? a=some {cls:= .type "list",data:= .seq vs.toArray}/\GY vs ns/\ns.length<=n:=by
 have RD:WShape.hasAll [] args [.list .int]=true:=(pre_splitW NR).1
 have hc:l.pre.holds [] {args:=args}=true:=(pre_splitW NR).2
 obtain⟨d,r,rfl,h1,h2⟩:=hasAllW_cons RD
 obtain rfl:=hasAllW_nil h2
 obtain⟨xs,rfl,h3⟩:=hasW_list h1
 obtain⟨ns,rfl⟩:=items_int h3
 have K7:ns.length<=n:=by
  unfold OpenLaw.pre at hc
  have h4:(WTm.not (.lt (.lit (.int (n:Int))) (.len (.arg 0)))).holds [] {args:=[.list (ns.map .int)]}=true:=by
   have h4:=(holds_andW hc).1
   rw[hn]at h4
   exact h4
  have h5:=condW_of h4 (w_not (w_lt w_lit (w_len_list (w_arg rfl))))
  rw[Dl]at h5
  refine Hf λq=> ?_
  have q':(n:Int)<((ns.length:Nat):Int):=by omega
  first
   |(rw[decide_eq_true q']at h5;exact absurd h5 (by decide))
   |(simp at h5;omega)
 cases Q8 with
 |cons w1 w2=>
  cases w2
  cases w1 with
  |list ho Q9=>exact⟨_,_,ns,rfl,rfl,ho,l8 ns _ Q9,K7⟩
theorem ti (l:OpenLaw) (args:List WData):l.row.toRowW.claim.post args (.bool true) args=true:=
 postW_of (r:=l.row.toRowW) (X:=(true==true))
  (show WShape.has [] (.bool true) .bool=true by first|rfl|decide|simp[WShape.has,WShape.arms,WShape.armsAll])
  (show (WTm.eq .res (.lit (.bool true))).value [] {args:=args,res:=some (.bool true),after:=args}=some (.bool (true==true))from w_eq_bool (w_res rfl) w_lit) rfl
theorem attach_call {l:OpenLaw} {n:Nat} {q:Dv} {Mh:List Df} {XP:(Df->Option De)->DB->Prop} {YP:DE->DB->Prop} {d:DefRec}
  (hn:l.most=some n) (OY:d.params.defaults=[])
  (call:∀(w:DE) (s₀ s₁:Dh) (mg mb:Df->Option De) (fa:Dg) (o:DP) (pm cd KW:De) (a:Dg) (vs:List De) (ns:List Int),
   Ground q Mh [] XP w s₀ mg mb s₁.heap->YP w s₁.heap->
   s₁.heap.get? fa=some o->o.data= .func (docDef d.name d.params d.body d.scope pm cd KW)->s₁.heap.CodeRec cd d.name->mg d.name=some (.ref fa)->
   s₁.heap.get? a=some {cls:= .type "list",data:= .seq vs.toArray}->GY vs ns->ns.length<=n->s₁.gens= #[]->
   G6 (Dx l.prog w) G_ (.call (.ref fa) ⟨[.ref a],[]⟩) (λr s'=>r= .ok (.ret (.bool true))/\OldK s₁.heap s'.heap/\s'.os=s₁.os/\G5 s'.gens) s₁):
  WalkO q Mh XP YP l.row.toRowW d [] (λf vs=>Jf f vs):=by
 intro w s₀ s₁ mg mb G Y fa o pm cd KW dV kV ho hd Lh hD Qa hg args Od as NR RE Th Q8 Ti
 obtain rfl:dV= .none:=Dflts.none hD OY
 obtain rfl:kV= .none:=Dflts.noKw hD
 obtain⟨a,vs,ns,rfl,rfl,Oe,NB,K7⟩:=tf hn NR Q8
 refine enter_call (G2 (call w s₀ s₁ mg mb fa o pm cd KW a vs ns G Y ho (fd_plain hd) Lh Qa Oe NB K7 hg) λr s' hq=> ?_)
 obtain⟨rfl,h2,h3,h4⟩:=hq
 exact⟨.inl ⟨.bool true, .bool true,[],rfl,λ_=>rfl, .bool true,ti l _,λ_=>⟨GN,λ_ hm=>(nomatch hm)⟩⟩,h2,h3,h4⟩
section
variable {prog:Dv} {w:DE} {A:DI} {E:De->Dh->Prop} {s:Dh} {K:Frag}
end
end Att
namespace L2
open PySem PySem.Spec PyProof.Rows
theorem iz:∀{vs:List De} {ns:List Int},GY vs ns->aF (ns.map V.int) vs
 |_,_, .nil=> .nil
 |_,_, .cons n t h=> .cons ⟨t,rfl⟩ (iz h)
def zk (H:Hp):Prop:=∀b,H b=none\/∃o xs,H b=some (.frz o (.lst xs))
theorem uP {P:Dv} {w:DE} {K:Dd} {mg mb:Df->Option De} {CX:qG} {k:Nat} {fa a:Dg} {fd:Eg} {x:Df} {sp:Sp} {s₁:Dh} {vs:List De} {ns:List Int}
  (KX:K.In s₁.heap) (MW:s₁.heap.Ns Dm mg) (hb:s₁.heap.Ns Ja mb) (RF:∀x:Df,x≠"__name__"->mb x=DZ x) (Qb:s₁.heap.NoLimit) (hg:s₁.gens= #[])
  (ha:s₁.heap.get? a=some {cls:= .type "list",data:= .seq vs.toArray}) (hi:GY vs ns) (hl:ns.length<=sizeLine) (hr:br k G_)
  (F:∀base:DB,K.In base->base.Ns Dm mg->cV P w K mg base CX k fa fd [x] sp) (OZ:∀(s:Dh) (u:De),HE s fd ⟨[u],[]⟩ [(x,u)])
  (NM:∀H:Hp,zk H->dc K H a (ns.map V.int)->sp [.ref a] H (λv _=>v= .bl true) λ_ _ _=>False)
  (Qc:∀H e s',CX [] H s₁ (λ_ _ _=>False) e s'->False):
  G6 (Dx P w) G_ (.call (.ref fa) ⟨[.ref a],[]⟩) (λr s'=>r= .ok (.ret (.bool true))/\OldK s₁.heap s'.heap/\s'.os=s₁.os/\G5 s'.gens) s₁:=by
 have rv:=iz hi
 have Qd:=hi.length
 have O_:∀H:Hp,zk H->dc K H a (ns.map V.int)->h_ P w H s₁.heap->(∀b,H b≠none->b=a)->(H a≠none->K.lookup a=none)->
   G6 (Dx P w) G_ (.call (.ref fa) ⟨[.ref a],[]⟩) (λr s'=>r= .ok (.ret (.bool true))/\OldK s₁.heap s'.heap/\s'.os=s₁.os/\G5 s'.gens) s₁:=by
  intro H hO hS hok hA hK
  have N6:∀{b:Dg} {o:DP},s₁.heap.get? b=some o->H b=none->(o1 s₁.heap H).get? b=some o:=λe n=>ut e n
  have OU:∀{b:Dg} {o:DP} {es:Array DictEntry} {ep:Nat},s₁.heap.get? b=some o->o.data= .dict es ep->H b=none:=λ{b o es ep} e d=>by
   cases q:H b with
   |none=>rfl
   |some u=>
    have e':b=a:=hA b (by rw[q];simp)
    subst e'
    rw[ha]at e;cases e
    have d':Jx vs.toArray _=Data.dict es ep:=d
    cases d'
  have Py:∀{b:Dg} {m:Df->Option De},s₁.heap.Ns b m->(o1 s₁.heap H).Ns b m:=λ{b m} ⟨o,es,ep,e,d,r⟩=>⟨o,es,ep,N6 e (OU e d),d,r⟩
  have R5:K.In (o1 s₁.heap H):=λb o e=>N6 (KX b o e) (by
   cases q:H b with
   |none=>rfl
   |some u=>
    have e':b=a:=hA b (by rw[q];simp)
    subst e'
    rw[hK (by rw[q];simp)]at e;cases e)
  have hM:Mod K mg (o1 s₁.heap H):=⟨R5,Py MW,⟨mb,Py hb,RF⟩,let ⟨mc,h1,h2⟩:=Qb;⟨mc,Py h1,h2⟩⟩
  have e0:qH P w K mg (o1 s₁.heap H) G_ [] s₁ H:=⟨rfl,hM,λb o e=>wC e,Hc (sQ _ _),trivial,λb hb=>absurd (show b∈([]:List Dg)from hb) (by simp),hok, .of_eq hg⟩
  refine G2 ((F _ R5 (Py MW)).run G_ [] s₁ H ⟨[.ref a],[]⟩ [.ref a] [.ref a] _ _ hr e0 (OZ s₁ (.ref a)) (.cons rfl .nil) (NM H hO hS)) λr s' h=> ?_
  cases r with
  |error e=>exact(Qc H e s' h).elim
  |ok fl=>
   cases fl with
   |next=>exact Et h
   |brk=>exact Et h
   |cont=>exact Et h
   |ret u=>
    obtain⟨v,H',os,bare,un,Qe,r',q⟩:=h
    have q':v= .bl true:=q
    subst q'
    obtain rfl:u=HK true:=r'
    refine⟨rfl,OldK.of_keep λb o e=> ?_,os,bare⟩
    cases q:H b with
    |none=>exact un.keep b o e q (by intro z;exact absurd (show b∈([]:List Dg)from z) (by simp)) (by simp)
    |some u=>
     rcases hO b with z|⟨ob,xs,z⟩
     ·rw[q]at z;cases z
     ·have z2:=un.frzs b ob _ z
      obtain⟨e1,_⟩:=hok b _ z
      obtain⟨e2,_⟩:=Qe b _ z2
      rw[e]at e1;cases e1
      exact e2
 cases hk:K.lookup a with
 |some o=>
  have e:=KX a o hk
  rw[ha]at e
  cases e
  refine O_ (λ_=>none) (λ_=> .inl rfl) (.inr ⟨_,vs.toArray,_,hk,rfl,rfl,rfl,by rw[Dr,Qd];exact hl,by simpa using rv⟩) (λb u z=>by have z':(none:Option HO)=some u:=z;cases z') (λb z=>absurd rfl z) λz=>absurd rfl z
 |none=>
  refine O_ (λb=>if b=a then some (.frz {cls:= .type "list",data:= .seq vs.toArray} (.lst (ns.map V.int)))else none) (λb=> ?_) (.inl (.inr ⟨{cls:= .type "list",data:= .seq vs.toArray},if_pos rfl⟩)) (λb u z=> ?_) (λb z=> ?_) λ_=>hk
  ·by_cases hb:b=a
   ·exact .inr ⟨_,_,if_pos hb⟩
   ·exact .inl (if_neg hb)
  ·by_cases hb:b=a
   ·have z':=(if_pos hb).symm.trans z
    cases z'
    subst hb
    exact⟨ha,by rw[Dl];exact hl,vs,_,rv,ha⟩
   ·have z':=(if_neg hb).symm.trans z
    cases z'
  ·by_cases hb:b=a
   ·exact hb
   ·exact absurd (if_neg hb) z
end L2
namespace L2
open PySem PySem.Spec PyProof.Rows
theorem xb {l:Ht} {n k:Nat} {q:Dv} {Mh:List Df} {XP:(Df->Option De)->DB->Prop} {YP:DE->DB->Prop} {d:DefRec} {K:Params->Dd} {CX:DE->qG} {sp:DE->Sp} {x:Df}
  (hn:l.most=some n) (Oa:n<=sizeLine) (OY:d.params.defaults=[]) (hr:br k G_)
  (hY:∀(w:DE) (h:DB),YP w h->(K w.params).In h)
  (F:∀(w:DE) (mg:Df->Option De) (fa:Dg) (h:DB),(K w.params).In h->h.Ns Dm mg->mg d.name=some (.ref fa)->
   ∃fd:Eg,(∀(s:Dh) (u:De),HE s fd ⟨[u],[]⟩ [(x,u)])/\
    ∀base:DB,(K w.params).In base->base.Ns Dm mg->cV l.prog w (K w.params) mg base (CX w) k fa fd [x] (sp w))
  (NM:∀(w:DE) (H:Hp) (a:Dg) (ns:List Int),ns.length<=n->zk H->dc (K w.params) H a (ns.map V.int)->sp w [.ref a] H (λv _=>v= .bl true) λ_ _ _=>False)
  (Qc:∀(w:DE) (H:Hp) (s:Dh) (e:De) (s':Dh),CX w [] H s (λ_ _ _=>False) e s'->False):
  Jr q Mh XP YP l.row.toRowW d [] (λf vs=>Jf f vs):=by
 refine Att.attach_call hn OY λw s₀ s₁ mg mb fa o pm cd KW a vs ns G Y ho hd Lh Qa Oe NB K7 hg=> ?_
 have KX:=hY w _ Y
 obtain⟨fd,hb,hF⟩:=F w mg fa _ KX G.T.g Qa
 exact uP KX G.T.g G.T.b G.T.builtins G.T.nolimit hg Oe NB (E1 K7 Oa) hr hF hb (λH hO hS=>NM w H a ns K7 hO hS) λH e s'=>Qc w H s₁ e s'
end L2
namespace L2
open PySem PySem.Spec PyProof.Rows
def bz (s:DJ) (j:Nat):DJ:=match s with
 | .ClassDef _ _ _ body _ _ _ _ _ _ _=>body.getD j (.Pass ⟨0,0,0,0⟩)
 |_=> .Pass ⟨0,0,0,0⟩
def bT (s:DJ):Arguments:=match s with
 | .FunctionDef _ a _ _ _ _ _ _ _ _=>a
 |_=>{posonlyargs:=[],args:=[],vararg:=none,kwonlyargs:=[],kw_defaults:=[],kwarg:=none,defaults:=[]}
def aO (s:DJ):List DJ:=match s with
 | .FunctionDef _ _ b _ _ _ _ _ _ _=>b
 |_=>[]
def ac (s:DJ):EO:=match s with
 | .FunctionDef _ _ _ _ _ _ sc _ _ _=>sc
 |_=>{kind:= .function,names:=[],isGenerator:=false,isCoroutine:=false}
abbrev Ca:qG:=λ_ _ _ _ _ _=>False
abbrev E0:XK:=λ_ _ _=>False
theorem yp {X:Cx}:gJ Ca X (λ_=>E0):=λ_ _ _ _ _ _ _ h=>h.elim
structure rY (K:Dd) (x qual:Df) (st:DJ) (f:Dg) (fd:Eg):Prop where
 ex:∃(oc:De) (od:Option Dg) (kV KW pm:De) (an:Option Dg) (JK ct:De) (M6:Array (Option De)),
  fd=E2 x qual (bT st) (aO st) (ac st) .none kV KW pm an JK ct/\K.lookup f=some ⟨oc,od, .func fd,M6⟩/\Fc K JK qual=true
 kp:D_ K (.ref f)=true
section
variable {P:Dv} {w:DE} {K:Dd} {mg:Df->Option De} {base:DB}
theorem rY.ok {x qual:Df} {st:DJ} {f:Dg} {fd:Eg} {N ps:List Df} {k:Nat} {sp:Sp} (F:rY K x qual st f fd) (S:aw N ps (ac st)) (len:∀vs H Q E,sp vs H Q E->vs.length=ps.length)
  (K2:∀(JK:De) (A:DI) (outer:List EF) (s:Dh) (H:Hp) (vs:List V) (Q:VK) (E:XK),br k (A.deeper (EJ qual (ac st) s.heap.objs.size f JK))->sp vs H Q E->
   ∃t,nc (fA Ca P w K mg base N qual (ac st) f JK A outer s H E).nox (aO st) t/\t {nx:=λ_ H'=>Q .non H',rt:=Q} (cF N vs) H):cV P w K mg base Ca (k+1) f fd ps sp:=by
 obtain⟨oc,od,kV,KW,pm,an,JK,ct,M6,rfl,lk,Lh⟩:=F.ex
 refine yl lk Lh S len λA outer s H vs Q E hr NM=> ?_
 obtain⟨t,h,q⟩:=K2 JK A outer s H vs Q E hr NM
 exact⟨t,h.nox,q⟩
theorem rY.binds {x qual:Df} {st:DJ} {f:Dg} {fd:Eg} {ps:List Df} (F:rY K x qual st f fd)
  (h:∀(kV KW pm:De) (an:Option Dg) (JK ct:De) (us:List De),us.length=ps.length->EY (E2 x qual (bT st) (aO st) (ac st) .none kV KW pm an JK ct) ⟨us,[]⟩=pure (ps.zip us)):dg K fd ps []:=by
 obtain⟨oc,od,kV,KW,pm,an,JK,ct,M6,rfl,lk,Lh⟩:=F.ex
 exact .all (h kV KW pm an JK ct)
theorem iZ {x qual:Df} {st:DJ} {f:Dg} {oc:De} {od an:Option Dg} {M6:Array (Option De)} {kV KW pm JK ct:De} (l:K.lookup f=some ⟨oc,od, .func (E2 x qual (bT st) (aO st) (ac st) .none kV KW pm an JK ct),M6⟩)
  (c:Fc K JK qual=true) (k:D_ K (.ref f)=true):rY K x qual st f (E2 x qual (bT st) (aO st) (ac st) .none kV KW pm an JK ct):=⟨⟨oc,od,kV,KW,pm,an,JK,ct,M6,rfl,l,c⟩,k⟩
end
theorem bA {A:DI} {k:Nat} (hr:br k A):A.units+1<G0:=GF (Nat.add_le_add_left (by decide:1<=64) _) hr.units
section
variable {X:Cx}
theorem pv (i:Nat) {x:Df} {pos:DY} (hN:X.N[i]? =some x:=by rfl) (hv:l7 X.env.scope x:=by first|exact E6 rfl|exact DW (E6 rfl)|exact DW (DW rfl)) (hd:(x==("__debug__":Df))=false:=by decide)
  (Lh:(x==("__classdict__":Df))=false:=by decide):PE X (.Name x pos) (uv i):=yK hN hv hd Lh
end
def az (H H':Hp):Prop:=∀b o,H b=some o->H' b=some o
theorem az.refl (H:Hp):az H H:=λ_ _ h=>h
theorem az.trans {H H1 H2:Hp} (a:az H H1) (b:az H1 H2):az H H2:=λc o h=>b c o (a c o h)
theorem az.free {H H':Hp} (e:az H H') {l:Dg} (h:H' l=JC):H l=JC:=by
 cases q:H l with
 |none=>rfl
 |some o=>
  rw[e l o q]at h
  cases h
theorem az.seq {K:Dd} {H H':Hp} {a:Dg} {xs:List V} (e:az H H') (h:dc K H a xs):dc K H' a xs:=by
 rcases h with (h|⟨o,h⟩)|h
 ·exact .inl (.inl (e _ _ h))
 ·exact .inl (.inr ⟨o,e _ _ h⟩)
 ·exact .inr h
section
variable {κ:Type} [DecidableEq κ]
end
end L2
namespace L2
open PySem PySem.Spec PyProof.Rows
def jY (env:EF):List (Df×E4)->List (Df×Dg)->List (Df×Dg)
 |[],cs=>cs
 |(n,k)::r,cs=>jY env r (if k= .free then (match env.cells.lookup n with|some c=>(n,c)::cs|none=>cs)else cs)
theorem lM (env:EF):∀(names:List (Df×E4)) (cs:List (Df×Dg)),(∀y∈names,y.2= .free->∃c,env.cells.lookup y.1=some c)->
  (forIn names cs λ(x:Df×E4) (r:List (Df×Dg))=>(if (x.2==En)=true then do
    let a<-cellOf env x.1
    pure (Gu ((x.1,a)::r))else pure (Gu r):Gd (ForInStep (List (Df×Dg)))))=pure (jY env names cs)
 |[],cs,_=>rfl
 |(n,k)::r,cs,h=>by
  rw[List.forIn_cons]
  by_cases hk:k= .free
  ·subst hk
   obtain⟨c,hc⟩:=h (n, .free) Dt rfl
   have e:cellOf env n=pure c:=by unfold cellOf;rw[hc]
   simp only[beq_self_eq_true,if_true,e]
   unfold jY
   simp only[if_true,hc]
   exact lM env r ((n,c)::cs) λy hy=>h y (Dw _ hy)
  ·have hb:(k==En)=false:=by simpa using hk
   simp only[hb,E7,if_false]
   unfold jY
   rw[if_neg hk]
   exact lM env r cs λy hy=>h y (Dw _ hy)
theorem rZ {scope:EO} {env:EF} (h:∀y∈scope.names,y.2= .free->∃c,env.cells.lookup y.1=some c):closureFor scope env=pure (jY env scope.names []):=by
 have:=lM env scope.names [] h
 unfold closureFor
 simp only[bind_pure]
 exact this
theorem dY {env:EF} {x:Df} {c:Dg}:∀{names:List (Df×E4)} {cs:List (Df×Dg)},(∀c,cs.lookup x=some c->env.cells.lookup x=some c)->(jY env names cs).lookup x=some c->env.cells.lookup x=some c
 |[],cs,h,e=>h c e
 |(n,k)::r,cs,h,e=>by
  unfold jY at e
  refine dY (names:=r) (λd hd=> ?_) e
  split at hd
  ·split at hd
   ·rename_i c' hc
    rw[Ef]at hd
    cases hx:x==n with
    |true=>rw[hx]at hd;have:=eq_of_beq hx;subst this;rw[hc];exact hd
    |false=>rw[hx]at hd;exact h d hd
   ·exact h d hd
  ·exact h d hd
theorem nA {env:EF} {x:Df}:∀{names:List (Df×E4)} {cs:List (Df×Dg)},(∃c,cs.lookup x=some c)->∃c,(jY env names cs).lookup x=some c
 |[],cs,h=>h
 |(n,k)::r,cs,h=>by
  unfold jY
  refine nA (names:=r) ?_
  split
  ·split
   ·rename_i c' hc
    rw[Ef]
    cases x==n with
    |true=>exact⟨_,rfl⟩
    |false=>exact h
   ·exact h
  ·exact h
theorem lN {env:EF} {x:Df}:∀{names:List (Df×E4)} {cs:List (Df×Dg)},(x,En)∈names->(∃c,env.cells.lookup x=some c)->∃c,(jY env names cs).lookup x=some c
 |(n,k)::r,cs,h,hc=>by
  unfold jY
  rcases DA.mp h with h|h
  ·cases h
   obtain⟨c,hc⟩:=hc
   refine nA (names:=r) ?_
   rw[if_pos rfl,hc]
   exact⟨c,by simp⟩
  ·exact lN h hc
def lO (N:List Df) (names:List (Df×E4)) (σ:St):St:=
 names.map λx=>if x.2= .free then ((N.findIdx? (·==x.1)).bind λi=>(σ[i]?).join)else none
def bU (X:Cx) (scope:EO) (s:Dh) (H:Hp) (ex:List Dg):Cx:=
 {X with N:=scope.names.map (·.1),s₀:=s,H₀:=H,env:=compEnvC scope (jY X.env scope.names []) s.heap.objs.size X.env,outer:=X.stack,ex:=ex,fn:=λ_=>false,pn:=[],xe:=λ_ _=>False}
structure aU (X:Cx) (scope:EO):Prop where
 kind:scope.kind= .function
 nocell:∀y∈scope.names,y.2≠ .cell
 loc:∀y∈scope.names,y.2= .local->scope.names.lookup y.1=some .local
 free:∀y∈scope.names,y.2= .free->X.env.kindOf y.1=some .cell\/X.env.kindOf y.1=some .free
 nd:(scope.names.map (·.1)).Nodup
theorem dh {env:EF} {x:Df}:∀{names:List (Df×E4)} {k:E4},
  (names.map λ(n,k)=>if (k==En&&env.scope.kind== .function&&env.kindOf n==some .cell)then (n,HX)else (n,k)).lookup x=some k->
  names.lookup x=some k\/(names.lookup x=some .free/\k= .cell)
 |[],k,h=>by simp at h
 |(n,j)::r,k,h=>by
  have ih:= @dh env x r k
  rw[DD,Ef]at h
  rw[Ef]
  by_cases hc:(j==En&&env.scope.kind== .function&&env.kindOf n==some .cell)=true
  ·rw[if_pos hc]at h
   have hj:j= .free:=by
    simp only[Eu]at hc
    exact eq_of_beq hc.1.1
   cases hx:x==n with
   |true=>rw[hx]at h;simp at h;exact .inr ⟨by rw[hj],h.symm⟩
   |false=>rw[hx]at h;exact ih h
  ·rw[if_neg hc]at h
   cases hx:x==n with
   |true=>rw[hx]at h;exact .inl h
   |false=>rw[hx]at h;exact ih h
theorem dZ {α β:Type} [BEq α] [LawfulBEq α] {x:α} {b:β}:∀{l:List (α×β)},l.lookup x=some b->(x,b)∈l
 |[],h=>by simp at h
 |(a,c)::r,h=>by
  rw[Ef]at h
  cases hx:x==a with
  |true=>rw[hx]at h;have:=eq_of_beq hx;subst this;cases h;exact Dt
  |false=>rw[hx]at h;exact Dw _ (dZ h)
section
variable {X:Cx} {JD:List (Dg×DP)} {σ:St} {H:Hp} {s:Dh} {scope:EO}
theorem aU.cellOf (S:aU X scope) (ok:X.Ok):∀y∈scope.names,y.2= .free->∃c,X.env.cells.lookup y.1=some c:=λy hy hf=>ok.has y.1 (S.free y hy hf)
theorem r_ (S:aU X scope) (I:au X JD σ H s) {fp:List Dg} (MA:∀b∈fp,jj X JD H b/\b<s.heap.objs.size):(bU X scope s H fp).Ok where
 mod:=I.mod
 kind:=S.kind
 glob:=I.ok.glob
 blt:=I.ok.blt
 above:=DK _
 inj:=λx y c hx hy=>I.ok.inj x y c (dY (by intro c h;simp at h) hx) (dY (by intro c h;simp at h) hy)
 has:=λx hx=>by
  have hm:(x,En)∈scope.names:=by
   rcases hx with hx|hx
   ·rcases dh hx with h|⟨h,_⟩
    ·exact absurd rfl (S.nocell _ (dZ h))
    ·exact dZ h
   ·rcases dh hx with h|⟨h,_⟩<;>exact dZ h
  exact lN hm (S.cellOf I.ok _ hm rfl)
 cab:=λx c h=>by cases h
 hd:=I.ok.hd
 frames:=I.ok.frames
 stk:= .inl rfl
 exf:=λb hb=>⟨DV (MA b hb).2,λx c hx=>(MA b hb).1.2.2.2.2.1 x c (dY (by intro c h;simp at h) hx)⟩
 bs:=I.bs
 bsz:=E1 I.ok.bsz I.sz
 noex:=λb o e hb=>by
  rcases(MA b hb).1.2.2.2.1 with h|h
  ·exact I.ok.noex b o e h
  ·have h1:b<X.base.objs.size:=Dz e
   exact El _ (DS h1 (E1 I.ok.bsz h))
 exfs:=λb hb hc=>by
  have:=I.stkSub b hc
  rcases DA.mp this with h|h
  ·exact(MA b hb).1.2.1 h
  ·exact(MA b hb).1.2.2.1 h
 funs:=I.stack
 frf:=I.stkFree
theorem zl (S:aU X scope) (I:au X JD σ H s) {fp:List Dg} (MA:∀b∈fp,jj X JD H b/\b<s.heap.objs.size) {h':DB} {t':Nat}
  (hn:h'.Ns s.heap.objs.size λ_=>none) (k:∀b o,s.heap.get? b=some o->h'.get? b=some o):
  au (bU X scope s H fp) [] (lO X.N scope.names σ) H {s with heap:=h',toks:=t'}where
 ok:=r_ S I MA
 os:=rfl
 bare:=I.bare
 base:=Un.kept k
 loc:=by
  refine⟨_,hn,λi x v hi hv _=> ?_⟩
  have N7:(scope.names.map (·.1))[i]? =some x:=hi
  rw[DQ]at N7
  unfold lO at hv
  rw[DQ]at hv
  cases e:scope.names[i]? with
  |none=>rw[e]at N7;cases N7
  |some y=>
   rw[e]at N7 hv
   have hx:y.1=x:=by simpa using N7
   have hy:y∈scope.names:=Ek e
   simp only[Ft,GO]at hv
   by_cases hf:y.2= .free
   ·rw[if_pos hf]at hv
    cases ei:X.N.findIdx? (·==y.1)with
    |none=>rw[ei]at hv;cases hv
    |some j=>
     rw[ei]at hv
     have hj:σ[j]? =some (some v):=by
      cases e2:σ[j]? with
      |none=>simp[e2]at hv
      |some o=>simp only[Hg,e2,Option.join_some]at hv;rw[hv]
     obtain⟨hl,hp,_⟩:=List.findIdx?_eq_some_iff_getElem.mp ei
     have hN:X.N[j]? =some x:=by
      rw[Ff hl]
      have:=eq_of_beq hp
      rw[this,hx]
     have hk:=S.free y hy hf
     rw[hx]at hk
     obtain⟨m,_,hm⟩:=I.loc
     obtain⟨u,ru,lu⟩:=hm j x v hN hj (by
      rcases hk with q|q
      ·exact .inr (.inl q)
      ·exact .inr (.inr q))
     refine⟨u,ru,?_⟩
     rcases lu with ⟨q,_⟩|⟨_,c,hc,N4⟩
     ·rcases hk with z|z<;>rw[z]at q<;>cases q
     ·have NC:(x,En)∈scope.names:=by
       have:y=(x,En):=by cases y;simp at hx hf;rw[hx,hf]
       rw[<-this];exact hy
      obtain⟨d,hd⟩:=lN (cs:=[]) NC (S.cellOf I.ok _ NC rfl)
      have RG:d=c:=by
       have:=dY (cs:=[]) (by intro c h;simp at h) hd
       rw[this]at hc
       exact Eh hc
      refine .inr ⟨?_,d,hd,?_⟩
      ·show (IF scope X.env).names.lookup x=some .cell\/(IF scope X.env).names.lookup x=some .free
       have RH:∃k,(IF scope X.env).names.lookup x=some k:=by
        unfold IF
        cases el:(scope.names.map λ(n,k)=>if (k==En&&X.env.scope.kind== .function&&X.env.kindOf n==some .cell)then (n,HX)else (n,k)).lookup x with
        |some k=>exact⟨k,rfl⟩
        |none=>
         exfalso
         rw[List.lookup_eq_none_iff]at el
         have:=el (if (En==En&&X.env.scope.kind== .function&&X.env.kindOf x==some .cell)then (x,HX)else (x,En)) (G4.mpr ⟨_,NC,rfl⟩)
         split at this<;>simp at this
       obtain⟨k,Of⟩:=RH
       rcases dh Of with h|⟨_,h⟩
       ·have Qf:=dZ h
        have:k= .free:=by
         have nd:=S.nd
         obtain⟨a,ha,e1⟩:=HQ.mp NC
         obtain⟨b,hb,e2⟩:=HQ.mp Qf
         have:a=b:=by
          refine(Hb (h₀:=by simpa using ha) (h₁:=by simpa using hb) nd).mp ?_
          rw[IY,IY,e1,e2]
         subst this
         rw[e1]at e2
         cases e2;rfl
        subst this
        exact .inr Of
       ·subst h;exact .inl Of
      ·rw[RG];exact N4.keeps k
   ·rw[if_neg hf]at hv;cases hv
 cell:=λx c hx=>by
  obtain⟨v,hv⟩:=I.cell x c (dY (cs:=[]) (by intro c h;simp at h) hx)
  exact⟨v,hv.keeps k⟩
 free:=I.hok.fresh (DK _)
 freeC:=λx c hx=>I.freeC x c (dY (cs:=[]) (by intro c h;simp at h) hx)
 pin:=λp hp=>by cases hp
 hok:=I.hok.kept k
 len:=by simp[bU,lO]
theorem s9 (I:au X JD σ H s) {fp:List Dg} (MA:∀b∈fp,jj X JD H b/\b<s.heap.objs.size) {τ:St} {H':Hp} {s':Dh} (I':au (bU X scope s H fp) [] τ H' s') {h':DB} {t':Nat}
  (hs:∀b o,b≠s.heap.objs.size->s'.heap.get? b=some o->h'.get? b=some o):au X JD σ H' {s' with heap:=h',toks:=t'}:=by
 have u:Un (lm X.stack) fp H H' s.heap s'.heap:=I'.base
 have hC:H' s.heap.objs.size=none:=I'.free
 have nC:∀b o,s.heap.get? b=some o->b≠s.heap.objs.size:=λb o e=>DV (Dz e)
 refine I.call' (ch:=fp) I'.os ⟨?_,?_,u.free,?_,u.tups,u.frzs,u.tbls⟩ (λb o e=> ?_) I'.bare λb hb=> ?_
 ·exact λb o e n a c=>hs b o (nC b o e) (u.keep b o e n a c)
 ·intro b o e n a c
  obtain⟨sl,q⟩:=u.slot b o e n a c
  exact⟨sl,hs b _ (nC b o e) q⟩
 ·intro b o e a
  obtain⟨o',q⟩:=u.there b o e a
  exact⟨o',hs b _ (nC b o e) q⟩
 ·refine(I'.hok b o e).stay (λc v hc q=>hs c v ?_ q) (λ_ q=>q) λ_ _ q=>q
  intro z
  subst z
  rcases hc with z|z
  ·rw[z]at hC;rw[hC]at e;cases e
  ·rw[hC]at z;cases z
 ·obtain⟨h1,h2,h3,h4,h5,h6⟩:=(MA b hb).1
  exact⟨h4,h2,h5,h6⟩
end
def zm (X:Cx) (Lv:List Dn) (t:TT):Prop:=
 ∀(JD:List (Dg×DP)) (s:Dh) (σ:St) (H:Hp) (Q:Bool->Hp->Prop),au X JD σ H s->t σ H Q->
  Du (Dx X.prog X.w) X.A (forIn Lv true λc r=>if r=true then do let ok<-HC c X.env (DH c X.env);pure (Gu ok)else pure (Gu r)) (TP X JD σ Q) X.xe s
theorem xc {X:Cx}:zm X [] (λ_ H Q=>Q true H):=λ_ _ _ H _ I h=>wpAny_tests_nil ⟨H,I,h⟩
def lP (J:It) (g:TG) (tt:TT) (te:TE) (D:Dg) (τ0:St) (Q:Hp->Prop) (H1:Hp):Prop:=
 ∃W:Nat->Nat->List V->St->Hp->Prop,(∃m,W 0 m [] τ0 H1)/\∀i m ys τ H,W i m ys τ H->H D=some (.lst ys)/\
  ((J.stop i H/\Q H)\/(J.go i H/\ys.length<sizeLine/\∀x H',J.yld i H x H'->g x τ H' λτ2 H2=>tt τ2 H2 λb H3=>
   if b=true then te τ2 H3 λy H4=>H4 D=some (.lst ys)/\∃m',m'<m/\W (i+1) m' (ys++[y]) τ2 (a_ H4 D (.lst (ys++[y])))else ∃m',m'<m/\W (i+1) m' ys τ2 H3))
def AO (N:List Df) (names:List (Df×E4)) (wi:TI) (g:TG) (tt:TT) (te:TE):TE:=λσ H Q=>
 wi σ H λJ H1=>∀D,H1 D=none->lP J g tt te D (lO N names σ) (λH2=>Q (.ref D) H2) (a_ H1 D (.lst []))
section
variable {X:Cx} {LK tg J_:Dn} {Lv:List Dn} {scope:EO} {pos:DY} {wi:TI} {g:TG} {tt:TT} {te:TE}
theorem xf (S:aU X scope) (hc:X.calm=true) (hg:∀s H ex,PG (bU X scope s H ex) tg g) (Nc:∀s H ex,zm (bU X scope s H ex) Lv tt) (N8:∀s H ex,PE (bU X scope s H ex) LK te)
  {JD:List (Dg×DP)} {σ:St} {H:Hp} {s:Dh} (I:au X JD σ H s) {fp:List Dg} {it D:Dg} {tn:Nat->DB->Prop} {J:It} (T:sS X.prog X.w X.K tg J fp it tn)
  (MA:∀b∈fp,jj X JD H b/\b<s.heap.objs.size) {Q:Hp->Prop} {R:Im->Dh->Prop}
  (hR:∀τ H' s',au (bU X scope s H fp) [] τ H' s'->Q H'->R (.ok .next) s')
  {s1:Dh} {τ0:St} (I1:au (bU X scope s H fp) [] τ0 H s1) (ht:tn 0 s1.heap) (q:lP J g tt te D τ0 Q H):
  G6 (Dx X.prog X.w) X.A (.compLoop (.ListComp LK [⟨tg,J_,Lv,0⟩] scope pos) 0 (.ref it) (.ref D) (bU X scope s H fp).env) R s1:=by
 obtain⟨W,⟨m0,w0⟩,O8⟩:=q
 have MU:∀{H':Hp},(∀b∈fp,H' b=none)->∀b∈fp,jj (bU X scope s H fp) [] H' b:=λ{H'} hn b hb=>
  ⟨hn b hb,DV (MA b hb).2,(r_ S I MA).exfs b hb, .inl hb,λx c hx=>(MA b hb).1.2.2.2.2.1 x c (dY (cs:=[]) (by intro c h;simp at h) hx),λp hp=>by cases hp⟩
 refine codeAny_loop rfl (λn s'=>∃i ys τ H',au (bU X scope s H fp) [] τ H' s'/\tn i s'.heap/\(∀b∈fp,H' b=none)/\W i n ys τ H') (λn s2 hI=> ?_) m0 ⟨0,[],τ0,H,I1,ht,λb hb=>(MA b hb).1.1,w0⟩
 obtain⟨i,ys,τ,H2,I2,N_,R6,w2⟩:=hI
 show Du _ X.A ((compTurn (.ListComp LK [⟨tg,J_,Lv,0⟩] scope pos) 0 (.ref it) (.ref D) (bU X scope s H fp).env).onRaise (λx=>do Iv x (bU X scope s H fp).env;theTreesLotGoes x)) _ _ s2
 refine wpAny_noted ?_
 rw[compTurn_list]
 have up:∀{α:Type} {t:Gd α} {Q:α->Dh->Prop} {E:De->Dh->Prop} {s:Dh},Du (Dx X.prog X.w) X.A t Q (λ_ _=>False) s->Du (Dx X.prog X.w) X.A t Q E s:=λh=>EH h (λ_ _ q=>q) λ_ _ f=>f.elim
 obtain⟨hD,RJ⟩:=O8 i n ys τ H2 w2
 rcases RJ with ⟨stop,qn⟩|⟨go,hz,step⟩
 ·refine Dk (HY (Dk (up (cn (T.done (bU X scope s H fp) rfl rfl rfl hc i [] s2 τ H2 (λ_ _=>False) I2 (MU R6) N_ stop) λr s3 z_=> ?_))))
  obtain⟨hr,I3⟩:=z_
  subst hr
  exact DG (hR _ _ _ I3 qn)
 ·refine Dk (HY (Dk (up (cn (T.item (bU X scope s H fp) rfl rfl rfl hc i [] s2 τ H2 (λ_ _=>False) I2 (MU R6) N_ go) λr s3 z_=> ?_))))
  obtain⟨u,hr,h3⟩:=z_
  subst hr
  refine Dk (up (cn h3 λ_ s4 z_=> ?_))
  obtain⟨x,H4,I4,r4,y4,Qg,RK⟩:=z_
  have RM:=I4.pinned (MU RK) (T.obj _ _ Qg)
  have Nd:∀{τ7:St} {H7:Hp} {s7:Dh},au (bU X scope s H fp) ([]++lH fp s4.heap) τ7 H7 s7->au (bU X scope s H fp) [] τ7 H7 s7/\tn (i+1) s7.heap/\∀b∈fp,H7 b=none:=λI7=>
   ⟨I7.unpinned,T.keep _ _ _ Qg λb hb o e=>(I7.pin (b,o) (DO _ (DO _ (gH hb e)))).1,λb hb=>by
    obtain⟨o,e,d⟩:=T.obj _ _ Qg b hb
    exact(I7.pin (b,o) (DO _ (DO _ (gH hb e)))).2.1⟩
  refine Dk (up (cn (hg s H fp _ s4 τ H4 x u _ RM r4 (step x H4 y4)) λ_ s5 z_=> ?_))
  obtain⟨τ5,H5,I5,q5⟩:=z_
  refine Dk (up (cn (Nc s H fp _ s5 τ5 H5 _ I5 q5) λok s6 z_=> ?_))
  obtain⟨H6,I6,q6⟩:=z_
  cases ok with
  |false=>
   obtain⟨m',hm,w'⟩:=q6
   obtain⟨a,b,c⟩:=Nd I6
   exact DG ⟨rfl,m',hm,i+1,ys,τ5,H6,a,b,c,w'⟩
  |true=>
   rw[if_pos rfl]at q6
   refine Dk (Dk (up (cn (N8 s H fp _ s6 τ5 H6 _ I6 q6) λv s7 z_=> ?_)))
   obtain⟨y,H7,I7,r7,RN,m',hm,w'⟩:=z_
   refine Dk (up (cn (nq (X:=bU X scope s H fp) _ s7 τ5 H7 (.ref D) [y] (.ref D) [v] (λ_ H8=>H8=a_ H7 D (.lst (ys++[y]))) I7 rfl (.cons r7 .nil) ⟨D,ys,y,rfl,rfl,RN,hz,rfl⟩) λ_ s8 z_=> ?_))
   obtain⟨_,H8,I8,_,e8⟩:=z_
   subst e8
   obtain⟨a,b,c⟩:=Nd I8
   exact DG (DG ⟨rfl,m',hm,i+1,ys++[y],τ5,_,a,b,c,w'⟩)
theorem pI (S:aU X scope) (hc:X.calm=true) (hg:∀s H ex,PG (bU X scope s H ex) tg g) (Nc:∀s H ex,zm (bU X scope s H ex) Lv tt) (N8:∀s H ex,PE (bU X scope s H ex) LK te)
  {JD:List (Dg×DP)} {σ:St} {H:Hp} {s:Dh} {E:De->Dh->Prop} (I:au X JD σ H s) {fp:List Dg} {it:Dg} {tn:Nat->DB->Prop} {J:It} (T:sS X.prog X.w X.K tg J fp it tn)
  (MA:∀b∈fp,jj X JD H b) (ht:tn 0 s.heap) {Q:Dg->Hp->Prop} {RR:De->Dg->Im->Dh->Prop}
  (hR:∀(D:Dg) (H3:Hp) (s3:Dh) (τ:St) (H':Hp) (s':Dh),au X JD σ H3 s3->(∀b∈fp,jj X JD H3 b/\b<s3.heap.objs.size)->au (bU X scope s3 H3 fp) [] τ H' s'->Q D H'->RR (.ref D) s3.heap.objs.size (.ok .next) s')
  (q:∀D,H D=none->lP J g tt te D (lO X.N scope.names σ) (Q D) (a_ H D (.lst []))):
  Du (Dx X.prog X.w) X.A (newList []) (λKR s₃=>Du (Dx X.prog X.w) X.A (newFunctionEnv scope X.env.globals (jY X.env scope.names []) [] X.env.qual none .none (some X.env)) (λP0 s₄=>
   G6 (Dx X.prog X.w) X.A (.compStart (.ListComp LK [⟨tg,J_,Lv,0⟩] scope pos) 0 (.ref it) KR {P0 with scope:=IF scope X.env}) (RR KR P0.locals) s₄) E s₃) E s:=by
 have MX:∀b∈fp,b<s.heap.objs.size:=λb hb=>by
  obtain⟨o,e,_⟩:=T.obj _ _ ht b hb
  exact Dz e
 refine GJ ?_
 have I3:=I.lnew (ys:=[]) (its:=[]) (t':=s.toks) .nil (Ew _)
 have hD:H s.heap.objs.size=none:=I.hok.fresh (DK _)
 have Qh:(s.heap.push {cls:= .type "list",data:= .seq ([]:List De).toArray}).objs.size=s.heap.objs.size+1:=FC ..
 have Og:∀b∈fp,jj X JD (a_ H s.heap.objs.size (.lst [])) b/\b<({s with heap:=s.heap.push {cls:= .type "list",data:= .seq ([]:List De).toArray},toks:=s.toks}:Dh).heap.objs.size:=λb hb=>by
  refine⟨⟨?_,(MA b hb).2⟩,?_⟩
  ·rw[ai (DV (MX b hb))];exact(MA b hb).1
  ·show b<(s.heap.push _).objs.size
   rw[Qh]
   exact Fy (MX b hb)
 refine wpAny_newFunctionEnv S.nocell (by intro y hy;simp at hy) (λh₁ P1 P2=> ?_) S.kind
 dsimp only at P1 P2 ⊢
 have k1:∀b o,(s.heap.push {cls:= .type "list",data:= .seq ([]:List De).toArray}).get? b=some o->h₁.get? b=some o:=λb o e=>P2.extBut b o (DV (Dz e)) (Dp _ e)
 have I4:=zl (t':=s.toks) S I3 Og (h':=h₁) P1 k1
 have R7:tn 0 h₁:=T.keep _ _ _ ht λb hb o e=>k1 b o (Dp _ e)
 have P4:G6 (Dx X.prog X.w) X.A (.compLoop (.ListComp LK [⟨tg,J_,Lv,0⟩] scope pos) 0 (.ref it) (.ref s.heap.objs.size) (bU X scope {s with heap:=s.heap.push {cls:= .type "list",data:= .seq ([]:List De).toArray},toks:=s.toks} (a_ H s.heap.objs.size (.lst [])) fp).env)
   (RR (.ref s.heap.objs.size) (s.heap.push {cls:= .type "list",data:= .seq ([]:List De).toArray}).objs.size) {s with heap:=h₁,toks:=s.toks}:=
  xf S hc hg Nc N8 I3 T Og (λτ H' s' I' q'=>hR _ _ _ τ H' s' I3 Og I' q') I4 R7 (q _ hD)
 exact codeAny_compStart_list P4 (T.self _ 0 _ _ _ R7 P4)
theorem sd (S:aU X scope) (hc:X.calm=true) (hi:PI X tg J_ wi) (hg:∀s H ex,PG (bU X scope s H ex) tg g) (Nc:∀s H ex,zm (bU X scope s H ex) Lv tt) (N8:∀s H ex,PE (bU X scope s H ex) LK te)
  (hs:∀x,EM J_ X.env x=pure x:=by intro _;rfl):PE X (.ListComp LK [⟨tg,J_,Lv,0⟩] scope pos) (AO X.N scope.names wi g tt te):=by
 intro JD s σ H Q I h
 rw[eval_ListComp]
 refine Hh (use:=none) rfl hs (rZ (S.cellOf I.ok)) S.kind S.loc (cn (hi JD s σ H _ I h) λv s1 h1=>cn h1 λPx s2 h2=> ?_)
 obtain⟨it,fp,tn,J,H2,e,I2,T,N_,f2,q⟩:=h2
 subst e
 refine pI (Q:=λD H2=>Q (.ref D) H2) (RR:=λKR C=>compPost (Dx X.prog X.w) X.A X.xe none (EP X JD σ Q) KR C) S hc hg Nc N8 I2 T f2 N_ ?_ q
 intro D H3 s3 τ H' s' I3 f3 I' q'
 obtain⟨m,hm,_⟩:=I'.loc
 refine⟨m,hm,λh' Ko=> ?_⟩
 exact⟨.ref D,H',s9 (t':=s'.toks) I3 f3 I' λb o hb e=>Ko.extBut b o hb e,rfl,q'⟩
def AQ (N:List Df) (names:List (Df×E4)) (wi:TI) (g:TG) (tt:TT) (te:TE) (gy:TG):TS:=λD σ H=>
 wi σ H λJ H1=>∀p,H1 p=none->lP J g tt te p (lO N names σ) (λH2=>gy (.ref p) σ H2 D.nx) (a_ H1 p (.lst []))
theorem xg {y:Df} {py Lw:DY} {gy:TG} (S:aU X scope) (hc:X.calm=true) (hi:PI X tg J_ wi) (hg:∀s H ex,PG (bU X scope s H ex) tg g) (Nc:∀s H ex,zm (bU X scope s H ex) Lv tt)
  (N8:∀s H ex,PE (bU X scope s H ex) LK te) (hy:PG X (.Name y py) gy) (Nf:Ei (.ListComp LK [⟨tg,J_,Lv,0⟩] scope pos) (some (.Name y py)) Lw.line X.env=pure true:=by rfl)
  (hs:∀x,EM J_ X.env x=pure x:=by intro _;rfl):PS X (.Assign [.Name y py] (.ListComp LK [⟨tg,J_,Lv,0⟩] scope pos) Lw) (AQ X.N scope.names wi g tt te gy):=by
 intro JD s σ H D I h
 rw[exec_Assign_Name_used _ _ _ _ Nf]
 refine Dk (HY (Dk ?_))
 show Du _ X.A (do let _<-comprehension (.ListComp LK [⟨tg,J_,Lv,0⟩] scope pos) scope X.env _ (newList []) false (DH J_ X.env) (some (assign (.Name y py) X.env))) _ _ s
 refine Dk (EH (Hh (use:=some (assign (.Name y py) X.env)) (Q:=λ_ s'=>SP X JD D .next s') rfl hs (rZ (S.cellOf I.ok)) S.kind S.loc
  (cn (hi JD s σ H _ I h) λv s1 h1=>cn h1 λPx s2 h2=> ?_)) (λ_ s' hq=>DG (DG hq)) λ_ _ e=>e)
 obtain⟨it,fp,tn,J,H2,e,I2,T,N_,f2,q⟩:=h2
 subst e
 refine pI (Q:=λp H2=>gy (.ref p) σ H2 D.nx) (RR:=λKR C=>compPost (Dx X.prog X.w) X.A X.xe (some (assign (.Name y py) X.env)) (λ_ s'=>SP X JD D .next s') KR C) S hc hg Nc N8 I2 T f2 N_ ?_ q
 intro p H3 s3 τ H' s' I3 f3 I' q'
 obtain⟨m,hm,_⟩:=I'.loc
 obtain⟨oC,es,ep,RO,R8,RP,RQ⟩:=hm
 have J1:au X JD σ H' s':=s9 (t':=s'.toks) (h':=s'.heap) I3 f3 I' λb o _ e=>e
 have RS:H' s3.heap.objs.size=none:=I'.free
 have R9:s3.heap.objs.size≠X.env.locals:=λz=>by have:=I3.lt;rw[<-z]at this;exact El _ this
 have J2:au X (JD++[(s3.heap.objs.size,oC)]) σ H' s':=J1.pins_of λq hq=>by
  rcases EX.mp hq with hq|hq
  ·exact J1.pin q (DO _ hq)
  ·have e:q=(s3.heap.objs.size,oC):=by simpa using hq
   subst e
   exact⟨RO,RS,R9,I3.nofs (DK _),λv z=>by rw[R8]at z;cases z⟩
 refine cn (hy _ s' σ H' (.ref p) (.ref p) D.nx J2 rfl q') λ_ OT z_=> ?_
 obtain⟨σ5,H5,I5,q5⟩:=z_
 have hp:=I5.pin (s3.heap.objs.size,oC) (DO _ (DO _ Dt))
 refine⟨m,⟨oC,es,ep,hp.1,R8,RP,RQ⟩,λh' Ko=> ?_⟩
 refine⟨σ5,H5,(I5.unpinned).turned (it:=s3.heap.objs.size) (t':=OT.toks) (λb o hb e=>Ko.extBut b o hb e) hp.2.1 R9 (.inr I3.sz) (λx c hx z=> ?_) (λq hq z=> ?_),q5⟩
 ·obtain⟨v,o,ho,_⟩:=I3.cell x c hx
  have:=Dz ho
  rw[z]at this
  exact El _ this
 ·have:=(I3.pin q hq).1
  have:=Dz this
  rw[z]at this
  exact El _ this
end
end L2
namespace L2
open PySem PySem.Spec PyProof.Rows
section
variable {X:Cx} {e a b st:Dn} {te ta tb:TE} {Tj:TO} {pos p2 p:DY}
def Cb (K:Dd):List V->Hp->VK->Prop:=λxs H Q=>∃x T t k,xs=[x, .ty T]/\jl K H x t/\Ea K t (.type T)=some k/\Q (.bl k) H
theorem uQ:d6 X (.builtin "isinstance") (Cb X.K):=by
 intro JD s σ H xs us Q I rv h
 obtain⟨x,T,t,k,rfl,ty,e,q⟩:=h
 obtain⟨u,w',rfl,ru,N5⟩:=yh rv
 cases N5
 exact s_ I ru ty e λtk=>⟨.bl k,H,I.tok tk,rfl,q⟩
theorem lQ:DZ "isinstance"=some (.builtin "isinstance"):=by decide+kernel
def qN (x:Int):List Int->List Int
 |[]=>[x]
 |y::r=>if x<=y then x::y::r else y::qN x r
def cL:List Int->List Int
 |[]=>[]
 |x::r=>qN x (cL r)
theorem jZ (x:Int):∀l:List Int,(qN x l).Perm (x::l)
 |[]=>FD _
 |y::r=>by
  unfold qN
  split
  ·exact FD _
  ·exact(Jm y (jZ x r)).trans (List.Perm.swap x y r)
theorem i_:∀l:List Int,(cL l).Perm l
 |[]=>FD _
 |x::r=>(jZ x _).trans (Jm x (i_ r))
theorem kK (x:Int):∀{l:List Int},l.Pairwise (·<=·)->(qN x l).Pairwise (·<=·)
 |[],_=>by simp[qN]
 |y::r,h=>by
  obtain⟨h1,h2⟩:=Ee.mp h
  unfold qN
  split
  ·rename_i Qi
   refine Ee.mpr ⟨λz hz=> ?_,h⟩
   rcases DA.mp hz with rfl|hz
   ·exact Qi
   ·exact Int.le_trans Qi (h1 z hz)
  ·rename_i Qi
   refine Ee.mpr ⟨λz hz=> ?_,kK x h2⟩
   rcases DA.mp ((jZ x r).mem_iff.mp hz)with rfl|hz
   ·omega
   ·exact h1 z hz
theorem gK:∀l:List Int,(cL l).Pairwise (·<=·)
 |[]=>GN
 |x::r=>kK x (gK r)
theorem fQ:∀{a b:List Int},a.Perm b->a.Pairwise (·<=·)->b.Pairwise (·<=·)->a=b
 |[],b,p,_,_=>(List.nil_perm.mp p).symm
 |x::a,[],p,_,_=>(List.perm_nil.mp p)
 |x::a,y::b,p,h1,h2=>by
  obtain⟨a1,a2⟩:=Ee.mp h1
  obtain⟨b1,b2⟩:=Ee.mp h2
  have e:x=y:=by
   have hx:x∈y::b:=p.mem_iff.mp Dt
   have hy:y∈x::a:=p.mem_iff.mpr Dt
   rcases DA.mp hx with h|h
   ·exact h
   ·rcases DA.mp hy with h'|h'
    ·exact h'.symm
    ·exact Int.le_antisymm (a1 y h') (b1 x h)
  subst e
  rw[fQ ((List.perm_cons x).mp p) a2 b2]
theorem oh:d6 X (.builtin "sorted") (λxs H Q=>∃p ns,xs=[.ref p]/\dc X.K H p (ns.map V.int)/\ns.length<64/\∀l,H l=none->Q (.ref l) (a_ H l (.lst ((cL ns).map V.int)))):=by
 intro JD s σ H xs us Q I rv h
 obtain⟨p,ns,rfl,hx,hl,q⟩:=h
 obtain⟨u,rfl,ru⟩:=jk rv
 cases ru
 obtain⟨its,r,ht,hz⟩:=I.list hx
 have hi:=iY r
 have K7:=r.length
 rw[Dl]at K7
 refine sorted_ints ht.isList hi (by omega) λout Qj a1 a2 a3=> ?_
 obtain⟨e,he⟩:=sortedAll_at s.heap its out
 have en:Qj=cL ns:=fQ (a2.trans (i_ ns).symm) a3 (gK ns)
 subst en
 have k:∀b o,s.heap.get? b=some o->(sortedAll s.heap its out).get? b=some o:=λb o e=>sortedAll_old e
 refine⟨.ref (s.heap.objs.size+1),_,I.laid (t':=s.toks) (o:= .lst ((cL ns).map V.int)) k (IS _) ?_,rfl,q _ (I.hok.fresh (IS _))⟩
 refine⟨?_,out.toList,e,iz a1,by simpa[seqObj]using he⟩
 have h1:=a2.length_eq
 rw[Dl]at hz ⊢
 omega
end
end L2
namespace L2
open PySem PySem.Spec PyProof.Rows
section
variable {P:Dv} {w:DE} {H:Hp} {h h':DB} {a:Dg} {o:HO}
theorem bd.got (x:bd P w H h a o):∃u,h.get? a=some u:=by
 cases o with
 |lst xs=>obtain⟨_,_,_,_,e⟩:=x;exact⟨_,e⟩
 |tup xs=>obtain⟨_,_,_,p⟩:=x;obtain⟨o,e,_⟩:=p;exact⟨_,e⟩
 |dK kvs=>obtain⟨_,_,_,_,o,_,_,e,_⟩:=x;exact⟨_,e⟩
 |dT kvs=>obtain⟨_,_,_,_,o,_,_,e,_⟩:=x;exact⟨_,e⟩
 |set S n=>obtain⟨o,_,_,_,e,_⟩:=x;exact⟨_,e⟩
 |ins C dx fs=>obtain⟨_,_,_,e,_⟩:=x;exact⟨_,e⟩
 |own y=>obtain⟨_,e⟩:=x;exact⟨_,e⟩
 |xd fs=>obtain⟨_,⟨_,_,_,e,_⟩,_⟩:=x;exact⟨_,e⟩
 |rng lo hi=>obtain⟨_,_,_,e⟩:=x;exact⟨_,e⟩
 |frz ob u=>obtain⟨e,_⟩:=x;exact⟨_,e⟩
 |tbl ps=>exact⟨_,x⟩
 |met f y=>exact⟨_,x⟩
 |ext φ=>obtain⟨_,e,_⟩:=x;exact e
theorem h_.nowhere (x:h_ P w H h) (hn:h.get? a=none):H a=none:=by
 cases e:H a with
 |none=>rfl
 |some o=>obtain⟨u,q⟩:=(x a o e).got;rw[hn]at q;cases q
end
section
variable {X:Cx} {JD:List (Dg×DP)} {σ:List (Option V)} {H:Hp} {s:Dh} {h':DB}
theorem au.laidAt {a:Dg} {o:HO} {t':Nat} (I:au X JD σ H s) (k:∀b u,s.heap.get? b=some u->h'.get? b=some u) (hn:s.heap.get? a=none) (new:bd X.prog X.w (a_ H a o) h' a o):
  au X JD σ (a_ H a o) {s with heap:=h',toks:=t'}:=by
 have hH:=I.hok.nowhere hn
 have Lx:∀b u,s.heap.get? b=some u->b≠a:=λb u q z=>by rw[z,hn]at q;cases q
 refine I.un ⟨λb u q _ _ _=>k b u q,λb u q _ _ _=>⟨u.slots,k b u q⟩,λb u q n _=>by rw[ai (Lx b u q)];exact n,λb u q _=>⟨u,k b u q⟩,λb xs q=>by rw[ai (bG q hH)];exact q,
  λb u xs q=>by rw[ai (bG q hH)];exact q,λb ps q=>⟨#[],by rw[ai (bG q hH),q];simp⟩⟩ λb u e=> ?_
 by_cases hb:b=a
 ·subst hb;rw[ar]at e;cases e;exact new
 ·rw[ai hb]at e
  exact(I.hok b u e).stay (λc v _ q=>k c v q) (λc q=>by rw[ai (bG q hH)];exact q) λc xs q=>by rw[ai (bG q hH)];exact q
end
section
variable {X:Cx}
theorem qO {ns:List Int} {KR:Array De} (h:ItemsOf (λi v=>∃n t,ns[i]? =some n/\v= .int n t) KR ns.length):aF (ns.map V.int) KR.toList:=by
 have JN:∀(vs:List De) (ns:List Int),vs.length=ns.length->(∀(j:Nat) v,vs[j]? =some v->∃n t,ns[j]? =some n/\v= .int n t)->aF (ns.map V.int) vs:=by
  intro vs
  induction vs with
  |nil=>intro ns h1 _;cases ns with
   |nil=>exact .nil
   |cons _ _=>cases h1
  |cons v r ih=>
   intro ns h1 h2
   cases ns with
   |nil=>cases h1
   |cons n ns=>
    obtain⟨m,t,e1,e2⟩:=h2 0 v rfl
    simp at e1
    subst e1
    refine .cons ⟨t,e2⟩ (ih ns (by simpa using h1) λj v hv=> ?_)
    have:=h2 (j+1) v (by simpa using hv)
    simpa using this
 refine JN KR.toList ns (by rw[ES];exact h.1) λj v hv=>h.2 j v (by rw[<-HI];exact hv)
theorem oi (hc:X.calm=true):d6 X (.builtin "sorted") (λxs H Q=>∃p kvs ns,xs=[.ref p]/\H p=some (.dK kvs)/\kvs.map (·.1)=ns.map FT/\ns.length<64/\∀l,H l=none->Q (.ref l) (a_ H l (.lst ((cL ns).map V.int)))):=by
 intro JD s σ H xs us Q I rv h
 obtain⟨p,kvs,ns,rfl,hp,hk,hl,q⟩:=h
 obtain⟨u,rfl,ru⟩:=jk rv
 cases ru
 obtain⟨z,hd,vs,Mx,dd⟩:=AJ I.hok hp
 obtain⟨ep,RT⟩:=dd.dictAt
 have K7:vs.length=ns.length:=by
  rw[<-Mx.length]
  have:=congrArg IT hk
  simpa using this
 refine GV kind_sorted plain_sorted entry_sorted (args_sorted1 _) ?_
 unfold H9.«sorted»
 refine Dk (m:=checkCount "sorted" 1 1 _) (DG ?_)
 refine Dk (PySem.W.kdu_collect (A:=X.A.in1) (PySem.W.kdl_dict (knd:=cw X.prog X.w) (kvs:=vs) (ep:=ep) hd) (I.ok.hd hc) RT (by rw[<-Mx.length];exact z) λh' tk KR O2 Oh=> ?_)
 have hI:GY KR.toList ns:=by
  refine iY (qO ⟨by rw[Oh.1];exact K7,λj v hv=> ?_⟩)
  obtain⟨k,x,hx,O9⟩:=Oh.2 j v hv
  have P5:(vs.map (·.1))[j]? =some k:=by rw[DQ,hx];rfl
  rw[<-Mx.keys,hk,DQ]at P5
  cases e:ns[j]? with
  |none=>rw[e]at P5;cases P5
  |some n=>
   rw[e]at P5
   cases P5
   rcases bj (show lD (FT n) v=true from O9)with ⟨i,t,e1,e2⟩|⟨x',t,e1,e2⟩
   ·cases e1;exact⟨n,t,rfl,e2⟩
   ·cases e1
 have O0:KR.toList.length=ns.length:=by rw[ES,Oh.1];exact K7
 refine Dk (GJ ?_ (by rw[O0];have:sizeLine=16777216:=EB;omega))
 have NQ:(h'.push (seqObj "list" KR.toList.toArray 0)).get? h'.objs.size=some (seqObj "list" KR.toList.toArray 0):=DT _ rfl
 refine Dk (FQ (wpAny_call_entry slot_list_sort ⟨_,NQ,rfl⟩ entry_list_sort (list_sort_tree NQ hI (by omega) λout Qj a1 a2 a3=>⟨_,rfl,?_⟩) (args_list_sort _)))
 refine DG ⟨_,rfl,?_⟩
 have en:Qj=cL ns:=fQ (a2.trans (i_ ns).symm) a3 (gK ns)
 subst en
 obtain⟨e,he⟩:=sortedHeap_at (out:=out) NQ
 have LC:s.heap.get? h'.objs.size=none:=by
  cases e:s.heap.get? h'.objs.size with
  |none=>rfl
  |some o=>exact absurd (Dz (O2 _ _ e)) (El _)
 have kk:∀b o,s.heap.get? b=some o->(Jg (h'.push (seqObj "list" KR.toList.toArray 0)) h'.objs.size KR.toList out).get? b=some o:=λb o eb=>by
  have hb:=O2 b o eb
  have MX:b<h'.objs.size:=Dz hb
  rw[sortedHeap_old (DV MX) (by rw[size_push'];exact Fy MX)]
  exact Dp _ hb
 refine⟨.ref h'.objs.size,_,I.laidAt (o:= .lst ((cL ns).map V.int)) kk LC ⟨?_,out.toList,e,iz a1,by simpa[seqObj]using he⟩,rfl,q _ (I.hok.nowhere LC)⟩
 have:=a2.length_eq
 rw[Dl]
 have:sizeLine=16777216:=EB
 omega
end
end L2
namespace L2
open PySem PySem.Spec PyProof.Rows
section
variable {prog:Dv} {w:DE} {A:DI} {E:De->Dh->Prop} {s:Dh} {I:Dg} {fp wr:List Dg} {G:Array Ha->Array Ha->Prop} {n:Nat} {P:Nat->De->Prop} {St:Nat->Dh->Prop}
end
section
variable {X:Cx} {e:Dn} {te:TE} {pos p1 p2 Ly:DY}
end
end L2
namespace L2
open PySem PySem.Spec PyProof.Rows
section
variable {prog:Dv} {w:DE} {A:DI} {E:De->Dh->Prop} {s:Dh} {a:Dg}
end
section
variable {prog:Dv} {w:DE} {A:DI} {R:Im->Dh->Prop} {I:Dg} {fp wr:List Dg} {G:Array Ha->Array Ha->Prop} {n:Nat} {P:Nat->De->Prop} {St:Nat->Dh->Prop}
end
section
variable {prog:Dv} {w:DE} {A:DI} {E:De->Dh->Prop} {s:Dh} {p:Dg}
end
section
variable {X:Cx}
end
end L2
namespace L2
open PySem PySem.Spec PyProof.Rows PySem.W
def iG {α:Type} (V:Nat->Nat->Prop) (lt:Nat->Nat->Bool):KasT α->(α->Prop)->Prop
 | .ret a,Q=>Q a
 | .ask i j k,Q=>V i j/\iG V lt (k (lt i j)) Q
theorem iG.imp {α:Type} {V:Nat->Nat->Prop} {lt:Nat->Nat->Bool} {Q Q':α->Prop} (w:∀a,Q a->Q' a):∀{t:KasT α},iG V lt t Q->iG V lt t Q'
 | .ret a,h=>w a h
 | .ask i j k,h=>⟨h.1,iG.imp w h.2⟩
theorem iG.bind {α β:Type} {V:Nat->Nat->Prop} {lt:Nat->Nat->Bool} {f:α->KasT β} {Q:β->Prop}:∀{t:KasT α},iG V lt t (λa=>iG V lt (f a) Q)->iG V lt (t.bind f) Q
 | .ret a,h=>h
 | .ask i j k,h=>⟨h.1,iG.bind h.2⟩
theorem iG.wp {α:Type} {V:Nat->Nat->Prop} {lt:Nat->Nat->Bool} {Ra:Nat->Nat->(Bool->Dh->Prop)->Dh->Prop} {Good:Dh->Prop} (hc:∀i j C s,V i j->Good s->(∀s',Good s'->C (lt i j) s')->Ra i j C s) {Q:α->Dh->Prop}:
  ∀{t:KasT α} {s:Dh},iG V lt t (λa=>∀s',Good s'->Q a s')->Good s->t.kasWp Ra Q s
 | .ret a,s,h,g=>h s g
 | .ask i j k,s,h,g=>hc i j _ s h.1 g λs' g'=>iG.wp hc h.2 g'
section
variable {n:Nat} {JN:Nat->Int}
def kk (JN:Nat->Int) (p:Array Nat) (i:Nat):Int:=JN (p.getD i 0)
def qP (JN:Nat->Int) (i j:Nat):Bool:=decide (JN i<JN j)
def Pr (n i j:Nat):Prop:=i<n/\j<n/\i≠j
structure mR (n:Nat) (p:Array Nat):Prop where
 sz:p.size=n
 perm:p.toList.Perm (Eb n)
theorem mR.lt {p:Array Nat} (h:mR n p) {i:Nat} (hi:i<n):p.getD i 0<n:=by
 have N7:i<p.size:=by rw[h.sz];exact hi
 have:p.getD i 0=p[i]:=by simp[HR,N7]
 rw[this]
 exact Ex.mp (h.perm.mem_iff.mp (by simp))
theorem mR.inj {p:Array Nat} (h:mR n p) {i j:Nat} (hi:i<n) (hj:j<n) (e:p.getD i 0=p.getD j 0):i=j:=by
 have N7:i<p.size:=by rw[h.sz];exact hi
 have MY:j<p.size:=by rw[h.sz];exact hj
 have e1:p.getD i 0=p[i]:=by simp[HR,N7]
 have e2:p.getD j 0=p[j]:=by simp[HR,MY]
 rw[e1,e2]at e
 have nd:p.toList.Nodup:=(h.perm.nodup_iff).mpr List.nodup_range
 have hp:=G1.mp nd
 have el:p.toList[i]'(by simpa using N7)=p.toList[j]'(by simpa using MY):=by simpa using e
 rcases IP i j with z|z|z
 ·exact absurd el (hp i j _ _ z)
 ·exact z
 ·exact absurd el.symm (hp j i _ _ z)
theorem mR.pr {p:Array Nat} (h:mR n p) {i j:Nat} (hi:i<n) (hj:j<n) (Nx:i≠j):Pr n (p.getD i 0) (p.getD j 0):=⟨h.lt hi,h.lt hj,λz=>Nx (h.inj hi hj z)⟩
def qr (JN:Nat->Int) (p:Array Nat) (m:Nat):Prop:=∀i j,i<j->j<m->kk JN p i<kk JN p j
def zn (JN:Nat->Int) (p:Array Nat) (m:Nat):Prop:=∀i j,i<j->j<m->kk JN p j<kk JN p i
theorem qr.more {p:Array Nat} {m:Nat} (h:qr JN p (m+1)) (hl:kk JN p m<kk JN p (m+1)):qr JN p (m+2):=λi j Nx hj=>by
 by_cases e:j=m+1
 ·subst e
  by_cases e2:i=m
  ·subst e2;exact hl
  ·exact Hi (h i m (by omega) (by omega)) hl
 ·exact h i j Nx (by omega)
theorem zn.more {p:Array Nat} {m:Nat} (h:zn JN p (m+1)) (hl:kk JN p (m+1)<kk JN p m):zn JN p (m+2):=λi j Nx hj=>by
 by_cases e:j=m+1
 ·subst e
  by_cases e2:i=m
  ·subst e2;exact hl
  ·exact Hi hl (h i m (by omega) (by omega))
 ·exact h i j Nx (by omega)
theorem qQ {p:Array Nat} (o:mR n p) (hk:∀i j,i<n->j<n->JN i=JN j->i=j):∀(f m:Nat),qr JN p (m+1)->m+1+f=n->iG (Pr n) (qP JN) (kas_asc p f (m+1)) λr=>m+1<=r/\r<=n/\qr JN p r/\(r<n->kk JN p r<kk JN p (r - 1))
 |0,m,h,e=>⟨DK _,by omega,h,λz=>by omega⟩
 |f+1,m,h,e=>by
  refine⟨o.pr (by omega) (by omega) (by omega),?_⟩
  rw[GG]
  by_cases hl:kk JN p (m+1)<kk JN p m
  ·simp only[show qP JN (p.getD (m+1) 0) (p.getD m 0)=true from decide_eq_true hl,if_true]
   exact⟨DK _,by omega,h,λ_=>by rw[GG];exact hl⟩
  ·simp only[show qP JN (p.getD (m+1) 0) (p.getD m 0)=false from decide_eq_false hl,E7,if_false]
   have Lx:kk JN p m≠kk JN p (m+1):=λz=>by
    have:=o.inj (i:=m) (j:=m+1) (by omega) (by omega) (hk _ _ (o.lt (by omega)) (o.lt (by omega)) z)
    omega
   refine iG.imp (λr ⟨a,b,c,d⟩=>⟨by omega,b,c,d⟩) (qQ o hk f (m+1) (h.more (by omega)) (by omega))
theorem uR {p:Array Nat} (o:mR n p) (hk:∀i j,i<n->j<n->JN i=JN j->i=j):∀(f m:Nat),zn JN p (m+1)->m+1+f=n->iG (Pr n) (qP JN) (kas_desc f p (m+1) 0) λr=>r.1=p/\r.2.2=0/\m+1<=r.2.1/\r.2.1<=n/\zn JN p r.2.1
 |0,m,h,e=>⟨rfl,rfl,DK _,by show m+1<=n;omega,h⟩
 |f+1,m,h,e=>by
  refine⟨o.pr (by omega) (by omega) (by omega),?_⟩
  rw[GG]
  by_cases hl:kk JN p (m+1)<kk JN p m
  ·simp only[show qP JN (p.getD (m+1) 0) (p.getD m 0)=true from decide_eq_true hl,if_true,gt_iff_lt,El,if_false]
   exact iG.imp (λr ⟨a,b,c,d⟩=>⟨a,b,by omega,d⟩) (uR o hk f (m+1) (h.more hl) (by omega))
  ·simp only[show qP JN (p.getD (m+1) 0) (p.getD m 0)=false from decide_eq_false hl,E7,if_false]
   have Lx:kk JN p m≠kk JN p (m+1):=λz=>by
    have:=o.inj (i:=m) (j:=m+1) (by omega) (by omega) (hk _ _ (o.lt (by omega)) (o.lt (by omega)) z)
    omega
   have O0:kk JN p m<kk JN p (m+1):=by omega
   refine⟨o.pr (by omega) (by omega) (by omega),?_⟩
   simp only[show qP JN (p.getD m 0) (p.getD (m+1) 0)=true from decide_eq_true O0,if_true]
   exact⟨rfl,rfl,DK _,by show m+1<=n;omega,h⟩
theorem lr {p q:Array Nat} {i j:Nat} (h:p[i]? =q[j]?):p.getD i 0=q.getD j 0:=by
 rw[GH,GH,h]
theorem xh {p:Array Nat} (o:mR n p) (i j:Nat):mR n (kas_rev p i j):=
 ⟨by unfold kas_rev;rw[mirror_size];exact o.sz,(GK.mp (mirror_perm p i j _)).trans o.perm⟩
theorem xi {p:Array Nat} (o:mR n p) {m:Nat} (hm:m<=n) (h:zn JN p m):qr JN (kas_rev p 0 m) m:=λi j Nx hj=>by
 have e:∀k,k<m->kk JN (kas_rev p 0 m) k=kk JN p (m - 1 - k):=λk hk=>by
  unfold kk
  congr 1
  refine lr ?_
  have:=getElem?_mirror_all (xs:=p) (i:=0) (j:=m) (by rw[o.sz];exact hm) k
  unfold kas_rev
  rw[this,if_pos ⟨Ew _,hk⟩,Hj]
 rw[e i (by omega),e j hj]
 exact h _ _ (by omega) (by omega)
theorem uS {p:Array Nat} (o:mR n p) (hn:2<=n) (hk:∀i j,i<n->j<n->JN i=JN j->i=j):iG (Pr n) (qP JN) (kas_count n p) λr=>1<=r.1/\r.1<=n/\mR n r.2/\qr JN r.2 r.1:=by
 unfold kas_count
 refine iG.bind (iG.imp (λm ⟨h1,h2,h3,h4⟩=> ?_) (qQ o hk (n - 1) 0 (λi j Nx hj=>by omega) (by omega)))
 by_cases e:m=n
 ·rw[if_pos (by simp[e])];exact⟨by show 1<=m;omega,h2,o,h3⟩
 ·rw[if_neg (by simp[e])]
  by_cases e1:m>1
  ·rw[if_pos e1]
   refine⟨o.pr (by omega) (by omega) (by omega),?_⟩
   simp only[show qP JN (p.getD 0 0) (p.getD (m - 1) 0)=true from decide_eq_true (h3 0 (m - 1) (by omega) (by omega)),if_true]
   exact⟨by show 1<=m;omega,h2,o,h3⟩
  ·have em:m=1:=by omega
   subst em
   rw[if_neg (by omega)]
   have hd:zn JN p 2:=λi j Nx hj=>by
    have hi:i=0:=by omega
    have MY:j=1:=by omega
    subst hi;subst MY
    exact h4 (by omega)
   unfold kas_descPart
   refine iG.bind (iG.imp (λr ⟨a,b,c,d,g⟩=> ?_) (uR o hk (n - (1+1)) 1 hd (by omega)))
   rw[if_neg (by omega)]
   unfold kas_tail3
   rw[a]
   have o2:=xh o 0 r.2.1
   obtain⟨q,hq⟩:∃q,r.2.1=q+1:=⟨r.2.1 - 1,by omega⟩
   rw[hq]at d g o2 ⊢
   refine iG.bind (iG.imp (λm2 ⟨x1,x2,x3,_⟩=>⟨by show 1<=m2;omega,x2,o2,x3⟩) (qQ o2 hk (n - (q+1)) q (xi o d g) (by omega)))
theorem lR {p:Array Nat} (o:mR n p) (hk:∀i j,i<n->j<n->JN i=JN j->i=j) {k:Nat} (Oi:k<n) (ha:qr JN p k):∀(f l r:Nat),l<=r->r<=k->r - l<=f->(∀i,i<l->kk JN p i<kk JN p k)->(∀i,r<=i->i<k->kk JN p k<kk JN p i)->
  iG (Pr n) (qP JN) (kas_place p k f l r) λm=>m<=k/\(∀i,i<m->kk JN p i<kk JN p k)/\∀i,m<=i->i<k->kk JN p k<kk JN p i
 |0,l,r,h1,h2,h3,h4,h5=>⟨by omega,h4,λi hi=>h5 i (by omega)⟩
 |f+1,l,r,h1,h2,h3,h4,h5=>by
  unfold kas_place
  by_cases e:l>=r
  ·rw[if_pos e];exact⟨by omega,h4,λi hi=>h5 i (by omega)⟩
  ·rw[if_neg e]
   refine⟨o.pr Oi (by omega) (by omega),?_⟩
   have NS:(l+r) / 2<r:=by omega
   have Qf:l<=(l+r) / 2:=by omega
   by_cases hl:kk JN p k<kk JN p ((l+r) / 2)
   ·simp only[show qP JN (p.getD k 0) (p.getD ((l+r) / 2) 0)=true from decide_eq_true hl,if_true]
    refine lR o hk Oi ha f l ((l+r) / 2) Qf (by omega) (by omega) h4 λi hi RU=> ?_
    by_cases z:i=(l+r) / 2
    ·subst z;exact hl
    ·exact Hi hl (ha _ _ (by omega) RU)
   ·simp only[show qP JN (p.getD k 0) (p.getD ((l+r) / 2) 0)=false from decide_eq_false hl,E7,if_false]
    have Lx:kk JN p ((l+r) / 2)≠kk JN p k:=λz=>by
     have:=o.inj (i:=(l+r) / 2) (j:=k) (by omega) Oi (hk _ _ (o.lt (by omega)) (o.lt Oi) z)
     omega
    have O0:kk JN p ((l+r) / 2)<kk JN p k:=by omega
    refine lR o hk Oi ha f ((l+r) / 2+1) r (by omega) h2 (by omega) (λi hi=> ?_) h5
    by_cases z:i=(l+r) / 2
    ·subst z;exact O0
    ·exact Hi (ha _ _ (show i<(l+r) / 2 by omega) (by omega)) O0
theorem xj {p:Array Nat} (o:mR n p) {k m:Nat} (Oi:k<n) (hm:m<=k) (ha:qr JN p k) (h1:∀i,i<m->kk JN p i<kk JN p k) (h2:∀i,m<=i->i<k->kk JN p k<kk JN p i):mR n (bubble p k (k - m))/\qr JN (bubble p k (k - m)) (k+1):=by
 refine⟨⟨by rw[bubble_size];exact o.sz,(GK.mp (bubble_perm p k _)).trans o.perm⟩,λi j Nx hj=> ?_⟩
 have e:∀q,kk JN (bubble p k (k - m)) q=if q=m then kk JN p k else if m<q/\q<=k then kk JN p (q - 1)else kk JN p q:=λq=>by
  have:=getElem?_bubble (xs:=p) (src:=k) (by rw[o.sz];exact Oi) (k - m) (by omega) q
  rw[show k - (k - m)=m by omega]at this
  unfold kk
  split
  ·rename_i z;rw[if_pos z]at this;congr 1;exact lr this
  ·rename_i z
   rw[if_neg z]at this
   split
   ·rename_i z2;rw[if_pos z2]at this;congr 1;exact lr this
   ·rename_i z2;rw[if_neg z2]at this;congr 1;exact lr this
 rw[e i,e j]
 by_cases i1:i=m
 ·rw[if_pos i1,if_neg (by omega),if_pos (by omega)]
  exact h2 _ (by omega) (by omega)
 ·rw[if_neg i1]
  by_cases i2:m<i/\i<=k
  ·rw[if_pos i2,if_neg (by omega),if_pos (by omega)]
   exact ha _ _ (by omega) (by omega)
  ·rw[if_neg i2]
   by_cases j1:j=m
   ·rw[if_pos j1];exact h1 i (by omega)
   ·rw[if_neg j1]
    by_cases j2:m<j/\j<=k
    ·rw[if_pos j2]
     by_cases z:i=j - 1
     ·omega
     ·exact ha _ _ (by omega) (by omega)
    ·rw[if_neg j2];exact ha _ _ Nx (by omega)
theorem uT (hk:∀i j,i<n->j<n->JN i=JN j->i=j):∀(f:Nat) (p:Array Nat) (k:Nat),mR n p->qr JN p k->k+f=n->iG (Pr n) (qP JN) (kas_bin f p k) λq=>mR n q/\qr JN q n
 |0,p,k,o,h,e=>⟨o,by rw[<-e];exact h⟩
 |f+1,p,k,o,h,e=>by
  unfold kas_bin
  refine iG.bind (iG.imp (λm ⟨h1,h2,h3⟩=> ?_) (lR o hk (show k<n by omega) h k 0 k (Ew _) (DK _) (by omega) (λi hi=>by omega) λi h1 h2=>by omega))
  obtain⟨o2,a2⟩:=xj o (show k<n by omega) h1 h h2 h3
  exact uT hk f _ (k+1) o2 a2 (by omega)
theorem xk (hn:2<=n) (hk:∀i j,i<n->j<n->JN i=JN j->i=j):iG (Pr n) (qP JN) (kas_sort n) λq=>mR n q/\qr JN q n:=by
 have o:mR n (FE (Eb n)):=⟨by simp,by simp⟩
 unfold kas_sort
 refine iG.bind (iG.imp (λr ⟨h1,h2,h3,h4⟩=> ?_) (uS o hn hk))
 by_cases e:r.1<n
 ·rw[if_pos e,show max r.1 1=r.1 by omega]
  exact uT hk _ _ _ h3 h4 (by omega)
 ·rw[if_neg e]
  have:r.1=n:=by omega
  rw[this]at h4
  exact⟨h3,h4⟩
end
end L2
namespace L2
open PySem PySem.Spec PyProof.Rows PySem.W
section
variable {prog:Dv} {w:DE} {A:DI} {E:De->Dh->Prop} {s:Dh}
def j_ (h:DB) (v:De) (k:Int):Prop:=∃b o t rest m,v= .ref b/\h.get? b=some o/\o.cls= .type "tuple"/\o.data= .seq (Array.mk (Fj k t::rest)) m
theorem zo {v u:De} {k l:Int} {Q:Bool->Dh->Prop} (hv:j_ s.heap v k) (hu:j_ s.heap u l) (Lx:k≠l) (h:Q (decide (k<l)) s):Du (Dx prog w) A (keyLt' (tuples' true) v u) Q E s:=by
 obtain⟨b,o,t,rest,m,rfl,h1,h2,h3⟩:=hv
 obtain⟨b',o',t',P6,m',rfl,g1,g2,g3⟩:=hu
 refine kat_lt h1 h3 g1 g3 ?_
 show KatLex prog w A true _ Q ((Fj k t,Fj l t')::rest.zip P6) 0 s
 refine kat_cons (wpAny_eqBool_int ?_)
 have e:(k==l)=false:=beq_eq_false_iff_ne.mpr Lx
 rw[e]
 exact kat_no (oneLt_int h)
theorem nB:∀{vs:List De} {ks:List Int},vs.length=ks.length->(∀(i:Nat) v,vs[i]? =some v->j_ s.heap v (ks.getD i 0))->∃fs:List De,KatTups s.heap vs fs/\fs.length=vs.length/\∀f∈fs,∃k t,f=Fj k t
 |[],ks,_,_=>⟨[], .nil,rfl,λf hf=>by cases hf⟩
 |v::vs,[],hl,_=>by cases hl
 |v::vs,k::ks,hl,h=>by
  obtain⟨fs,h1,h2,h3⟩:=nB (vs:=vs) (ks:=ks) (by simpa using hl) λi u hu=>by
   have:=h (i+1) u (by simpa using hu)
   simpa using this
  obtain⟨b,o,t,rest,m,rfl,g1,g2,g3⟩:=h 0 v rfl
  refine⟨_::fs,KatTups.cons g1 g2 g3 (f:=Fj ((k::ks).getD 0 0) t) rfl h1,by simp[h2],λf hf=> ?_⟩
  rcases DA.mp hf with rfl|hf
  ·exact⟨_,_,rfl⟩
  ·exact h3 f hf
def lS (ks:List Int) (p:List Nat):Prop:=p.Perm (Eb ks.length)/\(p.map λi=>ks.getD i 0).Pairwise (·<·)
theorem oj {JN:Nat->Int} {p:Array Nat} {n:Nat} (hs:p.size=n) (h:qr JN p n):(p.toList.map JN).Pairwise (·<·):=by
 refine G1.mpr λi j hi hj Nx=> ?_
 rw[Dl,ES]at hi hj
 have:=h i j Nx (by omega)
 unfold kk at this
 simpa[HR,hi,hj]using this
theorem tj {α β:Type} {vs:List α} {ks:List β} (hl:vs.length=ks.length) (h:vs.length<2):(vs=[]/\ks=[])\/∃v k,vs=[v]/\ks=[k]:=by
 cases vs with
 |nil=>exact .inl ⟨rfl,Hm.mp hl.symm⟩
 |cons v vs=>
  cases vs with
  |nil=>
   obtain⟨k,hk⟩:=List.length_eq_one_iff.mp hl.symm
   exact .inr ⟨v,k,rfl,hk⟩
  |cons=>exact absurd h (by simp only[DC];omega)
theorem lT {a:Dg} {vs:List De} {ks:List Int} {n:Nat} {P:PySem.Fin->Dh->Prop} (ho:s.heap.get? a=some (seqObj "list" vs.toArray n)) (hl:vs.length=ks.length) (hv:∀(i:Nat) v,vs[i]? =some v->j_ s.heap v (ks.getD i 0)) (RV:ks.Nodup) (Rb:vs.length<64)
  (h:∀p:List Nat,lS ks p->P (.done (.ret .none)) {s with heap:=Jg s.heap a vs (FE (p.map λi=>vs.getD i E3))}):
  Du (Dx prog w) A (H9.«list.sort» ⟨[.ref a],[]⟩) P E s:=by
 rw[list_sort_plain]
 have ha:a<s.heap.objs.size:=Dz ho
 refine Dk (listItems_at ho rfl ?_)
 refine Dk (HZ ho rfl ?_ (hsz2:=Ew _) (hsz:=by rw[Dr,EB];omega))
 obtain⟨e1,Rc⟩:∃e1,(s.heap.update a (EK λ_=> #[])).get? a=some (seqObj "list" #[] e1):=⟨_,get?_update_seq ho (λ_=> #[])⟩
 refine Dk (IU Rc rfl ?_)
 refine Dk (wpAny_newTuple ?_ (by show vs.length<=_;rw[EB];omega))
 refine Dk (GJ ?_ (Ew _))
 refine FQ ?_
 have RW:∀b o,b≠a->s.heap.get? b=some o->(((s.heap.update a (EK λ_=> #[])).push (seqObj "tuple" vs.toArray 0)).push (seqObj "list" #[] 0)).get? b=some o:=λb o hb e=>by
  refine Dp _ (Dp _ ?_)
  rw[Heap.get?_update_ne _ _ _ _ hb];exact e
 have Pz:(((s.heap.update a (EK λ_=> #[])).push (seqObj "tuple" vs.toArray 0)).push (seqObj "list" #[] 0)).get? a=some (seqObj "list" #[] e1):=Dp _ (Dp _ Rc)
 have OR:∀(i:Nat) v,vs[i]? =some v->j_ (((s.heap.update a (EK λ_=> #[])).push (seqObj "tuple" vs.toArray 0)).push (seqObj "list" #[] 0)) v (ks.getD i 0):=λi v e=>by
  obtain⟨b,o,t,rest,m,rfl,g1,g2,g3⟩:=hv i v e
  refine⟨b,o,t,rest,m,rfl,RW b o (λz=> ?_) g1,g2,g3⟩
  subst z
  rw[ho]at g1
  cases g1
  exact absurd (show Fb "list"=Fb "tuple" from g2) (by decide)
 show Du (Dx prog w) A _ P E {s with heap:=((s.heap.update a (EK λ_=> #[])).push (seqObj "tuple" vs.toArray 0)).push (seqObj "list" #[] 0)}
 dsimp only
 have hsz:vs.toArray.size=vs.length:=by simp
 have Ng:∀p:List Nat,p.length=vs.length->(FE (p.map λi=>vs.getD i E3)).size<=sizeLine:=λp hp=>by
  rw[Dr,Dl,hp,EB];omega
 by_cases h2:vs.toArray.size<2
 ·rw[if_pos h2,if_pos h2]
  refine Dk (DG ?_)
  rw[StateT.run_pure]
  refine Dk (DG ?_)
  dsimp only
  obtain⟨p,hp,KL,RX⟩:∃p:List Nat,lS ks p/\p.length=vs.length/\Iw (λx=>x.2) (arrOf (SortSt.mk' general' (vs.toArray.zip vs.toArray) #[] 7 none))=FE (p.map λi=>vs.getD i E3):=by
   rcases tj hl (by simpa using h2)with ⟨rfl,rfl⟩|⟨v,k,rfl,rfl⟩
   ·exact⟨[],⟨FD _,GN⟩,rfl,by show Iw (λx:Keyed=>x.2) ((#[]:Array De).zip #[])=_;simp⟩
   ·exact⟨[0],⟨FD _,List.pairwise_singleton _ _⟩,rfl,by show Iw (λx:Keyed=>x.2) ((#[v]:Array De).zip #[v])=_;simp⟩
  refine Dk (IU Pz rfl ?_)
  have P7:Iw (λx=>x.2) (arrOf (SortSt.mk' general' (vs.toArray.zip vs.toArray) #[] 7 none))=FE (p.map λi=>vs.getD i E3):=RX
  refine Dk (HZ Pz rfl ?_ (hsz2:=by have:=Ng p KL;rw[<-P7]at this;exact GP this))
  simp only[bne_self_eq_false,E7,if_false]
  have hh:=h p hp
  rw[<-P7]at hh
  exact DG hh
 ·rw[if_neg h2,if_neg h2]
  have Oa:2<=vs.length:=by rw[hsz]at h2;omega
  obtain⟨fs,t1,t2,t3⟩:=nB (s:={s with heap:=((s.heap.update a (EK λ_=> #[])).push (seqObj "tuple" vs.toArray 0)).push (seqObj "list" #[] 0)}) hl OR
  refine Dk (kat_kind (T:= .type "int") t1 (by omega) (λv hv=> ?_) (by decide) ?_)
  ·obtain⟨k,t,rfl⟩:=t3 v hv
   exact .now
  rw[show (Fb "int" != Fb "tuple")=true by decide]
  have Qk:(kas_sort vs.length).kasWp (kas_ask prog w A (tuples' true) vs) (λp s'=>s'={s with heap:=((s.heap.update a (EK λ_=> #[])).push (seqObj "tuple" vs.toArray 0)).push (seqObj "list" #[] 0)}/\mR vs.length p/\qr (λi=>ks.getD i 0) p vs.length) {s with heap:=((s.heap.update a (EK λ_=> #[])).push (seqObj "tuple" vs.toArray 0)).push (seqObj "list" #[] 0)}:=by
   have P8:∀i j,i<vs.length->j<vs.length->ks.getD i 0=ks.getD j 0->i=j:=λi j hi hj e=>by
    have hp:=G1.mp RV
    have e':ks[i]'(by omega)=ks[j]'(by omega):=by simpa[show i<ks.length by omega,show j<ks.length by omega]using e
    rcases IP i j with z|z|z
    ·exact absurd e' (hp i j _ _ z)
    ·exact z
    ·exact absurd e'.symm (hp j i _ _ z)
   refine iG.wp (V:=Pr vs.length) (lt:=qP λi=>ks.getD i 0) (Good:=λs'=>s'={s with heap:=((s.heap.update a (EK λ_=> #[])).push (seqObj "tuple" vs.toArray 0)).push (seqObj "list" #[] 0)}) (λi j C s' P9 hg hC=> ?_) (iG.imp (λp hp s' Ko=>⟨Ko,hp⟩) (xk Oa P8)) rfl
   subst hg
   have hi:vs[i]? =some (vs.getD i E3):=by simp[P9.1]
   have hj:vs[j]? =some (vs.getD j E3):=by simp[P9.2.1]
   exact zo (OR i _ hi) (OR j _ hj) (λz=>P9.2.2 (P8 i j P9.1 P9.2.1 z)) (hC _ rfl)
  refine Dk (EH (kat_run (vs:=vs) (ks:=vs) (Q:=λNb s'=>∃p:Array Nat,arrOf Nb=p.map (kas_item (vs.toArray.zip vs.toArray))/\failedOf Nb=none/\s'={s with heap:=((s.heap.update a (EK λ_=> #[])).push (seqObj "tuple" vs.toArray 0)).push (seqObj "list" #[] 0)}/\mR vs.length p/\qr (λi=>ks.getD i 0) p vs.length)
   rfl Oa Rb (λp' Nb s' a1 a2 a3 a4=>⟨p',a2,a3,a4⟩) Qk) ?_ λ_ _ e=>e)
  rintro⟨⟨⟩,Nb⟩ s' ⟨p,RY,hf,rfl,Ql,RZ⟩
  dsimp only
  have Qm:=kat_snds (vs:=vs) (ks:=vs) rfl RY
  have KL:p.toList.length=vs.length:=by rw[ES];exact Ql.sz
  refine Dk (IU Pz rfl ?_)
  rw[Qm]
  refine Dk (HZ Pz rfl ?_ (hsz2:=GP (Ng _ KL)))
  rw[hf]
  simp only[bne_self_eq_false,E7,if_false]
  exact DG (h p.toList ⟨by rw[<-hl];exact Ql.perm,oj Ql.sz RZ⟩)
end
section
variable {X:Cx}
inductive gL (H:Hp):List V->List Int->Prop
 |nil:gL H [] []
 |cons {a:Dg} {k:Int} {rest ys:List V} {ks:List Int}:H a=some (.tup (.int k::rest))->gL H ys ks->gL H (.ref a::ys) (k::ks)
theorem gL.length {H:Hp}:∀{ys:List V} {ks:List Int},gL H ys ks->ys.length=ks.length
 |_,_, .nil=>rfl
 |_,_, .cons _ t=>by rw[DC,DC,t.length]
theorem pJ {P:Dv} {w:DE} {H:Hp} {h h':DB} (ok:h_ P w H h) (kp:∀b o,h.get? b=some o->h'.get? b=some o):∀{ys:List V} {ks:List Int} {us:List De},gL H ys ks->aF ys us->∀(i:Nat) v,us[i]? =some v->j_ h' v (ks.getD i 0)
 |_,_,_, .nil, .nil,i,v,e=>by simp at e
 |_,_,_, .cons (a:=a) (k:=k) (rest:=rest) ha t, .cons ru rt,i,v,e=>by
  cases i with
  |zero=>
   simp at e
   subst e
   obtain⟨_,its,r,o,h1,h2,n,h3,_⟩:=(show bd P w H h a (.tup (.int k::rest))from ok a _ ha)
   cases r with
   |cons rk rr=>
    obtain⟨t,rfl⟩:=rk
    exact⟨a,o,t,_,n,ru,kp _ _ h1,h2,h3⟩
  |succ i=>exact pJ ok kp t rt i v (by simpa using e)
theorem nD {ys:List V} {us:List De} (r:aF ys us):∀p:List Nat,(∀i∈p,i<ys.length)->aF (p.map λi=>ys.getD i .non) (p.map λi=>us.getD i E3)
 |[],_=> .nil
 |i::p,h=>by
  have hi:=h i Dt
  have hy:ys[i]? =some (ys.getD i .non):=by simp[hi]
  obtain⟨u,hu,ru⟩:=r.get hy
  have e:us.getD i E3=u:=by simp[hu]
  refine .cons ?_ (nD r p λj hj=>h j (Dw _ hj))
  show aZ (ys.getD i .non) (us.getD i E3)
  rw[e];exact ru
theorem ol:d6 X (.builtin "sorted") (λxs H Q=>∃p ys ks,xs=[.ref p]/\(H p=some (.lst ys)\/H p=some (.tup ys))/\gL H ys ks/\ks.Nodup/\ks.length<64/\
  ∀l q,H l=none->lS ks q->Q (.ref l) (a_ H l (.lst (q.map λi=>ys.getD i .non)))):=by
 intro JD s σ H xs us Q I rv h
 obtain⟨p,ys,ks,rfl,hp,ra,nd,Rb,q⟩:=h
 obtain⟨u,rfl,ru⟩:=jk rv
 cases ru
 have hl:=ra.length
 obtain⟨its,r,T,o,n,hT,ho,hc,hd⟩:∃its:List De,aF ys its/\∃(T:String) (o:DP) (n:Nat),(T="list"\/T="tuple")/\s.heap.get? p=some o/\o.cls= .type T/\o.data= .seq its.toArray n:=by
  rcases hp with hp|hp
  ·obtain⟨its,r,⟨o,n,e,c,_,d⟩,_⟩:=I.list (dc.of hp)
   exact⟨its,r,"list",o,n, .inl rfl,e,c,d⟩
  ·obtain⟨hz,its,r,o,e,c,n,d,_⟩:=(show bd X.prog X.w H s.heap p (.tup ys)from I.hok p _ hp)
   exact⟨its,r,"tuple",o,n, .inr rfl,e,c,d⟩
 have K7:=r.length
 refine GV kind_sorted plain_sorted entry_sorted (args_sorted1 _) ?_
 unfold H9.«sorted»
 refine Dk (m:=checkCount "sorted" 1 1 _) (DG ?_)
 refine Dk (wpAny_collect_seq p hT ho hc hd (λh' O2=> ?_) (by rw[Dr,EB];omega))
 have eT:its.toArray.toList=its:=by simp
 rw[eT]
 refine Dk (GJ ?_ (by rw[EB];omega))
 have NQ:(h'.push (seqObj "list" its.toArray 0)).get? h'.objs.size=some (seqObj "list" its.toArray 0):=DT _ rfl
 refine Dk (FQ (wpAny_call_entry slot_list_sort ⟨_,NQ,rfl⟩ entry_list_sort (lT NQ (by omega) (pJ I.hok (λb o e=>Dp _ (O2 b o e)) ra r) nd (by omega) λz hz=>⟨_,rfl,?_⟩) (args_list_sort _)))
 refine DG ⟨_,rfl,?_⟩
 obtain⟨e,he⟩:=sortedHeap_at (out:=FE (z.map λi=>its.getD i E3)) NQ
 have LC:s.heap.get? h'.objs.size=none:=by
  cases e:s.heap.get? h'.objs.size with
  |none=>rfl
  |some o=>exact absurd (Dz (O2 _ _ e)) (El _)
 have kk:∀b o,s.heap.get? b=some o->(Jg (h'.push (seqObj "list" its.toArray 0)) h'.objs.size its (FE (z.map λi=>its.getD i E3))).get? b=some o:=λb o eb=>by
  have hb:=O2 b o eb
  have MX:b<h'.objs.size:=Dz hb
  rw[sortedHeap_old (DV MX) (by rw[size_push'];exact Fy MX)]
  exact Dp _ hb
 have R_:z.length=ys.length:=by have:=hz.1.length_eq;rw[F8]at this;omega
 refine⟨.ref h'.objs.size,_,I.laidAt (o:= .lst (z.map λi=>ys.getD i .non)) kk LC ⟨?_,z.map λi=>its.getD i E3,e,nD r z λi hi=> ?_,by simpa[seqObj]using he⟩,rfl,q _ z (I.hok.nowhere LC) hz⟩
 ·rw[Dl,R_,EB];omega
 ·have:=Ex.mp (hz.1.mem_iff.mp hi)
  omega
end
end L2
namespace L2
open PySem PySem.Spec PyProof.Rows
section
variable {prog:Dv} {w:DE} {A:DI} {E:De->Dh->Prop} {s:Dh}
end
section
variable {X:Cx} {pos:DY}
theorem pK (l b:Dg) (L1 ND:Array De) (n n2:Nat) (dd OL:Option Dg) (sl OM:Array (Option De)) (h0:L1.isEmpty=true):
  Meets (H9.«tuple.__add__» {pos:=[DL l,DL b]}) λx R s=>
    s.heap.get? l=some {cls:=Fb "tuple",dict:=dd,data:=Jx L1 n,slots:=sl}/\
     s.heap.get? b=some {cls:=Fb "tuple",dict:=OL,data:=Jx ND n2,slots:=OM}/\R (Except.ok (Flow.ret (DL b))) s:=by
 intro prog w A R s ⟨g1,g2,q⟩
 have t1:J7 s.heap l L1:=⟨_,g1,rfl,n,rfl⟩
 have t2:J7 s.heap b ND:=⟨_,g2,rfl,n2,rfl⟩
 unfold H9.«tuple.__add__»
 refine Dk (DG (a:=(DL l,[DL b])) ?_)
 dsimp only
 refine Dk (wpAny_isInstance t2.typeIs sub_tuple_tuple ?_)
 rw[if_neg (by decide)]
 refine Dk (tupleItemsOf_ t1 (Dk (tupleItemsOf_ t2 ?_)))
 rw[if_pos h0]
 unfold Builtin.Tuple.tupleIsExact
 refine Dk (Dk (wpAny_typeOf t2.typeIs (DG ?_)))
 rw[if_pos (by decide)]
 exact Dk (wpAny_rule (Gv q))
def yq (K:Dd):R2:=λx y H Q=>∃a b ys,x= .ref a/\y= .ref b/\hU K H a []/\hU K H b ys/\Q (.ref b) H
theorem xl:i0 X (EI .Add) (yq X.K):=by
 intro JD s σ H x y v u Q I rx ry h
 obtain⟨a,b,ys,rfl,rfl,ha,hb,q⟩:=h
 cases rx
 cases ry
 obtain⟨its,r1,p1,_⟩:=I.tuple ha
 obtain⟨Lm,r2,p2,_⟩:=I.tuple hb
 cases r1
 obtain⟨⟨cls,dd,data,sl⟩,ho,hc,n,hd⟩:=id p1
 obtain⟨⟨Q3,OL,data2,OM⟩,Ob,OW,n2,OX⟩:=id p2
 simp only at hc hd OW OX
 subst hc hd OW OX
 exact Iu ⟨_,ho,rfl⟩ ⟨_,Ob,rfl⟩ He HW Ge G8 (G3 _ _)
   (pK a b _ _ n n2 dd OL sl OM rfl) ⟨ho,Ob,⟨.ref b,H,I,rfl,q⟩⟩
end
end L2
namespace L2
open PySem PySem.Spec PyProof.Rows
section
variable {X:Cx}
theorem uU:∀{bs:List Bool} {its:List De},aF (bs.map V.bl) its->∀{i:Nat} {v:De},its[i]? =some v->∃b,bs[i]? =some b/\v= .bool b:=by
 intro bs its r i v e
 have hl:=r.length
 rw[Dl]at hl
 have hi:i<bs.length:=by rw[hl];exact(Dy.mp e).1
 obtain⟨u,h1,h2⟩:=r.get (i:=i) (x:=V.bl bs[i]) (by simp[hi])
 rw[e]at h1
 cases h1
 exact⟨bs[i],by simp[hi],h2⟩
theorem xm:∀{ns:List Int} {its:List De},aF (ns.map V.int) its->∀{i:Nat} {v:De},its[i]? =some v->∃t,v= .int (ns.getD i 0) t:=by
 intro ns its r i v e
 have hl:=r.length
 rw[Dl]at hl
 have hi:i<ns.length:=by rw[hl];exact(Dy.mp e).1
 obtain⟨u,h1,h2⟩:=r.get (i:=i) (x:=V.int ns[i]) (by simp[hi])
 rw[e]at h1
 cases h1
 obtain⟨t,ht⟩:=h2
 exact⟨t,by rw[ht];simp[hi]⟩
theorem qR (bs:List Bool):((Eb bs.length).any λi=>bs.getD i false)=bs.any id:=by
 rw[FZ,FL,FL]
 constructor
 ·rintro⟨i,h1,h2⟩
  have hi:=Ex.mp h1
  exact⟨bs[i],IZ hi,by simpa[hi]using h2⟩
 ·rintro⟨b,h1,h2⟩
  obtain⟨i,hi,e⟩:=List.getElem_of_mem h1
  exact⟨i,Ex.mpr hi,by simp[hi,e];exact h2⟩
theorem tm {s:Dh} {it:DP} {h':DB} (hk:∀b o,b∉[s.heap.objs.size]->(s.heap.push it).get? b=some o->h'.get? b=some o):∀b o,s.heap.get? b=some o->h'.get? b=some o:=λb o e=>
 hk b o (λz=>by rw[DM.mp z]at e;exact absurd (Dz e) (El _)) (Dp _ e)
theorem fZ (hc:X.calm=true):d6 X (.builtin "any") (λxs H Q=>∃(p:Dg) (bs:List Bool),xs=[.ref p]/\dc X.K H p (bs.map V.bl)/\Q (.bl (bs.any id)) H):=by
 intro JD s σ H xs us Q I rv h
 obtain⟨p,bs,rfl,hx,q⟩:=h
 obtain⟨u,rfl,ru⟩:=jk rv
 cases ru
 obtain⟨its,r,ht,hz⟩:=I.list hx
 have hl:=ht.isList
 have MX:p<s.heap.objs.size:=by obtain⟨_,e,_⟩:=hl;exact Dz e
 refine call_any_walk (IG hl ?_)
 refine⟨s.heap.objs.size,[s.heap.objs.size,p],[s.heap.objs.size],its.toArray.size,_,_,λi=>bs.getD i false,rfl,Walks.list (A:=X.A.in1) (I.ok.hd hc) _ p (DV MX) its.toArray,⟨⟨_,DT _ rfl,rfl,rfl⟩,hl.push _⟩,λi v s' Q' E' hP hQ=> ?_,λh' tk hk=> ?_⟩
 ·obtain⟨b,e,rfl⟩:=uU r (i:=i) (v:=v) (by simpa using hP)
  have:bs.getD i false=b:=by simp[EZ,e]
  dsimp only at hQ
  rw[this]at hQ
  exact EL hQ
 ·have e:((Eb its.toArray.size).any λi=>bs.getD i false)=bs.any id:=by
   have hl:=r.length
   rw[Dl]at hl
   rw[Dr,<-hl];exact qR bs
  rw[e]
  exact⟨.bl _,H,I.kept (tm hk),rfl,q⟩
end
end L2
namespace L2
open PySem PySem.Spec PyProof.Rows
theorem mT:isSubtype (.type "tuple") (.type "set")=pure false:=by rw[isSubtype_type];kernel_rfl
theorem lU:isSubtype (.type "tuple") (.type "frozenset")=pure false:=by rw[isSubtype_type];kernel_rfl
abbrev setNew (N9:Bool):DP:={cls:= .type "set",dict:=none,data:= .set #[] 0 (.fresh 0 0 N9)}
abbrev uV (prog:Dv) (w:DE) (h':DB) (a:Dg) (ns:List Int) (n:Nat):Prop:=h'.SetOf (intKind prog w) a (λk=>(I_ (λi=>ns.getD i 0) n).any (·==k)) (I_ (λi=>ns.getD i 0) n).length
set_option maxHeartbeats 8000000 in
theorem tq {prog:Dv} {w:DE} {A:DI} {E:De->Dh->Prop} {s:Dh} {u:Dg} {xs:Array De} {ns:List Int} {Q:De->Dh->Prop} (hh:A.handled=none) (ht:s.heap.IsTuple u xs) (hi:∀(i:Nat) (v:De),xs[i]? =some v->∃t,v= .int (ns.getD i 0) t) (hb:xs.size+1<Iy)
  (Mg:∀(h':DB) (tk:Nat),uV prog w h' s.heap.objs.size ns xs.size->(∀b o,b<s.heap.objs.size->s.heap.get? b=some o->h'.get? b=some o)->Q (.ref s.heap.objs.size) {s with heap:=h',toks:=tk}):Du (Dx prog w) A (call (.type "set") [.ref u]) Q E s:=by
 obtain⟨c,tl,S0⟩:=F.called_set.mro
 have m1:=F.called_set.made
 have m2:=F.called_set.sub
 have m3:=F.called_set.notType
 have m4:=F.called_set.canCreate
 have m5:=F.typeCall_set_1 (.ref u)
 refine GS (codeAny_of_tree ?_)
 show Du _ _ (callAny (.type "set") _) _ _ _
 refine DG ⟨Iz _ (by decide+kernel),codeAny_builtin F.entry_type_call ?_⟩
 rw[Around.under_plain (weight_type_call_type "set" [.ref u] []) rfl]
 repeat (any_goals (first|assumption|wp_step))
 refine G2 (code_set_new_1 (.ref u) (E:=E) (Q₁:=λo s₁=>∃N9:Bool,o= .ref s.heap.objs.size/\s₁={s with heap:=s.heap.push (setNew N9)}) λN9=>⟨N9,rfl,rfl⟩) λr s₁ hr=> ?_
 cases r with
 |error e=>exact hr
 |ok fl=>
  cases fl with
  |ret o=>
   obtain⟨N9,rfl,rfl⟩:=hr
   have gS:(s.heap.push (setNew N9)).get? s.heap.objs.size=some (setNew N9):=DT _ rfl
   have tS:Shared.TypeIs {s with heap:=s.heap.push (setNew N9)} (.ref s.heap.objs.size) "set":=⟨_,gS,rfl⟩
   have n1:=F.called_set.init.lookup
   have n2:=F.called_set.init.bind (.ref s.heap.objs.size)
   repeat (any_goals (first|assumption|wp_step))
   refine G2 (Gw (R:=wants (λr s₂=>r= .none/\∃h' tk,s₂={s with heap:=h',toks:=tk}/\uV prog w h' s.heap.objs.size ns xs.size/\∀b o,b<s.heap.objs.size->s.heap.get? b=some o->h'.get? b=some o) E) F.called_set.init.plain F.entry_set_init (check_set_init_1 tS ?_)) λr₂ s₂ Qn=> ?_
   ·have Tn:=ht
    obtain⟨ot,Rf,Rg,nt,Rh⟩:=ht
    obtain⟨S1,Pa,Ri,Oj⟩:=ot
    simp only at Rg Rh
    subst Rg
    subst Rh
    have Qo:(s.heap.push (setNew N9)).get? u=some {cls:= .type "tuple",dict:=Pa,data:= .seq xs nt,slots:=Oj}:=Dp _ Rf
    have k1:=mT
    have k2:=lU
    have k3:(Fb "tuple"==Fb "dict")=false:=by decide
    have t1:(s.heap.push (setNew N9)).IsTuple u xs:=⟨_,Qo,rfl,nt,rfl⟩
    unfold H9.«set.__init__» noKeywords Jn
    generalize S2:pyIter=PI
    wp_walk
    subst S2
    refine Il t1 (Dk (wpAny_runValue ?_))
    have hu:u<s.heap.objs.size:=Dz Rf
    have h3:A.in1.in1.in1.handled=none:=by simp[hh]
    have z1:u≠(s.heap.push (setNew N9)).objs.size:=by rw[FC];exact DV (Fy hu)
    have z2:s.heap.objs.size∉[(s.heap.push (setNew N9)).objs.size,u]:=by
     rw[FC]
     intro z
     rcases DA.mp z with z|z
     ·exact DV (Hd _) z
     ·exact Nat.ne_of_gt hu (DM.mp z)
    refine codeAny_set_update_loopS (Walks.tuple h3 _ u z1 xs).toS s.heap.objs.size z2 (λi=>ns.getD i 0) (λi v hv=>hi i v hv) hb (xs.size - 0) 0 _ (by omega) (Ew _) ⟨⟨_,DT _ rfl,rfl,rfl⟩,t1.push _⟩ ?a0 ?a1
    case a0=>
     exact SetOf_congr ((setObjOf_fresh (knd:=intKind prog w) N9).setOf (Dp _ gS) (by unfold Iy;omega)) (λ_=>rfl) rfl
    case a1=>
     intro s' hm Qp
     obtain⟨h',g',d',S3,Q2⟩:=s'
     obtain rfl:g'=s.gens:=hm.gens
     obtain rfl:d'=s.drawn:=hm.drawn
     obtain rfl:Q2=s.os:=hm.os
     show Du _ _ _ _ _ _
     refine DG ?_
     show Du _ _ (ret E3) _ _ _
     refine DG ⟨rfl,h',S3,rfl,Qp,λb o hb e=>hm.heap b o ?_ (Dp _ (Dp _ e))⟩
     rw[FC]
     intro z
     rcases DA.mp z with z|z
     ·exact DV hb z
     ·exact DV (Fy hb) (DM.mp z)
   ·cases r₂ with
    |error e=>exact Qn
    |ok S4=>
     cases S4 with
     |ret r=>
      obtain⟨rfl,h',tk,rfl,Qp,O2⟩:=Qn
      repeat (any_goals (first|assumption|wp_step))
      exact Mg _ _ Qp O2
     |_=>exact Qn.elim
  |_=>exact hr.elim
def di (ns:List Int):Nat:=(I_ (λi=>ns.getD i 0) ns.length).length
section
variable {X:Cx} {e:Dn} {te:TE} {p1 p2 pos Ly:DY}
def xn (K:Dd) (te:TE):TE:=λσ H Q=>te σ H λx H1=>∃(a:Dg) (ns:List Int),[x]=[V.ref a]/\(dc K H1 a (ns.map V.int)\/hU K H1 a (ns.map V.int))/\ns.length<4000/\Q (.int (di ns)) H1
theorem uW:DZ "set"=some (.type "set"):=by decide+kernel
theorem tu:DZ "len"=some (.builtin "len"):=by decide+kernel
theorem tw (hc:X.calm=true) (he:PE X e te) (Qq:X.mg "len"=none) (Qr:X.mg "set"=none) (Qs:Gl X "len") (Qt:Gl X "set")
  (PD:Di [e] X.env=(false,DH e X.env)::Di [] X.env) (Ol:(DX Ly (Di [] X.env)).any (·.1)=false)
  (Ny:Di [.Call (.Name "set" p2) [e] [] Ly] X.env=(false,DH (.Call (.Name "set" p2) [e] [] Ly) X.env)::Di [] X.env) (Om:(DX pos (Di [] X.env)).any (·.1)=false):
  PE X (.Call (.Name "len" p1) [.Call (.Name "set" p2) [e] [] Ly] [] pos) (xn X.K te):=by
 intro JD s σ H Q I h
 refine EW (jW I Qs Qq tu ?_ (by decide) (by decide))
 refine Gs ?_ Ny Om
 rw[Ny]
 show Du _ _ (Jl ((false,DH (.Call (.Name "set" p2) [e] [] Ly) X.env)::DX pos (Di [] X.env))) _ _ s
 refine Ir ?_
 refine EW (jW I Qt Qr uW ?_ (by decide) (by decide))
 refine FH ?_ PD Ol
 refine cn (cR he gI PD Ly JD s σ H (λvs H1=>∃(a:Dg) (ns:List Int),vs=[V.ref a]/\(dc X.K H1 a (ns.map V.int)\/hU X.K H1 a (ns.map V.int))/\ns.length<4000/\Q (.int (di ns)) H1) I h) λus s1 z_=> ?_
 obtain⟨vs,H1,I1,r1,a,ns,rfl,hx,hl,q⟩:=z_
 obtain⟨u,rfl,ru⟩:=jk r1
 cases ru
 have Mg:∀(n:Nat),n=ns.length->∀(h':DB) (tk:Nat),uV X.prog X.w h' s1.heap.objs.size ns n->(∀b o,b<s1.heap.objs.size->s1.heap.get? b=some o->h'.get? b=some o)->
   Du (Dx X.prog X.w) X.A (Jl (DX pos (Di [] X.env))) (λus s2=>Du (Dx X.prog X.w) X.A (call (.builtin "len") (.ref s1.heap.objs.size::us)) (EP X JD σ Q) X.xe s2) X.xe {s1 with heap:=h',toks:=tk}:=by
  rintro n rfl h' tk hS hk
  refine IK ?_
  obtain⟨o,es,ep,t,ho,S5,hd,N8,NC,_,hf,Pb⟩:=hS
  have To:=firstMet_length_le (λi=>ns.getD i 0) ns.length
  refine call_len_set ho S5 hd hf (by rw[Pb];omega) ?_
  rw[Pb]
  exact⟨.int _,H1,(I1.kept λb o e=>hk b o (Dz e) e).tok _,⟨_,rfl⟩,q⟩
 rcases hx with hx|hx
 ·obtain⟨its,r,ht,hz⟩:=I1.list hx
  have K7:=r.length
  rw[Dl]at K7
  exact call_set_list (I1.ok.hd hc) ht.isList (iY r) (by rw[Dr,<-K7];unfold Iy;omega) λh' tk a b=>Mg _ (by rw[Dr,K7]) h' tk a b
 ·obtain⟨its,r,ht,hz⟩:=I1.tuple hx
  have K7:=r.length
  rw[Dl]at K7
  exact tq (I1.ok.hd hc) ht (λi v hv=>xm r (by simpa using hv)) (by rw[Dr,<-K7];unfold Iy;omega) λh' tk a b=>Mg _ (by rw[Dr,K7]) h' tk a b
end
end L2
namespace L2
open PySem PySem.Spec PyProof.Rows
theorem bd.there {P:Dv} {w:DE} {H:Hp} {h:DB} {a:Dg} {o:HO} (x:bd P w H h a o):∃ob,h.get? a=some ob:=by
 cases o with
 |lst xs=>obtain⟨_,_,_,_,e⟩:=x;exact⟨_,e⟩
 |tup xs=>obtain⟨_,_,_,o,e,_⟩:=x;exact⟨_,e⟩
 |dK kvs=>obtain⟨_,_,_,_,o,_,_,e,_⟩:=x;exact⟨_,e⟩
 |dT kvs=>obtain⟨_,_,_,_,o,_,_,e,_⟩:=x;exact⟨_,e⟩
 |set S n=>obtain⟨o,_,_,_,e,_⟩:=x;exact⟨_,e⟩
 |ins C dx fs=>obtain⟨_,_,_,e,_⟩:=x;exact⟨_,e⟩
 |own y=>obtain⟨_,e⟩:=x;exact⟨_,e⟩
 |xd fs=>obtain⟨_,⟨_,_,_,e,_⟩,_⟩:=x;exact⟨_,e⟩
 |rng lo hi=>obtain⟨_,_,_,e⟩:=x;exact⟨_,e⟩
 |frz ob u=>obtain⟨e,_⟩:=x;exact⟨_,e⟩
 |tbl ps=>exact⟨_,(show h.get? a=some _ from x)⟩
 |met f y=>exact⟨_,(show h.get? a=some _ from x)⟩
 |ext φ=>obtain⟨_,⟨_,e⟩,_⟩:=x;exact⟨_,e⟩
theorem h_.none_of {P:Dv} {w:DE} {H:Hp} {h:DB} {a:Dg} (x:h_ P w H h) (e:h.get? a=none):H a=none:=by
 cases q:H a with
 |none=>rfl
 |some o=>obtain⟨ob,z⟩:=(x a o q).there;rw[e]at z;cases z
structure qS (X:Cx) (JD:List (Dg×DP)) (H:Hp) (b:Dg):Prop where
 s0:X.s₀.heap.get? b=none
 no:H b=none
 pin:∀p∈X.pn++JD,p.1≠b
structure zq (X:Cx) (JD:List (Dg×DP)) (H:Hp) (h:DB) (a T:Dg) (fl:De):Prop where
 new:qS X JD H T
 ne:T≠a
 at_:∃oT ts,h.get? T=some oT/\oT.data= .fields ts/\ts[3]? =some fl
structure Fl (X:Cx) (JD:List (Dg×DP)) (H:Hp) (h:DB) (a:Dg) (cls:De):Prop where
 new:qS X JD H a
 at_:∃oe vs,h.get? a=some oe/\oe.cls=cls/\oe.data= .fields vs/\(vs[1]? =some .none\/∃T fl,vs[1]? =some (.ref T)/\zq X JD H h a T fl/\(fl= .none\/fl=rawInt X.env.locals))
structure Ac (X:Cx) (JD:List (Dg×DP)) (H:Hp) (h:DB) (a:Dg) (cls fl:De):Prop where
 new:qS X JD H a
 at_:∃oe vs,h.get? a=some oe/\oe.cls=cls/\oe.data= .fields vs/\∃T,vs[1]? =some (.ref T)/\zq X JD H h a T fl
abbrev AR (X:Cx) (JD:List (Dg×DP)) (H:Hp) (h:DB) (a:Dg) (cls:De):Prop:=Ac X JD H h a cls .none
theorem Ac.flo {X:Cx} {JD:List (Dg×DP)} {H:Hp} {h:DB} {a:Dg} {cls fl:De} (f:Ac X JD H h a cls fl) (hf:fl= .none\/fl=rawInt X.env.locals):Fl X JD H h a cls:=
 let ⟨oe,vs,h1,h2,h3,T,h4,h5⟩:=f.at_;⟨f.new,oe,vs,h1,h2,h3, .inr ⟨T,fl,h4,h5,hf⟩⟩
theorem Ac.fl {X:Cx} {JD:List (Dg×DP)} {H:Hp} {h:DB} {a:Dg} {cls:De} (f:Ac X JD H h a cls .none):Fl X JD H h a cls:=f.flo (.inl rfl)
section
variable {X:Cx} {JD:List (Dg×DP)} {σ:St} {H H':Hp} {s s':Dh} {a:Dg} {cls:De}
structure f_ (X:Cx):Prop where
 st:X.stack=X.env::X.outer
 fr:X.env.frame=some X.env.locals
 ex:X.ex=[]
theorem qS.of (I:au X JD σ H s) (p:f_ X) {b:Dg} (h:s.heap.get? b=none) (hH:H' b=none):qS X JD H' b:=by
 refine⟨?_,hH,λq hq z=> ?_⟩
 ·cases e:X.s₀.heap.get? b with
  |none=>rfl
  |some o=>
   obtain⟨o',e'⟩:=I.base.there b o e (by rw[p.ex];simp)
   rw[h]at e';cases e'
 ·have:=(I.pin q hq).1
  rw[z,h]at this;cases this
def se (h B:DB) (a:Dg) (cls fl:De):Prop:=∃oe vs T oT ts,h.get? a=some oe/\oe.cls=cls/\oe.data= .fields vs/\vs[1]? =some (.ref T)/\B.get? T=none/\T≠a/\h.get? T=some oT/\oT.data= .fields ts/\ts[3]? =some fl
theorem _root_.PySem.Heap.TracedAtW.tl {h B:DB} {a:Dg} {cls a0 fl:De} (t:h.TracedAtW B a cls a0 fl):se h B a cls fl:=
 let ⟨oe,vs,T,oT,ts,g1,g2,g3⟩:=t;⟨oe,vs,T,oT,ts,g1,g2.1,g3⟩
theorem nE (I:au X JD σ H s) (p:f_ X) (fl:Fl X JD H s.heap a cls):∃(B:DB) (oe:DP) (vs:Array De),s.heap.get? a=some oe/\oe.cls=cls/\oe.data= .fields vs/\s.heap.FunFrames B (X.env::X.outer)/\B.StaysIn s.heap/\B.get? a=none/\
  (vs[1]? =some .none\/∃T oT ts fl,vs[1]? =some (.ref T)/\B.get? T=none/\T≠a/\s.heap.get? T=some oT/\oT.data= .fields ts/\ts[3]? =some fl/\(fl= .none\/fl=rawInt X.env.locals))/\
  ∀h' fl,B.StaysIn h'->se h' B a cls fl->s.heap.UpToSlots h'->au X JD σ H {s with heap:=h'}/\Ac X JD H h' a cls fl:=by
 obtain⟨oe,vs,ge,gc,gd,gt⟩:=fl.at_
 obtain⟨rest,O3,Pc⟩:∃rest:List Dg,(∀b∈rest,qS X JD H b/\∃oT ts,s.heap.get? b=some oT/\oT.data= .fields ts)/\(vs[1]? =some .none\/∃T fl,vs[1]? =some (.ref T)/\zq X JD H s.heap a T fl/\(fl= .none\/fl=rawInt X.env.locals)/\T∈rest):=by
  rcases gt with g|⟨T,fl,g,t,Qu⟩
  ·exact⟨[],(λb hb=>by cases hb), .inl g⟩
  ·obtain⟨oT,ts,e1,e2,_⟩:=t.at_
   exact⟨[T],λb hb=>by rw[DM.mp hb];exact⟨t.new,oT,ts,e1,e2⟩, .inr ⟨T,fl,g,t,Qu,DM.mpr rfl⟩⟩
 have Qv:∀b,b∈X.fs->b∈lm X.stack:=λb hb=>by
  rw[p.st]
  unfold lm
  rw[Fh,p.fr]
  exact Dw _ hb
 have Qw:X.env.locals∈lm X.stack:=by
  rw[p.st]
  unfold lm
  rw[Fh,p.fr]
  exact Dt
 have Qx:∀b∈a::rest,qS X JD H b/\∃oT ts,s.heap.get? b=some oT/\oT.data= .fields ts:=λb hb=>by
  rcases DA.mp hb with rfl|hb
  ·exact⟨fl.new,oe,vs,ge,gd⟩
  ·exact O3 b hb
 have PF:∀b∈lm X.stack,∃o,s.heap.get? b=some o/\∀vs:Array De,o.data≠Data.fields vs:=λb hb=>(I.stack.mem hb).2
 have apart:∀b∈a::rest,b∉lm X.stack:=λb hb z=>by
  obtain⟨_,o,ts,e1,e2⟩:=Qx b hb
  obtain⟨o',e3,e4⟩:=PF b z
  rw[e1]at e3;cases e3
  exact e4 ts e2
 let Rj:List Dg:=(a::rest)++lm X.stack
 let B:DB:=J8 s.heap Rj
 have ff:s.heap.FunFrames B X.stack:=PySem.W.funFrames_hide I.stack λenv he b hb=>DO _ (GB.mpr ⟨env,he,hb⟩)
 have hB:B.StaysIn s.heap:=λb o e=>Ii _ e
 have Oo:B.get? a=none:=Gm _ (Ej _ Dt)
 have S6:s.heap.FunFrames B (X.env::X.outer):=by rw[<-p.st];exact ff
 refine⟨B,oe,vs,ge,gc,gd,S6,hB,Oo,?_,λh' Tp st ⟨Rl,Rm,T',Qy,PH,g1,g2,g3,g4,g5,g6,g7,g8,g9⟩ up=> ?_⟩
 ·rcases Pc with g|⟨T,fl,g,t,Qu,hT⟩
  ·exact .inl g
  ·obtain⟨oT,ts,e1,e2,e3⟩:=t.at_
   exact .inr ⟨T,oT,ts,fl,g,Gm _ (Ej _ (Dw _ hT)),t.ne,e1,e2,e3,Qu⟩
 ·have PJ:∀b o,s.heap.get? b=some o->b∉a::rest->b∉lm X.stack->h'.get? b=some o:=λb o e n1 n2=>
   st b o (Gy _ e λz=>(EX.mp z).elim n1 n2)
  have newT:qS X JD H T':=by
   by_cases hr:T'∈rest
   ·exact(O3 T' hr).1
   ·have hn:s.heap.get? T'=none:=by
     cases e:s.heap.get? T' with
     |none=>rfl
     |some o=>
      by_cases hf:T'∈lm X.stack
      ·obtain⟨o',e3,e4⟩:=PF T' hf
       obtain⟨sl,e5⟩:=up T' o' e3 e4
       rw[g7]at e5;cases e5
       exact absurd g8 (e4 PH)
      ·have:=Gy Rj (b:=T') e λz=>(EX.mp z).elim (λq=>(DA.mp q).elim g6 hr) hf
       rw[g5]at this;cases this
    exact qS.of I p hn (I.hok.none_of hn)
  refine⟨I.step (g':=s.gens) (d':=s.drawn) (t':=s.toks) (ch:=a::rest) (λb hb=> ?_) (λb o n1 n2 n3 e _=> ?_) (λb o _ hb n3 e _=> ?_) (λ_ _ _ _ n=>n) (λb o n e=> ?_) (λ_ _ e=>e) (λ_ _ _ e=>e) (λb ps e=>⟨#[],by rw[e];simp⟩) (λm hm=> ?_) (λb u e=> ?_) I.bare,
   ⟨fl.new,Rl,Rm,g1,g2,g3,T',g4,newT,g6,Qy,PH,g7,g8,g9⟩⟩
  ·obtain⟨n,o,ts,e1,e2⟩:=Qx b hb
   refine⟨.inr n.s0,λz=>apart b hb (by rw[z];exact Qw),λx c hc z=> ?_,n.pin⟩
   obtain⟨v,o',e3,e4⟩:=I.cell x c hc
   rw[z,e1]at e3;cases e3
   rw[e2]at e4;cases e4
  ·exact PJ b o e n3 λz=>(DA.mp (I.stkSub b z)).elim n1 n2
  ·obtain⟨o',e3,e4⟩:=PF b (Qv b hb)
   rw[e]at e3;cases e3
   exact up b o e e4
  ·by_cases hf:b∈lm X.stack
   ·obtain⟨o',e3,e4⟩:=PF b hf
    rw[e]at e3;cases e3
    obtain⟨sl,e5⟩:=up b o e e4
    exact⟨_,e5⟩
   ·exact⟨o,PJ b o e n hf⟩
  ·obtain⟨o,es,ep,ho,hd,r⟩:=hm
   obtain⟨sl,e5⟩:=up _ o ho λvs z=>by rw[hd]at z;cases z
   exact⟨_,es,ep,e5,hd,r⟩
  ·have nh:∀c v,H c=some v->c∉a::rest/\c∉lm X.stack:=λc v hc=>⟨λz=>(by have:=(Qx c z).1.no;rw[hc]at this;cases this),λz=>(by have:=I.stkFree c z;rw[hc]at this;cases this)⟩
   refine(I.hok b u e).stay (λc v hc q=> ?_) (λ_ q=>q) λ_ _ q=>q
   rcases hc with z|z
   ·rw[z]at q ⊢;exact PJ b v q (nh b u e).1 (nh b u e).2
   ·exact PJ c v q (nh c _ z).1 (nh c _ z).2
theorem uX {vs:Array De} {v:De} (h:vs[1]? =some v):1<vs.size/\∃a0,vs[0]? =some a0:=by
 have MB:1<vs.size:=by
  by_cases z:1<vs.size
  ·exact z
  ·rw[Array.getElem?_eq_none (Hf z)]at h;cases h
 exact⟨MB,vs[0]'(by omega),by simp⟩
theorem pL {Q:Unit->Dh->Prop} {E:De->Dh->Prop} (I:au X JD σ H s) (p:f_ X) (fl:Fl X JD H s.heap a cls)
  (k:∀h',au X JD σ H {s with heap:=h'}->AR X JD H h' a cls->Q () {s with heap:=h'}):
  Du (Dx X.prog X.w) X.A (Iv (.ref a) X.env) (λ_ s₂=>Du (Dx X.prog X.w) X.A (setFlight (.ref a) none) Q E s₂) E s:=by
 obtain⟨B,oe,vs,ge,gc,gd,ff,hB,Oo,hn,hk⟩:=nE I p fl
 have LC:X.A.frames=some (X.env::X.outer):=by rw[I.ok.frames,p.st]
 rcases hn with g|⟨T,oT,ts,f,g1,g2,g3,g4,g5,g6,g7⟩
 ·obtain⟨MB,a0,h0⟩:=uX g
  unfold Iv
  rw[p.fr]
  refine Dk (wpAny_field (o:=oe) ge (by rw[gd]) g ?_)
  refine wpAny_newEntryW (head:= .none) (hadNext:=false) LC ff p.fr ge hB Oo gd MB h0 λh' z_=> ?_
  obtain⟨st,_,tr,up⟩:=z_
  rw[gc]at tr
  obtain⟨I',f'⟩:=hk h' _ st tr.at.tl up
  exact k h' I' f'
 ·obtain⟨MB,a0,h0⟩:=uX g1
  rcases g7 with rfl|rfl
  ·refine wpAny_looks_onW (cls:=cls) (a0:=a0) LC p.fr ⟨hB,Oo,ff,oe,vs,T,oT,ts,ge,⟨gc,h0⟩,gd,g1,g2,g3,g4,g5,g6⟩ λh1 Qz u1=> ?_
   refine wpAny_landsW Qz λh2 ⟨st,_,_,tr⟩ u2=> ?_
   obtain⟨I',f'⟩:=hk h2 _ st tr.at.tl (u1.trans u2)
   exact k h2 I' f'
  ·have Rn:s.heap.TracedAtW B a cls a0 (rawInt X.env.locals):=⟨oe,vs,T,oT,ts,ge,⟨gc,h0⟩,gd,g1,g2,g3,g4,g5,g6⟩
   refine wpAny_noteFrame_againW p.fr Rn ?_
   refine wpAny_landsW (base:=B) (l:=X.env::X.outer) (L:=X.env.locals) ⟨hB,Oo,ff,Rn⟩ λh2 ⟨st,_,_,tr⟩ u2=> ?_
   obtain⟨I',f'⟩:=hk h2 _ st tr.at.tl u2
   exact k h2 I' f'
theorem uY {Q:Unit->Dh->Prop} {E:De->Dh->Prop} (I:au X JD σ H s) (p:f_ X) (fl:Fl X JD H s.heap a cls)
  (k:∀h',au X JD σ H {s with heap:=h'}->AR X JD H h' a cls->Q () {s with heap:=h'}):Du (Dx X.prog X.w) X.A (leaving X.env (.ref a)) Q E s:=
 Dk (pL I p fl k)
def CW (g:DB) (H:Hp) (h:DB) (a:Dg) (cls:De):Prop:=g.get? a=none/\H a=none/\∃oe vs T oT ts,h.get? a=some oe/\oe.cls=cls/\oe.data= .fields vs/\vs[1]? =some (.ref T)/\g.get? T=none/\H T=none/\T≠a/\
 h.get? T=some oT/\oT.data= .fields ts/\ts[3]? =some .none
def i6 (P:Dv) (w:DE):qG:=λouter H s E e s'=>∃a cls H',e= .ref a/\s'.os=s.os/\G5 s'.gens/\Un (lm outer) [] H H' s.heap s'.heap/\h_ P w H' s'.heap/\CW s.heap H' s'.heap a cls/\E cls (some a) H'
theorem zr {E:XK} {e:De} (I:au X JD σ H s) (p:f_ X) (h:i6 X.prog X.w X.stack H s E e s'):∃a cls H',e= .ref a/\au X JD σ H' s'/\Fl X JD H' s'.heap a cls/\E cls (some a) H':=by
 obtain⟨a,cls,H',rfl,os,bare,un,hok,⟨n1,n2,oe,vs,T,oT,ts,g1,g2,g3,g4,g5,g6,g7,g8,g9,Ro⟩,q⟩:=h
 refine⟨a,cls,H',rfl,I.call' os un hok bare (λb hb=>by cases hb),⟨qS.of I p n1 n2,oe,vs,g1,g2,g3, .inr ⟨T, .none,g4,⟨qS.of I p g5 g6,g7,oT,ts,g8,g9,Ro⟩, .inl rfl⟩⟩,q⟩
theorem i7 {CX:qG} {P:Dv} {w:DE} {K:Dd} {mg:Df->Option De} {base:DB} {N:List Df} {qual:Df} {scope:EO} {f:Dg} {cd:De} {A:DI} {outer:List EF} {s:Dh} {H:Hp} {E:XK}:
  f_ (fA CX P w K mg base N qual scope f cd A outer s H E):=⟨rfl,rfl,rfl⟩
theorem qT {P:Dv} {w:DE} {K:Dd} {mg:Df->Option De} {base:DB} {N:List Df} {qual:Df} {scope:EO} {f:Dg} {cd:De} {A:DI} {outer:List EF} {s0:Dh} {H0:Hp} {E:XK}
  (I:au (fA (i6 P w) P w K mg base N qual scope f cd A outer s0 H0 E) JD σ H s) (fl:Fl (fA (i6 P w) P w K mg base N qual scope f cd A outer s0 H0 E) JD H s.heap a cls) (h:E cls (some a) H):
  (fA (i6 P w) P w K mg base N qual scope f cd A outer s0 H0 E).xe (.ref a) s:=by
 refine uY I i7 fl λh' I' f'=> ?_
 obtain⟨oe,vs,g1,g2,g3,T,g4,t⟩:=f'.at_
 obtain⟨oT,ts,g5,g6,g7⟩:=t.at_
 exact⟨a,cls,H,rfl,I'.os,I'.bare,I'.base,I'.hok,⟨f'.new.s0,f'.new.no,oe,vs,T,oT,ts,g1,g2,g3,g4,t.new.s0,t.new.no,t.ne,g5,g6,g7⟩,h⟩
end
end L2
namespace L2
open PySem PySem.Spec PyProof.Rows
theorem cp {α:Type} {M:IB} {A:DI} {t:Gd α} {r:α} {Q:α->Dh->Prop} {E:De->Dh->Prop} {s:Dh} (l:Js M s.heap t r) (q:Q r s):Du M A t Q E s:=l A Q E s (λ_ _ e=>e) q
theorem j0 {M:IB} {h:DB} {x C:Dg} {ox:DP} (e:h.get? x=some ox) (hc:ox.cls= .ref C):Js M h (typeOf (.ref x)) (.ref C):=λA Q E s k q=>
 Dk (wpAny_loadPart (k _ _ e) (DG (by rw[hc];exact q)))
theorem qU {prog:Dv} {w:DE} {A:DI} {s:Dh} {K:Dd} {x C:Dg} {R:Im->Dh->Prop} {ox:DP} {tp:De} (KX:K.In s.heap) (e:s.heap.get? x=some ox) (hc:ox.cls= .ref C) (hm:DR K C (.type "object")=some true)
  (q:R (.ok (.ret (.ref C))) s):G6 (Dx prog w) A (.call (.builtin "getset_descriptor.__get__") {pos:=[.builtin "object.__class__", .ref x,tp]}) R s:=by
 refine Gw IA.plain PySem.W.KF.entry_gs ?_
 refine IA.check _ _ _ _ _ _ _ _ PySem.W.KF.type_class (PySem.W.KF.args_gs _ _ _) ?_
 show Du _ _ (Gb _) _ _ _
 unfold Gb
 rw[PySem.W.dga_obj]
 refine Dk (DG ?_)
 dsimp only
 unfold Ia
 dsimp only
 unfold HA HB
 dsimp only
 rw[PySem.W.KF.owner_class]
 refine Dk (Dk (DG ?_))
 refine Dk (Dk (cp (j0 e hc) (cp (I0 KX hm) ?_)))
 refine DG ?_
 refine Gv ⟨Iz _ (by decide+kernel),codeAny_builtin PySem.W.KF.entry_class ?_⟩
 show Du _ _ (do let t<-shownTypeOf (.ref x);ret t) _ _ _
 unfold shownTypeOf
 refine Dk (Dk (cp (j0 e hc) ?_))
 rw[if_neg (by intro z;exact absurd z (by simp))]
 exact DG (Gv q)
theorem xo {prog:Dv} {w:DE} {A:DI} {E:De->Dh->Prop} {s:Dh} {K:Dd} {x C:Dg} {ox:DP} {Q:Option De->Dh->Prop} (KX:K.In s.heap) (e:s.heap.get? x=some ox) (hc:ox.cls= .ref C)
  (h1:Ds K (.ref C) "__getattribute__"=some (some (.builtin "BaseException.__getattribute__"))) (h2:Ds K (.ref C) "__getattr__"=some none) (h3:Ds K (.ref C) "__class__"=some (some (.builtin "object.__class__")))
  (h4:Fx K (.builtin "object.__class__") "__get__"=some (some (.builtin "getset_descriptor.__get__"))) (h5:F_ K (.builtin "object.__class__")=some true) (h6:DR K C (.type "object")=some true) (h7:DR K C (.type "BaseException")=some true)
  (q:Q (some (.ref C)) {s with toks:=s.toks+1}):Du (Dx prog w) A (getAttr? (.ref x) "__class__") Q E s:=by
 unfold getAttr?
 refine Dk (wpAny_mkText ?_)
 unfold getAttrBy?
 refine Dk (wpAny_attempt ?_)
 unfold getAttrBy
 refine FQ (Dk (cp (j0 e hc) (Dk (cp (FJ KX h1) ?_))))
 dsimp only
 rw[if_neg (by rw[show (FR "BaseException.__getattribute__"==FR "object.__getattribute__")=false by decide+kernel,HH];simp)]
 unfold getAttrByItsOwn hookBefore
 refine Dk ?_
 rw[if_pos (by rfl)]
 refine cp (FJ KX h2) ?_
 refine Dk (wpAny_attempt (FQ ?_))
 unfold callGetattribute
 rw[if_neg (by simp)]
 unfold boundAndCalled
 rw[F.attrBase_ValueError.ga.bind]
 refine Dk (DG ?_)
 dsimp only
 refine GS (Gw F.attrBase_ValueError.ga.plain F.entry_bexc_ga ?_)
 show Du _ _ (checkBuiltinCall "BaseException.__getattribute__" {pos:=DL x::[Gh (Hk "__class__") s.toks],kw:=[]}) _ _ _
 refine PySem.W.check_slot (i:="BaseException.__getattribute__") (owner:="BaseException") (n:="__getattribute__") Hl._proof_1_1 Hl._proof_1_2 (λA Q E s k q=>Dk (j0 e hc A _ E s k (I0 KX h7 A _ E s k q))) (F.args_bexc_ga _ _) ?_
 unfold H9.«object.__getattribute__»
 refine Dk (DG (a:=(DL x,[Gh (Hk "__class__") s.toks])) ?_)
 dsimp only
 refine Dk (DG (a:=Hk "__class__") ?_)
 refine Dk (cp (j0 e hc) ?_)
 refine Dk ?_
 unfold Jz
 refine Dk (cp (FJ KX h3) ?_)
 refine Dk ?_
 show Du _ _ (specialOf _ _) _ _ _
 refine cp (PySem.W.looks_specialIn KX h4) ?_
 refine Dk ?_
 show Du _ _ (do let b<-Jh (FR "object.__class__");if b=true then pure (some (FR "getset_descriptor.__get__",FR "object.__class__"))else pure none) _ _ _
 refine Dk (cp (PySem.W.looks_takesIn KX h5) ?_)
 rw[if_pos rfl]
 refine DG ?_
 dsimp only
 refine Dk (wpAny_rule (DG ?_))
 dsimp only
 unfold Jv
 dsimp only
 refine Dk (FQ (GS (qU KX e hc h6 ?_)))
 refine Gv ?_
 exact PySem.W.handed_on (by rfl) (DG q)
def om:List De:=[.type "ValueError", .type "Exception", .type "BaseException", .type "object"]
structure oo (K:Dd) (C:Dg):Prop where
 exc:∃LL Bn Rp Rq,E9 K C om LL=true/\ExcBaseFacts Bn LL Rp Rq/\om.contains (.type Bn)=true
 ga:Ds K (.ref C) "__getattribute__"=some (some (.builtin "BaseException.__getattribute__"))
 gt:Ds K (.ref C) "__getattr__"=some none
 kc:Ds K (.ref C) "__class__"=some (some (.builtin "object.__class__"))
 sp:Fx K (.builtin "object.__class__") "__get__"=some (some (.builtin "getset_descriptor.__get__"))
 tk:F_ K (.builtin "object.__class__")=some true
 mo:DR K C (.type "object")=some true
 mb:DR K C (.type "BaseException")=some true
 kk:FF K (.ref C) (.ref C)=some true
theorem sf {K:Dd} {h:DB} {C:Dg} {NN:List De} {LL:String} (KX:K.In h) (e:E9 K C NN LL=true):∃bm N nm q bs hdct sn sub ab col dd k0 k1 k2 k3 k5 mN,
  h.get? C=some (excClassObj nm q C N bs bm hdct sn sub ab col dd k0 k1 k2 k3 k5 LL)/\h.Ns N mN/\mN (Hk "__init__")=none/\OwnTail h NN bm:=by
 unfold E9 at e
 split at e
 ·split at e
  ·rename_i dd cd sl lk _ _ C' bm k0 k1 k2 k3 n k5 e1 e2
   simp only[Eu]at e
   obtain⟨⟨⟨⟨⟨a1,a2⟩,a3⟩,a4⟩,a5⟩,a6⟩:=e
   have b1:C'=C:=eq_of_beq a1
   have b2:n=LL:=eq_of_beq a2
   subst b1 b2
   have g:=KX _ _ lk
   have S7:sl= #[k0,k1,k2,k3,some (FR n),k5]:=by rw[<-Array.toList_inj];exact e2
   have Pd:cd.hasDel=false:=by simpa using a3
   obtain⟨nm,bs,mro,N,q,hd,sn,sb,ab,col,Tq⟩:=cd
   dsimp only at e1 Pd a4 a5 a6
   subst e1 S7 Pd
   exact⟨bm,N,nm,q,bs,hd,sn,sb,ab,col,dd,k0,k1,k2,k3,k5,_,g,Heap.Ns.of_isNs (PySem.W.isNs_of_in KX a5),PySem.W.nsMap_none_of_in KX a5 (eq_of_beq a6),PySem.W.tail_of_in KX a4⟩
  ·cases e
 ·cases e
theorem uZ {K:Dd} {x C:Dg} (k:oo K C):PySem.W.KitX K (.ref x) (.ref C) λh=>∃ox,h.get? x=some ox/\ox.cls= .ref C where
 ty:=λM h _ ⟨ox,e,hc⟩=>j0 e hc
 it:=λM h KX _=>(PySem.W.kit_cls KX k.kk).2.1
 ne:=λh tp dd its n sl KX e=>by
  cases z:(DL C==DL tp)with
  |false=>rfl
  |true=>
   have ez:DL C=DL tp:=eq_of_beq z
   cases ez
   obtain⟨LL,_,_,_,ei,_⟩:=k.exc
   obtain⟨bm,N,nm,q,bs,hd,sn,sb,ab,col,dd,k0,k1,k2,k3,k5,mN,g,_⟩:=sf KX ei
   rw[e]at g
   exact absurd (congrArg Obj.data (Eh g)) (λz=>by cases z)
 ca:=λ{prog w A E Q s} KX ⟨ox,e,hc⟩ q=>xo KX e hc k.ga k.gt k.kc k.sp k.tk k.mo k.mb q
end L2
namespace L2
open PySem PySem.Spec PyProof.Rows
section
variable {X:Cx} {JD:List (Dg×DP)} {σ:St} {H:Hp} {s:Dh} {a:Dg} {cls:De} {x:Df} {np K9 pos:DY} {e:Dn} {es:List Dn} {t:TA} {C:Dg}
def u_ (X:Cx) (C:Dg) (t:TA):TS:=λ_ σ H=>t σ H λvs H1=>vs.length<=sizeLine/\∀JD s a,au X JD σ H1 s->Fl X JD H1 s.heap a (.ref C)->X.xe (.ref a) s
theorem xp {h':DB} {vs:List De} (I:au X JD σ H s) (p:f_ X) (m:s.heap.MadeExcOf h' a cls vs):au X JD σ H {s with heap:=h'}/\Fl X JD H h' a cls:=by
 obtain⟨tp,g1,g2,g3⟩:=m.there
 exact⟨I.kept (t':=s.toks) m.keeps,qS.of I p m.new (I.hok.none_of m.new),_,_,g1,rfl,rfl, .inl rfl⟩
theorem v1 (k:oo X.K C) (hm:X.mg x=some (.ref C)) (p:f_ X) (hc:X.calm=true) (ha:PA X (e::es) t) (hg:Gl X x:=by rfl) (L4:(x==("__debug__":Df))=false:=by decide)
  (he:Di (e::es) X.env=(false,DH e X.env)::Di es X.env:=by rfl) (KL:(DX K9 (Di es X.env)).any (·.1)=false:=by rfl):PS X (.Raise (some (.Call (.Name x np) (e::es) [] K9)) none pos) (u_ X C t):=by
 intro JD s σ H D I h
 obtain⟨LL,Bn,Rp,Rq,ei,fB,hB⟩:=k.exc
 obtain⟨bm,N,nm,q,bs,hd,sn,sb,ab,col,dd,k0,k1,k2,k3,k5,mN,g,ns,ni,tl⟩:=sf I.ok.mod.kin ei
 have NF:DX K9 (Di (e::es) X.env)=(false,DH e X.env)::DX K9 (Di es X.env):=by rw[he];rfl
 refine wpAny_Raise_call_subU (nm:=nm) (q:=q) (C:=C) (N:=N) (bs:=bs) (hdct:=hd) (sn:=sn) (sub:=sb) (ab:=ab) (col:=col) (dd:=dd) (k0:=k0) (k1:=k1) (k2:=k2) (k3:=k3) (k5:=k5) fB hB F.excBase_ValueError (tl.hasType (by decide)) (I.ok.hd hc) (by rw[NF];exact KL) ni (ji I hg hm ⟨rfl,?_⟩ L4)
 rw[NF]
 refine HN ?_
 rw[<-NF]
 refine cn (ha K9 JD s σ H _ I h) λus s1 ⟨vs,H1,I1,r,z,q1⟩=>⟨rfl,by rw[<-r.length];exact z,I1.bk _ _ g,ns.keeps I1.bk,tl.keeps I1.bk,λh' a m=> ?_⟩
 obtain⟨I2,f2⟩:=xp I1 p m
 exact q1 JD _ a I2 f2
abbrev Cx.inH (X:Cx) (v:De):Cx:={X with A:=X.A.mark (some v),calm:=false,xe:=λ_ _=>False}
theorem Cx.Ok.inH {v:De} (ok:X.Ok):(X.inH v).Ok:=⟨ok.mod,ok.kind,ok.glob,ok.blt,ok.above,ok.inj,ok.has,ok.cab,(λz=>by cases z),ok.frames,ok.stk,ok.exf,ok.bs,ok.bsz,ok.noex,ok.exfs,ok.funs,ok.frf⟩
theorem au.inH {v:De} (I:au X JD σ H s):au (X.inH v) JD σ H s:=⟨I.ok.inH,I.os,I.bare,I.base,I.loc,I.cell,I.free,I.freeC,I.pin,I.hok,I.len⟩
theorem au.outH {v:De} (ok:X.Ok) (I:au (X.inH v) JD σ H s):au X JD σ H s:=⟨ok,I.os,I.bare,I.base,I.loc,I.cell,I.free,I.freeC,I.pin,I.hok,I.len⟩
theorem au.track {o:HO} {oa:DP} {vs:Array De} (I:au X JD σ H s) (n:qS X JD H a) (ga:s.heap.get? a=some oa) (gd:oa.data= .fields vs) (new:bd X.prog X.w (a_ H a o) s.heap a o):au X JD σ (a_ H a o) s:=by
 have ne:∀b u,H b=some u->b≠a:=λb u e z=>by rw[z,n.no]at e;cases e
 have NX:X.env.locals≠a:=λz=>by
  obtain⟨m,⟨o,es,ep,ho,hd,_⟩,_⟩:=I.loc
  rw[z,ga]at ho;cases ho
  rw[gd]at hd;cases hd
 have OK:∀y c,X.env.cells.lookup y=some c->c≠a:=λy c e z=>by
  obtain⟨v,o,ho,hd⟩:=I.cell y c e
  rw[z,ga]at ho;cases ho
  rw[gd]at hd;cases hd
 refine⟨I.ok,I.os,I.bare,⟨I.base.keep,I.base.slot,λb o e n' hx=> ?_,I.base.there,λb xs e=> ?_,λb o u e=> ?_,λb ps e=> ?_⟩,I.loc,I.cell,by rw[ai NX];exact I.free,λy c e=>by rw[ai (OK y c e)];exact I.freeC y c e,λp hp=> ?_,λb u e=> ?_,I.len⟩
 ·rw[ai (λz=>by rw[z,n.s0]at e;cases e)];exact I.base.free b o e n' hx
 ·have q:=I.base.tups b xs e
  rw[ai (ne b _ q)];exact q
 ·have q:=I.base.frzs b o u e
  rw[ai (ne b _ q)];exact q
 ·obtain⟨more,q⟩:=I.base.tbls b ps e
  exact⟨more,by rw[ai (ne b _ q)];exact q⟩
 ·obtain⟨e,n',r⟩:=I.pin p hp
  exact⟨e,by rw[ai (n.pin p hp)];exact n',r⟩
 ·by_cases z:b=a
  ·subst z;rw[ar]at e;cases e;exact new
  ·rw[ai z]at e
   refine(I.hok b u e).stay (λ_ _ _ q=>q) (λc q=> ?_) λc xs q=> ?_
   ·rw[ai (ne c _ q)];exact q
   ·rw[ai (ne c _ q)];exact q
theorem tz {M:IB} {A:DI} {E:De->Dh->Prop} {i:Nat} {n:Df} {Q:Unit->Dh->Prop} (I:au X JD σ H s) (hN:X.N.Nodup) (hi:X.N[i]? =some n) (hk:X.env.kindOf n=some .local)
  (k:∀s',au X JD (σ.set i none) H s'->Q () s'):Du M A (do bindName X.env n E3;Gx X.env n pos) Q E s:=by
 obtain⟨m,hn,hl⟩:=id I.loc
 refine wpAny_nameGoes_keeps hk hn (by rw[I.ok.kind];rfl) λh' v PV hs=>k _ ?_
 have NX:∀b o,X.s₀.heap.get? b=some o->b≠X.env.locals:=λb o e=>DV (DS (Dz e) I.ok.above)
 refine⟨I.ok,I.os,I.bare,⟨λb o e n hb hx=>(hs.2 b (NX b o e)).trans (I.base.keep b o e n hb hx),λb o e n hb hx=> ?_,I.base.free,λb o e hx=> ?_,I.base.tups,I.base.frzs,I.base.tbls⟩,⟨_,PV,λj y v' e1 e2 e3=> ?_⟩,λy c e=> ?_,I.free,I.freeC,λp hp=> ?_,λb u e=> ?_,by simpa using I.len⟩
 ·obtain⟨sl,e1⟩:=I.base.slot b o e n hb hx
  exact⟨sl,(hs.2 b (NX b o e)).trans e1⟩
 ·obtain⟨o',e1⟩:=I.base.there b o e hx
  exact⟨o',(hs.2 b (NX b o e)).trans e1⟩
 ·by_cases hj:j=i
  ·subst hj
   rw[FA]at e2
   split at e2
   ·split at e2<;>cases e2
   ·exact absurd rfl ‹_›
  ·rw[Gp (ET hj)]at e2
   obtain⟨u',r',q⟩:=hl j y v' e1 e2 e3
   refine⟨u',r',?_⟩
   have ny:y≠n:=λe=>hj (lE hN e1 (e▸hi))
   rcases q with ⟨k,e⟩|⟨k,c,e,z⟩
   ·exact .inl ⟨k,by show (if y=n then v else m y)=_;rw[if_neg ny];exact e⟩
   ·exact .inr ⟨k,c,e,z.sameBut hs (I.cne y c e)⟩
 ·obtain⟨w',z⟩:=I.cell y c e
  exact⟨w',z.sameBut hs (I.cne y c e)⟩
 ·obtain⟨e,n,ne,nf,d⟩:=I.pin p hp
  exact⟨(hs.2 p.1 ne).trans e,n,ne,nf,d⟩
 ·refine(I.hok b u e).stay (λc v hc q=>(hs.2 c ?_).trans q) (λ_ q=>q) λ_ _ q=>q
  rintro rfl
  have:=I.free
  rcases hc with z|z
  ·rw[<-z,this]at e;cases e
  ·rw[this]at z;cases z
def gf (a:Dg) (cls:De):DB->Prop:=λh=>∃o,h.get? a=some o/\o.cls=cls
theorem tD {P:Dv} {w:DE} {h:DB} (e:gf a cls h):bd P w H h a (.ext (gf a cls)):=by
 obtain⟨o,h1,h2⟩:=e
 exact⟨⟨o,h1,h2⟩,⟨o,h1⟩,λg1 g2 ⟨o',e1,e2⟩ k=>⟨o',k _ e1,e2⟩⟩
theorem zt (I:au X JD σ H s) (p:f_ X) (fl:AR X JD H s.heap a cls) {Q:Unit->Dh->Prop} {E:De->Dh->Prop} {A:DI}
  (k:∀h',au X JD σ H {s with heap:=h'}->AR X JD H h' a cls->Q () {s with heap:=h'}):Du (Dx X.prog X.w) A (setFlight (.ref a) none) Q E s:=by
 obtain⟨B,oe,vs,ge,gc,gd,ff,hB,Oo,hn,hk⟩:=nE I p fl.fl
 obtain⟨Rl,Rm,e1,e2,e3,T',e4,S8⟩:=fl.at_
 rw[ge]at e1;cases e1
 rw[gd]at e3;cases e3
 obtain⟨Qy,PH,q1,q2,q3⟩:=S8.at_
 rcases hn with g|⟨T,oT,ts,f,g1,g2,g3,g4,g5,g6,g7⟩
 ·rw[g]at e4;cases e4
 ·rw[e4]at g1;cases g1
  obtain⟨MB,a0,h0⟩:=uX e4
  refine lands_againW (base:=B) (l:=X.env::X.outer) (cls:=cls) (a0:=a0) ⟨hB,Oo,ff,oe,vs,T',Qy,PH,ge,⟨gc,h0⟩,gd,e4,g2,g3,q1,q2,q3⟩ λh2 ⟨st,_,_,tr⟩ up=> ?_
  obtain⟨I',f'⟩:=hk h2 _ st tr.at.tl up
  exact k h2 I' f'
theorem tE {Rr:Dg} {cx n:Df} {i:Nat} {Nh:DY} {b₀:DJ} {Mi:List DJ} {rest:List ExceptHandler} {Q:Flow->Dh->Prop} {E:De->Dh->Prop} (I:au X JD σ H s) (p:f_ X) (fl:AR X JD H s.heap a (.ref C)) (hN:X.N.Nodup) (hi:X.N[i]? =some n)
  (hk:X.env.scope.names.lookup n=some .local) (hg:Gl X cx) (hm:X.mg cx=some (.ref Rr)) (hx:FG X.K (.ref C) (.ref Rr)=some true) (L4:(cx==("__debug__":Df))=false)
  (k:∀s',au (X.inH (.ref a)) JD (σ.set i (some (.ref a))) (a_ H a (.ext (gf a (.ref C)))) s'->
   Du (Dx X.prog X.w) (X.inH (.ref a)).A (execs (b₀::Mi) X.env) (λf s3=>Du (Dx X.prog X.w) X.A (do bindName X.env n E3;Gx X.env n Nh) (λ_ s5=>Q f s5) E s3) (λ_ _=>False) s'):
  Du (Dx X.prog X.w) X.A (handleBy (.ref a) X.env (.ExceptHandler (some (.Name cx np)) (some n) (b₀::Mi) Nh::rest)) Q E s:=by
 refine wpAny_handleBy_cons (codeAny_handlers_test ?_) (by intro z;cases z)
 refine ji (X:=X.inH (.ref a)) I.inH hg hm ?_ L4
 obtain⟨oe,vs,ge,gc,gd,_⟩:=fl.at_
 refine cp (PySem.W.exm_one I.kIn (j0 ge gc) hx) ?_
 rw[if_pos rfl]
 refine codeAny_handlers_suite_as ?_
 refine zt I p fl λh2 I2 f2=> ?_
 obtain⟨oe,vs,ge,gc,gd,_⟩:=f2.at_
 have I3:au X JD σ (a_ H a (.ext (gf a (.ref C)))) {s with heap:=h2}:=I2.track f2.new ge gd (tD ⟨oe,ge,gc⟩)
 refine lF (X:=X.inH (.ref a)) I3.inH hN hi (.inl hk) (v:= .ref a) rfl (λs' I'=> ?_) (.inr hk)
 exact EH (k s' I') (λf s3 q=>q) λ_ _ z=>z.elim
end
end L2
namespace L2
open PySem PySem.Spec PyProof.Rows
section
variable {X:Cx} {scope:EO} {s:Dh} {H:Hp} {ex:List Dg} {E:De->Dh->Prop} {Ll:List (Dg×DP)} {τ:St} {H':Hp} {s':Dh}
end
section
variable {X:Cx} {LK tg J_:Dn} {Lv:List Dn} {scope:EO} {pos:DY} {wi:TI} {g:TG} {tt:TT} {te:TE}
end
end L2
namespace L2.Pu
open PySem PySem.Spec PyProof.Rows
structure cK where
 x:Nat
 C:Dg
 fl:List (Df×Nat)
variable {ly:List cK}
inductive D where
 |non|bl (b:Bool)|int (i:Int)|str (x:Df)|tup (ds:List D)|lst (ds:List D)|dic (LD:List (bR×D))|ins (x:Df) (fs:List (Df×D))|scr (ns:List Int)|exc (x:Df)
mutual
inductive ci (K:Dd) (F:Hp):V->D->Prop
 |non:ci K F .non .non
 |bl (b:Bool):ci K F (.bl b) (.bl b)
 |int (i:Int):ci K F (.int i) (.int i)
 |str (x:Df):ci K F (.str x) (.str x)
 |tup {a:Dg} {vs:List V} {ds:List D}:F a=some (.tup vs)->Reps K F vs ds->ci K F (.ref a) (.tup ds)
 |lst {a:Dg} {vs:List V} {ds:List D}:F a=some (.lst vs)->Reps K F vs ds->ci K F (.ref a) (.lst ds)
 |scr {a:Dg} {ns:List Int}:dc K F a (ns.map V.int)->ci K F (.ref a) (.scr ns)
 |dic {a:Dg} {kvs:List (bR×V)} {LD:List (bR×D)}:F a=some (.dK kvs)->RepK K F kvs LD->(kvs.map (·.1)).Nodup->ci K F (.ref a) (.dic LD)
 |ins {a C dx:Dg} {x:Df} {fs vs:List (Df×V)} {fds:List (Df×D)}:F a=some (.ins C dx fs)->F dx=some (.own a)->Dq K Dm x=some (some (.ref C))->(∀p∈vs,fs.lookup p.1=some p.2)->(∀f v,fs.lookup f=some v->f∈vs.map (·.1))->RepF K F vs fds->ci K F (.ref a) (.ins x fds)
 |exc {a C:Dg} {x:Df}:F a=some (.ext (gf a (.ref C)))->Dq K Dm x=some (some (.ref C))->ci K F (.ref a) (.exc x)
inductive Reps (K:Dd) (F:Hp):List V->List D->Prop
 |nil:Reps K F [] []
 |cons {v:V} {d:D} {vs:List V} {ds:List D}:ci K F v d->Reps K F vs ds->Reps K F (v::vs) (d::ds)
inductive RepK (K:Dd) (F:Hp):List (bR×V)->List (bR×D)->Prop
 |nil:RepK K F [] []
 |cons {k:bR} {v:V} {d:D} {vs:List (bR×V)} {ds:List (bR×D)}:ci K F v d->RepK K F vs ds->RepK K F ((k,v)::vs) ((k,d)::ds)
inductive RepF (K:Dd) (F:Hp):List (Df×V)->List (Df×D)->Prop
 |nil:RepF K F [] []
 |cons {k:Df} {v:V} {d:D} {vs:List (Df×V)} {ds:List (Df×D)}:ci K F v d->RepF K F vs ds->RepF K F ((k,v)::vs) ((k,d)::ds)
end
theorem jq {K:Dd} {F F':Hp} {a:Dg} {xs:List V} (e:az F F') (h:dc K F a xs):dc K F' a xs:=e.seq h
theorem ci.mono {K:Dd} {F F':Hp} (e:az F F') {v:V} {d:D} (h:ci K F v d):ci K F' v d:=
 ci.rec (motive_1:=λv d _=>ci K F' v d) (motive_2:=λv d _=>Reps K F' v d) (motive_3:=λv d _=>RepK K F' v d) (motive_4:=λv d _=>RepF K F' v d) .non .bl .int .str (λh _ r=> .tup (e _ _ h) r) (λh _ r=> .lst (e _ _ h) r) (λh=> .scr (jq e h)) (λh _ n r=> .dic (e _ _ h) r n) (λh h2 n l1 l2 _ r=> .ins (e _ _ h) (e _ _ h2) n l1 l2 r) (λh n=> .exc (e _ _ h) n) .nil (λ_ _ a b=> .cons a b) .nil (λ_ _ a b=> .cons a b) .nil (λ_ _ a b=> .cons a b) h
theorem Reps.mono {K:Dd} {F F':Hp} (e:az F F') {v:List V} {d:List D} (h:Reps K F v d):Reps K F' v d:=
 Reps.rec (motive_1:=λv d _=>ci K F' v d) (motive_2:=λv d _=>Reps K F' v d) (motive_3:=λv d _=>RepK K F' v d) (motive_4:=λv d _=>RepF K F' v d) .non .bl .int .str (λh _ r=> .tup (e _ _ h) r) (λh _ r=> .lst (e _ _ h) r) (λh=> .scr (jq e h)) (λh _ n r=> .dic (e _ _ h) r n) (λh h2 n l1 l2 _ r=> .ins (e _ _ h) (e _ _ h2) n l1 l2 r) (λh n=> .exc (e _ _ h) n) .nil (λ_ _ a b=> .cons a b) .nil (λ_ _ a b=> .cons a b) .nil (λ_ _ a b=> .cons a b) h
theorem RepK.mono {K:Dd} {F F':Hp} (e:az F F') {v:List (bR×V)} {d:List (bR×D)} (h:RepK K F v d):RepK K F' v d:=
 RepK.rec (motive_1:=λv d _=>ci K F' v d) (motive_2:=λv d _=>Reps K F' v d) (motive_3:=λv d _=>RepK K F' v d) (motive_4:=λv d _=>RepF K F' v d) .non .bl .int .str (λh _ r=> .tup (e _ _ h) r) (λh _ r=> .lst (e _ _ h) r) (λh=> .scr (jq e h)) (λh _ n r=> .dic (e _ _ h) r n) (λh h2 n l1 l2 _ r=> .ins (e _ _ h) (e _ _ h2) n l1 l2 r) (λh n=> .exc (e _ _ h) n) .nil (λ_ _ a b=> .cons a b) .nil (λ_ _ a b=> .cons a b) .nil (λ_ _ a b=> .cons a b) h
theorem RepF.mono {K:Dd} {F F':Hp} (e:az F F') {v:List (Df×V)} {d:List (Df×D)} (h:RepF K F v d):RepF K F' v d:=
 RepF.rec (motive_1:=λv d _=>ci K F' v d) (motive_2:=λv d _=>Reps K F' v d) (motive_3:=λv d _=>RepK K F' v d) (motive_4:=λv d _=>RepF K F' v d) .non .bl .int .str (λh _ r=> .tup (e _ _ h) r) (λh _ r=> .lst (e _ _ h) r) (λh=> .scr (jq e h)) (λh _ n r=> .dic (e _ _ h) r n) (λh h2 n l1 l2 _ r=> .ins (e _ _ h) (e _ _ h2) n l1 l2 r) (λh n=> .exc (e _ _ h) n) .nil (λ_ _ a b=> .cons a b) .nil (λ_ _ a b=> .cons a b) .nil (λ_ _ a b=> .cons a b) h
section
variable {K:Dd} {F:Hp}
def v2 (K:Dd) (F:Hp) (v:V):D->Prop
 | .non=>v= .non
 | .bl b=>v= .bl b
 | .int i=>v= .int i
 | .str x=>v= .str x
 | .tup ds=>∃a vs,v= .ref a/\F a=some (.tup vs)/\Reps K F vs ds
 | .lst ds=>∃a vs,v= .ref a/\F a=some (.lst vs)/\Reps K F vs ds
 | .scr ns=>∃a,v= .ref a/\dc K F a (ns.map V.int)
 | .dic LD=>∃a kvs,v= .ref a/\F a=some (.dK kvs)/\RepK K F kvs LD/\(kvs.map (·.1)).Nodup
 | .ins x fds=>∃a C dx fs vs,v= .ref a/\F a=some (.ins C dx fs)/\Dq K Dm x=some (some (.ref C))/\(∀p∈vs,fs.lookup p.1=some p.2)/\(∀f v,fs.lookup f=some v->f∈vs.map (·.1))/\RepF K F vs fds
 | .exc x=>∃a C,v= .ref a/\F a=some (.ext (gf a (.ref C)))/\Dq K Dm x=some (some (.ref C))
theorem ci.inv {v:V} {d:D} (h:ci K F v d):v2 K F v d:=by
 cases h with
 |non=>exact rfl
 |bl=>exact rfl
 |int=>exact rfl
 |str=>exact rfl
 |tup h r=>exact⟨_,_,rfl,h,r⟩
 |lst h r=>exact⟨_,_,rfl,h,r⟩
 |scr h=>exact⟨_,rfl,h⟩
 |dic h r n=>exact⟨_,_,rfl,h,r,n⟩
 |ins h1 _ h3 h4 h5 h6=>exact⟨_,_,_,_,_,rfl,h1,h3,h4,h5,h6⟩
 |exc h n=>exact⟨_,_,rfl,h,n⟩
theorem RepK.nilI {vs:List (bR×V)} (h:RepK K F vs []):vs=[]:=by cases h;rfl
theorem RepK.consI {vs:List (bR×V)} {k:bR} {d:D} {ds:List (bR×D)} (h:RepK K F vs ((k,d)::ds)):∃v us,vs=(k,v)::us/\ci K F v d/\RepK K F us ds:=by
 cases h with
 |cons r t=>exact⟨_,_,rfl,r,t⟩
theorem Reps.nilI {vs:List V} (h:Reps K F vs []):vs=[]:=by cases h;rfl
theorem Reps.consI {vs:List V} {d:D} {ds:List D} (h:Reps K F vs (d::ds)):∃v us,vs=v::us/\ci K F v d/\Reps K F us ds:=by
 cases h with
 |cons r t=>exact⟨_,_,rfl,r,t⟩
theorem ci.intI {v:V} {i:Int} (h:ci K F v (.int i)):v= .int i:=h.inv
theorem ci.tupI {v:V} {ds:List D} (h:ci K F v (.tup ds)):∃a vs,v= .ref a/\F a=some (.tup vs)/\Reps K F vs ds:=h.inv
theorem Reps.int1 {vs:List V} {i:Int} (h:Reps K F vs [.int i]):vs=[.int i]:=by
 obtain⟨v,us,rfl,r,t⟩:=h.consI
 rw[t.nilI,r.intI]
theorem Reps.length:∀{vs:List V} {ds:List D},Reps K F vs ds->vs.length=ds.length:=by
 intro vs ds
 induction ds generalizing vs with
 |nil=>intro h;rw[h.nilI];rfl
 |cons d ds ih=>
  intro h
  obtain⟨v,us,rfl,_,t⟩:=h.consI
  rw[DC,DC,ih t]
theorem RepK.length:∀{vs:List (bR×V)} {ds:List (bR×D)},RepK K F vs ds->vs.length=ds.length:=by
 intro vs ds
 induction ds generalizing vs with
 |nil=>intro h;rw[h.nilI];rfl
 |cons d ds ih=>
  intro h
  obtain⟨v,us,rfl,_,t⟩:=RepK.consI (k:=d.1) (d:=d.2) h
  rw[DC,DC,ih t]
theorem Reps.append:∀{vs us:List V} {ds es:List D},Reps K F vs ds->Reps K F us es->Reps K F (vs++us) (ds++es):=by
 intro vs us ds
 induction ds generalizing vs with
 |nil=>intro es h g;rw[h.nilI];exact g
 |cons d ds ih=>
  intro es h g
  obtain⟨v,us,rfl,r,t⟩:=h.consI
  exact .cons r (ih t g)
theorem Reps.get:∀{vs:List V} {ds:List D} {i:Nat} {d:D},Reps K F vs ds->ds[i]? =some d->∃v,vs[i]? =some v/\ci K F v d
 |_,_,_,_, .nil,h=>by simp at h
 |_,_,0,_, .cons r t,h=>by simp at h;subst h;exact⟨_,rfl,r⟩
 |_,_,i+1,_, .cons r t,h=>by
  obtain⟨v,h1,h2⟩:=t.get (i:=i) (by simpa using h)
  exact⟨v,by simpa using h1,h2⟩
theorem Reps.get':∀{vs:List V} {ds:List D} {i:Nat} {v:V},Reps K F vs ds->vs[i]? =some v->∃d,ds[i]? =some d/\ci K F v d
 |_,_,_,_, .nil,h=>by simp at h
 |_,_,0,_, .cons r t,h=>by simp at h;subst h;exact⟨_,rfl,r⟩
 |_,_,i+1,_, .cons r t,h=>by
  obtain⟨v,h1,h2⟩:=t.get' (i:=i) (by simpa using h)
  exact⟨v,by simpa using h1,h2⟩
theorem Reps.set:∀{vs:List V} {ds:List D} {v:V} {d:D} (i:Nat),Reps K F vs ds->ci K F v d->Reps K F (vs.set i v) (ds.set i d)
 |_,_,_,_,_, .nil,_=> .nil
 |_,_,_,_,0, .cons r t,h=> .cons h t
 |_,_,_,_,i+1, .cons r t,h=> .cons r (t.set i h)
theorem Reps.drop:∀{vs:List V} {ds:List D} (i:Nat),Reps K F vs ds->Reps K F (vs.drop i) (ds.drop i)
 |_,_,0,h=>h
 |_,_,_+1, .nil=> .nil
 |_,_,i+1, .cons r t=>t.drop i
theorem Reps.take:∀{vs:List V} {ds:List D} (i:Nat),Reps K F vs ds->Reps K F (vs.take i) (ds.take i)
 |_,_,0,h=> .nil
 |_,_,_+1, .nil=> .nil
 |_,_,i+1, .cons r t=> .cons r (t.take i)
theorem Reps.reverse {vs:List V} {ds:List D} (h:Reps K F vs ds):Reps K F vs.reverse ds.reverse:=by
 induction h using Reps.rec (motive_1:=λ_ _ _=>True) (motive_3:=λ_ _ _=>True) (motive_4:=λ_ _ _=>True)with
 |nil=>exact .nil
 |cons r t _ ih=>rw[G9,G9];exact ih.append (.cons r .nil)
 |_=>trivial
end
structure bc (H F H' F':Hp):Prop where
 sub:az F' H'
 keep:az H H'
 grow:az F F'
 new:∀a,F' a≠none->F a≠none\/H a=none
theorem bc.refl {H F:Hp} (h:az F H):bc H F H F:=⟨h,az.refl _,az.refl _,λ_ h=> .inl h⟩
theorem bc.trans {H F H1 F1 H2 F2:Hp} (a:bc H F H1 F1) (b:bc H1 F1 H2 F2):bc H F H2 F2:=
 ⟨b.sub,a.keep.trans b.keep,a.grow.trans b.grow,λx h=>(b.new x h).elim (λq=>a.new x q) λq=> .inr (a.keep.free q)⟩
theorem bt {H:Hp} {p:Dg} {o:HO} (h:H p=none):az H (a_ H p o):=λb u e=>by
 rw[ai (λz=>by rw[z,h]at e;cases e)];exact e
theorem bc.lay {H F:Hp} (s:az F H) {p:Dg} {o:HO} (h:H p=none):bc H F (a_ H p o) (a_ F p o):=by
 refine⟨λb u e=> ?_,bt h,bt (s.free h),λb e=> ?_⟩
 ·by_cases z:b=p
  ·subst z;rw[ar]at e ⊢;exact e
  ·rw[ai z]at e ⊢;exact s b u e
 ·by_cases z:b=p
  ·subst z;exact .inr h
  ·rw[ai z]at e;exact .inl e
theorem bc.layOwn {H F:Hp} (s:az F H) {p:Dg} {o:HO} (h:H p=none):bc H F (a_ H p o) F:=
 ⟨s.trans (bt h),bt h,az.refl _,λ_ e=> .inl e⟩
inductive Slot where
 |val (d:D)|own (d:D)|bor (d:D)|obj|cel (x:Df) (JJ:List (Df×D)) (f:Df) (hs:List D)
def Slot.data:Slot->D
 | .val d=>d
 | .own d=>d
 | .bor d=>d
 | .obj=> .non
 | .cel .. => .non
def Slot.single:Slot->Bool
 | .obj=>true
 | .cel .. =>true
 |_=>false
abbrev a9:=List (Option Slot)
inductive iH (K:Dd) (F:Hp):HO->D->Prop
 |lst {vs:List V} {ds:List D}:Reps K F vs ds->iH K F (.lst vs) (.lst ds)
 |dic {kvs:List (bR×V)} {LD:List (bR×D)}:RepK K F kvs LD->(kvs.map (·.1)).Nodup->iH K F (.dK kvs) (.dic LD)
theorem iH.mono {K:Dd} {F F':Hp} (e:az F F') {o:HO} {d:D}:iH K F o d->iH K F' o d
 | .lst r=> .lst (r.mono e)
 | .dic r n=> .dic (r.mono e) n
structure cm (ly:List cK)where
 H0:Hp
 F0:Hp
 B:Hp
 Er:Df->a9->Prop
 oa:Nat->Option Dg:=λ_=>none
 Fm:Hp:=λ_=>none
structure i8 (K:Dd) (H0 H F:Hp) (a dx b:Dg) (x:Df) (JJ:List (Df×D)) (f:Df) (hs:List D):Prop where
 ex:∃C fs vs us,H a=some (.ins C dx fs)/\Dq K Dm x=some (some (.ref C))/\fs.lookup f=some (.ref b)/\H b=some (.lst us)/\Reps K F us hs/\RepF K F vs JJ/\(∀p∈vs,fs.lookup p.1=some p.2)/\
  (∀g v,fs.lookup g=some v->g=f\/g∈vs.map (·.1))/\(fs.map (·.1)).Nodup/\f∉vs.map (·.1)
 own:H dx=some (.own a)
 fa:F a=none
 fd:F dx=none
 fb:F b=none
 za:H0 a=none
 zd:H0 dx=none
 zb:H0 b=none
theorem bc.out {H F H' F':Hp} (e:bc H F H' F') {a:Dg} {o:HO} (h:H a=some o) (hF:F a=none):F' a=none:=by
 cases q:F' a with
 |none=>rfl
 |some u=>
  rcases e.new a (by rw[q];simp)with z|z
  ·exact absurd hF z
  ·rw[h]at z;cases z
theorem i8.step {K:Dd} {H0 H F H' F':Hp} {a dx b:Dg} {x:Df} {JJ:List (Df×D)} {f:Df} {hs:List D} (h:i8 K H0 H F a dx b x JJ f hs) (e:bc H F H' F'):i8 K H0 H' F' a dx b x JJ f hs:=by
 obtain⟨C,fs,vs,us,h1,h2,h3,h4,h5,h6,h7,h8⟩:=h.ex
 exact⟨⟨C,fs,vs,us,e.keep _ _ h1,h2,h3,e.keep _ _ h4,h5.mono e.grow,h6.mono e.grow,h7,h8⟩,e.keep _ _ h.own,e.out h1 h.fa,e.out h.own h.fd,e.out h4 h.fb,h.za,h.zd,h.zb⟩
structure jr (K:Dd) (H0:Hp) (ρ:a9) (σ:St) (H F:Hp):Prop where
 ex:∀(i:Nat) x JJ f hs,ρ[i]? =some (some (.cel x JJ f hs))->∃a dx b,σ[i]? =some (some (.ref a))/\i8 K H0 H F a dx b x JJ f hs/\∀(j:Nat) d,ρ[j]? =some (some (.own d))->σ[j]? ≠some (some (.ref b))
 one:∀(i j:Nat) x JJ f hs s,ρ[i]? =some (some (.cel x JJ f hs))->ρ[j]? =some (some s)->s.single=true->i=j
theorem jr.no {K:Dd} {H0:Hp} {ρ:a9} {σ:St} {H F:Hp} (h:∀(i:Nat) x JJ f hs,ρ[i]? ≠some (some (.cel x JJ f hs))):jr K H0 ρ σ H F:=⟨λi x JJ f hs e=>absurd e (h i x JJ f hs),λi j x JJ f hs s e=>absurd e (h i x JJ f hs)⟩
theorem jr.step {K:Dd} {H0 H F H' F':Hp} {ρ:a9} {σ:St} (h:jr K H0 ρ σ H F) (e:bc H F H' F'):jr K H0 ρ σ H' F':=
 ⟨λi x JJ f hs q=>by obtain⟨a,dx,b,h1,h2,h3⟩:=h.ex i x JJ f hs q;exact⟨a,dx,b,h1,h2.step e,h3⟩,h.one⟩
structure RI (K:Dd) (c:cm ly) (ρ:a9) (σ:St) (H F:Hp):Prop where
 ext:bc c.H0 c.F0 H F
 val:∀(i:Nat) d,ρ[i]? =some (some (.val d))->∃v,σ[i]? =some (some v)/\ci K F v d
 own:∀(i:Nat) d,ρ[i]? =some (some (.own d))->∃a o,σ[i]? =some (some (.ref a))/\H a=some o/\F a=none/\c.H0 a=none/\iH K F o d
 bor:∀(i:Nat) d,ρ[i]? =some (some (.bor d))->∃a o,σ[i]? =some (some (.ref a))/\c.B a=some o/\iH K c.F0 o d
 bh:az c.B c.H0
 dis:∀(i j:Nat) d d' a,ρ[i]? =some (some (.own d))->ρ[j]? =some (some (.own d'))->σ[i]? =some (some (.ref a))->σ[j]? =some (some (.ref a))->i=j
 len:ρ.length=σ.length
 obj:∀L∈ly,ρ[L.x]? =some (some .obj)->∃a dx fs,(∀b,c.oa L.x=some b->a=b)/\σ[L.x]? =some (some (.ref a))/\H a=some (.ins L.C dx fs)/\H dx=some (.own a)/\F a=none/\F dx=none/\c.H0 a=none/\c.H0 dx=none/\
  (∀p∈L.fl,fs.lookup p.1=(σ[p.2]?).join)/\(∀f v,fs.lookup f=some v->f∈L.fl.map (·.1))/\(fs.map (·.1)).Nodup
 odis:∀L∈ly,∀L'∈ly,ρ[L.x]? =some (some .obj)->ρ[L'.x]? =some (some .obj)->∀a,σ[L.x]? =some (some (.ref a))->σ[L'.x]? =some (some (.ref a))->L=L'
 fm:az c.Fm F
 cel:jr K c.H0 ρ σ H F
 pin:∀L∈ly,∀a,c.oa L.x=some a->σ[L.x]? =some (some (.ref a))
def iI (ly:List cK) (i:Nat):Prop:=∀L∈ly,L.x≠i/\∀p∈L.fl,p.2≠i
theorem d_ {i:Nat}:iI [] i:=λL h=>by cases h
theorem d7 {L:cK} {ls:List cK} {i:Nat} (h:L.x≠i/\∀p∈L.fl,p.2≠i) (r:iI ls i):iI (L::ls) i:=λM hM=>by
 rcases DA.mp hM with rfl|hM
 ·exact h
 ·exact r M hM
section
variable {K:Dd} {c:cm ly} {ρ:a9} {σ:St} {H F H' F':Hp}
theorem RI.step (r:RI K c ρ σ H F) (e:bc H F H' F'):RI K c ρ σ H' F' where
 cel:=r.cel.step e
 pin:=r.pin
 obj:=λL hL hρ=>by
  obtain⟨a,dx,fs,h0,h1,h2,h3,h4,h5,h6,h7,h8⟩:=r.obj L hL hρ
  exact⟨a,dx,fs,h0,h1,e.keep _ _ h2,e.keep _ _ h3,e.out h2 h4,e.out h3 h5,h6,h7,h8⟩
 odis:=r.odis
 fm:=r.fm.trans e.grow
 ext:=r.ext.trans e
 val:=λi d h=>by obtain⟨v,h1,h2⟩:=r.val i d h;exact⟨v,h1,h2.mono e.grow⟩
 own:=λi d h=>by
  obtain⟨a,o,h1,h2,h3,h4,h5⟩:=r.own i d h
  refine⟨a,o,h1,e.keep _ _ h2,?_,h4,h5.mono e.grow⟩
  cases q:F' a with
  |none=>rfl
  |some u=>
   rcases e.new a (by rw[q];simp)with z|z
   ·exact absurd h3 z
   ·rw[h2]at z;cases z
 bor:=r.bor
 bh:=r.bh
 dis:=r.dis
 len:=r.len
theorem RI.sub (r:RI K c ρ σ H F):az F H:=r.ext.sub
theorem am {α:Type} {l:List α} {i j:Nat} {a b:α} (h:(l.set i a)[j]? =some b):(i=j/\a=b/\i<l.length)\/(i≠j/\l[j]? =some b):=by
 rw[FA]at h
 by_cases e:i=j
 ·rw[if_pos e]at h
  split at h
  ·cases h;exact .inl ⟨e,rfl,by assumption⟩
  ·cases h
 ·rw[if_neg e]at h;exact .inr ⟨e,h⟩
theorem dj {α:Type} {l:List α} {i:Nat} {a:α} (h:i<l.length):(l.set i a)[i]? =some a:=by
 rw[FA,if_pos rfl,if_pos h]
theorem aa {α:Type} {l:List α} {i j:Nat} {a:α} (h:i≠j):(l.set i a)[j]? =l[j]? :=by
 rw[FA,if_neg h]
theorem jr.set {K:Dd} {H0:Hp} {ρ:a9} {σ:St} {H F:Hp} (h:jr K H0 ρ σ H F) (i:Nat) {s:Option Slot} {v:Option V} (hn:∀s',s=some s'->s'.single=false)
  (ho:∀d,s=some (.own d)->∀(j:Nat) x JJ f hs a C dx fs b,ρ[j]? =some (some (.cel x JJ f hs))->σ[j]? =some (some (.ref a))->H a=some (.ins C dx fs)->fs.lookup f=some (.ref b)->v≠some (.ref b)):jr K H0 (ρ.set i s) (σ.set i v) H F:=by
 refine⟨λj x JJ f hs q=> ?_,λj k x JJ f hs s' q q2 Ko=> ?_⟩
 ·rcases am q with ⟨_,z,_⟩|⟨z,q⟩
  ·have:=hn _ z;cases this
  ·obtain⟨a,dx,b,h1,h2,h3⟩:=h.ex j x JJ f hs q
   refine⟨a,dx,b,by rw[aa z];exact h1,h2,λk d w=> ?_⟩
   rcases am w with ⟨rfl,z',l⟩|⟨z',w⟩
   ·obtain⟨C,fs,vs,us,g1,g2,g3,_⟩:=h2.ex
    intro e
    rw[FA]at e
    split at e
    ·split at e
     ·exact ho d z' j x JJ f hs a C dx fs b q h1 g1 g3 (by simpa using e)
     ·cases e
    ·rename_i ne;exact absurd rfl ne
   ·rw[aa z'];exact h3 k d w
 ·rcases am q with ⟨_,z,_⟩|⟨z,q⟩
  ·have:=hn _ z;cases this
  ·rcases am q2 with ⟨_,z',_⟩|⟨z',q2⟩
   ·have:=hn _ z';rw[Ko]at this;cases this
   ·exact h.one j k x JJ f hs s' q q2 Ko
theorem RI.setVal (r:RI K c ρ σ H F) (i:Nat) {v:V} {d:D} (hf:iI ly i) (h:ci K F v d):RI K c (ρ.set i (some (.val d))) (σ.set i (some v)) H F where
 cel:=r.cel.set i (λs' e=>by cases e;rfl) (λd e=>by cases e)
 pin:=λL hL a h=>by rw[aa (hf L hL).1.symm];exact r.pin L hL a h
 obj:=λL hL hρ=>by
  rw[aa (hf L hL).1.symm]at hρ
  obtain⟨a,dx,fs,h0,h1,h2,h3,h4,h5,h6,h7,h8,h9⟩:=r.obj L hL hρ
  refine⟨a,dx,fs,h0,by rw[aa (hf L hL).1.symm];exact h1,h2,h3,h4,h5,h6,h7,λp hp=> ?_,h9⟩
  rw[aa ((hf L hL).2 p hp).symm];exact h8 p hp
 odis:=λL hL L' Mz q1 q2 a k1 k2=>by
  rw[aa (hf L hL).1.symm]at k1 q1
  rw[aa (hf L' Mz).1.symm]at k2 q2
  exact r.odis L hL L' Mz q1 q2 a k1 k2
 fm:=r.fm
 ext:=r.ext
 val:=λj e q=>by
  rcases am q with ⟨rfl,z,l⟩|⟨z,q⟩
  ·cases z;exact⟨v,dj (by rw[<-r.len];exact l),h⟩
  ·rw[aa z];exact r.val j e q
 own:=λj e q=>by
  rcases am q with ⟨rfl,z,l⟩|⟨z,q⟩
  ·cases z
  ·rw[aa z];exact r.own j e q
 bor:=λj e q=>by
  rcases am q with ⟨rfl,z,l⟩|⟨z,q⟩
  ·cases z
  ·rw[aa z];exact r.bor j e q
 bh:=r.bh
 dis:=λj k e e' a q1 q2 q3 q4=>by
  rcases am q1 with ⟨rfl,z,l⟩|⟨z,q1⟩
  ·cases z
  ·rcases am q2 with ⟨rfl,z',l⟩|⟨z',q2⟩
   ·cases z'
   ·rw[aa z]at q3;rw[aa z']at q4
    exact r.dis j k e e' a q1 q2 q3 q4
 len:=by simp[r.len]
theorem RI.setNone (r:RI K c ρ σ H F) (i:Nat) {v:Option V} (hf:iI ly i):RI K c (ρ.set i none) (σ.set i v) H F where
 cel:=r.cel.set i (λs' e=>by cases e) (λd e=>by cases e)
 pin:=λL hL a h=>by rw[aa (hf L hL).1.symm];exact r.pin L hL a h
 obj:=λL hL hρ=>by
  rw[aa (hf L hL).1.symm]at hρ
  obtain⟨a,dx,fs,h0,h1,h2,h3,h4,h5,h6,h7,h8,h9⟩:=r.obj L hL hρ
  refine⟨a,dx,fs,h0,by rw[aa (hf L hL).1.symm];exact h1,h2,h3,h4,h5,h6,h7,λp hp=> ?_,h9⟩
  rw[aa ((hf L hL).2 p hp).symm];exact h8 p hp
 odis:=λL hL L' Mz q1 q2 a k1 k2=>by
  rw[aa (hf L hL).1.symm]at k1 q1
  rw[aa (hf L' Mz).1.symm]at k2 q2
  exact r.odis L hL L' Mz q1 q2 a k1 k2
 fm:=r.fm
 ext:=r.ext
 val:=λj e q=>by
  rcases am q with ⟨rfl,z,l⟩|⟨z,q⟩
  ·cases z
  ·rw[aa z];exact r.val j e q
 own:=λj e q=>by
  rcases am q with ⟨rfl,z,l⟩|⟨z,q⟩
  ·cases z
  ·rw[aa z];exact r.own j e q
 bor:=λj e q=>by
  rcases am q with ⟨rfl,z,l⟩|⟨z,q⟩
  ·cases z
  ·rw[aa z];exact r.bor j e q
 bh:=r.bh
 dis:=λj k e e' a q1 q2 q3 q4=>by
  rcases am q1 with ⟨rfl,z,l⟩|⟨z,q1⟩
  ·cases z
  ·rcases am q2 with ⟨rfl,z',l⟩|⟨z',q2⟩
   ·cases z'
   ·rw[aa z]at q3;rw[aa z']at q4
    exact r.dis j k e e' a q1 q2 q3 q4
 len:=by simp[r.len]
theorem RI.setOwn (r:RI K c ρ σ H F) (i:Nat) {a:Dg} {o:HO} {d:D} (hf:iI ly i) (h:H a=some o) (hF:F a=none) (h0:c.H0 a=none) (q:iH K F o d)
  (ne:∀(j:Nat) d',j≠i->ρ[j]? =some (some (.own d'))->σ[j]? ≠some (some (.ref a)))
  (nb:∀(j:Nat) x JJ f hs a' C dx fs,ρ[j]? =some (some (.cel x JJ f hs))->σ[j]? =some (some (.ref a'))->H a'=some (.ins C dx fs)->fs.lookup f≠some (.ref a)):RI K c (ρ.set i (some (.own d))) (σ.set i (some (.ref a))) H F where
 cel:=r.cel.set i (λs' e=>by cases e;rfl) (λd e j x JJ f hs a' C dx fs b q1 q2 q3 q4 z=>by cases z;exact nb j x JJ f hs a' C dx fs q1 q2 q3 q4)
 pin:=λL hL b h=>by rw[aa (hf L hL).1.symm];exact r.pin L hL b h
 obj:=λL hL hρ=>by
  rw[aa (hf L hL).1.symm]at hρ
  obtain⟨b,dx,fs,h0,h1,h2,h3,h4,h5,h6,h7,h8,h9⟩:=r.obj L hL hρ
  refine⟨b,dx,fs,h0,by rw[aa (hf L hL).1.symm];exact h1,h2,h3,h4,h5,h6,h7,λp hp=> ?_,h9⟩
  rw[aa ((hf L hL).2 p hp).symm];exact h8 p hp
 odis:=λL hL L' Mz q1 q2 b k1 k2=>by
  rw[aa (hf L hL).1.symm]at k1 q1
  rw[aa (hf L' Mz).1.symm]at k2 q2
  exact r.odis L hL L' Mz q1 q2 b k1 k2
 fm:=r.fm
 ext:=r.ext
 val:=λj e q=>by
  rcases am q with ⟨rfl,z,l⟩|⟨z,q⟩
  ·cases z
  ·rw[aa z];exact r.val j e q
 own:=λj e q'=>by
  rcases am q' with ⟨rfl,z,l⟩|⟨z,q'⟩
  ·cases z;exact⟨a,o,dj (by rw[<-r.len];exact l),h,hF,h0,q⟩
  ·rw[aa z];exact r.own j e q'
 bor:=λj e q=>by
  rcases am q with ⟨rfl,z,l⟩|⟨z,q⟩
  ·cases z
  ·rw[aa z];exact r.bor j e q
 bh:=r.bh
 dis:=λj k e e' b q1 q2 q3 q4=>by
  rcases am q1 with ⟨rfl,z,l⟩|⟨z,q1⟩
  ·rw[dj (by rw[<-r.len];exact l)]at q3
   cases q3
   rcases am q2 with ⟨rfl,z',l⟩|⟨z',q2⟩
   ·rfl
   ·rw[aa z']at q4
    exact absurd q4 (ne k e' (ET z') q2)
  ·rw[aa z]at q3
   rcases am q2 with ⟨rfl,z',l⟩|⟨z',q2⟩
   ·rw[dj (by rw[<-r.len];exact l)]at q4
    cases q4
    exact absurd q3 (ne j e (ET z) q1)
   ·rw[aa z']at q4
    exact r.dis j k e e' b q1 q2 q3 q4
 len:=by simp[r.len]
theorem RI.celNe (r:RI K c ρ σ H F) {H2:Hp} (k:az H H2) {p:Dg} (hp:H p=none):∀(j:Nat) x JJ f hs a' C dx fs,ρ[j]? =some (some (.cel x JJ f hs))->σ[j]? =some (some (.ref a'))->H2 a'=some (.ins C dx fs)->fs.lookup f≠some (.ref p):=λj x JJ f hs a' C dx fs q1 q2 q3 q4=>by
 obtain⟨a,Tr,b,h1,h2,_⟩:=r.cel.ex j x JJ f hs q1
 rw[q2]at h1
 cases h1
 obtain⟨C0,Ts,vs,us,g1,g2,g3,g4,_⟩:=h2.ex
 rw[k _ _ g1]at q3
 cases q3
 rw[g3]at q4
 cases q4
 rw[hp]at g4
 cases g4
theorem RI.setNew (r:RI K c ρ σ H F) (i:Nat) {a:Dg} {o:HO} {d:D} (hf:iI ly i) (h:H a=none) (q:iH K F o d):RI K c (ρ.set i (some (.own d))) (σ.set i (some (.ref a))) (a_ H a o) F:=by
 have r':=r.step (bc.layOwn r.sub (o:=o) h)
 refine r'.setOwn i hf ar (r.sub.free h) (r.ext.keep.free h) q (λj d' _ hj e=> ?_) (r.celNe (bt h) h)
 obtain⟨b,o',h1,h2,_⟩:=r.own j d' hj
 rw[e]at h1
 cases h1
 rw[h]at h2
 cases h2
end
def frz1 (i:Nat) (ρ:a9):a9:=match ρ[i]? with
 |some (some (.own d))=>ρ.set i (some (.val d))
 |_=>ρ
def frz (L:List Nat) (ρ:a9):a9:=L.foldl (λr i=>frz1 i r) ρ
theorem RI.frz1 {K:Dd} {c:cm ly} {ρ:a9} {σ:St} {H F:Hp} (r:RI K c ρ σ H F) (i:Nat):∃F',az F F'/\RI K c (frz1 i ρ) σ H F':=by
 unfold L2.Pu.frz1
 split
 ·rename_i d hi
  obtain⟨a,o,h1,h2,h3,h4,h5⟩:=r.own i d hi
  have g:az F (a_ F a o):=bt h3
  refine⟨a_ F a o,g,⟨⟨λb u e=> ?_,r.ext.keep,r.ext.grow.trans g,λb e=> ?_⟩,λj e w=> ?_,λj e w=> ?_,λj e w=> ?_,r.bh,λj k e e' x q1 q2 q3 q4=> ?_,by simp[r.len],λL hL hρ=> ?_,λL hL L' Mz q1 q2=> ?_,r.fm.trans g,⟨λj x JJ f hs w=> ?_,λj k x JJ f hs s w w2 Ko=> ?_⟩,r.pin⟩⟩
  ·by_cases z:b=a
   ·subst z;rw[ar]at e;rw[h2];exact e
   ·rw[ai z]at e;exact r.sub b u e
  ·by_cases z:b=a
   ·subst z;exact .inr h4
   ·rw[ai z]at e;exact r.ext.new b e
  ·rcases am w with ⟨rfl,z,l⟩|⟨z,w⟩
   ·cases z
    refine⟨.ref a,h1,?_⟩
    cases h5 with
    |lst q=>exact .lst ar (q.mono g)
    |dic q n=>exact .dic ar (q.mono g) n
   ·obtain⟨v,k1,k2⟩:=r.val j e w;exact⟨v,k1,k2.mono g⟩
  ·rcases am w with ⟨rfl,z,l⟩|⟨z,w⟩
   ·cases z
   ·obtain⟨x,y,k1,k2,k3,k4,k5⟩:=r.own j e w
    refine⟨x,y,k1,k2,?_,k4,k5.mono g⟩
    rw[ai (λzz=>by subst zz;exact z (r.dis i j d e x hi w h1 k1))]
    exact k3
  ·rcases am w with ⟨rfl,z,l⟩|⟨z,w⟩
   ·cases z
   ·exact r.bor j e w
  ·rcases am q1 with ⟨rfl,z,l⟩|⟨z,q1⟩
   ·cases z
   ·rcases am q2 with ⟨rfl,z',l⟩|⟨z',q2⟩
    ·cases z'
    ·exact r.dis j k e e' x q1 q2 q3 q4
  ·have S9:ρ[L.x]? =some (some .obj):=by
    rcases am hρ with ⟨_,z,_⟩|⟨_,w⟩
    ·cases z
    ·exact w
   obtain⟨b,dx,fs,k0,k1,k2,k3,k4,k5,k6⟩:=r.obj L hL S9
   have n1:b≠a:=λz=>by subst z;rw[k2]at h2;cases h2;cases h5
   have n2:dx≠a:=λz=>by subst z;rw[k3]at h2;cases h2;cases h5
   exact⟨b,dx,fs,k0,k1,k2,k3,by rw[ai n1];exact k4,by rw[ai n2];exact k5,k6⟩
  ·refine r.odis L hL L' Mz ?_ ?_
   ·rcases am q1 with ⟨_,z,_⟩|⟨_,w⟩
    ·cases z
    ·exact w
   ·rcases am q2 with ⟨_,z,_⟩|⟨_,w⟩
    ·cases z
    ·exact w
  ·rcases am w with ⟨rfl,z,l⟩|⟨z,w⟩
   ·cases z
   ·obtain⟨b,dx,bb,k1,k2,k3⟩:=r.cel.ex j x JJ f hs w
    obtain⟨C,fs,vs,us,g1,g2,g3,g4,g5,g6,g7⟩:=k2.ex
    have n1:b≠a:=λz=>by subst z;rw[g1]at h2;cases h2;cases h5
    have n2:dx≠a:=λz=>by subst z;rw[k2.own]at h2;cases h2;cases h5
    have n3:bb≠a:=λz=>by subst z;exact k3 i d hi h1
    refine⟨b,dx,bb,k1,⟨⟨C,fs,vs,us,g1,g2,g3,g4,g5.mono g,g6.mono g,g7⟩,k2.own,by rw[ai n1];exact k2.fa,by rw[ai n2];exact k2.fd,by rw[ai n3];exact k2.fb,k2.za,k2.zd,k2.zb⟩,λk e w2=> ?_⟩
    rcases am w2 with ⟨rfl,z',l⟩|⟨z',w2⟩
    ·cases z'
    ·exact k3 k e w2
  ·rcases am w with ⟨rfl,z,l⟩|⟨z,w⟩
   ·cases z
   ·rcases am w2 with ⟨rfl,z',l⟩|⟨z',w2⟩
    ·cases z';cases Ko
    ·exact r.cel.one j k x JJ f hs s w w2 Ko
 ·exact⟨F,az.refl _,r⟩
theorem RI.frz {K:Dd} {c:cm ly} {σ:St} {H:Hp}:∀(L:List Nat) {ρ:a9} {F:Hp},RI K c ρ σ H F->∃F',az F F'/\RI K c (frz L ρ) σ H F'
 |[],ρ,F,r=>⟨F,az.refl _,r⟩
 |i::L,ρ,F,r=>by
  obtain⟨F1,g1,r1⟩:=r.frz1 i
  obtain⟨F2,g2,r2⟩:=RI.frz L r1
  exact⟨F2,g1.trans g2,r2⟩
end L2.Pu
namespace L2.Pu
open PySem PySem.Spec PyProof.Rows
variable {ly:List cK}
inductive R (α:Type)where
 |ok (a:α)|err (c:Df) (ρ:a9)|bad
def R.bind {α β:Type}:R α->(α->R β)->R β
 | .ok a,f=>f a
 | .err c ρ,_=> .err c ρ
 | .bad,_=> .bad
instance:Monad R where
 pure:=R.ok
 bind:=R.bind
@[simp] theorem ah {α β:Type} (a:α) (f:α->R β):(R.ok a>>=f)=f a:=rfl
@[simp] theorem AS {α β:Type} (c:Df) (ρ:a9) (f:α->R β):(R.err c ρ>>=f)=R.err c ρ:=rfl
@[simp] theorem AT {α β:Type} (f:α->R β):(R.bad>>=f)=R.bad:=rfl
@[simp] theorem Bx {α:Type} (a:α):(pure a:R α)=R.ok a:=rfl
def R.of {α:Type}:Option α->R α
 |some a=> .ok a
 |none=> .bad
@[simp] theorem dk {α:Type} (a:α):R.of (some a)= .ok a:=rfl
@[simp] theorem By {α:Type}:R.of (none:Option α)= .bad:=rfl
def aA {α:Type} (c:cm ly) (r:R α) (P:α->Prop):Prop:=match r with
 | .ok a=>P a
 | .err e ρ=>c.Er e ρ
 | .bad=>False
theorem aA.imp {α:Type} {c:cm ly} {r:R α} {P P':α->Prop} (h:aA c r P) (w:∀a,r= .ok a->P a->P' a):aA c r P':=by
 cases r with
 |ok a=>exact w a rfl h
 |err e ρ=>exact h
 |bad=>exact h
theorem aA.bind {α β:Type} {c:cm ly} {r:R α} {f:α->R β} {P:β->Prop}:aA c (r>>=f) P<->aA c r λa=>aA c (f a) P:=by
 cases r<;>exact Iff.rfl
theorem aA.of {α:Type} {c:cm ly} {r:Option α} {P:α->Prop} (h:aA c (R.of r) P):∃a,r=some a/\P a:=by
 cases r with
 |none=>exact h.elim
 |some a=>exact⟨a,rfl,h⟩
def bV (K:Dd) (H F:Hp) (v:V) (d:D):Prop:=ci K F v d\/∃a o,v= .ref a/\H a=some o/\iH K F o d
theorem bV.mono {K:Dd} {H F H' F':Hp} {v:V} {d:D} (e:bc H F H' F'):bV K H F v d->bV K H' F' v d
 | .inl r=> .inl (r.mono e.grow)
 | .inr ⟨a,o,h1,h2,h3⟩=> .inr ⟨a,o,h1,e.keep _ _ h2,h3.mono e.grow⟩
theorem bV.lst {K:Dd} {H F:Hp} {v:V} {ds:List D} (s:az F H) (h:bV K H F v (.lst ds)):∃a vs,v= .ref a/\H a=some (.lst vs)/\Reps K F vs ds:=by
 rcases h with h|⟨a,o,h1,h2,q⟩
 ·obtain⟨a,vs,e,h,r⟩:=h.inv
  exact⟨a,vs,e,s _ _ h,r⟩
 ·cases q with
  |lst r=>exact⟨_,_,h1,h2,r⟩
theorem bV.dic {K:Dd} {H F:Hp} {v:V} {ds:List (bR×D)} (s:az F H) (h:bV K H F v (.dic ds)):∃a vs,v= .ref a/\H a=some (.dK vs)/\RepK K F vs ds/\(vs.map (·.1)).Nodup:=by
 rcases h with h|⟨a,o,h1,h2,q⟩
 ·obtain⟨a,vs,e,h,r⟩:=h.inv
  exact⟨a,vs,e,s _ _ h,r⟩
 ·cases q with
  |dic r n=>exact⟨_,_,h1,h2,r,n⟩
def CY:D->Bool
 | .lst _=>true
 | .dic _=>true
 |_=>false
theorem bV.in {K:Dd} {H F:Hp} {v:V} {d:D} (h:bV K H F v d) (n:CY d=false):v2 K F v d:=by
 rcases h with h|⟨a,o,h1,h2,q⟩
 ·exact h.inv
 ·cases q<;>cases n
theorem bV.tup {K:Dd} {H F:Hp} {v:V} {ds:List D} (s:az F H) (h:bV K H F v (.tup ds)):∃a vs,v= .ref a/\H a=some (.tup vs)/\Reps K F vs ds:=by
 obtain⟨a,vs,e,h,r⟩:=h.in rfl
 exact⟨a,vs,e,s _ _ h,r⟩
theorem bV.scr {K:Dd} {H F:Hp} {v:V} {ns:List Int} (s:az F H) (h:bV K H F v (.scr ns)):∃a,v= .ref a/\dc K H a (ns.map V.int):=by
 obtain⟨a,e,h⟩:=h.in rfl
 exact⟨a,e,s.seq h⟩
theorem bV.int {K:Dd} {H F:Hp} {v:V} {i:Int} (h:bV K H F v (.int i)):v= .int i:=h.in rfl
theorem bV.bl {K:Dd} {H F:Hp} {v:V} {i:Bool} (h:bV K H F v (.bl i)):v= .bl i:=h.in rfl
theorem bV.str {K:Dd} {H F:Hp} {v:V} {i:Df} (h:bV K H F v (.str i)):v= .str i:=h.in rfl
theorem bV.non {K:Dd} {H F:Hp} {v:V} (h:bV K H F v .non):v= .non:=h.in rfl
inductive lV (K:Dd) (H F:Hp):List V->List D->Prop
 |nil:lV K H F [] []
 |cons {v:V} {d:D} {vs:List V} {ds:List D}:bV K H F v d->lV K H F vs ds->lV K H F (v::vs) (d::ds)
def cW (K:Dd) (x:Df) (cls:De):Prop:=∃C,cls= .ref C/\Dq K Dm x=some (some (.ref C))
def yr (X:Cx) (c:cm ly) (σ:St):XK:=λcls _ H'=>∃x ρ F',cW X.K x cls/\RI X.K c ρ σ H' F'/\c.Er x ρ
def zu (X:Cx) (c:cm ly):Prop:=(f_ X/\∀JD σ ρ H F s a cls x,au X JD σ H s->RI X.K c ρ σ H F->Fl X JD H s.heap a cls->cW X.K x cls->c.Er x ρ->X.xe (.ref a) s)\/(∀x ρ,¬c.Er x ρ)\/(X.stack=X.outer/\gJ (i6 X.prog X.w) X (yr X c))
abbrev gg (ly:List cK) (X:Cx):Type:={c:cm ly // zu X c}
theorem zu.no {X:Cx} {c:cm ly} (h:∀x ρ,¬c.Er x ρ):zu X c:= .inr (.inl h)
theorem iR {X:Cx} (c:gg ly X):gJ (i6 X.prog X.w) X (yr X c.1):=λJD σ H s e s' I h=>by
 rcases c.2 with ⟨hp,Oq⟩|no|⟨_,ps⟩
 ·obtain⟨a,cls,H',rfl,I',fl,x,ρ,F',ec,ri,er⟩:=zr I hp h
  exact Oq JD σ ρ H' F' s' a cls x I' ri fl ec er
 ·obtain⟨a,cls,H',_,_,_,_,_,_,x,ρ,F',ec,ri,er⟩:=h
  exact absurd er (no x ρ)
 ·exact ps JD σ H s e s' I h
theorem zu.plain {X:Cx} {c:cm ly} (h:zu X c) (NL:X.stack=X.env::X.outer):(f_ X/\∀JD σ ρ H F s a cls x,au X JD σ H s->RI X.K c ρ σ H F->Fl X JD H s.heap a cls->cW X.K x cls->c.Er x ρ->X.xe (.ref a) s)\/∀x ρ,¬c.Er x ρ:=by
 rcases h with h|h|⟨h,_⟩
 ·exact .inl h
 ·exact .inr h
 ·rw[h]at NL
  have:=congrArg IT NL
  simp at this
def tQ (K:Dd) (c:cm ly) (f:a9->R D):TE:=λσ H Q=>∃F ρ,RI K c ρ σ H F/\aA c (f ρ) λd=>∀v H' F',bc H F H' F'->ci K F' v d->Q v H'
def tB' (K:Dd) (c:cm ly) (f:a9->R D):TE:=λσ H Q=>∃F ρ,RI K c ρ σ H F/\aA c (f ρ) λd=>∀v H' F',bc H F H' F'->bV K H' F' v d->Q v H'
def tT (K:Dd) (c:cm ly) (f:a9->R Bool):TT:=λσ H Q=>∃F ρ,RI K c ρ σ H F/\aA c (f ρ) λb=>∀H' F',bc H F H' F'->Q b H'
def Ad (K:Dd) (c:cm ly) (f:a9->R (List D)):TA:=λσ H Q=>∃F ρ,RI K c ρ σ H F/\aA c (f ρ) λds=>∀vs H' F',bc H F H' F'->Reps K F' vs ds->Q vs H'
def AU (K:Dd) (c:cm ly) (f:a9->R (List D)):TA:=λσ H Q=>∃F ρ,RI K c ρ σ H F/\aA c (f ρ) λds=>∀vs H' F',bc H F H' F'->lV K H' F' vs ds->Q vs H'
def PQ (ly:List cK) (X:Cx) (e:Dn) (f:a9->R D):Prop:=∀c:gg ly X,PE X e (tQ X.K c.1 f)
def PB (ly:List cK) (X:Cx) (e:Dn) (f:a9->R D):Prop:=∀c:gg ly X,PE X e (tB' X.K c.1 f)
def v3 (ly:List cK) (X:Cx) (e:Dn) (f:a9->R Bool):Prop:=∀c:gg ly X,PT X e (tT X.K c.1 f)
def wy (ly:List cK) (X:Cx) (e:Dn) (f:a9->R Bool):Prop:=∀c:gg ly X,PW X e (tT X.K c.1 f)
def qt (ly:List cK) (X:Cx) (es:List Dn) (f:a9->R (List D)):Prop:=∀c:gg ly X,PA X es (Ad X.K c.1 f)
def AV (ly:List cK) (X:Cx) (es:List Dn) (f:a9->R (List D)):Prop:=∀c:gg ly X,PA X es (AU X.K c.1 f)
theorem PE.weak {X:Cx} {e:Dn} {t t':TE} (h:PE X e t) (w:∀σ H Q,t' σ H Q->t σ H Q):PE X e t':=λJD s σ H Q I q=>h JD s σ H Q I (w σ H Q q)
theorem PT.weak {X:Cx} {e:Dn} {t t':TT} (h:PT X e t) (w:∀σ H Q,t' σ H Q->t σ H Q):PT X e t':=λJD s σ H Q I q=>h JD s σ H Q I (w σ H Q q)
theorem PW.weak {X:Cx} {e:Dn} {t t':TT} (h:PW X e t) (w:∀σ H Q,t' σ H Q->t σ H Q):PW X e t':=λwh JD s σ H Q I q=>h wh JD s σ H Q I (w σ H Q q)
theorem PA.weak {X:Cx} {e:List Dn} {t t':TA} (h:PA X e t) (w:∀σ H Q,t' σ H Q->t σ H Q):PA X e t':=λpos JD s σ H Q I q=>h pos JD s σ H Q I (w σ H Q q)
theorem PS.weak {X:Cx} {e:DJ} {t t':TS} (h:PS X e t) (w:∀D σ H,t' D σ H->t D σ H):PS X e t':=λJD s σ H D I q=>h JD s σ H D I (w D σ H q)
theorem nc.weak {X:Cx} {e:List DJ} {t t':TS} (h:nc X e t) (w:∀D σ H,t' D σ H->t D σ H):nc X e t':=λJD s σ H D I q=>h JD s σ H D I (w D σ H q)
theorem PG.weak {X:Cx} {e:Dn} {t t':TG} (h:PG X e t) (w:∀v σ H Q,t' v σ H Q->t v σ H Q):PG X e t':=λJD s σ H v u Q I r q=>h JD s σ H v u Q I r (w v σ H Q q)
theorem zv {K:Dd} {c:cm ly} {fa fb:a9->R D} {g:D->D->R D} {σ:St} {H:Hp} {Q:VK} (h:tQ K c (λρ=>fa ρ>>=λx=>fb ρ>>=λy=>g x y) σ H Q)
  {T:V->V->Hp->Prop} (k:∀F H2 F2 v u x y,bc H F H2 F2->bV K H2 F2 v x->bV K H2 F2 u y->aA c (g x y) (λd=>∀w H' F',bc H F H' F'->ci K F' w d->Q w H')->T v u H2):
  tB' K c fa σ H λv H1=>tB' K c fb σ H1 λu H2=>T v u H2:=by
 obtain⟨F,ρ,ri,w⟩:=h
 refine⟨F,ρ,ri,(aA.bind.mp w).imp λx hx w1 v H1 F1 e1 r1=>⟨F1,ρ,ri.step e1,(aA.bind.mp w1).imp λy hy w2 u H2 F2 e2 r2=> ?_⟩⟩
 exact k F H2 F2 v u x y (e1.trans e2) (r1.mono e2) r2 w2
def gi (K:Dd) (r:R2) (g:D->D->Option D):Prop:=∀v u x y d H F Q,az F H->bV K H F v x->bV K H F u y->g x y=some d->(∀w H' F',bc H F H' F'->ci K F' w d->Q w H')->r v u H Q
def AW (K:Dd) (r:V->Hp->VK->Prop) (g:D->Option D):Prop:=∀v x d H F Q,az F H->bV K H F v x->g x=some d->(∀w H' F',bc H F H' F'->ci K F' w d->Q w H')->r v H Q
def lW (K:Dd) (r:List V->Hp->VK->Prop) (g:List D->Option D):Prop:=∀vs ds d H F Q,az F H->lV K H F vs ds->g ds=some d->(∀w H' F',bc H F H' F'->ci K F' w d->Q w H')->r vs H Q
section
variable {X:Cx} {a b e:Dn} {es:List Dn} {fa fb f:a9->R D} {fs:a9->R (List D)} {pos:DY}
theorem PQ.bo (h:PQ ly X e f):PB ly X e f:=λc=>PE.weak (h c) λσ H Q ⟨F,ρ,ri,w⟩=>⟨F,ρ,ri,w.imp λd _ k v H' F' e r=>k v H' F' e (.inl r)⟩
def ap (i:Nat):a9->R D:=λρ=>match ρ[i]? with
 |some (some (.val d))=> .ok d
 |_=> .bad
def al (i:Nat):a9->R D:=λρ=>match ρ[i]? with
 |some (some .obj)=> .bad
 |some (some (.cel ..))=> .bad
 |some (some s)=> .ok s.data
 |_=> .bad
theorem Cd (h:PE X e (uv i)):PQ ly X e (ap i):=λc=>PE.weak h λσ H Q ⟨F,ρ,ri,w⟩=>by
 unfold ap at w
 split at w
 ·rename_i d hd
  obtain⟨v,h1,h2⟩:=ri.val i d hd
  exact⟨v,h1,w v H F (bc.refl ri.sub) h2⟩
 ·exact w.elim
theorem Cf (h:PE X e (uv i)):PB ly X e (al i):=λc=>PE.weak h λσ H Q ⟨F,ρ,ri,w⟩=>by
 unfold al at w
 split at w
 ·exact w.elim
 ·exact w.elim
 ·rename_i s QA QB hs
  cases s with
  |obj=>exact absurd rfl QA
  |cel x JJ f hs=>exact absurd rfl (QB _ _ _ _)
  |val d=>obtain⟨v,h1,h2⟩:=ri.val i d hs;exact⟨v,h1,w v H F (bc.refl ri.sub) (.inl h2)⟩
  |own d=>obtain⟨a,o,h1,h2,h3,h4,h5⟩:=ri.own i d hs;exact⟨_,h1,w _ H F (bc.refl ri.sub) (.inr ⟨a,o,rfl,h2,h5⟩)⟩
  |bor d=>obtain⟨a,o,h1,h2,h3⟩:=ri.bor i d hs;exact⟨_,h1,w _ H F (bc.refl ri.sub) (.inr ⟨a,o,rfl,ri.ext.keep _ _ (ri.bh _ _ h2),h3.mono ri.ext.grow⟩)⟩
 ·exact w.elim
theorem aq (i:Nat) {x:Df} (hN:X.N[i]? =some x:=by rfl) (hv:l7 X.env.scope x:=by first|exact E6 rfl|exact DW (E6 rfl)|exact DW (DW rfl)) (hd:(x==("__debug__":Df))=false:=by decide)
  (Lh:(x==("__classdict__":Df))=false:=by decide):PQ ly X (.Name x pos) (ap i):=Cd (pv i hN hv hd Lh)
theorem aj (i:Nat) {x:Df} (hN:X.N[i]? =some x:=by rfl) (hv:l7 X.env.scope x:=by first|exact E6 rfl|exact DW (E6 rfl)|exact DW (DW rfl)) (hd:(x==("__debug__":Df))=false:=by decide)
  (Lh:(x==("__classdict__":Df))=false:=by decide):PB ly X (.Name x pos) (al i):=Cf (pv i hN hv hd Lh)
def fC (d:D):a9->R D:=λ_=> .ok d
theorem aB {i:Int} {j:Nat}:PQ ly X (.Constant (.int i) j pos) (fC (.int i)):=λc=>PE.weak yL λσ H Q ⟨F,ρ,ri,w⟩=>w _ H F (bc.refl ri.sub) (.int i)
theorem eu {i:Bool} {j:Nat}:PQ ly X (.Constant (.bool i) j pos) (fC (.bl i)):=λc=>PE.weak Am λσ H Q ⟨F,ρ,ri,w⟩=>w _ H F (bc.refl ri.sub) (.bl i)
theorem eH {x:Df} {j:Nat}:PQ ly X (.Constant (.str x) j pos) (fC (.str x)):=λc=>PE.weak yM λσ H Q ⟨F,ρ,ri,w⟩=>w _ H F (bc.refl ri.sub) (.str x)
theorem cA {x:Df} {i:Int} {t:Fn} (hg:Gl X x) (hm:X.mg x=some (.int i t)) (hd:(x==("__debug__":Df))=false:=by decide):PQ ly X (.Name x pos) (fC (.int i)):=
 λc=>PE.weak (rL hg hm (v:= .int i) ⟨t,rfl⟩ hd) λσ H Q ⟨F,ρ,ri,w⟩=>w _ H F (bc.refl ri.sub) (.int i)
def f2 (g:D->D->Option D) (fa fb:a9->R D):a9->R D:=λρ=>fa ρ>>=λx=>fb ρ>>=λy=>R.of (g x y)
theorem bB {op:Operator} {r:R2} {g:D->D->Option D} (ho:i0 X (EI op) r) (Ni:gi X.K r g) (ha:PB ly X a fa) (hb:PB ly X b fb):PQ ly X (.BinOp a op b pos) (f2 g fa fb):=λc=>
 PE.weak (Av ho (ha c) (hb c)) λσ H Q h=>zv h λF H2 F2 v u x y e rx ry w=>by
  obtain⟨d,hd,k⟩:=w.of
  exact Ni v u x y d H2 F2 Q e.sub rx ry hd λw H' F' e' r'=>k w H' F' (e.trans e') r'
def f1 (g:D->Option D) (fa:a9->R D):a9->R D:=λρ=>fa ρ>>=λx=>R.of (g x)
theorem AX {op:UnaryOp} {r:V->Hp->VK->Prop} {g:D->Option D} (ho:Bs X (unaryOp op) r) (Ni:AW X.K r g) (ha:PB ly X a fa):PQ ly X (.UnaryOp op a pos) (f1 g fa):=λc=>
 PE.weak (Aw ho (ha c)) λσ H Q ⟨F,ρ,ri,w⟩=>⟨F,ρ,ri,(aA.bind.mp w).imp λx hx w1 v H1 F1 e1 r1=>by
  obtain⟨d,hd,k⟩:=w1.of
  exact Ni v x d H1 F1 Q e1.sub r1 hd λw H' F' e' r'=>k w H' F' (e1.trans e') r'⟩
theorem js {op:IC} {r:R2} {g:D->D->Option D} (ho:i0 X (Ep op) r) (Ni:gi X.K r g) (ha:PB ly X a fa) (hb:PB ly X b fb) (hm:EN op b=false:=by first|exact uH _|with_unfolding_all rfl):
  PQ ly X (.Compare a [op] [b] pos) (f2 g fa fb):=λc=>
 PE.weak (wK ho (ha c) (hb c) hm) λσ H Q h=>zv h λF H2 F2 v u x y e rx ry w=>by
  obtain⟨d,hd,k⟩:=w.of
  exact Ni v u x y d H2 F2 Q e.sub rx ry hd λw H' F' e' r'=>k w H' F' (e.trans e') r'
def fT (f:a9->R D):a9->R Bool:=λρ=>f ρ>>=λd=>match d with
 | .bl b=> .ok b
 |_=> .bad
theorem Cg {t:TE} (h:PT X e (yg t)) (w:∀σ H Q,tQ X.K c f σ H Q->t σ H Q):PT X e (tT X.K c (fT f)):=PT.weak h λσ H Q ⟨F,ρ,ri,k⟩=>by
 refine w σ H _ ⟨F,ρ,ri,(aA.bind.mp k).imp λd _ k1 v H' F' e r=> ?_⟩
 cases d with
 |bl b=>cases r;exact⟨b,rfl,k1 H' F' e⟩
 |_=>exact k1.elim
theorem d8 {op:IC} {r:R2} {g:D->D->Option D} (ho:i0 X (Ep op) r) (Ni:gi X.K r g) (ha:PB ly X a fa) (hb:PB ly X b fb) (hm:EN op b=false:=by first|exact uH _|with_unfolding_all rfl):
  v3 ly X (.Compare a [op] [b] pos) (fT (f2 g fa fb)):=λc=>Cg (wL ho (ha c) (hb c) hm) λσ H Q h=>zv h λF H2 F2 v u x y e rx ry w=>by
  obtain⟨d,hd,k⟩:=w.of
  exact Ni v u x y d H2 F2 Q e.sub rx ry hd λw H' F' e' r'=>k w H' F' (e.trans e') r'
def ag:a9->R (List D):=λ_=> .ok []
def a8 (f:a9->R D) (fs:a9->R (List D)):a9->R (List D):=λρ=>f ρ>>=λx=>fs ρ>>=λxs=> .ok (x::xs)
theorem ae:qt ly X [] ag:=λc=>PA.weak gI λσ H Q ⟨F,ρ,ri,w⟩=>w [] H F (bc.refl ri.sub) .nil
theorem a7 (h:PQ ly X e f) (hr:qt ly X es fs) (hs:Di (e::es) X.env=(false,DH e X.env)::Di es X.env:=by rfl):qt ly X (e::es) (a8 f fs):=λc=>
 PA.weak (cR (h c) (hr c) hs) λσ H Q ⟨F,ρ,ri,w⟩=>⟨F,ρ,ri,(aA.bind.mp w).imp λx hx w1 v H1 F1 e1 r1=>⟨F1,ρ,ri.step e1,(aA.bind.mp w1).imp λy hy w2 u H2 F2 e2 r2=>
  w2 _ H2 F2 (e1.trans e2) (.cons (r1.mono e2.grow) r2)⟩⟩
theorem b0:AV ly X [] ag:=λc=>PA.weak gI λσ H Q ⟨F,ρ,ri,w⟩=>w [] H F (bc.refl ri.sub) .nil
theorem aP (h:PB ly X e f) (hr:AV ly X es fs) (hs:Di (e::es) X.env=(false,DH e X.env)::Di es X.env:=by rfl):AV ly X (e::es) (a8 f fs):=λc=>
 PA.weak (cR (h c) (hr c) hs) λσ H Q ⟨F,ρ,ri,w⟩=>⟨F,ρ,ri,(aA.bind.mp w).imp λx hx w1 v H1 F1 e1 r1=>⟨F1,ρ,ri.step e1,(aA.bind.mp w1).imp λy hy w2 u H2 F2 e2 r2=>
  w2 _ H2 F2 (e1.trans e2) (.cons (r1.mono e2) r2)⟩⟩
def lim:Nat:=100000
theorem gM:lim<=sizeLine:=by decide
def eA (fs:a9->R (List D)):a9->R D:=λρ=>fs ρ>>=λds=>if ds.length<=lim then .ok (.tup ds)else .bad
def gj (fs:a9->R (List D)):a9->R D:=λρ=>fs ρ>>=λds=>if ds.length<=lim then .ok (.lst ds)else .bad
theorem eI {x1:Nat} (h:qt ly X es fs):PQ ly X (.Tuple es x1 pos) (eA fs):=λc=>PE.weak (yZ (h c)) λσ H Q ⟨F,ρ,ri,w⟩=>⟨F,ρ,ri,(aA.bind.mp w).imp λds hd w1 vs H1 F1 e1 r1=>by
 split at w1
 ·rename_i hl
  refine⟨E1 (by rw[r1.length];exact hl) gM,λp hp=> ?_⟩
  have e2:=bc.lay (o:= .tup vs) e1.sub hp
  exact w1 _ _ _ (e1.trans e2) (.tup ar (r1.mono e2.grow))
 ·exact w1.elim⟩
theorem g_ (h:qt ly X es fs):PQ ly X (.List es pos) (gj fs):=λc=>PE.weak (qF (h c)) λσ H Q ⟨F,ρ,ri,w⟩=>⟨F,ρ,ri,(aA.bind.mp w).imp λds hd w1 vs H1 F1 e1 r1=>by
 split at w1
 ·rename_i hl
  refine⟨E1 (by rw[r1.length];exact hl) gM,λp hp=> ?_⟩
  have e2:=bc.lay (o:= .lst vs) e1.sub hp
  exact w1 _ _ _ (e1.trans e2) (.lst ar (r1.mono e2.grow))
 ·exact w1.elim⟩
def fY (g:List D->Option D) (fs:a9->R (List D)):a9->R D:=λρ=>fs ρ>>=λds=>R.of (g ds)
variable {x:Df} {p:DY} {id T:String} {rc:List V->Hp->VK->Prop}
theorem sg {c:cm ly} {rc:List V->Hp->VK->Prop} {g:List D->Option D} (Ni:lW X.K rc g) {σ:St} {H:Hp} {Q:VK} (h:tQ X.K c (fY g fs) σ H Q):C1 rc (AU X.K c fs) σ H Q:=by
 obtain⟨F,ρ,ri,w⟩:=h
 refine⟨F,ρ,ri,(aA.bind.mp w).imp λds hd w1 vs H1 F1 e1 r1=> ?_⟩
 obtain⟨d,hd,k⟩:=w1.of
 exact Ni vs ds d H1 F1 Q e1.sub r1 hd λw H' F' e' r'=>k w H' F' (e1.trans e') r'
theorem bi {g:List D->Option D} (hc:d6 X (.builtin id) rc) (Ni:lW X.K rc g) (hm:X.mg x=none) (hv:DZ x=some (.builtin id)) (ha:AV ly X (e::es) fs) (hg:Gl X x:=by rfl) (hn:x≠"__name__":=by decide) (L4:(x==("__debug__":Df))=false:=by decide)
  (he:Di (e::es) X.env=(false,DH e X.env)::Di es X.env:=by rfl) (KL:(DX pos (Di es X.env)).any (·.1)=false:=by rfl):PQ ly X (.Call (.Name x p) (e::es) [] pos) (fY g fs):=λc=>
 PE.weak (jm hc hg hm hv (ha c) hn L4 he KL) λσ H Q h=>sg Ni h
theorem ee {g:List D->Option D} (hc:d6 X (.type T) rc) (Ni:lW X.K rc g) (hm:X.mg x=none) (hv:DZ x=some (.type T)) (ha:AV ly X (e::es) fs) (hg:Gl X x:=by rfl) (hn:x≠"__name__":=by decide) (L4:(x==("__debug__":Df))=false:=by decide)
  (he:Di (e::es) X.env=(false,DH e X.env)::Di es X.env:=by rfl) (KL:(DX pos (Di es X.env)).any (·.1)=false:=by rfl):PQ ly X (.Call (.Name x p) (e::es) [] pos) (fY g fs):=λc=>
 PE.weak (t5 hc hg hm hv (ha c) hn L4 he KL) λσ H Q h=>sg Ni h
def sh (K:Dd) (n:Nat) (m:List D->R D):Sp:=λvs H Q E=>vs.length=n/\∃F ds,az F H/\Reps K F vs ds/\match m ds with
 | .ok d=>∀v H' F',bc H F H' F'->ci K F' v d->Q v H'
 | .err x _=>∀cls a H' F',cW K x cls->bc H F H' F'->E cls a H'
 | .bad=>False
def aD (m:List D->R D) (n:Nat) (fs:a9->R (List D)):a9->R D:=λρ=>fs ρ>>=λds=>if ds.length=n then (match m ds with| .ok d=> .ok d| .err x _=> .err x ρ| .bad=> .bad)else .bad
theorem zw {c:cm ly} {m:List D->R D} {n:Nat} {σ:St} {H:Hp} {Q:VK} (h:tQ X.K c (aD m n fs) σ H Q):yk (sh X.K n m) [] (yr X c) (Ad X.K c fs) σ H Q:=by
 obtain⟨F,ρ,ri,w⟩:=h
 refine⟨F,ρ,ri,(aA.bind.mp w).imp λds hd w1 vs H1 F1 e1 r1=> ?_⟩
 show sh X.K n m (vs++[]) H1 Q (yr X c σ)
 rw[Ed]
 split at w1
 ·rename_i hl
  refine⟨by rw[r1.length];exact hl,F1,ds,e1.sub,r1,?_⟩
  split at w1
  ·exact λv H' F' e' r'=>w1 v H' F' (e1.trans e') r'
  ·exact λcls a H' F' ec e'=>⟨_,ρ,F',ec,ri.step (e1.trans e'),w1⟩
  ·exact w1.elim
 ·exact w1.elim
theorem zx {n k:Nat} {m:List D->R D} {f:Dg} {fd:Eg} {ps:List Df} (F:cV X.prog X.w X.K X.mg X.base (i6 X.prog X.w) k f fd ps (sh X.K n m)) (hr:br k X.A) (hm:X.mg x=some (.ref f)) (hk:D_ X.K (.ref f)=true) (hb:dg X.K fd ps [])
  (ha:qt ly X (e::es) fs) (hg:Gl X x:=by rfl) (L4:(x==("__debug__":Df))=false:=by decide) (he:Di (e::es) X.env=(false,DH e X.env)::Di es X.env:=by rfl) (KL:(DX pos (Di es X.env)).any (·.1)=false:=by rfl):
  PQ ly X (.Call (.Name x p) (e::es) [] pos) (aD m n fs):=λc=>PE.weak (o4 F hr hg hm hk hb .nil (iR c) (ha c) L4 he KL) λσ H Q h=>zw h
variable {ga gb:a9->R Bool} {rest:List Dn}
def Ch (ga gb:a9->R Bool):a9->R Bool:=λρ=>ga ρ>>=λb=>if b=true then gb ρ else .ok false
def qu (ga gb:a9->R Bool):a9->R Bool:=λρ=>ga ρ>>=λb=>if b=true then .ok true else gb ρ
def dC (ga:a9->R Bool):a9->R Bool:=λρ=>ga ρ>>=λb=> .ok (!b)
theorem wy.t (h:wy ly X e ga):v3 ly X e ga:=λc=>(h c).pt
theorem pM (h:v3 ly X a ga):wy ly X (.BoolOp .Or [a] pos) ga:=λc=>ux (h c)
theorem v4 (h:v3 ly X a ga) (hb:wy ly X (.BoolOp .Or (b::rest) pos) gb):wy ly X (.BoolOp .Or (a::b::rest) pos) (qu ga gb):=λc=>PW.weak (yb (h c) (hb c)) λσ H Q ⟨F,ρ,ri,w⟩=>
 ⟨F,ρ,ri,(aA.bind.mp w).imp λb hb w1 H1 F1 e1=>by
  cases b with
  |false=>exact⟨F1,ρ,ri.step e1,w1.imp λb' _ k H2 F2 e2=>k H2 F2 (e1.trans e2)⟩
  |true=>exact w1 H1 F1 e1⟩
theorem kL (h:v3 ly X a ga):v3 ly X (.UnaryOp .Not a pos) (dC ga):=λc=>PT.weak (uy (h c)) λσ H Q ⟨F,ρ,ri,w⟩=>⟨F,ρ,ri,(aA.bind.mp w).imp λb hb w1 H1 F1 e1=>w1 H1 F1 e1⟩
def lX (fa fb:a9->R D):a9->R D:=λρ=>fa ρ>>=λd=>match d with
 | .bl true=>fb ρ
 | .bl false=> .ok (.bl false)
 |_=> .bad
def xq (fa fb:a9->R D):a9->R D:=λρ=>fa ρ>>=λd=>match d with
 | .bl true=> .ok (.bl true)
 | .bl false=>fb ρ
 |_=> .bad
def si (fa:a9->R D):a9->R D:=λρ=>fa ρ>>=λd=>match d with
 | .bl b=> .ok (.bl (!b))
 |_=> .bad
theorem v5 {op:Jy} (h:PQ ly X a fa):PQ ly X (.BoolOp op [a] pos) fa:=λc=>uz (h c)
theorem v6 (ha:PQ ly X a fa) (hb:PQ ly X (.BoolOp .And (b::rest) pos) fb):PQ ly X (.BoolOp .And (a::b::rest) pos) (lX fa fb):=λc=>PE.weak (yO (ha c) (hb c)) λσ H Q ⟨F,ρ,ri,w⟩=>
 ⟨F,ρ,ri,(aA.bind.mp w).imp λd hd w1 v H1 F1 e1 r1=>by
  cases d with
  |bl b=>
   cases r1
   cases b with
   |true=>exact⟨true,rfl,F1,ρ,ri.step e1,w1.imp λb' _ k v H2 F2 e2 r2=>k v H2 F2 (e1.trans e2) r2⟩
   |false=>exact⟨false,rfl,w1 _ H1 F1 e1 (.bl false)⟩
  |_=>exact w1.elim⟩
theorem Ci (ha:PQ ly X a fa) (hb:PQ ly X (.BoolOp .Or (b::rest) pos) fb):PQ ly X (.BoolOp .Or (a::b::rest) pos) (xq fa fb):=λc=>PE.weak (yc (ha c) (hb c)) λσ H Q ⟨F,ρ,ri,w⟩=>
 ⟨F,ρ,ri,(aA.bind.mp w).imp λd hd w1 v H1 F1 e1 r1=>by
  cases d with
  |bl b=>
   cases r1
   cases b with
   |false=>exact⟨false,rfl,F1,ρ,ri.step e1,w1.imp λb' _ k v H2 F2 e2 r2=>k v H2 F2 (e1.trans e2) r2⟩
   |true=>exact⟨true,rfl,w1 _ H1 F1 e1 (.bl true)⟩
  |_=>exact w1.elim⟩
theorem AY (ha:PQ ly X a fa):PQ ly X (.UnaryOp .Not a pos) (si fa):=λc=>PE.weak (yP (ha c)) λσ H Q ⟨F,ρ,ri,w⟩=>⟨F,ρ,ri,(aA.bind.mp w).imp λd hd w1 v H1 F1 e1 r1=>by
  cases d with
  |bl b=>cases r1;exact⟨b,rfl,w1 _ H1 F1 e1 (.bl _)⟩
  |_=>exact w1.elim⟩
def CZ (gc:a9->R Bool) (fa fb:a9->R D):a9->R D:=λρ=>gc ρ>>=λb=>if b=true then fa ρ else fb ρ
def lY:D->Option Bool
 | .non=>some false
 | .bl b=>some b
 | .int i=>some (i != 0)
 | .lst ds=>some (!ds.isEmpty)
 | .tup ds=>some (!ds.isEmpty)
 | .dic ds=>some (!ds.isEmpty)
 |_=>none
def cM (f:a9->R D):a9->R Bool:=λρ=>f ρ>>=λd=>R.of (lY d)
theorem Reps.isEmpty {K:Dd} {F:Hp}:∀{vs:List V} {ds:List D},Reps K F vs ds->vs.isEmpty=ds.isEmpty
 |_,_, .nil=>rfl
 |_,_, .cons _ _=>rfl
theorem RepK.isEmpty {K:Dd} {F:Hp}:∀{vs:List (bR×V)} {ds:List (bR×D)},RepK K F vs ds->vs.isEmpty=ds.isEmpty
 |_,_, .nil=>rfl
 |_,_, .cons _ _=>rfl
theorem fD (h:PB ly X e f) (he:∀L3,HC e X.env L3=(do let v<-L3;FU e.pos;FV [v] (Jc v)):=by intro _;rfl):v3 ly X e (cM f):=λc=>PT.weak (uI (h c) he) λσ H Q ⟨F,ρ,ri,w⟩=>
 ⟨F,ρ,ri,(aA.bind.mp w).imp λd hd w1 v H1 F1 e1 r1=>by
  obtain⟨b,hb,k⟩:=w1.of
  refine⟨b,?_,k H1 F1 e1⟩
  cases d with
  |non=>cases r1.non;cases hb;rfl
  |bl=>cases r1.bl;cases hb;rfl
  |int=>cases r1.int;cases hb;rfl
  |lst ds=>obtain⟨a,vs,rfl,h1,h2⟩:=r1.lst e1.sub;cases hb;exact .inl ⟨vs,dc.of h1,by rw[h2.isEmpty]⟩
  |tup ds=>obtain⟨a,vs,rfl,h1,h2⟩:=r1.tup e1.sub;cases hb;exact .inr (.inl ⟨vs,hU.of h1,by rw[h2.isEmpty]⟩)
  |dic ds=>obtain⟨a,vs,rfl,h1,h2,h3⟩:=r1.dic e1.sub;cases hb;exact .inr (.inr ⟨vs,h1,by rw[h2.isEmpty]⟩)
  |_=>cases hb⟩
end
end L2.Pu
namespace L2.Pu
open PySem PySem.Spec PyProof.Rows
variable {ly:List cK}
inductive aR where
 |nx (ρ:a9)|ret (d:D)|brk (ρ:a9)|cnt (ρ:a9)|retc (d:D) (ρ:a9)
def eJ (K:Dd) (c:cm ly) (F:Hp) (D:jV):aR->Prop
 | .nx ρ=>∀σ' H' F',az F F'->RI K c ρ σ' H' F'->D.nx σ' H'
 | .brk ρ=>∀σ' H' F',az F F'->RI K c ρ σ' H' F'->D.bk σ' H'
 | .cnt ρ=>∀σ' H' F',az F F'->RI K c ρ σ' H' F'->D.ct σ' H'
 | .ret d=>∀v H' F',az F F'->bc c.H0 c.F0 H' F'->ci K F' v d->D.rt v H'
 | .retc d ρ=>∀v σ' H' F',az F F'->RI K c ρ σ' H' F'->ci K F' v d->D.rt v H'
theorem eJ.mono {K:Dd} {c:cm ly} {F F1:Hp} {D:jV} (g:az F F1):∀{o:aR},eJ K c F D o->eJ K c F1 D o
 | .nx ρ,h=>λσ' H' F' s r=>h σ' H' F' (g.trans s) r
 | .brk ρ,h=>λσ' H' F' s r=>h σ' H' F' (g.trans s) r
 | .cnt ρ,h=>λσ' H' F' s r=>h σ' H' F' (g.trans s) r
 | .ret d,h=>λv H' F' s e r=>h v H' F' (g.trans s) e r
 | .retc d ρ,h=>λv σ' H' F' s e r=>h v σ' H' F' (g.trans s) e r
def tS (K:Dd) (c:cm ly) (g:a9->R aR):TS:=λD σ H=>∃F ρ,RI K c ρ σ H F/\aA c (g ρ) (eJ K c F D)
def l9 (ly:List cK) (X:Cx) (st:DJ) (g:a9->R aR):Prop:=∀c:gg ly X,PS X st (tS X.K c.1 g)
def fR (ly:List cK) (X:Cx) (st:List DJ) (g:a9->R aR):Prop:=∀c:gg ly X,nc X st (tS X.K c.1 g)
section
variable {X:Cx} {st:DJ} {rest:List DJ} {a b e:Dn} {es:List Dn} {fa fb f:a9->R D} {fs:a9->R (List D)} {ga gb g g':a9->R aR} {gt:a9->R Bool} {pos:DY}
def aY:a9->R aR:=λρ=> .ok (.nx ρ)
def aC (g g':a9->R aR):a9->R aR:=λρ=>g ρ>>=λo=>match o with
 | .nx ρ'=>g' ρ'
 |o=> .ok o
theorem aW:fR ly X [] aY:=λc=>nc.weak wF λD σ H ⟨F,ρ,ri,w⟩=>w σ H F (az.refl _) ri
theorem ak (h:l9 ly X st g) (hr:fR ly X rest g'):fR ly X (st::rest) (aC g g'):=λc=>nc.weak (uA (h c) (hr c)) λD σ H ⟨F,ρ,ri,w⟩=>by
 refine⟨F,ρ,ri,(aA.bind.mp w).imp λo ho w1=> ?_⟩
 cases o with
 |nx ρ'=>exact λσ' H' F' s r=>⟨F',ρ',r,w1.imp λo' _ k=>k.mono s⟩
 |ret d=>exact w1
 |brk ρ'=>exact w1
 |cnt ρ'=>exact w1
 |retc d ρ'=>exact w1
theorem ao (h:l9 ly X st g):fR ly X [st] g:=λc=>nc.weak (wG (h c)) λD σ H w=>w
def oq (L:List Nat) (g:a9->R aR):a9->R aR:=λρ=>g (frz L ρ)
theorem sj (L:List Nat) (h:l9 ly X st g):l9 ly X st (oq L g):=λc=>PS.weak (h c) λD σ H ⟨F,ρ,ri,w⟩=>by
 obtain⟨F',s,LO⟩:=ri.frz L
 exact⟨F',_,LO,w.imp λo _ k=>k.mono s⟩
def bJ (f:a9->R D):a9->R aR:=λρ=>f ρ>>=λd=> .ok (.ret d)
theorem bu (h:PQ ly X e f):l9 ly X (.Return (some e) pos) (bJ f):=λc=>PS.weak (qv (h c)) λD σ H ⟨F,ρ,ri,w⟩=>
 ⟨F,ρ,ri,(aA.bind.mp w).imp λd _ w1 v H' F' e r=>w1 v H' F' e.grow (ri.ext.trans e) r⟩
def gF (gc:a9->R Bool) (g g':a9->R aR):a9->R aR:=λρ=>gc ρ>>=λb=>if b=true then g ρ else g' ρ
theorem dF {ta tb:List DJ} (hc:v3 ly X e gt) (ha:fR ly X ta g) (hb:fR ly X tb g'):l9 ly X (.If e ta tb pos) (gF gt g g'):=λc=>PS.weak (yd (hc c) (ha c) (hb c)) λD σ H ⟨F,ρ,ri,w⟩=>
 ⟨F,ρ,ri,(aA.bind.mp w).imp λb hb w1 H1 F1 e1=>by
  cases b with
  |true=>exact⟨F1,ρ,ri.step e1,w1.imp λo _ k=>k.mono e1.grow⟩
  |false=>exact⟨F1,ρ,ri.step e1,w1.imp λo _ k=>k.mono e1.grow⟩⟩
def tG (K:Dd) (c:cm ly) (gt:D->a9->R a9):TG:=λv σ H Q=>∃F ρ d,RI K c ρ σ H F/\ci K F v d/\aA c (gt d ρ) λρ'=>∀σ' H' F',az F F'->RI K c ρ' σ' H' F'->Q σ' H'
def Ae (ly:List cK) (X:Cx) (tg:Dn) (gt:D->a9->R a9):Prop:=∀c:gg ly X,PG X tg (tG X.K c.1 gt)
def gN (i:Nat):D->a9->R a9:=λd ρ=> .ok (ρ.set i (some (.val d)))
theorem dm (i:Nat) {x:Df} (hN:X.N.Nodup) (hi:X.N[i]? =some x:=by rfl) (hx:uu X.env.scope x:=by first|exact E6 rfl|exact DW rfl) (hf:X.fn x=true\/X.env.scope.names.lookup x=some .local:=by first|exact .inl rfl|exact .inr rfl|assumption) (LC:iI ly i:=by(repeat (first|assumption|exact L2.Pu.d_|refine L2.Pu.d7 ⟨by first|decide|simp,by first|decide|simp⟩ ?_))):Ae ly X (.Name x pos) (gN i):=
 λc=>PG.weak (rN hN hi hx hf) λv σ H Q ⟨F,ρ,d,ri,r,w⟩=>w _ H F (az.refl _) (ri.setVal i LC r)
def CD:List D->a9->R a9:=λds ρ=>match ds with
 |[]=> .ok ρ
 |_=> .bad
def dn (f:a9->R D) (g:D->a9->R a9):a9->R aR:=λρ=>f ρ>>=λd=>g d ρ>>=λρ'=> .ok (.nx ρ')
theorem fE (i:Nat) {x:Df} {Kk:DY} (hN:X.N.Nodup) (he:PQ ly X e f) (hi:X.N[i]? =some x:=by rfl) (hx:uu X.env.scope x:=by first|exact E6 rfl|exact DW rfl) (hs:Ei e (some (.Name x Kk)) pos.line X.env=pure false:=by rfl)
  (hf:X.fn x=true\/X.env.scope.names.lookup x=some .local:=by first|exact .inl rfl|exact .inr rfl|assumption) (LC:iI ly i:=by(repeat (first|assumption|exact L2.Pu.d_|refine L2.Pu.d7 ⟨by first|decide|simp,by first|decide|simp⟩ ?_))):l9 ly X (.Assign [.Name x Kk] e pos) (dn f (gN i)):=λc=>
 PS.weak (lG hN hi hx (he c) hs hf) λD σ H h=>by
  obtain⟨F,ρ,ri,w⟩:=h
  exact⟨F,ρ,ri,(aA.bind.mp w).imp λd _ w1 v H1 F1 e1 r1=>w1 _ H1 F1 e1.grow ((ri.step e1).setVal i LC r1)⟩
def C_ (i j:Nat) (fs:a9->R (List D)):a9->R aR:=λρ=>fs ρ>>=λds=>match ds with
 |[x,y]=> .ok (.nx ((ρ.set i (some (.val x))).set j (some (.val y))))
 |_=> .bad
def kM (i:Nat) (fs:a9->R (List D)):a9->R aR:=λρ=>fs ρ>>=λds=>if ds.length<=lim then .ok (.nx (ρ.set i (some (.own (.lst ds)))))else .bad
theorem ka (i:Nat) {x:Df} {Kk pl:DY} (hN:X.N.Nodup) (h:qt ly X es fs) (hi:X.N[i]? =some x:=by rfl) (hx:uu X.env.scope x:=by first|exact E6 rfl|exact DW rfl) (hs:Ei (.List es pl) (some (.Name x Kk)) pos.line X.env=pure false:=by rfl)
  (hf:X.fn x=true\/X.env.scope.names.lookup x=some .local:=by first|exact .inl rfl|exact .inr rfl|assumption) (LC:iI ly i:=by(repeat (first|assumption|exact L2.Pu.d_|refine L2.Pu.d7 ⟨by first|decide|simp,by first|decide|simp⟩ ?_))):l9 ly X (.Assign [.Name x Kk] (.List es pl) pos) (kM i fs):=λc=>
 PS.weak (lG hN hi hx (qF (h c)) hs hf) λD σ H ⟨F,ρ,ri,w⟩=>⟨F,ρ,ri,(aA.bind.mp w).imp λds _ w1 vs H1 F1 e1 r1=>by
  split at w1
  ·rename_i hl
   refine⟨E1 (by rw[r1.length];exact hl) gM,λp hp=> ?_⟩
   exact w1 _ _ F1 e1.grow ((ri.step e1).setNew i LC hp (.lst r1))
  ·exact w1.elim⟩
structure tF (K:Dd) (F:Hp) (J:It) (ds:List D):Prop where
 go:∀i H,az F H->i<ds.length->J.go i H
 stop:∀H,az F H->J.stop ds.length H
 yld:∀i H F1 x H',az F F1->az F1 H->J.yld i H x H'->i<ds.length->∃F' d,ds[i]? =some d/\bc H F1 H' F'/\ci K F' x d
def tI (K:Dd) (c:cm ly) (fi:a9->R (List D)):TI:=λσ H Rk=>∃F ρ,RI K c ρ σ H F/\aA c (fi ρ) λds=>∀J H' F',bc H F H' F'->tF K F' J ds->Rk J H'
def Af (ly:List cK) (X:Cx) (tg J_:Dn) (fi:a9->R (List D)):Prop:=∀c:gg ly X,PI X tg J_ (tI X.K c.1 fi)
theorem PI.weak {X:Cx} {tg e:Dn} {t t':TI} (h:PI X tg e t) (w:∀σ H Rk,t' σ H Rk->t σ H Rk):PI X tg e t':=λJD s σ H Rk I q=>h JD s σ H Rk I (w σ H Rk q)
def eY (g:D->a9->R a9) (gb:a9->R aR):List D->a9->R aR
 |[],ρ=> .ok (.nx ρ)
 |d::r,ρ=>g d ρ>>=λρ1=>gb ρ1>>=λo=>match o with
  | .nx ρ2=>eY g gb r ρ2
  | .cnt ρ2=>eY g gb r ρ2
  | .brk ρ2=> .ok (.nx ρ2)
  | .ret d=> .ok (.ret d)
  | .retc d ρ2=> .ok (.retc d ρ2)
def ou (fi:a9->R (List D)) (g:D->a9->R a9) (gb:a9->R aR):a9->R aR:=λρ=>fi ρ>>=λds=>eY g gb ds ρ
theorem qV {g:D->a9->R a9} {gb:a9->R aR} {ds:List D} {i:Nat} {d:D} {ρ:a9} (h:ds[i]? =some d):eY g gb (ds.drop i) ρ=(g d ρ>>=λρ1=>gb ρ1>>=λo=>match o with
  | .nx ρ2=>eY g gb (ds.drop (i+1)) ρ2
  | .cnt ρ2=>eY g gb (ds.drop (i+1)) ρ2
  | .brk ρ2=> .ok (.nx ρ2)
  | .ret d=> .ok (.ret d)
  | .retc d ρ2=> .ok (.retc d ρ2)):=by
 obtain⟨hl,e⟩:=Dy.mp h
 rw[GW hl,e]
 rfl
theorem zy {K:Dd} {c:cm ly} {fi:a9->R (List D)} {g:D->a9->R a9} {D':jV} {σ:St} {H:Hp} (h:tS K c (ou fi g gb) D' σ H):Au (tI K c fi) (tG K c g) (tS K c gb) D' σ H:=by
 obtain⟨F,ρ,ri,w⟩:=h
 refine⟨F,ρ,ri,(aA.bind.mp w).imp λds _ w1 J H1 F1 e1 jo=> ?_⟩
 refine⟨λi m σ H=>∃F2 ρ2,RI K c ρ2 σ H F2/\az F1 F2/\m=ds.length - i/\i<=ds.length/\aA c (eY g gb (ds.drop i) ρ2) (eJ K c F2 D'),⟨_,F1,ρ,ri.step e1,az.refl _,rfl,Ew _,w1.imp λo _ k=>k.mono e1.grow⟩,?_⟩
 rintro i m σ2 H2 ⟨F2,ρ2,Nj,s2,rfl,hi,w2⟩
 by_cases hl:i<ds.length
 ·refine .inr ⟨jo.go i H2 (s2.trans Nj.sub) hl,λσ' H'=>∃F3 ρ3,RI K c ρ3 σ' H' F3/\az F2 F3/\aA c (eY g gb (ds.drop (i+1)) ρ3) (eJ K c F3 D'),?_,λx H3 y=> ?_⟩
  ·rintro σ' H' ⟨F3,ρ3,Nk,s3,w3⟩
   exact⟨ds.length - (i+1),by omega,F3,ρ3,Nk,s2.trans s3,rfl,hl,w3⟩
  ·obtain⟨F3,d,hd,e3,r3⟩:=jo.yld i H2 F2 x H3 s2 Nj.sub y hl
   rw[qV hd]at w2
   refine⟨F3,ρ2,d,Nj.step e3,r3,(aA.bind.mp w2).imp λρ3 _ w3 σ4 H4 F4 s4 r4=>⟨F4,ρ3,r4,(aA.bind.mp w3).imp λo _ w4=> ?_⟩⟩
   have Ot:az F2 F4:=e3.grow.trans s4
   cases o with
   |nx ρ5=>exact λσ' H' F' s' r'=>⟨F',ρ5,r',Ot.trans s',w4.imp λo _ k=>k.mono (Ot.trans s')⟩
   |cnt ρ5=>exact λσ' H' F' s' r'=>⟨F',ρ5,r',Ot.trans s',w4.imp λo _ k=>k.mono (Ot.trans s')⟩
   |brk ρ5=>exact λσ' H' F' s' r'=>w4 σ' H' F' (Ot.trans s') r'
   |ret d=>exact λv H' F' s' e' r'=>w4 v H' F' (Ot.trans s') e' r'
   |retc d ρ5=>exact λv σ' H' F' s' e' r'=>w4 v σ' H' F' (Ot.trans s') e' r'
 ·have e:i=ds.length:=by omega
  subst e
  rw[J0]at w2
  exact .inl ⟨jo.stop H2 (s2.trans Nj.sub),w2 σ2 H2 F2 (az.refl _) Nj⟩
theorem v7 {tg J_:Dn} {body:List DJ} {fi:a9->R (List D)} {g:D->a9->R a9} (hp:PassesOwn (Dx X.prog X.w) X.A X.env X.xe) (hc:X.calm=true) (hi:Af ly X tg J_ fi) (hg:Ae ly X tg g) (hb:fR ly X body gb)
  (hs:∀x,EM J_ X.env x=pure x:=by intro _;rfl):l9 ly X (.For tg J_ body [] pos) (ou fi g gb):=λc=>PS.weak (yR hp hc (hi c) (hg c) (hb c) hs) λD σ H h=>zy h
theorem tH {K:Dd} {F:Hp} {a:Dg} {vs:List V} {ds:List D} (h:F a=some (.lst vs)) (r:Reps K F vs ds):tF K F (Bq K a) ds where
 go:=λi H s hi=>⟨vs,vs[i]'(by rw[r.length];exact hi),dc.of (s _ _ h),by simp[r.length,hi]⟩
 stop:=λH s=>⟨vs,dc.of (s _ _ h),Hc r.length⟩
 yld:=λi H F1 x H' s1 s2 y hi=>by
  obtain⟨rfl,y⟩:=y
  have:=y vs (dc.of (s2 _ _ (s1 _ _ h)))
  obtain⟨d,hd,rd⟩:=r.get' this
  exact⟨F1,d,hd,bc.refl s2,rd.mono s1⟩
theorem v8 {K:Dd} {F:Hp} {a:Dg} {vs:List V} {ds:List D} (h:F a=some (.tup vs)) (r:Reps K F vs ds):tF K F (BU K a) ds where
 go:=λi H s hi=>⟨vs,vs[i]'(by rw[r.length];exact hi),hU.of (s _ _ h),by simp[r.length,hi]⟩
 stop:=λH s=>⟨vs,hU.of (s _ _ h),Hc r.length⟩
 yld:=λi H F1 x H' s1 s2 y hi=>by
  obtain⟨rfl,y⟩:=y
  have:=y vs (hU.of (s2 _ _ (s1 _ _ h)))
  obtain⟨d,hd,rd⟩:=r.get' this
  exact⟨F1,d,hd,bc.refl s2,rd.mono s1⟩
def eB (f:a9->R D):a9->R (List D):=λρ=>f ρ>>=λd=>match d with
 | .lst ds=> .ok ds
 | .tup ds=> .ok ds
 | .scr ns=> .ok (ns.map .int)
 |_=> .bad
theorem v9 {K:Dd} {F:Hp} {a:Dg} {ns:List Int} (h:dc K F a (ns.map V.int)):tF K F (Bq K a) (ns.map .int)where
 go:=λi H s hi=>⟨ns.map V.int,(ns.map V.int)[i]'(by simpa using hi),s.seq h,by simp at hi;simp[hi]⟩
 stop:=λH s=>⟨ns.map V.int,s.seq h,by simp⟩
 yld:=λi H F1 x H' s1 s2 y hi=>by
  obtain⟨rfl,y⟩:=y
  have:=y (ns.map V.int) ((s1.trans s2).seq h)
  rw[DQ]at this
  cases e:ns[i]? with
  |none=>rw[e]at this;cases this
  |some n=>rw[e]at this;cases this;exact⟨F1, .int n,by rw[DQ,e];rfl,bc.refl s2, .int n⟩
theorem i9 {tg:Dn} (h:PQ ly X e f):Af ly X tg e (eB f):=by
 intro c JD s σ H Rk I q
 obtain⟨F,ρ,ri,w⟩:=q
 have w':=aA.bind.mp w
 cases hf:f ρ with
 |bad=>rw[hf]at w';exact w'.elim
 |err er ρe=>
  rw[hf]at w'
  exact o3 (h c) JD s σ H Rk I ⟨F,ρ,ri,by rw[hf];exact w'⟩
 |ok d=>
  rw[hf]at w'
  cases d with
  |lst ds=>exact o3 (h c) JD s σ H Rk I ⟨F,ρ,ri,by
    rw[hf]
    intro v H1 F1 e1 r1
    cases r1 with
    |lst h1 h2=>exact⟨_,rfl,⟨_,dc.of (e1.sub _ _ h1)⟩,w' _ H1 F1 e1 (tH h1 h2)⟩⟩
  |tup ds=>exact yQ (h c) JD s σ H Rk I ⟨F,ρ,ri,by
    rw[hf]
    intro v H1 F1 e1 r1
    cases r1 with
    |tup h1 h2=>exact⟨_,rfl,⟨_,hU.of (e1.sub _ _ h1)⟩,w' _ H1 F1 e1 (v8 h1 h2)⟩⟩
  |scr ns=>exact o3 (h c) JD s σ H Rk I ⟨F,ρ,ri,by
    rw[hf]
    intro v H1 F1 e1 r1
    cases r1 with
    |scr h1=>exact⟨_,rfl,⟨_,e1.sub.seq h1⟩,w' _ H1 F1 e1 (v9 h1)⟩⟩
  |_=>exact w'.elim
def ia (lo hi:Int):List D:=(Eb (hi - lo).toNat).map λk:Nat=>D.int (lo+(k:Int))
theorem qW {K:Dd} {F:Hp} {lo hi:Int}:tF K F (Br lo (hi - lo).toNat) (ia lo hi)where
 go:=λi H s h=>by
  rw[ia,Dl,F8]at h
  exact h
 stop:=λH s=>by show (hi - lo).toNat<=_;rw[ia,Dl,F8];exact DK _
 yld:=λi H F1 x H' s1 s2 y h=>by
  obtain⟨rfl,rfl⟩:=y
  have h':i<(hi - lo).toNat:=by rw[ia,Dl,F8]at h;exact h
  exact⟨F1, .int (lo+i),by rw[ia,DQ,List.getElem?_range h'];rfl,bc.refl s2, .int _⟩
def iA (f:a9->R (List D)):a9->R (List D):=λρ=>f ρ>>=λds=>match ds with
 |[.int j]=>if j.natAbs<=lim then .ok (ia 0 j)else .bad
 |_=> .bad
theorem lv {j:Int} (h:j.natAbs<=lim): -(2 ^62)<=j/\j<2 ^62:=by
 unfold lim at h
 omega
theorem lZ {tg:Dn} {p:DY} (hm:X.mg "range"=none) (ha:qt ly X [a] fs) (hg:Gl X "range":=by rfl) (hs:Di [a] X.env=[(false,DH a X.env)]:=by rfl):Af ly X tg (.Call (.Name "range" p) [a] [] pos) (iA fs):=λc=>
 PI.weak (sU hg hm (ha c) hs) λσ H Rk ⟨F,ρ,ri,w⟩=>⟨F,ρ,ri,(aA.bind.mp w).imp λds _ w1 vs H1 F1 e1 r1=>by
  split at w1
  ·split at w1
   ·rename_i j _ hj
    cases r1.int1
    exact⟨j,rfl,(lv hj).1,(lv hj).2,w1 _ H1 F1 e1 (by simpa using qW (K:=X.K) (F:=F1) (lo:=0) (hi:=j))⟩
   ·exact w1.elim
  ·exact w1.elim⟩
end
def bK (n:Nat) (ds:List D):a9:=ds.map (λd=>some (.val d))++DU (n - ds.length) none
def aQ (k n:Nat) (g:a9->R aR) (ds:List D):R D:=if ds.length=k then g (bK n ds)>>=λo=>match o with
 | .ret d=> .ok d
 | .nx _=> .ok .non
 |_=> .bad else .bad
theorem va {K:Dd} {N:List Df} {H F:Hp} {vs:List V} {ds:List D} {Er:Df->a9->Prop} (s:az F H) (r:Reps K F vs ds):RI K (⟨H,F,λ_=>none,Er,λ_=>none,λ_=>none⟩:cm []) (bK N.length ds) (cF N vs) H F:=by
 have hv:∀(i:Nat) sl,(bK N.length ds)[i]? =some (some sl)->∃d,ds[i]? =some d/\sl= .val d:=λi sl h=>by
  unfold bK at h
  rw[FN]at h
  split at h
  ·rw[DQ]at h
   cases e:ds[i]? with
   |none=>rw[e]at h;cases h
   |some d=>rw[e]at h;simp at h;exact⟨d,rfl,h.symm⟩
  ·rw[ER]at h
   split at h<;>simp at h
 refine⟨bc.refl s,λi d h=> ?_,λi d h=> ?_,λi d h=> ?_,(λb o e=>by cases e),λi j d d' a h=> ?_,?_,(λL h=>by cases h),(λL h=>by cases h),(λ_ _ e=>by cases e), .no λi x JJ f hs h=>(by obtain⟨d,_,z⟩:=hv i _ h;cases z),λL h=>by cases h⟩
 ·obtain⟨d',e,z⟩:=hv i _ h
  cases z
  obtain⟨v,h1,h2⟩:=r.get e
  refine⟨v,?_,h2⟩
  unfold cF
  have hl:i<vs.length:=(Dy.mp h1).1
  rw[EE (by simpa using hl),DQ,h1]
  rfl
 ·obtain⟨d',_,z⟩:=hv i _ h;cases z
 ·obtain⟨d',_,z⟩:=hv i _ h;cases z
 ·obtain⟨d',_,z⟩:=hv i _ h;cases z
 ·simp[bK,cF,r.length]
theorem Bz {P:Dv} {w:DE} {K:Dd} {mg:Df->Option De} {base:DB} {x qual:Df} {st:DJ} {f:Dg} {fd:Eg} {N ps:List Df} {k:Nat} {sp:Sp} (F:rY K x qual st f fd) (S:aw N ps (ac st)) (len:∀vs H Q E,sp vs H Q E->vs.length=ps.length)
  (K2:∀(JK:De) (A:DI) (outer:List EF) (s:Dh) (H:Hp) (vs:List V) (Q:VK) (E:XK),br k (A.deeper (EJ qual (ac st) s.heap.objs.size f JK))->sp vs H Q E->
   ∃t,nc (fA (i6 P w) P w K mg base N qual (ac st) f JK A outer s H E) (aO st) t/\t {nx:=λ_ H'=>Q .non H',rt:=Q} (cF N vs) H):cV P w K mg base (i6 P w) (k+1) f fd ps sp:=by
 obtain⟨oc,od,kV,KW,pm,an,JK,ct,M6,rfl,lk,Lh⟩:=F.ex
 exact yl lk Lh S len λA outer s H vs Q E hr NM=>K2 JK A outer s H vs Q E hr NM
theorem oy {P:Dv} {w:DE} {K:Dd} {mg:Df->Option De} {base:DB} {N:List Df} {qual:Df} {scope:EO} {f:Dg} {cd:De} {A:DI} {outer:List EF} {s0:Dh} {H0:Hp} {E:XK} {c:cm ly}
  (h:∀x ρ,c.Er x ρ->∀cls a H' F' σ,cW K x cls->RI K c ρ σ H' F'->E cls a H'):zu (fA (i6 P w) P w K mg base N qual scope f cd A outer s0 H0 E) c:=
 .inl ⟨i7,λJD σ ρ H F s a cls x I ri fl ec er=>qT I fl (h x ρ er cls (some a) H F σ ec ri)⟩
theorem zA {P:Dv} {w:DE} {K:Dd} {mg:Df->Option De} {base:DB} {x qual:Df} {st:DJ} {f:Dg} {fd:Eg} {N ps:List Df} {k n m:Nat} {g:a9->R aR} (F:rY K x qual st f fd) (S:aw N ps (ac st)) (hn:ps.length=n) (hm:N.length=m)
  (K2:∀(JK:De) (A:DI) (outer:List EF) (s:Dh) (H:Hp) (E:XK),br k (A.deeper (EJ qual (ac st) s.heap.objs.size f JK))->
   fR [] (fA (i6 P w) P w K mg base N qual (ac st) f JK A outer s H E) (aO st) g):cV P w K mg base (i6 P w) (k+1) f fd ps (sh K n (aQ n m g)):=by
 refine Bz F S (λvs H Q E h=>by rw[hn];exact h.1) (λJK A outer s H vs Q E hr h=> ?_)
 obtain⟨hl,Fz,ds,sub,r,w⟩:=h
 refine⟨_,K2 JK A outer s H E hr ⟨⟨H,Fz,λ_=>none,λx _=>∀cls a H' F',cW K x cls->bc H Fz H' F'->E cls a H',λ_=>none,λ_=>none⟩,oy λx ρ er cls a H' F' σ ec ri=>er cls a H' F' ec ri.ext⟩,?_⟩
 refine⟨Fz,bK m ds,by rw[<-hm];exact va sub r,?_⟩
 have hd:ds.length=n:=by rw[<-r.length];exact hl
 unfold aQ at w
 rw[if_pos hd]at w
 cases e:g (bK m ds)with
 |bad=>rw[e]at w;exact w.elim
 |err c ρ=>rw[e]at w;exact w
 |ok o=>
  rw[e]at w
  cases o with
  |ret d=>exact λv H' F' _ e' r'=>w v H' F' e' r'
  |nx ρ=>exact λσ' H' F' _ r'=>w .non H' F' r'.ext .non
  |retc d ρ=>exact w.elim
  |brk ρ=>exact w.elim
  |cnt ρ=>exact w.elim
end L2.Pu
namespace L2.Pu
open PySem PySem.Spec PyProof.Rows
variable {ly:List cK}
def Slot.toBor:Slot->Slot
 | .val d=> .val d
 | .own d=> .bor d
 | .bor d=> .bor d
 | .obj=> .obj
 | .cel .. => .obj
def hE (N:List Df) (names:List (Df×E4)) (ρ:a9):a9:=
 names.map λx=>if x.2= .free then ((N.findIdx? (·==x.1)).bind λi=>(ρ[i]?).join.map Slot.toBor)else none
theorem AZ {K:Dd} {c:cm ly} {ρ:a9} {σ:St} {H F H1 F1:Hp} {N:List Df} {names:List (Df×E4)} {p:Dg} {o:HO} (ri:RI K c ρ σ H F) (e:bc H F H1 F1) (hp:H1 p=none):
  RI K (⟨a_ H1 p o,F1,H1,λ_ _=>False,λ_=>none,λ_=>none⟩:cm []) (hE N names ρ) (lO N names σ) (a_ H1 p o) F1:=by
 have r1:=ri.step e
 have JN:∀(i:Nat) sl,(hE N names ρ)[i]? =some (some sl)->∃(j:Nat) (NW:Slot),ρ[j]? =some (some NW)/\sl=NW.toBor/\∀v,σ[j]? =some (some v)->(lO N names σ)[i]? =some (some v):=λi sl h=>by
  unfold hE at h
  rw[DQ]at h
  cases en:names[i]? with
  |none=>rw[en]at h;cases h
  |some y=>
   rw[en]at h
   simp only[Ft,GO]at h
   by_cases hf:y.2= .free
   ·rw[if_pos hf]at h
    cases ei:N.findIdx? (·==y.1)with
    |none=>rw[ei]at h;cases h
    |some j=>
     rw[ei]at h
     cases e2:ρ[j]? with
     |none=>simp[e2]at h
     |some u=>
      cases u with
      |none=>simp[e2]at h
      |some NW=>
       simp[e2]at h
       refine⟨j,NW,e2,h.symm,λv hv=> ?_⟩
       unfold lO
       rw[DQ,en]
       simp only[Ft,GO]
       rw[if_pos hf,ei]
       show (σ[j]?).join=some v
       rw[hv];rfl
   ·rw[if_neg hf]at h;cases h
 refine⟨bc.refl (r1.sub.trans (bt hp)),λi d h=> ?_,λi d h=> ?_,λi d h=> ?_,bt hp,λi j d d' a h=> ?_,by simp[hE,lO],(λL h=>by cases h),(λL h=>by cases h),(λ_ _ e=>by cases e), .no λi x JJ f hs h=>(by obtain⟨j,sl,h1,h2,h3⟩:=JN i _ h;cases sl<;>cases h2),λL h=>by cases h⟩
 ·obtain⟨j,sl,h1,h2,h3⟩:=JN i _ h
  cases sl with
  |val d'=>cases h2;obtain⟨v,k1,k2⟩:=r1.val j d h1;exact⟨v,h3 v k1,k2⟩
  |own d'=>cases h2
  |bor d'=>cases h2
  |obj=>cases h2
  |cel=>cases h2
 ·obtain⟨j,sl,h1,h2,h3⟩:=JN i _ h;cases sl<;>cases h2
 ·obtain⟨j,sl,h1,h2,h3⟩:=JN i _ h
  cases sl with
  |val d'=>cases h2
  |own d'=>cases h2;obtain⟨a,o,k1,k2,k3,k4,k5⟩:=r1.own j d h1;exact⟨a,o,h3 _ k1,k2,k5⟩
  |bor d'=>cases h2;obtain⟨a,o,k1,k2,k3⟩:=r1.bor j d h1;exact⟨a,o,h3 _ k1,r1.ext.keep _ _ (r1.bh _ _ k2),k3.mono r1.ext.grow⟩
  |obj=>cases h2
  |cel=>cases h2
 ·obtain⟨k,sl,h1,h2,h3⟩:=JN i _ h;cases sl<;>cases h2
theorem RI.bump {K:Dd} {ρ:a9} {σ:St} {H F H1 F1:Hp} {p:Dg} {o o':HO} {Er:Df->a9->Prop} (r:RI K (⟨a_ H1 p o,F1,H1,Er,λ_=>none,λ_=>none⟩:cm []) ρ σ H F) (hp:H1 p=none) (hF:F p=none):
  RI K (⟨a_ H1 p o',F1,H1,Er,λ_=>none,λ_=>none⟩:cm []) ρ σ (a_ H p o') F:=by
 refine⟨⟨λb u e=> ?_,λb u e=> ?_,r.ext.grow,λb e=> ?_⟩,r.val,λi d h=> ?_,r.bor,bt hp,r.dis,r.len,(λL h=>by cases h),(λL h=>by cases h),(λ_ _ e=>by cases e),⟨λi x JJ f hs h=> ?_,r.cel.one⟩,λL h=>by cases h⟩
 ·rw[ai (λz=>by rw[z,hF]at e;cases e)];exact r.sub b u e
 ·change a_ H1 p o' b=some u at e
  by_cases z:b=p
  ·subst z;rw[ar]at e ⊢;exact e
  ·rw[ai z]at e ⊢;exact r.ext.keep b u (by show a_ H1 p o b=some u;rw[ai z];exact e)
 ·by_cases z:b=p
  ·subst z;exact absurd hF e
  ·rcases r.ext.new b e with q|q
   ·exact .inl q
   ·refine .inr ?_
    change a_ H1 p o b=none at q
    show a_ H1 p o' b=none
    rw[ai z]at q ⊢;exact q
 ·obtain⟨a,u,h1,h2,h3,h4,h5⟩:=r.own i d h
  change a_ H1 p o a=none at h4
  have z:a≠p:=λz=>by subst z;rw[ar]at h4;cases h4
  refine⟨a,u,h1,by rw[ai z];exact h2,h3,?_,h5⟩
  show a_ H1 p o' a=none
  rw[ai z]at h4 ⊢;exact h4
 ·obtain⟨a,dx,b,h1,h2,h3⟩:=r.cel.ex i x JJ f hs h
  obtain⟨C,fs,vs,us,g1,g2,g3,g4,g5⟩:=h2.ex
  have JN:∀{z:Dg},a_ H1 p o z=none->z≠p/\a_ H1 p o' z=none:=λ{z} e=>by
   have n:z≠p:=λq=>by subst q;rw[ar]at e;cases e
   exact⟨n,by rw[ai n]at e ⊢;exact e⟩
  obtain⟨na,ea⟩:=JN h2.za
  obtain⟨nd,ed⟩:=JN h2.zd
  obtain⟨nb,eb⟩:=JN h2.zb
  exact⟨a,dx,b,h1,⟨⟨C,fs,vs,us,by rw[ai na];exact g1,g2,g3,by rw[ai nb];exact g4,g5⟩,by rw[ai nd];exact h2.own,h2.fa,h2.fd,h2.fb,ea,ed,eb⟩,h3⟩
def ib (g:D->a9->R a9) (gt:a9->R Bool) (fe:a9->R D):List D->a9->R (List D)
 |[],_=> .ok []
 |d::r,τ=>g d τ>>=λτ1=>gt τ1>>=λb=>if b=true then (fe τ1>>=λy=>ib g gt fe r τ1>>=λys=> .ok (y::ys))else ib g gt fe r τ1
def CF (K:Dd) (g:D->a9->R a9):TG:=λv σ H Q=>∃c:cm [],(∀e ρ,¬c.Er e ρ)/\tG K c g v σ H Q
def CG (K:Dd) (g:a9->R Bool):TT:=λσ H Q=>∃c:cm [],(∀e ρ,¬c.Er e ρ)/\tT K c g σ H Q
def CH (K:Dd) (g:a9->R D):TE:=λσ H Q=>∃c:cm [],(∀e ρ,¬c.Er e ρ)/\tQ K c g σ H Q
def vb (ly:List cK) (X:Cx) (Lv:List Dn) (gt:a9->R Bool):Prop:=∀c:gg ly X,zm X Lv (tT X.K c.1 gt)
def ic:a9->R Bool:=λ_=> .ok true
theorem eZ {X:Cx}:vb ly X [] ic:=λc JD s σ H Q I q=>by
 obtain⟨F,ρ,ri,w⟩:=q
 exact xc JD s σ H Q I (w H F (bc.refl ri.sub))
theorem lw {α β:Type} {r:R α} {f:α->R β} {b:β} (h:(r>>=f)= .ok b):∃a,r= .ok a/\f a= .ok b:=by
 cases r with
 |ok a=>exact⟨a,rfl,h⟩
 |err c ρ=>cases h
 |bad=>cases h
theorem j3 {K:Dd} {c:cm ly} {ρ:a9} {σ:St} {H F H1 F1:Hp} {N:List Df} {names:List (Df×E4)} {p:Dg} {g:D->a9->R a9} {gt:a9->R Bool} {fe:a9->R D} {J:It} {ds es:List D} {Q:Hp->Prop}
  (ri:RI K c ρ σ H F) (e:bc H F H1 F1) (jo:tF K F1 J ds) (hp:H1 p=none) (hl:ds.length<=lim) (he:ib g gt fe ds (hE N names ρ)= .ok es)
  (k:∀H2 F2 vs,bc H1 F1 H2 F2->H2 p=some (.lst vs)->F2 p=none->Reps K F2 vs es->Q H2):
  lP J (CF K g) (CG K gt) (CH K fe) p (lO N names σ) Q (a_ H1 p (.lst [])):=by
 have s1:az F1 H1:=e.sub
 have f1:F1 p=none:=s1.free hp
 refine⟨λi m ys τ H=>∃F ρ' pre rest,RI K (⟨a_ H1 p (.lst ys),F1,H1,λ_ _=>False,λ_=>none,λ_=>none⟩:cm []) ρ' τ H F/\Reps K F ys pre/\pre.length<=i/\m=ds.length - i/\i<=ds.length/\ib g gt fe (ds.drop i) ρ'= .ok rest/\pre++rest=es,
  ⟨_,F1,_,[],es,AZ ri e hp, .nil,DK _,rfl,Ew _,he,rfl⟩,?_⟩
 rintro i m ys τ H2 ⟨F2,ρ',pre,rest,r2,rp,Tt,rfl,hi,hc,PK⟩
 have Sa:F2 p=none:=by
  cases q:F2 p with
  |none=>rfl
  |some u=>
   rcases r2.ext.new p (by rw[q];simp)with z|z
   ·exact absurd f1 z
   ·change a_ H1 p (.lst ys) p=none at z;rw[ar]at z;cases z
 have hD:∀{ρ' τ H F},RI K (⟨a_ H1 p (.lst ys),F1,H1,λ_ _=>False,λ_=>none,λ_=>none⟩:cm []) ρ' τ H F->H p=some (.lst ys):=λr=>r.ext.keep p _ ar
 refine⟨hD r2,?_⟩
 by_cases MX:i<ds.length
 ·refine .inr ⟨jo.go i H2 (r2.ext.grow.trans r2.sub) MX,?_,λx H3 y=> ?_⟩
  ·have:=rp.length
   have:=gM
   omega
  ·obtain⟨F3,d,hd,e3,r3⟩:=jo.yld i H2 F2 x H3 r2.ext.grow r2.sub y MX
   obtain⟨Na,ed⟩:=Dy.mp hd
   rw[GW Na,ed]at hc
   obtain⟨τ1,h1,hc⟩:=lw (r:=g d ρ') hc
   obtain⟨b,h2,hc⟩:=lw (r:=gt τ1) hc
   refine⟨_,λe ρ h=>h,F3,ρ',d,r2.step e3,r3,?_⟩
   rw[h1]
   intro τ4 H4 F4 s4 r4
   refine⟨_,λe ρ h=>h,F4,τ1,r4,?_⟩
   rw[h2]
   intro H5 F5 e5
   cases b with
   |false=>
    exact⟨ds.length - (i+1),by omega,F5,τ1,pre,rest,r4.step e5,(rp.mono e3.grow).mono (s4.trans e5.grow),by omega,rfl,MX,hc,PK⟩
   |true=>
    rw[if_pos rfl]at hc ⊢
    obtain⟨y',h3,hc⟩:=lw (r:=fe τ1) hc
    obtain⟨Sb,h4,hc⟩:=lw (r:=ib g gt fe (ds.drop (i+1)) τ1) hc
    cases hc
    refine⟨_,λe ρ h=>h,F5,τ1,r4.step e5,?_⟩
    rw[h3]
    intro v H6 F6 e6 r6
    have QC:=(r4.step e5).step e6
    refine⟨hD QC,ds.length - (i+1),by omega,F6,τ1,pre++[y'],Sb,QC.bump hp ?_,(((rp.mono e3.grow).mono (s4.trans e5.grow)).mono e6.grow).append (.cons r6 .nil),by simp;omega,rfl,MX,h4,by rw[<-PK];simp⟩
    cases q:F6 p with
    |none=>rfl
    |some u=>
     rcases QC.ext.new p (by rw[q];simp)with z|z
     ·exact absurd f1 z
     ·change a_ H1 p (.lst ys) p=none at z;rw[ar]at z;cases z
 ·have ei:i=ds.length:=by omega
  subst ei
  rw[J0]at hc
  cases hc
  rw[Ed]at PK
  subst PK
  refine .inl ⟨jo.stop H2 (r2.ext.grow.trans r2.sub),k H2 F2 ys ⟨r2.sub,(bt hp).trans r2.ext.keep,r2.ext.grow,λa ha=> ?_⟩ (hD r2) Sa rp⟩
  rcases r2.ext.new a ha with z|z
  ·exact .inl z
  ·refine .inr ?_
   change a_ H1 p (.lst ys) a=none at z
   rw[ai (λq=>by subst q;rw[ar]at z;cases z)]at z
   exact z
section
variable {X:Cx} {LK tg J_:Dn} {Lv:List Dn} {scope:EO} {pos:DY} {fi:a9->R (List D)} {g:D->a9->R a9} {gt:a9->R Bool} {fe:a9->R D}
def cN (N:List Df) (names:List (Df×E4)) (fi:a9->R (List D)) (g:D->a9->R a9) (gt:a9->R Bool) (fe:a9->R D):a9->R (List D):=λρ=>fi ρ>>=λds=>if ds.length<=lim then (match ib g gt fe ds (hE N names ρ)with
 | .ok es=> .ok es
 |_=> .bad)else .bad
def fL (f:a9->R (List D)):a9->R D:=λρ=>f ρ>>=λds=> .ok (.lst ds)
theorem Cj {X:Cx} (h:Ae [] X tg g):PG X tg (CF X.K g):=λJD s σ H v u Q I r ⟨c,hn,q⟩=>h ⟨c, .no hn⟩ JD s σ H v u Q I r q
theorem Ck {X:Cx} (h:vb [] X Lv gt):zm X Lv (CG X.K gt):=λJD s σ H Q I ⟨c,hn,q⟩=>h ⟨c, .no hn⟩ JD s σ H Q I q
theorem Cm {X:Cx} (h:PQ [] X LK fe):PE X LK (CH X.K fe):=λJD s σ H Q I ⟨c,hn,q⟩=>h ⟨c, .no hn⟩ JD s σ H Q I q
theorem ie (S:aU X scope) (hc:X.calm=true) (hi:Af ly X tg J_ fi) (hg:∀s H ex,Ae [] (bU X scope s H ex) tg g) (Nc:∀s H ex,vb [] (bU X scope s H ex) Lv gt) (N8:∀s H ex,PQ [] (bU X scope s H ex) LK fe)
  (hs:∀x,EM J_ X.env x=pure x:=by intro _;rfl):PQ ly X (.ListComp LK [⟨tg,J_,Lv,0⟩] scope pos) (fL (cN X.N scope.names fi g gt fe)):=λc=>
 PE.weak (sd S hc (hi c) (λs H ex=>Cj (hg s H ex)) (λs H ex=>Ck (Nc s H ex)) (λs H ex=>Cm (N8 s H ex)) hs) λσ H Q ⟨F,ρ,ri,w⟩=>by
  refine⟨F,ρ,ri,(aA.bind.mp (aA.bind.mp w)).imp λds _ w1 J H1 F1 e1 jo p hp=> ?_⟩
  split at w1
  ·rename_i hl
   split at w1
   ·rename_i es he
    refine j3 ri e1 jo hp hl he λH2 F2 vs e2 O1 Pe rv=> ?_
    have g2:az F2 (a_ F2 p (.lst vs)):=bt Pe
    refine w1 (.ref p) H2 (a_ F2 p (.lst vs)) ⟨λb u eb=> ?_,e1.keep.trans e2.keep,(e1.grow.trans e2.grow).trans g2,λa ha=> ?_⟩ (.lst ar (rv.mono g2))
    ·by_cases z:b=p
     ·subst z;rw[ar]at eb;rw[O1];exact eb
     ·rw[ai z]at eb;exact e2.sub b u eb
    ·by_cases z:a=p
     ·subst z;exact .inr (e1.keep.free hp)
     ·rw[ai z]at ha
      exact(e1.trans e2).new a ha
   ·exact w1.elim
  ·exact w1.elim
def mU (i:Nat) (f:a9->R (List D)):a9->R aR:=λρ=>f ρ>>=λds=> .ok (.nx (ρ.set i (some (.own (.lst ds)))))
theorem zB (i:Nat) {y:Df} {py Lw:DY} (S:aU X scope) (hc:X.calm=true) (hN:X.N.Nodup) (hi:Af ly X tg J_ fi) (hg:∀s H ex,Ae [] (bU X scope s H ex) tg g) (Nc:∀s H ex,vb [] (bU X scope s H ex) Lv gt) (N8:∀s H ex,PQ [] (bU X scope s H ex) LK fe)
  (N7:X.N[i]? =some y:=by rfl) (hx:uu X.env.scope y:=by first|exact E6 rfl|exact DW rfl) (hf:X.fn y=true\/X.env.scope.names.lookup y=some .local:=by first|exact .inl rfl|exact .inr rfl|assumption)
  (Nf:Ei (.ListComp LK [⟨tg,J_,Lv,0⟩] scope pos) (some (.Name y py)) Lw.line X.env=pure true:=by rfl) (hs:∀x,EM J_ X.env x=pure x:=by intro _;rfl) (LC:iI ly i:=by(repeat (first|assumption|exact L2.Pu.d_|refine L2.Pu.d7 ⟨by first|decide|simp,by first|decide|simp⟩ ?_))):
  l9 ly X (.Assign [.Name y py] (.ListComp LK [⟨tg,J_,Lv,0⟩] scope pos) Lw) (mU i (cN X.N scope.names fi g gt fe)):=λc=>
 PS.weak (xg S hc (hi c) (λs H ex=>Cj (hg s H ex)) (λs H ex=>Ck (Nc s H ex)) (λs H ex=>Cm (N8 s H ex)) (rN hN N7 hx hf) Nf hs) λD σ H ⟨F,ρ,ri,w⟩=>by
  refine⟨F,ρ,ri,(aA.bind.mp (aA.bind.mp w)).imp λds _ w1 J H1 F1 e1 jo p hp=> ?_⟩
  split at w1
  ·rename_i hl
   split at w1
   ·rename_i es he
    refine j3 ri e1 jo hp hl he λH2 F2 vs e2 O1 Pe rv=> ?_
    refine w1 _ H2 F2 (e1.grow.trans e2.grow) ((ri.step (e1.trans e2)).setOwn i LC O1 Pe (ri.ext.keep.free (e1.keep.free hp)) (.lst rv) (λj d' _ hj ej=> ?_) (ri.celNe (e1.trans e2).keep (e1.keep.free hp)))
    obtain⟨a,o,k1,k2,_⟩:=ri.own j d' hj
    rw[ej]at k1
    cases k1
    rw[e1.keep.free hp]at k2
    cases k2
   ·exact w1.elim
  ·exact w1.elim
end
def jt:D->Option bR
 | .int i=>some (.inl i)
 | .str x=>some (.inr x)
 |_=>none
def ig (LD:List (bR×D)) (k:bR):Option D:=(LD.find? λkv=>decide (kv.1=k)).map (·.2)
theorem kb {K:Dd} {H F:Hp} {v:V} {d:D} {k:bR} (h:jt d=some k) (r:bV K H F v d):v=kV k:=by
 cases d with
 |int i=>cases h;exact r.int
 |str x=>cases h;exact r.str
 |_=>cases h
section
variable {K:Dd} {F:Hp}
theorem RepK.any (k:bR):∀{vs:List (bR×V)} {ds:List (bR×D)},RepK K F vs ds->(vs.any λkv=>decide (kv.1=k))=ds.any λkv=>decide (kv.1=k):=by
 intro vs ds
 induction ds generalizing vs with
 |nil=>intro h;rw[h.nilI];rfl
 |cons d ds ih=>
  intro h
  obtain⟨v,us,rfl,_,t⟩:=RepK.consI (k:=d.1) (d:=d.2) h
  rw[ED,ED,ih t]
theorem RepK.get (k:bR):∀{vs:List (bR×V)} {ds:List (bR×D)},RepK K F vs ds->(hV vs k=none/\ig ds k=none)\/∃v d,hV vs k=some v/\ig ds k=some d/\ci K F v d:=by
 intro vs ds
 induction ds generalizing vs with
 |nil=>intro h;rw[h.nilI];exact .inl ⟨rfl,rfl⟩
 |cons d ds ih=>
  intro h
  obtain⟨a,d⟩:=d
  obtain⟨v,vs,rfl,r,t⟩:=h.consI
  by_cases e:a=k
  ·exact .inr ⟨v,d,by simp[hV,e],by simp[ig,e],r⟩
  ·have h1:hV ((a,v)::vs) k=hV vs k:=by simp[hV,e]
   have h2:ig ((a,d)::ds) k=ig ds k:=by simp[ig,e]
   rw[h1,h2]
   exact ih t
theorem RepK.append:∀{vs us:List (bR×V)} {ds es:List (bR×D)},RepK K F vs ds->RepK K F us es->RepK K F (vs++us) (ds++es):=by
 intro vs us ds
 induction ds generalizing vs with
 |nil=>intro es h g;rw[h.nilI];exact g
 |cons x ds ih=>
  intro es h g
  obtain⟨a,x⟩:=x
  obtain⟨y,vs,rfl,r,t⟩:=h.consI
  exact .cons r (ih t g)
end
section
variable {X:Cx} {a b e:Dn} {es:List Dn} {fa fb f fk fv:a9->R D} {fs:a9->R (List D)} {pos:DY}
def Cn (i:Nat) (f:a9->R D):a9->R aR:=λρ=>match ρ[i]? with
 |some (some (.own (.lst ds)))=>f ρ>>=λd=>if ds.length<lim then .ok (.nx (ρ.set i (some (.own (.lst (ds++[d]))))))else .bad
 |_=> .bad
end
end L2.Pu
namespace L2.Pu
open PySem PySem.Spec PyProof.Rows
variable {ly:List cK}
section
variable {K:Dd}
def pN (i j:Int):Prop:=i.natAbs<18446744073709551616\/j.natAbs<18446744073709551616
def qX (_ j:Int):Prop:=0<j/\j.natAbs<1073741824
def pO (i j:Int):Prop:=0<=j/\j.natAbs<=1000000/\i.natAbs<18446744073709551616
instance (i j:Int):Decidable (pN i j):=by unfold pN;infer_instance
instance (i j:Int):Decidable (qX i j):=by unfold qX;infer_instance
instance (i j:Int):Decidable (pO i j):=by unfold pO;infer_instance
theorem pN.c {i j:Int} (h:pN i j):sX i j:=by
 unfold pN at h
 unfold sX
 omega
theorem qX.c {i j:Int} (h:qX i j):wH i j:=by
 unfold qX at h
 unfold wH
 omega
theorem pO.c {i j:Int} (h:pO i j):wI i j:=by
 unfold pO at h
 unfold wI
 omega
def fS:D->D->Option D
 | .int i, .int j=>some (.int (i+j))
 | .lst a, .lst b=>if a.length+b.length<=lim then some (.lst (a++b))else none
 | .tup a, .tup b=>if a.length+b.length<=lim then some (.tup (a++b))else none
 |_,_=>none
def yt (K:Dd):R2:=λx y H Q=>(sW (λi j=> .int (i+j)) x y H Q\/AH x y H Q)\/(ym K x y H Q\/yq K x y H Q)
theorem bW {X:Cx}:i0 X (EI .Add) (yt X.K):=(yU.or zh).or (wU.or xl)
theorem bX:gi K (yt K) fS:=by
 intro v u x y d H F Q s rx ry h k
 unfold fS at h
 split at h
 ·cases rx.int;cases ry.int;cases h;exact .inl (.inl ⟨_,_,rfl,rfl,k _ H F (bc.refl s) (.int _)⟩)
 ·rename_i a b
  split at h
  ·rename_i hl
   cases h
   obtain⟨p,vs,rfl,h1,h2⟩:=rx.lst s
   obtain⟨q,us,rfl,h3,h4⟩:=ry.lst s
   refine .inl (.inr ⟨p,q,vs,us,rfl,rfl,h1,h3,E1 (by rw[h2.length,h4.length];exact hl) gM,λl Na=> ?_⟩)
   have e:=bc.lay (o:= .lst (vs++us)) s Na
   exact k _ _ _ e (.lst ar ((h2.append h4).mono e.grow))
  ·cases h
 ·rename_i a b
  split at h
  ·rename_i hl
   cases h
   obtain⟨p,vs,rfl,h1,h2⟩:=rx.tup s
   obtain⟨q,us,rfl,h3,h4⟩:=ry.tup s
   cases a with
   |nil=>
    cases h2
    refine .inr (.inr ⟨p,q,us,rfl,rfl,hU.of h1,hU.of h3,?_⟩)
    match ry with
    | .inl ry=>exact k _ H F (bc.refl s) ry
   |cons a0 a1=>
    refine .inr (.inl ⟨p,q,vs,us,rfl,rfl,hU.of h1,hU.of h3,(λz=>by subst z;cases h2),E1 (by rw[h2.length,h4.length];exact hl) gM,λz=> ?_,λ_ l Na=> ?_⟩)
    ·subst z
     cases h4
     rw[Ed]at k
     match rx with
     | .inl rx=>exact k _ H F (bc.refl s) rx
    ·have e:=bc.lay (o:= .tup (vs++us)) s Na
     exact k _ _ _ e (.tup ar ((h2.append h4).mono e.grow))
  ·cases h
 ·cases h
def Ag (g:Int->Int->D):D->D->Option D
 | .int i, .int j=>some (g i j)
 |_,_=>none
def xr (C:Int->Int->Prop) [∀i j,Decidable (C i j)] (g:Int->Int->D):D->D->Option D
 | .int i, .int j=>if C i j then some (g i j)else none
 |_,_=>none
theorem oz {gv:Int->Int->V} {g:Int->Int->D} (hg:∀F i j,ci K F (gv i j) (g i j)):gi K (sW gv) (Ag g):=by
 intro v u x y d H F Q s rx ry h k
 cases x with
 |int i=>
  cases y with
  |int j=>cases rx.int;cases ry.int;cases h;exact⟨i,j,rfl,rfl,k _ H F (bc.refl s) (hg F i j)⟩
  |_=>cases h
 |_=>cases h
theorem qY {C C':Int->Int->Prop} [∀i j,Decidable (C i j)] {gv:Int->Int->V} {g:Int->Int->D} (hC:∀i j,C i j->C' i j) (hg:∀F i j,ci K F (gv i j) (g i j)):gi K (rI C' gv) (xr C g):=by
 intro v u x y d H F Q s rx ry h k
 cases x with
 |int i=>
  cases y with
  |int j=>
   cases rx.int;cases ry.int
   replace h:(if C i j then some (g i j)else none)=some d:=h
   split at h
   ·cases h;exact⟨i,j,rfl,rfl,hC i j (by assumption),k _ H F (bc.refl s) (hg F i j)⟩
   ·cases h
  |_=>cases h
 |_=>cases h
def vc:=Ag λi j=> .int (i - j)
def ve:=xr qX λi j=> .int (i / j)
def kd:=xr (λ_ j=>0<j) λi j=> .int (i%j)
def vf:=xr pO λi j=> .int (i ^j.toNat)
def wz:=Ag λi j=> .bl (decide (i<j))
def D0:=Ag λi j=> .bl (decide (i<=j))
def xt:=Ag λi j=> .bl (decide (j<i))
def zC:=Ag λi j=> .bl (decide (j<=i))
theorem oA:gi K (sW λi j=> .int (i - j)) vc:=oz λF i j=> .int _
theorem vg:gi K (rI wH λi j=> .int (i / j)) ve:=qY (λ_ _ h=>h.c) λF i j=> .int _
theorem fF:gi K (rI (λ_ j=>0<j) λi j=> .int (i%j)) kd:=qY (λ_ _ h=>h) λF i j=> .int _
theorem sk:gi K (rI wI λi j=> .int (i ^j.toNat)) vf:=qY (λ_ _ h=>h.c) λF i j=> .int _
theorem l_:gi K (sW λi j=> .bl (decide (i<j))) wz:=oz λF i j=> .bl _
theorem oB:gi K (sW λi j=> .bl (decide (j<i))) xt:=oz λF i j=> .bl _
theorem qZ:gi K (sW λi j=> .bl (decide (j<=i))) zC:=oz λF i j=> .bl _
def xu:D->D->Option D
 | .int i, .int j=>if pN i j then some (.int (i*j))else none
 | .lst a, .int k=>if k.natAbs<=lim/\a.length*k.toNat<=lim then some (.lst (DU k.toNat a).flatten)else none
 |_,_=>none
def yu:R2:=λx y H Q=>rI sX (λi j=> .int (i*j)) x y H Q\/AI x y H Q
theorem xv {X:Cx}:i0 X (EI .Mult) yu:=yV.or zi
theorem Reps.rep {F:Hp} {vs:List V} {ds:List D} (h:Reps K F vs ds):∀k:Nat,Reps K F (DU k vs).flatten (DU k ds).flatten
 |0=> .nil
 |k+1=>by
  rw[EA,EA,F7,F7]
  exact h.append (h.rep k)
theorem xw:gi K yu xu:=by
 intro v u x y d H F Q s rx ry h k
 unfold xu at h
 split at h
 ·rename_i i j
  cases rx.int;cases ry.int
  replace h:(if pN i j then some (D.int (i*j))else none)=some d:=h
  split at h
  ·rename_i hb;cases h;exact .inl ⟨i,j,rfl,rfl,pN.c hb,k _ H F (bc.refl s) (.int _)⟩
  ·cases h
 ·rename_i a j
  split at h
  ·rename_i hl
   cases h
   cases ry.int
   obtain⟨p,vs,rfl,h1,h2⟩:=rx.lst s
   refine .inr ⟨p,j,vs,rfl,rfl,h1,by have:=lv hl.1;omega,by have:=lv hl.1;omega,E1 (by rw[h2.length];exact hl.2) gM,λl Na=> ?_⟩
   have e:=bc.lay (o:= .lst (DU j.toNat vs).flatten) s Na
   exact k _ _ _ e (.lst ar ((h2.rep _).mono e.grow))
  ·cases h
 ·cases h
def xx:D->Option D
 | .int i=>some (.int (-i))
 |_=>none
theorem sm:AW K (rU λi=> .int (-i)) xx:=by
 intro v x d H F Q s rx h k
 cases x with
 |int i=>cases rx.int;cases h;exact⟨i,rfl,k _ H F (bc.refl s) (.int _)⟩
 |_=>cases h
def q_:D->D->Option Bool
 | .non, .non=>some true
 | .non, .int _=>some false
 | .int _, .non=>some false
 | .non, .bl _=>some false
 | .bl _, .non=>some false
 | .non, .str _=>some false
 | .str _, .non=>some false
 | .int i, .int j=>some (decide (i=j))
 | .bl i, .bl j=>some (decide (i=j))
 | .str i, .str j=>some (decide (i=j))
 | .int _, .str _=>some false
 | .str _, .int _=>some false
 | .bl _, .str _=>some false
 | .str _, .bl _=>some false
 |_,_=>none
def oE (x y:D):Option D:=(q_ x y).map .bl
def A_ (x y:D):Option D:=(q_ x y).map λb=> .bl (!b)
theorem nF {H F:Hp} {v u:V} {x y:D} {b:Bool} (rx:bV K H F v x) (ry:bV K H F u y) (h:q_ x y=some b):yW v u=true/\decide (v=u)=b:=by
 cases x<;>cases y<;>first
  |(exfalso;revert h;simp[q_];done)
  |(first|cases rx.int|cases rx.bl|cases rx.str|cases rx.non)<;>(first|cases ry.int|cases ry.bl|cases ry.str|cases ry.non)<;>(refine⟨rfl,?_⟩;simp[q_]at h ⊢;try exact h)
theorem e_:gi K Bv oE:=by
 intro v u x y d H F Q s rx ry h k
 unfold oE at h
 cases e:q_ x y with
 |none=>rw[e]at h;cases h
 |some b=>
  rw[e]at h
  cases h
  obtain⟨h1,h2⟩:=nF rx ry e
  exact⟨h1,by rw[h2];exact k _ H F (bc.refl s) (.bl b)⟩
theorem vh:gi K CA A_:=by
 intro v u x y d H F Q s rx ry h k
 unfold A_ at h
 cases e:q_ x y with
 |none=>rw[e]at h;cases h
 |some b=>
  rw[e]at h
  cases h
  obtain⟨h1,h2⟩:=nF rx ry e
  exact⟨h1,by rw[h2];exact k _ H F (bc.refl s) (.bl _)⟩
def B0:D->D->Option D
 | .non, .non=>some (.bl true)
 | .scr _, .non=>none
 |_, .non=>some (.bl false)
 |_,_=>none
def yv:D->Bool
 | .non=>true
 |_=>false
theorem Co {x y d:D} (h:B0 x y=some d):y= .non/\d= .bl (yv x):=by
 unfold B0 at h
 split at h
 ·cases h;exact⟨rfl,rfl⟩
 ·cases h
 ·rename_i n1 _
  cases h
  refine⟨rfl,?_⟩
  unfold yv
  split
  ·exact absurd rfl n1
  ·rfl
 ·cases h
def f6:D->Bool
 | .non=>true
 | .bl _=>true
 | .int _=>true
 | .str _=>true
 |_=>false
def Ah:D->D->Bool
 | .non, .non=>true
 | .bl a, .bl b=>a==b
 | .bl a, .int b=>(if a then 1 else 0)==b
 | .int a, .bl b=>a==(if b then 1 else 0)
 | .int a, .int b=>a==b
 | .str a, .str b=>a==b
 |_,_=>false
theorem pP {F:Hp} {v:V} {d:D} (r:ci K F v d) (h:f6 d=true):dE v=true:=by
 cases r<;>first|rfl|cases h
theorem vi {F:Hp} {v u:V} {x y:D} (r:ci K F v x) (q:ci K F u y) (hx:f6 x=true) (hy:f6 y=true):t6 v u=Ah x y:=by
 cases r<;>first|(cases hx;done)|(cases q<;>first|rfl|(cases hy;done))
theorem Reps.flat {F:Hp}:∀{vs:List V} {ds:List D},Reps K F vs ds->ds.all f6=true->vs.all dE=true:=by
 intro vs ds
 induction ds generalizing vs with
 |nil=>intro h _;rw[h.nilI];rfl
 |cons d ds ih=>
  intro g h
  obtain⟨v,us,rfl,r,t⟩:=g.consI
  rw[EC,Eu]at h
  rw[EC,pP r h.1,ih t h.2];rfl
theorem Reps.inV {F:Hp} {v:V} {x:D} (rx:ci K F v x) (hx:f6 x=true) {vs:List V} {ds:List D} (g:Reps K F vs ds):ds.all f6=true->L2.inV v vs=ds.any λy=>Ah y x:=by
 induction ds generalizing vs with
 |nil=>intro _;rw[g.nilI];rfl
 |cons d ds ih=>
  intro h
  obtain⟨w,us,e0,r,t⟩:=g.consI
  rw[EC,Eu]at h
  have:=ih t h.2
  rw[e0]
  unfold L2.inV at this ⊢
  rw[ED,ED,vi r rx h.1 hx,this]
def Ai (LN:Bool) (x:D) (ds:List D):Option D:=if f6 x=true/\ds.all f6=true then some (.bl (if LN then !(ds.any λy=>Ah y x)else ds.any λy=>Ah y x))else none
def r0 (LN:Bool):D->D->Option D
 |x, .lst ds=>Ai LN x ds
 |x, .tup ds=>Ai LN x ds
 |_,_=>none
theorem pQ {H F:Hp} {LN:Bool} {v:V} {x d:D} {ds:List D} (rx:bV K H F v x) (h:Ai LN x ds=some d) {vs:List V} (rv:Reps K F vs ds):
  dE v=true/\vs.all dE=true/\d= .bl (if LN then !L2.inV v vs else L2.inV v vs):=by
 unfold Ai at h
 split at h
 ·rename_i hf
  cases h
  have Rt:ci K F v x:=by
   rcases rx with rx|⟨a,o,rfl,_,q⟩
   ·exact rx
   ·cases q<;>cases hf.1
  exact⟨pP Rt hf.1,rv.flat hf.2,by rw[rv.inV Rt hf.1 hf.2]⟩
 ·cases h
theorem nG {LN:Bool}:gi K (C4 K LN) (r0 LN):=by
 intro v u x y d H F Q s rx ry h k
 cases y with
 |lst ds=>
  obtain⟨a,vs,rfl,h1,h2⟩:=ry.lst s
  obtain⟨g1,g2,rfl⟩:=pQ rx h h2
  exact⟨a,vs,rfl, .inl (dc.of h1),g1,g2,k _ H F (bc.refl s) (.bl _)⟩
 |tup ds=>
  obtain⟨a,vs,rfl,h1,h2⟩:=ry.tup s
  obtain⟨g1,g2,rfl⟩:=pQ rx h h2
  exact⟨a,vs,rfl, .inr (hU.of h1),g1,g2,k _ H F (bc.refl s) (.bl _)⟩
 |_=>cases h
def oF (LN:Bool):D->D->Option D
 |x, .dic LD=>(jt x).map λk=> .bl (if LN then !(ig LD k).isSome else (ig LD k).isSome)
 |_,_=>none
def la (LN:Bool) (x y:D):Option D:=match y with
 | .dic _=>oF LN x y
 |_=>r0 LN x y
theorem RepK.look {F:Hp} {vs:List (bR×V)} {ds:List (bR×D)} (r:RepK K F vs ds) (k:bR):(hV vs k).isSome=(ig ds k).isSome:=by
 rcases r.get k with ⟨h1,h2⟩|⟨v,d,h1,h2,_⟩<;>rw[h1,h2]<;>rfl
end
section
variable {X:Cx} {a b e:Dn} {es:List Dn} {fa fb f fk fv:a9->R D} {fs:a9->R (List D)} {pos:DY}
theorem vj {g h:a9->R D} (hg:PQ ly X e g) (hh:PQ ly X e h) (Sd:∀ρ,f ρ=g ρ\/f ρ=h ρ):PQ ly X e f:=λc JD s σ H Q I ⟨F,ρ,ri,w⟩=>
 (Sd ρ).elim (λz=>hg c JD s σ H Q I ⟨F,ρ,ri,z▸w⟩) λz=>hh c JD s σ H Q I ⟨F,ρ,ri,z▸w⟩
theorem vk {LN:Bool} (ρ:a9):f2 (la LN) fa fb ρ=f2 (r0 LN) fa fb ρ\/f2 (la LN) fa fb ρ=f2 (oF LN) fa fb ρ:=by
 unfold f2
 cases fa ρ with
 |ok x=>
  cases fb ρ with
  |ok y=>cases y<;>first|exact .inl rfl|exact .inr rfl
  |_=>exact .inl rfl
 |_=>exact .inl rfl
theorem vm {K:Dd} {c:cm ly} {σ:St} {H:Hp} {Q:VK} (h:tQ K c (f2 (oF false) fa fb) σ H Q):AN (tB' K c fa) (tB' K c fb) σ H Q:=zv h λF H2 F2 v u x y e rx ry w=>by
 obtain⟨d,hd,k⟩:=w.of
 cases y with
 |dic LD=>
  obtain⟨p,vs,rfl,h1,h2,h3⟩:=ry.dic e.sub
  replace hd:(jt x).map (λk=>D.bl (if false then !(ig LD k).isSome else (ig LD k).isSome))=some d:=hd
  cases hk:jt x with
  |none=>rw[hk]at hd;cases hd
  |some JN=>
   rw[hk]at hd
   cases hd
   cases kb hk rx
   exact⟨p,_,rfl,jp.k (k:=JN) h1,k _ H2 F2 e (by rw[h2.look];exact .bl _)⟩
 |_=>cases hd
theorem pR {K:Dd} {c:cm ly} {σ:St} {H:Hp} {Q:VK} (h:tQ K c (f2 (oF true) fa fb) σ H Q):rX (tB' K c fa) (tB' K c fb) σ H Q:=zv h λF H2 F2 v u x y e rx ry w=>by
 obtain⟨d,hd,k⟩:=w.of
 cases y with
 |dic LD=>
  obtain⟨p,vs,rfl,h1,h2,h3⟩:=ry.dic e.sub
  replace hd:(jt x).map (λk=>D.bl (if true then !(ig LD k).isSome else (ig LD k).isSome))=some d:=hd
  cases hk:jt x with
  |none=>rw[hk]at hd;cases hd
  |some JN=>
   rw[hk]at hd
   cases hd
   cases kb hk rx
   exact⟨p,_,rfl,jp.k (k:=JN) h1,k _ H2 F2 e (by rw[h2.look];exact .bl _)⟩
 |_=>cases hd
theorem Cp (hu:X.A.units+1<G0) (ha:PB ly X a fa) (hb:PB ly X b fb) (hm:EN .In b=false:=by with_unfolding_all rfl):PQ ly X (.Compare a [.In] [b] pos) (f2 (la false) fa fb):=
 vj (js t7 nG ha hb hm) (λc=>PE.weak (uw (zj hu (ha c) (hb c)) hm) λσ H Q h=>vm h) vk
theorem oG (hu:X.A.units+1<G0) (ha:PB ly X a fa) (hb:PB ly X b fb) (hm:EN .NotIn b=false:=by with_unfolding_all rfl):PQ ly X (.Compare a [.NotIn] [b] pos) (f2 (la true) fa fb):=
 vj (js o8 nG ha hb hm) (λc=>PE.weak (uw (t9 hu (ha c) (hb c)) hm) λσ H Q h=>pR h) vk
def oH:D->D->Option D
 | .lst ds, .int i=>atI ds i
 | .tup ds, .int i=>atI ds i
 | .scr ns, .int i=>(atI ns i).map .int
 |_,_=>none
def vn:D->D->Option D
 | .dic LD,k=>(jt k).bind λJN=>ig LD JN
 |_,_=>none
def jh (x y:D):Option D:=match x with
 | .dic _=>vn x y
 |_=>oH x y
theorem Reps.atI {K:Dd} {F:Hp} {vs:List V} {ds:List D} {i:Int} {d:D} (r:Reps K F vs ds) (h:atI ds i=some d):∃v,L2.atI vs i=some v/\ci K F v d:=by
 unfold L2.atI at h ⊢
 rw[r.length]
 cases e:yn ds.length i with
 |none=>rw[e]at h;cases h
 |some j=>rw[e]at h;exact r.get h
theorem tJ {K:Dd}:gi K (CC K) oH:=by
 intro v u x y d H F Q s rx ry h k
 unfold oH at h
 split at h
 ·cases ry.int
  obtain⟨a,vs,rfl,h1,h2⟩:=rx.lst s
  obtain⟨w,h3,h4⟩:=h2.atI h
  exact .inl ⟨a,vs,_,w,rfl,rfl,dc.of h1,h3,k _ H F (bc.refl s) h4⟩
 ·cases ry.int
  obtain⟨a,vs,rfl,h1,h2⟩:=rx.tup s
  obtain⟨w,h3,h4⟩:=h2.atI h
  exact .inr (.inl ⟨a,vs,_,w,rfl,rfl,hU.of h1,h3,k _ H F (bc.refl s) h4⟩)
 ·rename_i ns i
  cases ry.int
  obtain⟨a,rfl,h1⟩:=rx.scr s
  cases e:atI ns i with
  |none=>rw[e]at h;cases h
  |some n=>
   rw[e]at h
   cases h
   refine .inl ⟨a,ns.map V.int,i, .int n,rfl,rfl,h1,?_,k _ H F (bc.refl s) (.int n)⟩
   unfold L2.atI at e ⊢
   rw[Dl]
   cases e2:yn ns.length i with
   |none=>rw[e2]at e;cases e
   |some j=>
    rw[e2]at e
    show (ns.map V.int)[j]? =_
    rw[DQ,show ns[j]? =some n from e]
    rfl
 ·cases h
theorem zD (ρ:a9):f2 jh fa fb ρ=f2 oH fa fb ρ\/f2 jh fa fb ρ=f2 vn fa fb ρ:=by
 unfold f2
 cases fa ρ with
 |ok x=>
  cases fb ρ with
  |ok y=>cases x<;>first|exact .inl rfl|exact .inr rfl
  |_=>exact .inl rfl
 |_=>exact .inl rfl
theorem ju (hu:X.A.units+1<G0) (ha:PB ly X a fa) (hb:PB ly X b fb) (hs:rT b:=by intro _ _;rfl):PQ ly X (.Subscript a b pos) (f2 jh fa fb):=
 vj (λc=>PE.weak (AB ze (ha c) (hb c) hs) λσ H Q h=>zv h λF H2 F2 v u x y e rx ry w=>by
   obtain⟨d,hd,k⟩:=w.of
   exact tJ v u x y d H2 F2 Q e.sub rx ry hd λw H' F' e' r'=>k w H' F' (e.trans e') r')
  (λc=>PE.weak (xa hu (ha c) (hb c) hs) λσ H Q h=>zv h λF H2 F2 v u x y e rx ry w=>by
   obtain⟨d,hd,k⟩:=w.of
   cases x with
   |dic LD=>
    obtain⟨p,vs,rfl,h1,h2,h3⟩:=rx.dic e.sub
    replace hd:((jt y).bind λJN=>ig LD JN)=some d:=hd
    cases hk:jt y with
    |none=>rw[hk]at hd;cases hd
    |some JN=>
     rw[hk]at hd
     cases kb hk ry
     rcases h2.get JN with ⟨_,z⟩|⟨v',d',z1,z2,z3⟩
     ·rw[show ig LD JN=some d from hd]at z;cases z
     ·rw[show ig LD JN=some d from hd]at z2
      cases z2
      exact⟨p,v',rfl,z1▸jp.k (k:=JN) h1,k _ H2 F2 e z3⟩
   |_=>cases hd) zD
end
end L2.Pu
namespace L2.Pu
open PySem PySem.Spec PyProof.Rows
variable {ly:List cK}
section
variable {K:Dd}
theorem lV.one {H F:Hp} {vs:List V} {d:D}:lV K H F vs [d]->∃v,vs=[v]/\bV K H F v d:=λh=>by
 cases h with
 |cons r t=>cases t;exact⟨_,rfl,r⟩
def hW:List D->Option D
 |[.lst ds]=>some (.int ds.length)
 |[.tup ds]=>some (.int ds.length)
 |[.scr ns]=>some (.int ns.length)
 |[.dic ds]=>some (.int ds.length)
 |_=>none
def yw (K:Dd):List V->Hp->VK->Prop:=λxs H Q=>(∃p ys,xs=[.ref p]/\(dc K H p ys\/hU K H p ys)/\Q (.int ys.length) H)\/∃p kvs,xs=[.ref p]/\H p=some (.dK kvs)/\Q (.int kvs.length) H
theorem bL {X:Cx}:d6 X (.builtin "len") (yw X.K):=by
 intro JD s σ H xs us Q I rv h
 rcases h with h|⟨p,kvs,rfl,hk,q⟩
 ·exact o9 JD s σ H xs us Q I rv h
 ·obtain⟨u,rfl,ru⟩:=jk rv
  cases ru
  exact AK I (.inl hk) λt s' I'=>⟨.int kvs.length,H,I',⟨t,rfl⟩,q⟩
theorem dq:lW K (yw K) hW:=by
 intro vs ds d H F Q s rv h k
 match ds,h with
 |[.lst xs],h=>
  obtain⟨v,rfl,r⟩:=rv.one
  obtain⟨a,ws,rfl,h1,h2⟩:=r.lst s
  cases h
  exact .inl ⟨a,ws,rfl, .inl (dc.of h1),by rw[h2.length];exact k _ H F (bc.refl s) (.int _)⟩
 |[.tup xs],h=>
  obtain⟨v,rfl,r⟩:=rv.one
  obtain⟨a,ws,rfl,h1,h2⟩:=r.tup s
  cases h
  exact .inl ⟨a,ws,rfl, .inr (hU.of h1),by rw[h2.length];exact k _ H F (bc.refl s) (.int _)⟩
 |[.scr ns],h=>
  obtain⟨v,rfl,r⟩:=rv.one
  obtain⟨a,rfl,h1⟩:=r.scr s
  cases h
  exact .inl ⟨a,_,rfl, .inl h1,by rw[Dl];exact k _ H F (bc.refl s) (.int _)⟩
 |[.dic xs],h=>
  obtain⟨v,rfl,r⟩:=rv.one
  obtain⟨a,ws,rfl,h1,h2,h3⟩:=r.dic s
  cases h
  exact .inr ⟨a,ws,rfl,h1,by rw[h2.length];exact k _ H F (bc.refl s) (.int _)⟩
def cG:List D->Option D
 |[.lst ds]=>some (.tup ds)
 |[.tup ds]=>some (.tup ds)
 |_=>none
theorem d9:lW K (λxs H Q=>∃p ys,xs=[.ref p]/\((dc K H p ys/\∀l,H l=none->Q (.ref l) (a_ H l (.tup ys)))\/(hU K H p ys/\Q (.ref p) H))) cG:=by
 intro vs ds d H F Q s rv h k
 match ds,h with
 |[.lst xs],h=>
  obtain⟨v,rfl,r⟩:=rv.one
  obtain⟨a,ws,rfl,h1,h2⟩:=r.lst s
  cases h
  refine⟨a,ws,rfl, .inl ⟨dc.of h1,λl hl=> ?_⟩⟩
  have e:=bc.lay (o:= .tup ws) s hl
  exact k _ _ _ e (.tup ar (h2.mono e.grow))
 |[.tup xs],h=>
  obtain⟨v,rfl,r⟩:=rv.one
  obtain⟨a,ws,rfl,h1,h2⟩:=r.tup s
  cases h
  refine⟨a,ws,rfl, .inr ⟨hU.of h1,?_⟩⟩
  match r with
  | .inl r=>exact k _ H F (bc.refl s) r
def yx:List D->Option D
 |[.lst ds]=>some (.lst ds)
 |[.tup ds]=>some (.lst ds)
 |[.scr ns]=>some (.lst (ns.map .int))
 |_=>none
theorem ke {F:Hp}:∀ns:List Int,Reps K F (ns.map V.int) (ns.map D.int)
 |[]=> .nil
 |n::r=> .cons (.int n) (ke r)
def cH:List D->Option (List Int)
 |[]=>some []
 | .int i::r=>(cH r).map (i::·)
 |_::_=>none
theorem j4 {F:Hp}:∀{ds:List D} {ns:List Int} {vs:List V},cH ds=some ns->Reps K F vs ds->vs=ns.map V.int:=by
 intro ds
 induction ds with
 |nil=>intro ns vs h r;cases r.nilI;cases h;rfl
 |cons d r ih=>
  intro ns vs h rv
  obtain⟨v,us,rfl,r1,t⟩:=rv.consI
  cases d with
  |int i=>
   cases r1.intI
   replace h:(cH r).map (i::·)=some ns:=h
   cases e:cH r with
   |none=>rw[e]at h;cases h
   |some ms=>
    rw[e]at h
    cases h
    rw[ih e t];rfl
  |_=>cases h
theorem r8 (ns:List Int):cH (ns.map .int)=some ns:=by
 induction ns with
 |nil=>rfl
 |cons n r ih=>show (cH (r.map D.int)).map (n::·)=_;rw[ih];rfl
def D1:List D->Option D
 |[.lst ds]=>(cH ds).map λns=> .int ns.sum
 |_=>none
def oI:List D->Option D
 |[.lst ds]=>(cH ds).bind λns=>if ns.length<64 then some (.lst ((cL ns).map .int))else none
 |_=>none
theorem r9:lW K (λxs H Q=>∃p ns,xs=[.ref p]/\dc K H p (ns.map V.int)/\ns.length<64/\∀l,H l=none->Q (.ref l) (a_ H l (.lst ((cL ns).map V.int)))) oI:=by
 intro vs ds d H F Q s rv h k
 match ds,h with
 |[.lst xs],h=>
  obtain⟨v,rfl,r⟩:=rv.one
  obtain⟨a,ws,rfl,h1,h2⟩:=r.lst s
  replace h:((cH xs).bind λns=>if ns.length<64 then some (D.lst ((cL ns).map .int))else none)=some d:=h
  cases e:cH xs with
  |none=>rw[e]at h;cases h
  |some ns=>
   rw[e]at h
   replace h:(if ns.length<64 then some (D.lst ((cL ns).map .int))else none)=some d:=h
   split at h
   ·rename_i hl
    cases h
    rw[j4 e h2]at h1
    refine⟨a,ns,rfl,dc.of h1,hl,λl Na=> ?_⟩
    have e:=bc.lay (o:= .lst ((cL ns).map V.int)) s Na
    exact k _ _ _ e (.lst ar (ke _))
   ·cases h
end
section
variable {X:Cx} {a b e:Dn} {es:List Dn} {fa fb f fk fv:a9->R D} {fs:a9->R (List D)} {pos p p2:DY}
def BB:D->Option String
 | .non=>some "NoneType"
 | .bl _=>some "bool"
 | .int _=>some "int"
 | .str _=>some "str"
 | .tup _=>some "tuple"
 | .lst _=>some "list"
 | .dic _=>some "dict"
 |_=>none
def nH (t T:String):Option Bool:=if t=T then some true else if t="bool"/\T="int" then some true
 else if ["NoneType","bool","int","str","tuple","list","dict"].contains t/\["bool","int","str","tuple","list","dict"].contains T then some false else none
theorem vo (K:Dd) {t T:String} {k:Bool} (ht:t="NoneType"\/t="bool"\/t="int"\/t="str"\/t="tuple"\/t="list"\/t="dict") (hT:T="bool"\/T="int"\/T="str"\/T="tuple"\/T="list"\/T="dict") (h:nH t T=some k):
  Ea K (.type t) (.type T)=some k:=by
 rcases ht with rfl|rfl|rfl|rfl|rfl|rfl|rfl<;>rcases hT with rfl|rfl|rfl|rfl|rfl|rfl<;>(revert h;unfold nH;simp+decide;rintro rfl;first|rfl|(unfold Ea FF;decide+kernel))
def tK (T:String) (d:D):Option D:=(BB d).bind λt=>(nH t T).map .bl
def rb (T:String) (f:a9->R D):a9->R D:=λρ=>f ρ>>=λd=>R.of (tK T d)
theorem zE {K:Dd} {H F:Hp} {v:V} {d:D} {t:String} (s:az F H) (r:bV K H F v d) (h:BB d=some t):jl K H v (.type t):=by
 cases d with
 |non=>cases r.non;cases h;exact .non
 |bl=>cases r.bl;cases h;exact .bl _
 |int=>cases r.int;cases h;exact .int _
 |str=>cases r.str;cases h;exact .str _
 |tup=>obtain⟨a,vs,rfl,h1,_⟩:=r.tup s;cases h;exact .tup h1
 |lst=>obtain⟨a,vs,rfl,h1,_⟩:=r.lst s;cases h;exact .lst h1
 |dic=>obtain⟨a,vs,rfl,h1,_⟩:=r.dic s;cases h;exact .dK h1
 |_=>cases h
theorem tL {d:D} {t:String} (h:BB d=some t):t="NoneType"\/t="bool"\/t="int"\/t="str"\/t="tuple"\/t="list"\/t="dict":=by
 cases d<;>cases h<;>simp
theorem so {x:Df} {T:String} (hT:T="bool"\/T="int"\/T="str"\/T="tuple"\/T="list"\/T="dict") (NS:X.mg "isinstance"=none) (hm:X.mg x=none) (hv:DZ x=some (.type T)) (ha:PB ly X a fa) (Ou:Gl X "isinstance":=by rfl) (hg:Gl X x:=by rfl)
  (hn:x≠"__name__":=by decide) (L4:(x==("__debug__":Df))=false:=by decide)
  (he:Di [a, .Name x p2] X.env=(false,DH a X.env)::Di [.Name x p2] X.env:=by rfl) (Ny:Di [.Name x p2] X.env=(false,DH (.Name x p2) X.env)::Di [] X.env:=by rfl) (KL:(DX pos (Di [.Name x p2] X.env)).any (·.1)=false:=by rfl):
  PQ ly X (.Call (.Name "isinstance" p) [a, .Name x p2] [] pos) (rb T fa):=λc=>
 PE.weak (jm uQ Ou NS lQ (cR (ha c) (cR (rM (v:= .ty T) hg hm hv rfl hn L4) gI Ny) he) (by decide) (by decide) he KL) λσ H Q ⟨F,ρ,ri,w⟩=>
  ⟨F,ρ,ri,(aA.bind.mp w).imp λd _ w1 v H1 F1 e1 r1=>by
   obtain⟨d',hd,k⟩:=w1.of
   unfold tK at hd
   cases ht:BB d with
   |none=>rw[ht]at hd;cases hd
   |some t=>
    rw[ht]at hd
    cases hs:nH t T with
    |none=>
     replace hd:(nH t T).map D.bl=some d':=hd
     rw[hs]at hd;cases hd
    |some kk=>
     replace hd:(nH t T).map D.bl=some d':=hd
     rw[hs]at hd
     cases hd
     exact⟨v,T,_,kk,rfl,zE e1.sub r1 ht,vo X.K (tL ht) hT hs,k _ H1 F1 e1 (.bl kk)⟩⟩
def Cq (f:a9->R D):a9->R D:=λρ=>f ρ>>=λd=>match d with
 | .lst ds=> .ok (.lst ds.reverse)
 |_=> .bad
variable {lo hi:Option Dn} {fl fh:a9->R (Option Int)}
inductive B1 (ly:List cK) (X:Cx) (pos:DY):List (Option Dn)->List Dn->List ((a9->R D)×(a9->R D))->Prop
 |nil:B1 ly X pos [] [] []
 |cons {k v:Dn} {ks:List (Option Dn)} {vs:List Dn} {fk fv:a9->R D} {ps:List ((a9->R D)×(a9->R D))}:PQ ly X k fk->PQ ly X v fv->B1 ly X pos ks vs ps->B1 ly X pos (some k::ks) (v::vs) ((fk,fv)::ps)
theorem B1.len {X:Cx} {pos:DY}:∀{ks:List (Option Dn)} {vs:List Dn} {ps:List ((a9->R D)×(a9->R D))},B1 ly X pos ks vs ps->ks.length=vs.length/\ks.length=ps.length/\ks.all (·.isSome)=true
 |_,_,_, .nil=>⟨rfl,rfl,rfl⟩
 |_,_,_, .cons _ _ r=>by
  obtain⟨a,b,c⟩:=r.len
  exact⟨by simp[a],by simp[b],by simp[EC,c]⟩
end
end L2.Pu
namespace L2.Pu
open PySem PySem.Spec PyProof.Rows
variable {ly:List cK}
def pS (scope outer:EO):Bool:=
 scope.kind== .function&&scope.names.all (λy=>y.2 != .cell)&&scope.names.all (λy=>y.2 != .local||scope.names.lookup y.1==some .local)&&
 scope.names.all (λy=>y.2 != .free||outer.names.lookup y.1==some .cell||outer.names.lookup y.1==some .free)&&decide ((scope.names.map (·.1)).Nodup)
theorem aU.of {X:Cx} {scope outer:EO} (h:X.env.scope=outer) (k:pS scope outer=true):aU X scope:=by
 unfold pS at k
 simp only[Eu,FO,decide_eq_true_eq,Ji,bne_iff_ne,beq_iff_eq]at k
 obtain⟨⟨⟨⟨k1,k2⟩,k3⟩,k4⟩,k5⟩:=k
 refine⟨k1,k2,λy hy hl=> ?_,λy hy hf=> ?_,k5⟩
 ·rcases k3 y hy with z|z
  ·exact absurd hl z
  ·exact z
 ·show X.env.scope.names.lookup y.1=_\/X.env.scope.names.lookup y.1=_
  rw[h]
  rcases k4 y hy with (z|z)|z
  ·exact absurd hf z
  ·exact .inl z
  ·exact .inr z
structure cO (K:Dd) (mg:Df->Option De) (x:Df) (st:DJ) (ps:List Df):Prop where
 ex:∃f fd,rY K x x st f fd/\mg x=some (.ref f)/\dg K fd ps []
structure b7 (P:Dv) (w:DE) (K:Dd) (mg:Df->Option De) (base:DB) (k:Nat) (x:Df) (n:Nat) (m:List D->R D):Prop where
 ex:∃f fd ps,cV P w K mg base (i6 P w) k f fd ps (sh K n m)/\mg x=some (.ref f)/\D_ K (.ref f)=true/\dg K fd ps []
section
variable {P:Dv} {w:DE} {K:Dd} {mg:Df->Option De} {base:DB}
theorem dU {x:Df} {st:DJ} {N ps:List Df} {k n m:Nat} {g:a9->R aR} (A:cO K mg x st ps) (S:aw N ps (ac st)) (hn:ps.length=n) (hm:N.length=m)
  (K2:∀(f:Dg) (JK:De) (A:DI) (outer:List EF) (s:Dh) (H:Hp) (E:XK),br k (A.deeper (EJ x (ac st) s.heap.objs.size f JK))->
   fR [] (fA (i6 P w) P w K mg base N x (ac st) f JK A outer s H E) (aO st) g):b7 P w K mg base (k+1) x n (aQ n m g):=by
 obtain⟨f,fd,F,h1,h2⟩:=A.ex
 exact⟨f,fd,ps,zA F S hn hm λJK A outer s H E hr=>K2 f JK A outer s H E hr,h1,F.kp,h2⟩
theorem b7.mono {x:Df} {j k n:Nat} {m:List D->R D} (F:b7 P w K mg base j x n m) (h:j<=k):b7 P w K mg base k x n m:=by
 obtain⟨f,fd,ps,h1,h2⟩:=F.ex
 exact⟨f,fd,ps,h1.mono h,h2⟩
theorem gk {x:Df} {st:DJ} {ps:List Df} {n:Nat} (A:cO K mg x st ps) (hn:ps.length=n):b7 P w K mg base 0 x n (λ_=> .bad):=by
 obtain⟨f,fd,F,h1,h2⟩:=A.ex
 refine⟨f,fd,ps,⟨λvs H Q E h=>by rw[hn];exact h.1,λA outer s H args us vs Q E hr e0 hb rv h=> ?_⟩,h1,F.kp,h2⟩
 obtain⟨_,F',ds,_,_,z⟩:=h
 exact z.elim
end
section
variable {X:Cx} {e:Dn} {es:List Dn} {fs:a9->R (List D)} {x:Df} {p pos:DY}
theorem dD {n k:Nat} {m:List D->R D} (F:b7 X.prog X.w X.K X.mg X.base k x n m) (hr:br k X.A)
  (ha:qt ly X (e::es) fs) (hg:Gl X x:=by rfl) (L4:(x==("__debug__":Df))=false:=by decide) (he:Di (e::es) X.env=(false,DH e X.env)::Di es X.env:=by rfl) (KL:(DX pos (Di es X.env)).any (·.1)=false:=by rfl):
  PQ ly X (.Call (.Name x p) (e::es) [] pos) (aD m n fs):=by
 obtain⟨f,fd,ps,h1,h2,h3,h4⟩:=F.ex
 exact zx h1 hr h2 h3 h4 ha hg L4 he KL
end
structure Bl (mg:Df->Option De) (xs:List Df):Prop where
 no:∀x∈xs,mg x=none
theorem bH:DZ "tuple"=some (.type "tuple"):=by decide+kernel
theorem vp:DZ "int"=some (.type "int"):=by decide+kernel
theorem tM:DZ "bool"=some (.type "bool"):=by decide+kernel
theorem kN:DZ "sorted"=some (.builtin "sorted"):=by decide+kernel
theorem zF {K:Dd} {m:List D->R D} {H:Hp} {a:Dg} {ns:List Int} {E:XK} (h:m [.scr ns]= .ok (.bl true)) (hs:dc K H a (ns.map V.int)):sh K 1 m [.ref a] H (λv _=>v= .bl true) E:=by
 refine⟨rfl,H,[.scr ns],az.refl _, .cons (.scr hs) .nil,?_⟩
 rw[h]
 intro v H' F' e r
 cases r
 rfl
end L2.Pu
namespace L2.Pu
open PySem PySem.Spec PyProof.Rows
variable {ly:List cK}
section
variable {i j:Int}
theorem ef (h:0<j):kd (.int i) (.int j)=some (.int (i%j)):=if_pos h
theorem tN (h:0<j/\j<1073741824):ve (.int i) (.int j)=some (.int (i / j)):=if_pos (show qX i j from ⟨h.1,by omega⟩)
theorem xy (h:pO i j):vf (.int i) (.int j)=some (.int (i ^j.toNat)):=if_pos h
theorem m6:fS (.int i) (.int j)=some (.int (i+j)):=rfl
theorem oJ:vc (.int i) (.int j)=some (.int (i - j)):=rfl
theorem kO:wz (.int i) (.int j)=some (.bl (decide (i<j))):=rfl
theorem B2:D0 (.int i) (.int j)=some (.bl (decide (i<=j))):=rfl
theorem m7:xt (.int i) (.int j)=some (.bl (decide (j<i))):=rfl
theorem pT:zC (.int i) (.int j)=some (.bl (decide (j<=i))):=rfl
theorem kP:oE (.int i) (.int j)=some (.bl (decide (i=j))):=rfl
theorem vq:A_ (.int i) (.int j)=some (.bl (!decide (i=j))):=rfl
theorem B3 {a b:Bool}:oE (.bl a) (.bl b)=some (.bl (decide (a=b))):=rfl
theorem zG:xx (.int i)=some (.int (-i)):=rfl
end
theorem vr {ds:List D} {i:Int}:jh (.lst ds) (.int i)=atI ds i:=rfl
theorem pU {ds:List D} {i:Int}:jh (.tup ds) (.int i)=atI ds i:=rfl
theorem B4 {ns:List Int} {i:Int}:jh (.scr ns) (.int i)=(atI ns i).map .int:=rfl
theorem m8 {ds:List D}:hW [.lst ds]=some (.int ds.length):=rfl
theorem j5 {ds:List D}:hW [.tup ds]=some (.int ds.length):=rfl
theorem zH {ds:List Int}:hW [.scr ds]=some (.int ds.length):=rfl
theorem vt {ds:List D}:cG [.lst ds]=some (.tup ds):=rfl
theorem vv {ds:List D}:cG [.tup ds]=some (.tup ds):=rfl
theorem xz {ds:List D}:yx [.lst ds]=some (.lst ds):=rfl
theorem xA {ds:List D}:yx [.tup ds]=some (.lst ds):=rfl
theorem j6 {α:Type} {xs:List α} {k:Nat} (h:k<xs.length):L2.atI xs (k:Int)=some xs[k]:=wW (by simp[h])
theorem xB (x:Int) (xs:List Int):((xs.map D.int).any λy=>Ah y (.int x))=decide (x∈xs):=by
 induction xs with
 |nil=>rfl
 |cons y r ih=>
  rw[DD,ED,ih]
  show (y==x||decide (x∈r))=decide (x∈y::r)
  by_cases e:x=y
  ·subst e;simp
  ·have:(y==x)=false:=beq_eq_false_iff_ne.mpr (ET e)
   simp[this,e]
theorem xC (xs:List Int):(xs.map D.int).all f6=true:=by
 induction xs with
 |nil=>rfl
 |cons y r ih=>rw[DD,EC,ih];rfl
theorem oK (LN:Bool) (x:Int) (xs:List Int):Ai LN (.int x) (xs.map .int)=some (.bl (if LN then !decide (x∈xs)else decide (x∈xs))):=by
 unfold Ai
 rw[if_pos ⟨rfl,xC xs⟩,xB]
theorem B5 {x:Int} {xs:List Int}:la false (.int x) (.tup (xs.map .int))=some (.bl (decide (x∈xs))):=oK false x xs
theorem m9 {x:Int} {xs:List Int}:la true (.int x) (.lst (xs.map .int))=some (.bl (!decide (x∈xs))):=oK true x xs
theorem pV {x:Int} {xs:List Int}:la true (.int x) (.tup (xs.map .int))=some (.bl (!decide (x∈xs))):=oK true x xs
theorem re (n:Nat):ia 0 (n:Int)=(Eb n).map λk:Nat=>D.int (k:Int):=by
 unfold ia
 simp
theorem zI {ds:List D}:tK "tuple" (.tup ds)=some (.bl true):=rfl
theorem zJ {i:Int}:tK "tuple" (.int i)=some (.bl false):=rfl
theorem zK {i:Int}:tK "int" (.int i)=some (.bl true):=rfl
theorem zL {i:Int}:tK "bool" (.int i)=some (.bl false):=rfl
theorem vw {m:List D->R D} {n:Nat} {fs:a9->R (List D)} {ρ:a9} {ds:List D} {d:D} (h:fs ρ= .ok ds) (hl:ds.length=n) (hm:m ds= .ok d):aD m n fs ρ= .ok d:=by
 unfold aD
 rw[h,ah,if_pos hl,hm]
end L2.Pu
namespace L2.Pu
theorem oM {g:D->a9->R a9} {gb:a9->R aR} {d:D} {r:List D} {ρ ρ1 ρ2:a9} (h1:g d ρ= .ok ρ1) (h2:gb ρ1= .ok (.nx ρ2)):eY g gb (d::r) ρ=eY g gb r ρ2:=by
 rw[eY,h1,ah,h2,ah]
end L2.Pu
namespace L2.Pu
theorem cS {k n:Nat} {g:a9->R aR} {ds:List D} {d:D} (h:ds.length=k) (e:g (bK n ds)= .ok (.ret d)):aQ k n g ds= .ok d:=by
 unfold aQ
 rw[if_pos h,e,ah]
theorem zM {k n:Nat} {g:a9->R aR} {ds:List D} {ρ:a9} (h:ds.length=k) (e:g (bK n ds)= .ok (.nx ρ)):aQ k n g ds= .ok .non:=by
 unfold aQ
 rw[if_pos h,e,ah]
theorem aH {g g':a9->R aR} {ρ ρ':a9} (h:g ρ= .ok (.nx ρ')):aC g g' ρ=g' ρ':=by
 unfold aC
 rw[h,ah]
theorem vx {fi:a9->R (List D)} {g:D->a9->R a9} {gb:a9->R aR} {ρ:a9} {ds:List D} (h:fi ρ= .ok ds):ou fi g gb ρ=eY g gb ds ρ:=by
 unfold ou
 rw[h,ah]
end L2.Pu
namespace L2.Pu
theorem kg {fs:a9->R (List D)} {ρ:a9} {n:Nat} (h:fs ρ= .ok [.int (n:Int)]) (hn:n<=lim):iA fs ρ= .ok ((Eb n).map λk:Nat=>D.int (k:Int)):=by
 unfold iA
 rw[h,ah]
 have hc:(n:Int).natAbs<=lim:=by rw[Int.natAbs_natCast];exact hn
 exact(if_pos hc).trans (congrArg R.ok (re n))
end L2.Pu
namespace L2.Pu
open PySem PySem.Spec PyProof.Rows
variable {ly:List cK}
section
variable {X:Cx} {LK tg J_:Dn} {Lv:List Dn} {scope:EO} {pos:DY} {fi:a9->R (List D)} {g:D->a9->R a9} {gt:a9->R Bool} {fe:a9->R D}
theorem sq (i:Nat) {y:Df} {py Lw:DY} (S:aU X scope) (hc:X.calm=true) (hN:X.N.Nodup) (hi:Af ly X tg J_ fi) (hg:∀s H ex,Ae [] (bU X scope s H ex) tg g) (Nc:∀s H ex,vb [] (bU X scope s H ex) Lv gt) (N8:∀s H ex,PQ [] (bU X scope s H ex) LK fe)
  (N7:X.N[i]? =some y:=by rfl) (hx:uu X.env.scope y:=by first|exact E6 rfl|exact DW rfl) (hf:X.fn y=true\/X.env.scope.names.lookup y=some .local:=by first|exact .inl rfl|exact .inr rfl|assumption)
  (Nf:Ei (.ListComp LK [⟨tg,J_,Lv,0⟩] scope pos) (some (.Name y py)) Lw.line X.env=pure false:=by rfl) (hs:∀x,EM J_ X.env x=pure x:=by intro _;rfl) (LC:iI ly i:=by(repeat (first|assumption|exact L2.Pu.d_|refine L2.Pu.d7 ⟨by first|decide|simp,by first|decide|simp⟩ ?_))):
  l9 ly X (.Assign [.Name y py] (.ListComp LK [⟨tg,J_,Lv,0⟩] scope pos) Lw) (mU i (cN X.N scope.names fi g gt fe)):=λc=>
 PS.weak (lG hN N7 hx (sd S hc (hi c) (λs H ex=>Cj (hg s H ex)) (λs H ex=>Ck (Nc s H ex)) (λs H ex=>Cm (N8 s H ex)) hs) Nf hf) λD σ H ⟨F,ρ,ri,w⟩=>by
  refine⟨F,ρ,ri,(aA.bind.mp (aA.bind.mp w)).imp λds _ w1 J H1 F1 e1 jo p hp=> ?_⟩
  split at w1
  ·rename_i hl
   split at w1
   ·rename_i es he
    refine j3 ri e1 jo hp hl he λH2 F2 vs e2 O1 Pe rv=> ?_
    refine w1 _ H2 F2 (e1.grow.trans e2.grow) ((ri.step (e1.trans e2)).setOwn i LC O1 Pe (ri.ext.keep.free (e1.keep.free hp)) (.lst rv) (λj d' _ hj ej=> ?_) (ri.celNe (e1.trans e2).keep (e1.keep.free hp)))
    obtain⟨a,o,k1,k2,_⟩:=ri.own j d' hj
    rw[ej]at k1
    cases k1
    rw[e1.keep.free hp]at k2
    cases k2
   ·exact w1.elim
  ·exact w1.elim
end
end L2.Pu
namespace L2.Pu
open PySem PySem.Spec PyProof.Rows
variable {ly:List cK}
theorem j7 {f:a9->R D} {ρ:a9} {d:D} (h:f ρ= .ok d):bJ f ρ= .ok (.ret d):=by unfold bJ;rw[h,ah]
theorem dr {g:List D->Option D} {fs:a9->R (List D)} {ρ:a9} {ds:List D} {d:D} (h:fs ρ= .ok ds) (h2:g ds=some d):fY g fs ρ= .ok d:=by unfold fY;rw[h,ah,h2,dk]
theorem af {f:a9->R D} {fs:a9->R (List D)} {ρ:a9} {ds:List D} {d:D} (h:f ρ= .ok d) (h2:fs ρ= .ok ds):a8 f fs ρ= .ok (d::ds):=by unfold a8;rw[h,ah,h2,ah]
theorem xD {f:a9->R (List D)} {ρ:a9} {ds:List D} (h:f ρ= .ok ds):fL f ρ= .ok (.lst ds):=by unfold fL;rw[h,ah]
theorem oN {N:List Df} {names:List (Df×E4)} {fi:a9->R (List D)} {g:D->a9->R a9} {gt:a9->R Bool} {fe:a9->R D} {ρ τ:a9} {ds es:List D} (h:fi ρ= .ok ds) (hl:ds.length<=lim) (hr:hE N names ρ=τ) (hc:ib g gt fe ds τ= .ok es):
  cN N names fi g gt fe ρ= .ok es:=by
 unfold cN
 rw[h,ah,if_pos hl,hr,hc]
theorem oO {i:Nat} {f:a9->R (List D)} {ρ:a9} {ds:List D} (h:f ρ= .ok ds):mU i f ρ= .ok (.nx (ρ.set i (some (.own (.lst ds))))):=by unfold mU;rw[h,ah]
theorem ii {f:a9->R D} {g:D->a9->R a9} {ρ ρ':a9} {d:D} (h:f ρ= .ok d) (h2:g d ρ= .ok ρ'):dn f g ρ= .ok (.nx ρ'):=by unfold dn;rw[h,ah,h2,ah]
theorem cT {m:List D->R D} {n:Nat} {fs:a9->R (List D)} {ρ:a9} {ds:List D} {d:D} (h:fs ρ= .ok ds) (hl:ds.length=n) (hm:m ds= .ok d):aD m n fs ρ= .ok d:=vw h hl hm
theorem aG {g:D->D->Option D} {fa fb:a9->R D} {ρ:a9} {a b d:D} (h:fa ρ= .ok a) (h2:fb ρ= .ok b) (h3:g a b=some d):f2 g fa fb ρ= .ok d:=by unfold f2;rw[h,ah,h2,ah,h3,dk]
end L2.Pu
namespace L2.Pu
theorem vy (d:D):(Slot.val d).data=d:=rfl
theorem vz (d:D):(Slot.own d).data=d:=rfl
theorem vA (d:D):(Slot.bor d).data=d:=rfl
end L2.Pu
namespace L2.Pu
open PySem PySem.Spec PyProof.Rows
variable {ly:List cK}
def gO:List (bR×D)->Option (List Int)
 |[]=>some []
 |(.inl i,_)::r=>(gO r).map (i::·)
 |(.inr _,_)::_=>none
def f7:List D->Option D
 |[.lst ds]=>(cH ds).bind λns=>if ns.length<64 then some (.lst ((cL ns).map .int))else none
 |[.dic LD]=>(gO LD).bind λns=>if ns.length<64 then some (.lst ((cL ns).map .int))else none
 |_=>none
theorem pW {K:Dd} {F:Hp}:∀{ds:List (bR×D)} {ns:List Int} {vs:List (bR×V)},gO ds=some ns->RepK K F vs ds->vs.map (·.1)=ns.map FT:=by
 intro ds
 induction ds with
 |nil=>intro ns vs h r;rw[r.nilI];cases h;rfl
 |cons d r ih=>
  intro ns vs h rr
  obtain⟨k,d⟩:=d
  obtain⟨v,us,rfl,_,t⟩:=rr.consI
  cases k with
  |inr i=>cases h
  |inl i=>
   replace h:(gO r).map (i::·)=some ns:=h
   cases e:gO r with
   |none=>rw[e]at h;cases h
   |some ms=>
    rw[e]at h
    cases h
    rw[DD,DD,ih e t]
def jv (K:Dd):List V->Hp->VK->Prop:=λxs H Q=>
 (∃p ns,xs=[.ref p]/\dc K H p (ns.map V.int)/\ns.length<64/\∀l,H l=none->Q (.ref l) (a_ H l (.lst ((cL ns).map V.int))))\/
 ∃p kvs ns,xs=[.ref p]/\H p=some (.dK kvs)/\kvs.map (·.1)=ns.map FT/\ns.length<64/\∀l,H l=none->Q (.ref l) (a_ H l (.lst ((cL ns).map V.int)))
theorem oP {X:Cx} (hc:X.calm=true):d6 X (.builtin "sorted") (jv X.K):=oh.or (oi hc)
theorem pX {K:Dd}:lW K (jv K) f7:=by
 intro vs ds d H F Q s rv h k
 match ds,h with
 |[.lst xs],h=>exact .inl (r9 vs _ d H F Q s rv h k)
 |[.dic xs],h=>
  obtain⟨v,rfl,r⟩:=rv.one
  obtain⟨a,ws,rfl,h1,h2,_⟩:=r.dic s
  replace h:((gO xs).bind λns=>if ns.length<64 then some (D.lst ((cL ns).map .int))else none)=some d:=h
  cases e:gO xs with
  |none=>rw[e]at h;cases h
  |some ns=>
   rw[e]at h
   replace h:(if ns.length<64 then some (D.lst ((cL ns).map .int))else none)=some d:=h
   split at h
   ·rename_i hl
    cases h
    refine .inr ⟨a,ws,ns,rfl,h1,pW e h2,hl,λl Na=> ?_⟩
    have e:=bc.lay (o:= .lst ((cL ns).map V.int)) s Na
    exact k _ _ _ e (.lst ar (ke _))
   ·cases h
section
variable {X:Cx} {a b:Dn} {fs:a9->R (List D)} {pos p1 p2 Ly:DY}
end
end L2.Pu
namespace L2.Pu
open PySem PySem.Spec PyProof.Rows
variable {ly:List cK}
end L2.Pu
namespace L2.Pu
open PySem PySem.Spec PyProof.Rows
variable {ly:List cK}
section
variable {X:Cx} {a:Dn} {fa:a9->R D} {pos p1 p2 Ly:DY}
end
section
variable {K:Dd}
end
end L2.Pu
namespace L2.Pu
open PySem PySem.Spec PyProof.Rows
variable {ly:List cK}
structure fG (K:Dd) (x:Df) (C:Dg):Prop where
 ns:Dq K Dm x=some (some (.ref C))
 cl:pA K C
theorem RepF.nilI {K:Dd} {F:Hp} {vs:List (Df×V)} (h:RepF K F vs []):vs=[]:=by cases h;rfl
theorem RepF.consI {K:Dd} {F:Hp} {vs:List (Df×V)} {k:Df} {d:D} {ds:List (Df×D)} (h:RepF K F vs ((k,d)::ds)):∃v us,vs=(k,v)::us/\ci K F v d/\RepF K F us ds:=by
 cases h with
 |cons r t=>exact⟨_,_,rfl,r,t⟩
theorem RepF.get {K:Dd} {F:Hp} {f:Df} {d:D} {vs:List (Df×V)} {ds:List (Df×D)} (g:RepF K F vs ds):ds.lookup f=some d->∃v,(f,v)∈vs/\ci K F v d:=by
 induction ds generalizing vs with
 |nil=>intro h;cases h
 |cons p ds ih=>
  intro h
  obtain⟨v,us,e0,r,t⟩:=RepF.consI (k:=p.1) (d:=p.2) g
  subst e0
  rw[Ef]at h
  cases e:f==p.1 with
  |true=>rw[e]at h;cases h;cases eq_of_beq e;exact⟨v,Dt,r⟩
  |false=>
   rw[e]at h
   obtain⟨v',h1,h2⟩:=ih t h
   exact⟨v',Dw _ h1,h2⟩
theorem RepF.names {K:Dd} {F:Hp} {vs:List (Df×V)} {ds:List (Df×D)} (g:RepF K F vs ds):vs.map (·.1)=ds.map (·.1):=by
 induction ds generalizing vs with
 |nil=>rw[g.nilI];rfl
 |cons p ds ih=>
  obtain⟨v,us,e0,_,t⟩:=RepF.consI (k:=p.1) (d:=p.2) g
  rw[e0,DD,DD,ih t]
theorem dt {α:Type} {f:Df}:∀{ds:List (Df×α)},ds.lookup f=none->f∉ds.map (·.1)
 |[],_=>by simp
 |(k,v)::ds,h=>by
  rw[Ef]at h
  cases e:f==k with
  |true=>rw[e]at h;cases h
  |false=>
   rw[e]at h
   rw[DD]
   intro z
   rcases DA.mp z with z|z
   ·rw[z]at e;simp at e
   ·exact dt h z
theorem bV.ins {K:Dd} {H F:Hp} {v:V} {x:Df} {fds:List (Df×D)} (s:az F H):bV K H F v (.ins x fds)->∃a C dx fs vs,v= .ref a/\H a=some (.ins C dx fs)/\Dq K Dm x=some (some (.ref C))/\(∀p∈vs,fs.lookup p.1=some p.2)/\(∀f v,fs.lookup f=some v->f∈vs.map (·.1))/\RepF K F vs fds:=λh=>by
 obtain⟨a,C,dx,fs,vs,e,h,r⟩:=h.in rfl
 exact⟨a,C,dx,fs,vs,e,s _ _ h,r⟩
section
variable {X:Cx} {a o e:Dn} {es:List Dn} {fa fo:a9->R D} {fs:a9->R (List D)} {pos JV p:DY} {cls f m x:Df} {C:Dg}
def c3 (cls f:Df) (fa:a9->R D):a9->R D:=λρ=>fa ρ>>=λd=>match d with
 | .ins y fds=>if y=cls then R.of (fds.lookup f)else .bad
 |_=> .bad
theorem B6 (T:fG X.K cls C) (n:cb X.K C f) (ha:PB ly X a fa) (hb:Em a f X.env (DH a X.env)=DH a X.env:=by rfl):PQ ly X (.Attribute a f pos) (c3 cls f fa):=λc=>
 PE.weak (lL (ha c) hb) λσ H Q ⟨F,ρ,ri,w⟩=>⟨F,ρ,ri,(aA.bind.mp w).imp λd _ w1 v H1 F1 e1 r1=>by
  cases d with
  |ins y fds=>
   dsimp only at w1
   split at w1
   ·rename_i hy
    subst hy
    obtain⟨d',hd,k⟩:=w1.of
    obtain⟨a,C',dx,fs,vs,rfl,h1,h2,h3,h4,h5⟩:=r1.ins e1.sub
    have ec:C'=C:=by rw[T.ns]at h2;cases h2;rfl
    subst ec
    obtain⟨u,hu,ru⟩:=h5.get hd
    exact⟨a,C',dx,fs,u,rfl,h1,T.cl,n,h3 _ hu,k u H1 F1 e1 ru⟩
   ·exact w1.elim
  |_=>exact w1.elim⟩
structure aE (P:Dv) (w:DE) (K:Dd) (mg:Df->Option De) (base:DB) (k:Nat) (cls m:Df) (n:Nat) (r:List D->R D):Prop where
 ex:∃C f fd ps,cV P w K mg base (i6 P w) k f fd ps (sh K n r)/\fG K cls C/\qB K C m f/\dg K fd ps []
def b9 (cls m:Df) (n:Nat) (r:List D->R D) (fo:a9->R D) (fs:a9->R (List D)):a9->R D:=λρ=>fo ρ>>=λd=>match d with
 | .ins y fds=>if y=cls/\fds.lookup m=none then (fs ρ>>=λds=>if ds.length+1=n then (match r (d::ds)with| .ok z=> .ok z| .err x _=> .err x ρ| .bad=> .bad)else .bad)else .bad
 |_=> .bad
theorem sr {c:cm ly} {r:List D->R D} {n:Nat} {σ:St} {H:Hp} {Q:VK} (T:fG X.K cls C) (h:tQ X.K c (b9 cls m n r fo fs) σ H Q):uL C m (sh X.K n r) [] (yr X c) (tQ X.K c fo) (Ad X.K c fs) σ H Q:=by
 obtain⟨F,ρ,ri,w⟩:=h
 refine⟨F,ρ,ri,(aA.bind.mp w).imp λd hd w1 v H1 F1 e1 r1=> ?_⟩
 cases d with
 |ins y fds=>
  dsimp only at w1
  split at w1
  ·rename_i hy
   obtain⟨rfl,hm⟩:=hy
   obtain⟨a,C',dx,Mf,vs,rfl,h1,h2,h3,h4,h5⟩:=bV.ins e1.sub (H:=H1) (.inl r1)
   have ec:C'=C:=by rw[T.ns]at h2;cases h2;rfl
   subst ec
   have MZ:Mf.lookup m=none:=by
    cases e:Mf.lookup m with
    |none=>rfl
    |some v=>
     have:=h4 m v e
     rw[h5.names]at this
     exact absurd this (dt hm)
   refine⟨a,dx,Mf,rfl,h1,MZ,F1,ρ,ri.step e1,(aA.bind.mp w1).imp λds _ w2 us H2 F2 e2 r2=> ?_⟩
   show sh X.K n r (V.ref a::(us++[])) H2 Q (yr X c σ)
   rw[Ed]
   split at w2
   ·rename_i hl
    refine⟨by rw[DC,r2.length];exact hl,F2,_,e2.sub, .cons (r1.mono e2.grow) r2,?_⟩
    split at w2
    ·rename_i z hz
     try rw[hz]
     exact λv H' F' e' r'=>w2 v H' F' ((e1.trans e2).trans e') r'
    ·rename_i z _ hz
     try rw[hz]
     exact λcls a H' F' ec e'=>⟨_,ρ,F',ec,ri.step ((e1.trans e2).trans e'),w2⟩
    ·exact w2.elim
   ·exact w2.elim
  ·exact w1.elim
 |_=>exact w1.elim
theorem du {k n:Nat} {r:List D->R D} {pl:Gd Bool} (G:aE X.prog X.w X.K X.mg X.base k cls m n r) (hr:br k X.A) (ho:PQ ly X o fo) (ha:qt ly X (e::es) fs)
  (NL:Di (e::es) X.env=(false,DH e X.env)::Di es X.env:=by rfl) (KL:(DX pos (Di es X.env)).any (·.1)=false:=by rfl)
  (ht:DH (.Call (.Attribute o m JV) (e::es) [] pos) X.env=(do
   let ov<-DH o X.env
   FU JV.atName
   let (f,first)<-FV [ov] (FI ov m pl)
   Gf pos f first (DX pos (Di (e::es) X.env)) (FK pos (EV [] X.env))):=by rfl):
  PQ ly X (.Call (.Attribute o m JV) (e::es) [] pos) (b9 cls m n r fo fs):=by
 obtain⟨C,f,fd,ps,h1,h2,h3,h4⟩:=G.ex
 exact λc=>PE.weak (rS (pl:=pl) (ho c) h2.cl h3 h1 hr h4 .nil (iR c) (ha c) NL KL ht) λσ H Q h=>sr h2 h
theorem jw {k n:Nat} {r:List D->R D} {pl:Gd Bool} (G:aE X.prog X.w X.K X.mg X.base k cls m n r) (hr:br k X.A) (ho:PQ ly X o fo)
  (ht:DH (.Call (.Attribute o m JV) [] [] pos) X.env=(do
   let ov<-DH o X.env
   FU JV.atName
   let (f,first)<-FV [ov] (FI ov m pl)
   Gf pos f first (DX pos (Di [] X.env)) (FK pos (EV [] X.env))):=by rfl):
  PQ ly X (.Call (.Attribute o m JV) [] [] pos) (b9 cls m n r fo ag):=by
 obtain⟨C,f,fd,ps,h1,h2,h3,h4⟩:=G.ex
 refine λc=>PE.weak (pB (pl:=pl) (ho c) h2.cl h3 h1 hr h4 .nil (iR c) ht) λσ H Q h=> ?_
 obtain⟨F,ρ,ri,w⟩:=sr h2 h
 refine⟨F,ρ,ri,w.imp λd _ k v H1 F1 e1 r1=> ?_⟩
 obtain⟨a,dx,Mf,g1,g2,g3,F2,ρ2,Nj,w2⟩:=k v H1 F1 e1 r1
 exact⟨a,dx,Mf,g1,g2,g3,w2 [] H1 F2 (bc.refl Nj.sub) .nil⟩
theorem au.ghost {JD:List (Dg×DP)} {σ:St} {H:Hp} {s:Dh} (I:au X JD σ H s) {i:Nat} {g:Df} {v:Option V} (hi:X.N[i]? =some g) (hv:¬l7 X.env.scope g):au X JD (σ.set i v) H s:=by
 refine {I with loc:= ?_,len:=by rw[List.length_set];exact I.len}
 obtain⟨mm,h1,h2⟩:=I.loc
 refine⟨mm,h1,λj x u e1 e2 e3=> ?_⟩
 by_cases z:i=j
 ·subst z
  rw[hi]at e1
  cases e1
  exact absurd e3 hv
 ·rw[aa z]at e2
  exact h2 j x u e1 e2 e3
def B7 (K:Dd) (i:Nat) (ta tv:TE) (f:Df):TS:=λD σ H=>tv σ H λy H1=>ta σ H1 λx H2=>∃a C dx fs,x= .ref a/\H2 a=some (.ins C dx fs)/\pA K C/\cb K C f/\fs.length<1000/\
 D.nx (σ.set i (some y)) (a_ H2 a (.ins C dx (et f y fs)))
theorem su {value:Dn} {Kk:DY} {ta tv:TE} {g:Df} (i:Nat) (hi:X.N[i]? =some g) (hvis:¬l7 X.env.scope g) (ha:PE X o ta) (hv:PE X value tv) (hs:Ei value (some (.Attribute o f Kk)) pos.line X.env=pure false):
  PS X (.Assign [.Attribute o f Kk] value pos) (B7 X.K i ta tv f):=by
 intro JD s σ H D I h
 refine Gk (cn (hv JD s σ H _ I h) λu s1 z=> ?_) hs
 obtain⟨y,H1,I1,ry,q⟩:=z
 refine cn (ha JD s1 σ H1 _ I1 q) λov s2 z=> ?_
 obtain⟨x,H2,I2,rx,a,C,dx,fs,ex,ea,c,n,l,q2⟩:=z
 subst ex
 obtain rfl:ov=DL a:=rx
 exact lK I2 ea c n l ry λs3 I3=>⟨_,_,L2.Pu.au.ghost I3 hi hvis,q2⟩
theorem nI (f:Df) (v:V):∀fs:List (Df×V),(et f v fs).map (·.1)=if f∈fs.map (·.1)then fs.map (·.1)else fs.map (·.1)++[f]
 |[]=>rfl
 |(g,x)::r=>by
  show (if g=f then (g,v)::r else (g,x)::et f v r).map (·.1)=_
  by_cases e:g=f
  ·subst e;simp
  ·rw[if_neg e,DD,nI f v r]
   by_cases h:f∈r.map (·.1)
   ·rw[if_pos h,if_pos (by rw[DD];exact Dw _ h)];rfl
   ·rw[if_neg h,if_neg (by rw[DD];intro z;exact(DA.mp z).elim (λq=>e q.symm) h)];rfl
theorem oQ (f:Df) (v:V) {fs:List (Df×V)} (h:(fs.map (·.1)).Nodup):((et f v fs).map (·.1)).Nodup:=by
 rw[nI]
 split
 ·exact h
 ·rename_i hf
  refine GQ.mpr ⟨h,by simp,λa ha b hb=> ?_⟩
  rw[DM.mp hb]
  intro z;subst z;exact hf ha
theorem dW {α:Type} [DecidableEq α]:∀{l m:List α},l.Nodup->(∀x∈l,x∈m)->l.length<=m.length
 |[],_,_,_=>Ew _
 |a::l,m,h,s=>by
  obtain⟨h1,h2⟩:=Fq.mp h
  have ha:=s a Dt
  have:=dW (m:=m.erase a) h2 λx hx=>(List.mem_erase_of_ne (λz=>h1 (by rw[<-z];exact hx))).mpr (s x (Dw _ hx))
  rw[List.length_erase_of_mem ha]at this
  have hp:0<m.length:=List.length_pos_of_mem ha
  rw[DC]
  omega
theorem gP {α:Type} {f:Df}:∀{fs:List (Df×α)},f∈fs.map (·.1)->∃v,fs.lookup f=some v
 |(g,x)::r,h=>by
  rw[Ef]
  cases e:f==g with
  |true=>exact⟨x,rfl⟩
  |false=>
   rw[DD]at h
   rcases DA.mp h with z|z
   ·rw[z]at e;simp at e
   ·exact gP z
theorem RI.fld {K:Dd} {c:cm ly} {ρ:a9} {σ:St} {H F:Hp} (r:RI K c ρ σ H F) {L:cK} (hL:L∈ly) (hρ:ρ[L.x]? =some (some .obj)) {a dx:Dg} {fs:List (Df×V)} {i:Nat} (hx:σ[L.x]? =some (some (.ref a))) (ha:H a=some (.ins L.C dx fs)) (hf:(f,i)∈L.fl)
  (hn:∀p∈L.fl,p.1=f<->p.2=i) (Ov:L.x≠i) (M_:∀M∈ly,M≠L->M.x≠i/\∀p∈M.fl,p.2≠i) {v:V} {d:D} (hd:ci K F v d) (NG:i<σ.length):
  RI K c (ρ.set i (some (.val d))) (σ.set i (some v)) (a_ H a (.ins L.C dx (et f v fs))) F:=by
 obtain⟨b,NT,Mf,k0,k1,k2,k3,k4,k5,k6,k7,k8,k9,ON⟩:=r.obj L hL hρ
 rw[hx]at k1
 cases k1
 rw[ha]at k2
 cases k2
 have Lx:∀{b:Dg} {o:HO},H b=some o->iH K F o d->b≠a:=λ{b o} e q z=>by subst z;rw[ha]at e;cases e;cases q
 refine⟨⟨λx y e=> ?_,λx y e=> ?_,r.ext.grow,r.ext.new⟩,λj e q=> ?_,λj e q=> ?_,λj e q=> ?_,r.bh,λj k e e' x q1 q2 q3 q4=> ?_,by simp[r.len],λM hM hq=> ?_,λM hM M' Ox Pf Pg x q1 q2=> ?_,r.fm, .no λj x JJ g hs w=> ?_,λM hM a h=> ?_⟩
 ·rw[ai (λz=>by rw[z,k4]at e;cases e)];exact r.sub x y e
 ·rw[ai (λz=>by rw[z,k6]at e;cases e)];exact r.ext.keep x y e
 ·rcases am q with ⟨rfl,z,l⟩|⟨z,q⟩
  ·cases z;exact⟨v,dj NG,hd⟩
  ·rw[aa z];exact r.val j e q
 ·rcases am q with ⟨rfl,z,l⟩|⟨z,q⟩
  ·cases z
  ·obtain⟨x,o,g1,g2,g3,g4,g5⟩:=r.own j e q
   have nx:x≠a:=λz=>by subst z;rw[ha]at g2;cases g2;cases g5
   exact⟨x,o,by rw[aa z];exact g1,by rw[ai nx];exact g2,g3,g4,g5⟩
 ·rcases am q with ⟨rfl,z,l⟩|⟨z,q⟩
  ·cases z
  ·rw[aa z];exact r.bor j e q
 ·rcases am q1 with ⟨rfl,z,l⟩|⟨z,q1⟩
  ·cases z
  ·rcases am q2 with ⟨rfl,z',l⟩|⟨z',q2⟩
   ·cases z'
   ·rw[aa z]at q3;rw[aa z']at q4
    exact r.dis j k e e' x q1 q2 q3 q4
 ·by_cases Ml:M=L
  ·subst Ml
   refine⟨a,dx,et f v fs,k0,by rw[aa Ov.symm];exact hx,ar,?_,k4,k5,k6,k7,λp hp=> ?_,λg u hu=> ?_,oQ _ _ ON⟩
   ·rw[ai (λz=>by rw[z,ha]at k3;cases k3)];exact k3
   ·rw[bE]
    by_cases e:p.1=f
    ·rw[if_pos e,(hn p hp).mp e,dj NG];rfl
    ·rw[if_neg e,aa (λz=>e ((hn p hp).mpr z.symm))];exact k8 p hp
   ·rw[bE]at hu
    by_cases e:g=f
    ·subst e;exact G4.mpr ⟨_,hf,rfl⟩
    ·rw[if_neg e]at hu;exact k9 g u hu
  ·have ho:=M_ M hM Ml
   rw[aa ho.1.symm]at hq
   obtain⟨b,dy,gs,g0,g1,g2,g3,g4,g5,g6,g7,g8,g9⟩:=r.obj M hM hq
   have nb:b≠a:=λz=>Ml (r.odis M hM L hL hq hρ a (by rw[<-z];exact g1) hx)
   have nd:dy≠a:=λz=>by subst z;rw[ha]at g3;cases g3
   refine⟨b,dy,gs,g0,by rw[aa ho.1.symm];exact g1,by rw[ai nb];exact g2,by rw[ai nd];exact g3,g4,g5,g6,g7,λp hp=> ?_,g9⟩
   rw[aa (ho.2 p hp).symm];exact g8 p hp
 ·have NU:∀M∈ly,M.x≠i:=λM hM=>by
   by_cases Ml:M=L
   ·subst Ml;exact Ov
   ·exact(M_ M hM Ml).1
  rw[aa (NU M hM).symm]at q1 Pf
  rw[aa (NU M' Ox).symm]at q2 Pg
  exact r.odis M hM M' Ox Pf Pg x q1 q2
 ·rcases am w with ⟨rfl,z,l⟩|⟨z,w⟩
  ·cases z
  ·have:=r.cel.one j L.x x JJ g hs .obj w hρ rfl
   subst this
   rw[hρ]at w
   cases w
 ·have NU:M.x≠i:=by
   by_cases Ml:M=L
   ·subst Ml;exact Ov
   ·exact(M_ M hM Ml).1
  rw[aa NU.symm];exact r.pin M hM a h
def jx (x:Nat) (g:a9->R aR):a9->R aR:=λρ=>match ρ[x]? with
 |some (some .obj)=>g ρ
 |_=> .bad
theorem xE {c:cm ly} {x:Nat} {g:a9->R aR} {ρ:a9} {P:aR->Prop} (w:aA c (jx x g ρ) P):ρ[x]? =some (some .obj)/\aA c (g ρ) P:=by
 unfold jx at w
 split at w
 ·rename_i h;exact⟨h,w⟩
 ·exact w.elim
structure vB (ly:List cK) (L:cK) (f:Df) (i:Nat):Prop where
 mem:L∈ly
 fl:(f,i)∈L.fl
 un:∀p∈L.fl,p.1=f<->p.2=i
 x:L.x≠i
 oth:∀M∈ly,M≠L->M.x≠i/\∀p∈M.fl,p.2≠i
 few:L.fl.length<1000
theorem fU {value:Dn} {Kk px:DY} {fv:a9->R D} {y g:Df} {L:cK} (i:Nat) (hC:pA X.K L.C) (n:cb X.K L.C f) (A:vB ly L f i) (hv:PQ ly X value fv) (hN:X.N[L.x]? =some y:=by rfl) (QD:l7 X.env.scope y:=by first|exact E6 rfl|exact DW (E6 rfl)|exact DW (DW rfl)) (hd:(y==("__debug__":Df))=false:=by decide)
  (Lh:(y==("__classdict__":Df))=false:=by decide) (hi:X.N[i]? =some g:=by rfl) (hvis:¬l7 X.env.scope g:=by decide+kernel) (hs:Ei value (some (.Attribute (.Name y px) f Kk)) pos.line X.env=pure false:=by rfl):
  l9 ly X (.Assign [.Attribute (.Name y px) f Kk] value pos) (jx L.x (dn fv (gN i))):=λc JD s σ H D I q=>by
 refine su i hi hvis (pv L.x hN QD hd Lh) (hv c) hs JD s σ H D I ?_
 obtain⟨F,ρ,ri,w⟩:=q
 obtain⟨hρ,w⟩:=xE w
 refine⟨F,ρ,ri,(aA.bind.mp w).imp λd _ w1 v H1 F1 e1 r1=> ?_⟩
 have Ln:=ri.step e1
 obtain⟨a,dx,fs,h0,h1,h2,h3,h4,h5,h6,h7,h8,h9,OO⟩:=Ln.obj L A.mem hρ
 have NG:i<σ.length:=by rw[I.len];exact(Dy.mp hi).1
 have K7:fs.length<1000:=by
  have:=dW (m:=L.fl.map (·.1)) OO λx hx=>by
   obtain⟨v,e⟩:=gP hx
   exact h9 x v e
  rw[Dl,Dl]at this
  exact GF this A.few
 refine⟨.ref a,h1,a,L.C,dx,fs,rfl,h2,hC,n,K7,?_⟩
 exact w1 _ _ F1 e1.grow (Ln.fld A.mem hρ h1 h2 A.fl A.un A.x A.oth r1 NG)
end
end L2.Pu
namespace L2.Pu
open PySem PySem.Spec PyProof.Rows
variable {ly:List cK}
section
variable {X:Cx} {pos px:DY} {f y:Df}
def CI (x:Nat) (g:a9->R D):a9->R D:=λρ=>match ρ[x]? with
 |some (some .obj)=>g ρ
 |_=> .bad
end
def c4:List (Df×Nat)->a9->Option (List (Df×D))
 |[],_=>some []
 |p::r,ρ=>match ρ[p.2]? with
  |some (some (.val d))=>(c4 r ρ).map λt=>(p.1,d)::t
  |_=>none
def fV (n:Nat) (ds:List D):a9:=some Slot.obj::bK n ds
def tO (fl:List (Df×Nat)) (ρ:a9):R (List (Df×D)):=match ρ[0]? with
 |some (some Slot.obj)=>R.of (c4 fl ρ)
 |_=> .bad
def iB (k n:Nat) (fl:List (Df×Nat)) (g:a9->R aR) (ds:List D):R (List (Df×D)):=if ds.length=k then g (fV n ds)>>=λo=>match o with
 | .nx ρ=>tO fl ρ
 |_=> .bad else .bad
def vC (K:Dd) (C:Dg) (cls:Df) (k:Nat) (mi:List D->R (List (Df×D))):Sp:=λvs H Q E=>∃F x dx us ds Hz,vs= .ref x::us/\us.length=k/\az F Hz/\Hz x=none/\Hz dx=none/\dx≠x/\H=a_ (a_ Hz dx (.own x)) x (.ins C dx [])/\Reps K F us ds/\match mi ds with
 | .ok fds=>∀H' F',bc Hz F H' F'->ci K F' (.ref x) (.ins cls fds)->Q .non H'
 | .err z _=>∀ec a H' F',cW K z ec->bc Hz F H' F'->E ec a H'
 | .bad=>False
theorem j8 {K:Dd} {c:cm ly} {ρ:a9} {σ:St} {H F:Hp} (ri:RI K c ρ σ H F) {fs:List (Df×V)}:∀{fl:List (Df×Nat)} {fds:List (Df×D)},c4 fl ρ=some fds->(∀p∈fl,fs.lookup p.1=(σ[p.2]?).join)->
  ∃vs:List (Df×V),RepF K F vs fds/\vs.map (·.1)=fl.map (·.1)/\∀p∈vs,fs.lookup p.1=some p.2
 |[],fds,h,_=>by cases h;exact⟨[], .nil,rfl,λp hp=>by cases hp⟩
 |p::fl,fds,h,hl=>by
  unfold c4 at h
  split at h
  ·rename_i d hd
   cases e:c4 fl ρ with
   |none=>rw[e]at h;cases h
   |some t=>
    rw[e]at h
    cases h
    obtain⟨vs,h1,h2,h3⟩:=j8 ri e λq hq=>hl q (Dw _ hq)
    obtain⟨v,g1,g2⟩:=ri.val _ d hd
    refine⟨(p.1,v)::vs, .cons g2 h1,by rw[DD,DD,h2],λq hq=> ?_⟩
    rcases DA.mp hq with rfl|hq
    ·have:=hl p Dt
     rw[this,g1];rfl
    ·exact h3 q hq
  ·cases h
theorem nJ {K:Dd} {N:List Df} {C x dx:Dg} {fl:List (Df×Nat)} {Hz F:Hp} {us:List V} {ds:List D} {Er:Df->a9->Prop} {n:Nat} (hn:N.length=n+1) (s:az F Hz) (hx:Hz x=none) (Ph:Hz dx=none) (Lx:dx≠x) (r:Reps K F us ds) (R4:us.length<=n) (hg:∀p∈fl,us.length<p.2):
  RI K (⟨Hz,F,λ_=>none,Er,λ_=>some x,λ_=>none⟩:cm [⟨0,C,fl⟩]) (fV n ds) (cF N (.ref x::us)) (a_ (a_ Hz dx (.own x)) x (.ins C dx [])) F:=by
 have keep:az Hz (a_ (a_ Hz dx (.own x)) x (.ins C dx [])):=(bt Ph).trans (bt (by rw[ai (ET Lx)];exact hx))
 have hv:∀(i:Nat) sl,(fV n ds)[i]? =some (some sl)->(i=0/\sl= .obj)\/∃j d,i=j+1/\ds[j]? =some d/\sl= .val d:=λi sl h=>by
  cases i with
  |zero=>exact .inl ⟨rfl,by cases h;rfl⟩
  |succ j=>
   have h':(bK n ds)[j]? =some (some sl):=h
   refine .inr ?_
   unfold bK at h'
   rw[FN]at h'
   split at h'
   ·rw[DQ]at h'
    cases e:ds[j]? with
    |none=>rw[e]at h';cases h'
    |some d=>rw[e]at h';simp at h';exact⟨j,d,rfl,e,h'.symm⟩
   ·rw[ER]at h'
    split at h'<;>simp at h'
 have Pj:(cF N (V.ref x::us))[0]? =some (some (V.ref x)):=rfl
 refine⟨⟨s.trans keep,keep,az.refl _,λ_ h=> .inl h⟩,λi d h=> ?_,λi d h=> ?_,λi d h=> ?_,(λb o e=>by cases e),λi j d d' a h=> ?_,?_,λL hL _=> ?_,λL hL L' Mz _ _ a _ _=> ?_,(λ_ _ e=>by cases e), .no λi x JJ f hs h=>(by obtain⟨_,z⟩|⟨j,d',_,_,z⟩:=hv i _ h<;>cases z),λL hL a h=>by rw[DM.mp hL];cases h;exact Pj⟩
 ·obtain⟨rfl,z⟩|⟨j,d',rfl,e,z⟩:=hv i _ h
  ·cases z
  cases z
  obtain⟨v,h1,h2⟩:=r.get e
  refine⟨v,?_,h2⟩
  unfold cF
  have hl:j<us.length:=(Dy.mp h1).1
  rw[EE (by simpa using hl),DQ]
  show (us[j]?).map some=_
  rw[h1]
  rfl
 ·obtain⟨_,z⟩|⟨j,d',_,_,z⟩:=hv i _ h<;>cases z
 ·obtain⟨_,z⟩|⟨j,d',_,_,z⟩:=hv i _ h<;>cases z
 ·obtain⟨_,z⟩|⟨j,d',_,_,z⟩:=hv i _ h<;>cases z
 ·simp only[fV,bK,cF,DC,E5,Dl,Gj,hn]
  have:=r.length
  omega
 ·rw[DM.mp hL]
  refine⟨x,dx,[],(λb hb=>by cases hb;rfl),Pj,ar,?_,s.free hx,s.free Ph,hx,Ph,λp hp=> ?_,(λf v h=>by cases h),Jo⟩
  ·rw[ai Lx];exact ar
  ·have O1:=hg p hp
   show none=_
   unfold cF
   rw[FP (by simp;omega),ER]
   split<;>rfl
 ·rw[DM.mp hL,DM.mp Mz]
theorem xF {K:Dd} {C:Dg} {cls:Df} {fl:List (Df×Nat)} {c:cm [⟨0,C,fl⟩]} {ρ:a9} {σ:St} {H F:Hp} {fds:List (Df×D)} {x:Dg} (ri:RI K c ρ σ H F) (hρ:ρ[0]? =some (some .obj)) (QE:c.oa 0=some x) (MW:Dq K Dm cls=some (some (.ref C))) (h:c4 fl ρ=some fds):
  ∃F',bc c.H0 c.F0 H F'/\ci K F' (.ref x) (.ins cls fds):=by
 obtain⟨a,dx,fs,h0,h1,h2,h3,h4,h5,h6,h7,h8,h9,OO⟩:=ri.obj _ (DM.mpr rfl) hρ
 cases h0 x QE
 obtain⟨vs,g1,g2,g3⟩:=j8 ri h h8
 have Lx:dx≠x:=λz=>by rw[z,h2]at h3;cases h3
 have s1:az F (a_ F dx (.own x)):=bt h5
 have s2:az (a_ F dx (.own x)) (a_ (a_ F dx (.own x)) x (.ins C dx fs)):=bt (by rw[ai (ET Lx)];exact h4)
 have sF:=s1.trans s2
 refine⟨a_ (a_ F dx (.own x)) x (.ins C dx fs),⟨λb u e=> ?_,ri.ext.keep,ri.ext.grow.trans sF,λb e=> ?_⟩, .ins ar (by rw[ai Lx];exact ar) MW g3 (λf v e=>by rw[g2];exact h9 f v e) (g1.mono sF)⟩
 ·by_cases z:b=x
  ·subst z;rw[ar]at e;rw[<-e];exact h2
  ·rw[ai z]at e
   by_cases z2:b=dx
   ·subst z2;rw[ar]at e;rw[<-e];exact h3
   ·rw[ai z2]at e;exact ri.sub b u e
 ·by_cases z:b=x
  ·subst z;exact .inr h6
  ·rw[ai z]at e
   by_cases z2:b=dx
   ·subst z2;exact .inr h7
   ·rw[ai z2]at e;exact ri.ext.new b e
theorem xG {P:Dv} {w:DE} {K:Dd} {mg:Df->Option De} {base:DB} {x qual cls:Df} {st:DJ} {f C:Dg} {fd:Eg} {N ps:List Df} {k n m:Nat} {fl:List (Df×Nat)} {g:a9->R aR} (F:rY K x qual st f fd) (S:aw N ps (ac st))
  (MW:Dq K Dm cls=some (some (.ref C))) (hn:ps.length=n+1) (hm:N.length=m+1) (hg:∀p∈fl,n<p.2) (NO:n<=m)
  (K2:∀(JK:De) (A:DI) (outer:List EF) (s:Dh) (H:Hp) (E:XK),br k (A.deeper (EJ qual (ac st) s.heap.objs.size f JK))->
   fR [⟨0,C,fl⟩] (fA (i6 P w) P w K mg base N qual (ac st) f JK A outer s H E) (aO st) g):cV P w K mg base (i6 P w) (k+1) f fd ps (vC K C cls n (iB n m fl g)):=by
 refine Bz F S (λvs H Q E h=> ?_) (λJK A outer s H vs Q E hr h=> ?_)
 ·obtain⟨Fz,y,dy,us,ds,Hz,rfl,hl,_⟩:=h
  rw[DC,hl,hn]
 ·obtain⟨Fz,y,dy,us,ds,Hz,rfl,hl,sub,hy,Oy,Lx,rfl,r,w⟩:=h
  refine⟨_,K2 JK A outer s _ E hr ⟨⟨Hz,Fz,λ_=>none,λz _=>∀ec a H' F',cW K z ec->bc Hz Fz H' F'->E ec a H',λ_=>some y,λ_=>none⟩,oy λz ρ er ec a H' F' σ hc ri=>er ec a H' F' hc ri.ext⟩,?_⟩
  refine⟨Fz,fV m ds,nJ hm sub hy Oy Lx r (by omega) (λp hp=>by rw[hl];exact hg p hp),?_⟩
  have hd:ds.length=n:=by rw[<-r.length];exact hl
  unfold iB at w
  rw[if_pos hd]at w
  cases e:g (fV m ds)with
  |bad=>rw[e]at w;exact w.elim
  |err c ρ=>rw[e]at w;exact w
  |ok o=>
   rw[e]at w
   cases o with
   |nx ρ=>
    intro σ' H' F' _ LO
    rw[ah]at w
    split at w
    ·rename_i fds hf
     replace hf:tO fl ρ= .ok fds:=hf
     unfold tO at hf
     split at hf
     ·rename_i hρ
      cases e2:c4 fl ρ with
      |none=>rw[e2]at hf;cases hf
      |some Se=>
       rw[e2]at hf
       cases hf
       obtain⟨F2,x1,x2⟩:=xF LO hρ rfl MW e2
       exact w H' F2 x1 x2
     ·cases hf
    ·rename_i z ρe hf
     replace hf:tO fl ρ= .err z ρe:=hf
     unfold tO at hf
     split at hf
     ·cases e2:c4 fl ρ<;>rw[e2]at hf<;>cases hf
     ·cases hf
    ·exact w.elim
   |_=>exact w.elim
structure fW (P:Dv) (w:DE) (K:Dd) (mg:Df->Option De) (base:DB) (k:Nat) (cls:Df) (n:Nat) (mi:List D->R (List (Df×D))):Prop where
 ex:∃C f fd ps,cV P w K mg base (i6 P w) k f fd ps (vC K C cls n mi)/\mg cls=some (.ref C)/\Mk K C f/\dg K fd ps []
section
variable {X:Cx} {e:Dn} {es:List Dn} {fs:a9->R (List D)} {cls:Df} {p pos:DY}
def kQ (cls:Df) (n:Nat) (mi:List D->R (List (Df×D))) (fs:a9->R (List D)):a9->R D:=λρ=>fs ρ>>=λds=>if ds.length=n then (match mi ds with| .ok fds=> .ok (.ins cls fds)| .err x _=> .err x ρ| .bad=> .bad)else .bad
theorem oR {k n:Nat} {mi:List D->R (List (Df×D))} (G:fW X.prog X.w X.K X.mg X.base k cls n mi) (hr:br (k+1) X.A) (ha:qt ly X (e::es) fs) (hg:Gl X cls:=by rfl) (L4:(cls==("__debug__":Df))=false:=by decide)
  (he:Di (e::es) X.env=(false,DH e X.env)::Di es X.env:=by rfl) (KL:(DX pos (Di es X.env)).any (·.1)=false:=by rfl):PQ ly X (.Call (.Name cls p) (e::es) [] pos) (kQ cls n mi fs):=by
 obtain⟨C,f,fd,ps,h1,h2,h3,h4⟩:=G.ex
 refine λc=>PE.weak (o5 h3 h1 hr hg h2 h4 .nil (iR c) (ha c) L4 he KL) λσ H Q ⟨F,ρ,ri,w⟩=>⟨F,ρ,ri,(aA.bind.mp w).imp λds _ w1 vs H1 F1 e1 r1 x dx hx Ph Lx=> ?_⟩
 rw[Ed]
 split at w1
 ·rename_i hl
  refine⟨F1,x,dx,vs,ds,H1,rfl,by rw[r1.length];exact hl,e1.sub,hx,Ph,Lx,rfl,r1,?_⟩
  split at w1
  ·rename_i fds hm
   exact λH' F' e' r'=>⟨rfl,w1 _ H' F' (e1.trans e') r'⟩
  ·exact λec a H' F' hc e'=>⟨_,ρ,F',hc,ri.step (e1.trans e'),w1⟩
  ·exact w1.elim
 ·exact w1.elim
end
end L2.Pu
namespace L2.Pu
open PySem PySem.Spec PyProof.Rows
variable {ly:List cK}
section
variable {X:Cx} {e:Dn} {es:List Dn} {fs:a9->R (List D)} {x:Df} {np K9 pos:DY}
structure bC (K:Dd) (mg:Df->Option De) (x:Df):Prop where
 ex:∃C,Dq K Dm x=some (some (.ref C))/\mg x=some (.ref C)/\oo K C
def bv (x:Df) (fs:a9->R (List D)):a9->R aR:=λρ=>fs ρ>>=λds=>if ds.length<=lim then .err x ρ else .bad
theorem vD {c:gg ly X} {C:Dg} {σ:St} {H:Hp} {D:jV} {ρ:a9} {F:Hp} (MW:Dq X.K Dm x=some (some (.ref C)))
  (Oq:∀JD σ ρ H F s a cls x,au X JD σ H s->RI X.K c.1 ρ σ H F->Fl X JD H s.heap a cls->cW X.K x cls->c.1.Er x ρ->X.xe (.ref a) s)
  (ri:RI X.K c.1 ρ σ H F) (w:aA c.1 (bv x fs ρ) (eJ X.K c.1 F D)):u_ X C (Ad X.K c.1 fs) D σ H:=by
 refine⟨F,ρ,ri,(aA.bind.mp w).imp λds _ w1 vs H1 F1 e1 r1=> ?_⟩
 split at w1
 ·rename_i hl
  exact⟨E1 (by rw[r1.length];exact hl) gM,λJD s a I fl=>Oq JD σ ρ H1 F1 s a _ x I (ri.step e1) fl ⟨C,rfl,MW⟩ w1⟩
 ·exact w1.elim
theorem vE {c:cm ly} {ρ:a9} {F:Hp} {D:jV} (no:∀x ρ,¬c.Er x ρ) (w:aA c (bv x fs ρ) (eJ X.K c F D)):False:=by
 unfold bv at w
 cases h:fs ρ with
 |bad=>rw[h]at w;exact w
 |err y ρ'=>rw[h]at w;exact no _ _ w
 |ok ds=>
  rw[h,ah]at w
  split at w
  ·exact no _ _ w
  ·exact w
theorem cj (k:bC X.K X.mg x) (hc:X.calm=true) (ha:qt ly X (e::es) fs) (hg:Gl X x:=by rfl) (L4:(x==("__debug__":Df))=false:=by decide)
  (he:Di (e::es) X.env=(false,DH e X.env)::Di es X.env:=by rfl) (KL:(DX K9 (Di es X.env)).any (·.1)=false:=by rfl) (NL:X.stack=X.env::X.outer:=by rfl):l9 ly X (.Raise (some (.Call (.Name x np) (e::es) [] K9)) none pos) (bv x fs):=by
 obtain⟨C,h1,h2,h3⟩:=k.ex
 intro c JD s σ H D I q
 obtain⟨F,ρ,ri,w⟩:=q
 rcases c.2.plain NL with ⟨hp,Oq⟩|no
 ·exact v1 h3 h2 hp hc (ha c) hg L4 he KL JD s σ H D I (vD h1 Oq ri w)
 ·exact(vE (X:=X) no w).elim
end
def B8 (i:Nat):aR->aR
 | .nx ρ=> .nx (ρ.set i none)
 | .brk ρ=> .brk (ρ.set i none)
 | .cnt ρ=> .cnt (ρ.set i none)
 | .ret d=> .ret d
 | .retc d ρ=> .retc d (ρ.set i none)
def ma (i:Nat) (sub:Df->Bool) (gh:a9->R aR) (x:Df) (ρ:a9):R aR:=if sub x=true then (match gh (ρ.set i (some (.val (.exc x))))with
 | .ok o=> .ok (B8 i o)
 |_=> .bad)else .bad
def md (i:Nat) (sub:Df->Bool) (g gh:a9->R aR):a9->R aR:=λρ=>match g ρ with
 | .err x ρ'=>ma i sub gh x ρ'
 |r=>r
section
variable {X:Cx} {JD:List (Dg×DP)} {σ:St} {H:Hp} {s:Dh}
abbrev _root_.L2.Cx.inT (X:Cx) (E:De->Dh->Prop) (pn:List (Dg×DP)):Cx:={X with xe:=E,pn:=pn}
theorem D3 {E:De->Dh->Prop} {pn:List (Dg×DP)} (ok:X.Ok):(X.inT E pn).Ok:=
 ⟨ok.mod,ok.kind,ok.glob,ok.blt,ok.above,ok.inj,ok.has,ok.cab,ok.hd,ok.frames,ok.stk,ok.exf,ok.bs,ok.bsz,ok.noex,ok.exfs,ok.funs,ok.frf⟩
theorem inT {E:De->Dh->Prop} (I:au X JD σ H s):au (X.inT E (X.pn++JD)) [] σ H s:=⟨D3 I.ok,I.os,I.bare,I.base,I.loc,I.cell,I.free,I.freeC,λp hp=>I.pin p (by simpa using hp),I.hok,I.len⟩
theorem vF {E:De->Dh->Prop} {Ll:List (Dg×DP)} (ok:X.Ok) (I:au (X.inT E (X.pn++JD)) Ll σ H s):au X JD σ H s:=⟨ok,I.os,I.bare,I.base,I.loc,I.cell,I.free,I.freeC,λp hp=>I.pin p (Ej _ hp),I.hok,I.len⟩
theorem newT {E:De->Dh->Prop} {Ll:List (Dg×DP)} {b:Dg} (n:qS (X.inT E (X.pn++JD)) Ll H b):qS X JD H b:=⟨n.s0,n.no,λp hp=>n.pin p (Ej _ hp)⟩
theorem D4 {E:De->Dh->Prop} {Ll:List (Dg×DP)} {h:DB} {a:Dg} {cls:De} (f:Fl (X.inT E (X.pn++JD)) Ll H h a cls):Fl X JD H h a cls:=by
 obtain⟨oe,vs,h1,h2,h3,h4⟩:=f.at_
 refine⟨newT f.new,oe,vs,h1,h2,h3,h4.imp id λ⟨T,fl,e,t,hf⟩=>⟨T,fl,e,⟨newT t.new,t.ne,t.at_⟩,hf⟩⟩
theorem D5 {E:De->Dh->Prop} {D:jV} {f:Flow} (ok:X.Ok) (h:SP (X.inT E (X.pn++JD)) [] D f s):SP X JD D f s:=by
 cases f with
 |next=>obtain⟨σ',H',I,q⟩:=h;exact⟨σ',H',vF ok I,q⟩
 |brk=>obtain⟨σ',H',I,q⟩:=h;exact⟨σ',H',vF ok I,q⟩
 |cont=>obtain⟨σ',H',I,q⟩:=h;exact⟨σ',H',vF ok I,q⟩
 |ret u=>obtain⟨v,σ',H',I,r,q⟩:=h;exact⟨v,σ',H',vF ok I,r,q⟩
end
section
variable {K:Dd} {c:cm ly} {ρ:a9} {σ:St} {H F:Hp}
def cm.er (c:cm ly) (F:Hp) (Er:Df->a9->Prop):cm ly:=⟨c.H0,c.F0,c.B,Er,c.oa,F⟩
theorem RI.er {Er:Df->a9->Prop} (r:RI K c ρ σ H F):RI K (c.er F Er) ρ σ H F:=⟨r.ext,r.val,r.own,r.bor,r.bh,r.dis,r.len,r.obj,r.odis,az.refl _,r.cel,r.pin⟩
theorem RI.unEr {F1:Hp} {Er:Df->a9->Prop} (r:RI K (c.er F1 Er) ρ σ H F) (m:az c.Fm F1):RI K c ρ σ H F:=⟨r.ext,r.val,r.own,r.bor,r.bh,r.dis,r.len,r.obj,r.odis,m.trans r.fm,r.cel,r.pin⟩
theorem eJ.er {D:jV} {o:aR} {F1:Hp} {Er:Df->a9->Prop} (m:az c.Fm F1) (h:eJ K c F D o):eJ K (c.er F1 Er) F D o:=by
 cases o with
 |nx ρ=>exact λσ' H' F' s r=>h σ' H' F' s (r.unEr m)
 |brk ρ=>exact λσ' H' F' s r=>h σ' H' F' s (r.unEr m)
 |cnt ρ=>exact λσ' H' F' s r=>h σ' H' F' s (r.unEr m)
 |ret d=>exact λv H' F' s e r=>h v H' F' s e r
 |retc d ρ=>exact λv σ' H' F' s e r=>h v σ' H' F' s (e.unEr m) r
end
section
variable {X:Cx} {body Mi:List DJ} {b₀:DJ} {g gh:a9->R aR} {cx n:Df} {np Nh pos:DY} {sub:Df->Bool}
structure mh (K:Dd) (mg:Df->Option De) (cx:Df) (sub:Df->Bool):Prop where
 ex:∃C,mg cx=some (.ref C)/\∀x cls,sub x=true->cW K x cls->FG K cls (.ref C)=some true
theorem vG (i:Nat) (p:f_ X) (hN:X.N.Nodup) (U:mh X.K X.mg cx sub) (hb:∀E pn,fR ly (X.inT E pn) body g) (hh:∀v,fR ly (X.inH v) (b₀::Mi) gh) (hi:X.N[i]? =some n:=by rfl) (hk:X.env.scope.names.lookup n=some .local:=by rfl) (hg:Gl X cx:=by rfl)
  (L4:(cx==("__debug__":Df))=false:=by decide) (LC:iI ly i:=by(repeat (first|assumption|exact L2.Pu.d_|refine L2.Pu.d7 ⟨by first|decide|simp,by first|decide|simp⟩ ?_))):l9 ly X (.Try body [.ExceptHandler (some (.Name cx np)) (some n) (b₀::Mi) Nh] [] [] pos) (md i sub g gh):=by
 obtain⟨Cc,hm,QF⟩:=U.ex
 intro c JD s σ H D I q
 obtain⟨F,ρ,ri,w⟩:=q
 refine wpAny_Try_except ?_
 have ok:=I.ok
 let Ru:De->Dh->Prop:=λe s₁=>Du (Dx X.prog X.w) X.A (Iv e X.env) (λ_ s₂=>Du (Dx X.prog X.w) X.A (setFlight e none) (λ_ s₃=>Du (Dx X.prog X.w) X.A (handleBy e X.env [.ExceptHandler (some (.Name cx np)) (some n) (b₀::Mi) Nh]) (SP X JD D) X.xe s₃) X.xe s₂) X.xe s₁
 let c':cm ly:=c.1.er F λx ρ'=>aA c.1 (ma i sub gh x ρ') (eJ X.K c.1 F D)
 have Oq:zu (X.inT Ru (X.pn++JD)) c':=by
  refine .inl ⟨⟨p.st,p.fr,p.ex⟩,λLl σ' ρ' H' F' s' a cls x I' LO fl ec er=> ?_⟩
  obtain⟨C,rfl,MW⟩:=ec
  have O4:RI X.K c.1 ρ' σ' H' F':=LO.unEr ri.fm
  have sF:az F F':=LO.fm
  refine pL (vF ok I') p (D4 fl) λh2 I2 f2=> ?_
  replace er:aA c.1 (ma i sub gh x ρ') (eJ X.K c.1 F D):=er
  unfold ma at er
  split at er
  ·rename_i hs
   refine tE I2 p f2 hN hi hk hg hm (QF x _ hs ⟨C,rfl,MW⟩) L4 λs3 I3=> ?_
   have e2:=bc.lay (o:= .ext (gf a (.ref C))) O4.sub f2.new.no
   have Nk:=(O4.step e2).setVal i LC (ci.exc ar MW)
   split at er
   ·rename_i o ho
    let D2:jV:={nx:=λσ1 H1=>D.nx (σ1.set i none) H1,rt:=D.rt,bk:=λσ1 H1=>D.bk (σ1.set i none) H1,ct:=λσ1 H1=>D.ct (σ1.set i none) H1}
    have QG:eJ X.K (c.1.er F λ_ _=>False) (a_ F' a (.ext (gf a (.ref C)))) D2 o:=by
     have Pk:=sF.trans e2.grow
     cases o with
     |nx ρ1=>exact λσ1 H1 F1 s1 r1=>er _ H1 F1 (Pk.trans s1) ((r1.unEr ri.fm).setNone i LC)
     |brk ρ1=>exact λσ1 H1 F1 s1 r1=>er _ H1 F1 (Pk.trans s1) ((r1.unEr ri.fm).setNone i LC)
     |cnt ρ1=>exact λσ1 H1 F1 s1 r1=>er _ H1 F1 (Pk.trans s1) ((r1.unEr ri.fm).setNone i LC)
     |ret d=>exact λv H1 F1 s1 e1 r1=>er v H1 F1 (Pk.trans s1) e1 r1
     |retc d ρ1=>exact λv σ1 H1 F1 s1 e1 r1=>er v _ H1 F1 (Pk.trans s1) ((e1.unEr ri.fm).setNone i (v:=none) LC) r1
    have Sf:RI X.K (c.1.er F λ_ _=>False) (ρ'.set i (some (.val (.exc x)))) (σ'.set i (some (.ref a))) (a_ H' a (.ext (gf a (.ref C)))) (a_ F' a (.ext (gf a (.ref C)))):=⟨Nk.ext,Nk.val,Nk.own,Nk.bor,Nk.bh,Nk.dis,Nk.len,Nk.obj,Nk.odis,sF.trans e2.grow,Nk.cel,Nk.pin⟩
    refine cn (hh (.ref a) ⟨c.1.er F λ_ _=>False, .no λ_ _ z=>z⟩ JD s3 _ _ D2 I3 ⟨_,_,Sf,by rw[ho];exact QG⟩) λf s4 q4=> ?_
    have NV:∀{σ1 H1},au (X.inH (.ref a)) JD σ1 H1 s4->(∀s5,au X JD (σ1.set i none) H1 s5->SP X JD D f s5)->Du (Dx X.prog X.w) X.A (do bindName X.env n E3;Gx X.env n Nh) (λ_ s5=>SP X JD D f s5) X.xe s4:=λI4 kk=>tz (I4.outH ok) hN hi hk kk
    cases f with
    |next=>obtain⟨σ1,H1,I4,q5⟩:=q4;exact NV I4 λs5 I5=>⟨_,H1,I5,q5⟩
    |brk=>obtain⟨σ1,H1,I4,q5⟩:=q4;exact NV I4 λs5 I5=>⟨_,H1,I5,q5⟩
    |cont=>obtain⟨σ1,H1,I4,q5⟩:=q4;exact NV I4 λs5 I5=>⟨_,H1,I5,q5⟩
    |ret u=>obtain⟨v,σ1,H1,I4,r,q5⟩:=q4;exact NV I4 λs5 I5=>⟨v,_,H1,I5,r,q5⟩
   ·exact er.elim
  ·exact er.elim
 have wb:aA c' (g ρ) (eJ X.K c' F D):=by
  unfold md at w
  cases h:g ρ with
  |bad=>rw[h]at w;exact w
  |err x ρ'=>rw[h]at w;exact w
  |ok o=>rw[h]at w;exact eJ.er ri.fm w
 refine cn (hb Ru (X.pn++JD) ⟨c',Oq⟩ [] s σ H D (inT I) ⟨F,ρ,ri.er,wb⟩) λf s1 q1=> ?_
 have q2:=D5 ok q1
 cases f with
 |next=>exact Gq q2
 |brk=>exact q2
 |cont=>exact q2
 |ret u=>exact q2
end
section
variable {X:Cx} {a:Dn} {fa:a9->R D} {x:Df} {p p2 pos:DY} {tb:Df->Option Bool}
structure iS (K:Dd) (v:De) (tb:Df->Option Bool):Prop where
 ok:∀x b cls,tb x=some b->cW K x cls->Ea K cls v=some b/\∃C,cls= .ref C/\oo K C
def de (tb:Df->Option Bool) (f:a9->R D):a9->R D:=λρ=>f ρ>>=λd=>match d with
 | .exc x=>R.of ((tb x).map .bl)
 |_=> .bad
def B9 (K:Dd):List V->Hp->VK->Prop:=λxs H Q=>∃a C v c b,xs=[.ref a,v]/\H a=some (.ext (gf a (.ref C)))/\oo K C/\((∃T,v= .ty T/\c= .type T)\/∃C2,v= .ref C2/\c= .ref C2)/\Ea K (.ref C) c=some b/\Q (.bl b) H
theorem pY:d6 X (.builtin "isinstance") (B9 X.K):=by
 intro JD s σ H xs us Q I rv h
 obtain⟨a,C,v,c,b,rfl,ea,k,hc,e,q⟩:=h
 obtain⟨u,w',rfl,ru,N5⟩:=yh rv
 cases (show u=DL a from ru)
 obtain⟨⟨o,g1,g2⟩,_⟩:=(show bd X.prog X.w H s.heap a (.ext (gf a (.ref C)))from I.hok a _ ea)
 have ew:w'=c:=by
  rcases hc with ⟨T,rfl,rfl⟩|⟨C2,rfl,rfl⟩
  ·exact N5
  ·exact N5
 subst ew
 exact Ec (uZ k) I.kIn ⟨o,g1,g2⟩ e (λz=>nomatch z) λtk=>⟨.bl b,H,I.tok tk,rfl,q⟩
theorem bV.exc {K:Dd} {H F:Hp} {v:V} {x:Df} (s:az F H):bV K H F v (.exc x)->∃a C,v= .ref a/\H a=some (.ext (gf a (.ref C)))/\Dq K Dm x=some (some (.ref C)):=λh=>by
 obtain⟨a,C,e,h,n⟩:=h.in rfl
 exact⟨a,C,e,s _ _ h,n⟩
theorem vH {K:Dd} {c:cm ly} {tv:V} {cv:De} {σ:St} {H:Hp} {Q:VK} (T:iS K cv tb) (hv:(∃T,tv= .ty T/\cv= .type T)\/∃C2,tv= .ref C2/\cv= .ref C2) (h:tQ K c (de tb fa) σ H Q):
  tB' K c fa σ H λv H1=>B9 K [v,tv] H1 Q:=by
 obtain⟨F,ρ,ri,w⟩:=h
 refine⟨F,ρ,ri,(aA.bind.mp w).imp λd _ w1 v H1 F1 e1 r1=> ?_⟩
 cases d with
 |exc x=>
  obtain⟨d',hd,k⟩:=w1.of
  cases ht:tb x with
  |none=>rw[ht]at hd;cases hd
  |some b=>
   rw[ht]at hd
   cases hd
   obtain⟨a,C,rfl,h1,h2⟩:=r1.exc e1.sub
   obtain⟨g1,C',g2,g3⟩:=T.ok x b (.ref C) ht ⟨C,rfl,h2⟩
   cases g2
   exact⟨a,C,tv,cv,b,rfl,h1,g3,hv,g1,k _ H1 F1 e1 (.bl b)⟩
 |_=>exact w1.elim
theorem Ba {C2:Dg} (T:iS X.K (.ref C2) tb) (hm:X.mg x=some (.ref C2)) (NS:X.mg "isinstance"=none) (ha:PB ly X a fa) (Ou:Gl X "isinstance":=by rfl) (hg:Gl X x:=by rfl) (L4:(x==("__debug__":Df))=false:=by decide)
  (he:Di [a, .Name x p2] X.env=(false,DH a X.env)::Di [.Name x p2] X.env:=by rfl) (Ny:Di [.Name x p2] X.env=(false,DH (.Name x p2) X.env)::Di [] X.env:=by rfl) (KL:(DX pos (Di [.Name x p2] X.env)).any (·.1)=false:=by rfl):
  PQ ly X (.Call (.Name "isinstance" p) [a, .Name x p2] [] pos) (de tb fa):=λc=>
 PE.weak (jm pY Ou NS lQ (cR (ha c) (cR (rL hg hm (v:= .ref C2) rfl L4) gI Ny) he) (by decide) (by decide) he KL) λσ H Q h=>vH T (.inr ⟨C2,rfl,rfl⟩) h
theorem rf {Ty:String} (T:iS X.K (.type Ty) tb) (hv:DZ x=some (.type Ty)) (hm:X.mg x=none) (NS:X.mg "isinstance"=none) (ha:PB ly X a fa) (Ou:Gl X "isinstance":=by rfl) (hg:Gl X x:=by rfl) (hn:x≠"__name__":=by decide) (L4:(x==("__debug__":Df))=false:=by decide)
  (he:Di [a, .Name x p2] X.env=(false,DH a X.env)::Di [.Name x p2] X.env:=by rfl) (Ny:Di [.Name x p2] X.env=(false,DH (.Name x p2) X.env)::Di [] X.env:=by rfl) (KL:(DX pos (Di [.Name x p2] X.env)).any (·.1)=false:=by rfl):
  PQ ly X (.Call (.Name "isinstance" p) [a, .Name x p2] [] pos) (de tb fa):=λc=>
 PE.weak (jm pY Ou NS lQ (cR (ha c) (cR (rM (v:= .ty Ty) hg hm hv rfl hn L4) gI Ny) he) (by decide) (by decide) he KL) λσ H Q h=>vH T (.inl ⟨Ty,rfl,rfl⟩) h
end
end L2.Pu
namespace L2.Pu
open PySem PySem.Spec PyProof.Rows
variable {ly:List cK}
def mV:D->Option Int
 | .tup (.int k::_)=>some k
 |_=>none
def dG (d:D):Int:=(mV d).getD 0
def cB:List D->Option (List Int)
 |[]=>some []
 |d::r=>(mV d).bind λk=>(cB r).map (k::·)
def rg (d:D):List D->List D
 |[]=>[d]
 |e::r=>if dG d<=dG e then d::e::r else e::rg d r
def iT:List D->List D
 |[]=>[]
 |d::r=>rg d (iT r)
theorem kh (d:D):∀l:List D,(rg d l).Perm (d::l)
 |[]=> .refl _
 |e::r=>by
  unfold rg
  split
  ·exact .refl _
  ·exact((kh d r).cons e).trans (.swap d e r)
theorem mj:∀l:List D,(iT l).Perm l
 |[]=> .refl _
 |d::r=>(kh d _).trans ((mj r).cons d)
theorem kR (d:D):∀{l:List D},l.Pairwise (λa b=>dG a<=dG b)->(rg d l).Pairwise (λa b=>dG a<=dG b)
 |[],_=>by simp[rg]
 |e::r,h=>by
  obtain⟨h1,h2⟩:=Ee.mp h
  unfold rg
  split
  ·rename_i hd
   refine Ee.mpr ⟨λx hx=> ?_,h⟩
   rcases DA.mp hx with rfl|hx
   ·exact hd
   ·exact Int.le_trans hd (h1 x hx)
  ·rename_i hd
   refine Ee.mpr ⟨λx hx=> ?_,kR d h2⟩
   rcases DA.mp ((kh d r).mem_iff.mp hx)with rfl|hx
   ·omega
   ·exact h1 x hx
theorem jy:∀l:List D,(iT l).Pairwise (λa b=>dG a<=dG b)
 |[]=> .nil
 |d::r=>kR d (jy r)
theorem kS:∀{l m:List D},l.Perm m->l.Pairwise (λa b=>dG a<dG b)->m.Pairwise (λa b=>dG a<dG b)->l=m
 |[],m,p,_,_=>(J3 p)
 |a::l,[],p,_,_=>absurd p.length_eq (by simp)
 |a::l,b::m,p,h1,h2=>by
  obtain⟨g1,g2⟩:=Ee.mp h1
  obtain⟨k1,k2⟩:=Ee.mp h2
  have e:a=b:=by
   have ha:a∈b::m:=p.mem_iff.mp Dt
   have hb:b∈a::l:=p.mem_iff.mpr Dt
   rcases DA.mp ha with z|ha
   ·exact z
   ·rcases DA.mp hb with z|hb
    ·exact z.symm
    ·have:=g1 b hb
     have:=k1 a ha
     omega
  subst e
  rw[kS (p.cons_inv) g2 k2]
theorem tP {l:List D} (h:l.Pairwise (λa b=>dG a<=dG b)) (nd:(l.map dG).Nodup):l.Pairwise (λa b=>dG a<dG b):=by
 have:=F9.mp nd
 exact(h.and this).imp λ{x y} ⟨a,b⟩=>by omega
theorem pZ {l m:List D} (p:l.Perm m) (h:m.Pairwise (λa b=>dG a<dG b)):iT l=m:=by
 have q:=(mj l).trans p
 refine kS q (tP (jy l) ?_) h
 refine(q.map dG).nodup_iff.mpr (F9.mpr (h.imp λz=>Int.ne_of_lt z))
theorem kU:∀{ds:List D} {ks:List Int},cB ds=some ks->ks=ds.map dG
 |[],ks,h=>by cases h;rfl
 |d::r,ks,h=>by
  replace h:((mV d).bind λk=>(cB r).map (k::·))=some ks:=h
  cases e:mV d with
  |none=>rw[e]at h;cases h
  |some k=>
   rw[e]at h
   cases e2:cB r with
   |none=>rw[e2]at h;cases h
   |some q=>
    rw[e2]at h
    cases h
    rw[DD,<-kU e2]
    simp[dG,e]
theorem xH {K:Dd} {H F:Hp} (s:az F H):∀{ds:List D} {ks:List Int} {vs:List V},cB ds=some ks->Reps K F vs ds->gL H vs ks:=by
 intro ds
 induction ds with
 |nil=>intro ks vs h r;cases r.nilI;cases h;exact .nil
 |cons d r ih=>
  intro ks vs h rr
  replace h:((mV d).bind λk=>(cB r).map (k::·))=some ks:=h
  obtain⟨v0,us,rfl,rv,t⟩:=rr.consI
  obtain⟨k,ds,rfl⟩:∃k ds,d= .tup (.int k::ds):=by
   cases d with
   |tup xs=>
    cases xs with
    |nil=>cases h
    |cons x xs=>
     cases x with
     |int k=>exact⟨k,xs,rfl⟩
     |_=>cases h
   |_=>cases h
  obtain⟨a0,xs,rfl,h1,r2⟩:=rv.tupI
  obtain⟨k1,Tu,rfl,rk,t1⟩:=r2.consI
  cases rk.intI
  ·cases e2:cB r with
   |none=>rw[e2]at h;cases h
   |some q=>
    rw[e2]at h
    cases h
    exact .cons (s _ _ h1) (ih e2 t)
theorem nK {K:Dd} {F:Hp} {vs:List V} {ds:List D} (h:Reps K F vs ds):∀q:List Nat,(∀i∈q,i<ds.length)->Reps K F (q.map λi=>vs.getD i .non) (q.map λi=>ds.getD i .non)
 |[],_=> .nil
 |i::q,hq=>by
  have hi:=hq i Dt
  obtain⟨v,h1,h2⟩:=h.get (i:=i) (d:=ds[i]) (Ff hi)
  refine .cons ?_ (nK h q λj hj=>hq j (Dw _ hj))
  show ci K F (vs.getD i .non) (ds.getD i .non)
  rw[EZ,EZ,h1,Ff hi]
  exact h2
theorem p_ {ds:List D} {q:List Nat} (p:lS (ds.map dG) q):(q.map λi=>ds.getD i .non)=iT ds:=by
 obtain⟨p1,p2⟩:=p
 rw[Dl]at p1
 have hm:∀i∈q,i<ds.length:=λi hi=>Ex.mp (p1.mem_iff.mp hi)
 have perm:(q.map λi=>ds.getD i .non).Perm ds:=by
  refine(p1.map λi=>ds.getD i .non).trans ?_
  have e:(Eb ds.length).map (λi=>ds.getD i .non)=ds:=by
   refine J4 (by simp) λi h1 h2=> ?_
   simp[h2]
  rw[e]
 symm
 refine pZ perm.symm ?_
 rw[F9]at p2 ⊢
 refine p2.imp_of_mem λ{a b} ha hb z=> ?_
 have ea:(ds.map dG).getD a 0=dG (ds.getD a .non):=by simp[hm a ha]
 have eb:(ds.map dG).getD b 0=dG (ds.getD b .non):=by simp[hm b hb]
 rw[ea,eb]at z
 exact z
def jz:List D->Option D
 |[.lst ds]=>(cB ds).bind λks=>if ks.Nodup/\ks.length<64 then some (.lst (iT ds))else none
 |[.tup ds]=>(cB ds).bind λks=>if ks.Nodup/\ks.length<64 then some (.lst (iT ds))else none
 |_=>none
def jA:List V->Hp->VK->Prop:=λxs H Q=>∃p ys ks,xs=[.ref p]/\(H p=some (.lst ys)\/H p=some (.tup ys))/\gL H ys ks/\ks.Nodup/\ks.length<64/\∀l q,H l=none->lS ks q->Q (.ref l) (a_ H l (.lst (q.map λi=>ys.getD i .non)))
theorem ml {K:Dd} {H F:Hp} {p:Dg} {ys:List V} {ds:List D} {d:D} {Q:VK} (s:az F H) (hp:H p=some (.lst ys)\/H p=some (.tup ys)) (r:Reps K F ys ds) (h:((cB ds).bind λks=>if ks.Nodup/\ks.length<64 then some (D.lst (iT ds))else none)=some d)
  (k:∀w H' F',bc H F H' F'->ci K F' w d->Q w H'):jA [.ref p] H Q:=by
 cases e:cB ds with
 |none=>rw[e]at h;cases h
 |some ks=>
  rw[e]at h
  replace h:(if ks.Nodup/\ks.length<64 then some (D.lst (iT ds))else none)=some d:=h
  split at h
  ·rename_i hk
   cases h
   refine⟨p,ys,ks,rfl,hp,xH s e r,hk.1,hk.2,λl q hl pl=> ?_⟩
   have ek:=kU e
   subst ek
   have e2:=bc.lay (o:= .lst (q.map λi=>ys.getD i .non)) s hl
   refine k _ _ _ e2 (.lst ar ?_)
   rw[<-p_ pl]
   refine(nK r q λi hi=> ?_).mono e2.grow
   have:=Ex.mp (pl.1.mem_iff.mp hi)
   simpa using this
  ·cases h
theorem q0 {K:Dd}:lW K jA jz:=by
 intro vs ds d H F Q s rv h k
 match ds,h with
 |[.lst xs],h=>
  obtain⟨v,rfl,r⟩:=rv.one
  obtain⟨a,ws,rfl,h1,h2⟩:=r.lst s
  exact ml s (.inl h1) h2 h k
 |[.tup xs],h=>
  obtain⟨v,rfl,r⟩:=rv.one
  obtain⟨a,ws,rfl,h1,h2⟩:=r.tup s
  exact ml s (.inr h1) h2 h k
def f8 (ds:List D):Option D:=match f7 ds with
 |some d=>some d
 |none=>jz ds
theorem jB {X:Cx} (hc:X.calm=true):d6 X (.builtin "sorted") (λxs H Q=>jv X.K xs H Q\/jA xs H Q):=(oP hc).or ol
theorem kW {K:Dd}:lW K (λxs H Q=>jv K xs H Q\/jA xs H Q) f8:=by
 intro vs ds d H F Q s rv h k
 unfold f8 at h
 cases e:f7 ds with
 |some d'=>rw[e]at h;cases h;exact .inl (pX vs ds d H F Q s rv e k)
 |none=>rw[e]at h;exact .inr (q0 vs ds d H F Q s rv h k)
section
variable {X:Cx} {a b e:Dn} {es:List Dn} {fa fb f:a9->R D} {fs:a9->R (List D)} {pos p:DY} {x:Df} {id T:String} {rc:List V->Hp->VK->Prop}
end
section
variable {K:Dd}
end
end L2.Pu
namespace L2.Pu
open PySem PySem.Spec PyProof.Rows
variable {ly:List cK}
structure cc (K:Dd) (cls m qual:Df) (st:DJ) (ps:List Df):Prop where
 ex:∃C f fd,rY K m qual st f fd/\fG K cls C/\qB K C m f/\dg K fd ps []
structure ki (K:Dd) (mg:Df->Option De) (cls qual:Df) (st:DJ) (ps:List Df) (fs:List Df):Prop where
 ex:∃C f fd,rY K "__init__" qual st f fd/\fG K cls C/\mg cls=some (.ref C)/\Mk K C f/\dg K fd ps []/\∀x∈fs,cb K C x
structure bI (K:Dd) (cls:Df) (fs:List Df):Prop where
 ex:∃C,fG K cls C/\∀x∈fs,cb K C x
section
variable {P:Dv} {w:DE} {K:Dd} {mg:Df->Option De} {base:DB}
theorem bM {cls mm qual:Df} {st:DJ} {N ps:List Df} {k n m:Nat} {g:a9->R aR} (A:cc K cls mm qual st ps) (S:aw N ps (ac st)) (hn:ps.length=n) (hm:N.length=m)
  (K2:∀(f:Dg) (JK:De) (A:DI) (outer:List EF) (s:Dh) (H:Hp) (E:XK),br k (A.deeper (EJ qual (ac st) s.heap.objs.size f JK))->
   fR [] (fA (i6 P w) P w K mg base N qual (ac st) f JK A outer s H E) (aO st) g):aE P w K mg base (k+1) cls mm n (aQ n m g):=by
 obtain⟨C,f,fd,F,h1,h2,h3⟩:=A.ex
 exact⟨C,f,fd,ps,zA F S hn hm λJK A outer s H E hr=>K2 f JK A outer s H E hr,h1,h2,h3⟩
theorem nL {cls qual:Df} {st:DJ} {N ps fs:List Df} {k n m:Nat} {fl:List (Df×Nat)} {g:a9->R aR} (A:ki K mg cls qual st ps fs) (S:aw N ps (ac st)) (hn:ps.length=n+1) (hm:N.length=m+1) (hg:∀p∈fl,n<p.2) (NO:n<=m)
  (K2:∀(C f:Dg) (JK:De) (A:DI) (outer:List EF) (s:Dh) (H:Hp) (E:XK),pA K C->(∀x∈fs,cb K C x)->br k (A.deeper (EJ qual (ac st) s.heap.objs.size f JK))->
   fR [⟨0,C,fl⟩] (fA (i6 P w) P w K mg base N qual (ac st) f JK A outer s H E) (aO st) g):fW P w K mg base (k+1) cls n (iB n m fl g):=by
 obtain⟨C,f,fd,F,h1,h2,h3,h4,h5⟩:=A.ex
 exact⟨C,f,fd,ps,xG F S h1.ns hn hm hg NO λJK A outer s H E hr=>K2 C f JK A outer s H E h1.cl h5 hr,h2,h3,h4⟩
theorem f9 {C:Dg} {fl:List (Df×Nat)} {f:Df} {i:Nat} (h1:(f,i)∈fl) (h2:∀p∈fl,p.1=f<->p.2=i) (h3:0≠i) (h4:fl.length<1000):vB [⟨0,C,fl⟩] ⟨0,C,fl⟩ f i:=
 ⟨Dt,h1,h2,h3,λM hM Lx=>absurd (DM.mp hM) Lx,h4⟩
theorem xI {C:Dg} (e1:E9 K C om "ValueError.__new__"=true) (e2:Ds K (.ref C) "__getattribute__"=some (some (.builtin "BaseException.__getattribute__"))) (e3:Ds K (.ref C) "__getattr__"=some none)
  (e4:Ds K (.ref C) "__class__"=some (some (.builtin "object.__class__"))) (e5:DR K C (.type "object")=some true) (e6:DR K C (.type "BaseException")=some true) (e7:FF K (.ref C) (.ref C)=some true)
  (e8:Fx K (.builtin "object.__class__") "__get__"=some (some (.builtin "getset_descriptor.__get__"))) (e9:F_ K (.builtin "object.__class__")=some true):oo K C:=
 ⟨⟨_,_,_,_,e1,F.excBase_ValueError,by decide⟩,e2,e3,e4,e8,e9,e5,e6,e7⟩
theorem rh {D:Dg} {NN:List De} {Oz:String} (e:E9 K D NN Oz=true):((Jt K D).isSome&&HD K (.ref D)==some (.type "type"))=true:=by
 unfold E9 at e
 split at e
 ·rename_i lk
  unfold Jt HD
  simp only[lk]
  rfl
 ·cases e
theorem kj {C D:Dg} {b:Bool} {NN:List De} {Oz:String} (e:E9 K D NN Oz=true) (m:DR K C (.ref D)=some b):FF K (.ref C) (.ref D)=some b:=by
 unfold FF
 dsimp only
 rw[if_pos (rh e)]
 exact m
theorem tR {C D:Dg} {b:Bool} {NN:List De} {Oz:String} (e:E9 K D NN Oz=true) (m:DR K C (.ref D)=some b) (s:DR K C (.ref C)=some true):Ea K (.ref C) (.ref D)=some b:=by
 unfold Ea
 split
 ·rename_i h
  have ez:DL C=DL D:=eq_of_beq h
  cases ez
  exact s.symm.trans m
 ·exact kj e m
theorem lb:Jj "ValueError"=true:=by unfold Jj;decide+kernel
theorem tU {C:Dg} {b:Bool} (m:DR K C (.type "ValueError")=some b):Ea K (.ref C) (.type "ValueError")=some b:=by
 unfold Ea
 rw[if_neg (by intro h;exact absurd (eq_of_beq h) (λz=>by cases z))]
 unfold FF
 dsimp only
 rw[if_pos lb]
 exact m
theorem tV {C D:Dg} {b:Bool} {NN:List De} {Oz:String} (e:E9 K D NN Oz=true) (m:DR K C (.ref D)=some b) (mb:DR K D (.type "BaseException")=some true):FG K (.ref C) (.ref D)=some b:=by
 unfold FG
 rw[if_pos (by show (DR K D (.type "BaseException")==some true)=true;rw[mb];rfl)]
 exact kj e m
def mW (xs:List Df) (x:Df):Bool:=xs.contains x
theorem vI {cx:Df} {C:Dg} {xs:List Df} (hm:mg cx=some (.ref C)) (h:∀x∈xs,∃Ce,Dq K Dm x=some (some (.ref Ce))/\FG K (.ref Ce) (.ref C)=some true):mh K mg cx (mW xs):=by
 refine⟨C,hm,λx cls hx ⟨C',e,hc⟩=> ?_⟩
 obtain⟨Ce,h1,h2⟩:=h x (by simpa[mW]using hx)
 rw[hc]at h1
 cases h1
 rw[e]
 exact h2
def tW (l:List (Df×Bool)) (x:Df):Option Bool:=l.lookup x
theorem nM {α:Type} {x:Df} {b:α}:∀{l:List (Df×α)},l.lookup x=some b->(x,b)∈l
 |(k,v)::r,h=>by
  rw[Ef]at h
  cases e:x==k with
  |true=>rw[e]at h;cases h;cases eq_of_beq e;exact Dt
  |false=>rw[e]at h;exact Dw _ (nM h)
theorem q8 {v:De} {l:List (Df×Bool)} (h:∀p∈l,∃Ce,Dq K Dm p.1=some (some (.ref Ce))/\Ea K (.ref Ce) v=some p.2/\oo K Ce):iS K v (tW l):=by
 refine⟨λx b cls hb ⟨C',e,hc⟩=> ?_⟩
 obtain⟨Ce,h1,h2,h3⟩:=h _ (nM hb)
 rw[hc]at h1
 cases h1
 subst e
 exact⟨h2,C',rfl,h3⟩
structure cf (K:Dd) (mg:Df->Option De) (x:Df) (tb:Df->Option Bool):Prop where
 ex:∃C,mg x=some (.ref C)/\iS K (.ref C) tb
end
section
variable {X:Cx} {a e o:Dn} {es:List Dn} {fa f fo:a9->R D} {fs:a9->R (List D)} {cls fld x m:Df} {p p2 pos JV:DY} {xs:List Df} {tb:Df->Option Bool}
theorem ba (T:bI X.K cls xs) (hf:fld∈xs) (ha:PB ly X a fa) (hb:Em a fld X.env (DH a X.env)=DH a X.env:=by rfl):PQ ly X (.Attribute a fld pos) (c3 cls fld fa):=by
 obtain⟨C,h1,h2⟩:=T.ex
 exact B6 h1 (h2 fld hf) ha hb
theorem bw (T:cf X.K X.mg x tb) (NS:X.mg "isinstance"=none) (ha:PB ly X a fa) (Ou:Gl X "isinstance":=by rfl) (hg:Gl X x:=by rfl) (L4:(x==("__debug__":Df))=false:=by decide)
  (he:Di [a, .Name x p2] X.env=(false,DH a X.env)::Di [.Name x p2] X.env:=by rfl) (Ny:Di [.Name x p2] X.env=(false,DH (.Name x p2) X.env)::Di [] X.env:=by rfl) (KL:(DX pos (Di [.Name x p2] X.env)).any (·.1)=false:=by rfl):
  PQ ly X (.Call (.Name "isinstance" p) [a, .Name x p2] [] pos) (de tb fa):=by
 obtain⟨C,h1,h2⟩:=T.ex
 exact Ba h2 h1 NS ha Ou hg L4 he Ny KL
def eK (f:a9->R D):a9->R aR:=λρ=>f ρ>>=λ_=> .ok (.nx ρ)
theorem kl (h:PQ ly X e f) (Nf:Ei e none pos.line X.env=pure false:=by rfl):l9 ly X (.Expr e pos) (eK f):=λc=>
 PS.weak (lp (h c) Nf) λD σ H ⟨F,ρ,ri,w⟩=>⟨F,ρ,ri,(aA.bind.mp w).imp λd _ w1 v H1 F1 e1 r1=>w1 σ H1 F1 e1.grow (ri.step e1)⟩
end
theorem zN {P:Dv} {w:DE} {outer:List EF} {H:Hp} {s s':Dh} {e:De} (h:i6 P w outer H s (λ_ _ _=>False) e s'):False:=by
 obtain⟨_,_,_,_,_,_,_,_,_,z⟩:=h
 exact z
theorem eC:DZ "ValueError"=some (.type "ValueError"):=by decide+kernel
end L2.Pu
namespace L2.Pu
open PySem PySem.Spec PyProof.Rows
variable {ly:List cK}
theorem RI.up {K:Dd} {c:cm ly} {ρ:a9} {σ:St} {H F H':Hp} (r:RI K c ρ σ H F) (e:az H H'):RI K c ρ σ H' F:=r.step ⟨r.sub.trans e,e,az.refl _,λ_ h=> .inl h⟩
section
variable {X:Cx} {e:Dn} {es:List Dn} {f:a9->R D} {g:a9->R Bool} {pos:DY}
theorem vJ {H F H':Hp} (s:az F H) (e:az H H'):bc H F H' F:=⟨s.trans e,e,az.refl _,λ_ h=> .inl h⟩
end
section
variable {X:Cx} {e:Dn} {f:a9->R D} {pos:DY}
end
end L2.Pu
namespace L2
open PySem PySem.Spec PyProof.Rows
def oS:List V->List V->Bool
 |[],[]=>true
 |x::xs,y::ys=>t6 x y&&oS xs ys
 |_,_=>false
theorem mn:∀{xs ys:List V},xs.length≠ys.length->oS xs ys=false
 |[],[],h=>absurd rfl h
 |[],_::_,_=>rfl
 |_::_,[],_=>rfl
 |x::xs,y::ys,h=>by
  rw[oS,mn (λz=>h (by rw[DC,DC,z])),HH]
theorem mq:∀{xs ys:List V},xs.length=ys.length->(Eb xs.length).all (λj=>t6 (xs.getD j .non) (ys.getD j .non))=oS xs ys
 |[],[],_=>rfl
 |x::xs,y::ys,h=>by
  have h':xs.length=ys.length:=by simpa using h
  rw[DC,List.range_succ_eq_map,EC,List.all_map,oS,<-mq h']
  rfl
def zO (K:Dd):R2:=λx y H Q=>∃p q xs ys,x= .ref p/\y= .ref q/\dc K H p xs/\dc K H q ys/\xs.all dE=true/\ys.all dE=true/\Q (.bl (oS xs ys)) H
theorem aF.getR {xs:List V} {us:List De} (r:aF xs us):∀(j:Nat) (h:j<us.length),aZ (xs.getD j .non) us[j]:=by
 induction r with
 |nil=>intro j h;cases h
 |cons r t ih=>
  intro j h
  cases j with
  |zero=>exact r
  |succ j=>exact ih j (by simpa using h)
theorem jC {xs:List V} (h:xs.all dE=true) (j:Nat):dE (xs.getD j .non)=true:=by
 rw[EZ]
 cases e:xs[j]? with
 |none=>rfl
 |some x=>exact FO.mp h x (Ek e)
theorem zP {X:Cx} (hu:X.A.units+1<G0):i0 X (Ep .Eq) (zO X.K):=by
 intro JD s σ H x y v u Q I rx ry h
 obtain⟨p,q,xs,ys,rfl,rfl,h1,h2,f1,f2,k⟩:=h
 cases rx
 cases ry
 obtain⟨its,r,pl,hz⟩:=I.list h1
 obtain⟨Lm,r2,Pl,Sg⟩:=I.list h2
 have l1:=r.length
 have l2:=r2.length
 by_cases hl:its.length=Lm.length
 ·refine SeqAt.eq_listAt (e:=λj=>t6 (xs.getD j .non) (ys.getD j .non)) pl.isList Pl.isList (by simpa using hl) (by omega) (λj a b=> ?_) ⟨.bl _,H,I,rfl,?_⟩
  ·have a':j<its.length:=by simpa using a
   have b':j<Lm.length:=by simpa using b
   simpa using qK (r.getR j a') (r2.getR j b') (jC f1 j) (jC f2 j)
  ·have hx:its.toArray.size=xs.length:=by simpa using l1.symm
   rw[hx,mq (by omega)]
   exact k
 ·refine SeqAt.eq_list_lengthsAt pl.isList Pl.isList (by simpa using hl) (by omega) ⟨.bl false,H,I,rfl,?_⟩
  rw[mn (by omega)]at k
  exact k
section
variable {X:Cx} {tg:Dn}
end
end L2
namespace L2.Pu
open PySem PySem.Spec PyProof.Rows
variable {ly:List cK}
def vK:List D->List D->Bool
 |[],[]=>true
 |x::xs,y::ys=>Ah x y&&vK xs ys
 |_,_=>false
def xJ (x y:D):Option D:=match x,y with
 | .lst a, .lst b=>if a.all f6=true/\b.all f6=true then some (.bl (vK a b))else none
 |x,y=>oE x y
theorem Reps.eqs {K:Dd} {F:Hp}:∀{vs us:List V} {ds es:List D},Reps K F vs ds->Reps K F us es->ds.all f6=true->es.all f6=true->oS vs us=vK ds es
 |_,_,_,_, .nil, .nil,_,_=>rfl
 |_,_,_,_, .nil, .cons _ _,_,_=>rfl
 |_,_,_,_, .cons _ _, .nil,_,_=>rfl
 |_,_,_,_, .cons r t, .cons r' t',h,h'=>by
  rw[EC,Eu]at h h'
  rw[oS,vK,vi r r' h.1 h'.1,Reps.eqs t t' h.2 h'.2]
theorem sv {K:Dd}:gi K (λx y H Q=>Bv x y H Q\/zO K x y H Q) xJ:=by
 intro v u x y d H F Q s rx ry h k
 unfold xJ at h
 split at h
 ·split at h
  ·rename_i a b hf
   cases h
   obtain⟨p,vs,rfl,h1,h2⟩:=rx.lst s
   obtain⟨q,us,rfl,h3,h4⟩:=ry.lst s
   refine .inr ⟨p,q,vs,us,rfl,rfl,dc.of h1,dc.of h3,h2.flat hf.1,h4.flat hf.2,?_⟩
   rw[Reps.eqs h2 h4 hf.1 hf.2]
   exact k _ H F (bc.refl s) (.bl _)
  ·cases h
 ·exact .inl (e_ v u x y d H F Q s rx ry h k)
theorem vL {X:Cx} (hu:X.A.units+1<G0):i0 X (Ep .Eq) (λx y H Q=>Bv x y H Q\/zO X.K x y H Q):=i4.or (zP hu)
section
variable {X:Cx} {a b d:Dn} {fs:a9->R (List D)} {pos:DY}
end
end L2.Pu
namespace L2
open PySem PySem.Spec PyProof.Rows
end L2
namespace L2.Pu
open PySem PySem.Spec PyProof.Rows
variable {ly:List cK}
end L2.Pu
namespace L2.Pu
section
variable {α:Type} {P:List α->Prop}
theorem D6 (h:P []):∀us:List α,us.length=0->P us:=λus e=>by
 rw[Hm.mp e];exact h
theorem Bb {n:Nat} (h:∀a us,us.length=n->P (a::us)):∀us:List α,us.length=n+1->P us:=λus e=>by
 cases us with
 |nil=>cases e
 |cons a us=>exact h a us (Nat.succ.inj e)
theorem CJ (h:∀a,P [a]):∀us:List α,us.length=1->P us:=Bb λa=>D6 (P:=λus=>P (a::us)) (h a)
theorem CK (h:∀a b,P [a,b]):∀us:List α,us.length=2->P us:=Bb λa=>CJ (P:=λus=>P (a::us)) (h a)
theorem CL (h:∀a b c,P [a,b,c]):∀us:List α,us.length=3->P us:=Bb λa=>CK (P:=λus=>P (a::us)) (h a)
theorem CM (h:∀a b c d,P [a,b,c,d]):∀us:List α,us.length=4->P us:=Bb λa=>CL (P:=λus=>P (a::us)) (h a)
theorem D7 (h:∀a b c d e,P [a,b,c,d,e]):∀us:List α,us.length=5->P us:=Bb λa=>CM (P:=λus=>P (a::us)) (h a)
end
end L2.Pu
namespace L2
open PySem PySem.Spec PyProof.Rows
end L2
namespace L2.Pu
open PySem PySem.Spec PyProof.Rows
variable {ly:List cK}
end L2.Pu
namespace L2.Pu
open PySem PySem.Spec PyProof.Rows
variable {ly:List cK}
def Slot.kind:Slot->Nat
 | .own _=>1
 | .cel .. =>2
 |_=>0
def ck (ρ:a9):List Nat->Option (List Slot)
 |[]=>some []
 |i::r=>match ρ[i]? with
  |some (some s)=>(ck ρ r).map λt=>s::t
  |_=>none
def q9 (ρ:a9):List Nat->List Slot->a9
 |i::is,s::ss=>q9 (ρ.set i (some s)) is ss
 |_,_=>ρ
theorem qa:∀(is:List Nat) (ss:List Slot) (ρ:a9),(q9 ρ is ss).length=ρ.length
 |[],ss,ρ=>by cases ss<;>rfl
 |i::is,[],ρ=>rfl
 |i::is,s::ss,ρ=>by
  show (q9 (ρ.set i (some s)) is ss).length=_
  rw[qa is ss];simp
theorem qb:∀{is:List Nat} {ss:List Slot} {ρ:a9} {j:Nat} {s:Slot},is.Nodup->ss.length=is.length->(q9 ρ is ss)[j]? =some (some s)->(∃k:Nat,is[k]? =some j/\ss[k]? =some s)\/(j∉is/\ρ[j]? =some (some s))
 |[],ss,ρ,j,s,_,_,h=>by
  refine .inr ⟨by simp,?_⟩
  cases ss<;>exact h
 |i::is,[],ρ,j,s,_,hl,h=>by simp at hl
 |i::is,t::ss,ρ,j,s,nd,hl,h=>by
  obtain⟨n1,n2⟩:=Fq.mp nd
  rcases qb (ρ:=ρ.set i (some t)) n2 (by simpa using hl) h with ⟨k,h1,h2⟩|⟨h1,h2⟩
  ·exact .inl ⟨k+1,h1,h2⟩
  ·rcases am h2 with ⟨rfl,z,_⟩|⟨z,h2⟩
   ·cases z;exact .inl ⟨0,rfl,rfl⟩
   ·exact .inr ⟨λm=>(DA.mp m).elim (λq=>z q.symm) h1,h2⟩
inductive At (ρ:a9) (σ:St):List Nat->List Slot->List Dg->Prop
 |nil:At ρ σ [] [] []
 |cons {i:Nat} {s:Slot} {a:Dg} {is:List Nat} {ss:List Slot} {as:List Dg}:ρ[i]? =some (some s)->s.kind≠0->σ[i]? =some (some (.ref a))->At ρ σ is ss as->At ρ σ (i::is) (s::ss) (a::as)
theorem At.idx {ρ:a9} {σ:St} {is:List Nat} {ss:List Slot} {as:List Dg} (h:At ρ σ is ss as):∀{k i:Nat},is[k]? =some i->∃s a,ss[k]? =some s/\as[k]? =some a/\ρ[i]? =some (some s)/\s.kind≠0/\σ[i]? =some (some (.ref a)):=by
 induction h with
 |nil=>intro k i e;simp at e
 |cons h1 h2 h3 _ ih=>
  intro k i e
  cases k with
  |zero=>cases e;exact⟨_,_,rfl,rfl,h1,h2,h3⟩
  |succ k=>exact ih e
theorem At.lens {ρ:a9} {σ:St} {is:List Nat} {ss:List Slot} {as:List Dg} (h:At ρ σ is ss as):ss.length=is.length/\as.length=is.length:=by
 induction h with
 |nil=>exact⟨rfl,rfl⟩
 |cons _ _ _ _ ih=>exact⟨by simp[ih.1],by simp[ih.2]⟩
theorem At.get {ρ:a9} {σ:St} {is:List Nat} {ss:List Slot} {as:List Dg} (h:At ρ σ is ss as) {k:Nat} {s:Slot} (e:ss[k]? =some s):∃i a,is[k]? =some i/\as[k]? =some a/\ρ[i]? =some (some s)/\s.kind≠0/\σ[i]? =some (some (.ref a)):=by
 have hk:k<is.length:=by rw[<-h.lens.1];exact(Dy.mp e).1
 obtain⟨s',a,h1,h2,h3⟩:=h.idx (k:=k) (i:=is[k]) (by simp[hk])
 rw[e]at h1
 cases h1
 exact⟨is[k],a,by simp[hk],h2,h3⟩
def df (H:Hp) (ρ:a9) (σ:St) (i:Nat) (z:Dg):Prop:=
 (∃d,ρ[i]? =some (some (.own d))/\σ[i]? =some (some (.ref z)))\/∃x JJ f hs a C dx fs,ρ[i]? =some (some (.cel x JJ f hs))/\σ[i]? =some (some (.ref a))/\H a=some (.ins C dx fs)/\(z=a\/z=dx\/fs.lookup f=some (.ref z))
open Classical in
noncomputable def gQ (H:Hp) (ρ:a9) (σ:St) (is:List Nat):Hp:=λz=>if ∃i∈is,df H ρ σ i z then none else H z
theorem ij {H:Hp} {ρ:a9} {σ:St} {is:List Nat} {z:Dg} {i:Nat} (hi:i∈is) (h:df H ρ σ i z):gQ H ρ σ is z=none:=if_pos ⟨i,hi,h⟩
theorem xK {H:Hp} {ρ:a9} {σ:St} {is:List Nat} {z:Dg} (h:∀i∈is,¬df H ρ σ i z):gQ H ρ σ is z=H z:=if_neg λ⟨i,hi,o⟩=>h i hi o
theorem nN {H:Hp} {ρ:a9} {σ:St} {is:List Nat} {z:Dg} {u:HO} (h:gQ H ρ σ is z=some u):H z=some u:=by
 unfold gQ at h
 split at h
 ·cases h
 ·exact h
section
variable {K:Dd} {c:cm ly} {ρ:a9} {σ:St} {H F:Hp} {i j:Nat} {z:Dg}
theorem RI.celIn (r:RI K c ρ σ H F) {x:Df} {JJ:List (Df×D)} {f:Df} {hs:List D} {a:Dg} {C dx:Dg} {fs:List (Df×V)} (h1:ρ[i]? =some (some (.cel x JJ f hs))) (h2:σ[i]? =some (some (.ref a))) (h3:H a=some (.ins C dx fs)):
  ∃b,i8 K c.H0 H F a dx b x JJ f hs/\fs.lookup f=some (.ref b)/\∀(j:Nat) d,ρ[j]? =some (some (.own d))->σ[j]? ≠some (some (.ref b)):=by
 obtain⟨a',NT,b,k1,k2,k3⟩:=r.cel.ex i x JJ f hs h1
 rw[h2]at k1
 cases k1
 obtain⟨C',Mf,vs,us,g1,g2,g3,g4⟩:=k2.ex
 rw[h3]at g1
 cases g1
 exact⟨b,k2,g3,k3⟩
theorem RI.owns (r:RI K c ρ σ H F) (o:df H ρ σ i z):c.H0 z=none/\F z=none/\∃u,H z=some u:=by
 rcases o with ⟨d,h1,h2⟩|⟨x,JJ,f,hs,a,C,dx,fs,h1,h2,h3,h4⟩
 ·obtain⟨p,u,k1,k2,k3,k4,_⟩:=r.own i d h1
  rw[h2]at k1
  cases k1
  exact⟨k4,k3,u,k2⟩
 ·obtain⟨b,k1,k2,_⟩:=r.celIn h1 h2 h3
  rcases h4 with rfl|rfl|h4
  ·exact⟨k1.za,k1.fa,_,h3⟩
  ·exact⟨k1.zd,k1.fd,_,k1.own⟩
  ·rw[k2]at h4
   cases h4
   obtain⟨C',Mf,vs,us,g1,g2,g3,g4,_⟩:=k1.ex
   exact⟨k1.zb,k1.fb,_,g4⟩
theorem RI.owns_inj (r:RI K c ρ σ H F) (o:df H ρ σ i z) (o':df H ρ σ j z):i=j:=by
 have oc:∀{i j:Nat},(∃d,ρ[i]? =some (some (.own d))/\σ[i]? =some (some (.ref z)))->(∃x JJ f hs a C dx fs,ρ[j]? =some (some (.cel x JJ f hs))/\σ[j]? =some (some (.ref a))/\H a=some (.ins C dx fs)/\(z=a\/z=dx\/fs.lookup f=some (.ref z)))->False:=by
  rintro i j ⟨d,h1,h2⟩ ⟨x,JJ,f,hs,a,C,dx,fs,k1,k2,k3,k4⟩
  obtain⟨p,u,g1,g2,g3,g4,g5⟩:=r.own i d h1
  rw[h2]at g1
  cases g1
  obtain⟨b,m1,m2,m3⟩:=r.celIn k1 k2 k3
  rcases k4 with rfl|rfl|k4
  ·rw[k3]at g2;cases g2;cases g5
  ·rw[m1.own]at g2;cases g2;cases g5
  ·rw[m2]at k4;cases k4;exact m3 i d h1 h2
 rcases o with h|h
 ·rcases o' with k|k
  ·obtain⟨d,h1,h2⟩:=h
   obtain⟨d',k1,k2⟩:=k
   exact r.dis i j d d' z h1 k1 h2 k2
  ·exact(oc h k).elim
 ·rcases o' with k|k
  ·exact(oc k h).elim
  ·obtain⟨x,JJ,f,hs,a,C,dx,fs,h1,_⟩:=h
   obtain⟨x',Nl,f',Ko,a',C',NT,Mf,k1,_⟩:=k
   exact r.cel.one i j x JJ f hs _ h1 k1 rfl
end
abbrev MC (Hz F:Hp):cm []:=⟨Hz,F,λ_=>none,λ_ _=>False,λ_=>none,λ_=>none⟩
def xL (K:Dd) (Hz F:Hp) (ss:List Slot) (as:List Dg) (H' F':Hp):Prop:=RI K (MC Hz F) (ss.map some) (as.map λa=>some (.ref a)) H' F'
theorem map_some {α β:Type} {l:List α} {g:α->β} {k:Nat} {b:β} (h:(l.map g)[k]? =some b):∃a,l[k]? =some a/\g a=b:=by
 rw[DQ]at h
 cases e:l[k]? with
 |none=>rw[e]at h;cases h
 |some a=>rw[e]at h;exact⟨a,rfl,by simpa using h⟩
theorem iC {α β:Type} {l:List α} {g:α->β} {k:Nat} {a:α} (h:l[k]? =some a):(l.map g)[k]? =some (g a):=by rw[DQ,h];rfl
theorem vM {is:List Nat} (nd:is.Nodup) {k k' i:Nat} (h:is[k]? =some i) (h':is[k']? =some i):k=k':=by
 obtain⟨l,e⟩:=Dy.mp h
 obtain⟨l',e'⟩:=Dy.mp h'
 exact(Hb nd).mp (e.trans e'.symm)
section
variable {K:Dd} {c:cm ly} {ρ:a9} {σ:St} {H F H' F':Hp} {is:List Nat} {ss ss':List Slot} {as:List Dg}
theorem RI.split (r:RI K c ρ σ H F) (A:At ρ σ is ss as) (nd:is.Nodup):xL K (gQ H ρ σ is) F ss as H F:=by
 have got:∀{k:Nat} {s:Slot},(ss.map some)[k]? =some (some s)->∃i a,is[k]? =some i/\as[k]? =some a/\ρ[i]? =some (some s)/\s.kind≠0/\σ[i]? =some (some (.ref a)):=λ{k s} h=>by
  obtain⟨s',h1,h2⟩:=map_some h
  cases h2
  exact A.get h1
 have Mm:∀{k:Nat} {a:Dg},as[k]? =some a->(as.map λa=>some (V.ref a))[k]? =some (some (.ref a)):=λh=>iC h
 have QH:∀{k:Nat} {a a':Dg},as[k]? =some a->(as.map λa=>some (V.ref a))[k]? =some (some (.ref a'))->a=a':=λ{k a a'} h h'=>by
  rw[Mm h]at h';cases h';rfl
 refine⟨⟨r.sub,λz u e=>nN e,az.refl _,λ_ h=> .inl h⟩,λk d h=> ?_,λk d h=> ?_,λk d h=> ?_,(λ_ _ e=>by cases e),λk k' d d' a h h' e e'=> ?_,?_,(λL h=>by cases h),(λL h=>by cases h),(λ_ _ e=>by cases e),⟨λk x JJ f hs h=> ?_,λk k' x JJ f hs s h h' Ko=> ?_⟩,(λL h=>by cases h)⟩
 ·obtain⟨i,a,_,_,_,z,_⟩:=got h;exact absurd rfl z
 ·obtain⟨i,a,h1,h2,h3,h4,h5⟩:=got h
  obtain⟨p,u,k1,k2,k3,k4,k5⟩:=r.own i d h3
  rw[h5]at k1
  cases k1
  exact⟨a,u,Mm h2,k2,k3,ij (Ek h1) (.inl ⟨d,h3,h5⟩),k5⟩
 ·obtain⟨i,a,_,_,_,z,_⟩:=got h;exact absurd rfl z
 ·obtain⟨i1,a1,h1,h2,h3,h4,h5⟩:=got h
  obtain⟨i2,a2,g1,g2,g3,g4,g5⟩:=got h'
  cases QH h2 e
  cases QH g2 e'
  cases r.dis i1 i2 d d' _ h3 g3 h5 g5
  exact vM nd h1 g1
 ·simp only[Dl];rw[A.lens.1,A.lens.2]
 ·obtain⟨i,a,h1,h2,h3,h4,h5⟩:=got h
  obtain⟨a',dx,b,k1,k2,k3⟩:=r.cel.ex i x JJ f hs h3
  rw[h5]at k1
  cases k1
  have Pm:=k2
  obtain⟨C,fs,vs,us,g1,g2,g3,g4⟩:=k2.ex
  have o:∀z,(z=a\/z=dx\/fs.lookup f=some (.ref z))->gQ H ρ σ is z=none:=λz hz=>ij (Ek h1) (.inr ⟨x,JJ,f,hs,a,C,dx,fs,h3,h5,g1,hz⟩)
  refine⟨a,dx,b,Mm h2,⟨k2.ex,k2.own,k2.fa,k2.fd,k2.fb,o a (.inl rfl),o dx (.inr (.inl rfl)),o b (.inr (.inr g3))⟩,λk' d h' e=> ?_⟩
  obtain⟨i2,a2,m1,m2,m3,m4,m5⟩:=got h'
  cases QH m2 e
  exact k3 i2 d m3 m5
 ·obtain⟨i1,a1,h1,h2,h3,h4,h5⟩:=got h
  obtain⟨i2,a2,g1,g2,g3,g4,g5⟩:=got h'
  cases r.cel.one i1 i2 x JJ f hs s h3 g3 Ko
  exact vM nd h1 g1
theorem vN {s:Slot} (h:s.kind=2):∃x JJ f hs,s= .cel x JJ f hs:=by cases s<;>first|exact⟨_,_,_,_,rfl⟩|cases h
theorem RI.join (r:RI K c ρ σ H F) (A:At ρ σ is ss as) (nd:is.Nodup) (m:xL K (gQ H ρ σ is) F ss' as H' F') (hk:ss'.map Slot.kind=ss.map Slot.kind):RI K c (q9 ρ is ss') σ H' F':=by
 have hl:ss'.length=is.length:=by rw[<-A.lens.1,<-Dl (f:=Slot.kind),hk,Dl]
 have Lg:∀{k:Nat} {s:Slot},ss'[k]? =some s->∃s0 i a,is[k]? =some i/\as[k]? =some a/\ρ[i]? =some (some s0)/\s0.kind=s.kind/\s.kind≠0/\σ[i]? =some (some (.ref a)):=λ{k s} h=>by
  have h1:(ss.map Slot.kind)[k]? =some s.kind:=by rw[<-hk];exact iC h
  obtain⟨s0,g1,g2⟩:=map_some h1
  obtain⟨i,a,k1,k2,k3,k4,k5⟩:=A.get g1
  exact⟨s0,i,a,k1,k2,k3,g2,by rw[<-g2];exact k4,k5⟩
 have ms:∀{k:Nat} {s:Slot},ss'[k]? =some s->(ss'.map some)[k]? =some (some s):=λh=>iC h
 have Mm:∀{k:Nat} {a:Dg},as[k]? =some a->(as.map λa=>some (V.ref a))[k]? =some (some (.ref a)):=λh=>iC h
 have hz:∀{z:Dg},gQ H ρ σ is z=none->c.H0 z=none:=λ{z} e=>by
  unfold gQ at e
  split at e
  ·rename_i h
   obtain⟨i,hi,o⟩:=h
   exact(r.owns o).1
  ·exact r.ext.keep.free e
 have kz:∀{z:Dg} {u:HO},H z=some u->(∀i∈is,¬df H ρ σ i z)->gQ H ρ σ is z=some u:=λh n=>by rw[xK n];exact h
 have me:=m.ext
 have LW:∀{z:Dg} {u:HO},H z=some u->(∀i∈is,¬df H ρ σ i z)->H' z=some u:=λh n=>me.keep _ _ (kz h n)
 have Nm:∀{z:Dg} {u:HO},H z=some u->(∀i∈is,¬df H ρ σ i z)->F z=none->F' z=none:=λh n f=>me.out (kz h n) f
 have NH:∀{j:Nat} {z:Dg},j∉is->df H ρ σ j z->∀i∈is,¬df H ρ σ i z:=λ{j z} hj o i hi o'=>hj (by rw[r.owns_inj o o'];exact hi)
 have Lo:∀{j:Nat} {s:Slot},(q9 ρ is ss')[j]? =some (some s)->(∃k:Nat,is[k]? =some j/\ss'[k]? =some s)\/(j∉is/\ρ[j]? =some (some s)):=λh=>qb nd hl h
 have Nn:∀{k j:Nat} {d:D},is[k]? =some j->ss'[k]? =some (.own d)->∃a o,σ[j]? =some (some (.ref a))/\as[k]? =some a/\H' a=some o/\F' a=none/\gQ H ρ σ is a=none/\iH K F' o d:=λ{k j d} h1 h2=>by
  obtain⟨s0,i,a,k1,k2,k3,k4,k5,k6⟩:=Lg h2
  rw[h1]at k1
  cases k1
  obtain⟨p,u,g1,g2,g3,g4,g5⟩:=m.own k d (ms h2)
  rw[Mm k2]at g1
  cases g1
  exact⟨a,u,k6,k2,g2,g3,g4,g5⟩
 have OA:∀{j:Nat} {d:D} {p:Dg} {u:HO},j∉is->ρ[j]? =some (some (.own d))->σ[j]? =some (some (.ref p))->H p=some u->gQ H ρ σ is p=some u:=λhj h1 h2 h3=>kz h3 (NH hj (.inl ⟨_,h1,h2⟩))
 refine⟨⟨me.sub,λz u e=>LW (r.ext.keep z u e) λi hi o=>(by rw[(r.owns o).1]at e;cases e),r.ext.grow.trans me.grow,λz e=>(me.new z e).elim (λq=>r.ext.new z q) λq=> .inr (hz q)⟩,λj d h=> ?_,λj d h=> ?_,λj d h=> ?_,r.bh,λj j' d d' p h h' e e'=> ?_,?_,λL hL h=> ?_,λL hL L' Mz h h'=> ?_,r.fm.trans me.grow,⟨λj x JJ f hs h=> ?_,λj j' x JJ f hs s h h' Ko=> ?_⟩,r.pin⟩
 ·rcases Lo h with ⟨k,h1,h2⟩|⟨_,h2⟩
  ·obtain⟨_,_,_,_,_,_,_,z,_⟩:=Lg h2;exact absurd rfl z
  ·obtain⟨v,k1,k2⟩:=r.val j d h2;exact⟨v,k1,k2.mono me.grow⟩
 ·rcases Lo h with ⟨k,h1,h2⟩|⟨hj,h2⟩
  ·obtain⟨a,o,k1,k2,k3,k4,k5,k6⟩:=Nn h1 h2
   exact⟨a,o,k1,k3,k4,hz k5,k6⟩
  ·obtain⟨p,u,k1,k2,k3,k4,k5⟩:=r.own j d h2
   have n:=NH hj (.inl ⟨d,h2,k1⟩)
   exact⟨p,u,k1,LW k2 n,Nm k2 n k3,k4,k5.mono me.grow⟩
 ·rcases Lo h with ⟨k,h1,h2⟩|⟨_,h2⟩
  ·obtain⟨_,_,_,_,_,_,_,z,_⟩:=Lg h2;exact absurd rfl z
  ·exact r.bor j d h2
 ·rcases Lo h with ⟨k,h1,h2⟩|⟨hj,h2⟩
  ·obtain⟨a,o,k1,k2,k3,k4,k5,k6⟩:=Nn h1 h2
   rw[k1]at e
   cases e
   rcases Lo h' with ⟨k',MT,Lz⟩|⟨MY,Lz⟩
   ·obtain⟨a',o',QI,Pm,Sh,Si,QJ,Sj⟩:=Nn MT Lz
    rw[QI]at e'
    cases e'
    have:=m.dis k k' d d' p (ms h2) (ms Lz) (Mm k2) (Mm Pm)
    subst this
    rw[h1]at MT
    exact Eh MT
   ·obtain⟨p',u,g1,g2,g3,g4,g5⟩:=r.own j' d' Lz
    rw[e']at g1
    cases g1
    rw[OA MY Lz e' g2]at k5
    cases k5
  ·rcases Lo h' with ⟨k',MT,Lz⟩|⟨MY,Lz⟩
   ·obtain⟨a',o',QI,Pm,Sh,Si,QJ,Sj⟩:=Nn MT Lz
    rw[QI]at e'
    cases e'
    obtain⟨p',u,g1,g2,g3,g4,g5⟩:=r.own j d h2
    rw[e]at g1
    cases g1
    rw[OA hj h2 e g2]at QJ
    cases QJ
   ·exact r.dis j j' d d' p h2 Lz e e'
 ·rw[qa];exact r.len
 ·rcases Lo h with ⟨k,h1,h2⟩|⟨hj,h2⟩
  ·obtain⟨_,_,_,_,_,_,_,z,_⟩:=Lg h2;exact absurd rfl z
  ·obtain⟨a,dx,fs,k0,k1,k2,k3,k4,k5,k6⟩:=r.obj L hL h2
   have no:∀{z:Dg} {u:HO},H z=some u->(∀d,¬iH K F u d)->∀i∈is,¬df H ρ σ i z:=λ{z u} hz nr i hi o=>by
    rcases o with ⟨d,g1,g2⟩|⟨x,JJ,f,hs,a,C,dx,fs,g1,_⟩
    ·obtain⟨p,u',q1,q2,_,_,q5⟩:=r.own i d g1
     rw[g2]at q1
     cases q1
     rw[hz]at q2
     cases q2
     exact nr d q5
    ·exact hj (by rw[<-r.cel.one i L.x x JJ f hs _ g1 h2 rfl];exact hi)
   have na:=no k2 (λd q=>by cases q)
   have nd:=no k3 (λd q=>by cases q)
   exact⟨a,dx,fs,k0,k1,LW k2 na,LW k3 nd,Nm k2 na k4,Nm k3 nd k5,k6⟩
 ·refine r.odis L hL L' Mz ?_ ?_
  ·rcases Lo h with ⟨k,h1,h2⟩|⟨_,h2⟩
   ·obtain⟨_,_,_,_,_,_,_,z,_⟩:=Lg h2;exact absurd rfl z
   ·exact h2
  ·rcases Lo h' with ⟨k,h1,h2⟩|⟨_,h2⟩
   ·obtain⟨_,_,_,_,_,_,_,z,_⟩:=Lg h2;exact absurd rfl z
   ·exact h2
 ·rcases Lo h with ⟨k,h1,h2⟩|⟨hj,h2⟩
  ·obtain⟨s0,i,a,k1,k2,k3,k4,k5,k6⟩:=Lg h2
   rw[h1]at k1
   cases k1
   obtain⟨a',dx,b,g1,g2,g3⟩:=m.cel.ex k x JJ f hs (ms h2)
   rw[Mm k2]at g1
   cases g1
   refine⟨a,dx,b,k6,⟨g2.ex,g2.own,g2.fa,g2.fd,g2.fb,hz g2.za,hz g2.zd,hz g2.zb⟩,λj' d h' e=> ?_⟩
   rcases Lo h' with ⟨k',MT,Lz⟩|⟨MY,Lz⟩
   ·obtain⟨a',o',q1,q2,_⟩:=Nn MT Lz
    rw[q1]at e
    cases e
    exact g3 k' d (ms Lz) (Mm q2)
   ·obtain⟨p',u,q1,q2,_⟩:=r.own j' d Lz
    rw[e]at q1
    cases q1
    have:gQ H ρ σ is b=none:=g2.zb
    rw[OA MY Lz e q2]at this
    cases this
  ·obtain⟨a,dx,b,g1,g2,g3⟩:=r.cel.ex j x JJ f hs h2
   have Tv:=g2
   obtain⟨C,fs,vs,us,q1,q2,q3,q4,q5,q6,q7⟩:=g2.ex
   have ow:∀z,(z=a\/z=dx\/fs.lookup f=some (.ref z))->∀i∈is,¬df H ρ σ i z:=λz hz=>NH hj (.inr ⟨x,JJ,f,hs,a,C,dx,fs,h2,g1,q1,hz⟩)
   have na:=ow a (.inl rfl)
   have nd:=ow dx (.inr (.inl rfl))
   have nb:=ow b (.inr (.inr q3))
   refine⟨a,dx,b,g1,⟨⟨C,fs,vs,us,LW q1 na,q2,q3,LW q4 nb,q5.mono me.grow,q6.mono me.grow,q7⟩,LW g2.own nd,Nm q1 na g2.fa,Nm g2.own nd g2.fd,Nm q4 nb g2.fb,g2.za,g2.zd,g2.zb⟩,λj' d h' e=> ?_⟩
   rcases Lo h' with ⟨k',MT,Lz⟩|⟨MY,Lz⟩
   ·obtain⟨a',o',w1,w2,w3,w4,w5,w6⟩:=Nn MT Lz
    rw[w1]at e
    cases e
    rw[kz q4 nb]at w5
    cases w5
   ·exact g3 j' d Lz e
 ·have Pn:∀{k:Nat} {s:Slot},ss'[k]? =some s->s.single=true->∃x JJ f hs i,is[k]? =some i/\ρ[i]? =some (some (.cel x JJ f hs)):=λ{k s} h hs=>by
   obtain⟨s0,i,a,k1,k2,k3,k4,k5,k6⟩:=Lg h
   have:s.kind=2:=by cases s<;>first|rfl|exact absurd rfl k5|cases hs
   rw[this]at k4
   obtain⟨x,JJ,f,hs,rfl⟩:=vN k4
   exact⟨x,JJ,f,hs,i,k1,k3⟩
  rcases Lo h with ⟨k,h1,h2⟩|⟨hj,h2⟩
  ·rcases Lo h' with ⟨k',MT,Lz⟩|⟨MY,Lz⟩
   ·have:=m.cel.one k k' x JJ f hs s (ms h2) (ms Lz) Ko
    subst this
    rw[h1]at MT
    exact Eh MT
   ·obtain⟨x0,Po,f0,Pj,i,g1,g2⟩:=Pn h2 rfl
    have:=r.cel.one i j' x0 Po f0 Pj s g2 Lz Ko
    subst this
    exact absurd (Ek g1) MY
  ·rcases Lo h' with ⟨k',MT,Lz⟩|⟨MY,Lz⟩
   ·obtain⟨x0,Po,f0,Pj,i,g1,g2⟩:=Pn Lz Ko
    have:=r.cel.one j i x JJ f hs _ h2 g2 rfl
    subst this
    exact absurd (Ek g1) hj
   ·exact r.cel.one j j' x JJ f hs s h2 Lz Ko
end
end L2.Pu
namespace L2.Pu
open PySem PySem.Spec PyProof.Rows
variable {ly:List cK}
def c5:Nat->a9->Option (List Slot)
 |0,_=>some []
 |n+1,some s::ρ=>(c5 n ρ).map λt=>s::t
 |_+1,_=>none
theorem nO:∀{n:Nat} {ρ:a9} {ss:List Slot},c5 n ρ=some ss->ss.length=n/\∀(k:Nat) s,ss[k]? =some s->ρ[k]? =some (some s)
 |0,ρ,ss,h=>by cases h;exact⟨rfl,λk s e=>by simp at e⟩
 |n+1,some s::ρ,ss,h=>by
  unfold c5 at h
  cases e:c5 n ρ with
  |none=>rw[e]at h;cases h
  |some t=>
   rw[e]at h
   cases h
   obtain⟨h1,h2⟩:=nO e
   refine⟨by simp[h1],λk s' e'=> ?_⟩
   cases k with
   |zero=>cases e';rfl
   |succ k=>exact h2 k s' e'
 |n+1,none::ρ,ss,h=>by cases h
 |n+1,[],ss,h=>by cases h
def dv (n:Nat) (ss:List Slot) (ds:List D):a9:=ss.map some++bK n ds
def iJ (nm k n:Nat) (g:a9->R aR) (ss:List Slot) (ds:List D):R (D×List Slot):=if ss.length=nm/\ds.length=k then (match g (dv n ss ds)with
 | .ok (.retc d ρ)=>(match c5 nm ρ with|some ss'=> .ok (d,ss')|none=> .bad)
 | .ok (.nx ρ)=>(match c5 nm ρ with|some ss'=> .ok (.non,ss')|none=> .bad)
 | .err z ρ=> .err z ρ
 |_=> .bad)else .bad
def BC (K:Dd) (nm n:Nat) (m:List Slot->List D->R (D×List Slot)):Sp:=λvs H Q E=>∃F as ws ss ds Hz,vs=as.map V.ref++ws/\as.length=nm/\ws.length=n/\xL K Hz F ss as H F/\(∀s∈ss,s.kind≠0)/\Reps K F ws ds/\match m ss ds with
 | .ok r=>∀v H' F',xL K Hz F r.2 as H' F'->ci K F' v r.1->Q v H'
 | .err z ρe=>∃ss',c5 nm ρe=some ss'/\∀ec q H' F',cW K z ec->xL K Hz F ss' as H' F'->E ec q H'
 | .bad=>False
theorem RI.restrict {K:Dd} {c:cm ly} {ρ:a9} {σ:St} {H F:Hp} {nm:Nat} {ss:List Slot} {as:List Dg} (r:RI K c ρ σ H F) (hB:c.B=λ_=>none) (ht:c5 nm ρ=some ss) (hl:as.length=nm) (hσ:∀(j:Nat) a,as[j]? =some a->σ[j]? =some (some (.ref a))):xL K c.H0 c.F0 ss as H F:=by
 obtain⟨t1,t2⟩:=nO ht
 have up:∀{k:Nat} {s:Slot},(ss.map some)[k]? =some (some s)->ρ[k]? =some (some s)/\k<as.length:=λ{k s} h=>by
  obtain⟨s',h1,h2⟩:=map_some h
  cases h2
  exact⟨t2 k s h1,by rw[hl,<-t1];exact(Dy.mp h1).1⟩
 have at_:∀{k:Nat},k<as.length->(as.map λa=>some (V.ref a))[k]? =σ[k]? :=λ{k} h=>by
  have:as[k]? =some as[k]:=Ff h
  rw[hσ k _ this,iC this]
 refine⟨r.ext,λk d h=> ?_,λk d h=> ?_,λk d h=> ?_,(λ_ _ e=>by cases e),λk k' d d' a h h' e e'=> ?_,?_,(λL h=>by cases h),(λL h=>by cases h),(λ_ _ e=>by cases e),⟨λk x JJ f hs h=> ?_,λk k' x JJ f hs s h h' Ko=> ?_⟩,(λL h=>by cases h)⟩
 ·obtain⟨h1,h2⟩:=up h
  rw[at_ h2];exact r.val k d h1
 ·obtain⟨h1,h2⟩:=up h
  rw[at_ h2];exact r.own k d h1
 ·obtain⟨h1,h2⟩:=up h
  obtain⟨a,o,_,z,_⟩:=r.bor k d h1
  rw[hB]at z
  cases z
 ·obtain⟨h1,h2⟩:=up h
  obtain⟨g1,g2⟩:=up h'
  rw[at_ h2]at e
  rw[at_ g2]at e'
  exact r.dis k k' d d' a h1 g1 e e'
 ·simp only[Dl];rw[t1,hl]
 ·obtain⟨h1,h2⟩:=up h
  obtain⟨a,dx,b,k1,k2,k3⟩:=r.cel.ex k x JJ f hs h1
  refine⟨a,dx,b,by rw[at_ h2];exact k1,k2,λj d hj e=> ?_⟩
  obtain⟨g1,g2⟩:=up hj
  rw[at_ g2]at e
  exact k3 j d g1 e
 ·exact r.cel.one k k' x JJ f hs s (up h).1 (up h').1 Ko
theorem tY {K:Dd} {N:List Df} {Hz F H:Hp} {ss:List Slot} {as:List Dg} {ws:List V} {ds:List D} {Er:Df->a9->Prop} {nm m:Nat} (mr:xL K Hz F ss as H F) (hk:∀s∈ss,s.kind≠0) (r:Reps K F ws ds) (hl:as.length=nm) (hN:N.length=nm+m) (hw:ws.length<=m)
  (Pp:∀L∈ly,L.x<nm):RI K (⟨Hz,F,λ_=>none,Er,λj=>as[j]?,λ_=>none⟩:cm ly) (dv m ss ds) (cF N (as.map V.ref++ws)) H F:=by
 have QK:ss.length=as.length:=by have:=mr.len;simpa using this
 have pre:∀{i:Nat},i<as.length->(cF N (as.map V.ref++ws))[i]? =(as.map λa=>some (V.ref a))[i]? :=λ{i} h=>by
  unfold cF
  rw[Fu,Ga,EE (by simpa using h),Fg];rfl
 have hv:∀{i:Nat} {sl:Slot},(dv m ss ds)[i]? =some (some sl)->((ss.map some)[i]? =some (some sl)/\i<as.length/\sl.kind≠0)\/∃(j:Nat) (d:D),i=as.length+j/\ds[j]? =some d/\sl= .val d:=λ{i sl} h=>by
  unfold dv at h
  rw[FN]at h
  split at h
  ·rename_i hi
   obtain⟨s',h1,h2⟩:=map_some h
   cases h2
   exact .inl ⟨h,by rw[<-QK];simpa using hi,hk _ (Ek h1)⟩
  ·rename_i hi
   refine .inr ⟨i - as.length,?_⟩
   have e:(ss.map (some:Slot->Option Slot)).length=as.length:=by simp[QK]
   rw[e]at h
   unfold bK at h
   rw[FN]at h
   split at h
   ·rw[DQ]at h
    cases e2:ds[i - as.length]? with
    |none=>rw[e2]at h;cases h
    |some d=>rw[e2]at h;simp at h;exact⟨d,by simp at hi;omega,rfl,h.symm⟩
   ·rw[ER]at h
    split at h<;>simp at h
 have MD:∀{i:Nat} {sl:Slot},(dv m ss ds)[i]? =some (some sl)->(∀d,sl≠ .val d)->(ss.map some)[i]? =some (some sl)/\i<as.length:=λh n=>by
  rcases hv h with ⟨a,b,_⟩|⟨j,d,_,_,z⟩
  ·exact⟨a,b⟩
  ·exact absurd z (n d)
 refine⟨mr.ext,λi d h=> ?_,λi d h=> ?_,λi d h=> ?_,(λ_ _ e=>by cases e),λi j d d' a h h' e e'=> ?_,?_,λL hL h=> ?_,λL hL L' Mz h _=> ?_,(λ_ _ e=>by cases e),⟨λi x JJ f hs h=> ?_,λi j x JJ f hs s h h' Ko=> ?_⟩,λL hL a h=> ?_⟩
 ·rcases hv h with ⟨a,b,z⟩|⟨j,d',rfl,e,z⟩
  ·exact absurd rfl z
  ·cases z
   obtain⟨v,h1,h2⟩:=r.get e
   refine⟨v,?_,h2⟩
   unfold cF
   have hj:j<ws.length:=(Dy.mp h1).1
   rw[Fu,Ga,FP (by simp),EE (by simp;omega)]
   simp[h1]
 ·obtain⟨h1,h2⟩:=MD h (λd' z=>by cases z)
  rw[pre h2];exact mr.own i d h1
 ·obtain⟨h1,h2⟩:=MD h (λd' z=>by cases z)
  obtain⟨a,o,_,z,_⟩:=mr.bor i d h1
  cases z
 ·obtain⟨h1,h2⟩:=MD h (λd' z=>by cases z)
  obtain⟨g1,g2⟩:=MD h' (λd' z=>by cases z)
  rw[pre h2]at e
  rw[pre g2]at e'
  exact mr.dis i j d d' a h1 g1 e e'
 ·have:=r.length
  simp only[dv,bK,cF,E5,Dl,Gj,QK]
  omega
 ·rcases hv h with ⟨a,b,z⟩|⟨j,d',_,_,z⟩
  ·exact absurd rfl z
  ·cases z
 ·rcases hv h with ⟨a,b,z⟩|⟨j,d',_,_,z⟩
  ·exact absurd rfl z
  ·cases z
 ·obtain⟨h1,h2⟩:=MD h (λd' z=>by cases z)
  obtain⟨a,dx,b,k1,k2,k3⟩:=mr.cel.ex i x JJ f hs h1
  refine⟨a,dx,b,by rw[pre h2];exact k1,k2,λj d hj e=> ?_⟩
  obtain⟨g1,g2⟩:=MD hj (λd' z=>by cases z)
  rw[pre g2]at e
  exact k3 j d g1 e
 ·exact mr.cel.one i j x JJ f hs s (MD h (λd' z=>by cases z)).1 (MD h' (λd' z=>by subst z;cases Ko)).1 Ko
 ·have:=Pp L hL
  rw[pre (by omega)]
  exact iC (show as[L.x]? =some a from h)
theorem Bc {P:Dv} {w:DE} {K:Dd} {mg:Df->Option De} {base:DB} {x qual:Df} {st:DJ} {f:Dg} {fd:Eg} {N ps:List Df} {k nm n m:Nat} {g:a9->R aR} (F:rY K x qual st f fd) (S:aw N ps (ac st))
  (hn:ps.length=nm+n) (hm:N.length=nm+m) (NO:n<=m) (Pp:∀j,j<nm->∃L∈ly,L.x=j) (OB:∀L∈ly,L.x<nm)
  (K2:∀(JK:De) (A:DI) (outer:List EF) (s:Dh) (H:Hp) (E:XK),br k (A.deeper (EJ qual (ac st) s.heap.objs.size f JK))->
   fR ly (fA (i6 P w) P w K mg base N qual (ac st) f JK A outer s H E) (aO st) g):cV P w K mg base (i6 P w) (k+1) f fd ps (BC K nm n (iJ nm n m g)):=by
 refine Bz F S (λvs H Q E h=> ?_) (λJK A outer s H vs Q E hr h=> ?_)
 ·obtain⟨Fz,as,ws,ss,ds,Hz,rfl,h1,h2,_⟩:=h
  rw[E5,Dl,h1,h2,hn]
 ·obtain⟨Fz,as,ws,ss,ds,Hz,rfl,h1,h2,mr,hk,r,w⟩:=h
  let c:cm ly:=⟨Hz,Fz,λ_=>none,λz ρe=>∃ss',c5 nm ρe=some ss'/\∀ec q H' F',cW K z ec->xL K Hz Fz ss' as H' F'->E ec q H',λj=>as[j]?,λ_=>none⟩
  have Nd:∀{ρ σ H' F' ss'},RI K c ρ σ H' F'->c5 nm ρ=some ss'->xL K Hz Fz ss' as H' F':=λ{ρ σ H' F' ss'} ri t=>ri.restrict rfl t h1 λj a e=>by
   have hj:j<nm:=by rw[<-h1];exact(Dy.mp e).1
   obtain⟨L,hL,rfl⟩:=Pp j hj
   exact ri.pin L hL a e
  refine⟨_,K2 JK A outer s H E hr ⟨c,oy λz ρ er ec a H' F' σ hc ri=> ?_⟩,?_⟩
  ·obtain⟨ss',t,q⟩:=er
   exact q ec a H' F' hc (Nd ri t)
  refine⟨Fz,dv m ss ds,tY mr hk r h1 hm (by omega) OB,?_⟩
  have hd:ss.length=nm/\ds.length=n:=⟨by have:=mr.len;simp only[Dl]at this;omega,by rw[<-r.length];exact h2⟩
  unfold iJ at w
  rw[if_pos hd]at w
  cases e:g (dv m ss ds)with
  |bad=>rw[e]at w;exact w.elim
  |err z ρ=>rw[e]at w;exact w
  |ok o=>
   rw[e]at w
   cases o with
   |retc d ρ=>
    intro v σ' H' F' _ LO rv
    dsimp only at w
    cases t:c5 nm ρ with
    |none=>rw[t]at w;exact w.elim
    |some ss'=>rw[t]at w;exact w v H' F' (Nd LO t) rv
   |nx ρ=>
    intro σ' H' F' _ LO
    dsimp only at w
    cases t:c5 nm ρ with
    |none=>rw[t]at w;exact w.elim
    |some ss'=>rw[t]at w;exact w .non H' F' (Nd LO t) .non
   |_=>exact w.elim
structure Bd (P:Dv) (w:DE) (K:Dd) (mg:Df->Option De) (base:DB) (k:Nat) (x:Df) (nm n:Nat) (m:List Slot->List D->R (D×List Slot)):Prop where
 ex:∃f fd ps,cV P w K mg base (i6 P w) k f fd ps (BC K nm n m)/\mg x=some (.ref f)/\D_ K (.ref f)=true/\dg K fd ps []
structure eL (P:Dv) (w:DE) (K:Dd) (mg:Df->Option De) (base:DB) (k:Nat) (cls mm:Df) (n:Nat) (m:List Slot->List D->R (D×List Slot)):Prop where
 ex:∃C f fd ps,cV P w K mg base (i6 P w) k f fd ps (BC K 1 n m)/\fG K cls C/\qB K C mm f/\dg K fd ps []
section
variable {P:Dv} {w:DE} {K:Dd} {mg:Df->Option De} {base:DB}
theorem zQ {x:Df} {st:DJ} {N ps:List Df} {k nm n m:Nat} {g:a9->R aR} (ly:List cK) (A:cO K mg x st ps) (S:aw N ps (ac st)) (hn:ps.length=nm+n) (hm:N.length=nm+m) (NO:n<=m) (Pp:∀j,j<nm->∃L∈ly,L.x=j) (OB:∀L∈ly,L.x<nm)
  (K2:∀(f:Dg) (JK:De) (A:DI) (outer:List EF) (s:Dh) (H:Hp) (E:XK),br k (A.deeper (EJ x (ac st) s.heap.objs.size f JK))->
   fR ly (fA (i6 P w) P w K mg base N x (ac st) f JK A outer s H E) (aO st) g):Bd P w K mg base (k+1) x nm n (iJ nm n m g):=by
 obtain⟨f,fd,F,h1,h2⟩:=A.ex
 exact⟨f,fd,ps,Bc F S hn hm NO Pp OB λJK A outer s H E hr=>K2 f JK A outer s H E hr,h1,F.kp,h2⟩
theorem jD {cls mm qual:Df} {st:DJ} {N ps:List Df} {k n m:Nat} {g:a9->R aR} (A:cc K cls mm qual st ps) (S:aw N ps (ac st)) (hn:ps.length=1+n) (hm:N.length=1+m) (NO:n<=m)
  (K2:∀(f:Dg) (JK:De) (A:DI) (outer:List EF) (s:Dh) (H:Hp) (E:XK),br k (A.deeper (EJ qual (ac st) s.heap.objs.size f JK))->
   fR [⟨0,0,[]⟩] (fA (i6 P w) P w K mg base N qual (ac st) f JK A outer s H E) (aO st) g):eL P w K mg base (k+1) cls mm n (iJ 1 n m g):=by
 obtain⟨C,f,fd,F,h1,h2,h3⟩:=A.ex
 exact⟨C,f,fd,ps,Bc F S hn hm NO (λj hj=>⟨_,DM.mpr rfl,by show (0:Nat)=j;omega⟩) (λL hL=>by rw[DM.mp hL];exact Nat.zero_lt_one) λJK A outer s H E hr=>K2 f JK A outer s H E hr,h1,h2,h3⟩
end
def eR (is:List Nat) (m:List Slot->List D->R (D×List Slot)) (n:Nat) (fs:a9->R (List D)):a9->R (D×a9):=λρ=>match ck ρ is with
 |some ss=>if (ss.all λs=>s.kind != 0)=true/\is.Nodup then (fs ρ>>=λds=>if ds.length=n then (match m ss ds with
  | .ok r=>if r.2.map Slot.kind=ss.map Slot.kind then .ok (r.1,q9 ρ is r.2)else .bad
  | .err z ρe=>(match c5 is.length ρe with
   |some ss'=>if ss'.map Slot.kind=ss.map Slot.kind then .err z (q9 ρ is ss')else .bad
   |none=> .bad)
  | .bad=> .bad)else .bad)else .bad
 |none=> .bad
def tX (K:Dd) (c:cm ly) (fx:a9->R (D×a9)):TE:=λσ H Q=>∃F ρ,RI K c ρ σ H F/\aA c (fx ρ) λr=>∀v H' F',az F F'->RI K c r.2 σ H' F'->ci K F' v r.1->Q v H'
def PX (ly:List cK) (X:Cx) (e:Dn) (fx:a9->R (D×a9)):Prop:=∀c:gg ly X,PE X e (tX X.K c.1 fx)
theorem At.of {K:Dd} {c:cm ly} {ρ:a9} {σ:St} {H F:Hp} (r:RI K c ρ σ H F):∀{is:List Nat} {ss:List Slot},ck ρ is=some ss->(ss.all λs=>s.kind != 0)=true->∃as,At ρ σ is ss as
 |[],ss,h,_=>by cases h;exact⟨[], .nil⟩
 |i::is,ss,h,k=>by
  unfold ck at h
  split at h
  ·rename_i s hs
   cases e:ck ρ is with
   |none=>rw[e]at h;cases h
   |some t=>
    rw[e]at h
    cases h
    rw[EC,Eu]at k
    obtain⟨as,A⟩:=At.of r e k.2
    have hk:s.kind≠0:=by simpa using k.1
    have:∃a,σ[i]? =some (some (.ref a)):=by
     cases s with
     |own d=>obtain⟨a,o,h1,_⟩:=r.own i d hs;exact⟨a,h1⟩
     |cel x JJ f Ko=>obtain⟨a,dx,b,h1,_⟩:=r.cel.ex i x JJ f Ko hs;exact⟨a,h1⟩
     |_=>exact absurd rfl hk
    obtain⟨a,ha⟩:=this
    exact⟨a::as, .cons hs hk ha A⟩
  ·cases h
section
variable {X:Cx} {e:Dn} {es:List Dn} {fs:a9->R (List D)} {is:List Nat} {p pos JV:DY} {x m:Df}
theorem rj {c:gg ly X} {mf:List Slot->List D->R (D×List Slot)} {n:Nat} {ρ:a9} {σ:St} {H F:Hp} {Q:VK} (ri:RI X.K c.1 ρ σ H F) (w:aA c.1 (eR is mf n fs ρ) λr=>∀v H' F',az F F'->RI X.K c.1 r.2 σ H' F'->ci X.K F' v r.1->Q v H'):
  ∃ss as,At ρ σ is ss as/\Ad X.K c.1 fs σ H λvs H1=>BC X.K is.length n mf (as.map V.ref++vs) H1 Q (yr X c.1 σ):=by
 unfold eR at w
 split at w
 ·rename_i ss hs
  split at w
  ·rename_i hk
   obtain⟨hk,nd⟩:=hk
   obtain⟨as,A⟩:=At.of ri hs hk
   refine⟨ss,as,A,F,ρ,ri,(aA.bind.mp w).imp λds _ w1 vs H1 F1 e1 r1=> ?_⟩
   split at w1
   ·rename_i hl
    have r':=ri.step e1
    refine⟨F1,as,vs,ss,ds,gQ H1 ρ σ is,rfl,A.lens.2,by rw[r1.length];exact hl,r'.split A nd,λs Ko=>by have:=FO.mp hk s Ko;simpa using this,r1,?_⟩
    split at w1
    ·rename_i r hr
     split at w1
     ·rename_i Of
      intro v H' F' mr rv
      exact w1 v H' F' (e1.grow.trans mr.ext.grow) (r'.join A nd mr Of) rv
     ·exact w1.elim
    ·rename_i z ρe hr
     split at w1
     ·rename_i ss' ht
      split at w1
      ·rename_i Of
       exact⟨ss',ht,λec q H' F' hc mr=>⟨z,_,F',hc,r'.join A nd mr Of,w1⟩⟩
      ·exact w1.elim
     ·exact w1.elim
    ·exact w1.elim
   ·exact w1.elim
  ·exact w.elim
 ·exact w.elim
def rl:List Nat->TA->TA
 |[],t=>t
 |i::is,t=>yj (uv i) (rl is t)
theorem nP {t:TA} {ρ:a9} {σ:St} {H:Hp}:∀{is:List Nat} {ss:List Slot} {as:List Dg} {Q:List V->Hp->Prop},At ρ σ is ss as->t σ H (λvs H1=>Q (as.map V.ref++vs) H1)->rl is t σ H Q
 |[],_,_,Q, .nil,h=>h
 |i::is,_,_,Q, .cons h1 h2 h3 A,h=>⟨_,h3,nP A h⟩
def BD (ly:List cK) (X:Cx) (es:List Dn) (is:List Nat) (fs:a9->R (List D)):Prop:=∀c:gg ly X,PA X es (rl is (Ad X.K c.1 fs))
theorem zR (h:qt ly X es fs):BD ly X es [] fs:=λc=>h c
theorem xM (i:Nat) (h:BD ly X es is fs) (hN:X.N[i]? =some x:=by rfl) (hv:l7 X.env.scope x:=by first|exact E6 rfl|exact DW (E6 rfl)|exact DW (DW rfl)) (hd:(x==("__debug__":Df))=false:=by decide)
  (Lh:(x==("__classdict__":Df))=false:=by decide) (hs:Di (.Name x p::es) X.env=(false,DH (.Name x p) X.env)::Di es X.env:=by rfl):BD ly X (.Name x p::es) (i::is) fs:=λc=>cR (pv i hN hv hd Lh) (h c) hs
theorem Cr {k n:Nat} {mf:List Slot->List D->R (D×List Slot)} (G:Bd X.prog X.w X.K X.mg X.base k x is.length n mf) (hr:br k X.A) (ha:BD ly X (e::es) is fs) (hg:Gl X x:=by rfl) (L4:(x==("__debug__":Df))=false:=by decide)
  (he:Di (e::es) X.env=(false,DH e X.env)::Di es X.env:=by rfl) (KL:(DX pos (Di es X.env)).any (·.1)=false:=by rfl):PX ly X (.Call (.Name x p) (e::es) [] pos) (eR is mf n fs):=λc=>by
 obtain⟨f,fd,ps,h1,h2,h3,h4⟩:=G.ex
 refine PE.weak (o4 h1 hr hg h2 h3 h4 .nil (iR c) (ha c) L4 he KL) λσ H Q q=> ?_
 obtain⟨F,ρ,ri,w⟩:=q
 obtain⟨ss,as,A,t⟩:=rj ri w
 refine nP A ?_
 obtain⟨F0,ρ0,O4,w0⟩:=t
 exact⟨F0,ρ0,O4,w0.imp λds _ k vs H1 F1 e1 r1=>by dsimp only;rw[Ed];exact k vs H1 F1 e1 r1⟩
def hX (i:Nat) (cls m:Df) (fx:a9->R (D×a9)):a9->R (D×a9):=λρ=>match ρ[i]? with
 |some (some (.cel y JJ f hs))=>if y=cls/\m≠f/\JJ.lookup m=none then fx ρ else .bad
 |_=> .bad
theorem sx {c:gg ly X} {i:Nat} {cls:Df} {fx:a9->R (D×a9)} {ρ:a9} {σ:St} {H F:Hp} {C:Dg} {P:D×a9->Prop} (T:fG X.K cls C) (ri:RI X.K c.1 ρ σ H F) (w:aA c.1 (hX i cls m fx ρ) P):
  ∃a dx fs,σ[i]? =some (some (.ref a))/\H a=some (.ins C dx fs)/\fs.lookup m=none/\aA c.1 (fx ρ) P:=by
 unfold hX at w
 split at w
 ·rename_i y JJ f hs hi
  split at w
  ·rename_i hc
   obtain⟨rfl,h1,h2⟩:=hc
   obtain⟨a,dx,b,k1,k2,k3⟩:=ri.cel.ex i y JJ f hs hi
   obtain⟨C',fs,vs,us,g1,g2,g3,g4,g5,g6,g7,g8,_⟩:=k2.ex
   have:C'=C:=by have:=T.ns;rw[g2]at this;cases this;rfl
   subst this
   refine⟨a,dx,fs,k1,g1,?_,w⟩
   cases q:fs.lookup m with
   |none=>rfl
   |some v=>
    rcases g8 m v q with z|z
    ·exact absurd z h1
    ·rw[g6.names]at z
     exact absurd z (dt h2)
  ·exact w.elim
 ·exact w.elim
theorem oU (i:Nat) {cls y:Df} {py:DY} {k n:Nat} {mf:List Slot->List D->R (D×List Slot)} {pl:Gd Bool} (G:eL X.prog X.w X.K X.mg X.base k cls m n mf) (hr:br k X.A) (ha:qt ly X (e::es) fs)
  (hN:X.N[i]? =some y:=by rfl) (hv:l7 X.env.scope y:=by first|exact E6 rfl|exact DW (E6 rfl)|exact DW (DW rfl)) (hd:(y==("__debug__":Df))=false:=by decide) (Lh:(y==("__classdict__":Df))=false:=by decide)
  (NL:Di (e::es) X.env=(false,DH e X.env)::Di es X.env:=by rfl) (KL:(DX pos (Di es X.env)).any (·.1)=false:=by rfl)
  (ht:DH (.Call (.Attribute (.Name y py) m JV) (e::es) [] pos) X.env=(do
   let ov<-DH (.Name y py) X.env
   FU JV.atName
   let (f,first)<-FV [ov] (FI ov m pl)
   Gf pos f first (DX pos (Di (e::es) X.env)) (FK pos (EV [] X.env))):=by rfl):
  PX ly X (.Call (.Attribute (.Name y py) m JV) (e::es) [] pos) (hX i cls m (eR [i] mf n fs)):=λc=>by
 obtain⟨C,f,fd,ps,h1,h2,h3,h4⟩:=G.ex
 refine PE.weak (rS (pv i hN hv hd Lh) h2.cl h3 h1 hr h4 .nil (iR c) (ha c) NL KL ht) λσ H Q q=> ?_
 obtain⟨F,ρ,ri,w⟩:=q
 obtain⟨a,dx,Mf,k1,k2,k3,w⟩:=sx h2 ri w
 obtain⟨ss,as,A,t⟩:=rj ri w
 cases A with
 |cons q1 q2 q3 A0=>
  cases A0
  rw[k1]at q3
  cases q3
  refine⟨.ref a,k1,a,dx,Mf,rfl,k2,k3,?_⟩
  obtain⟨F0,ρ0,O4,w0⟩:=t
  exact⟨F0,ρ0,O4,w0.imp λds _ k vs H1 F1 e1 r1=>by dsimp only;rw[Ed];exact k vs H1 F1 e1 r1⟩
theorem xN (i:Nat) {cls y:Df} {py:DY} {k n:Nat} {mf:List Slot->List D->R (D×List Slot)} {pl:Gd Bool} (G:eL X.prog X.w X.K X.mg X.base k cls m n mf) (hr:br k X.A)
  (hN:X.N[i]? =some y:=by rfl) (hv:l7 X.env.scope y:=by first|exact E6 rfl|exact DW (E6 rfl)|exact DW (DW rfl)) (hd:(y==("__debug__":Df))=false:=by decide) (Lh:(y==("__classdict__":Df))=false:=by decide)
  (ht:DH (.Call (.Attribute (.Name y py) m JV) [] [] pos) X.env=(do
   let ov<-DH (.Name y py) X.env
   FU JV.atName
   let (f,first)<-FV [ov] (FI ov m pl)
   Gf pos f first (DX pos (Di [] X.env)) (FK pos (EV [] X.env))):=by rfl):
  PX ly X (.Call (.Attribute (.Name y py) m JV) [] [] pos) (hX i cls m (eR [i] mf n ag)):=λc=>by
 obtain⟨C,f,fd,ps,h1,h2,h3,h4⟩:=G.ex
 refine PE.weak (pB (pv i hN hv hd Lh) h2.cl h3 h1 hr h4 .nil (iR c) ht) λσ H Q q=> ?_
 obtain⟨F,ρ,ri,w⟩:=q
 obtain⟨a,dx,Mf,k1,k2,k3,w⟩:=sx h2 ri w
 obtain⟨ss,as,A,t⟩:=rj ri w
 cases A with
 |cons q1 q2 q3 A0=>
  cases A0
  rw[k1]at q3
  cases q3
  refine⟨.ref a,k1,a,dx,Mf,rfl,k2,k3,?_⟩
  obtain⟨F0,ρ0,O4,w0⟩:=t
  exact w0 [] H F0 (bc.refl O4.sub) .nil
end
end L2.Pu
namespace L2.Pu
open PySem PySem.Spec PyProof.Rows
variable {ly:List cK}
def vO (g:Df) (d:D) (JJ:List (Df×D)):List (Df×D):=JJ.map λp=>if p.1=g then (p.1,d)else p
section
variable {K:Dd} {c:cm ly} {ρ:a9} {σ:St} {H F:Hp} {i:Nat} {z:Dg}
theorem RepF.put {vs:List (Df×V)} {JJ:List (Df×D)} {g:Df} {v:V} {d:D} (h:RepF K F vs JJ) (r:ci K F v d):RepF K F (vs.map λp=>if p.1=g then (p.1,v)else p) (vO g d JJ):=by
 induction JJ generalizing vs with
 |nil=>rw[h.nilI];exact .nil
 |cons p JJ ih=>
  obtain⟨k,x⟩:=p
  obtain⟨u,us,rfl,h1,h2⟩:=h.consI
  have:=ih h2
  unfold vO at this ⊢
  rw[DD,DD]
  dsimp only
  by_cases e:k=g
  ·rw[if_pos e,if_pos e];exact .cons r this
  ·rw[if_neg e,if_neg e];exact .cons h1 this
theorem RI.celUpd (r:RI K c ρ σ H F) {x x':Df} {JJ Nl:List (Df×D)} {f f':Df} {hs Ko:List D} {a dx b:Dg} {o':HO} (hi:ρ[i]? =some (some (.cel x JJ f hs))) (h1:σ[i]? =some (some (.ref a))) (hz:df H ρ σ i z)
  (A':i8 K (gQ H ρ σ [i]) (a_ H z o') F a dx b x' Nl f' Ko):RI K c (ρ.set i (some (.cel x' Nl f' Ko))) σ (a_ H z o') F:=by
 refine r.join (is:=[i]) (ss:=[.cel x JJ f hs]) (ss':=[.cel x' Nl f' Ko]) (as:=[a]) (.cons hi (by intro e;cases e) h1 .nil) (by simp) ?_ rfl
 have Sk:gQ H ρ σ [i] z=none:=ij (DM.mpr rfl) hz
 have only:∀{k:Nat} {s:Slot},(([Slot.cel x' Nl f' Ko]:List Slot).map some)[k]? =some (some s)->k=0/\s= .cel x' Nl f' Ko:=λ{k s} h=>by
  cases k with
  |zero=>cases h;exact⟨rfl,rfl⟩
  |succ k=>simp at h
 refine⟨⟨λy u e=> ?_,λy u e=> ?_,az.refl _,λ_ h=> .inl h⟩,λk d h=> ?_,λk d h=> ?_,λk d h=> ?_,(λ_ _ e=>by cases e),λk k' d d' a h=> ?_,rfl,(λL h=>by cases h),(λL h=>by cases h),(λ_ _ e=>by cases e),⟨λk y vd g hh h=> ?_,λk k' y vd g hh s h h' _=> ?_⟩,(λL h=>by cases h)⟩
 ·rw[ai (λq=>by rw[q,(r.owns hz).2.1]at e;cases e)];exact r.sub y u e
 ·have e':gQ H ρ σ [i] y=some u:=e
  rw[ai (λq=>by rw[q,Sk]at e';cases e')];exact nN e'
 ·obtain⟨_,q⟩:=only h;cases q
 ·obtain⟨_,q⟩:=only h;cases q
 ·obtain⟨_,q⟩:=only h;cases q
 ·obtain⟨_,q⟩:=only h;cases q
 ·obtain⟨rfl,q⟩:=only h
  cases q
  exact⟨a,dx,b,rfl,A',λj d hj=>by obtain⟨_,q⟩:=only hj;cases q⟩
 ·rw[(only h).1,(only h').1]
end
section
variable {X:Cx} {a b e value:Dn} {es:List Dn} {fa fb f fv:a9->R D} {fs:a9->R (List D)} {pos px JV M7 K9 Kk:DY} {y g cls:Df} {xs:List Df}
def cq (i:Nat) (cls g:Df):a9->R D:=λρ=>match ρ[i]? with
 |some (some (.cel x JJ _ _))=>if x=cls then R.of (JJ.lookup g)else .bad
 |_=> .bad
theorem jE {K:Dd} {c:cm ly} {ρ:a9} {σ:St} {H F:Hp} {i:Nat} {C:Dg} {x:Df} {JJ:List (Df×D)} {f:Df} {hs:List D} (ri:RI K c ρ σ H F) (T:fG K x C) (hi:ρ[i]? =some (some (.cel x JJ f hs))):
  ∃a dx b fs vs us,σ[i]? =some (some (.ref a))/\H a=some (.ins C dx fs)/\i8 K c.H0 H F a dx b x JJ f hs/\fs.lookup f=some (.ref b)/\H b=some (.lst us)/\Reps K F us hs/\RepF K F vs JJ/\(∀p∈vs,fs.lookup p.1=some p.2)/\
   (∀g v,fs.lookup g=some v->g=f\/g∈vs.map (·.1))/\(fs.map (·.1)).Nodup/\f∉vs.map (·.1):=by
 obtain⟨a,dx,b,k1,k2,k3⟩:=ri.cel.ex i x JJ f hs hi
 obtain⟨C',fs,vs,us,g1,g2,g3⟩:=k2.ex
 have:C'=C:=by have:=T.ns;rw[g2]at this;cases this;rfl
 subst this
 exact⟨a,dx,b,fs,vs,us,k1,g1,k2,g3⟩
theorem dH (i:Nat) (T:bI X.K cls xs) (hx:g∈xs) (hN:X.N[i]? =some y:=by rfl) (hv:l7 X.env.scope y:=by first|exact E6 rfl|exact DW (E6 rfl)|exact DW (DW rfl)) (hd:(y==("__debug__":Df))=false:=by decide)
  (Lh:(y==("__classdict__":Df))=false:=by decide) (hb:Em (.Name y px) g X.env (DH (.Name y px) X.env)=DH (.Name y px) X.env:=by rfl):PQ ly X (.Attribute (.Name y px) g pos) (cq i cls g):=by
 obtain⟨C,h1,h2⟩:=T.ex
 exact λc=>PE.weak (lL (pv i hN hv hd Lh) hb) λσ H Q ⟨F,ρ,ri,w⟩=>by
  unfold cq at w
  split at w
  ·rename_i x JJ f hs hi
   split at w
   ·rename_i hc
    subst hc
    obtain⟨d,hd,k⟩:=w.of
    obtain⟨a,dx,b,fs,vs,us,k1,k2,k3,k4,k5,k6,k7,k8,_⟩:=jE ri h1 hi
    obtain⟨v,m1,m2⟩:=k7.get hd
    exact⟨.ref a,k1,a,C,dx,fs,v,rfl,k2,h1.cl,h2 g hx,k8 _ m1,k v H F (bc.refl ri.sub) m2⟩
   ·exact w.elim
  ·exact w.elim
def kX (i:Nat) (cls g:Df):a9->R D:=λρ=>match ρ[i]? with
 |some (some (.cel x _ f hs))=>if x=cls/\f=g then .ok (.lst hs)else .bad
 |_=> .bad
theorem vP (i:Nat) (T:bI X.K cls xs) (hx:g∈xs) (hN:X.N[i]? =some y:=by rfl) (hv:l7 X.env.scope y:=by first|exact E6 rfl|exact DW (E6 rfl)|exact DW (DW rfl)) (hd:(y==("__debug__":Df))=false:=by decide)
  (Lh:(y==("__classdict__":Df))=false:=by decide) (hb:Em (.Name y px) g X.env (DH (.Name y px) X.env)=DH (.Name y px) X.env:=by rfl):PB ly X (.Attribute (.Name y px) g pos) (kX i cls g):=by
 obtain⟨C,h1,h2⟩:=T.ex
 exact λc=>PE.weak (lL (pv i hN hv hd Lh) hb) λσ H Q ⟨F,ρ,ri,w⟩=>by
  unfold kX at w
  split at w
  ·rename_i x JJ f hs hi
   split at w
   ·rename_i hc
    obtain⟨rfl,rfl⟩:=hc
    obtain⟨a,dx,b,fs,vs,us,k1,k2,k3,k4,k5,k6,_⟩:=jE ri h1 hi
    exact⟨.ref a,k1,a,C,dx,fs, .ref b,rfl,k2,h1.cl,h2 _ hx,k4,w (.ref b) H F (bc.refl ri.sub) (.inr ⟨b, .lst us,rfl,k5, .lst k6⟩)⟩
   ·exact w.elim
  ·exact w.elim
def lx (i:Nat) (cls g:Df) (fv:a9->R D):a9->R aR:=λρ=>match ρ[i]? with
 |some (some (.cel x JJ f hs))=>fv ρ>>=λd=>if x=cls/\(JJ.lookup g).isSome=true/\JJ.length<900 then .ok (.nx (ρ.set i (some (.cel x (vO g d JJ) f hs))))else .bad
 |_=> .bad
theorem qc {α:Type} {g:Df}:∀{l:List (Df×α)},(l.lookup g).isSome=true->g∈l.map (·.1)
 |(k,v)::r,h=>by
  rw[Ef]at h
  cases e:g==k with
  |true=>rw[eq_of_beq e];exact Dt
  |false=>rw[e]at h;exact Dw _ (qc h)
theorem qd (i:Nat) (T:bI X.K cls xs) (hx:g∈xs) (hv:PQ ly X value fv) (hN:X.N[i]? =some y:=by rfl) (Sl:l7 X.env.scope y:=by first|exact E6 rfl|exact DW (E6 rfl)|exact DW (DW rfl)) (hd:(y==("__debug__":Df))=false:=by decide)
  (Lh:(y==("__classdict__":Df))=false:=by decide) (hs:Ei value (some (.Attribute (.Name y px) g Kk)) pos.line X.env=pure false:=by rfl):l9 ly X (.Assign [.Attribute (.Name y px) g Kk] value pos) (lx i cls g fv):=by
 obtain⟨C,h1,h2⟩:=T.ex
 exact λc=>PS.weak (yY (pv i hN Sl hd Lh) (hv c) hs) λD σ H ⟨F,ρ,ri,w⟩=>by
  unfold lx at w
  split at w
  ·rename_i x JJ f hs hi
   refine⟨F,ρ,ri,(aA.bind.mp w).imp λd _ w1 v H1 F1 e1 r1=> ?_⟩
   split at w1
   ·rename_i hc
    obtain⟨rfl,hl,K7⟩:=hc
    have Ln:=ri.step e1
    obtain⟨a,dx,b,fs,vs,us,k1,k2,k3,k4,k5,k6,k7,k8,k9,ON,Rv⟩:=jE Ln h1 hi
    have QL:g∈vs.map (·.1):=by rw[k7.names];exact qc hl
    have Sm:g≠f:=λz=>by rw[z]at QL;exact Rv QL
    have Pq:fs.length<1000:=by
     have:(fs.map (·.1)).length<=(f::vs.map (·.1)).length:=dW ON λq hq=>by
      obtain⟨u,hu⟩:=gP hq
      rcases k9 q u hu with z|z
      ·rw[z];exact Dt
      ·exact Dw _ z
     rw[Dl,DC,k7.names,Dl]at this
     omega
    refine⟨_,k1,a,C,dx,fs,rfl,k2,h1.cl,h2 g hx,Pq,?_⟩
    have oa:df H1 ρ σ i a:= .inr ⟨x,JJ,f,hs,a,C,dx,fs,hi,k1,k2, .inl rfl⟩
    have cz:∀z,(z=a\/z=dx\/fs.lookup f=some (.ref z))->gQ H1 ρ σ [i] z=none:=λz hz=>ij (DM.mpr rfl) (.inr ⟨x,JJ,f,hs,a,C,dx,fs,hi,k1,k2,hz⟩)
    have Sn:dx≠a:=λz=>by have:=k3.own;rw[z,k2]at this;cases this
    have So:b≠a:=λz=>by rw[z,k2]at k5;cases k5
    refine w1 σ _ F1 e1.grow (Ln.celUpd (dx:=dx) (b:=b) hi k1 oa ⟨⟨C,et g v fs,vs.map (λp=>if p.1=g then (p.1,v)else p),us,ar,h1.ns,?_,?_,k6,k7.put r1,λp hp=> ?_,λq u hq=> ?_,oQ _ _ ON,?_⟩,?_,k3.fa,k3.fd,k3.fb,cz a (.inl rfl),cz dx (.inr (.inl rfl)),cz b (.inr (.inr k4))⟩)
    ·rw[bE,if_neg (ET Sm)];exact k4
    ·rw[ai So];exact k5
    ·obtain⟨q,hq,rfl⟩:=G4.mp hp
     rw[bE]
     by_cases z:q.1=g
     ·rw[if_pos z,if_pos z]
     ·rw[if_neg z,if_neg z];exact k8 q hq
    ·have Ng:(vs.map (λp=>if p.1=g then (p.1,v)else p)).map (·.1)=vs.map (·.1):=by
      rw[Fg];refine I9 λp _=> ?_
      show (if p.1=g then (p.1,v)else p).1=p.1
      split<;>rfl
     rw[Ng]
     rw[bE]at hq
     by_cases z:q=g
     ·rw[z];exact .inr QL
     ·rw[if_neg z]at hq;exact k9 q u hq
    ·have Ng:(vs.map (λp=>if p.1=g then (p.1,v)else p)).map (·.1)=vs.map (·.1):=by
      rw[Fg];refine I9 λp _=> ?_
      show (if p.1=g then (p.1,v)else p).1=p.1
      split<;>rfl
     rw[Ng];exact Rv
    ·rw[ai Sn];exact k3.own
   ·exact w1.elim
  ·exact w.elim
theorem sy {K:Dd} {c:cm ly} {ρ:a9} {σ:St} {H F:Hp} {i:Nat} {C:Dg} {x:Df} {JJ:List (Df×D)} {f:Df} {hs Ko:List D} {a dx b:Dg} {fs:List (Df×V)} {us QM:List V} (ri:RI K c ρ σ H F) (hi:ρ[i]? =some (some (.cel x JJ f hs))) (k1:σ[i]? =some (some (.ref a))) (k2:H a=some (.ins C dx fs))
  (k3:i8 K c.H0 H F a dx b x JJ f hs) (k4:fs.lookup f=some (.ref b)) (k5:H b=some (.lst us)) (q:Reps K F QM Ko):RI K c (ρ.set i (some (.cel x JJ f Ko))) σ (a_ H b (.lst QM)) F:=by
 have cz:∀z,(z=a\/z=dx\/fs.lookup f=some (.ref z))->df H ρ σ i z:=λz hz=> .inr ⟨x,JJ,f,hs,a,C,dx,fs,hi,k1,k2,hz⟩
 have cy:∀z,df H ρ σ i z->gQ H ρ σ [i] z=none:=λz o=>ij (DM.mpr rfl) o
 have Sq:a≠b:=λz=>by rw[<-z,k2]at k5;cases k5
 have Sr:dx≠b:=λz=>by have:=k3.own;rw[z,k5]at this;cases this
 obtain⟨C',Mf,vs,Tw,g1,g2,g3,g4,g5,g6,g7⟩:=k3.ex
 rw[k2]at g1
 cases g1
 exact ri.celUpd (dx:=dx) (b:=b) hi k1 (cz b (.inr (.inr k4))) ⟨⟨C,fs,vs,QM,by rw[ai Sq];exact k2,g2,k4,ar,q,g6,g7⟩,by rw[ai Sr];exact k3.own,k3.fa,k3.fd,k3.fb,cy _ (cz a (.inl rfl)),cy _ (cz dx (.inr (.inl rfl))),cy _ (cz b (.inr (.inr k4)))⟩
def lz (i:Nat) (cls g:Df) (f:a9->R D):a9->R aR:=λρ=>match ρ[i]? with
 |some (some (.cel x JJ h hs))=>if x=cls/\h=g then (f ρ>>=λd=>if hs.length<lim then .ok (.nx (ρ.set i (some (.cel x JJ h (hs++[d])))))else .bad)else .bad
 |_=> .bad
theorem vQ (i:Nat) (T:bI X.K cls xs) (hx:g∈xs) (h:PQ ly X e f) (hN:X.N[i]? =some y:=by rfl) (hv:l7 X.env.scope y:=by first|exact E6 rfl|exact DW (E6 rfl)|exact DW (DW rfl)) (hd:(y==("__debug__":Df))=false:=by decide)
  (Lh:(y==("__classdict__":Df))=false:=by decide) (hb:Em (.Name y px) g X.env (DH (.Name y px) X.env)=DH (.Name y px) X.env:=by rfl)
  (LU:Em (.Attribute (.Name y px) g M7) "append" X.env (DH (.Attribute (.Name y px) g M7) X.env)=DH (.Attribute (.Name y px) g M7) X.env:=by rfl)
  (Oc:((DX K9 (Di [e] X.env)).all (λx=> !x.1)&&(FK K9 (EV [] X.env)).all (λx=>x.1.isSome)
   &&decide (([e]:List Dn).length+([]:List ID).length+(if ([]:List ID).isEmpty then 0 else 1)<30))=true:=by rfl)
  (LV:(JV.endLine==K9.line)=true:=by rfl) (hs:Di [e] X.env=(false,DH e X.env)::Di [] X.env:=by rfl) (MV:(DX K9 (Di [] X.env)).any (·.1)=false:=by rfl)
  (Nf:Ei (.Call (.Attribute (.Attribute (.Name y px) g M7) "append" JV) [e] [] K9) none pos.line X.env=pure false:=by rfl):l9 ly X (.Expr (.Call (.Attribute (.Attribute (.Name y px) g M7) "append" JV) [e] [] K9) pos) (lz i cls g f):=by
 obtain⟨C,h1,h2⟩:=T.ex
 exact λc=>PS.weak (lp (AG Hn PySem.F.slot_list_append PySem.F.type_list_append nq (lL (pv i hN hv hd Lh) hb) (cR (h c) gI hs) LU Oc LV hs MV) Nf) λD σ H ⟨F,ρ,ri,w⟩=>by
  unfold lz at w
  split at w
  ·rename_i x JJ f' hs hi
   split at w
   ·rename_i hc
    obtain⟨rfl,rfl⟩:=hc
    obtain⟨a,dx,b,fs,vs,us,k1,k2,k3,k4,k5,k6,_⟩:=jE ri h1 hi
    refine⟨.ref a,k1,a,C,dx,fs, .ref b,rfl,k2,h1.cl,h2 _ hx,k4, .inl ⟨rfl,us,dc.of k5⟩,F,ρ,ri,(aA.bind.mp w).imp λd _ w1 v H1 F1 e1 r1=> ?_⟩
    split at w1
    ·rename_i hl
     refine⟨b,us,v,rfl,rfl,e1.keep _ _ k5,DS (by rw[k6.length];exact hl) gM,?_⟩
     exact w1 σ _ F1 e1.grow (sy (ri.step e1) hi k1 (e1.keep _ _ k2) (k3.step e1) k4 (e1.keep _ _ k5) ((k6.mono e1.grow).append (.cons r1 .nil)))
    ·exact w1.elim
   ·exact w.elim
  ·exact w.elim
def oV (j i:Nat) (cls g:Df):a9->R aR:=λρ=>match ρ[i]? with
 |some (some (.cel x JJ h hs))=>if x=cls/\h=g then (match hs[hs.length - 1]? with
  |some d=> .ok (.nx ((ρ.set i (some (.cel x JJ h hs.dropLast))).set j (some (.val d))))
  |none=> .bad)else .bad
 |_=> .bad
theorem Reps.dropLast {K:Dd} {F:Hp} {vs:List V} {ds:List D} (h:Reps K F vs ds):Reps K F vs.dropLast ds.dropLast:=by
 rw[HJ,HJ,h.length];exact h.take _
theorem vR (j i:Nat) {z:Df} (QN:X.N.Nodup) (T:bI X.K cls xs) (hx:g∈xs) (hN:X.N[i]? =some y:=by rfl) (hv:l7 X.env.scope y:=by first|exact E6 rfl|exact DW (E6 rfl)|exact DW (DW rfl)) (hd:(y==("__debug__":Df))=false:=by decide)
  (Lh:(y==("__classdict__":Df))=false:=by decide) (hb:Em (.Name y px) g X.env (DH (.Name y px) X.env)=DH (.Name y px) X.env:=by rfl)
  (LU:Em (.Attribute (.Name y px) g M7) "pop" X.env (DH (.Attribute (.Name y px) g M7) X.env)=DH (.Attribute (.Name y px) g M7) X.env:=by rfl) (LV:(JV.endLine==K9.line)=true:=by rfl)
  (Ss:X.N[j]? =some z:=by rfl) (Su:uu X.env.scope z:=by first|exact E6 rfl|exact DW rfl) (Nf:Ei (.Call (.Attribute (.Attribute (.Name y px) g M7) "pop" JV) [] [] K9) (some (.Name z Kk)) pos.line X.env=pure false:=by rfl)
  (hf:X.fn z=true\/X.env.scope.names.lookup z=some .local:=by first|exact .inl rfl|exact .inr rfl|assumption) (LC:iI ly j:=by(repeat (first|assumption|exact L2.Pu.d_|refine L2.Pu.d7 ⟨by first|decide|simp,by first|decide|simp⟩ ?_))):
  l9 ly X (.Assign [.Name z Kk] (.Call (.Attribute (.Attribute (.Name y px) g M7) "pop" JV) [] [] K9) pos) (oV j i cls g):=by
 obtain⟨C,h1,h2⟩:=T.ex
 exact λc=>PS.weak (lG QN Ss Su (zf Hn PySem.F.slot_list_pop PySem.F.type_list_pop zg (lL (pv i hN hv hd Lh) hb) LU LV) Nf hf) λD σ H ⟨F,ρ,ri,w⟩=>by
  unfold oV at w
  split at w
  ·rename_i x JJ f' hs hi
   split at w
   ·rename_i hc
    obtain⟨rfl,rfl⟩:=hc
    obtain⟨a,dx,b,fs,vs,us,k1,k2,k3,k4,k5,k6,_⟩:=jE ri h1 hi
    split at w
    ·rename_i d hd
     obtain⟨v,m1,m2⟩:=k6.get hd
     refine⟨.ref a,k1,a,C,dx,fs, .ref b,rfl,k2,h1.cl,h2 _ hx,k4, .inl ⟨rfl,us,dc.of k5⟩,b,us,v,rfl,rfl,k5,by rw[k6.length];exact m1,?_⟩
     exact w _ _ F (az.refl _) ((sy ri hi k1 k2 k3 k4 k5 k6.dropLast).setVal j LC m2)
    ·exact w.elim
   ·exact w.elim
  ·exact w.elim
variable {fx:a9->R (D×a9)}
def kY (f:a9->R D):a9->R aR:=λρ=>f ρ>>=λd=> .ok (.retc d ρ)
theorem oW (h:PQ ly X e f):l9 ly X (.Return (some e) pos) (kY f):=λc=>PS.weak (qv (h c)) λD σ H ⟨F,ρ,ri,w⟩=>
 ⟨F,ρ,ri,(aA.bind.mp w).imp λd _ w1 v H' F' e r=>w1 v σ H' F' e.grow (ri.step e) r⟩
def fc (fx:a9->R (D×a9)):a9->R aR:=λρ=>fx ρ>>=λr=> .ok (.nx r.2)
theorem oX (h:PX ly X e fx) (Nf:Ei e none pos.line X.env=pure false:=by rfl):l9 ly X (.Expr e pos) (fc fx):=λc=>PS.weak (lp (h c) Nf) λD σ H ⟨F,ρ,ri,w⟩=>
 ⟨F,ρ,ri,(aA.bind.mp w).imp λr _ w1 v H' F' e LO rv=>w1 σ H' F' e LO⟩
def CN (K:Dd) (c:cm ly) (gx:a9->R (Bool×a9)):TT:=λσ H Q=>∃F ρ,RI K c ρ σ H F/\aA c (gx ρ) λr=>∀H' F',az F F'->RI K c r.2 σ H' F'->Q r.1 H'
def yy (ly:List cK) (X:Cx) (e:Dn) (gx:a9->R (Bool×a9)):Prop:=∀c:gg ly X,PT X e (CN X.K c.1 gx)
def tZ (fx:a9->R (D×a9)):a9->R (Bool×a9):=λρ=>fx ρ>>=λr=>match r.1 with
 | .bl b=> .ok (b,r.2)
 |_=> .bad
theorem vS (h:PX ly X e fx) (he:∀L3,HC e X.env L3=(do let v<-L3;FU e.pos;FV [v] (Jc v)):=by intro _;rfl):yy ly X e (tZ fx):=λc=>PT.weak (yN (h c) he) λσ H Q ⟨F,ρ,ri,w⟩=>
 ⟨F,ρ,ri,(aA.bind.mp w).imp λr _ w1 v H' F' e LO rv=>by
  cases q:r.1 with
  |bl b=>rw[q]at w1 rv;cases rv;exact⟨b,rfl,w1 H' F' e LO⟩
  |_=>rw[q]at w1;exact w1.elim⟩
def nQ (gx:a9->R (Bool×a9)):a9->R (Bool×a9):=λρ=>gx ρ>>=λr=> .ok (!r.1,r.2)
theorem vT {gx:a9->R (Bool×a9)} (h:yy ly X e gx):yy ly X (.UnaryOp .Not e pos) (nQ gx):=λc=>PT.weak (uy (h c)) λσ H Q ⟨F,ρ,ri,w⟩=>⟨F,ρ,ri,(aA.bind.mp w).imp λr _ w1 H' F' e LO=>w1 H' F' e LO⟩
def t_ (gx:a9->R (Bool×a9)) (g g':a9->R aR):a9->R aR:=λρ=>gx ρ>>=λr=>if r.1=true then g r.2 else g' r.2
theorem yz {gx:a9->R (Bool×a9)} {g g':a9->R aR} {ta tb:List DJ} (hc:yy ly X e gx) (ha:fR ly X ta g) (hb:fR ly X tb g'):l9 ly X (.If e ta tb pos) (t_ gx g g'):=λc=>PS.weak (yd (hc c) (ha c) (hb c)) λD σ H ⟨F,ρ,ri,w⟩=>
 ⟨F,ρ,ri,(aA.bind.mp w).imp λr _ w1 H1 F1 e1 Ln=>by
  cases q:r.1 with
  |true=>rw[q]at w1;rw[if_pos rfl]at w1 ⊢;exact⟨F1,r.2,Ln,w1.imp λo _ k=>k.mono e1⟩
  |false=>rw[q]at w1;rw[if_neg DF]at w1 ⊢;exact⟨F1,r.2,Ln,w1.imp λo _ k=>k.mono e1⟩⟩
end
end L2.Pu
namespace L2.Pu
open PySem PySem.Spec PyProof.Rows
variable {ly:List cK}
mutual
inductive gl (f:Df):D->Prop
 |non:gl f .non
 |bl (b:Bool):gl f (.bl b)
 |int (i:Int):gl f (.int i)
 |str (x:Df):gl f (.str x)
 |tup {ds:List D}:Cleans f ds->gl f (.tup ds)
 |ins {x:Df} {fds:List (Df×D)}:fds.lookup f=none->CleanF f fds->gl f (.ins x fds)
inductive Cleans (f:Df):List D->Prop
 |nil:Cleans f []
 |cons {d:D} {ds:List D}:gl f d->Cleans f ds->Cleans f (d::ds)
inductive CleanF (f:Df):List (Df×D)->Prop
 |nil:CleanF f []
 |cons {k:Df} {d:D} {ds:List (Df×D)}:gl f d->CleanF f ds->CleanF f ((k,d)::ds)
end
open Classical in
noncomputable def gR (F:Hp) (Ow:Dg->Prop):Hp:=λz=>if Ow z then none else F z
theorem jF {F:Hp} {Ow:Dg->Prop} {z:Dg} (h:¬Ow z):gR F Ow z=F z:=if_neg h
theorem mv {F:Hp} {Ow:Dg->Prop} {z:Dg} {u:HO} (h:gR F Ow z=some u):¬Ow z/\F z=some u:=by
 unfold gR at h
 split at h
 ·cases h
 ·rename_i n;exact⟨n,h⟩
theorem ci.cut {K:Dd} {F:Hp} {Ow:Dg->Prop} {f:Df} (hn:∀z,Ow z->∀vs,F z≠some (.tup vs)) (hi:∀z,Ow z->∀C dx fs,F z=some (.ins C dx fs)->fs.lookup f≠none) (ho:∀z a,Ow z->F z=some (.own a)->Ow a) {v:V} {d:D} (h:ci K F v d):gl f d->ci K (gR F Ow) v d:=by
 refine ci.rec (motive_1:=λv d _=>gl f d->ci K (gR F Ow) v d) (motive_2:=λv d _=>Cleans f d->Reps K (gR F Ow) v d) (motive_3:=λv d _=>True) (motive_4:=λv d _=>CleanF f d->RepF K (gR F Ow) v d)
  (λ_=> .non) (λb _=> .bl b) (λi _=> .int i) (λx _=> .str x) (λ{a vs ds} h _ ih c=> ?_) (λh _ ih c=>by cases c) (λh c=>by cases c) (λh _ n ih c=>by cases c) (λ{a C dx x fs vs fds} h1 h2 h3 h4 h5 h6 ih c=> ?_) (λh n c=>by cases c) (λ_=> .nil) (λ_ _ ih QO c=> ?_) trivial (λ_ _ _ _=>trivial) (λ_=> .nil) (λ_ _ ih QO c=> ?_) h
 ·cases c with
  |tup c=>exact .tup (by rw[jF (λo=>hn a o vs h)];exact h) (ih c)
 ·cases c with
  |ins cl c=>
   have na:¬Ow a:=λo=>by
    refine hi a o C dx fs h1 ?_
    cases q:fs.lookup f with
    |none=>rfl
    |some u=>
     have:=h5 f u q
     rw[h6.names]at this
     exact absurd this (dt cl)
   have nd:¬Ow dx:=λo=>na (ho dx a o h2)
   exact .ins (by rw[jF na];exact h1) (by rw[jF nd];exact h2) h3 h4 h5 (ih c)
 ·cases c with
  |cons c1 c2=>exact .cons (ih c1) (QO c2)
 ·cases c with
  |cons c1 c2=>exact .cons (ih c1) (QO c2)
def Slot.frozen:Slot->Slot
 | .own d=> .val d
 | .cel x JJ f hs=> .val (.ins x (JJ++[(f, .lst hs)]))
 |s=>s
theorem oY (s:Slot):s.frozen.frozen=s.frozen:=by cases s<;>rfl
def mw (i:Nat) (ρ:a9):a9:=match ρ[i]? with
 |some (some s)=>ρ.set i (some s.frozen)
 |_=>ρ
def jG (L:List Nat) (ρ:a9):a9:=L.foldl (λr i=>mw i r) ρ
theorem u0 (i:Nat) (ρ:a9):(mw i ρ).length=ρ.length:=by
 unfold mw
 split
 ·simp
 ·rfl
theorem nR:∀(L:List Nat) (ρ:a9),(jG L ρ).length=ρ.length
 |[],ρ=>rfl
 |i::L,ρ=>(nR L (mw i ρ)).trans (u0 i ρ)
theorem nS {i j:Nat} {ρ:a9} {s:Slot} (h:(mw i ρ)[j]? =some (some s)):(i=j/\∃s0,ρ[j]? =some (some s0)/\s=s0.frozen)\/(i≠j/\ρ[j]? =some (some s)):=by
 unfold mw at h
 split at h
 ·rename_i s0 hs
  rcases am h with ⟨rfl,z,_⟩|⟨z,h⟩
  ·cases z;exact .inl ⟨rfl,s0,hs,rfl⟩
  ·exact .inr ⟨z,h⟩
 ·rename_i n
  refine .inr ⟨λe=> ?_,h⟩
  subst e
  exact n s h
theorem c9:∀{L:List Nat} {j:Nat} {ρ:a9} {s:Slot},(jG L ρ)[j]? =some (some s)->(j∈L/\∃s0,ρ[j]? =some (some s0)/\s=s0.frozen)\/(j∉L/\ρ[j]? =some (some s))
 |[],j,ρ,s,h=> .inr ⟨by simp,h⟩
 |i::L,j,ρ,s,h=>by
  rcases c9 (L:=L) (ρ:=mw i ρ) h with ⟨h1,s0,h2,h3⟩|⟨h1,h2⟩
  ·refine .inl ⟨Dw _ h1,?_⟩
   rcases nS h2 with ⟨rfl,s1,g1,g2⟩|⟨_,g1⟩
   ·exact⟨s1,g1,by rw[h3,g2,oY]⟩
   ·exact⟨s0,g1,h3⟩
  ·rcases nS h2 with ⟨rfl,s1,g1,g2⟩|⟨n,g1⟩
   ·exact .inl ⟨Dt,s1,g1,g2⟩
   ·exact .inr ⟨λm=>(DA.mp m).elim (λq=>n q.symm) h1,g1⟩
open Classical in
noncomputable def ik (H F:Hp) (ρ:a9) (σ:St) (L:List Nat):Hp:=λz=>if ∃i∈L,df H ρ σ i z then H z else F z
section
variable {K:Dd} {c:cm ly} {ρ:a9} {σ:St} {H F H' F':Hp} {L:List Nat}
theorem iD {i:Nat} {z:Dg} (hi:i∈L) (h:df H ρ σ i z):ik H F ρ σ L z=H z:=if_pos ⟨i,hi,h⟩
theorem fg {z:Dg} (h:¬∃i∈L,df H ρ σ i z):ik H F ρ σ L z=F z:=if_neg h
theorem RepF.snoc {vs:List (Df×V)} {JJ:List (Df×D)} {f:Df} {v:V} {d:D} (h:RepF K F vs JJ) (r:ci K F v d):RepF K F (vs++[(f,v)]) (JJ++[(f,d)]):=by
 induction JJ generalizing vs with
 |nil=>rw[h.nilI];exact .cons r .nil
 |cons p JJ ih=>
  obtain⟨k,x⟩:=p
  obtain⟨u,us,rfl,h1,h2⟩:=h.consI
  exact .cons h1 (ih h2)
theorem RI.lend (r:RI K c ρ σ H F) (L:List Nat):az F (ik H F ρ σ L)/\RI K c (jG L ρ) σ H (ik H F ρ σ L):=by
 have grow:az F (ik H F ρ σ L):=λz u e=>by
  by_cases o:∃i∈L,df H ρ σ i z
  ·obtain⟨i,hi,o⟩:=o
   rw[(r.owns o).2.1]at e
   cases e
  ·rw[fg o];exact e
 have out:∀{j:Nat} {z:Dg},j∉L->df H ρ σ j z->ik H F ρ σ L z=none:=λ{j z} hj o=>by
  rw[fg (λ⟨i,hi,o'⟩=>hj (by rw[r.owns_inj o o'];exact hi))]
  exact(r.owns o).2.1
 refine⟨grow,⟨⟨λz u e=> ?_,r.ext.keep,r.ext.grow.trans grow,λz e=> ?_⟩,λj d h=> ?_,λj d h=> ?_,λj d h=> ?_,r.bh,λj j' d d' a h h'=> ?_,?_,λM hM h=> ?_,λM hM M' Ox h h'=> ?_,r.fm.trans grow,⟨λj x JJ f hs h=> ?_,λj j' x JJ f hs s h h' Ko=> ?_⟩,r.pin⟩⟩
 ·by_cases o:∃i∈L,df H ρ σ i z
  ·obtain⟨i,hi,o⟩:=o
   rw[iD hi o]at e;exact e
  ·rw[fg o]at e;exact r.sub z u e
 ·by_cases o:∃i∈L,df H ρ σ i z
  ·obtain⟨i,hi,o⟩:=o
   exact .inr (r.owns o).1
  ·rw[fg o]at e;exact r.ext.new z e
 ·rcases c9 h with ⟨hj,s0,h1,h2⟩|⟨_,h1⟩
  ·cases s0 with
   |val d'=>cases h2;obtain⟨v,k1,k2⟩:=r.val j d h1;exact⟨v,k1,k2.mono grow⟩
   |own d'=>
    cases h2
    obtain⟨a,o,k1,k2,k3,k4,k5⟩:=r.own j d h1
    have fa:ik H F ρ σ L a=some o:=by rw[iD hj (.inl ⟨d,h1,k1⟩)];exact k2
    refine⟨.ref a,k1,?_⟩
    cases k5 with
    |lst q=>exact .lst fa (q.mono grow)
    |dic q n=>exact .dic fa (q.mono grow) n
   |cel x JJ f hs=>
    cases h2
    obtain⟨a,dx,b,k1,k2,k3⟩:=r.cel.ex j x JJ f hs h1
    have Pm:=k2
    obtain⟨C,fs,vs,us,g1,g2,g3,g4,g5,g6,g7,g8,g9,Ro⟩:=k2.ex
    have ow:∀z,(z=a\/z=dx\/fs.lookup f=some (.ref z))->ik H F ρ σ L z=H z:=λz hz=>iD hj (.inr ⟨x,JJ,f,hs,a,C,dx,fs,h1,k1,g1,hz⟩)
    refine⟨.ref a,k1, .ins (by rw[ow a (.inl rfl)];exact g1) (by rw[ow dx (.inr (.inl rfl))];exact k2.own) g2 (vs:=vs++[(f, .ref b)]) (λp hp=> ?_) (λg v hg=> ?_) ((g6.mono grow).snoc (.lst (by rw[ow b (.inr (.inr g3))];exact g4) (g5.mono grow)))⟩
    ·rcases EX.mp hp with q|q
     ·exact g7 p q
     ·rw[DM.mp q];exact g3
    ·rw[Fu]
     rcases g8 g v hg with q|q
     ·rw[q];exact DO _ Dt
     ·exact Ej _ q
   |bor d'=>cases h2
   |obj=>cases h2
  ·obtain⟨v,k1,k2⟩:=r.val j d h1;exact⟨v,k1,k2.mono grow⟩
 ·rcases c9 h with ⟨hj,s0,h1,h2⟩|⟨hj,h1⟩
  ·cases s0<;>cases h2
  ·obtain⟨a,o,k1,k2,k3,k4,k5⟩:=r.own j d h1
   exact⟨a,o,k1,k2,out hj (.inl ⟨d,h1,k1⟩),k4,k5.mono grow⟩
 ·rcases c9 h with ⟨hj,s0,h1,h2⟩|⟨hj,h1⟩
  ·cases s0 with
   |bor d'=>cases h2;exact r.bor j d h1
   |_=>cases h2
  ·exact r.bor j d h1
 ·have un:∀{j:Nat} {d:D},(jG L ρ)[j]? =some (some (.own d))->ρ[j]? =some (some (.own d)):=λh=>by
   rcases c9 h with ⟨hj,s0,h1,h2⟩|⟨hj,h1⟩
   ·cases s0<;>cases h2
   ·exact h1
  exact r.dis j j' d d' a (un h) (un h')
 ·rw[nR];exact r.len
 ·have h1:ρ[M.x]? =some (some .obj):=by
   rcases c9 h with ⟨hj,s0,h1,h2⟩|⟨hj,h1⟩
   ·cases s0 with
    |obj=>exact h1
    |_=>cases h2
   ·exact h1
  obtain⟨a,dx,fs,k0,k1,k2,k3,k4,k5,k6⟩:=r.obj M hM h1
  have no:∀{z:Dg} {u:HO},H z=some u->(∀d,¬iH K F u d)->F z=none->ik H F ρ σ L z=none:=λ{z u} hz nr hf=>by
   rw[fg]
   ·exact hf
   ·rintro⟨i,hi,o⟩
    rcases o with ⟨d,g1,g2⟩|⟨x,JJ,f,hs,a,C,dx,fs,g1,_⟩
    ·obtain⟨p,u',q1,q2,_,_,q5⟩:=r.own i d g1
     rw[g2]at q1
     cases q1
     rw[hz]at q2
     cases q2
     exact nr d q5
    ·have:=r.cel.one i M.x x JJ f hs _ g1 h1 rfl
     subst this
     rw[h1]at g1
     cases g1
  exact⟨a,dx,fs,k0,k1,k2,k3,no k2 (λd q=>by cases q) k4,no k3 (λd q=>by cases q) k5,k6⟩
 ·have un:∀{j:Nat},(jG L ρ)[j]? =some (some .obj)->ρ[j]? =some (some .obj):=λh=>by
   rcases c9 h with ⟨hj,s0,h1,h2⟩|⟨hj,h1⟩
   ·cases s0 with
    |obj=>exact h1
    |_=>cases h2
   ·exact h1
  exact r.odis M hM M' Ox (un h) (un h')
 ·rcases c9 h with ⟨hj,s0,h1,h2⟩|⟨hj,h1⟩
  ·cases s0<;>cases h2
  ·obtain⟨a,dx,b,k1,k2,k3⟩:=r.cel.ex j x JJ f hs h1
   have Pm:=k2
   obtain⟨C,fs,vs,us,g1,g2,g3,g4,g5,g6,g7⟩:=k2.ex
   have ow:∀z,(z=a\/z=dx\/fs.lookup f=some (.ref z))->ik H F ρ σ L z=none:=λz hz=>out hj (.inr ⟨x,JJ,f,hs,a,C,dx,fs,h1,k1,g1,hz⟩)
   refine⟨a,dx,b,k1,⟨⟨C,fs,vs,us,g1,g2,g3,g4,g5.mono grow,g6.mono grow,g7⟩,k2.own,ow a (.inl rfl),ow dx (.inr (.inl rfl)),ow b (.inr (.inr g3)),k2.za,k2.zd,k2.zb⟩,λj' d h'=> ?_⟩
   rcases c9 h' with ⟨MY,s0,MT,Lz⟩|⟨MY,MT⟩
   ·cases s0<;>cases Lz
   ·exact k3 j' d MT
 ·have un:∀{j:Nat} {s:Slot},(jG L ρ)[j]? =some (some s)->s.single=true->ρ[j]? =some (some s):=λh hs=>by
   rcases c9 h with ⟨hj,s0,h1,h2⟩|⟨hj,h1⟩
   ·cases s0 with
    |obj=>rw[h2];exact h1
    |_=>rw[h2]at hs;cases hs
   ·exact h1
  exact r.cel.one j j' x JJ f hs s (un h rfl) (un h' Ko) Ko
def sA (f:Df) (ρ:a9) (i:Nat):Bool:=match ρ[i]? with
 |some (some (.cel _ _ g _))=>g==f
 |_=>true
theorem RI.unlend (r:RI K c ρ σ H F) {f:Df} (hc:L.all (sA f ρ)=true) (e:bc H (ik H F ρ σ L) H' F') {v:V} {d:D} (q:ci K F' v d) (cl:gl f d):∃F2,bc H F H' F2/\ci K F2 v d:=by
 have up:∀{i:Nat} {z:Dg} {u:HO},i∈L->df H ρ σ i z->H z=some u->F' z=some u:=λhi o h=>e.grow _ _ (by rw[iD hi o];exact h)
 have Lg:∀{i:Nat} {z:Dg},i∈L->df H ρ σ i z->(∃d,iH K F (Option.getD (H z) (.own 0)) d/\∃u,H z=some u)\/(∃C dx fs,H z=some (.ins C dx fs)/\fs.lookup f≠none)\/(∃a,H z=some (.own a)/\df H ρ σ i a)\/∃us,H z=some (.lst us):=λ{i z} hi o=>by
  rcases o with ⟨d,g1,g2⟩|⟨x,JJ,g,hs,a,C,dx,fs,g1,g2,g3,g4⟩
  ·obtain⟨p,u,q1,q2,_,_,q5⟩:=r.own i d g1
   rw[g2]at q1
   cases q1
   exact .inl ⟨d,by rw[q2];exact q5,u,q2⟩
  ·obtain⟨b,m1,m2,m3⟩:=r.celIn g1 g2 g3
   have hg:g=f:=by
    have:=FO.mp hc i hi
    unfold sA at this
    rw[g1]at this
    simpa using this
   rcases g4 with rfl|rfl|g4
   ·exact .inr (.inl ⟨C,dx,fs,g3,by rw[<-hg,m2];simp⟩)
   ·exact .inr (.inr (.inl ⟨a,m1.own, .inr ⟨x,JJ,g,hs,a,C,_,fs,g1,g2,g3, .inl rfl⟩⟩))
   ·rw[m2]at g4
    cases g4
    obtain⟨C',Mf,vs,us,q1,q2,q3,q4,_⟩:=m1.ex
    exact .inr (.inr (.inr ⟨us,q4⟩))
 refine⟨gR F' (λz=>∃i∈L,df H ρ σ i z),⟨λz u h=>e.sub z u (mv h).2,e.keep,λz u h=> ?_,λz h=> ?_⟩,q.cut (f:=f) ?_ ?_ ?_ cl⟩
 ·have no:¬∃i∈L,df H ρ σ i z:=λ⟨i,hi,o⟩=>by rw[(r.owns o).2.1]at h;cases h
  rw[jF no]
  exact e.grow z u (by rw[fg no];exact h)
 ·cases w:gR F' (λz=>∃i∈L,df H ρ σ i z) z with
  |none=>exact absurd w h
  |some u=>
   obtain⟨no,w2⟩:=mv w
   rcases e.new z (by rw[w2];simp)with k|k
   ·rw[fg no]at k;exact .inl k
   ·exact .inr k
 ·rintro z ⟨i,hi,o⟩ vs h
  obtain⟨_,_,u,hu⟩:=r.owns o
  rw[up hi o hu]at h
  cases h
  rcases Lg hi o with ⟨d,k,_⟩|⟨C,dx,fs,k,_⟩|⟨a,k,_⟩|⟨us,k⟩
  ·rw[hu]at k;cases k
  ·rw[hu]at k;cases k
  ·rw[hu]at k;cases k
  ·rw[hu]at k;cases k
 ·rintro z ⟨i,hi,o⟩ C dx fs h
  obtain⟨_,_,u,hu⟩:=r.owns o
  rw[up hi o hu]at h
  cases h
  rcases Lg hi o with ⟨d,k,_⟩|⟨C',NT,Mf,k,k2⟩|⟨a,k,_⟩|⟨us,k⟩
  ·rw[hu]at k;cases k
  ·rw[hu]at k;cases k;exact k2
  ·rw[hu]at k;cases k
  ·rw[hu]at k;cases k
 ·rintro z a ⟨i,hi,o⟩ h
  obtain⟨_,_,u,hu⟩:=r.owns o
  rw[up hi o hu]at h
  cases h
  rcases Lg hi o with ⟨d,k,_⟩|⟨C',NT,Mf,k,k2⟩|⟨a',k,k2⟩|⟨us,k⟩
  ·rw[hu]at k;cases k
  ·rw[hu]at k;cases k
  ·rw[hu]at k;cases k;exact⟨i,hi,k2⟩
  ·rw[hu]at k;cases k
end
section
variable {X:Cx} {e:Dn} {es:List Dn} {f:a9->R D} {g:a9->R Bool} {pos:DY}
open Classical in
noncomputable def mx (x:Df) (L:List Nat) (f:a9->R D):a9->R D:=λρ=>if L.all (sA x ρ)=true then (f (jG L ρ)>>=λd=>if gl x d then .ok d else .bad)else .bad
theorem xO (x:Df) (L:List Nat) (h:PQ ly X e f):PQ ly X e (mx x L f):=λc=>PE.weak (h c) λσ H Q ⟨F,ρ,ri,w⟩=>by
 unfold mx at w
 split at w
 ·rename_i hc
  obtain⟨s,LO⟩:=ri.lend L
  refine⟨_,_,LO,(aA.bind.mp w).imp λd _ w1 v H1 F1 e1 r1=> ?_⟩
  split at w1
  ·rename_i cl
   obtain⟨F2,e2,r2⟩:=ri.unlend hc e1 r1 cl
   exact w1 v H1 F2 e2 r2
  ·exact w1.elim
 ·exact w.elim
def il (L:List Nat) (g:a9->R Bool):a9->R Bool:=λρ=>g (jG L ρ)
theorem oZ (L:List Nat) (h:v3 ly X e g):v3 ly X e (il L g):=λc=>PT.weak (h c) λσ H Q ⟨F,ρ,ri,w⟩=>by
 obtain⟨s,LO⟩:=ri.lend L
 exact⟨_,_,LO,aA.imp w λb _ w1 H1 F1 e1=>w1 H1 F (vJ ri.sub e1.keep)⟩
end
end L2.Pu
namespace L2.Pu
open PySem PySem.Spec PyProof.Rows
variable {ly:List cK}
theorem RI.fldO {K:Dd} {c:cm ly} {ρ:a9} {σ:St} {H F:Hp} (r:RI K c ρ σ H F) {f:Df} {L:cK} (hL:L∈ly) (hρ:ρ[L.x]? =some (some .obj)) {a dx p:Dg} {fs:List (Df×V)} {i:Nat} {o:HO} {d:D} (hx:σ[L.x]? =some (some (.ref a))) (ha:H a=some (.ins L.C dx fs)) (hf:(f,i)∈L.fl)
  (hn:∀p∈L.fl,p.1=f<->p.2=i) (Ov:L.x≠i) (M_:∀M∈ly,M≠L->M.x≠i/\∀p∈M.fl,p.2≠i) (NG:i<σ.length) (hp:H p=some o) (fp:F p=none) (zp:c.H0 p=none) (ro:iH K F o d) (ne:∀(j:Nat) d',ρ[j]? =some (some (.own d'))->σ[j]? ≠some (some (.ref p))):
  RI K c (ρ.set i (some (.own d))) (σ.set i (some (.ref p))) (a_ H a (.ins L.C dx (et f (.ref p) fs))) F:=by
 obtain⟨b,NT,Mf,k0,k1,k2,k3,k4,k5,k6,k7,k8,k9,ON⟩:=r.obj L hL hρ
 rw[hx]at k1
 cases k1
 rw[ha]at k2
 cases k2
 have Sv:p≠a:=λz=>by subst z;rw[ha]at hp;cases hp;cases ro
 refine⟨⟨λx y e=> ?_,λx y e=> ?_,r.ext.grow,r.ext.new⟩,λj e q=> ?_,λj e q=> ?_,λj e q=> ?_,r.bh,λj k e e' x q1 q2 q3 q4=> ?_,by simp[r.len],λM hM hq=> ?_,λM hM M' Ox Pf Pg x q1 q2=> ?_,r.fm, .no λj x JJ g hs w=> ?_,λM hM a h=> ?_⟩
 ·rw[ai (λz=>by rw[z,k4]at e;cases e)];exact r.sub x y e
 ·rw[ai (λz=>by rw[z,k6]at e;cases e)];exact r.ext.keep x y e
 ·rcases am q with ⟨rfl,z,l⟩|⟨z,q⟩
  ·cases z
  ·rw[aa z];exact r.val j e q
 ·rcases am q with ⟨rfl,z,l⟩|⟨z,q⟩
  ·cases z;exact⟨p,o,dj NG,by rw[ai Sv];exact hp,fp,zp,ro⟩
  ·obtain⟨x,o,g1,g2,g3,g4,g5⟩:=r.own j e q
   have nx:x≠a:=λz=>by subst z;rw[ha]at g2;cases g2;cases g5
   exact⟨x,o,by rw[aa z];exact g1,by rw[ai nx];exact g2,g3,g4,g5⟩
 ·rcases am q with ⟨rfl,z,l⟩|⟨z,q⟩
  ·cases z
  ·rw[aa z];exact r.bor j e q
 ·rcases am q1 with ⟨rfl,z,l⟩|⟨z,q1⟩
  ·rw[dj NG]at q3
   cases q3
   rcases am q2 with ⟨rfl,z',l⟩|⟨z',q2⟩
   ·rfl
   ·rw[aa z']at q4;exact absurd q4 (ne k e' q2)
  ·rw[aa z]at q3
   rcases am q2 with ⟨rfl,z',l⟩|⟨z',q2⟩
   ·rw[dj NG]at q4
    cases q4
    exact absurd q3 (ne j e q1)
   ·rw[aa z']at q4
    exact r.dis j k e e' x q1 q2 q3 q4
 ·by_cases Ml:M=L
  ·subst Ml
   refine⟨a,dx,et f (.ref p) fs,k0,by rw[aa Ov.symm];exact hx,ar,?_,k4,k5,k6,k7,λp hp=> ?_,λg u hu=> ?_,oQ _ _ ON⟩
   ·rw[ai (λz=>by rw[z,ha]at k3;cases k3)];exact k3
   ·rw[bE]
    by_cases e:p.1=f
    ·rw[if_pos e,(hn p hp).mp e,dj NG];rfl
    ·rw[if_neg e,aa (λz=>e ((hn p hp).mpr z.symm))];exact k8 p hp
   ·rw[bE]at hu
    by_cases e:g=f
    ·subst e;exact G4.mpr ⟨_,hf,rfl⟩
    ·rw[if_neg e]at hu;exact k9 g u hu
  ·have ho:=M_ M hM Ml
   rw[aa ho.1.symm]at hq
   obtain⟨b,dy,gs,g0,g1,g2,g3,g4,g5,g6,g7,g8,g9⟩:=r.obj M hM hq
   have nb:b≠a:=λz=>Ml (r.odis M hM L hL hq hρ a (by rw[<-z];exact g1) hx)
   have nd:dy≠a:=λz=>by subst z;rw[ha]at g3;cases g3
   refine⟨b,dy,gs,g0,by rw[aa ho.1.symm];exact g1,by rw[ai nb];exact g2,by rw[ai nd];exact g3,g4,g5,g6,g7,λp hp=> ?_,g9⟩
   rw[aa (ho.2 p hp).symm];exact g8 p hp
 ·have NU:∀M∈ly,M.x≠i:=λM hM=>by
   by_cases Ml:M=L
   ·subst Ml;exact Ov
   ·exact(M_ M hM Ml).1
  rw[aa (NU M hM).symm]at q1 Pf
  rw[aa (NU M' Ox).symm]at q2 Pg
  exact r.odis M hM M' Ox Pf Pg x q1 q2
 ·rcases am w with ⟨rfl,z,l⟩|⟨z,w⟩
  ·cases z
  ·have:=r.cel.one j L.x x JJ g hs .obj w hρ rfl
   subst this
   rw[hρ]at w
   cases w
 ·have NU:M.x≠i:=by
   by_cases Ml:M=L
   ·subst Ml;exact Ov
   ·exact(M_ M hM Ml).1
  rw[aa NU.symm];exact r.pin M hM a h
section
variable {X:Cx} {pos Kk px pl:DY} {f y g:Df}
def vU (x i:Nat):a9->R aR:=λρ=>match ρ[x]? with
 |some (some .obj)=> .ok (.nx (ρ.set i (some (.own (.lst [])))))
 |_=> .bad
theorem zS {L:cK} (i:Nat) (hC:pA X.K L.C) (n:cb X.K L.C f) (A:vB ly L f i) (hN:X.N[L.x]? =some y:=by rfl) (QD:l7 X.env.scope y:=by first|exact E6 rfl|exact DW (E6 rfl)|exact DW (DW rfl)) (hd:(y==("__debug__":Df))=false:=by decide)
  (Lh:(y==("__classdict__":Df))=false:=by decide) (hi:X.N[i]? =some g:=by rfl) (hvis:¬l7 X.env.scope g:=by decide+kernel) (hs:Ei (.List [] pl) (some (.Attribute (.Name y px) f Kk)) pos.line X.env=pure false:=by rfl):
  l9 ly X (.Assign [.Attribute (.Name y px) f Kk] (.List [] pl) pos) (vU L.x i):=by
 intro c JD s σ H D I q
 obtain⟨F,ρ,ri,w⟩:=q
 have NG:i<σ.length:=by rw[I.len];exact(Dy.mp hi).1
 unfold vU at w
 split at w
 ·rename_i hρ
  refine su i hi hvis (pv L.x hN QD hd Lh) (qF gI) hs JD s σ H D I ⟨Ew _,λp hp=> ?_⟩
  have Ln:=ri.step (bc.layOwn ri.sub (o:= .lst []) hp)
  obtain⟨a,dx,fs,h0,h1,h2,h3,h4,h5,h6,h7,h8,h9,OO⟩:=Ln.obj L A.mem hρ
  have K7:fs.length<1000:=by
   have:(fs.map (·.1)).length<=(L.fl.map (·.1)).length:=dW OO λq hq=>by
    obtain⟨u,hu⟩:=gP hq
    exact h9 q u hu
   rw[Dl,Dl]at this
   exact GF this A.few
  refine⟨_,h1,a,L.C,dx,fs,rfl,h2,hC,n,K7,?_⟩
  refine w _ _ F (az.refl _) (Ln.fldO A.mem hρ h1 h2 A.fl A.un A.x A.oth NG ar (ri.sub.free hp) (ri.ext.keep.free hp) (.lst .nil) λj d' hj e=> ?_)
  obtain⟨b,o',q1,q2,_⟩:=ri.own j d' hj
  rw[e]at q1
  cases q1
  rw[hp]at q2
  cases q2
 ·exact w.elim
end
def mX (fl:List (Df×Nat)) (fo:Df) (io:Nat) (ρ:a9):R (List (Df×D)×Df×List D):=match ρ[0]? with
 |some (some Slot.obj)=>(match ρ[io]? with
  |some (some (.own (.lst hs)))=>(match c4 fl ρ with
   |some fds=> .ok (fds,fo,hs)
   |none=> .bad)
  |_=> .bad)
 |_=> .bad
def gm (k n:Nat) (fl:List (Df×Nat)) (fo:Df) (io:Nat) (g:a9->R aR) (ds:List D):R (List (Df×D)×Df×List D):=if ds.length=k then g (fV n ds)>>=λo=>match o with
 | .nx ρ=>mX fl fo io ρ
 |_=> .bad else .bad
def sB (K:Dd) (C:Dg) (cls:Df) (k:Nat) (mi:List D->R (List (Df×D)×Df×List D)):Sp:=λvs H Q E=>∃F x dx us ds Hz,vs= .ref x::us/\us.length=k/\az F Hz/\Hz x=none/\Hz dx=none/\dx≠x/\H=a_ (a_ Hz dx (.own x)) x (.ins C dx [])/\Reps K F us ds/\match mi ds with
 | .ok r=>∀H' F' NT b,bc Hz F H' F'->i8 K Hz H' F' x NT b cls r.1 r.2.1 r.2.2->Q .non H'
 | .err z _=>∀ec a H' F',cW K z ec->bc Hz F H' F'->E ec a H'
 | .bad=>False
theorem xP {K:Dd} {C:Dg} {cls fo:Df} {io:Nat} {fl:List (Df×Nat)} {c:cm [⟨0,C,fl++[(fo,io)]⟩]} {ρ:a9} {σ:St} {H F:Hp} {fds:List (Df×D)} {hs:List D} {x:Dg} (ri:RI K c ρ σ H F) (hρ:ρ[0]? =some (some .obj)) (QE:c.oa 0=some x) (MW:Dq K Dm cls=some (some (.ref C)))
  (ho:ρ[io]? =some (some (.own (.lst hs)))) (h:c4 fl ρ=some fds) (Pt:fo∉fl.map (·.1)):∃dx b,i8 K c.H0 H F x dx b cls fds fo hs:=by
 obtain⟨a,dx,fs,h0,h1,h2,h3,h4,h5,h6,h7,h8,h9,OO⟩:=ri.obj _ (DM.mpr rfl) hρ
 cases h0 x QE
 obtain⟨vs,g1,g2,g3⟩:=j8 ri h λp hp=>h8 p (Ej _ hp)
 obtain⟨b,o,k1,k2,k3,k4,k5⟩:=ri.own io _ ho
 cases k5 with
 |lst q=>
  have lf:fs.lookup fo=some (.ref b):=by
   have:=h8 (fo,io) (DO _ Dt)
   rw[this]
   show (σ[io]?).join=_
   rw[k1];rfl
  refine⟨dx,b,⟨⟨C,fs,vs,_,h2,MW,lf,k2,q,g1,g3,λg v hg=> ?_,OO,by rw[g2];exact Pt⟩,h3,h4,h5,k3,h6,h7,k4⟩⟩
  have:=h9 g v hg
  rw[Fu]at this
  rcases EX.mp this with z|z
  ·exact .inr (by rw[g2];exact z)
  ·exact .inl (DM.mp z)
theorem vV {P:Dv} {w:DE} {K:Dd} {mg:Df->Option De} {base:DB} {x qual cls fo:Df} {st:DJ} {f C:Dg} {fd:Eg} {N ps:List Df} {k n m io:Nat} {fl:List (Df×Nat)} {g:a9->R aR} (F:rY K x qual st f fd) (S:aw N ps (ac st))
  (MW:Dq K Dm cls=some (some (.ref C))) (hn:ps.length=n+1) (hm:N.length=m+1) (hg:∀p∈fl++[(fo,io)],n<p.2) (NO:n<=m) (Pt:fo∉fl.map (·.1))
  (K2:∀(JK:De) (A:DI) (outer:List EF) (s:Dh) (H:Hp) (E:XK),br k (A.deeper (EJ qual (ac st) s.heap.objs.size f JK))->
   fR [⟨0,C,fl++[(fo,io)]⟩] (fA (i6 P w) P w K mg base N qual (ac st) f JK A outer s H E) (aO st) g):cV P w K mg base (i6 P w) (k+1) f fd ps (sB K C cls n (gm n m fl fo io g)):=by
 refine Bz F S (λvs H Q E h=> ?_) (λJK A outer s H vs Q E hr h=> ?_)
 ·obtain⟨Fz,y,dy,us,ds,Hz,rfl,hl,_⟩:=h
  rw[DC,hl,hn]
 ·obtain⟨Fz,y,dy,us,ds,Hz,rfl,hl,sub,hy,Oy,Lx,rfl,r,w⟩:=h
  refine⟨_,K2 JK A outer s _ E hr ⟨⟨Hz,Fz,λ_=>none,λz _=>∀ec a H' F',cW K z ec->bc Hz Fz H' F'->E ec a H',λ_=>some y,λ_=>none⟩,oy λz ρ er ec a H' F' σ hc ri=>er ec a H' F' hc ri.ext⟩,?_⟩
  refine⟨Fz,fV m ds,nJ hm sub hy Oy Lx r (by omega) (λp hp=>by rw[hl];exact hg p hp),?_⟩
  have hd:ds.length=n:=by rw[<-r.length];exact hl
  unfold gm at w
  rw[if_pos hd]at w
  cases e:g (fV m ds)with
  |bad=>rw[e]at w;exact w.elim
  |err c ρ=>rw[e]at w;exact w
  |ok o=>
   rw[e]at w
   cases o with
   |nx ρ=>
    intro σ' H' F' _ LO
    rw[ah]at w
    cases hρ:ρ[0]? with
    |none=>simp only[mX,hρ]at w
    |some s0=>
     cases s0 with
     |none=>simp only[mX,hρ]at w
     |some s0=>
      cases s0 with
      |obj=>
       cases ho:ρ[io]? with
       |none=>simp only[mX,hρ,ho]at w
       |some s1=>
        cases s1 with
        |none=>simp only[mX,hρ,ho]at w
        |some s1=>
         cases s1 with
         |own d=>
          cases d with
          |lst hs=>
           cases e2:c4 fl ρ with
           |none=>simp only[mX,hρ,ho,e2]at w
           |some Se=>
            simp only[mX,hρ,ho,e2]at w
            obtain⟨dx,b,A⟩:=xP LO hρ rfl MW ho e2 Pt
            exact w H' F' dx b LO.ext A
          |_=>simp only[mX,hρ,ho]at w
         |_=>simp only[mX,hρ,ho]at w
      |_=>simp only[mX,hρ]at w
   |_=>exact w.elim
structure my (P:Dv) (w:DE) (K:Dd) (mg:Df->Option De) (base:DB) (k:Nat) (cls:Df) (n:Nat) (mi:List D->R (List (Df×D)×Df×List D)):Prop where
 ex:∃C f fd ps,cV P w K mg base (i6 P w) k f fd ps (sB K C cls n mi)/\mg cls=some (.ref C)/\Mk K C f/\dg K fd ps []
theorem vW {P:Dv} {w:DE} {K:Dd} {mg:Df->Option De} {base:DB} {cls qual fo:Df} {st:DJ} {N ps fs:List Df} {k n m io:Nat} {fl:List (Df×Nat)} {g:a9->R aR} (A:ki K mg cls qual st ps fs) (S:aw N ps (ac st)) (hn:ps.length=n+1) (hm:N.length=m+1) (hg:∀p∈fl++[(fo,io)],n<p.2) (NO:n<=m) (Pt:fo∉fl.map (·.1))
  (K2:∀(C f:Dg) (JK:De) (A:DI) (outer:List EF) (s:Dh) (H:Hp) (E:XK),pA K C->(∀x∈fs,cb K C x)->br k (A.deeper (EJ qual (ac st) s.heap.objs.size f JK))->
   fR [⟨0,C,fl++[(fo,io)]⟩] (fA (i6 P w) P w K mg base N qual (ac st) f JK A outer s H E) (aO st) g):my P w K mg base (k+1) cls n (gm n m fl fo io g):=by
 obtain⟨C,f,fd,F,h1,h2,h3,h4,h5⟩:=A.ex
 exact⟨C,f,fd,ps,vV F S h1.ns hn hm hg NO Pt λJK A outer s H E hr=>K2 C f JK A outer s H E h1.cl h5 hr,h2,h3,h4⟩
def BE (i:Nat) (ρ:a9):Bool:=(Eb ρ.length).all λj=>j==i||(match ρ[j]? with
 |some (some s)=> !s.single
 |_=>true)
theorem o_ {i j:Nat} {ρ:a9} {s:Slot} (h:BE i ρ=true) (hs:ρ[j]? =some (some s)) (hj:j≠i):s.single=false:=by
 have:=FO.mp h j (Ex.mpr (Dy.mp hs).1)
 rw[hs]at this
 simpa[hj]using this
theorem RI.setCel {K:Dd} {c:cm ly} {ρ:a9} {σ:St} {H F:Hp} (r:RI K c ρ σ H F) (i:Nat) {a dx b:Dg} {x:Df} {JJ:List (Df×D)} {f:Df} {hs:List D} (hf:iI ly i) (hn:BE i ρ=true) (A:i8 K c.H0 H F a dx b x JJ f hs) (ne:∀(j:Nat) d',ρ[j]? =some (some (.own d'))->σ[j]? ≠some (some (.ref b))):
  RI K c (ρ.set i (some (.cel x JJ f hs))) (σ.set i (some (.ref a))) H F where
 obj:=λL hL hρ=>by
  rw[aa (hf L hL).1.symm]at hρ
  have:=o_ hn hρ (hf L hL).1
  cases this
 odis:=λL hL L' Mz q1 q2 b k1 k2=>by
  rw[aa (hf L hL).1.symm]at k1 q1
  rw[aa (hf L' Mz).1.symm]at k2 q2
  exact r.odis L hL L' Mz q1 q2 b k1 k2
 fm:=r.fm
 ext:=r.ext
 val:=λj e q=>by
  rcases am q with ⟨rfl,z,l⟩|⟨z,q⟩
  ·cases z
  ·rw[aa z];exact r.val j e q
 own:=λj e q=>by
  rcases am q with ⟨rfl,z,l⟩|⟨z,q⟩
  ·cases z
  ·rw[aa z];exact r.own j e q
 bor:=λj e q=>by
  rcases am q with ⟨rfl,z,l⟩|⟨z,q⟩
  ·cases z
  ·rw[aa z];exact r.bor j e q
 bh:=r.bh
 dis:=λj k e e' a q1 q2 q3 q4=>by
  rcases am q1 with ⟨rfl,z,l⟩|⟨z,q1⟩
  ·cases z
  ·rcases am q2 with ⟨rfl,z',l⟩|⟨z',q2⟩
   ·cases z'
   ·rw[aa z]at q3;rw[aa z']at q4
    exact r.dis j k e e' a q1 q2 q3 q4
 len:=by simp[r.len]
 pin:=λL hL b h=>by rw[aa (hf L hL).1.symm];exact r.pin L hL b h
 cel:=by
  refine⟨λj y vd g hh q=> ?_,λj k y vd g hh s q1 q2 Ko=> ?_⟩
  ·rcases am q with ⟨rfl,z,l⟩|⟨z,q⟩
   ·cases z
    refine⟨a,dx,b,dj (by rw[<-r.len];exact l),A,λk d hk=> ?_⟩
    rcases am hk with ⟨rfl,z',l'⟩|⟨z',hk⟩
    ·cases z'
    ·rw[aa z'];exact ne k d hk
   ·have:=o_ hn q (ET z)
    cases this
  ·rcases am q1 with ⟨rfl,z,l⟩|⟨z,q1⟩
   ·rcases am q2 with ⟨rfl,z',l'⟩|⟨z',q2⟩
    ·rfl
    ·have:=o_ hn q2 (ET z')
     rw[Ko]at this
     cases this
   ·have:=o_ hn q1 (ET z)
    cases this
section
variable {X:Cx} {e:Dn} {es:List Dn} {fs:a9->R (List D)} {cls:Df} {p pos Lw Kk:DY}
def p0 (i:Nat) (cls:Df) (n:Nat) (mi:List D->R (List (Df×D)×Df×List D)) (fs:a9->R (List D)):a9->R aR:=λρ=>if BE i ρ=true then (fs ρ>>=λds=>if ds.length=n then (match mi ds with
 | .ok r=> .ok (.nx (ρ.set i (some (.cel cls r.1 r.2.1 r.2.2))))
 | .err x _=> .err x ρ
 | .bad=> .bad)else .bad)else .bad
theorem xQ (i:Nat) {x:Df} {k n:Nat} {mi:List D->R (List (Df×D)×Df×List D)} (QN:X.N.Nodup) (G:my X.prog X.w X.K X.mg X.base k cls n mi) (hr:br (k+1) X.A) (ha:qt ly X (e::es) fs) (hi:X.N[i]? =some x:=by rfl) (hx:uu X.env.scope x:=by first|exact E6 rfl|exact DW rfl)
  (hs:Ei (.Call (.Name cls p) (e::es) [] pos) (some (.Name x Kk)) Lw.line X.env=pure false:=by rfl) (hf:X.fn x=true\/X.env.scope.names.lookup x=some .local:=by first|exact .inl rfl|exact .inr rfl|assumption)
  (hg:Gl X cls:=by rfl) (L4:(cls==("__debug__":Df))=false:=by decide) (he:Di (e::es) X.env=(false,DH e X.env)::Di es X.env:=by rfl) (KL:(DX pos (Di es X.env)).any (·.1)=false:=by rfl)
  (LC:iI ly i:=by(repeat (first|assumption|exact L2.Pu.d_|refine L2.Pu.d7 ⟨by first|decide|simp,by first|decide|simp⟩ ?_))):l9 ly X (.Assign [.Name x Kk] (.Call (.Name cls p) (e::es) [] pos) Lw) (p0 i cls n mi fs):=by
 obtain⟨C,f,fd,ps,h1,h2,h3,h4⟩:=G.ex
 refine λc=>PS.weak (lG QN hi hx (o5 h3 h1 hr hg h2 h4 .nil (iR c) (ha c) L4 he KL) hs hf) λD σ H q=> ?_
 obtain⟨F,ρ,ri,w⟩:=q
 unfold p0 at w
 split at w
 ·rename_i hn
  refine⟨F,ρ,ri,(aA.bind.mp w).imp λds _ w1 vs H1 F1 e1 r1 y dy hy Oy Lx=> ?_⟩
  rw[Ed]
  split at w1
  ·rename_i hl
   have Ln:=ri.step e1
   refine⟨F1,y,dy,vs,ds,H1,rfl,by rw[r1.length];exact hl,e1.sub,hy,Oy,Lx,rfl,r1,?_⟩
   split at w1
   ·rename_i r hm
    intro H' F' NT b e' A
    refine⟨rfl,?_⟩
    have kf:∀{z:Dg},H1 z=none->c.1.H0 z=none:=λh=>Ln.ext.keep.free h
    refine w1 _ H' F' (e1.grow.trans e'.grow) ((Ln.step e').setCel i LC hn ⟨A.ex,A.own,A.fa,A.fd,A.fb,kf A.za,kf A.zd,kf A.zb⟩ λj d' hj ej=> ?_)
    obtain⟨q,o,q1,q2,_⟩:=Ln.own j d' hj
    rw[ej]at q1
    cases q1
    have:=A.zb
    rw[q2]at this
    cases this
   ·exact λec a H' F' hc e'=>⟨_,ρ,F',hc,Ln.step e',w1⟩
   ·exact w1.elim
  ·exact w1.elim
 ·exact w.elim
end
end L2.Pu
namespace L2.Pu
open PySem PySem.Spec PyProof.Rows
variable {ly:List cK}
section
variable {K:Dd} {F:Hp}
def iU:List D->Option (List Bool)
 |[]=>some []
 | .bl b::r=>(iU r).map (b::·)
 |_=>none
theorem ua:∀{ds:List D} {bs:List Bool} {vs:List V},iU ds=some bs->Reps K F vs ds->vs=bs.map V.bl:=by
 intro ds
 induction ds with
 |nil=>intro bs vs h r;cases h;rw[r.nilI];rfl
 |cons d r ih=>
  intro bs vs h g
  obtain⟨v,us,rfl,r1,t⟩:=g.consI
  cases d with
  |bl b=>
   cases r1
   replace h:(iU r).map (b::·)=some bs:=h
   cases e:iU r with
   |none=>rw[e]at h;cases h
   |some ms=>rw[e]at h;cases h;rw[ih e t];rfl
  |_=>cases h
theorem ub (bs:List Bool):iU (bs.map .bl)=some bs:=by
 induction bs with
 |nil=>rfl
 |cons n r ih=>show (iU (r.map D.bl)).map (n::·)=_;rw[ih];rfl
def qe:List D->Option D
 |[.lst ds]=>(iU ds).map λbs=> .bl (bs.any id)
 |_=>none
theorem jH:lW K (λxs H Q=>∃(p:Dg) (bs:List Bool),xs=[.ref p]/\dc K H p (bs.map V.bl)/\Q (.bl (bs.any id)) H) qe:=by
 intro vs ds d H F Q s rv h k
 match ds,h with
 |[.lst xs],h=>
  obtain⟨v,rfl,r⟩:=rv.one
  obtain⟨a,ws,rfl,h1,h2⟩:=r.lst s
  replace h:(iU xs).map (λbs=>D.bl (bs.any id))=some d:=h
  cases e:iU xs with
  |none=>rw[e]at h;cases h
  |some bs=>
   rw[e]at h
   cases h
   rw[ua e h2]at h1
   exact⟨a,bs,rfl,dc.of h1,k _ H F (bc.refl s) (.bl _)⟩
theorem im:DZ "any"=some (.builtin "any"):=by decide+kernel
end
section
variable {X:Cx} {a o e:Dn} {fa fo fk:a9->R D} {JV K9 pos Ly p1 p2:DY}
def lA (f:a9->R D):a9->R D:=λρ=>f ρ>>=λd=>match d with
 | .lst ds=>(match cH ds with|some ns=>if ns.length<4000 then .ok (.int (di ns))else .bad|none=> .bad)
 | .tup ds=>(match cH ds with|some ns=>if ns.length<4000 then .ok (.int (di ns))else .bad|none=> .bad)
 |_=> .bad
theorem vX (hc:X.calm=true) (Qq:X.mg "len"=none) (Qr:X.mg "set"=none) (ha:PB ly X a fa) (Qs:Gl X "len":=by rfl) (Qt:Gl X "set":=by rfl)
  (PD:Di [a] X.env=(false,DH a X.env)::Di [] X.env:=by rfl) (Ol:(DX Ly (Di [] X.env)).any (·.1)=false:=by rfl)
  (Ny:Di [.Call (.Name "set" p2) [a] [] Ly] X.env=(false,DH (.Call (.Name "set" p2) [a] [] Ly) X.env)::Di [] X.env:=by rfl) (Om:(DX pos (Di [] X.env)).any (·.1)=false:=by rfl):
  PQ ly X (.Call (.Name "len" p1) [.Call (.Name "set" p2) [a] [] Ly] [] pos) (lA fa):=λc=>
 PE.weak (tw hc (ha c) Qq Qr Qs Qt PD Ol Ny Om) λσ H Q ⟨F,ρ,ri,w⟩=>⟨F,ρ,ri,(aA.bind.mp w).imp λd _ w1 v H1 F1 e1 r1=>by
  cases d with
  |lst ds=>
   obtain⟨p,vs,rfl,h1,h2⟩:=r1.lst e1.sub
   cases q:cH ds with
   |none=>simp only[q]at w1;exact w1.elim
   |some ns=>
    simp only[q]at w1
    split at w1
    ·rename_i hl
     rw[j4 q h2]at h1
     exact⟨p,ns,rfl, .inl (dc.of h1),hl,w1 _ H1 F1 e1 (.int _)⟩
    ·exact w1.elim
  |tup ds=>
   obtain⟨p,vs,rfl,h1,h2⟩:=r1.tup e1.sub
   cases q:cH ds with
   |none=>simp only[q]at w1;exact w1.elim
   |some ns=>
    simp only[q]at w1
    split at w1
    ·rename_i hl
     rw[j4 q h2]at h1
     exact⟨p,ns,rfl, .inr (hU.of h1),hl,w1 _ H1 F1 e1 (.int _)⟩
    ·exact w1.elim
  |_=>exact w1.elim⟩
end
end L2.Pu
namespace L2
open PySem PySem.Spec PyProof.Rows
section
variable {X:Cx}
end
end L2
namespace L2.Pu
open PySem PySem.Spec PyProof.Rows
variable {ly:List cK}
section
variable {K:Dd} {F:Hp}
end
section
variable {X:Cx} {a b o e:Dn} {fa fb fo fk:a9->R D} {JV K9 pos:DY}
end
end L2.Pu
namespace L2.Pu
open PySem PySem.Spec PyProof.Rows
variable {ly:List cK}
section
variable {X:Cx} {LK tg J_:Dn} {Lv:List Dn} {scope:EO} {pos:DY} {fi:a9->R (List D)} {g:D->a9->R a9} {gt:a9->R Bool} {fe:a9->R D}
end
end L2.Pu
namespace L2
open PySem PySem.Spec PyProof.Rows
section
variable {X:Cx} {JD:List (Dg×DP)} {σ:St} {H:Hp} {s:Dh}
theorem uc:d6 X (.builtin "abs") (λxs H Q=>∃i,xs=[.int i]/\Q (.int (if i<0 then -i else i)) H):=by
 intro JD s σ H xs us Q I r h
 obtain⟨i,rfl,q⟩:=h
 obtain⟨u,rfl,t,rfl⟩:=jk r
 exact call_abs_int λu tk=>⟨.int _,H,I.tok _,⟨_,rfl⟩,q⟩
end
end L2
namespace L2.Pu
open PySem PySem.Spec PyProof.Rows
variable {ly:List cK}
def Be:List D->Option D
 |[.int i]=>some (.int (if i<0 then -i else i))
 |_=>none
theorem xR {K:Dd}:lW K (λxs H Q=>∃i,xs=[.int i]/\Q (.int (if i<0 then -i else i)) H) Be:=by
 intro vs ds d H F Q s rv h k
 match ds,h with
 |[.int i],h=>
  obtain⟨v,rfl,r⟩:=rv.one
  cases r.int
  cases h
  exact⟨i,rfl,k _ H F (bc.refl s) (.int _)⟩
theorem ud:DZ "abs"=some (.builtin "abs"):=by decide+kernel
section
variable {X:Cx} {a b e:Dn} {f fk fv:a9->R D} {pos:DY}
end
end L2.Pu
namespace L2
open PySem PySem.Spec PyProof.Rows
section
variable {X:Cx} {JD:List (Dg×DP)} {σ:St} {H:Hp} {s:Dh} {h':DB}
variable {o:Dn} {to:TE} {p1 JV K9 pos:DY}
end
end L2
namespace L2.Pu
open PySem PySem.Spec PyProof.Rows
variable {ly:List cK}
section
variable {K:Dd} {F:Hp}
end
section
variable {X:Cx} {o:Dn} {fo:a9->R D} {p1 JV K9 pos:DY}
end
end L2.Pu
namespace L2.Pu
open PySem PySem.Spec PyProof.Rows
variable {ly:List cK}
section
variable {X:Cx} {e:Dn} {f:a9->R D} {pos:DY}
end
end L2.Pu
namespace L2.Pu
open PySem PySem.Spec PyProof.Rows
variable {ly:List cK}
section
variable {X:Cx} {a b e:Dn} {rest:List Dn} {f:a9->R D} {fx fy:a9->R (D×a9)} {gx gy:a9->R (Bool×a9)} {g:a9->R Bool} {pos:DY}
def vY (fx:a9->R (D×a9)):a9->R aR:=λρ=>fx ρ>>=λr=> .ok (.ret r.1)
theorem zT (h:PX ly X e fx):l9 ly X (.Return (some e) pos) (vY fx):=λc=>PS.weak (qv (h c)) λD σ H ⟨F,ρ,ri,w⟩=>
 ⟨F,ρ,ri,(aA.bind.mp w).imp λr _ w1 v H' F' e LO rv=>w1 v H' F' e LO.ext rv⟩
def xS (f:a9->R D):a9->R (D×a9):=λρ=>f ρ>>=λd=> .ok (d,ρ)
theorem Ct (h:PQ ly X e f):PX ly X e (xS f):=λc=>PE.weak (h c) λσ H Q ⟨F,ρ,ri,w⟩=>⟨F,ρ,ri,(aA.bind.mp w).imp λd _ w1 v H1 F1 e1 r1=>w1 v H1 F1 e1.grow (ri.step e1) r1⟩
theorem Bf {op:Jy} (h:PX ly X a fx):PX ly X (.BoolOp op [a] pos) fx:=λc=>uz (h c)
def zU (ly:List cK) (X:Cx) (e:Dn) (gx:a9->R (Bool×a9)):Prop:=∀c:gg ly X,PW X e (CN X.K c.1 gx)
theorem zU.t (h:zU ly X e gx):yy ly X e gx:=λc=>(h c).pt
def zV (g:a9->R Bool):a9->R (Bool×a9):=λρ=>g ρ>>=λb=> .ok (b,ρ)
theorem Bg (h:v3 ly X e g):yy ly X e (zV g):=λc=>PT.weak (h c) λσ H Q ⟨F,ρ,ri,w⟩=>⟨F,ρ,ri,(aA.bind.mp w).imp λd _ w1 H1 F1 e1=>w1 H1 F1 e1.grow (ri.step e1)⟩
theorem vZ (h:yy ly X a gx):zU ly X (.BoolOp .Or [a] pos) gx:=λc=>ux (h c)
def v_ (gx gy:a9->R (Bool×a9)):a9->R (Bool×a9):=λρ=>gx ρ>>=λr=>if r.1=true then .ok (true,r.2)else gy r.2
theorem yA (h:yy ly X a gx) (hb:zU ly X (.BoolOp .Or (b::rest) pos) gy):zU ly X (.BoolOp .Or (a::b::rest) pos) (v_ gx gy):=λc=>PW.weak (yb (h c) (hb c)) λσ H Q ⟨F,ρ,ri,w⟩=>
 ⟨F,ρ,ri,(aA.bind.mp w).imp λr hb w1 H1 F1 e1 Ln=>by
  cases q:r.1 with
  |false=>rw[q]at w1;exact⟨F1,r.2,Ln,w1.imp λb' _ k H2 F2 e2 Nj=>k H2 F2 (e1.trans e2) Nj⟩
  |true=>rw[q]at w1;exact w1 H1 F1 e1 Ln⟩
end
end L2.Pu
namespace L2.Pu
open PySem PySem.Spec PyProof.Rows
section
variable {K:Dd} {mg:Df->Option De} {h:DB}
def UF (K:Dd) (x:Df) (st:DJ):Prop:=∃(f:Dg) (oc:De) (od:Option Dg) (kV KW pm:De) (an:Option Dg) (JK ct:De) (M6:Array (Option De)),Dq K Dm x=some (some (.ref f))/\K.lookup f=some ⟨oc,od, .func (E2 x x (bT st) (aO st) (ac st) .none kV KW pm an JK ct),M6⟩/\Fc K JK x=true/\D_ K (.ref f)=true
def lc (K:Dd) (C:Dg) (m qual:Df) (st:DJ):Prop:=∃(f:Dg) (oc:De) (od:Option Dg) (kV KW pm:De) (an:Option Dg) (JK ct:De) (M6:Array (Option De)),Ds K (.ref C) m=some (some (.ref f))/\K.lookup f=some ⟨oc,od, .func (E2 m qual (bT st) (aO st) (ac st) .none kV KW pm an JK ct),M6⟩/\Fc K JK qual=true/\D_ K (.ref f)=true/\Gr K (.ref f)=true
def BA (x qual:Df) (st:DJ) (ps:List Df):Prop:=∀(kV KW pm:De) (an:Option Dg) (JK ct:De) (us:List De),us.length=ps.length->EY (E2 x qual (bT st) (aO st) (ac st) .none kV KW pm an JK ct) ⟨us,[]⟩=pure (ps.zip us)
theorem UF.at {x:Df} {st:DJ} {ps:List Df} (u:UF K x st) (X:K.In h) (G:h.Ns Dm mg) (hb:BA x x st ps):cO K mg x st ps:=by
 obtain⟨f,oc,od,kV,KW,pm,an,JK,ct,M6,h1,h2,h3,h4⟩:=u
 exact⟨_,_,iZ (st:=st) h2 h3 h4,DN X G h1,(iZ (st:=st) h2 h3 h4).binds hb⟩
theorem lc.at {C:Dg} {cls m qual:Df} {st:DJ} {ps:List Df} (u:lc K C m qual st) (c:fG K cls C) (hb:BA m qual st ps):cc K cls m qual st ps:=by
 obtain⟨f,oc,od,kV,KW,pm,an,JK,ct,M6,h1,h2,h3,h4,h5⟩:=u
 exact⟨_,_,_,iZ (st:=st) h2 h3 h4,c,⟨h1,h5,h4⟩,(iZ (st:=st) h2 h3 h4).binds hb⟩
theorem lc.mk {C:Dg} {cls qual:Df} {st:DJ} {ps fs:List Df} (u:lc K C "__init__" qual st) (c:fG K cls C) (hm:mg cls=some (.ref C)) (p5:Fo K C=true) (p6:D_ K (.ref C)=true) (no:∀x∈fs,cb K C x) (hb:BA "__init__" qual st ps):ki K mg cls qual st ps fs:=by
 obtain⟨f,oc,od,kV,KW,pm,an,JK,ct,M6,h1,h2,h3,h4,h5⟩:=u
 exact⟨_,_,_,iZ (st:=st) h2 h3 h4,c,hm,⟨p5,h1,h5,p6⟩,(iZ (st:=st) h2 h3 h4).binds hb,no⟩
def xT (K:Dd) (C:Dg):Prop:=E9 K C om "ValueError.__new__"=true/\Ds K (.ref C) "__getattribute__"=some (some (.builtin "BaseException.__getattribute__"))/\Ds K (.ref C) "__getattr__"=some none/\Ds K (.ref C) "__class__"=some (some (.builtin "object.__class__"))/\
 DR K C (.type "object")=some true/\DR K C (.type "BaseException")=some true/\DR K C (.ref C)=some true
def rm (K:Dd):List Dg->Prop
 |[]=>True
 |C::r=>xT K C/\rm K r
def p3 (K:Dd):List Df->List Dg->Prop
 |[],[]=>True
 |x::xs,C::Cs=>Dq K Dm x=some (some (.ref C))/\p3 K xs Cs
 |_,_=>False
def gp (K:Dd) (v:De) (f:Nat->Bool):Nat->List Dg->Prop
 |_,[]=>True
 |i,C::r=>DR K C v=some (f i)/\gp K v f (i+1) r
def rn {α:Type} (f:Nat->Bool):Nat->List α->List (α×Bool)
 |_,[]=>[]
 |i,x::r=>(x,f i)::rn f (i+1) r
def Aj (K:Dd):Prop:=Fx K (.builtin "object.__class__") "__get__"=some (some (.builtin "getset_descriptor.__get__"))/\F_ K (.builtin "object.__class__")=some true
theorem xT.ok {C:Dg} (e:xT K C) (s:Aj K):oo K C:=by
 obtain⟨e1,e2,e3,e4,e5,e6,e7⟩:=e
 exact xI e1 e2 e3 e4 e5 e6 (kj e1 e7) s.1 s.2
theorem km {v:De} {f:Nat->Bool} (s:Aj K) (hk:∀C b,DR K C v=some b->DR K C (.ref C)=some true->Ea K (.ref C) v=some b):∀{xs:List Df} {Cs:List Dg} {i:Nat},p3 K xs Cs->rm K Cs->gp K v f i Cs->
  ∀p∈rn f i xs,∃Ce,Dq K Dm p.1=some (some (.ref Ce))/\Ea K (.ref Ce) v=some p.2/\oo K Ce
 |[],[],i,n,e,r,p,hp=>by cases hp
 |[],_::_,i,n,e,r,p,hp=>n.elim
 |_::_,[],i,n,e,r,p,hp=>n.elim
 |x::xs,C::Cs,i,n,e,r,p,hp=>by
  rcases DA.mp hp with rfl|hp
  ·exact⟨C,n.1,hk C _ r.1 e.1.2.2.2.2.2.2,e.1.ok s⟩
  ·exact km s hk n.2 e.2 r.2 p hp
theorem c6 {x:Df} {C:Dg} {f:Nat->Bool} {xs:List Df} {Cs:List Dg} (s:Aj K) (N:p3 K xs Cs) (E:rm K Cs) (hm:mg x=some (.ref C)) (e1:E9 K C om "ValueError.__new__"=true) (R:gp K (.ref C) f 0 Cs):cf K mg x (tW (rn f 0 xs)):=
 ⟨_,hm,q8 (km s (λ_ _ m q=>tR e1 m q) N E R)⟩
theorem xU {f:Nat->Bool} {xs:List Df} {Cs:List Dg} (s:Aj K) (N:p3 K xs Cs) (E:rm K Cs) (R:gp K (.type "ValueError") f 0 Cs):iS K (.type "ValueError") (tW (rn f 0 xs)):=
 q8 (km s (λ_ _ m _=>tU m) N E R)
theorem bY (s:Aj K) (X:K.In h) (G:h.Ns Dm mg):∀{xs:List Df} {Cs:List Dg},p3 K xs Cs->rm K Cs->∀x∈xs,bC K mg x
 |[],[],n,e,x,hx=>by cases hx
 |[],_::_,n,e,x,hx=>n.elim
 |_::_,[],n,e,x,hx=>n.elim
 |y::xs,C::Cs,n,e,x,hx=>by
  rcases DA.mp hx with rfl|hx
  ·exact⟨C,n.1,DN X G n.1,e.1.ok s⟩
  ·exact bY s X G n.2 e.2 x hx
theorem b8:∀{xs:List Df} {Cs:List Dg},p3 K xs Cs->rm K Cs->∀(x:Df) (C:Dg),(xs.zip Cs).lookup x=some C->Dq K Dm x=some (some (.ref C))/\xT K C
 |[],Cs,n,e,x,C,hx=>by cases hx
 |_::_,[],n,e,x,C,hx=>n.elim
 |y::xs,C'::Cs,n,e,x,C,hx=>by
  rw[List.zip_cons_cons,Ef]at hx
  cases q:x==y with
  |true=>rw[q]at hx;cases hx;rw[eq_of_beq q];exact⟨n.1,e.1⟩
  |false=>rw[q]at hx;exact b8 n.2 e.2 x C hx
theorem ue {cx:Df} {D:Dg} (hm:mg cx=some (.ref D)) (e1:E9 K D om "ValueError.__new__"=true) (e6:DR K D (.type "BaseException")=some true) {xs:List Df} {Cs:List Dg} (N:p3 K xs Cs) (R:gp K (.ref D) (λ_=>true) 0 Cs):mh K mg cx (mW xs):=by
 refine vI hm ?_
 have:∀{xs:List Df} {Cs:List Dg} {i:Nat},p3 K xs Cs->gp K (.ref D) (λ_=>true) i Cs->∀x∈xs,∃Ce,Dq K Dm x=some (some (.ref Ce))/\FG K (.ref Ce) (.ref D)=some true:=by
  intro xs
  induction xs with
  |nil=>intro Cs i n r x hx;cases hx
  |cons y xs ih=>
   intro Cs i n r x hx
   cases Cs with
   |nil=>exact n.elim
   |cons C Cs=>
    rcases DA.mp hx with rfl|hx
    ·exact⟨C,n.1,tV e1 r.1 e6⟩
    ·exact ih n.2 r.2 x hx
 exact this N R
end
section
variable {x qual:Df} {st:DJ}
theorem b1 {p:Df} (h:∀kV KW pm an JK ct a,EY (E2 x qual (bT st) (aO st) (ac st) .none kV KW pm an JK ct) ⟨[a],[]⟩=pure [(p,a)]:=by intros;rfl):BA x qual st [p]:=λ_ _ _ _ _ _=>CJ (P:=λus=>EY _ ⟨us,[]⟩=pure (HS _ us)) (h _ _ _ _ _ _)
theorem b2 {p q:Df} (h:∀kV KW pm an JK ct a b,EY (E2 x qual (bT st) (aO st) (ac st) .none kV KW pm an JK ct) ⟨[a,b],[]⟩=pure [(p,a),(q,b)]:=by intros;rfl):BA x qual st [p,q]:=λ_ _ _ _ _ _=>CK (P:=λus=>EY _ ⟨us,[]⟩=pure (HS _ us)) (h _ _ _ _ _ _)
theorem b3 {p q r:Df} (h:∀kV KW pm an JK ct a b c,EY (E2 x qual (bT st) (aO st) (ac st) .none kV KW pm an JK ct) ⟨[a,b,c],[]⟩=pure [(p,a),(q,b),(r,c)]:=by intros;rfl):BA x qual st [p,q,r]:=λ_ _ _ _ _ _=>CL (P:=λus=>EY _ ⟨us,[]⟩=pure (HS _ us)) (h _ _ _ _ _ _)
theorem b4 {p q r t:Df} (h:∀kV KW pm an JK ct a b c d,EY (E2 x qual (bT st) (aO st) (ac st) .none kV KW pm an JK ct) ⟨[a,b,c,d],[]⟩=pure [(p,a),(q,b),(r,c),(t,d)]:=by intros;rfl):BA x qual st [p,q,r,t]:=λ_ _ _ _ _ _=>CM (P:=λus=>EY _ ⟨us,[]⟩=pure (HS _ us)) (h _ _ _ _ _ _)
theorem b5 {p q r t u:Df} (h:∀kV KW pm an JK ct a b c d e,EY (E2 x qual (bT st) (aO st) (ac st) .none kV KW pm an JK ct) ⟨[a,b,c,d,e],[]⟩=pure [(p,a),(q,b),(r,c),(t,d),(u,e)]:=by intros;rfl):BA x qual st [p,q,r,t,u]:=λ_ _ _ _ _ _=>D7 (P:=λus=>EY _ ⟨us,[]⟩=pure (HS _ us)) (h _ _ _ _ _ _)
end
end L2.Pu
namespace L2.Pu
open PySem PySem.Spec PyProof.Rows
variable {ly:List cK}
section
variable {X:Cx} {a b e:Dn} {es:List Dn} {st:DJ} {rest:List DJ} {f:a9->R D} {fs:a9->R (List D)} {g:a9->R aR} {gn:a9->R D} {pos p:DY} {x:Df}
end
section
variable {P:Dv} {w:DE} {K:Dd} {mg:Df->Option De} {base:DB}
end
end L2.Pu
namespace L2
open PySem PySem.Spec PyProof.Rows
section
variable {X:Cx}
end
end L2
namespace L2.Pu
open PySem PySem.Spec PyProof.Rows
end L2.Pu
namespace L2
open PySem PySem.Spec PyProof.Rows L2.Pu
section
variable {X:Cx} {o e:Dn} {es:List Dn} {to:TE} {t:TA} {JV K9:DY}
end
end L2
namespace L2.Pu
open PySem PySem.Spec PyProof.Rows
variable {ly:List cK} {X:Cx} {a o:Dn} {fo fk:a9->R D} {JV K9:DY}
end L2.Pu
namespace L2.Pu
open PySem PySem.Spec PyProof.Rows
section
variable {K:Dd} {f:Dg} {oc:De} {od:Option Dg} {kV KW pm:De} {an:Option Dg} {JK ct:De} {M6:Array (Option De)} {x qual:Df} {st:DJ} {C:Dg}
theorem UF.of (h1:Dq K Dm x=some (some (.ref f))) (h2:K.lookup f=some ⟨oc,od, .func (E2 x x (bT st) (aO st) (ac st) .none kV KW pm an JK ct),M6⟩) (h3:Fc K JK x=true) (h4:D_ K (.ref f)=true):UF K x st:=
 ⟨f,oc,od,kV,KW,pm,an,JK,ct,M6,h1,h2,h3,h4⟩
theorem lc.of (h1:Ds K (.ref C) x=some (some (.ref f))) (h2:K.lookup f=some ⟨oc,od, .func (E2 x qual (bT st) (aO st) (ac st) .none kV KW pm an JK ct),M6⟩) (h3:Fc K JK qual=true) (h4:D_ K (.ref f)=true) (h5:Gr K (.ref f)=true):lc K C x qual st:=
 ⟨f,oc,od,kV,KW,pm,an,JK,ct,M6,h1,h2,h3,h4,h5⟩
end
end L2.Pu
namespace L2
open PySem PySem.Spec PyProof.Rows
section
variable {X:Cx}
end
end L2
namespace L2.Pu
open PySem PySem.Spec PyProof.Rows
section
variable {K:Dd}
end
end L2.Pu
namespace L2
open PySem PySem.Spec PyProof.Rows
section
variable {X:Cx}
def Bh (K:Dd):R2:=λx y H Q=>∃p q xs ys,x= .ref p/\y= .ref q/\dc K H p xs/\dc K H q ys/\xs.all dE=true/\ys.all dE=true/\Q (.bl (!oS xs ys)) H
theorem zW (hu:X.A.units+1<G0):i0 X (Ep .NotEq) (Bh X.K):=by
 intro JD s σ H x y v u Q I rx ry h
 obtain⟨p,q,xs,ys,rfl,rfl,h1,h2,f1,f2,k⟩:=h
 cases rx
 cases ry
 obtain⟨its,r,pl,hz⟩:=I.list h1
 obtain⟨Lm,r2,Pl,Sg⟩:=I.list h2
 have l1:=r.length
 have l2:=r2.length
 by_cases hl:its.length=Lm.length
 ·refine SeqAt.RcNeAt.lists (e:=λj=>t6 (xs.getD j .non) (ys.getD j .non)) pl.isList Pl.isList (by simpa using hl) (by omega) (λj a b=> ?_) X.prog X.w X.xe (EP X JD σ Q) ⟨.bl _,H,I,rfl,?_⟩
  ·have a':j<its.length:=by simpa using a
   have b':j<Lm.length:=by simpa using b
   simpa using qK (r.getR j a') (r2.getR j b') (jC f1 j) (jC f2 j)
  ·have hx:its.toArray.size=xs.length:=by simpa using l1.symm
   rw[hx,mq (by omega)]
   exact k
 ·refine SeqAt.RcNeAt.lists_lengths pl.isList Pl.isList (by simpa using hl) (by omega) X.prog X.w X.xe (EP X JD σ Q) ⟨.bl true,H,I,rfl,?_⟩
  rw[mn (by omega)]at k
  exact k
end
end L2
namespace L2.Pu
open PySem PySem.Spec PyProof.Rows
variable {ly:List cK}
def xV:D->D->Option D
 | .lst a, .lst b=>if a.all f6=true/\b.all f6=true then some (.bl (!vK a b))else none
 |_,_=>none
theorem xW {K:Dd}:gi K (Bh K) xV:=by
 intro v u x y d H F Q s rx ry h k
 unfold xV at h
 split at h
 ·split at h
  ·rename_i a b hf
   cases h
   obtain⟨p,vs,rfl,h1,h2⟩:=rx.lst s
   obtain⟨q,us,rfl,h3,h4⟩:=ry.lst s
   refine⟨p,q,vs,us,rfl,rfl,dc.of h1,dc.of h3,h2.flat hf.1,h4.flat hf.2,?_⟩
   rw[Reps.eqs h2 h4 hf.1 hf.2]
   exact k _ H F (bc.refl s) (.bl _)
  ·cases h
 ·cases h
section
variable {X:Cx} {a b e:Dn} {rest es:List Dn} {f:a9->R D} {fx fy:a9->R (D×a9)} {pos p Lw:DY} {x:Df}
def D8 (K:Dd) (c:cm ly) (fx:a9->R (List D×a9)):TA:=λσ H Q=>∃F ρ,RI K c ρ σ H F/\aA c (fx ρ) λr=>∀vs H' F',az F F'->RI K c r.2 σ H' F'->Reps K F' vs r.1->Q vs H'
def BF (ly:List cK) (X:Cx) (es:List Dn) (fx:a9->R (List D×a9)):Prop:=∀c:gg ly X,PA X es (D8 X.K c.1 fx)
def Ak:a9->R (List D×a9):=λρ=> .ok ([],ρ)
theorem w8:BF ly X [] Ak:=λc=>PA.weak gI λσ H Q ⟨F,ρ,ri,w⟩=>w [] H F (az.refl _) ri .nil
def wA (fx:a9->R (D×a9)) (fs:a9->R (List D×a9)):a9->R (List D×a9):=λρ=>fx ρ>>=λr=>fs r.2>>=λq=> .ok (r.1::q.1,q.2)
theorem lB {fs:a9->R (List D×a9)} (h:PX ly X e fx) (hr:BF ly X es fs) (hs:Di (e::es) X.env=(false,DH e X.env)::Di es X.env:=by rfl):BF ly X (e::es) (wA fx fs):=λc=>PA.weak (cR (h c) (hr c) hs) λσ H Q ⟨F,ρ,ri,w⟩=>
 ⟨F,ρ,ri,(aA.bind.mp w).imp λr _ w1 v H1 F1 e1 Ln r1=>⟨F1,r.2,Ln,(aA.bind.mp w1).imp λq _ w2 us H2 F2 e2 Nj r2=>w2 (v::us) H2 F2 (e1.trans e2) Nj (.cons (r1.mono e2) r2)⟩⟩
def kn (m:List D->R D) (n:Nat) (fs:a9->R (List D×a9)):a9->R (D×a9):=λρ=>fs ρ>>=λr=>if r.1.length=n then (match m r.1 with| .ok d=> .ok (d,r.2)| .err x _=> .err x r.2| .bad=> .bad)else .bad
theorem sC {n k:Nat} {m:List D->R D} {fs:a9->R (List D×a9)} (G:b7 X.prog X.w X.K X.mg X.base k x n m) (hr:br k X.A) (ha:BF ly X (e::es) fs) (hg:Gl X x:=by rfl) (L4:(x==("__debug__":Df))=false:=by decide)
  (he:Di (e::es) X.env=(false,DH e X.env)::Di es X.env:=by rfl) (KL:(DX pos (Di es X.env)).any (·.1)=false:=by rfl):PX ly X (.Call (.Name x p) (e::es) [] pos) (kn m n fs):=λc=>by
 obtain⟨f,fd,ps,h1,h2,h3,h4⟩:=G.ex
 refine PE.weak (o4 h1 hr hg h2 h3 h4 .nil (iR c) (ha c) L4 he KL) λσ H Q q=> ?_
 obtain⟨F,ρ,ri,w⟩:=q
 refine⟨F,ρ,ri,(aA.bind.mp w).imp λr hd w1 vs H1 F1 e1 Ln r1=> ?_⟩
 show sh X.K n m (vs++[]) H1 Q (yr X c.1 σ)
 rw[Ed]
 split at w1
 ·rename_i hl
  refine⟨by rw[r1.length];exact hl,F1,r.1,Ln.sub,r1,?_⟩
  cases q:m r.1 with
  |ok d=>rw[q]at w1;exact λv H' F' e' rv=>w1 v H' F' (e1.trans e'.grow) (Ln.step e') rv
  |err z ρe=>rw[q]at w1;exact λcls a H' F' ec e'=>⟨_,r.2,F',ec,Ln.step e',w1⟩
  |bad=>rw[q]at w1;exact w1.elim
 ·exact w1.elim
def zX (fx fy:a9->R (D×a9)):a9->R (D×a9):=λρ=>fx ρ>>=λr=>match r.1 with
 | .bl true=> .ok (.bl true,r.2)
 | .bl false=>fy r.2
 |_=> .bad
theorem Cu (ha:PX ly X a fx) (hb:PX ly X (.BoolOp .Or (b::rest) pos) fy):PX ly X (.BoolOp .Or (a::b::rest) pos) (zX fx fy):=λc=>PE.weak (yc (ha c) (hb c)) λσ H Q ⟨F,ρ,ri,w⟩=>
 ⟨F,ρ,ri,(aA.bind.mp w).imp λr hd w1 v H1 F1 e1 Ln r1=>by
  cases q:r.1 with
  |bl b=>
   rw[q]at w1 r1
   cases r1
   cases b with
   |false=>exact⟨false,rfl,F1,r.2,Ln,w1.imp λb' _ k v H2 F2 e2 Nj r2=>k v H2 F2 (e1.trans e2) Nj r2⟩
   |true=>exact⟨true,rfl,w1 _ H1 F1 e1 Ln (.bl true)⟩
  |_=>rw[q]at w1;exact w1.elim⟩
def mz (n:Nat) (mi:List D->R (List (Df×D)×Df×List D)) (fs:a9->R (List D)):a9->R aR:=λρ=>fs ρ>>=λds=>if ds.length=n then (match mi ds with
 | .ok _=> .ok (.nx ρ)
 | .err x _=> .err x ρ
 | .bad=> .bad)else .bad
theorem xX {cls:Df} {fs:a9->R (List D)} {k n:Nat} {mi:List D->R (List (Df×D)×Df×List D)} (G:my X.prog X.w X.K X.mg X.base k cls n mi) (hr:br (k+1) X.A) (ha:qt ly X (e::es) fs)
  (hs:Ei (.Call (.Name cls p) (e::es) [] pos) none Lw.line X.env=pure false:=by rfl) (hg:Gl X cls:=by rfl) (L4:(cls==("__debug__":Df))=false:=by decide) (he:Di (e::es) X.env=(false,DH e X.env)::Di es X.env:=by rfl) (KL:(DX pos (Di es X.env)).any (·.1)=false:=by rfl):
  l9 ly X (.Expr (.Call (.Name cls p) (e::es) [] pos) Lw) (mz n mi fs):=by
 obtain⟨C,f,fd,ps,h1,h2,h3,h4⟩:=G.ex
 refine λc=>PS.weak (lp (o5 h3 h1 hr hg h2 h4 .nil (iR c) (ha c) L4 he KL) hs) λD σ H q=> ?_
 obtain⟨F,ρ,ri,w⟩:=q
 refine⟨F,ρ,ri,(aA.bind.mp w).imp λds _ w1 vs H1 F1 e1 r1 y dy hy Oy Lx=> ?_⟩
 rw[Ed]
 split at w1
 ·rename_i hl
  have Ln:=ri.step e1
  refine⟨F1,y,dy,vs,ds,H1,rfl,by rw[r1.length];exact hl,e1.sub,hy,Oy,Lx,rfl,r1,?_⟩
  cases hm:mi ds with
  |ok r=>rw[hm]at w1;exact λH' F' NT b e' A=>⟨rfl,w1 _ H' F' (e1.grow.trans e'.grow) (Ln.step e')⟩
  |err z ρe=>rw[hm]at w1;exact λec a H' F' hc e'=>⟨_,ρ,F',hc,Ln.step e',w1⟩
  |bad=>rw[hm]at w1;exact w1.elim
 ·exact w1.elim
end
end L2.Pu
namespace My
open PySem PySem.Spec PyProof.Rows L2 L2.Pu
def ip (i:Nat):DJ:=PySem.Challenge.pw_tankbalance_k19_new_cellar.main.body.getD i (.Pass ⟨0,0,0,0⟩)
abbrev RL:List Df:=["BadTanks","UnknownDay","UnknownPlace","SamePlace","WrongRises","UnknownStream","Twice","NotMetered","ReadingMissing","OutOfRange","TooManyStreams","TooManyDays","TooManyDeeds","NothingDone"]
abbrev tb (k:Nat):Df->Option Bool:=tW (rn (·==k) 0 RL)
abbrev zY:Df->Option Bool:=tW (rn (λ_=>true) 0 RL)
abbrev wB:Df->Option Bool:=tW (rn (λ_=>false) 0 RL)
abbrev mB:List Df:=["tanks","streams","rises","readings"]
abbrev aT:List Df:=["came","streams","meters","passed"]
abbrev bp:List Df:=["tanks","now","history"]
abbrev gT:DJ:=bz (ip 20) 0
def mC:a9->R aR:=
 aC (jx 0 (dn (ap 1) (gN 5)))
  (aC (jx 0 (dn (fY cG (a8 (fY f8 (a8 (al 2) (ag))) (ag))) (gN 6)))
  (aC (jx 0 (dn (fY cG (a8 (al 3) (ag))) (gN 7)))
  (jx 0 (dn (fY cG (a8 (fY f8 (a8 (al 4) (ag))) (ag))) (gN 8)))))
def kZ:List (Df×Nat):=[("tanks",5),("streams",6),("rises",7),("readings",8)]
def dI:List D->R (List (Df×D)):=iB 4 8 kZ mC
abbrev jI:DJ:=ip 38
def eS:List D->R D:=λ_=> .bad
abbrev jJ:DJ:=ip 41
def eU:List D->R D:=λ_=> .bad
abbrev k_:DJ:=ip 46
def fH:List D->R D:=λ_=> .bad
abbrev nT:DJ:=ip 53
def iE:List D->R D:=λ_=> .bad
abbrev jK:DJ:=ip 55
def eV:List D->R D:=λ_=> .bad
abbrev cU:DJ:=bz (ip 57) 0
def lg:a9->R aR:=
 aC (jx 0 (dn (ap 1) (gN 5)))
  (aC (jx 0 (dn (ap 2) (gN 6)))
  (aC (jx 0 (dn (ap 3) (gN 7)))
  (jx 0 (dn (ap 4) (gN 8)))))
def ko:List (Df×Nat):=[("came",5),("streams",6),("meters",7),("passed",8)]
def aL:List D->R (List (Df×D)):=iB 4 8 ko lg
abbrev bZ:DJ:=bz (ip 57) 1
def b_:a9->R aR:=
 aC (dn (f2 fS (c3 "Standing" "came" (al 0)) (fC (.int 1))) (gN 3))
  (bJ (kQ "Standing" 4 aL (a8 (ap 3) (a8 (f2 fS (c3 "Standing" "streams" (al 0)) (eA (a8 (eA (a8 (ap 3) (a8 (ap 1) (a8 (ap 2) (ag))))) (ag)))) (a8 (c3 "Standing" "meters" (al 0)) (a8 (c3 "Standing" "passed" (al 0)) (ag)))))))
def aX:List D->R D:=aQ 3 4 b_
abbrev cI:DJ:=bz (ip 57) 5
def iK:a9->R aR:=
 bJ (kQ "Standing" 4 aL (a8 (c3 "Standing" "came" (al 0)) (a8 (c3 "Standing" "streams" (al 0)) (a8 (c3 "Standing" "meters" (al 0)) (a8 (f2 fS (c3 "Standing" "passed" (al 0)) (eA (a8 (ap 1) (ag)))) (ag))))))
def bf:List D->R D:=aQ 2 2 iK
abbrev eD:DJ:=ip 59
def lh:a9->R aR:=
 aC (gF (cM (fY qe (a8 (fL (cN ["tanks","places"] [(".0", .local),("place", .local),("OUTSIDE", .globalImplicit),("tanks", .free)] (eB (ap 1)) (gN 1) (ic) (xq (f2 wz (al 1) (fC (.int 0))) (f2 xt (al 1) (al 3))))) (ag))))
  (bv "UnknownPlace" (a8 (fC (.str "a place is neither the outside nor one of the tanks")) (ag)))
  (aY))
  (gF (fT (f2 oE (f2 jh (al 1) (fC (.int 0))) (f2 jh (al 1) (fC (.int 1)))))
  (bv "SamePlace" (a8 (fC (.str "a stream leads from one place to another one")) (ag)))
  (aY))
def c7:List D->R D:=aQ 2 2 lh
abbrev dJ:DJ:=ip 60
def kq:a9->R aR:=
 aC (mU 2 (cN ["standing","numbers","there"] [(".0", .local),("stream", .local)] (eB (c3 "Standing" "streams" (al 0))) (gN 1) (ic) (f2 jh (al 1) (fC (.int 0)))))
  (aC (gF (cM (fY qe (a8 (fL (cN ["standing","numbers","there"] [(".0", .local),("number", .local),("there", .free)] (eB (ap 1)) (gN 1) (ic) (f2 (la true) (al 1) (al 2)))) (ag))))
  (bv "UnknownStream" (a8 (fC (.str "a stream that is named is not there")) (ag)))
  (aY))
  (gF (fT (f2 wz (lA (al 1)) (fY hW (a8 (al 1) (ag)))))
  (bv "Twice" (a8 (fC (.str "a stream is named twice")) (ag)))
  (aY)))
def bN:List D->R D:=aQ 2 3 kq
abbrev cX:DJ:=ip 61
def j9:a9->R aR:=
 gF (cM (fY qe (a8 (fL (cN ["standing","numbers"] [(".0", .local),("number", .local),("standing", .free)] (eB (ap 1)) (gN 1) (ic) (f2 (la true) (al 1) (c3 "Standing" "meters" (al 2))))) (ag))))
  (bv "NotMetered" (a8 (fC (.str "a stream that is named has no meter")) (ag)))
  (aY)
def bx:List D->R D:=aQ 2 2 j9
abbrev dL:DJ:=ip 62
def kr:a9->R aR:=
 gF (cM (fY qe (a8 (fL (cN ["amounts"] [(".0", .local),("amount", .local),("abs", .globalImplicit),("MOST_AMOUNT", .globalImplicit)] (eB (ap 0)) (gN 1) (ic) (f2 xt (fY Be (a8 (al 1) (ag))) (fC (.int 1000))))) (ag))))
  (bv "OutOfRange" (a8 (fC (.str "a rise or a reading lies out of range")) (ag)))
  (aY)
def bq:List D->R D:=aQ 1 1 kr
abbrev dX:DJ:=bz (ip 63) 0
def cP:a9->R aR:=
 aC (gF (qu (fT (f2 wz (al 1) (fC (.int 0)))) (fT (f2 xt (al 1) (fC (.int 7)))))
  (bv "BadTanks" (a8 (fC (.str "a cellar can't have that many tanks")) (ag)))
  (aY))
  (aC (jx 0 (dn (ap 1) (gN 2)))
  (aC (jx 0 (dn (kQ "Standing" 4 aL (a8 (fC (.int 0)) (a8 (eA (ag)) (a8 (eA (ag)) (a8 (eA (ag)) (ag)))))) (gN 3)))
  (vU 0 4)))
def mD:List (Df×Nat):=[("tanks",2),("now",3)]
def aM:List D->R (List (Df×D)×Df×List D):=gm 1 4 mD "history" 4 cP
abbrev cY:DJ:=bz (ip 63) 1
def cZ:a9->R aR:=
 aC (gF (fT (f2 zC (fY hW (a8 (kX 0 "Cellar" "history") (ag))) (fC (.int 60))))
  (bv "TooManyDeeds" (a8 (fC (.str "no more deeds can be kept")) (ag)))
  (aY))
  (aC (lz 0 "Cellar" "history" (eA (a8 (ap 1) (a8 (cq 0 "Cellar" "now") (ag)))))
  (lx 0 "Cellar" "now" (ap 2)))
def aK:List Slot->List D->R (D×List Slot):=iJ 1 2 2 cZ
abbrev cg:DJ:=bz (ip 63) 2
def hZ:a9->R aR:=
 aC (eK (aD c7 2 (a8 (cq 0 "Cellar" "tanks") (a8 (eA (a8 (ap 1) (a8 (ap 2) (ag)))) (ag)))))
  (aC (gF (fT (f2 zC (fY hW (a8 (c3 "Standing" "streams" (cq 0 "Cellar" "now")) (ag))) (fC (.int 12))))
  (bv "TooManyStreams" (a8 (fC (.str "no more streams can be there")) (ag)))
  (aY))
  (aC (fc (hX 0 "Cellar" "keep_deed" (eR [0] aK 2 (a8 (eA (a8 (fC (.str "stream comes")) (a8 (ap 1) (a8 (ap 2) (ag))))) (a8 (b9 "Standing" "with_stream" 3 aX (cq 0 "Cellar" "now") (a8 (ap 1) (a8 (ap 2) (ag)))) (ag))))))
  (kY (c3 "Standing" "came" (cq 0 "Cellar" "now")))))
def aJ:List Slot->List D->R (D×List Slot):=iJ 1 2 2 hZ
abbrev c_:DJ:=bz (ip 63) 10
def ja:a9->R aR:=
 bJ (fY hW (a8 (c3 "Standing" "passed" (c3 "Cellar" "now" (al 0))) (ag)))
def ax:List D->R D:=aQ 1 1 ja
abbrev cJ:DJ:=bz (ip 63) 6
def iL:a9->R aR:=
 aC (gF (fT (f2 A_ (fY hW (a8 (al 1) (ag))) (cq 0 "Cellar" "tanks")))
  (bv "WrongRises" (a8 (fC (.str "each tank has one rise")) (ag)))
  (aY))
  (aC (mU 3 (cN ["self","rises","readings","numbers","day"] [(".0", .local),("pair", .local)] (eB (ap 2)) (gN 1) (ic) (f2 jh (al 1) (fC (.int 0)))))
  (aC (oq [3] (eK (aD bN 2 (a8 (cq 0 "Cellar" "now") (a8 (ap 3) (ag))))))
  (aC (oq [3] (eK (aD bx 2 (a8 (cq 0 "Cellar" "now") (a8 (ap 3) (ag))))))
  (aC (gF (cM (fY qe (a8 (fL (cN ["self","rises","readings","numbers","day"] [(".0", .local),("meter", .local),("numbers", .free)] (eB (c3 "Standing" "meters" (cq 0 "Cellar" "now"))) (gN 1) (ic) (f2 (la true) (al 1) (al 2)))) (ag))))
  (bv "ReadingMissing" (a8 (fC (.str "a stream that has a meter has no reading")) (ag)))
  (aY))
  (aC (eK (aD bq 1 (a8 (ap 1) (ag))))
  (aC (eK (aD bq 1 (a8 (fL (cN ["self","rises","readings","numbers","day"] [(".0", .local),("pair", .local)] (eB (ap 2)) (gN 1) (ic) (f2 jh (al 1) (fC (.int 1))))) (ag))))
  (aC (gF (fT (f2 zC (fY hW (a8 (c3 "Standing" "passed" (cq 0 "Cellar" "now")) (ag))) (fC (.int 12))))
  (bv "TooManyDays" (a8 (fC (.str "no more days can be kept")) (ag)))
  (aY))
  (aC (dn (kQ "Day" 4 dI (a8 (cq 0 "Cellar" "tanks") (a8 (c3 "Standing" "streams" (cq 0 "Cellar" "now")) (a8 (ap 1) (a8 (ap 2) (ag)))))) (gN 4))
  (aC (fc (hX 0 "Cellar" "keep_deed" (eR [0] aK 2 (a8 (eA (a8 (fC (.str "day passes")) (a8 (fY cG (a8 (al 1) (ag))) (a8 (fY cG (a8 (al 2) (ag))) (ag))))) (a8 (b9 "Standing" "with_day" 2 bf (cq 0 "Cellar" "now") (a8 (ap 4) (ag))) (ag))))))
  (kY (mx "history" [0] (b9 "Cellar" "days_gone" 1 ax (ap 0) ag))))))))))))
def aI:List Slot->List D->R (D×List Slot):=iJ 1 2 4 iL
abbrev d3:DJ:=bz (ip 63) 7
def jb:a9->R aR:=
 aC (gF (fT (f2 oE (fY hW (a8 (kX 0 "Cellar" "history") (ag))) (fC (.int 0))))
  (bv "NothingDone" (a8 (fC (.str "no deed stands")) (ag)))
  (aY))
  (aC (oV 1 0 "Cellar" "history")
  (aC (lx 0 "Cellar" "now" (f2 jh (al 1) (fC (.int 1))))
  (kY (f2 jh (al 1) (fC (.int 0))))))
def aS:List Slot->List D->R (D×List Slot):=iJ 1 0 1 jb
abbrev eE:DJ:=bz (ip 63) 8
def eF:a9->R aR:=
 aC (dn (c3 "Standing" "meters" (c3 "Cellar" "now" (al 0))) (gN 1))
  (bJ (fY cG (a8 (fL (cN ["self","meters"] [(".0", .local),("stream", .local),("meters", .free)] (eB (c3 "Standing" "streams" (c3 "Cellar" "now" (al 0)))) (gN 1) (ic) (f2 fS (al 1) (eA (a8 (f2 (la false) (f2 jh (al 1) (fC (.int 0))) (al 2)) (ag)))))) (ag))))
def bD:List D->R D:=aQ 1 2 eF
abbrev fj:DJ:=bz (ip 63) 9
def mE:a9->R aR:=
 bJ (fY cG (a8 (fL (cN ["self"] [(".0", .local),("kept", .local)] (eB (c3 "Cellar" "history" (al 0))) (gN 1) (ic) (f2 jh (al 1) (fC (.int 0))))) (ag)))
def cr:List D->R D:=aQ 1 1 mE
abbrev gU:DJ:=bz (ip 63) 11
def dw:a9->R aR:=
 aC (gF (qu (fT (f2 wz (al 1) (fC (.int 1)))) (fT (f2 xt (al 1) (b9 "Cellar" "days_gone" 1 ax (ap 0) ag))))
  (bv "UnknownDay" (a8 (fC (.str "no day has that number")) (ag)))
  (aY))
  (bJ (f2 jh (c3 "Standing" "passed" (c3 "Cellar" "now" (al 0))) (f2 vc (al 1) (fC (.int 1)))))
def av:List D->R D:=aQ 2 2 dw
abbrev dM:DJ:=bz (ip 63) 12
def kt:a9->R aR:=
 bJ (aD eS 1 (a8 (b9 "Cellar" "day" 2 av (ap 0) (a8 (ap 1) (ag))) (ag)))
def bO:List D->R D:=aQ 2 2 kt
abbrev dN:DJ:=bz (ip 63) 13
def ku:a9->R aR:=
 bJ (aD eU 1 (a8 (b9 "Cellar" "day" 2 av (ap 0) (a8 (ap 1) (ag))) (ag)))
def bP:List D->R D:=aQ 2 2 ku
abbrev eG:DJ:=bz (ip 63) 14
def li:a9->R aR:=
 bJ (aD fH 1 (a8 (b9 "Cellar" "day" 2 av (ap 0) (a8 (ap 1) (ag))) (ag)))
def c8:List D->R D:=aQ 2 2 li
abbrev dO:DJ:=bz (ip 63) 15
def kx:a9->R aR:=
 bJ (aD eV 1 (a8 (b9 "Cellar" "day" 2 av (ap 0) (a8 (ap 1) (ag))) (ag)))
def bQ:List D->R D:=aQ 2 2 kx
abbrev fX:DJ:=bz (ip 63) 16
def mY:a9->R aR:=
 bJ (aD iE 2 (a8 (b9 "Cellar" "day" 2 av (ap 0) (a8 (ap 1) (ag))) (a8 (ap 2) (ag))))
def cQ:List D->R D:=aQ 3 3 mY
abbrev mF:DJ:=ip 65
def qf:a9->R aR:=
 aC (gF (fT (f2 wz (al 1) (fY hW (a8 (al 0) (ag)))))
  (bJ (f2 jh (al 0) (al 1)))
  (aY))
  (bJ (fC (.int 0)))
def bg:List D->R D:=aQ 2 2 qf
abbrev gW:DJ:=ip 66
def fI (Mn:List D->R D):a9->R aR:=
 gF (dC (cM (aD Mn 2 (a8 (f2 jh (al 0) (al 2)) (a8 (f2 jh (al 1) (al 2)) (ag))))))
  (bJ (fC (.bl false)))
  (aY)
def fq (Mn:List D->R D):a9->R aR:=
 aC (gF (cM (rb "tuple" (al 1)))
  (aC (gF (qu (dC (cM (rb "tuple" (al 0)))) (fT (f2 A_ (fY hW (a8 (al 0) (ag))) (fY hW (a8 (al 1) (ag))))))
  (bJ (fC (.bl false)))
  (aY))
  (aC (ou (iA (a8 (fY hW (a8 (al 1) (ag))) (ag))) (gN 2) (fI Mn))
  (bJ (fC (.bl true)))))
  (aY))
  (bJ (lX (rb "int" (al 0)) (lX (si (rb "bool" (al 0))) (f2 oE (al 0) (al 1)))))
def cu:Nat->List D->R D
 |0=>λ_=> .bad
 |n+1=>aQ 2 3 (fq (cu n))
def ay:List D->R D:=cu 8
abbrev ky:DJ:=ip 67
def kA:a9->R aR:=
 aC (gF (fT (f2 oE (al 1) (fC (.int 0))))
  (bJ (b9 "Cellar" "day" 2 av (ap 0) (a8 (ap 2) (ag))))
  (aY))
  (aC (gF (fT (f2 oE (al 1) (fC (.int 1))))
  (bJ (b9 "Cellar" "clashes" 2 bO (ap 0) (a8 (ap 2) (ag))))
  (aY))
  (aC (gF (fT (f2 oE (al 1) (fC (.int 2))))
  (bJ (b9 "Cellar" "setting" 2 bP (ap 0) (a8 (ap 2) (ag))))
  (aY))
  (aC (gF (fT (f2 oE (al 1) (fC (.int 3))))
  (bJ (b9 "Cellar" "told" 3 cQ (ap 0) (a8 (ap 2) (a8 (ap 3) (ag)))))
  (aY))
  (aC (gF (fT (f2 oE (al 1) (fC (.int 4))))
  (bJ (b9 "Cellar" "doubts" 2 c8 (ap 0) (a8 (ap 2) (ag))))
  (aY))
  (bJ (b9 "Cellar" "lacking" 2 bQ (ap 0) (a8 (ap 2) (ag))))))))
def dP:List D->R D:=aQ 4 4 kA
abbrev jc:DJ:=ip 68
def jd:a9->R aR:=
 aC (kM 1 (ag))
  (aC (md 2 (mW RL)
  (mz 1 aM (a8 (ap 0) (ag)))
  (aC (kM 1 (a8 (de (tb 0) (al 2)) (a8 (de zY (al 2)) (a8 (de (tb 2) (al 2)) (ag)))))
  (aC (dn (f2 fS (al 1) (gj (a8 (de (tb 1) (al 2)) (a8 (de (tb 4) (al 2)) (a8 (de (tb 9) (al 2)) (ag)))))) (gN 1))
  (aC (dn (f2 fS (al 1) (gj (a8 (de (tb 10) (al 2)) (a8 (de wB (al 2)) (a8 (de (tb 11) (al 2)) (ag)))))) (gN 1))
  (dn (f2 fS (al 1) (gj (a8 (de (tb 12) (al 2)) (a8 (de (tb 13) (al 2)) (a8 (de wB (al 2)) (ag)))))) (gN 1))))))
  (oq [1] (bJ (ap 1))))
def dQ:List D->R D:=aQ 1 3 jd
abbrev gX:DJ:=ip 69
def gY:a9->R aR:=
 aC (kM 3 (ag))
  (aC (md 4 (mW RL)
  (eK (aD dP 4 (a8 (ap 0) (a8 (ap 1) (a8 (ap 2) (a8 (fC (.int 1)) (ag)))))))
  (aC (kM 3 (a8 (de (tb 1) (al 4)) (a8 (de zY (al 4)) (a8 (de (tb 5) (al 4)) (ag)))))
  (aC (dn (f2 fS (al 3) (gj (a8 (de wB (al 4)) (a8 (de (tb 2) (al 4)) (a8 (de (tb 13) (al 4)) (ag)))))) (gN 3))
  (dn (f2 fS (al 3) (gj (a8 (de (tb 11) (al 4)) (a8 (de (tb 9) (al 4)) (a8 (de (tb 0) (al 4)) (ag)))))) (gN 3)))))
  (bJ (f2 xJ (al 3) (gj (a8 (fC (.bl true)) (a8 (fC (.bl true)) (a8 (fC (.bl false)) (a8 (fC (.bl false)) (a8 (fC (.bl false)) (a8 (fC (.bl false)) (a8 (fC (.bl false)) (a8 (fC (.bl false)) (a8 (fC (.bl false)) (ag))))))))))))))
def cC:List D->R D:=aQ 3 5 gY
abbrev d4:DJ:=ip 70
def d5:a9->R aR:=
 aC (kM 1 (ag))
  (aC (md 2 (mW RL)
  (fc (hX 0 "Cellar" "take_back" (eR [0] aS 0 ag)))
  (aC (kM 1 (a8 (de (tb 13) (al 2)) (a8 (de zY (al 2)) (a8 (de (tb 1) (al 2)) (ag)))))
  (dn (f2 fS (al 1) (gj (a8 (de (tb 12) (al 2)) (a8 (de wB (al 2)) (ag))))) (gN 1))))
  (kY (f2 xJ (al 1) (gj (a8 (fC (.bl true)) (a8 (fC (.bl true)) (a8 (fC (.bl false)) (a8 (fC (.bl false)) (a8 (fC (.bl false)) (ag))))))))))
def b6:List Slot->List D->R (D×List Slot):=iJ 1 0 2 d5
abbrev iq:DJ:=ip 71
def ir:a9->R aR:=
 aC (gF (qu (dC (cM (aD ay 2 (a8 (c3 "Cellar" "tanks" (al 0)) (a8 (ap 1) (ag)))))) (dC (cM (aD ay 2 (a8 (b9 "Cellar" "layout" 1 bD (ap 0) ag) (a8 (eA (ag)) (ag)))))))
  (bJ (fC (.bl false)))
  (aY))
  (bJ (lX (aD ay 2 (a8 (b9 "Cellar" "deeds" 1 cr (ap 0) ag) (a8 (eA (ag)) (ag)))) (aD ay 2 (a8 (b9 "Cellar" "days_gone" 1 ax (ap 0) ag) (a8 (fC (.int 0)) (ag))))))
def bS:List D->R D:=aQ 2 2 ir
abbrev mG:DJ:=ip 72
def rq:a9->R aR:=
 gF (il [5] (dC (cM (aD cC 3 (a8 (ap 5) (a8 (ap 7) (a8 (ap 6) (ag))))))))
  (bJ (fC (.bl false)))
  (aY)
def rz:a9->R aR:=
 ou (iA (a8 (fC (.int 6)) (ag))) (gN 7) (rq)
def w9:a9->R aR:=
 aC (dn (f2 kd (aD bg 2 (a8 (ap 0) (a8 (fC (.int 0)) (ag)))) (fC (.int 8))) (gN 1))
  (aC (dn (f2 kd (f2 ve (aD bg 2 (a8 (ap 0) (a8 (fC (.int 1)) (ag)))) (fC (.int 2))) (f2 vf (fC (.int 10)) (fC (.int 30)))) (gN 2))
  (aC (gF (fT (f2 oE (f2 kd (aD bg 2 (a8 (ap 0) (a8 (fC (.int 2)) (ag)))) (fC (.int 2))) (fC (.int 1))))
  (dn (f2 kd (al 2) (fC (.int 3))) (gN 2))
  (aY))
  (aC (dn (f2 jh (gj (a8 (f2 fS (fC (.int 8)) (al 2)) (a8 (f2 vc (f1 xx (fC (.int 1))) (al 2)) (ag)))) (f2 kd (aD bg 2 (a8 (ap 0) (a8 (fC (.int 1)) (ag)))) (fC (.int 2)))) (gN 3))
  (aC (dn (eA (a8 (fC (.int 0)) (a8 (fC (.int 7)) (a8 (fC (.int 12)) (a8 (fC (.int 10)) (a8 (fC (.int 1000)) (a8 (fC (.int 12)) (a8 (fC (.int 60)) (ag))))))))) (gN 4))
  (aC (gF (qu (dC (cM (aD ay 2 (a8 (ap 4) (a8 (eA (a8 (fC (.int 0)) (a8 (fC (.int 7)) (a8 (fC (.int 12)) (a8 (fC (.int 10)) (a8 (fC (.int 1000)) (a8 (fC (.int 12)) (a8 (fC (.int 60)) (ag))))))))) (ag)))))) (fT (f2 xV (aD dQ 1 (a8 (ap 3) (ag))) (f2 fS (gj (a8 (fC (.bl true)) (a8 (fC (.bl true)) (ag)))) (f2 xu (gj (a8 (fC (.bl false)) (ag))) (fC (.int 10)))))))
  (bJ (fC (.bl false)))
  (aY))
  (aC (p0 5 "Cellar" 1 aM (a8 (ap 1) (ag)))
  (aC (ou (eB (eA (a8 (fC (.int 0)) (a8 (fC (.int 1)) (a8 (f1 xx (fC (.int 1))) (a8 (f2 fS (fC (.int 2)) (f2 kd (aD bg 2 (a8 (ap 0) (a8 (fC (.int 3)) (ag)))) (fC (.int 20)))) (a8 (f2 vf (fC (.int 10)) (fC (.int 30))) (ag)))))))) (gN 6) (rz))
  (aC (t_ (v_ (nQ (tZ (eR [5] b6 0 (ag)))) (zV (il [5] (dC (cM (aD bS 2 (a8 (ap 5) (a8 (ap 1) (ag)))))))))
  (bJ (fC (.bl false)))
  (aY))
  (aC (mU 8 (cN ["_law_script","_law_count","_law_more","_law_beyond","_law_sizes","_law_cellar","_law_number","_law_what","_law_rises"] [(".0", .local),("_law_k", .local),("_law_at", .globalImplicit),("_law_script", .free)] (iA (a8 (ap 1) (ag))) (gN 1) (ic) (f2 vc (f2 kd (aD bg 2 (a8 (ap 3) (a8 (f2 fS (fC (.int 5)) (al 1)) (ag)))) (fC (.int 2001))) (fC (.int 1000)))))
  (aC (oq [8] (t_ (v_ (nQ (tZ (kn ay 2 (wA (hX 5 "Cellar" "day_passes" (eR [5] aI 2 (a8 (ap 8) (a8 (gj (ag)) (ag))))) (wA (xS (fC (.int 1))) (Ak)))))) (zV (il [5] (dC (cM (aD ay 2 (a8 (c3 "Day" "rises" (b9 "Cellar" "day" 2 av (ap 5) (a8 (fC (.int 1)) (ag)))) (a8 (fY cG (a8 (al 8) (ag))) (ag)))))))))
  (bJ (fC (.bl false)))
  (aY)))
  (vY (zX (xS (f2 oE (al 1) (fC (.int 0)))) (kn ay 2 (wA (hX 5 "Cellar" "stream_comes" (eR [5] aJ 2 (a8 (fC (.int 0)) (a8 (f2 fS (fC (.int 1)) (f2 kd (aD bg 2 (a8 (ap 0) (a8 (fC (.int 4)) (ag)))) (al 1))) (ag))))) (wA (xS (fC (.int 1))) (Ak))))))))))))))))
def nU:List D->R D:=aQ 1 9 w9
end My
namespace My
open PySem PySem.Spec PyProof.Rows L2 L2.Pu
section
variable {P:Dv} {w:DE} {K:Dd} {mg:Df->Option De} {base:DB}
abbrev BN:List Df:=["ValueError","abs","any","bool","int","isinstance","len","range","set","sorted","tuple"]
theorem l3:aw ["self","tanks","streams","rises","readings","self.tanks","self.streams","self.rises","self.readings"] ["self","tanks","streams","rises","readings"] (ac gT):=⟨rfl,rfl,rfl,by decide+kernel,rfl,by decide+kernel,by decide+kernel⟩
theorem fJ:∀g∈(["self.tanks","self.streams","self.rises","self.readings"]:List Df),¬l7 (ac gT) g:=by unfold l7;decide+kernel
theorem qg (A:ki K mg "Day" "Day.__init__" gT ["self","tanks","streams","rises","readings"] mB) (B:Bl mg BN):fW P w K mg base 1 "Day" 4 dI:=by
 refine nL A l3 rfl rfl (by decide) (by decide) λC f JK A outer s H E hC MZ hr=> ?_
 have hu:=bA hr
 have S:=l3
 exact ak (fU 5 hC (MZ "tanks" (by decide)) (f9 (by decide) (by decide) (by decide) (by decide)) (aq 1) (hvis:=fJ "self.tanks" (by decide))) (ak (fU 6 hC (MZ "streams" (by decide)) (f9 (by decide) (by decide) (by decide) (by decide)) (ee bn d9 (B.no "tuple" (by decide)) L2.Pu.bH (aP (PQ.bo (bi (jB rfl) kW (B.no "sorted" (by decide)) L2.Pu.kN (aP (aj 2) (b0)))) (b0))) (hvis:=fJ "self.streams" (by decide))) (ak (fU 7 hC (MZ "rises" (by decide)) (f9 (by decide) (by decide) (by decide) (by decide)) (ee bn d9 (B.no "tuple" (by decide)) L2.Pu.bH (aP (aj 3) (b0))) (hvis:=fJ "self.rises" (by decide))) (ao (fU 8 hC (MZ "readings" (by decide)) (f9 (by decide) (by decide) (by decide) (by decide)) (ee bn d9 (B.no "tuple" (by decide)) L2.Pu.bH (aP (PQ.bo (bi (jB rfl) kW (B.no "sorted" (by decide)) L2.Pu.kN (aP (aj 4) (b0)))) (b0))) (hvis:=fJ "self.readings" (by decide))))))
theorem mZ (A:cO K mg "clashes_of" jI ["day"]) (_:Bl mg BN):b7 P w K mg base 0 "clashes_of" 1 eS:=gk A rfl
theorem m_ (A:cO K mg "setting_of" jJ ["day"]) (_:Bl mg BN):b7 P w K mg base 0 "setting_of" 1 eU:=gk A rfl
theorem p4 (A:cO K mg "doubts_of" k_ ["day"]) (_:Bl mg BN):b7 P w K mg base 0 "doubts_of" 1 fH:=gk A rfl
theorem rA (A:cO K mg "told_of" nT ["day","number"]) (_:Bl mg BN):b7 P w K mg base 0 "told_of" 2 iE:=gk A rfl
theorem n0 (A:cO K mg "lacking_of" jK ["day"]) (_:Bl mg BN):b7 P w K mg base 0 "lacking_of" 1 eV:=gk A rfl
theorem gq:aw ["self","came","streams","meters","passed","self.came","self.streams","self.meters","self.passed"] ["self","came","streams","meters","passed"] (ac cU):=⟨rfl,rfl,rfl,by decide+kernel,rfl,by decide+kernel,by decide+kernel⟩
theorem cD:∀g∈(["self.came","self.streams","self.meters","self.passed"]:List Df),¬l7 (ac cU) g:=by unfold l7;decide+kernel
theorem kB (A:ki K mg "Standing" "Standing.__init__" cU ["self","came","streams","meters","passed"] aT) (B:Bl mg BN):fW P w K mg base 1 "Standing" 4 aL:=by
 refine nL A gq rfl rfl (by decide) (by decide) λC f JK A outer s H E hC MZ hr=> ?_
 have hu:=bA hr
 have S:=gq
 exact ak (fU 5 hC (MZ "came" (by decide)) (f9 (by decide) (by decide) (by decide) (by decide)) (aq 1) (hvis:=cD "self.came" (by decide))) (ak (fU 6 hC (MZ "streams" (by decide)) (f9 (by decide) (by decide) (by decide) (by decide)) (aq 2) (hvis:=cD "self.streams" (by decide))) (ak (fU 7 hC (MZ "meters" (by decide)) (f9 (by decide) (by decide) (by decide) (by decide)) (aq 3) (hvis:=cD "self.meters" (by decide))) (ao (fU 8 hC (MZ "passed" (by decide)) (f9 (by decide) (by decide) (by decide) (by decide)) (aq 4) (hvis:=cD "self.passed" (by decide))))))
theorem da:aw ["self","source","target","number"] ["self","source","target"] (ac bZ):=⟨rfl,rfl,rfl,by decide+kernel,rfl,by decide+kernel,by decide+kernel⟩
theorem gr (A:cc K "Standing" "with_stream" "Standing.with_stream" bZ ["self","source","target"]) (B:Bl mg BN) (JM:fW P w K mg base 1 "Standing" 4 aL) (JE:bI K "Standing" aT):aE P w K mg base 3 "Standing" "with_stream" 3 aX:=by
 refine bM A da rfl rfl λf JK A outer s H E hr=> ?_
 have hu:=bA hr
 have S:=da
 exact ak (fE 3 S.nd (bB bW bX (PQ.bo (ba JE (by decide) (aj 0))) (PQ.bo (aB)))) (ao (bu (oR JM (hr.mono (by decide)) (a7 (aq 3) (a7 (bB bW bX (PQ.bo (ba JE (by decide) (aj 0))) (PQ.bo (eI (a7 (eI (a7 (aq 3) (a7 (aq 1) (a7 (aq 2) (ae))))) (ae))))) (a7 (ba JE (by decide) (aj 0)) (a7 (ba JE (by decide) (aj 0)) (ae))))))))
theorem eg:aw ["self","day"] ["self","day"] (ac cI):=⟨rfl,rfl,rfl,by decide+kernel,rfl,by decide+kernel,by decide+kernel⟩
theorem iu (A:cc K "Standing" "with_day" "Standing.with_day" cI ["self","day"]) (B:Bl mg BN) (JM:fW P w K mg base 1 "Standing" 4 aL) (JE:bI K "Standing" aT):aE P w K mg base 3 "Standing" "with_day" 2 bf:=by
 refine bM A eg rfl rfl λf JK A outer s H E hr=> ?_
 have hu:=bA hr
 have S:=eg
 exact ao (bu (oR JM (hr.mono (by decide)) (a7 (ba JE (by decide) (aj 0)) (a7 (ba JE (by decide) (aj 0)) (a7 (ba JE (by decide) (aj 0)) (a7 (bB bW bX (PQ.bo (ba JE (by decide) (aj 0))) (PQ.bo (eI (a7 (aq 1) (ae))))) (ae)))))))
theorem gu:aw ["tanks","places"] ["tanks","places"] (ac eD):=⟨rfl,rfl,rfl,by decide+kernel,rfl,by decide+kernel,by decide+kernel⟩
theorem kC (A:cO K mg "refuse_places" eD ["tanks","places"]) (B:Bl mg BN) {L6:Fn} (Kp:mg "OUTSIDE"=some (.int 0 L6)) (Li:bC K mg "SamePlace") (KN:bC K mg "UnknownPlace"):b7 P w K mg base 1 "refuse_places" 2 c7:=by
 refine dU A gu rfl rfl λf JK A outer s H E hr=> ?_
 have hu:=bA hr
 have S:=gu
 exact ak (dF (fD (PQ.bo (bi (fZ rfl) jH (B.no "any" (by decide)) L2.Pu.im (aP (PQ.bo (ie (aU.of rfl (by first|decide+kernel|rfl)) rfl (i9 (aq 1)) (λ_ _ _=>dm 1 (show ([".0","place","OUTSIDE","tanks"]:List Df).Nodup by decide+kernel)) (λ_ _ _=>eZ) (λ_ _ _=>Ci (js pz l_ (aj 1) (PQ.bo (cA rfl Kp))) (v5 (js rR oB (aj 1) (aj 3)))))) (b0))))) (ao (cj KN rfl (a7 (eH) (ae)))) (aW)) (ao (dF (d8 i4 e_ (PQ.bo (ju hu (aj 1) (PQ.bo (aB)))) (PQ.bo (ju hu (aj 1) (PQ.bo (aB))))) (ao (cj Li rfl (a7 (eH) (ae)))) (aW)))
theorem fK:aw ["standing","numbers","there"] ["standing","numbers"] (ac dJ):=⟨rfl,rfl,rfl,by decide+kernel,rfl,by decide+kernel,by decide+kernel⟩
theorem jL (A:cO K mg "refuse_numbers" dJ ["standing","numbers"]) (B:Bl mg BN) (Mp:bC K mg "Twice") (KA:bC K mg "UnknownStream") (JE:bI K "Standing" aT):b7 P w K mg base 1 "refuse_numbers" 2 bN:=by
 refine dU A fK rfl rfl λf JK A outer s H E hr=> ?_
 have hu:=bA hr
 have S:=fK
 exact ak (sq 2 (aU.of rfl (by first|decide+kernel|rfl)) rfl S.nd (i9 (ba JE (by decide) (aj 0))) (λ_ _ _=>dm 1 (show ([".0","stream"]:List Df).Nodup by decide+kernel)) (λ_ _ _=>eZ) (λ_ _ _=>ju hu (aj 1) (PQ.bo (aB)))) (ak (dF (fD (PQ.bo (bi (fZ rfl) jH (B.no "any" (by decide)) L2.Pu.im (aP (PQ.bo (ie (aU.of rfl (by first|decide+kernel|rfl)) rfl (i9 (aq 1)) (λ_ _ _=>dm 1 (show ([".0","number","there"]:List Df).Nodup by decide+kernel)) (λ_ _ _=>eZ) (λ_ _ _=>oG hu (aj 1) (aj 2)))) (b0))))) (ao (cj KA rfl (a7 (eH) (ae)))) (aW)) (ao (dF (d8 pz l_ (PQ.bo (vX rfl (B.no "len" (by decide)) (B.no "set" (by decide)) (aj 1))) (PQ.bo (bi bL dq (B.no "len" (by decide)) Eo (aP (aj 1) (b0))))) (ao (cj Mp rfl (a7 (eH) (ae)))) (aW))))
theorem eM:aw ["standing","numbers"] ["standing","numbers"] (ac cX):=⟨rfl,rfl,rfl,by decide+kernel,rfl,by decide+kernel,by decide+kernel⟩
theorem iM (A:cO K mg "refuse_unmetered" cX ["standing","numbers"]) (B:Bl mg BN) (L7:bC K mg "NotMetered") (JE:bI K "Standing" aT):b7 P w K mg base 1 "refuse_unmetered" 2 bx:=by
 refine dU A eM rfl rfl λf JK A outer s H E hr=> ?_
 have hu:=bA hr
 have S:=eM
 exact ao (dF (fD (PQ.bo (bi (fZ rfl) jH (B.no "any" (by decide)) L2.Pu.im (aP (PQ.bo (ie (aU.of rfl (by first|decide+kernel|rfl)) rfl (i9 (aq 1)) (λ_ _ _=>dm 1 (show ([".0","number","standing"]:List Df).Nodup by decide+kernel)) (λ_ _ _=>eZ) (λ_ _ _=>oG hu (aj 1) (PQ.bo (ba JE (by decide) (aj 2)))))) (b0))))) (ao (cj L7 rfl (a7 (eH) (ae)))) (aW))
theorem fM:aw ["amounts"] ["amounts"] (ac dL):=⟨rfl,rfl,rfl,by decide+kernel,rfl,by decide+kernel,by decide+kernel⟩
theorem jM (A:cO K mg "refuse_amounts" dL ["amounts"]) (B:Bl mg BN) {Kg:Fn} (JX:mg "MOST_AMOUNT"=some (.int 1000 Kg)) (L8:bC K mg "OutOfRange"):b7 P w K mg base 1 "refuse_amounts" 1 bq:=by
 refine dU A fM rfl rfl λf JK A outer s H E hr=> ?_
 have hu:=bA hr
 have S:=fM
 exact ao (dF (fD (PQ.bo (bi (fZ rfl) jH (B.no "any" (by decide)) L2.Pu.im (aP (PQ.bo (ie (aU.of rfl (by first|decide+kernel|rfl)) rfl (i9 (aq 0)) (λ_ _ _=>dm 1 (show ([".0","amount","abs","MOST_AMOUNT"]:List Df).Nodup by decide+kernel)) (λ_ _ _=>eZ) (λ_ _ _=>js rR oB (PQ.bo (bi uc xR (B.no "abs" (by decide)) L2.Pu.ud (aP (aj 1) (b0)))) (PQ.bo (cA rfl JX))))) (b0))))) (ao (cj L8 rfl (a7 (eH) (ae)))) (aW))
theorem iw:aw ["self","tanks","self.tanks","self.now","self.history"] ["self","tanks"] (ac dX):=⟨rfl,rfl,rfl,by decide+kernel,rfl,by decide+kernel,by decide+kernel⟩
theorem ft:∀g∈(["self.tanks","self.now","self.history"]:List Df),¬l7 (ac dX) g:=by unfold l7;decide+kernel
theorem mH (A:ki K mg "Cellar" "Cellar.__init__" dX ["self","tanks"] bp) (B:Bl mg BN) (JM:fW P w K mg base 1 "Standing" 4 aL) {Kl:Fn} (K3:mg "MOST_TANKS"=some (.int 7 Kl)) (Lp:bC K mg "BadTanks"):my P w K mg base 3 "Cellar" 1 aM:=by
 refine vW A iw rfl rfl (by decide) (by decide) (by decide) λC f JK A outer s H E hC MZ hr=> ?_
 have hu:=bA hr
 have S:=iw
 exact ak (dF (wy.t (v4 (d8 pz l_ (aj 1) (PQ.bo (aB))) (pM (d8 rR oB (aj 1) (PQ.bo (cA rfl K3)))))) (ao (cj Lp rfl (a7 (eH) (ae)))) (aW)) (ak (fU 2 hC (MZ "tanks" (by decide)) (f9 (by decide) (by decide) (by decide) (by decide)) (aq 1) (hvis:=ft "self.tanks" (by decide))) (ak (fU 3 hC (MZ "now" (by decide)) (f9 (by decide) (by decide) (by decide) (by decide)) (oR JM (hr.mono (by decide)) (a7 (aB) (a7 (eI (ae)) (a7 (eI (ae)) (a7 (eI (ae)) (ae)))))) (hvis:=ft "self.now" (by decide))) (ao (zS 4 hC (MZ "history" (by decide)) (f9 (by decide) (by decide) (by decide) (by decide)) (hvis:=ft "self.history" (by decide))))))
theorem eN:aw ["self","deed","after"] ["self","deed","after"] (ac cY):=⟨rfl,rfl,rfl,by decide+kernel,rfl,by decide+kernel,by decide+kernel⟩
theorem iN (A:cc K "Cellar" "keep_deed" "Cellar.keep_deed" cY ["self","deed","after"]) (B:Bl mg BN) {Km:Fn} (K4:mg "MOST_DEEDS"=some (.int 60 Km)) (KO:bC K mg "TooManyDeeds") (JF:bI K "Cellar" bp):eL P w K mg base 1 "Cellar" "keep_deed" 2 aK:=by
 refine jD A eN rfl rfl (by decide) λf JK A outer s H E hr=> ?_
 have hu:=bA hr
 have S:=eN
 exact ak (dF (d8 uG qZ (PQ.bo (bi bL dq (B.no "len" (by decide)) Eo (aP (vP 0 JF (by decide)) (b0)))) (PQ.bo (cA rfl K4))) (ao (cj KO rfl (a7 (eH) (ae)))) (aW)) (ak (vQ 0 JF (by decide) (eI (a7 (aq 1) (a7 (dH 0 JF (by decide)) (ae))))) (ao (qd 0 JF (by decide) (aq 2))))
theorem dz:aw ["self","source","target"] ["self","source","target"] (ac cg):=⟨rfl,rfl,rfl,by decide+kernel,rfl,by decide+kernel,by decide+kernel⟩
theorem gZ (A:cc K "Cellar" "stream_comes" "Cellar.stream_comes" cg ["self","source","target"]) (B:Bl mg BN) (KC:b7 P w K mg base 1 "refuse_places" 2 c7) (JO:eL P w K mg base 1 "Cellar" "keep_deed" 2 aK) (K0:aE P w K mg base 3 "Standing" "with_stream" 3 aX) {Ka:Fn} (JW:mg "MOST_STREAMS"=some (.int 12 Ka)) (Kq:bC K mg "TooManyStreams") (JF:bI K "Cellar" bp) (JE:bI K "Standing" aT):eL P w K mg base 4 "Cellar" "stream_comes" 2 aJ:=by
 refine jD A dz rfl rfl (by decide) λf JK A outer s H E hr=> ?_
 have hu:=bA hr
 have S:=dz
 exact ak (kl (dD KC (hr.mono (by decide)) (a7 (dH 0 JF (by decide)) (a7 (eI (a7 (aq 1) (a7 (aq 2) (ae)))) (ae))))) (ak (dF (d8 uG qZ (PQ.bo (bi bL dq (B.no "len" (by decide)) Eo (aP (PQ.bo (ba JE (by decide) (PQ.bo (dH 0 JF (by decide))))) (b0)))) (PQ.bo (cA rfl JW))) (ao (cj Kq rfl (a7 (eH) (ae)))) (aW)) (ak (oX (oU 0 JO (hr.mono (by decide)) (a7 (eI (a7 (eH) (a7 (aq 1) (a7 (aq 2) (ae))))) (a7 (du K0 (hr.mono (by decide)) (dH 0 JF (by decide)) (a7 (aq 1) (a7 (aq 2) (ae)))) (ae))))) (ao (oW (ba JE (by decide) (PQ.bo (dH 0 JF (by decide))))))))
theorem eO:aw ["self"] ["self"] (ac c_):=⟨rfl,rfl,rfl,by decide+kernel,rfl,by decide+kernel,by decide+kernel⟩
theorem iO (A:cc K "Cellar" "days_gone" "Cellar.days_gone" c_ ["self"]) (B:Bl mg BN) (JF:bI K "Cellar" bp) (JE:bI K "Standing" aT):aE P w K mg base 1 "Cellar" "days_gone" 1 ax:=by
 refine bM A eO rfl rfl λf JK A outer s H E hr=> ?_
 have hu:=bA hr
 have S:=eO
 exact ao (bu (bi bL dq (B.no "len" (by decide)) Eo (aP (PQ.bo (ba JE (by decide) (PQ.bo (ba JF (by decide) (aj 0))))) (b0))))
theorem eh:aw ["self","rises","readings","numbers","day"] ["self","rises","readings"] (ac cJ):=⟨rfl,rfl,rfl,by decide+kernel,rfl,by decide+kernel,by decide+kernel⟩
theorem ix (A:cc K "Cellar" "day_passes" "Cellar.day_passes" cJ ["self","rises","readings"]) (B:Bl mg BN) (Kr:b7 P w K mg base 1 "refuse_numbers" 2 bN) (Kh:b7 P w K mg base 1 "refuse_unmetered" 2 bx) (Kb:b7 P w K mg base 1 "refuse_amounts" 1 bq) (Lq:fW P w K mg base 1 "Day" 4 dI) (JO:eL P w K mg base 1 "Cellar" "keep_deed" 2 aK) (Ke:aE P w K mg base 3 "Standing" "with_day" 2 bf) (JI:aE P w K mg base 1 "Cellar" "days_gone" 1 ax) {Kz:Fn} (Kc:mg "MOST_DAYS"=some (.int 12 Kz)) (Ks:bC K mg "ReadingMissing") (KY:bC K mg "TooManyDays") (L9:bC K mg "WrongRises") (JF:bI K "Cellar" bp) (JE:bI K "Standing" aT):eL P w K mg base 4 "Cellar" "day_passes" 2 aI:=by
 refine jD A eh rfl rfl (by decide) λf JK A outer s H E hr=> ?_
 have hu:=bA hr
 have S:=eh
 exact ak (dF (d8 yf vh (PQ.bo (bi bL dq (B.no "len" (by decide)) Eo (aP (aj 1) (b0)))) (PQ.bo (dH 0 JF (by decide)))) (ao (cj L9 rfl (a7 (eH) (ae)))) (aW)) (ak (sq 3 (aU.of rfl (by first|decide+kernel|rfl)) rfl S.nd (i9 (aq 2)) (λ_ _ _=>dm 1 (show ([".0","pair"]:List Df).Nodup by decide+kernel)) (λ_ _ _=>eZ) (λ_ _ _=>ju hu (aj 1) (PQ.bo (aB)))) (ak (sj [3] (kl (dD Kr (hr.mono (by decide)) (a7 (dH 0 JF (by decide)) (a7 (aq 3) (ae)))))) (ak (sj [3] (kl (dD Kh (hr.mono (by decide)) (a7 (dH 0 JF (by decide)) (a7 (aq 3) (ae)))))) (ak (dF (fD (PQ.bo (bi (fZ rfl) jH (B.no "any" (by decide)) L2.Pu.im (aP (PQ.bo (ie (aU.of rfl (by first|decide+kernel|rfl)) rfl (i9 (ba JE (by decide) (PQ.bo (dH 0 JF (by decide))))) (λ_ _ _=>dm 1 (show ([".0","meter","numbers"]:List Df).Nodup by decide+kernel)) (λ_ _ _=>eZ) (λ_ _ _=>oG hu (aj 1) (aj 2)))) (b0))))) (ao (cj Ks rfl (a7 (eH) (ae)))) (aW)) (ak (kl (dD Kb (hr.mono (by decide)) (a7 (aq 1) (ae)))) (ak (kl (dD Kb (hr.mono (by decide)) (a7 (ie (aU.of rfl (by first|decide+kernel|rfl)) rfl (i9 (aq 2)) (λ_ _ _=>dm 1 (show ([".0","pair"]:List Df).Nodup by decide+kernel)) (λ_ _ _=>eZ) (λ_ _ _=>ju hu (aj 1) (PQ.bo (aB)))) (ae)))) (ak (dF (d8 uG qZ (PQ.bo (bi bL dq (B.no "len" (by decide)) Eo (aP (PQ.bo (ba JE (by decide) (PQ.bo (dH 0 JF (by decide))))) (b0)))) (PQ.bo (cA rfl Kc))) (ao (cj KY rfl (a7 (eH) (ae)))) (aW)) (ak (fE 4 S.nd (oR Lq (hr.mono (by decide)) (a7 (dH 0 JF (by decide)) (a7 (ba JE (by decide) (PQ.bo (dH 0 JF (by decide)))) (a7 (aq 1) (a7 (aq 2) (ae))))))) (ak (oX (oU 0 JO (hr.mono (by decide)) (a7 (eI (a7 (eH) (a7 (ee bn d9 (B.no "tuple" (by decide)) L2.Pu.bH (aP (aj 1) (b0))) (a7 (ee bn d9 (B.no "tuple" (by decide)) L2.Pu.bH (aP (aj 2) (b0))) (ae))))) (a7 (du Ke (hr.mono (by decide)) (dH 0 JF (by decide)) (a7 (aq 4) (ae))) (ae))))) (ao (oW (xO "history" [0] (jw JI (hr.mono (by decide)) (aq 0))))))))))))))
theorem eP:aw ["self","last"] ["self"] (ac d3):=⟨rfl,rfl,rfl,by decide+kernel,rfl,by decide+kernel,by decide+kernel⟩
theorem iP (A:cc K "Cellar" "take_back" "Cellar.take_back" d3 ["self"]) (B:Bl mg BN) (KZ:bC K mg "NothingDone") (JF:bI K "Cellar" bp):eL P w K mg base 1 "Cellar" "take_back" 0 aS:=by
 refine jD A eP rfl rfl (by decide) λf JK A outer s H E hr=> ?_
 have hu:=bA hr
 have S:=eP
 exact ak (dF (d8 i4 e_ (PQ.bo (bi bL dq (B.no "len" (by decide)) Eo (aP (vP 0 JF (by decide)) (b0)))) (PQ.bo (aB))) (ao (cj KZ rfl (a7 (eH) (ae)))) (aW)) (ak (vR 1 0 S.nd JF (by decide)) (ak (qd 0 JF (by decide) (ju hu (aj 1) (PQ.bo (aB)))) (ao (oW (ju hu (aj 1) (PQ.bo (aB)))))))
theorem gw:aw ["self","meters"] ["self"] (ac eE):=⟨rfl,rfl,rfl,by decide+kernel,rfl,by decide+kernel,by decide+kernel⟩
theorem kD (A:cc K "Cellar" "layout" "Cellar.layout" eE ["self"]) (B:Bl mg BN) (JF:bI K "Cellar" bp) (JE:bI K "Standing" aT):aE P w K mg base 1 "Cellar" "layout" 1 bD:=by
 refine bM A gw rfl rfl λf JK A outer s H E hr=> ?_
 have hu:=bA hr
 have S:=gw
 exact ak (fE 1 S.nd (ba JE (by decide) (PQ.bo (ba JF (by decide) (aj 0))))) (ao (bu (ee bn d9 (B.no "tuple" (by decide)) L2.Pu.bH (aP (PQ.bo (ie (aU.of rfl (by first|decide+kernel|rfl)) rfl (i9 (ba JE (by decide) (PQ.bo (ba JF (by decide) (aj 0))))) (λ_ _ _=>dm 1 (show ([".0","stream","meters"]:List Df).Nodup by decide+kernel)) (λ_ _ _=>eZ) (λ_ _ _=>bB bW bX (aj 1) (PQ.bo (eI (a7 (Cp hu (PQ.bo (ju hu (aj 1) (PQ.bo (aB)))) (aj 2)) (ae))))))) (b0)))))
theorem hG:aw ["self"] ["self"] (ac fj):=⟨rfl,rfl,rfl,by decide+kernel,rfl,by decide+kernel,by decide+kernel⟩
theorem lj (A:cc K "Cellar" "deeds" "Cellar.deeds" fj ["self"]) (B:Bl mg BN) (JF:bI K "Cellar" bp):aE P w K mg base 1 "Cellar" "deeds" 1 cr:=by
 refine bM A hG rfl rfl λf JK A outer s H E hr=> ?_
 have hu:=bA hr
 have S:=hG
 exact ao (bu (ee bn d9 (B.no "tuple" (by decide)) L2.Pu.bH (aP (PQ.bo (ie (aU.of rfl (by first|decide+kernel|rfl)) rfl (i9 (ba JF (by decide) (aj 0))) (λ_ _ _=>dm 1 (show ([".0","kept"]:List Df).Nodup by decide+kernel)) (λ_ _ _=>eZ) (λ_ _ _=>ju hu (aj 1) (PQ.bo (aB))))) (b0))))
theorem iV:aw ["self","number"] ["self","number"] (ac gU):=⟨rfl,rfl,rfl,by decide+kernel,rfl,by decide+kernel,by decide+kernel⟩
theorem n4 (A:cc K "Cellar" "day" "Cellar.day" gU ["self","number"]) (B:Bl mg BN) (JI:aE P w K mg base 1 "Cellar" "days_gone" 1 ax) (La:bC K mg "UnknownDay") (JF:bI K "Cellar" bp) (JE:bI K "Standing" aT):aE P w K mg base 2 "Cellar" "day" 2 av:=by
 refine bM A iV rfl rfl λf JK A outer s H E hr=> ?_
 have hu:=bA hr
 have S:=iV
 exact ak (dF (wy.t (v4 (d8 pz l_ (aj 1) (PQ.bo (aB))) (pM (d8 rR oB (aj 1) (PQ.bo (jw JI (hr.mono (by decide)) (aq 0))))))) (ao (cj La rfl (a7 (eH) (ae)))) (aW)) (ao (bu (ju hu (PQ.bo (ba JE (by decide) (PQ.bo (ba JF (by decide) (aj 0))))) (PQ.bo (bB qy oA (aj 1) (PQ.bo (aB)))))))
theorem fN:aw ["self","number"] ["self","number"] (ac dM):=⟨rfl,rfl,rfl,by decide+kernel,rfl,by decide+kernel,by decide+kernel⟩
theorem jN (A:cc K "Cellar" "clashes" "Cellar.clashes" dM ["self","number"]) (B:Bl mg BN) (Lb:b7 P w K mg base 0 "clashes_of" 1 eS) (JG:aE P w K mg base 2 "Cellar" "day" 2 av):aE P w K mg base 3 "Cellar" "clashes" 2 bO:=by
 refine bM A fN rfl rfl λf JK A outer s H E hr=> ?_
 have hu:=bA hr
 have S:=fN
 exact ao (bu (dD Lb (hr.mono (by decide)) (a7 (du JG (hr.mono (by decide)) (aq 0) (a7 (aq 1) (ae))) (ae))))
theorem fO:aw ["self","number"] ["self","number"] (ac dN):=⟨rfl,rfl,rfl,by decide+kernel,rfl,by decide+kernel,by decide+kernel⟩
theorem jO (A:cc K "Cellar" "setting" "Cellar.setting" dN ["self","number"]) (B:Bl mg BN) (Lc:b7 P w K mg base 0 "setting_of" 1 eU) (JG:aE P w K mg base 2 "Cellar" "day" 2 av):aE P w K mg base 3 "Cellar" "setting" 2 bP:=by
 refine bM A fO rfl rfl λf JK A outer s H E hr=> ?_
 have hu:=bA hr
 have S:=fO
 exact ao (bu (dD Lc (hr.mono (by decide)) (a7 (du JG (hr.mono (by decide)) (aq 0) (a7 (aq 1) (ae))) (ae))))
theorem gz:aw ["self","number"] ["self","number"] (ac eG):=⟨rfl,rfl,rfl,by decide+kernel,rfl,by decide+kernel,by decide+kernel⟩
theorem kE (A:cc K "Cellar" "doubts" "Cellar.doubts" eG ["self","number"]) (B:Bl mg BN) (Lj:b7 P w K mg base 0 "doubts_of" 1 fH) (JG:aE P w K mg base 2 "Cellar" "day" 2 av):aE P w K mg base 3 "Cellar" "doubts" 2 c8:=by
 refine bM A gz rfl rfl λf JK A outer s H E hr=> ?_
 have hu:=bA hr
 have S:=gz
 exact ao (bu (dD Lj (hr.mono (by decide)) (a7 (du JG (hr.mono (by decide)) (aq 0) (a7 (aq 1) (ae))) (ae))))
theorem fP:aw ["self","number"] ["self","number"] (ac dO):=⟨rfl,rfl,rfl,by decide+kernel,rfl,by decide+kernel,by decide+kernel⟩
theorem jP (A:cc K "Cellar" "lacking" "Cellar.lacking" dO ["self","number"]) (B:Bl mg BN) (Ld:b7 P w K mg base 0 "lacking_of" 1 eV) (JG:aE P w K mg base 2 "Cellar" "day" 2 av):aE P w K mg base 3 "Cellar" "lacking" 2 bQ:=by
 refine bM A fP rfl rfl λf JK A outer s H E hr=> ?_
 have hu:=bA hr
 have S:=fP
 exact ao (bu (dD Ld (hr.mono (by decide)) (a7 (du JG (hr.mono (by decide)) (aq 0) (a7 (aq 1) (ae))) (ae))))
theorem iy:aw ["self","number","stream"] ["self","number","stream"] (ac fX):=⟨rfl,rfl,rfl,by decide+kernel,rfl,by decide+kernel,by decide+kernel⟩
theorem mI (A:cc K "Cellar" "told" "Cellar.told" fX ["self","number","stream"]) (B:Bl mg BN) (LF:b7 P w K mg base 0 "told_of" 2 iE) (JG:aE P w K mg base 2 "Cellar" "day" 2 av):aE P w K mg base 3 "Cellar" "told" 3 cQ:=by
 refine bM A iy rfl rfl λf JK A outer s H E hr=> ?_
 have hu:=bA hr
 have S:=iy
 exact ao (bu (dD LF (hr.mono (by decide)) (a7 (du JG (hr.mono (by decide)) (aq 0) (a7 (aq 1) (ae))) (a7 (aq 2) (ae)))))
theorem nV:aw ["_law_script","_law_k"] ["_law_script","_law_k"] (ac mF):=⟨rfl,rfl,rfl,by decide+kernel,rfl,by decide+kernel,by decide+kernel⟩
theorem uf (A:cO K mg "_law_at" mF ["_law_script","_law_k"]) (B:Bl mg BN):b7 P w K mg base 1 "_law_at" 2 bg:=by
 refine dU A nV rfl rfl λf JK A outer s H E hr=> ?_
 have hu:=bA hr
 have S:=nV
 exact ak (dF (d8 pz l_ (aj 1) (PQ.bo (bi bL dq (B.no "len" (by decide)) Eo (aP (aj 0) (b0))))) (ao (bu (ju hu (aj 0) (aj 1)))) (aW)) (ao (bu (aB)))
theorem l4:aw ["_law_found","_law_due","_law_k"] ["_law_found","_law_due"] (ac gW):=⟨rfl,rfl,rfl,by decide+kernel,rfl,by decide+kernel,by decide+kernel⟩
theorem jQ (A:cO K mg "_law_same" gW ["_law_found","_law_due"]) (B:Bl mg BN):∀n:Nat,b7 P w K mg base n "_law_same" 2 (cu n)
 |0=>gk A rfl
 |n+1=>by
  have QP:=jQ A B n
  refine dU A l4 rfl rfl λf JK A outer s H E hr=> ?_
  have hu:=bA hr
  have S:=l4
  exact ak (dF (fD (PQ.bo (so (.inr (.inr (.inr (.inl rfl)))) (B.no "isinstance" (by decide)) (B.no "tuple" (by decide)) L2.Pu.bH (aj 1)))) (ak (dF (wy.t (v4 (kL (fD (PQ.bo (so (.inr (.inr (.inr (.inl rfl)))) (B.no "isinstance" (by decide)) (B.no "tuple" (by decide)) L2.Pu.bH (aj 0))))) (pM (d8 yf vh (PQ.bo (bi bL dq (B.no "len" (by decide)) Eo (aP (aj 0) (b0)))) (PQ.bo (bi bL dq (B.no "len" (by decide)) Eo (aP (aj 1) (b0)))))))) (ao (bu (eu))) (aW)) (ak (v7 GR rfl (lZ (B.no "range" (by decide)) (a7 (bi bL dq (B.no "len" (by decide)) Eo (aP (aj 1) (b0))) (ae))) (dm 2 S.nd) (ao (dF (kL (fD (PQ.bo (dD QP (hr.mono (by omega)) (a7 (ju hu (aj 0) (aj 2)) (a7 (ju hu (aj 1) (aj 2)) (ae))))))) (ao (bu (eu))) (aW)))) (ao (bu (eu))))) (aW)) (ao (bu (v6 (so (.inr (.inl rfl)) (B.no "isinstance" (by decide)) (B.no "int" (by decide)) L2.Pu.vp (aj 0)) (v6 (AY (so (.inl rfl) (B.no "isinstance" (by decide)) (B.no "bool" (by decide)) L2.Pu.tM (aj 0))) (v5 (js i4 e_ (aj 0) (aj 1)))))))
theorem qh (A:cO K mg "_law_same" gW ["_law_found","_law_due"]) (B:Bl mg BN):b7 P w K mg base 8 "_law_same" 2 ay:=(jQ A B 8).mono (by decide)
theorem mJ:aw ["_law_cellar","_law_what","_law_number","_law_stream"] ["_law_cellar","_law_what","_law_number","_law_stream"] (ac ky):=⟨rfl,rfl,rfl,by decide+kernel,rfl,by decide+kernel,by decide+kernel⟩
theorem rB (A:cO K mg "_law_put" ky ["_law_cellar","_law_what","_law_number","_law_stream"]) (B:Bl mg BN) (JG:aE P w K mg base 2 "Cellar" "day" 2 av) (Kt:aE P w K mg base 3 "Cellar" "clashes" 2 bO) (Ku:aE P w K mg base 3 "Cellar" "setting" 2 bP) (K_:aE P w K mg base 3 "Cellar" "told" 3 cQ) (KD:aE P w K mg base 3 "Cellar" "doubts" 2 c8) (Kv:aE P w K mg base 3 "Cellar" "lacking" 2 bQ):b7 P w K mg base 4 "_law_put" 4 dP:=by
 refine dU A mJ rfl rfl λf JK A outer s H E hr=> ?_
 have hu:=bA hr
 have S:=mJ
 exact ak (dF (d8 i4 e_ (aj 1) (PQ.bo (aB))) (ao (bu (du JG (hr.mono (by decide)) (aq 0) (a7 (aq 2) (ae))))) (aW)) (ak (dF (d8 i4 e_ (aj 1) (PQ.bo (aB))) (ao (bu (du Kt (hr.mono (by decide)) (aq 0) (a7 (aq 2) (ae))))) (aW)) (ak (dF (d8 i4 e_ (aj 1) (PQ.bo (aB))) (ao (bu (du Ku (hr.mono (by decide)) (aq 0) (a7 (aq 2) (ae))))) (aW)) (ak (dF (d8 i4 e_ (aj 1) (PQ.bo (aB))) (ao (bu (du K_ (hr.mono (by decide)) (aq 0) (a7 (aq 2) (a7 (aq 3) (ae)))))) (aW)) (ak (dF (d8 i4 e_ (aj 1) (PQ.bo (aB))) (ao (bu (du KD (hr.mono (by decide)) (aq 0) (a7 (aq 2) (ae))))) (aW)) (ao (bu (du Kv (hr.mono (by decide)) (aq 0) (a7 (aq 2) (ae)))))))))
theorem l5:aw ["_law_count","_law_kinds","e"] ["_law_count"] (ac jc):=⟨rfl,rfl,rfl,by decide+kernel,rfl,by decide+kernel,by decide+kernel⟩
theorem qi (A:cO K mg "_law_made" jc ["_law_count"]) (B:Bl mg BN) (K5:my P w K mg base 3 "Cellar" 1 aM) (Kw:cf K mg "BadTanks" (tb 0)) (K1:cf K mg "Clashing" wB) (JQ:cf K mg "NothingDone" (tb 13)) (Kd:cf K mg "OutOfRange" (tb 9)) (K6:cf K mg "TooManyDays" (tb 11)) (JY:cf K mg "TooManyDeeds" (tb 12)) (KG:cf K mg "TooManyMeters" wB) (Kx:cf K mg "TooManyStreams" (tb 10)) (JT:cf K mg "UnknownDay" (tb 1)) (JZ:cf K mg "UnknownPlace" (tb 2)) (JU:iS K (.type "ValueError") zY) (Le:cf K mg "WrongRises" (tb 4)) (JR:mh K mg "CellarError" (mW RL)):b7 P w K mg base 5 "_law_made" 1 dQ:=by
 refine dU A l5 rfl rfl λf JK A outer s H E hr=> ?_
 have hu:=bA hr
 have S:=l5
 exact ak (ka 1 S.nd (ae)) (ak (vG 2 i7 S.nd JR (λ_ _=>ao (xX K5 (hr.mono (by decide)) (a7 (aq 0) (ae)))) (λ_=>ak (ka 1 S.nd (a7 (bw Kw (B.no "isinstance" (by decide)) (aj 2)) (a7 (rf JU L2.Pu.eC (B.no "ValueError" (by decide)) (B.no "isinstance" (by decide)) (aj 2)) (a7 (bw JZ (B.no "isinstance" (by decide)) (aj 2)) (ae))))) (ak (fE 1 S.nd (bB bW bX (aj 1) (PQ.bo (g_ (a7 (bw JT (B.no "isinstance" (by decide)) (aj 2)) (a7 (bw Le (B.no "isinstance" (by decide)) (aj 2)) (a7 (bw Kd (B.no "isinstance" (by decide)) (aj 2)) (ae)))))))) (ak (fE 1 S.nd (bB bW bX (aj 1) (PQ.bo (g_ (a7 (bw Kx (B.no "isinstance" (by decide)) (aj 2)) (a7 (bw KG (B.no "isinstance" (by decide)) (aj 2)) (a7 (bw K6 (B.no "isinstance" (by decide)) (aj 2)) (ae)))))))) (ao (fE 1 S.nd (bB bW bX (aj 1) (PQ.bo (g_ (a7 (bw JY (B.no "isinstance" (by decide)) (aj 2)) (a7 (bw JQ (B.no "isinstance" (by decide)) (aj 2)) (a7 (bw K1 (B.no "isinstance" (by decide)) (aj 2)) (ae))))))))))))) (ao (sj [1] (bu (aq 1)))))
theorem iW:aw ["_law_cellar","_law_what","_law_number","_law_kinds","e"] ["_law_cellar","_law_what","_law_number"] (ac gX):=⟨rfl,rfl,rfl,by decide+kernel,rfl,by decide+kernel,by decide+kernel⟩
theorem n5 (A:cO K mg "_law_no_day" gX ["_law_cellar","_law_what","_law_number"]) (B:Bl mg BN) (LG:b7 P w K mg base 4 "_law_put" 4 dP) (Kw:cf K mg "BadTanks" (tb 0)) (K1:cf K mg "Clashing" wB) (JQ:cf K mg "NothingDone" (tb 13)) (Kd:cf K mg "OutOfRange" (tb 9)) (K6:cf K mg "TooManyDays" (tb 11)) (JT:cf K mg "UnknownDay" (tb 1)) (JZ:cf K mg "UnknownPlace" (tb 2)) (KH:cf K mg "UnknownStream" (tb 5)) (JU:iS K (.type "ValueError") zY) (JR:mh K mg "CellarError" (mW RL)):b7 P w K mg base 5 "_law_no_day" 3 cC:=by
 refine dU A iW rfl rfl λf JK A outer s H E hr=> ?_
 have hu:=bA hr
 have S:=iW
 exact ak (ka 3 S.nd (ae)) (ak (vG 4 i7 S.nd JR (λ_ _=>ao (kl (dD LG (hr.mono (by decide)) (a7 (aq 0) (a7 (aq 1) (a7 (aq 2) (a7 (aB) (ae)))))))) (λ_=>ak (ka 3 S.nd (a7 (bw JT (B.no "isinstance" (by decide)) (aj 4)) (a7 (rf JU L2.Pu.eC (B.no "ValueError" (by decide)) (B.no "isinstance" (by decide)) (aj 4)) (a7 (bw KH (B.no "isinstance" (by decide)) (aj 4)) (ae))))) (ak (fE 3 S.nd (bB bW bX (aj 3) (PQ.bo (g_ (a7 (bw K1 (B.no "isinstance" (by decide)) (aj 4)) (a7 (bw JZ (B.no "isinstance" (by decide)) (aj 4)) (a7 (bw JQ (B.no "isinstance" (by decide)) (aj 4)) (ae)))))))) (ao (fE 3 S.nd (bB bW bX (aj 3) (PQ.bo (g_ (a7 (bw K6 (B.no "isinstance" (by decide)) (aj 4)) (a7 (bw Kd (B.no "isinstance" (by decide)) (aj 4)) (a7 (bw Kw (B.no "isinstance" (by decide)) (aj 4)) (ae)))))))))))) (ao (bu (js (vL hu) sv (aj 3) (PQ.bo (g_ (a7 (eu) (a7 (eu) (a7 (eu) (a7 (eu) (a7 (eu) (a7 (eu) (a7 (eu) (a7 (eu) (a7 (eu) (ae))))))))))))))))
theorem eQ:aw ["_law_cellar","_law_kinds","e"] ["_law_cellar"] (ac d4):=⟨rfl,rfl,rfl,by decide+kernel,rfl,by decide+kernel,by decide+kernel⟩
theorem iQ (A:cO K mg "_law_nothing_done" d4 ["_law_cellar"]) (B:Bl mg BN) (Ki:eL P w K mg base 1 "Cellar" "take_back" 0 aS) (K1:cf K mg "Clashing" wB) (JQ:cf K mg "NothingDone" (tb 13)) (JY:cf K mg "TooManyDeeds" (tb 12)) (JT:cf K mg "UnknownDay" (tb 1)) (JU:iS K (.type "ValueError") zY) (JR:mh K mg "CellarError" (mW RL)):Bd P w K mg base 2 "_law_nothing_done" 1 0 b6:=by
 refine zQ [⟨0,0,[]⟩] A eQ rfl rfl (by decide) (by decide) (by decide) λf JK A outer s H E hr=> ?_
 have hu:=bA hr
 have S:=eQ
 exact ak (ka 1 S.nd (ae)) (ak (vG 2 i7 S.nd JR (λ_ _=>ao (oX (xN 0 Ki (hr.mono (by decide))))) (λ_=>ak (ka 1 S.nd (a7 (bw JQ (B.no "isinstance" (by decide)) (aj 2)) (a7 (rf JU L2.Pu.eC (B.no "ValueError" (by decide)) (B.no "isinstance" (by decide)) (aj 2)) (a7 (bw JT (B.no "isinstance" (by decide)) (aj 2)) (ae))))) (ao (fE 1 S.nd (bB bW bX (aj 1) (PQ.bo (g_ (a7 (bw JY (B.no "isinstance" (by decide)) (aj 2)) (a7 (bw K1 (B.no "isinstance" (by decide)) (aj 2)) (ae)))))))))) (ao (oW (js (vL hu) sv (aj 1) (PQ.bo (g_ (a7 (eu) (a7 (eu) (a7 (eu) (a7 (eu) (a7 (eu) (ae))))))))))))
theorem jR:aw ["_law_cellar","_law_count"] ["_law_cellar","_law_count"] (ac iq):=⟨rfl,rfl,rfl,by decide+kernel,rfl,by decide+kernel,by decide+kernel⟩
theorem p7 (A:cO K mg "_law_empty" iq ["_law_cellar","_law_count"]) (B:Bl mg BN) (JS:b7 P w K mg base 8 "_law_same" 2 ay) (KI:aE P w K mg base 1 "Cellar" "layout" 1 bD) (KP:aE P w K mg base 1 "Cellar" "deeds" 1 cr) (JI:aE P w K mg base 1 "Cellar" "days_gone" 1 ax) (JF:bI K "Cellar" bp):b7 P w K mg base 9 "_law_empty" 2 bS:=by
 refine dU A jR rfl rfl λf JK A outer s H E hr=> ?_
 have hu:=bA hr
 have S:=jR
 exact ak (dF (wy.t (v4 (kL (fD (PQ.bo (dD JS (hr.mono (by decide)) (a7 (ba JF (by decide) (aj 0)) (a7 (aq 1) (ae))))))) (pM (kL (fD (PQ.bo (dD JS (hr.mono (by decide)) (a7 (jw KI (hr.mono (by decide)) (aq 0)) (a7 (eI (ae)) (ae)))))))))) (ao (bu (eu))) (aW)) (ao (bu (v6 (dD JS (hr.mono (by decide)) (a7 (jw KP (hr.mono (by decide)) (aq 0)) (a7 (eI (ae)) (ae)))) (v5 (dD JS (hr.mono (by decide)) (a7 (jw JI (hr.mono (by decide)) (aq 0)) (a7 (aB) (ae))))))))
theorem wa:aw ["_law_script","_law_count","_law_more","_law_beyond","_law_sizes","_law_cellar","_law_number","_law_what","_law_rises"] ["_law_script"] (ac mG):=⟨rfl,rfl,rfl,by decide+kernel,rfl,by decide+kernel,by decide+kernel⟩
theorem zZ {f:Dg} {fd:Eg} (F:rY K "law" "law" mG f fd) (B:Bl mg BN) (Kn:b7 P w K mg base 1 "_law_at" 2 bg) (JS:b7 P w K mg base 8 "_law_same" 2 ay) (Lr:b7 P w K mg base 5 "_law_made" 1 dQ) (K5:my P w K mg base 3 "Cellar" 1 aM) (Lf:b7 P w K mg base 5 "_law_no_day" 3 cC) (Kj:Bd P w K mg base 2 "_law_nothing_done" 1 0 b6) (Lk:b7 P w K mg base 9 "_law_empty" 2 bS) (Kf:eL P w K mg base 4 "Cellar" "day_passes" 2 aI) (JG:aE P w K mg base 2 "Cellar" "day" 2 av) (K8:eL P w K mg base 4 "Cellar" "stream_comes" 2 aJ) {Kg:Fn} (JX:mg "MOST_AMOUNT"=some (.int 1000 Kg)) {Kz:Fn} (Kc:mg "MOST_DAYS"=some (.int 12 Kz)) {Km:Fn} (K4:mg "MOST_DEEDS"=some (.int 60 Km)) {L0:Fn} (KQ:mg "MOST_METERS"=some (.int 10 L0)) {Ka:Fn} (JW:mg "MOST_STREAMS"=some (.int 12 Ka)) {Kl:Fn} (K3:mg "MOST_TANKS"=some (.int 7 Kl)) {L6:Fn} (Kp:mg "OUTSIDE"=some (.int 0 L6)) (NI:bI K "Day" mB):cV P w K mg base (i6 P w) 10 f fd ["_law_script"] (sh K 1 nU):=by
 refine zA F wa rfl rfl λJK A outer s H E hr=> ?_
 have hu:=bA hr
 have S:=wa
 exact ak (fE 1 S.nd (bB i3 fF (PQ.bo (dD Kn (hr.mono (by decide)) (a7 (aq 0) (a7 (aB) (ae))))) (PQ.bo (aB)))) (ak (fE 2 S.nd (bB i3 fF (PQ.bo (bB wJ vg (PQ.bo (dD Kn (hr.mono (by decide)) (a7 (aq 0) (a7 (aB) (ae))))) (PQ.bo (aB)))) (PQ.bo (bB uD sk (PQ.bo (aB)) (PQ.bo (aB)))))) (ak (dF (d8 i4 e_ (PQ.bo (bB i3 fF (PQ.bo (dD Kn (hr.mono (by decide)) (a7 (aq 0) (a7 (aB) (ae))))) (PQ.bo (aB)))) (PQ.bo (aB))) (ao (fE 2 S.nd (bB i3 fF (aj 2) (PQ.bo (aB))))) (aW)) (ak (fE 3 S.nd (ju hu (PQ.bo (g_ (a7 (bB bW bX (PQ.bo (aB)) (aj 2)) (a7 (bB qy oA (PQ.bo (AX uE sm (PQ.bo (aB)))) (aj 2)) (ae))))) (PQ.bo (bB i3 fF (PQ.bo (dD Kn (hr.mono (by decide)) (a7 (aq 0) (a7 (aB) (ae))))) (PQ.bo (aB)))))) (ak (fE 4 S.nd (eI (a7 (cA rfl Kp) (a7 (cA rfl K3) (a7 (cA rfl JW) (a7 (cA rfl KQ) (a7 (cA rfl JX) (a7 (cA rfl Kc) (a7 (cA rfl K4) (ae)))))))))) (ak (dF (wy.t (v4 (kL (fD (PQ.bo (dD JS (hr.mono (by decide)) (a7 (aq 4) (a7 (eI (a7 (aB) (a7 (aB) (a7 (aB) (a7 (aB) (a7 (aB) (a7 (aB) (a7 (aB) (ae))))))))) (ae))))))) (pM (d8 (zW hu) xW (PQ.bo (dD Lr (hr.mono (by decide)) (a7 (aq 3) (ae)))) (PQ.bo (bB bW bX (PQ.bo (g_ (a7 (eu) (a7 (eu) (ae))))) (PQ.bo (bB xv xw (PQ.bo (g_ (a7 (eu) (ae)))) (PQ.bo (aB)))))))))) (ao (bu (eu))) (aW)) (ak (xQ 5 S.nd K5 (hr.mono (by decide)) (a7 (aq 1) (ae))) (ak (v7 GR rfl (i9 (eI (a7 (aB) (a7 (aB) (a7 (AX uE sm (PQ.bo (aB))) (a7 (bB bW bX (PQ.bo (aB)) (PQ.bo (bB i3 fF (PQ.bo (dD Kn (hr.mono (by decide)) (a7 (aq 0) (a7 (aB) (ae))))) (PQ.bo (aB))))) (a7 (bB uD sk (PQ.bo (aB)) (PQ.bo (aB))) (ae)))))))) (dm 6 S.nd) (ao (v7 GR rfl (lZ (B.no "range" (by decide)) (a7 (aB) (ae))) (dm 7 S.nd) (ao (dF (oZ [5] (kL (fD (PQ.bo (dD Lf (hr.mono (by decide)) (a7 (aq 5) (a7 (aq 7) (a7 (aq 6) (ae))))))))) (ao (bu (eu))) (aW)))))) (ak (yz (zU.t (yA (vT (vS (Cr Kj (hr.mono (by decide)) (xM 5 (zR (ae)))))) (vZ (Bg (oZ [5] (kL (fD (PQ.bo (dD Lk (hr.mono (by decide)) (a7 (aq 5) (a7 (aq 1) (ae)))))))))))) (ao (bu (eu))) (aW)) (ak (zB 8 (aU.of rfl (by first|decide+kernel|rfl)) rfl S.nd (lZ (B.no "range" (by decide)) (a7 (aq 1) (ae))) (λ_ _ _=>dm 1 (show ([".0","_law_k","_law_at","_law_script"]:List Df).Nodup by decide+kernel)) (λ_ _ _=>eZ) (λ_ _ _=>bB qy oA (PQ.bo (bB i3 fF (PQ.bo (dD Kn (hr.mono (by decide)) (a7 (aq 3) (a7 (bB bW bX (PQ.bo (aB)) (aj 1)) (ae))))) (PQ.bo (aB)))) (PQ.bo (aB)))) (ak (sj [8] (yz (zU.t (yA (vT (vS (sC JS (hr.mono (by decide)) (lB (oU 5 Kf (hr.mono (by decide)) (a7 (aq 8) (a7 (g_ (ae)) (ae)))) (lB (Ct (aB)) (w8)))))) (vZ (Bg (oZ [5] (kL (fD (PQ.bo (dD JS (hr.mono (by decide)) (a7 (ba NI (by decide) (PQ.bo (du JG (hr.mono (by decide)) (aq 5) (a7 (aB) (ae))))) (a7 (ee bn d9 (B.no "tuple" (by decide)) L2.Pu.bH (aP (aj 8) (b0))) (ae)))))))))))) (ao (bu (eu))) (aW))) (ao (zT (Cu (Ct (js i4 e_ (aj 1) (PQ.bo (aB)))) (Bf (sC JS (hr.mono (by decide)) (lB (oU 5 K8 (hr.mono (by decide)) (a7 (aB) (a7 (bB bW bX (PQ.bo (aB)) (PQ.bo (bB i3 fF (PQ.bo (dD Kn (hr.mono (by decide)) (a7 (aq 0) (a7 (aB) (ae))))) (aj 1)))) (ae)))) (lB (Ct (aB)) (w8))))))))))))))))))
theorem A1 {l:Ht} {h:DB} {fa KS JL JH Ky Ls KJ X0 X1 X2 X3 X4 X5 X6 X7 X8 X9 ME MF MG MH:Dg} (X:K.In h) (G:h.Ns Dm mg) (Sw:mg "law"=some (.ref fa))
  (O5:Dq K Dm "Day"=some (some (.ref KS)))
  (LX:Dq K Dm "Standing"=some (some (.ref JL)))
  (MI:Dq K Dm "Cellar"=some (some (.ref JH)))
  (M8:Dq K Dm "CellarError"=some (some (.ref Ky)))
  (N0:Dq K Dm "Clashing"=some (some (.ref Ls)))
  (LP:Dq K Dm "TooManyMeters"=some (some (.ref KJ)))
  (N:p3 K RL [X0,X1,X2,X3,X4,X5,X6,X7,X8,X9,ME,MF,MG,MH])
  (OC:EU K KS Io=true)
  (OD:E_ K KS=true)
  (OE:Fw K KS=true)
  (OF:Ds K (.ref KS) "__setattr__"=some (some (.builtin "object.__setattr__")))
  (MJ:Ds K (.ref KS) "tanks"=some none)
  (M9:Ds K (.ref KS) "streams"=some none)
  (MK:Ds K (.ref KS) "rises"=some none)
  (LY:Ds K (.ref KS) "readings"=some none)
  (OG:Fo K KS=true)
  (OH:D_ K (.ref KS)=true)
  (ML:EU K JL Io=true)
  (MM:E_ K JL=true)
  (MN:Fw K JL=true)
  (MO:Ds K (.ref JL) "__setattr__"=some (some (.builtin "object.__setattr__")))
  (LQ:Ds K (.ref JL) "came"=some none)
  (Lu:Ds K (.ref JL) "streams"=some none)
  (LA:Ds K (.ref JL) "meters"=some none)
  (LB:Ds K (.ref JL) "passed"=some none)
  (MP:Fo K JL=true)
  (MQ:D_ K (.ref JL)=true)
  (Np:EU K JH Io=true)
  (Nq:E_ K JH=true)
  (Nr:Fw K JH=true)
  (Nt:Ds K (.ref JH) "__setattr__"=some (some (.builtin "object.__setattr__")))
  (LZ:Ds K (.ref JH) "tanks"=some none)
  (Mq:Ds K (.ref JH) "now"=some none)
  (LH:Ds K (.ref JH) "history"=some none)
  (Nu:Fo K JH=true)
  (Nv:D_ K (.ref JH)=true)
  (u1:lc K KS "__init__" "Day.__init__" gT)
  (u2:UF K "clashes_of" jI)
  (u3:UF K "setting_of" jJ)
  (u4:UF K "doubts_of" k_)
  (u5:UF K "told_of" nT)
  (u6:UF K "lacking_of" jK)
  (u7:lc K JL "__init__" "Standing.__init__" cU)
  (u8:lc K JL "with_stream" "Standing.with_stream" bZ)
  (u9:lc K JL "with_day" "Standing.with_day" cI)
  (Sx:UF K "refuse_places" eD)
  (Sy:UF K "refuse_numbers" dJ)
  (Sz:UF K "refuse_unmetered" cX)
  (SA:UF K "refuse_amounts" dL)
  (SD:lc K JH "__init__" "Cellar.__init__" dX)
  (SE:lc K JH "keep_deed" "Cellar.keep_deed" cY)
  (SF:lc K JH "stream_comes" "Cellar.stream_comes" cg)
  (SG:lc K JH "days_gone" "Cellar.days_gone" c_)
  (SH:lc K JH "day_passes" "Cellar.day_passes" cJ)
  (SI:lc K JH "take_back" "Cellar.take_back" d3)
  (SJ:lc K JH "layout" "Cellar.layout" eE)
  (SK:lc K JH "deeds" "Cellar.deeds" fj)
  (SM:lc K JH "day" "Cellar.day" gU)
  (SN:lc K JH "clashes" "Cellar.clashes" dM)
  (SO:lc K JH "setting" "Cellar.setting" dN)
  (SQ:lc K JH "doubts" "Cellar.doubts" eG)
  (SR:lc K JH "lacking" "Cellar.lacking" dO)
  (SS:lc K JH "told" "Cellar.told" fX)
  (SU:UF K "_law_at" mF)
  (SV:UF K "_law_same" gW)
  (SW:UF K "_law_put" ky)
  (SX:UF K "_law_made" jc)
  (SY:UF K "_law_no_day" gX)
  (S_:UF K "_law_nothing_done" d4)
  (T1:UF K "_law_empty" iq)
  (T2:UF K "law" mG)
  (Z:Aj K)
  (E:rm K [X0,X1,X2,X3,X4,X5,X6,X7,X8,X9,ME,MF,MG,MH])
  (L_:E9 K Ky om "ValueError.__new__"=true)
  (M0:DR K Ky (.type "BaseException")=some true)
  (MR:E9 K Ls om "ValueError.__new__"=true)
  (LI:E9 K KJ om "ValueError.__new__"=true)
  (N1:gp K (.ref X0) (·==0) 0 [X0,X1,X2,X3,X4,X5,X6,X7,X8,X9,ME,MF,MG,MH])
  (N2:gp K (.ref Ls) (λ_=>false) 0 [X0,X1,X2,X3,X4,X5,X6,X7,X8,X9,ME,MF,MG,MH])
  (Ma:gp K (.ref MH) (·==13) 0 [X0,X1,X2,X3,X4,X5,X6,X7,X8,X9,ME,MF,MG,MH])
  (Mr:gp K (.ref X9) (·==9) 0 [X0,X1,X2,X3,X4,X5,X6,X7,X8,X9,ME,MF,MG,MH])
  (Mb:gp K (.ref MF) (·==11) 0 [X0,X1,X2,X3,X4,X5,X6,X7,X8,X9,ME,MF,MG,MH])
  (M1:gp K (.ref MG) (·==12) 0 [X0,X1,X2,X3,X4,X5,X6,X7,X8,X9,ME,MF,MG,MH])
  (LR:gp K (.ref KJ) (λ_=>false) 0 [X0,X1,X2,X3,X4,X5,X6,X7,X8,X9,ME,MF,MG,MH])
  (LJ:gp K (.ref ME) (·==10) 0 [X0,X1,X2,X3,X4,X5,X6,X7,X8,X9,ME,MF,MG,MH])
  (Ms:gp K (.ref X1) (·==1) 0 [X0,X1,X2,X3,X4,X5,X6,X7,X8,X9,ME,MF,MG,MH])
  (M3:gp K (.ref X2) (·==2) 0 [X0,X1,X2,X3,X4,X5,X6,X7,X8,X9,ME,MF,MG,MH])
  (LS:gp K (.ref X5) (·==5) 0 [X0,X1,X2,X3,X4,X5,X6,X7,X8,X9,ME,MF,MG,MH])
  (Mt:gp K (.type "ValueError") (λ_=>true) 0 [X0,X1,X2,X3,X4,X5,X6,X7,X8,X9,ME,MF,MG,MH])
  (Mu:gp K (.ref X4) (·==4) 0 [X0,X1,X2,X3,X4,X5,X6,X7,X8,X9,ME,MF,MG,MH])
  (Mc:gp K (.ref Ky) (λ_=>true) 0 [X0,X1,X2,X3,X4,X5,X6,X7,X8,X9,ME,MF,MG,MH])
  {Kg:Fn}
  (Md:Dq K Dm "MOST_AMOUNT"=some (some (.int 1000 Kg)))
  {Kz:Fn}
  (MS:Dq K Dm "MOST_DAYS"=some (some (.int 12 Kz)))
  {Km:Fn}
  (Mv:Dq K Dm "MOST_DEEDS"=some (some (.int 60 Km)))
  {L0:Fn}
  (Me:Dq K Dm "MOST_METERS"=some (some (.int 10 L0)))
  {Ka:Fn}
  (M4:Dq K Dm "MOST_STREAMS"=some (some (.int 12 Ka)))
  {Kl:Fn}
  (Mw:Dq K Dm "MOST_TANKS"=some (some (.int 7 Kl)))
  {L6:Fn}
  (Nw:Dq K Dm "OUTSIDE"=some (some (.int 0 L6)))
  (z0:Dq K Dm "ValueError"=some none)
  (z1:Dq K Dm "abs"=some none)
  (z2:Dq K Dm "any"=some none)
  (z3:Dq K Dm "bool"=some none)
  (z4:Dq K Dm "int"=some none)
  (z5:Dq K Dm "isinstance"=some none)
  (z6:Dq K Dm "len"=some none)
  (z7:Dq K Dm "range"=some none)
  (z8:Dq K Dm "set"=some none)
  (z9:Dq K Dm "sorted"=some none)
  (T3:Dq K Dm "tuple"=some none)
  :∃fd:Eg,(∀(s:Dh) (v:De),HE s fd ⟨[v],[]⟩ [("_law_script",v)])/\∀base:DB,K.In base->base.Ns Dm mg->cV l.prog w K mg base (i6 l.prog w) 10 fa fd ["_law_script"] (sh K 1 nU):=by
 obtain⟨f0,Tx,Tz,T4,T5,T6,T7,T8,T9,TB,a0,l0,c0,k0⟩:=T2
 have e:=Sw.symm.trans (DN X G a0)
 cases e
 have B:Bl mg BN:=⟨λx hx=>by
  simp only[BN,DA,Gg,or_false]at hx
  rcases hx with rfl|rfl|rfl|rfl|rfl|rfl|rfl|rfl|rfl|rfl|rfl
  ·exact E8 X G z0
  ·exact E8 X G z1
  ·exact E8 X G z2
  ·exact E8 X G z3
  ·exact E8 X G z4
  ·exact E8 X G z5
  ·exact E8 X G z6
  ·exact E8 X G z7
  ·exact E8 X G z8
  ·exact E8 X G z9
  ·exact E8 X G T3⟩
 have NJ:fG K "Day" KS:=⟨O5,OC,OD,OE,OF⟩
 have NK:∀x∈mB,cb K KS x:=λx hx=>by
  simp only[mB,DA,Gg,or_false]at hx
  rcases hx with rfl|rfl|rfl|rfl
  ·exact MJ
  ·exact M9
  ·exact MK
  ·exact LY
 have NI:bI K "Day" mB:=⟨_,NJ,NK⟩
 have KU:fG K "Standing" JL:=⟨LX,ML,MM,MN,MO⟩
 have LM:∀x∈aT,cb K JL x:=λx hx=>by
  simp only[aT,DA,Gg,or_false]at hx
  rcases hx with rfl|rfl|rfl|rfl
  ·exact LQ
  ·exact Lu
  ·exact LA
  ·exact LB
 have JE:bI K "Standing" aT:=⟨_,KU,LM⟩
 have JP:fG K "Cellar" JH:=⟨MI,Np,Nq,Nr,Nt⟩
 have Mj:∀x∈bp,cb K JH x:=λx hx=>by
  simp only[bp,DA,Gg,or_false]at hx
  rcases hx with rfl|rfl|rfl
  ·exact LZ
  ·exact Mq
  ·exact LH
 have JF:bI K "Cellar" bp:=⟨_,JP,Mj⟩
 have JX:=DN X G Md
 have Kc:=DN X G MS
 have K4:=DN X G Mv
 have KQ:=DN X G Me
 have JW:=DN X G M4
 have K3:=DN X G Mw
 have Kp:=DN X G Nw
 have Lp:bC K mg "BadTanks":=bY Z X G N E _ (by decide+kernel)
 have L7:bC K mg "NotMetered":=bY Z X G N E _ (by decide+kernel)
 have KZ:bC K mg "NothingDone":=bY Z X G N E _ (by decide+kernel)
 have L8:bC K mg "OutOfRange":=bY Z X G N E _ (by decide+kernel)
 have Ks:bC K mg "ReadingMissing":=bY Z X G N E _ (by decide+kernel)
 have Li:bC K mg "SamePlace":=bY Z X G N E _ (by decide+kernel)
 have KY:bC K mg "TooManyDays":=bY Z X G N E _ (by decide+kernel)
 have KO:bC K mg "TooManyDeeds":=bY Z X G N E _ (by decide+kernel)
 have Kq:bC K mg "TooManyStreams":=bY Z X G N E _ (by decide+kernel)
 have Mp:bC K mg "Twice":=bY Z X G N E _ (by decide+kernel)
 have La:bC K mg "UnknownDay":=bY Z X G N E _ (by decide+kernel)
 have KN:bC K mg "UnknownPlace":=bY Z X G N E _ (by decide+kernel)
 have KA:bC K mg "UnknownStream":=bY Z X G N E _ (by decide+kernel)
 have L9:bC K mg "WrongRises":=bY Z X G N E _ (by decide+kernel)
 have Kw:cf K mg "BadTanks" (tb 0):=c6 Z N E (DN X G (b8 N E "BadTanks" _ rfl).1) (b8 N E "BadTanks" _ rfl).2.1 N1
 have K1:cf K mg "Clashing" wB:=c6 Z N E (DN X G N0) MR N2
 have JQ:cf K mg "NothingDone" (tb 13):=c6 Z N E (DN X G (b8 N E "NothingDone" _ rfl).1) (b8 N E "NothingDone" _ rfl).2.1 Ma
 have Kd:cf K mg "OutOfRange" (tb 9):=c6 Z N E (DN X G (b8 N E "OutOfRange" _ rfl).1) (b8 N E "OutOfRange" _ rfl).2.1 Mr
 have K6:cf K mg "TooManyDays" (tb 11):=c6 Z N E (DN X G (b8 N E "TooManyDays" _ rfl).1) (b8 N E "TooManyDays" _ rfl).2.1 Mb
 have JY:cf K mg "TooManyDeeds" (tb 12):=c6 Z N E (DN X G (b8 N E "TooManyDeeds" _ rfl).1) (b8 N E "TooManyDeeds" _ rfl).2.1 M1
 have KG:cf K mg "TooManyMeters" wB:=c6 Z N E (DN X G LP) LI LR
 have Kx:cf K mg "TooManyStreams" (tb 10):=c6 Z N E (DN X G (b8 N E "TooManyStreams" _ rfl).1) (b8 N E "TooManyStreams" _ rfl).2.1 LJ
 have JT:cf K mg "UnknownDay" (tb 1):=c6 Z N E (DN X G (b8 N E "UnknownDay" _ rfl).1) (b8 N E "UnknownDay" _ rfl).2.1 Ms
 have JZ:cf K mg "UnknownPlace" (tb 2):=c6 Z N E (DN X G (b8 N E "UnknownPlace" _ rfl).1) (b8 N E "UnknownPlace" _ rfl).2.1 M3
 have KH:cf K mg "UnknownStream" (tb 5):=c6 Z N E (DN X G (b8 N E "UnknownStream" _ rfl).1) (b8 N E "UnknownStream" _ rfl).2.1 LS
 have JU:iS K (.type "ValueError") zY:=xU Z N E Mt
 have Le:cf K mg "WrongRises" (tb 4):=c6 Z N E (DN X G (b8 N E "WrongRises" _ rfl).1) (b8 N E "WrongRises" _ rfl).2.1 Mu
 have JR:mh K mg "CellarError" (mW RL):=ue (DN X G M8) L_ M0 N Mc
 refine⟨E2 "law" "law" (bT mG) (aO mG) (ac mG) .none T4 T5 T6 T7 T8 T9,λs v=> .of_eq rfl,λbase _ _=> ?_⟩
 have Lq:fW l.prog w K mg base 1 "Day" 4 dI:=qg (u1.mk NJ (DN X G O5) OG OH NK b5) B
 have Lb:b7 l.prog w K mg base 0 "clashes_of" 1 eS:=mZ (u2.at X G b1) B
 have Lc:b7 l.prog w K mg base 0 "setting_of" 1 eU:=m_ (u3.at X G b1) B
 have Lj:b7 l.prog w K mg base 0 "doubts_of" 1 fH:=p4 (u4.at X G b1) B
 have LF:b7 l.prog w K mg base 0 "told_of" 2 iE:=rA (u5.at X G b2) B
 have Ld:b7 l.prog w K mg base 0 "lacking_of" 1 eV:=n0 (u6.at X G b1) B
 have JM:fW l.prog w K mg base 1 "Standing" 4 aL:=kB (u7.mk KU (DN X G LX) MP MQ LM b5) B
 have K0:aE l.prog w K mg base 3 "Standing" "with_stream" 3 aX:=gr (u8.at KU b3) B JM JE
 have Ke:aE l.prog w K mg base 3 "Standing" "with_day" 2 bf:=iu (u9.at KU b2) B JM JE
 have KC:b7 l.prog w K mg base 1 "refuse_places" 2 c7:=kC (Sx.at X G b2) B Kp Li KN
 have Kr:b7 l.prog w K mg base 1 "refuse_numbers" 2 bN:=jL (Sy.at X G b2) B Mp KA JE
 have Kh:b7 l.prog w K mg base 1 "refuse_unmetered" 2 bx:=iM (Sz.at X G b2) B L7 JE
 have Kb:b7 l.prog w K mg base 1 "refuse_amounts" 1 bq:=jM (SA.at X G b1) B JX L8
 have K5:my l.prog w K mg base 3 "Cellar" 1 aM:=mH (SD.mk JP (DN X G MI) Nu Nv Mj b2) B JM K3 Lp
 have JO:eL l.prog w K mg base 1 "Cellar" "keep_deed" 2 aK:=iN (SE.at JP b3) B K4 KO JF
 have K8:eL l.prog w K mg base 4 "Cellar" "stream_comes" 2 aJ:=gZ (SF.at JP b3) B KC JO K0 JW Kq JF JE
 have JI:aE l.prog w K mg base 1 "Cellar" "days_gone" 1 ax:=iO (SG.at JP b1) B JF JE
 have Kf:eL l.prog w K mg base 4 "Cellar" "day_passes" 2 aI:=ix (SH.at JP b3) B Kr Kh Kb Lq JO Ke JI Kc Ks KY L9 JF JE
 have Ki:eL l.prog w K mg base 1 "Cellar" "take_back" 0 aS:=iP (SI.at JP b1) B KZ JF
 have KI:aE l.prog w K mg base 1 "Cellar" "layout" 1 bD:=kD (SJ.at JP b1) B JF JE
 have KP:aE l.prog w K mg base 1 "Cellar" "deeds" 1 cr:=lj (SK.at JP b1) B JF
 have JG:aE l.prog w K mg base 2 "Cellar" "day" 2 av:=n4 (SM.at JP b2) B JI La JF JE
 have Kt:aE l.prog w K mg base 3 "Cellar" "clashes" 2 bO:=jN (SN.at JP b2) B Lb JG
 have Ku:aE l.prog w K mg base 3 "Cellar" "setting" 2 bP:=jO (SO.at JP b2) B Lc JG
 have KD:aE l.prog w K mg base 3 "Cellar" "doubts" 2 c8:=kE (SQ.at JP b2) B Lj JG
 have Kv:aE l.prog w K mg base 3 "Cellar" "lacking" 2 bQ:=jP (SR.at JP b2) B Ld JG
 have K_:aE l.prog w K mg base 3 "Cellar" "told" 3 cQ:=mI (SS.at JP b3) B LF JG
 have Kn:b7 l.prog w K mg base 1 "_law_at" 2 bg:=uf (SU.at X G b2) B
 have JS:b7 l.prog w K mg base 8 "_law_same" 2 ay:=qh (SV.at X G b2) B
 have LG:b7 l.prog w K mg base 4 "_law_put" 4 dP:=rB (SW.at X G b4) B JG Kt Ku K_ KD Kv
 have Lr:b7 l.prog w K mg base 5 "_law_made" 1 dQ:=qi (SX.at X G b1) B K5 Kw K1 JQ Kd K6 JY KG Kx JT JZ JU Le JR
 have Lf:b7 l.prog w K mg base 5 "_law_no_day" 3 cC:=n5 (SY.at X G b3) B LG Kw K1 JQ Kd K6 JT JZ KH JU JR
 have Kj:Bd l.prog w K mg base 2 "_law_nothing_done" 1 0 b6:=iQ (S_.at X G b1) B Ki K1 JQ JY JT JU JR
 have Lk:b7 l.prog w K mg base 9 "_law_empty" 2 bS:=p7 (T1.at X G b2) B JS KI KP JI JF
 exact zZ (iZ (st:=mG) l0 c0 k0) B Kn JS Lr K5 Lf Kj Lk Kf JG K8 JX Kc K4 KQ JW K3 Kp NI
end
theorem walk {l:Ht} {q:Dv} {Mh:List Df} {XP:(Df->Option De)->DB->Prop} {YP:DE->DB->Prop} {d:DefRec} {K:Params->Dd} (hn:l.most=some 63) (OY:d.params.defaults=[])
  (hY:∀(w:DE) (h:DB),YP w h->(K w.params).In h) (main:∀ns:List Int,ns.length<=63->nU [.scr ns]= .ok (.bl true))
  (F:∀(w:DE) (mg:Df->Option De) (fa:Dg) (h:DB),(K w.params).In h->h.Ns Dm mg->mg d.name=some (.ref fa)->
   ∃fd:Eg,(∀(s:Dh) (u:De),HE s fd ⟨[u],[]⟩ [("_law_script",u)])/\∀base:DB,(K w.params).In base->base.Ns Dm mg->cV l.prog w (K w.params) mg base (i6 l.prog w) 10 fa fd ["_law_script"] (sh (K w.params) 1 nU)):
  Jr q Mh XP YP l.row.toRowW d [] (λf vs=>Jf f vs):=
 L2.xb (n:=63) (k:=10) (x:="_law_script") (CX:=λw=>i6 l.prog w) (sp:=λw=>sh (K w.params) 1 nU) hn (by decide) OY ⟨rfl,by decide,by decide⟩ hY F (λ_ _ a ns hl _ hS=>zF (main ns hl) hS) λ_ _ _ _ _ z=>L2.Pu.zN z
end My
namespace My
open PySem PySem.Spec PyProof.Rows L2 L2.Pu
local macro_rules|`(tactic|simp! [$xs,*])=>`(tactic|simp only[aC,dn,gN,gF,bJ,aY,oq,ou,kM,mU,Cn,frz,frz1,HP,eB,f2,f1,fY,gj,eA,fL,aD,lX,xq,si,CZ,fT,cM,Ch,qu,dC,a8,ag,ap,al,fC,Cq,ah,dk,Ey,Ez,List.set_cons_zero,List.set_cons_succ,vy,vz,vA,DC,Fv,Hj,Ju,if_true,if_false,E7,H_,Jp,lY,decide_true,decide_false,m6,oJ,kP,vq,kO,B2,m7,pT,zG,B3,m8,j5,xz,xA,vt,vv,vr,pU,Hs,Ft,Ew,$xs,*])
def cel (ns:List Int) (k:Nat):Int:=ns.getD k 0
theorem sD (ns:List Int) (k:Nat):bg [.scr ns, .int (k:Int)]= .ok (.int (cel ns k)):=by
 unfold bg aQ
 simp only[bK,qf,aC,gF,bJ,aY,f2,fY,al,fC,fT,a8,ag,zH,kO,B4,DC,Fv,if_true,DD,Fd,DU,Nat.sub_self,Ed,Ey,Ez,Slot.data,ah,dk]
 by_cases h:k<ns.length
 ·have h':(k:Int)<(ns.length:Int):=by omega
  simp only[h',decide_true,if_true,j6 h,Ft,dk,ah]
  simp[cel,h]
 ·have h':¬(k:Int)<(ns.length:Int):=by omega
  simp only[h',decide_false,if_false,E7,ah]
  simp[cel,Hf h]
inductive Wf:Nat->D->Prop
 |int (n:Nat) (i:Int):Wf n (.int i)
 |tup {n:Nat} {ds:List D}:ds.length<=1000->(∀d∈ds,Wf n d)->Wf (n+1) (.tup ds)
theorem Wf.up {n:Nat} {d:D} (h:Wf n d):∀k,Wf (n+k) d:=by
 induction h with
 |int n i=>exact λk=> .int _ i
 | @tup n ds h1 h2 ih=>exact λk=>by rw[Nat.add_right_comm];exact .tup h1 λd hd=>ih d hd k
theorem ug {Mn:List D->R D} {ds:List D} (h:∀d∈ds,Mn [d,d]= .ok (.bl true)) {k:Nat} (hk:k<ds.length):
  fI Mn [some (.val (.tup ds)),some (.val (.tup ds)),some (.val (.int (k:Int)))]= .ok (.nx [some (.val (.tup ds)),some (.val (.tup ds)),some (.val (.int (k:Int)))]):=by
 have hr:=h ds[k] (IZ hk)
 simp only[fI,gF,dC,cM,aD,a8,ag,f2,al,bJ,aY,fC,ah,dk,Ey,Ez,Slot.data,pU,j6 hk,DC,Fv,if_true,hr,lY,H_,E7,if_false]
theorem nW {Mn:List D->R D} {ds:List D} (h:∀d∈ds,Mn [d,d]= .ok (.bl true)):∀(ks:List Nat) (x:Option Slot),(∀k∈ks,k<ds.length)->
  ∃y,eY (gN 2) (fI Mn) (ks.map λk:Nat=>D.int (k:Int)) [some (.val (.tup ds)),some (.val (.tup ds)),x]= .ok (.nx [some (.val (.tup ds)),some (.val (.tup ds)),y])
 |[],x,_=>⟨x,rfl⟩
 |k::ks,x,hk=>by
  obtain⟨y,e⟩:=nW h ks (some (.val (.int (k:Int)))) λj hj=>hk j (Dw _ hj)
  exact⟨y,by rw[DD,oM rfl (ug h (hk k Dt)),e]⟩
theorem wc (n:Nat) (i:Int):cu (n+1) [.int i, .int i]= .ok (.bl true):=by
 refine cS rfl ?_
 show fq (cu n) [some (.val (.int i)),some (.val (.int i)),none]=_
 simp only[fq,aC,gF,bJ,aY,cM,rb,al,lX,si,f2,ah,dk,Ey,Ez,Slot.data,zJ,zK,zL,lY,E7,if_false,Jp,kP,decide_true]
theorem uh {n:Nat} {d:D} (h:Wf n d):cu (n+1) [d,d]= .ok (.bl true):=by
 induction h with
 |int n i=>exact wc n i
 | @tup n ds h1 h2 ih=>
  obtain⟨y,e⟩:=nW ih (Eb ds.length) none λk hk=>Ex.mp hk
  refine cS rfl ?_
  show fq (cu (n+1)) [some (.val (.tup ds)),some (.val (.tup ds)),none]=_
  simp only[fq,aC,gF,bJ,aY,qu,dC,fT,cM,rb,al,fC,f2,fY,a8,ag,ah,dk,Ey,Ez,Slot.data,zI,lY,if_true,H_,E7,if_false,j5,vq,decide_true,ou]
  rw[kg (n:=ds.length) (by simp only[a8,ag,fY,al,ah,dk,Ey,Ez,Slot.data,j5]) (by unfold lim;omega),ah,e]
  simp only[ah]
theorem qj {n:Nat} (hn:n<=7) {d:D} (h:Wf n d):ay [d,d]= .ok (.bl true):=by
 have:=uh (h.up (7 - n))
 rw[show n+(7 - n)+1=8 by omega]at this
 exact this
theorem iF (i:Int):ay [.int i, .int i]= .ok (.bl true):=qj (Ew _) (.int 0 i)
theorem xY (ns:List Int) (h:ns.length<=1000):Wf 1 (.tup (ns.map .int)):= .tup (by simpa using h) λd hd=>by obtain⟨i,_,rfl⟩:=G4.mp hd;exact .int 0 i
theorem kG (ns:List Int) (h:ns.length<=1000):ay [.tup (ns.map .int), .tup (ns.map .int)]= .ok (.bl true):=qj (by omega) (xY ns h)
abbrev Bi:=Int×Int×Int
def jS (r:Bi):D:= .tup [.int r.1, .int r.2.1, .int r.2.2]
def je (n:Int) (now:D):List (Df×D):=[("tanks", .int n),("now",now)]
def aN (n:Int) (now:D) (hs:List D):Slot:= .cel "Cellar" (je n now) "history" hs
theorem wd (n:Int) (now:D):(je n now).lookup ("tanks":Df)=some (D.int n):=rfl
theorem p8 (n:Int) (now:D):(je n now).lookup ("now":Df)=some now:=rfl
theorem xZ (n:Int) (now d:D):vO "now" d (je n now)=je n d:=rfl
theorem dA {cls g:Df} {f:a9->R D} {ρ:a9} {fds:List (Df×D)} {d:D} (h:f ρ= .ok (.ins cls fds)) (h2:fds.lookup g=some d):c3 cls g f ρ= .ok d:=by
 unfold c3
 rw[h,ah]
 dsimp only
 rw[if_pos rfl,h2,dk]
theorem lC {i:Nat} {g:Df} {ρ:a9} {n:Int} {now d:D} {hs:List D} (h:ρ[i]? =some (some (aN n now hs))) (h2:(je n now).lookup g=some d):cq i "Cellar" g ρ= .ok d:=by
 unfold cq
 rw[h]
 show (if ("Cellar":Df)="Cellar" then R.of ((je n now).lookup g)else .bad)=_
 rw[if_pos rfl,h2,dk]
theorem p9 {i:Nat} {ρ:a9} {n:Int} {now:D} {hs:List D} (h:ρ[i]? =some (some (aN n now hs))):kX i "Cellar" "history" ρ= .ok (.lst hs):=by
 unfold kX
 rw[h]
 exact if_pos ⟨rfl,rfl⟩
theorem cE {g g':a9->R aR} {ρ ρ':a9} {x:Df} (h:g ρ= .err x ρ'):aC g g' ρ= .err x ρ':=by
 unfold aC
 rw[h];rfl
theorem ll {gc:a9->R Bool} {g g':a9->R aR} {ρ:a9} (h:gc ρ= .ok true):gF gc g g' ρ=g ρ:=by unfold gF;rw[h,ah];rfl
theorem eW {gc:a9->R Bool} {g g':a9->R aR} {ρ:a9} (h:gc ρ= .ok false):gF gc g g' ρ=g' ρ:=by unfold gF;rw[h,ah];rfl
theorem db {f:a9->R D} {ρ:a9} {b:Bool} (h:f ρ= .ok (.bl b)):fT f ρ= .ok b:=by unfold fT;rw[h,ah]
theorem jf {f:a9->R D} {ρ:a9} {b:Bool} (h:f ρ= .ok (.bl b)):cM f ρ= .ok b:=by unfold cM;rw[h,ah];rfl
theorem gA {x:Df} {s:Df} {ρ:a9}:bv x (a8 (fC (.str s)) ag) ρ= .err x ρ:=by
 unfold bv a8 fC ag
 simp only[ah]
 exact if_pos (show 1<=lim by decide)
theorem fu {fs:a9->R (List D)} {ρ:a9} {ds:List D} (h:fs ρ= .ok ds) (hl:ds.length<=lim):eA fs ρ= .ok (.tup ds):=by unfold eA;rw[h,ah,if_pos hl]
theorem x_ {f:a9->R D} {ρ:a9} {d:D} (h:f ρ= .ok d):eK f ρ= .ok (.nx ρ):=by unfold eK;rw[h,ah]
theorem mK {f:a9->R D} {ρ ρ':a9} {x:Df} (h:f ρ= .err x ρ'):eK f ρ= .err x ρ':=by unfold eK;rw[h];rfl
theorem mL {m:List D->R D} {n:Nat} {fs:a9->R (List D)} {ρ ρ':a9} {ds:List D} {x:Df} (h:fs ρ= .ok ds) (hl:ds.length=n) (hm:m ds= .err x ρ'):aD m n fs ρ= .err x ρ:=by
 unfold aD
 rw[h,ah,if_pos hl,hm]
theorem eX {cls m:Df} {n:Nat} {r:List D->R D} {fo:a9->R D} {fs:a9->R (List D)} {ρ:a9} {fds:List (Df×D)} {ds:List D} {z:D} (h1:fo ρ= .ok (.ins cls fds)) (h2:fs ρ= .ok ds) (hl:ds.length+1=n) (e:r (.ins cls fds::ds)= .ok z) (hm:fds.lookup m=none):b9 cls m n r fo fs ρ= .ok z:=by
 unfold b9
 rw[h1,ah]
 dsimp only
 rw[if_pos ⟨rfl,hm⟩,h2,ah,if_pos hl,e]
theorem we {i:Nat} {mf:List Slot->List D->R (D×List Slot)} {k:Nat} {fs:a9->R (List D)} {ρ:a9} {ds:List D} {n n':Int} {now OI d:D} {hs Ko:List D} (h:ρ[i]? =some (some (aN n now hs))) (h2:fs ρ= .ok ds) (hl:ds.length=k) (e:mf [aN n now hs] ds= .ok (d,[aN n' OI Ko])):
  eR [i] mf k fs ρ= .ok (d,ρ.set i (some (aN n' OI Ko))):=by
 unfold eR
 have QQ:ck ρ [i]=some [aN n now hs]:=by unfold ck ck;rw[h];rfl
 rw[QQ]
 dsimp only
 rw[if_pos ⟨rfl,by simp⟩,h2,ah,if_pos hl,e]
 dsimp only
 rw[if_pos (show J5 Slot.kind [aN n' OI Ko]=J5 Slot.kind [aN n now hs]from rfl)]
 rfl
theorem sE {i:Nat} {mf:List Slot->List D->R (D×List Slot)} {k:Nat} {fs:a9->R (List D)} {ρ ρe:a9} {ds:List D} {n:Int} {now:D} {hs:List D} {x:Df} (h:ρ[i]? =some (some (aN n now hs))) (h2:fs ρ= .ok ds) (hl:ds.length=k) (e:mf [aN n now hs] ds= .err x ρe) (ht:c5 1 ρe=some [aN n now hs]) (hi:ρ.set i (some (aN n now hs))=ρ):
  eR [i] mf k fs ρ= .err x ρ:=by
 unfold eR
 have Ko:ck ρ [i]=some [aN n now hs]:=by unfold ck ck;rw[h];rfl
 rw[Ko]
 dsimp only
 rw[if_pos ⟨rfl,by simp⟩,h2,ah,if_pos hl,e]
 dsimp only
 rw[show c5 [i].length ρe=some [aN n now hs]from ht]
 dsimp only
 rw[if_pos rfl]
 show R.err x (ρ.set i (some (aN n now hs)))=_
 rw[hi]
theorem pb {i:Nat} {m:Df} {fx:a9->R (D×a9)} {ρ:a9} {n:Int} {now:D} {hs:List D} (h:ρ[i]? =some (some (aN n now hs))) (h1:m≠"history":=by decide) (h2:(je n now).lookup m=none:=by rfl):hX i "Cellar" m fx ρ=fx ρ:=by
 unfold hX
 rw[h]
 exact if_pos ⟨rfl,h1,h2⟩
theorem wg {fx:a9->R (D×a9)} {ρ ρ':a9} {d:D} (h:fx ρ= .ok (d,ρ')):fc fx ρ= .ok (.nx ρ'):=by unfold fc;rw[h,ah]
theorem nX {fx:a9->R (D×a9)} {ρ ρ':a9} {x:Df} (h:fx ρ= .err x ρ'):fc fx ρ= .err x ρ':=by unfold fc;rw[h];rfl
theorem nY {nm k n:Nat} {g:a9->R aR} {ss ss':List Slot} {ds:List D} {d:D} {ρ:a9} (h:ss.length=nm/\ds.length=k) (e:g (dv n ss ds)= .ok (.retc d ρ)) (ht:c5 nm ρ=some ss'):iJ nm k n g ss ds= .ok (d,ss'):=by
 unfold iJ
 rw[if_pos h,e]
 dsimp only
 rw[ht]
theorem y0 {nm k n:Nat} {g:a9->R aR} {ss ss':List Slot} {ds:List D} {ρ:a9} (h:ss.length=nm/\ds.length=k) (e:g (dv n ss ds)= .ok (.nx ρ)) (ht:c5 nm ρ=some ss'):iJ nm k n g ss ds= .ok (.non,ss'):=by
 unfold iJ
 rw[if_pos h,e]
 dsimp only
 rw[ht]
theorem mM {nm k n:Nat} {g:a9->R aR} {ss:List Slot} {ds:List D} {x:Df} {ρ:a9} (h:ss.length=nm/\ds.length=k) (e:g (dv n ss ds)= .err x ρ):iJ nm k n g ss ds= .err x ρ:=by
 unfold iJ
 rw[if_pos h,e]
theorem eo {k n:Nat} {g:a9->R aR} {ds:List D} {x:Df} {ρ:a9} (h:ds.length=k) (e:g (bK n ds)= .err x ρ):aQ k n g ds= .err x ρ:=by
 unfold aQ
 rw[if_pos h,e];rfl
theorem y2 {f:a9->R D} {ρ:a9} {d:D} (h:f ρ= .ok d):kY f ρ= .ok (.retc d ρ):=by unfold kY;rw[h,ah]
theorem sG {α:Type} {gt:a9->R Bool} {fe:a9->R D} {enc out:α->D} {p:α->Bool} {a0:Option Slot} {rest:a9}:∀(xs:List α) (v:Option Slot),(∀x∈xs,gt (a0::some (.val (enc x))::rest)= .ok (p x))->(∀x∈xs,p x=true->fe (a0::some (.val (enc x))::rest)= .ok (out x))->
  ib (gN 1) gt fe (xs.map enc) (a0::v::rest)= .ok ((xs.filter p).map out)
 |[],v,h1,h2=>rfl
 |x::xs,v,h1,h2=>by
  have e1:=h1 x Dt
  have ih:=sG (gt:=gt) (fe:=fe) (enc:=enc) (out:=out) (p:=p) (a0:=a0) (rest:=rest) xs (some (.val (enc x))) (λy hy=>h1 y (Dw _ hy)) (λy hy=>h2 y (Dw _ hy))
  rw[DD,ib]
  show (gt (a0::some (.val (enc x))::rest)>>=λb=>if b=true then (fe (a0::some (.val (enc x))::rest)>>=λy=>ib (gN 1) gt fe (xs.map enc) (a0::some (.val (enc x))::rest)>>=λys=> .ok (y::ys))else ib (gN 1) gt fe (xs.map enc) (a0::some (.val (enc x))::rest))=_
  rw[e1,ah,ih]
  cases q:p x with
  |true=>rw[if_pos rfl,h2 x Dt q,ah,ah,J6,if_pos q];rfl
  |false=>rw[if_neg (by simp),J6,if_neg (by rw[q];simp)]
theorem jg {α:Type} (xs:List α):xs.filter (λ_=>true)=xs:=by simp
theorem Cv {x:D} {r:List D}:jh (.tup (x::r)) (.int 0)=some x:=by
 rw[pU]
 have:=j6 (xs:=x::r) (k:=0) (by simp)
 simpa using this
theorem CO {x y:D} {r:List D}:jh (.tup (x::y::r)) (.int 1)=some y:=by
 rw[pU]
 have:=j6 (xs:=x::y::r) (k:=1) (by simp)
 simpa using this
theorem D9 {x:D} {r:List D}:jh (.lst (x::r)) (.int 0)=some x:=by
 rw[vr]
 have:=j6 (xs:=x::r) (k:=0) (by simp)
 simpa using this
theorem Dc {x y:D} {r:List D}:jh (.lst (x::y::r)) (.int 1)=some y:=by
 rw[vr]
 have:=j6 (xs:=x::y::r) (k:=1) (by simp)
 simpa using this
theorem sH {r:Bi}:jh (jS r) (.int 0)=some (.int r.1):=Cv
abbrev Rd:=Int×Int
def wj (r:Rd):D:= .tup [.int r.1, .int r.2]
structure A2 where
 ss:List Bi
 ri:List Int
 rd:List Rd
structure Mo where
 c:Int
 ss:List Bi
 ms:List Int
 mm:List Int
 ds:List A2
 dd:List D
def y3 (n:Int) (d:A2):List (Df×D):=[("tanks", .int n),("streams", .tup (d.ss.map jS)),("rises", .tup (d.ri.map .int)),("readings", .tup (d.rd.map wj))]
def pc (n:Int) (d:A2):D:= .ins "Day" (y3 n d)
def rC (n:Int) (m:Mo):List (Df×D):=[("came", .int m.c),("streams", .tup (m.ss.map jS)),("meters", .tup (m.ms.map .int)),("passed", .tup (m.ds.map (pc n)))]
def bF (n:Int) (m:Mo):D:= .ins "Standing" (rC n m)
abbrev Mo.nu (m:Mo):List Int:=m.ss.map (·.1)
theorem pd (n:Int) (m:Mo):(rC n m).lookup ("came":Df)=some (D.int m.c):=rfl
theorem dR (n:Int) (m:Mo):(rC n m).lookup ("streams":Df)=some (D.tup (m.ss.map jS)):=rfl
theorem gB (n:Int) (m:Mo):(rC n m).lookup ("meters":Df)=some (D.tup (m.ms.map .int)):=rfl
theorem gC (n:Int) (m:Mo):(rC n m).lookup ("passed":Df)=some (D.tup (m.ds.map (pc n))):=rfl
def Mo.comes (m:Mo) (a b:Int):Mo:={m with c:=m.c+1,ss:=m.ss++[(m.c+1,a,b)],dd:=m.dd++[.tup [.str "stream comes", .int a, .int b]]}
def ui (rd:List Rd):List Rd:=rd.mergeSort λa b=>decide (a.1<=b.1)
def Mo.passes (m:Mo) (ri:List Int) (rd:List Rd):Mo:={m with ds:=m.ds++[⟨m.ss,ri,ui rd⟩],dd:=m.dd++[.tup [.str "day passes", .tup (ri.map .int), .tup (rd.map wj)]]}
structure Mo.Ok (m:Mo):Prop where
 inc:m.ss.Pairwise λa b=>a.1<b.1
 le:∀r∈m.ss,r.1<=m.c
 len:m.ss.length<=12
 per:m.mm.Perm m.ms
 nd:m.ms.Nodup
 sub:∀x∈m.ms,x∈m.nu
 ten:m.ms.length<=10
 dl:m.ds.length<=12
theorem mO (rd:List Rd):rd.Perm (ui rd):=(List.mergeSort_perm rd _).symm
theorem y6 {rd:List Rd} (h:(rd.map (·.1)).Nodup):(ui rd).Pairwise λa b=>a.1<b.1:=by
 have h1:(ui rd).Pairwise λa b=>decide (a.1<=b.1)=true:=List.pairwise_mergeSort (λa b c h1 h2=>by simp only[decide_eq_true_eq]at*;omega) (λa b=>by simp only[Ji,decide_eq_true_eq];omega) rd
 have h2:((ui rd).map (·.1)).Nodup:=((mO rd).map (·.1)).nodup_iff.mp h
 rw[List.Nodup,F9]at h2
 refine(h1.and h2).imp λ{a b} h=> ?_
 have:=of_decide_eq_true h.1
 have:=h.2
 omega
theorem sI {fs:a9->R (List D)} {ρ:a9} {a b c d:D} (h:fs ρ= .ok [a,b,c,d]):kQ "Standing" 4 aL fs ρ= .ok (.ins "Standing" [("came",a),("streams",b),("meters",c),("passed",d)]):=by
 unfold kQ
 rw[h,ah,if_pos (show [a,b,c,d].length=4 from rfl),show aL [a,b,c,d]= .ok [("came",a),("streams",b),("meters",c),("passed",d)]from rfl]
theorem rD {a b:List D} (h:a.length+b.length<=1000):fS (.tup a) (.tup b)=some (.tup (a++b)):=if_pos (by unfold lim;omega)
section
variable {n:Int} {m:Mo} {hs:List D}
theorem y7 {x:List (Option Slot)} {g:Df} {d:D} (h:(rC n m).lookup g=some d):c3 "Standing" g (al 0) (some (.val (bF n m))::x)= .ok d:=dA rfl h
theorem kH (g:m.Ok) (a b:Int):aX [bF n m, .int a, .int b]= .ok (bF n (m.comes a b)):=by
 refine cS rfl ?_
 show b_ [some (.val (bF n m)),some (.val (.int a)),some (.val (.int b)),none]=_
 unfold b_
 rw[aH (ρ':=[some (.val (bF n m)),some (.val (.int a)),some (.val (.int b)),some (.val (.int (m.c+1)))]) (ii (aG (y7 (pd n m)) rfl rfl) rfl)]
 refine j7 ((sI (af rfl (af (aG (y7 (dR n m)) (fu (ds:=[jS (m.c+1,a,b)]) (af (fu (ds:=[.int (m.c+1), .int a, .int b]) rfl (show 3<=lim by decide)) rfl) (show 1<=lim by decide)) (rD (by have:=g.len;simp;omega))) (af (y7 (gB n m)) (af (y7 (gC n m)) rfl))))).trans ?_)
 simp only[bF,rC,Mo.comes,Fu,DD,Fd,jS]
theorem A3 {x:List (Option Slot)} {g:Df} {l:List D} (h:(rC n m).lookup g=some (.tup l)):eB (c3 "Standing" g (al 0)) (some (.val (bF n m))::x)= .ok l:=by
 unfold eB
 rw[y7 h,ah]
def fw (d:D) (row:List Int):Prop:=d= .lst (row.map .int)\/d= .tup (row.map .int)
theorem fw.seq {d:D} {row:List Int} (h:fw d row) {ρ:a9} {f:a9->R D} (e:f ρ= .ok d):eB f ρ= .ok (row.map .int):=by
 unfold eB
 rw[e]
 rcases h with rfl|rfl<;>rfl
theorem fw.len {d:D} {row:List Int} (h:fw d row):hW [d]=some (.int (row.length:Int)):=by
 rcases h with rfl|rfl
 ·rw[m8,Dl]
 ·rw[j5,Dl]
theorem fw.set {d:D} {row:List Int} (h:fw d row) (hl:row.length<4000) {ρ:a9} {f:a9->R D} (e:f ρ= .ok d):lA f ρ= .ok (.int (L2.di row)):=by
 unfold lA
 rw[e]
 rcases h with rfl|rfl<;>simp only[ah,r8,hl,if_true]
theorem fw.out {d:D} {row:List Int} (h:fw d row) (k:Int):la true (.int k) d=some (.bl (!decide (k∈row))):=by
 rcases h with rfl|rfl
 ·exact m9
 ·exact pV
theorem fw.tup {d:D} {row:List Int} (h:fw d row):cG [d]=some (.tup (row.map .int)):=by rcases h with rfl|rfl<;>rfl
theorem n6 (g:m.Ok) (ri:List Int) (rd:List Rd):bf [bF n m,pc n ⟨m.ss,ri,ui rd⟩]= .ok (bF n (m.passes ri rd)):=by
 refine cS rfl (j7 ((sI (af (y7 (x:=[some (.val (pc n ⟨m.ss,ri,ui rd⟩))]) (pd n m)) (af (y7 (dR n m)) (af (y7 (gB n m)) (af (aG (y7 (gC n m)) (fu (ds:=[pc n ⟨m.ss,ri,ui rd⟩]) (af rfl rfl) (show 1<=lim by decide)) (rD (by have:=g.dl;simp;omega))) rfl))))).trans ?_))
 simp only[bF,rC,Mo.passes,Fu,DD,Fd]
end
theorem pe:∀(ns KR:List Int),KR.Nodup->(ns.foldl G7 KR).length<=KR.length+ns.length/\((ns.foldl G7 KR).length=KR.length+ns.length<->(KR++ns).Nodup)
 |[],KR,h=>⟨by simp,by simpa using h⟩
 |k::ns,KR,h=>by
  rw[Je]
  unfold G7
  by_cases hk:k∈KR
  ·have e:KR.any (·==k)=true:=FL.mpr ⟨k,hk,by simp⟩
   rw[if_pos e]
   obtain⟨h1,_⟩:=pe ns KR h
   refine⟨by rw[DC];exact GP h1,λz=> ?_,λz=> ?_⟩
   ·rw[DC]at z
    have:=h1
    unfold G7 at this
    omega
   ·exact absurd rfl ((GQ.mp z).2.2 k hk k Dt)
  ·have e:¬KR.any (·==k)=true:=λz=>by
    obtain⟨x,hx,Ta⟩:=FL.mp z
    have:x=k:=by simpa using Ta
    exact hk (this▸hx)
   rw[if_neg e]
   have hn:(KR++[k]).Nodup:=GQ.mpr ⟨h,by simp,λa ha b hb=>by
    have:b=k:=by simpa using hb
    subst this
    intro z
    exact hk (z▸ha)⟩
   obtain⟨h1,h2⟩:=pe ns (KR++[k]) hn
   rw[E5,HG]at h1 h2
   rw[Ga]at h2
   rw[DC]
   unfold G7 at h1 h2
   refine⟨by omega,?_⟩
   rw[show KR.length+(ns.length+1)=KR.length+1+ns.length by omega]
   exact h2
theorem rE (ns:List Int):(Eb ns.length).map (λi=>ns.getD i 0)=ns:=by
 apply J4
 ·simp
 ·intro i h1 h2
  simp[h2]
theorem qk (ns:List Int):decide ((L2.di ns:Int)<(ns.length:Int))= !decide ns.Nodup:=by
 have e:L2.di ns=(ns.foldl G7 []).length:=by
  unfold L2.di I_
  rw[rE]
 obtain⟨h1,h2⟩:=pe ns [] Jo
 rw[Fv,Hj]at h1 h2
 rw[Hs]at h2
 rw[e]
 by_cases h:ns.Nodup
 ·have:=h2.mpr h
  simp[h,this]
 ·have:(ns.foldl G7 []).length≠ns.length:=λz=>h (h2.mp z)
  simp[h]
  omega
def n8 (a b:Df):Df:=if a="" then b else a
def pf (b:Bool) (w:Df):Df:=if b=true then w else ""
def A4 (r:R D) (w:Df):Prop:=(w≠""->∃ρ,r= .err w ρ)/\(w=""->r= .ok .non)
def nZ (g:a9->R aR) (ρ:a9) (w:Df) (r:R aR):Prop:=(w≠""->∃ρe,g ρ= .err w ρe/\c5 1 ρe=c5 1 ρ)/\(w=""->g ρ=r)
def wk (r:R (D×List Slot)) (s:Slot) (w:Df) (a:D) (s':Slot):Prop:=(w≠""->∃ρ,r= .err w ρ/\c5 1 ρ=some [s])/\(w=""->r= .ok (a,[s']))
theorem jT {m:List D->R D} {k:Nat} {fs:a9->R (List D)} {ρ:a9} {ds:List D} {g':a9->R aR} {w w':Df} {r:R aR} (h:fs ρ= .ok ds) (hl:ds.length=k) (hr:A4 (m ds) w) (h2:nZ g' ρ w' r):nZ (aC (eK (aD m k fs)) g') ρ (n8 w w') r:=by
 by_cases e:w=""
 ·have:aC (eK (aD m k fs)) g' ρ=g' ρ:=aH (x_ (cT h hl (hr.2 e)))
  unfold n8 nZ
  rw[if_pos e,this];exact h2
 ·unfold n8
  rw[if_neg e]
  obtain⟨ρe,e1⟩:=hr.1 e
  exact⟨λ_=>⟨ρ,cE (mK (mL h hl e1)),rfl⟩,λz=>absurd z e⟩
theorem kI {t:a9->R Bool} {ρ:a9} {b:Bool} {x s w':Df} {g':a9->R aR} {r:R aR} (h:t ρ= .ok b) (h2:nZ g' ρ w' r) (hx:x≠"":=by decide):nZ (aC (gF t (bv x (a8 (fC (.str s)) ag)) aY) g') ρ (n8 (pf b x) w') r:=by
 cases b with
 |true=>
  have:n8 (pf true x) w'=x:=by unfold n8 pf;rw[if_pos rfl,if_neg hx]
  rw[this]
  exact⟨λ_=>⟨ρ,cE (by rw[ll h];exact gA),rfl⟩,λz=>absurd z hx⟩
 |false=>
  have:n8 (pf false x) w'=w':=rfl
  have e:aC (gF t (bv x (a8 (fC (.str s)) ag)) aY) g' ρ=g' ρ:=aH (by rw[eW h];rfl)
  unfold nZ
  rw[this,e];exact h2
theorem rF {g g':a9->R aR} {ρ ρ':a9} {w:Df} {r:R aR} (h:g ρ= .ok (.nx ρ')) (ht:c5 1 ρ'=c5 1 ρ) (h2:nZ g' ρ' w r):nZ (aC g g') ρ w r:=by
 unfold nZ
 rw[aH h,<-ht];exact h2
theorem sJ {g:a9->R aR} {ρ ρ':a9} {w:Df} {f:a9->R D} {d:D} (h:nZ g ρ w (.ok (.nx ρ'))) (hf:f ρ'= .ok d):nZ (aC g (kY f)) ρ w (.ok (.retc d ρ')):=
 ⟨λz=>by obtain⟨ρe,e,t⟩:=h.1 z;exact⟨ρe,cE e,t⟩,λz=>by rw[aH (h.2 z)];exact y2 hf⟩
theorem sK {g g':a9->R aR} {ρ ρ':a9} {w:Df} {r:R aR} {L:List Nat} (hf:frz L ρ=ρ') (ht:c5 1 ρ'=c5 1 ρ) (h:nZ (aC g g') ρ' w r):nZ (aC (oq L g) g') ρ w r:=by
 have:aC (oq L g) g' ρ=aC g g' ρ':=by unfold aC oq;rw[hf]
 unfold nZ
 rw[this,<-ht];exact h
theorem n_ {g:a9->R aR} {k n:Nat} {s s':Slot} {ds:List D} {w:Df} {ρ':a9} {d:D} (hl:ds.length=k) (h:nZ g (dv n [s] ds) w (.ok (.retc d ρ'))) (ht:c5 1 ρ'=some [s']):wk (iJ 1 k n g [s] ds) s w d s':=
 ⟨λz=>by obtain⟨ρe,e,t⟩:=h.1 z;exact⟨ρe,mM ⟨rfl,hl⟩ e,t⟩,λz=>nY ⟨rfl,hl⟩ (h.2 z) ht⟩
theorem jU {t:a9->R Bool} {ρ:a9} {b:Bool} {x s:Df} (h:t ρ= .ok b) (hx:x≠"":=by decide):nZ (gF t (bv x (a8 (fC (.str s)) ag)) aY) ρ (pf b x) (.ok (.nx ρ)):=by
 cases b with
 |true=>exact⟨λ_=>⟨ρ,by rw[ll h];exact gA,rfl⟩,λz=>absurd z hx⟩
 |false=>exact⟨λz=>absurd rfl z,λ_=>by rw[eW h];rfl⟩
theorem ph {g:a9->R aR} {k n:Nat} {ds:List D} {w:Df} {ρ':a9} (hl:ds.length=k) (h:nZ g (bK n ds) w (.ok (.nx ρ'))):A4 (aQ k n g ds) w:=
 ⟨λz=>by obtain⟨ρe,e,_⟩:=h.1 z;exact⟨ρe,eo hl e⟩,λz=>zM hl (h.2 z)⟩
theorem A5 {α:Type} (l:List α) (p:α->Bool):qe [.lst ((l.filter λ_=>true).map λx=>D.bl (p x))]=some (.bl (l.any p)):=by
 rw[jg]
 show (iU (l.map λx=>D.bl (p x))).map (λbs=>D.bl (bs.any id))=_
 rw[show l.map (λx=>D.bl (p x))=(l.map p).map .bl by rw[Fg];rfl,ub]
 show some (D.bl ((l.map p).any id))=_
 rw[List.any_map];rfl
theorem wl {α:Type} {N:List Df} {names:List (Df×E4)} {fi:a9->R (List D)} {fe:a9->R D} {ρ rest:a9} {enc:α->D} {l:List α} {p:α->Bool} (h:fi ρ= .ok (l.map enc)) (hl:l.length<=1000) (hr:hE N names ρ=none::none::rest) (he:∀x∈l,fe (none::some (.val (enc x))::rest)= .ok (.bl (p x))):
  cM (fY qe (a8 (fL (cN N names fi (gN 1) ic fe)) ag)) ρ= .ok (l.any p):=
 jf (dr (af (xD (oN h (by rw[Dl];unfold lim;omega) hr (sG (p:=λ_=>true) (out:=λx=> .bl (p x)) l none (λr _=>rfl) (λr QR _=>he r QR)))) rfl) (A5 l p))
def A6 (n a:Int):Bool:=decide (a<0)||decide (a>n)
def Cw (n a b:Int):Df:=n8 (pf ([a,b].any (A6 n)) "UnknownPlace") (pf (decide (a=b)) "SamePlace")
theorem rG (n a b:Int):A4 (c7 [.int n, .tup [.int a, .int b]]) (Cw n a b):=by
 refine ph rfl (kI (ρ:=[some (.val (.int n)),some (.val (.tup [.int a, .int b]))]) (wl (enc:= .int) (l:=[a,b]) rfl (by simp) (rest:=[none,some (.val (.int n))]) rfl λr _=> ?_) (jU (db (aG (aG rfl rfl Cv) (aG rfl rfl CO) kP))))
 unfold xq
 rw[aG (a:= .int r) (b:= .int 0) rfl rfl kO,ah]
 by_cases h:r<0
 ·simp only[h,decide_true,A6,Bool.true_or]
 ·simp only[h,decide_false,A6,Bool.false_or]
  exact aG (a:= .int r) (b:= .int n) rfl rfl m7
def BG (nu ns:List Int):Df:=n8 (pf (ns.any λx=> !decide (x∈nu)) "UnknownStream") (pf (!decide ns.Nodup) "Twice")
section
variable {n:Int} {m:Mo} {hs:List D}
theorem Bj {N:List Df} {names:List (Df×E4)} {fi:a9->R (List D)} {ρ rest:a9} (g:m.Ok) (h:fi ρ= .ok (m.ss.map jS)) (hr:hE N names ρ=none::none::rest):cN N names fi (gN 1) ic (f2 jh (al 1) (fC (.int 0))) ρ= .ok (m.nu.map .int):=by
 rw[oN h (by have:=g.len;rw[Dl];unfold lim;omega) hr (sG (p:=λ_=>true) (out:=λr=> .int r.1) m.ss none (λr _=>rfl) (λr _ _=>aG rfl rfl sH)),jg,Fg];rfl
theorem oO {i:Nat} {f:a9->R (List D)} {ρ:a9} {ds:List D} (h:f ρ= .ok ds):mU i f ρ= .ok (.nx (ρ.set i (some (.own (.lst ds))))):=by unfold mU;rw[h,ah]
theorem ql (g:m.Ok) {d:D} {ns:List Int} (h:fw d ns) (hl:ns.length<=100):A4 (bN [bF n m,d]) (BG m.nu ns):=by
 refine ph rfl (rF (ρ:=[some (.val (bF n m)),some (.val d),none]) (ρ':=[some (.val (bF n m)),some (.val d),some (.own (.lst (m.nu.map .int)))]) (oO (Bj g (A3 (dR n m)) rfl)) rfl (kI (wl (enc:= .int) (l:=ns) (h.seq rfl) (by omega) (rest:=[some (.bor (.lst (m.nu.map .int)))]) rfl λr _=>aG (a:= .int r) (b:= .lst (m.nu.map .int)) rfl rfl m9) (jU (db (aG (a:= .int (L2.di ns)) (h.set (by omega) rfl) (dr (af rfl rfl) h.len) ?_)))))
 rw[kO,qk]
def CP (ms ns:List Int):Df:=pf (ns.any λx=> !decide (x∈ms)) "NotMetered"
theorem n9 {d:D} {ns:List Int} (h:fw d ns) (hl:ns.length<=100):A4 (bx [bF n m,d]) (CP m.ms ns):=
 ph rfl (jU (ρ:=[some (.val (bF n m)),some (.val d)]) (wl (enc:= .int) (l:=ns) (h.seq rfl) (by omega) (rest:=[some (.val (bF n m))]) rfl λr _=>aG (a:= .int r) (b:= .tup (m.ms.map .int)) rfl (dA (fds:=rC n m) rfl (gB n m)) pV))
def Al (i:Int):Bool:=decide (i< -1000)||decide (i>1000)
def BH (ns:List Int):Df:=pf (ns.any Al) "OutOfRange"
theorem l6 {d:D} {ns:List Int} (h:fw d ns) (hl:ns.length<=100):A4 (bq [d]) (BH ns):=
 ph rfl (jU (ρ:=[some (.val d)]) (wl (enc:= .int) (l:=ns) (h.seq rfl) (by omega) (rest:=[none,none]) rfl λr _=>(aG (a:= .int (if r<0 then -r else r)) (b:= .int 1000) rfl rfl m7).trans (by
  unfold Al
  congr 2
  rw[<-Bool.decide_or]
  refine decide_eq_decide.mpr ?_
  split<;>omega)))
def pi (hs:List D):Df:=pf (decide ((60:Int)<=(hs.length:Int))) "TooManyDeeds"
theorem uj {now deed after:D}:wk (aK [aN n now hs] [deed,after]) (aN n now hs) (pi hs) .non (aN n after (hs++[.tup [deed,now]])):=by
 by_cases PL:(60:Int)<=(hs.length:Int)
 ·have e1:fT (f2 zC (fY hW (a8 (kX 0 "Cellar" "history") (ag))) (fC (.int 60))) [some (aN n now hs),some (.val deed),some (.val after)]= .ok true:=db (aG (dr (af (p9 rfl) rfl) m8) rfl (by rw[pT,decide_eq_true PL]))
  have w:pi hs="TooManyDeeds":=by unfold pi pf;rw[decide_eq_true PL,if_pos rfl]
  rw[w]
  exact⟨λ_=>⟨_,mM ⟨rfl,rfl⟩ (ρ:=[some (aN n now hs),some (.val deed),some (.val after)]) (cE (by rw[show dv 2 [aN n now hs] [deed,after]=[some (aN n now hs),some (.val deed),some (.val after)]from rfl,ll e1];exact gA)),rfl⟩,λz=>absurd z (by decide)⟩
 ·have e1:fT (f2 zC (fY hW (a8 (kX 0 "Cellar" "history") (ag))) (fC (.int 60))) [some (aN n now hs),some (.val deed),some (.val after)]= .ok false:=db (aG (dr (af (p9 rfl) rfl) m8) rfl (by rw[pT,decide_eq_false PL]))
  have w:pi hs="":=by unfold pi pf;rw[decide_eq_false PL];rfl
  rw[w]
  refine⟨λz=>absurd rfl z,λ_=>y0 ⟨rfl,rfl⟩ (ρ:=[some (aN n after (hs++[.tup [deed,now]])),some (.val deed),some (.val after)]) ?_ rfl⟩
  show cZ [some (aN n now hs),some (.val deed),some (.val after)]=_
  unfold cZ
  rw[aH (by rw[eW e1];rfl)]
  have e2:lz 0 "Cellar" "history" (eA (a8 (ap 1) (a8 (cq 0 "Cellar" "now") (ag)))) [some (aN n now hs),some (.val deed),some (.val after)]= .ok (.nx [some (aN n now (hs++[.tup [deed,now]])),some (.val deed),some (.val after)]):=by
   have hf:eA (a8 (ap 1) (a8 (cq 0 "Cellar" "now") (ag))) [some (aN n now hs),some (.val deed),some (.val after)]= .ok (.tup [deed,now]):=fu (af rfl (af (lC (n:=n) (now:=now) (hs:=hs) rfl (p8 n now)) rfl)) (show 2<=lim by decide)
   show (if ("Cellar":Df)="Cellar"/\("history":Df)="history" then (eA (a8 (ap 1) (a8 (cq 0 "Cellar" "now") (ag))) [some (aN n now hs),some (.val deed),some (.val after)]>>=λd=>if hs.length<lim then R.ok (aR.nx ([some (aN n now hs),some (.val deed),some (.val after)].set 0 (some (.cel "Cellar" (je n now) "history" (hs++[d])))))else .bad)else .bad)=_
   rw[if_pos ⟨rfl,rfl⟩,hf,ah,if_pos (by unfold lim;omega)]
   rfl
  rw[aH e2]
  show ((ap 2:a9->R D) [some (aN n now (hs++[.tup [deed,now]])),some (.val deed),some (.val after)]>>=λd=>if ("Cellar":Df)="Cellar"/\((je n now).lookup ("now":Df)).isSome=true/\(je n now).length<900 then R.ok (aR.nx ([some (aN n now (hs++[.tup [deed,now]])),some (.val deed),some (.val after)].set 0 (some (.cel "Cellar" (vO "now" d (je n now)) "history" (hs++[.tup [deed,now]])))))else .bad)=_
  rw[show (ap 2:a9->R D) [some (aN n now (hs++[.tup [deed,now]])),some (.val deed),some (.val after)]= .ok after from rfl,ah,if_pos ⟨rfl,by rw[p8];rfl,show 2<900 by decide⟩,xZ]
  rfl
theorem qm {now deed after:D} {fs:a9->R (List D)} {rest:a9} (h:fs (some (aN n now hs)::rest)= .ok [deed,after]):nZ (fc (hX 0 "Cellar" "keep_deed" (eR [0] aK 2 fs))) (some (aN n now hs)::rest) (pi hs) (.ok (.nx (some (aN n after (hs++[.tup [deed,now]]))::rest))):=by
 have k:=uj (n:=n) (hs:=hs) (now:=now) (deed:=deed) (after:=after)
 refine⟨λz=> ?_,λz=>wg (by rw[pb (n:=n) (now:=now) (hs:=hs) rfl];exact we (k:=2) (n:=n) (now:=now) (hs:=hs) rfl h rfl (k.2 z))⟩
 obtain⟨ρe,e,t⟩:=k.1 z
 exact⟨_,nX (by rw[pb (n:=n) (now:=now) (hs:=hs) rfl];exact sE (k:=2) (n:=n) (now:=now) (hs:=hs) rfl h rfl e t rfl),rfl⟩
theorem wm {rest:a9}:cq 0 "Cellar" "now" (some (aN n (bF n m) hs)::rest)= .ok (bF n m):=lC (n:=n) (now:=bF n m) (hs:=hs) rfl (p8 n _)
theorem wo {now:D} {rest:a9}:cq 0 "Cellar" "tanks" (some (aN n now hs)::rest)= .ok (.int n):=lC (n:=n) (now:=now) (hs:=hs) rfl (wd n _)
theorem BI {rest:a9} {g:Df} {d:D} (h:(rC n m).lookup g=some d):c3 "Standing" g (cq 0 "Cellar" "now") (some (aN n (bF n m) hs)::rest)= .ok d:=dA wm h
def rH (a b:Int):D:= .tup [.str "stream comes", .int a, .int b]
def wq (n:Int) (m:Mo) (hs:List D) (a b:Int):Df:=n8 (Cw n a b) (n8 (pf (decide ((12:Int)<=(m.ss.length:Int))) "TooManyStreams") (pi hs))
theorem rJ (g:m.Ok) (a b:Int):wk (aJ [aN n (bF n m) hs] [.int a, .int b]) (aN n (bF n m) hs) (wq n m hs a b) (.int (m.c+1)) (aN n (bF n (m.comes a b)) (hs++[.tup [rH a b,bF n m]])):=
 n_ rfl (jT (ρ:=[some (aN n (bF n m) hs),some (.val (.int a)),some (.val (.int b))]) (ds:=[.int n, .tup [.int a, .int b]]) (af wo (af (fu (ds:=[.int a, .int b]) rfl (show 2<=lim by decide)) rfl)) rfl (rG n a b)
  (kI (db (aG (dr (af (BI (dR n m)) rfl) j5) rfl (by rw[pT,Dl])))
  (sJ (qm (af (fu (ds:=[.str "stream comes", .int a, .int b]) rfl (show 3<=lim by decide)) (af (eX (n:=3) (fds:=rC n m) (ds:=[.int a, .int b]) wm rfl rfl (kH g a b) rfl) rfl)))
   (dA (lC (n:=n) (now:=bF n (m.comes a b)) (hs:=hs++[.tup [rH a b,bF n m]]) rfl (p8 n _)) (pd n (m.comes a b)))))) rfl
def dS (n:Int) (now:D) (hs:List D):List (Df×D):=je n now++[(("history":Df),D.lst hs)]
end
theorem mP {α:Type} {f:α->D} {k:α->Int} (hk:∀a,mV (f a)=some (k a)):∀l:List α,cB (l.map f)=some (l.map k)
 |[]=>rfl
 |a::l=>by
  rw[DD,cB,hk,mP hk l];rfl
theorem uk {α:Type} {f:α->D} {k:α->Int} (hk:∀a,mV (f a)=some (k a)) {l:List α} (h:l≠[]):cH (l.map f)=none:=by
 cases l with
 |nil=>exact absurd rfl h
 |cons a l=>
  have:=hk a
  rw[DD]
  cases e:f a<;>rw[e]at this<;>first|rfl|cases this
theorem sL {α:Type} {f:α->D} {k:α->Int} (hk:∀a,mV (f a)=some (k a)) {l m:List α} (p:l.Perm m) (inc:m.Pairwise λa b=>k a<k b) (hl:m.length<64) {d:D} (hd:d= .lst (l.map f)\/d= .tup (l.map f)):f8 [d]=some (.lst (m.map f)):=by
 by_cases h0:l=[]
 ·subst h0
  have:m=[]:=(J3 p).symm
  subst this
  rcases hd with rfl|rfl<;>rfl
 ·have hn:(l.map k).Nodup:=(p.map k).nodup_iff.mpr (F9.mpr (inc.imp λh=>Int.ne_of_lt h))
  have hs:iT (l.map f)=m.map f:=pZ (p.map f) (by
   rw[F9]
   refine inc.imp λ{a b} h=> ?_
   show (mV (f a)).getD 0<(mV (f b)).getD 0
   rw[hk,hk];exact h)
  have Na:(l.map k).length<64:=by rw[Dl,p.length_eq];exact hl
  have hr:=mP hk l
  have ha:=uk hk h0
  rcases hd with rfl|rfl
  ·have:f7 [.lst (l.map f)]=none:=by simp[f7,oI,ha]
   simp only[f8,this,jz,hr,Hg,hn,Na,and_self,if_true,hs]
  ·have:f7 [.tup (l.map f)]=none:=by simp[f7,oI,ha]
   simp only[f8,this,jz,hr,Hg,hn,Na,and_self,if_true,hs]
theorem wt {m:List D->R D} {k:Nat} {fs:a9->R (List D)} {ρ:a9} {ds:List D} {g':a9->R aR} {w w':Df} {r:R aR} (h:fs ρ= .ok ds) (hl:ds.length=k) (hr:A4 (m ds) w) (h2:w=""->nZ g' ρ w' r):nZ (aC (eK (aD m k fs)) g') ρ (n8 w w') r:=by
 by_cases e:w=""
 ·exact jT h hl hr (h2 e)
 ·unfold n8
  rw[if_neg e]
  obtain⟨ρe,e1⟩:=hr.1 e
  exact⟨λ_=>⟨ρ,cE (mK (mL h hl e1)),rfl⟩,λz=>absurd z e⟩
theorem wu {f:a9->R D} {ρ:a9} {d:D} {L:List Nat} {x:Df} (hc:L.all (sA x ρ)=true) (h:f (jG L ρ)= .ok d) (cl:gl x d):mx x L f ρ= .ok d:=by
 unfold mx
 rw[if_pos hc,h,ah,if_pos cl]
def ul (d:D) (rd:List Rd):Prop:=d= .lst (rd.map wj)\/d= .tup (rd.map wj)
theorem ul.seq {d:D} {rd:List Rd} (h:ul d rd) {ρ:a9} {f:a9->R D} (e:f ρ= .ok d):eB f ρ= .ok (rd.map wj):=by
 unfold eB
 rw[e]
 rcases h with rfl|rfl<;>rfl
theorem ul.tup {d:D} {rd:List Rd} (h:ul d rd):cG [d]=some (.tup (rd.map wj)):=by rcases h with rfl|rfl<;>rfl
theorem A7 {r:Rd}:jh (wj r) (.int 0)=some (.int r.1):=Cv
theorem A8 {r:Rd}:jh (wj r) (.int 1)=some (.int r.2):=CO
theorem qo {α:Type} {N:List Df} {names:List (Df×E4)} {fi:a9->R (List D)} {fe:a9->R D} {ρ rest:a9} {enc out:α->D} {l:List α} (h:fi ρ= .ok (l.map enc)) (hl:l.length<=1000) (hr:hE N names ρ=none::none::rest) (he:∀x∈l,fe (none::some (.val (enc x))::rest)= .ok (out x)):
  cN N names fi (gN 1) ic fe ρ= .ok (l.map out):=by
 rw[oN h (by rw[Dl];unfold lim;omega) hr (sG (p:=λ_=>true) (out:=out) l none (λr _=>rfl) (λr QR _=>he r QR)),jg]
theorem A9 {nu ns:List Int} (h:BG nu ns=""):ns.Nodup/\∀x∈ns,x∈nu:=by
 unfold BG n8 pf at h
 by_cases a:(ns.any λx=> !decide (x∈nu))=true
 ·rw[if_pos a,if_neg (by decide)]at h;exact absurd h (by decide)
 ·rw[if_neg a,if_pos rfl]at h
  by_cases b:ns.Nodup
  ·refine⟨b,λx hx=> ?_⟩
   by_cases c:x∈nu
   ·exact c
   ·exact absurd (FL.mpr ⟨x,hx,by simp[c]⟩) a
  ·rw[decide_eq_false b]at h;exact absurd h (by decide)
section
variable {n:Int} {m:Mo} {hs:List D}
theorem fz:ax [.ins "Cellar" (dS n (bF n m) hs)]= .ok (.int (m.ds.length:Int)):=
 cS rfl (j7 (dr (af (dA (fds:=rC n m) (dA (fds:=dS n (bF n m) hs) rfl rfl) (gC n m)) rfl) (by rw[j5,Dl])))
theorem pj (g:m.Ok) {d1 d2:D} {ri:List Int} {rd:List Rd} (h1:fw d1 ri) (h2:ul d2 rd) (nd:(rd.map (·.1)).Nodup) (hl:rd.length<=60):dI [.int n, .tup (m.ss.map jS),d1,d2]= .ok (y3 n ⟨m.ss,ri,ui rd⟩):=by
 have e1:=sL (f:=jS) (k:=(·.1)) (λa=>rfl) (FD m.ss) g.inc (by have:=g.len;omega) (.inr rfl)
 have e3:=sL (f:=wj) (k:=(·.1)) (λa=>rfl) (mO rd) (y6 nd) (by have:=(mO rd).length_eq;omega) h2
 have e2:=h1.tup
 simp! [dI,iB,fV,bK,mC,jx,e1,e2,e3,DD,Fd,DU,List.cons_append,Nat.reduceSub,tO,kZ,L2.Pu.c4,Ft,y3]
def sM (ri:List Int) (rd:List Rd):D:= .tup [.str "day passes", .tup (ri.map .int), .tup (rd.map wj)]
def yB (n:Int) (m:Mo) (hs:List D) (ri:List Int) (rd:List Rd):Df:=n8 (pf (!decide ((ri.length:Int)=n)) "WrongRises") (n8 (BG m.nu (rd.map (·.1))) (n8 (CP m.ms (rd.map (·.1))) (n8 (pf (m.ms.any λx=> !decide (x∈rd.map (·.1))) "ReadingMissing") (n8 (BH ri) (n8 (BH (rd.map (·.2))) (n8 (pf (decide ((12:Int)<=(m.ds.length:Int))) "TooManyDays") (pi hs)))))))
theorem um (g:m.Ok) {d1 d2:D} {ri:List Int} {rd:List Rd} (h1:fw d1 ri) (h2:ul d2 rd) (l1:ri.length<=100) (l2:rd.length<=60):wk (aI [aN n (bF n m) hs] [d1,d2]) (aN n (bF n m) hs) (yB n m hs ri rd) (.int ((m.ds.length:Int)+1)) (aN n (bF n (m.passes ri rd)) (hs++[.tup [sM ri rd,bF n m]])):=by
 let ks:=rd.map (·.1)
 have hk:∀{x:Option Slot} {N:List Df} {names:List (Df×E4)} {ρ:a9},ρ[2]? =some (some (.val d2))->hE N names ρ=[none,none]->cN N names (eB (ap 2)) (gN 1) ic (f2 jh (al 1) (fC (.int 0))) ρ= .ok (ks.map .int):=λ{x N names ρ} e hr=>by
  rw[qo (rest:=[]) (h2.seq (by unfold ap;rw[e])) (by omega) hr (out:=λr=> .int r.1) λr _=>aG rfl rfl A7,Fg];rfl
 have hv:∀{N:List Df} {names:List (Df×E4)} {ρ:a9},ρ[2]? =some (some (.val d2))->hE N names ρ=[none,none]->cN N names (eB (ap 2)) (gN 1) ic (f2 jh (al 1) (fC (.int 1))) ρ= .ok ((rd.map (·.2)).map .int):=λ{N names ρ} e hr=>by
  rw[qo (rest:=[]) (h2.seq (by unfold ap;rw[e])) (by omega) hr (out:=λr=> .int r.2) λr _=>aG rfl rfl A8,Fg];rfl
 have lk:ks.length<=100:=by simp only[ks,Dl];omega
 let R (x y:Option Slot):a9:=[some (aN n (bF n m) hs),some (.val d1),some (.val d2),x,y]
 refine n_ rfl (kI (ρ:=R none none) (db (aG (dr (af rfl rfl) h1.len) wo vq)) (rF (ρ':=R (some (.own (.lst (ks.map .int)))) none) (oO (hk (x:=none) rfl rfl)) rfl (sK (ρ':=R (some (.val (.lst (ks.map .int)))) none) rfl rfl
  (wt (ds:=[bF n m, .lst (ks.map .int)]) (af wm rfl) rfl (ql g (.inl rfl) lk) λhw=>sK (ρ':=R (some (.val (.lst (ks.map .int)))) none) rfl rfl
  (jT (ds:=[bF n m, .lst (ks.map .int)]) (af wm rfl) rfl (n9 (.inl rfl) lk)
  (kI (wl (enc:= .int) (l:=m.ms) (by unfold eB;rw[BI (gB n m)];rfl) (by have:=g.ten;omega) (rest:=[some (.val (.lst (ks.map .int)))]) rfl λr _=>aG (a:= .int r) (b:= .lst (ks.map .int)) rfl rfl m9)
  (jT (ds:=[d1]) rfl rfl (l6 h1 l1)
  (jT (ds:=[.lst ((rd.map (·.2)).map .int)]) (af (xD (hv rfl rfl)) rfl) rfl (l6 (.inl rfl) (by rw[Dl];omega))
  (kI (db (aG (dr (af (BI (gC n m)) rfl) j5) rfl (by rw[pT,Dl])))
  (rF (ρ':=R (some (.val (.lst (ks.map .int)))) (some (.val (pc n ⟨m.ss,ri,ui rd⟩)))) (ii (d:=pc n ⟨m.ss,ri,ui rd⟩) ?_ rfl) rfl
  (sJ (qm (af (fu (ds:=[.str "day passes", .tup (ri.map .int), .tup (rd.map wj)]) (af rfl (af (dr (af rfl rfl) h1.tup) (af (dr (af rfl rfl) h2.tup) rfl))) (show 3<=lim by decide)) (af (eX (n:=2) (fds:=rC n m) (ds:=[pc n ⟨m.ss,ri,ui rd⟩]) wm rfl rfl (n6 g ri rd) rfl) rfl)))
   (wu rfl ((eX (n:=1) (fds:=dS n (bF n (m.passes ri rd)) (hs++[.tup [sM ri rd,bF n m]])) (ds:=[]) rfl rfl rfl fz rfl).trans ?_) (.int _))))))))))))) rfl
 ·unfold kQ
  rw[af (ds:=[.tup (m.ss.map jS),d1,d2]) wo (af (BI (dR n m)) rfl),ah,if_pos (show [D.int n, .tup (m.ss.map jS),d1,d2].length=4 from rfl),pj g h1 h2 (A9 hw).1 l2]
  rfl
 ·simp only[Mo.passes,E5,DC,Fv]
  rfl
theorem uo:wk (aS [aN n (bF n m) []] []) (aN n (bF n m) []) "NothingDone" .non (aN n (bF n m) []):=
 ⟨λ_=>⟨_,mM ⟨rfl,rfl⟩ (ρ:=[some (aN n (bF n m) []),none]) (cE (by rw[show dv 1 [aN n (bF n m) []] []=[some (aN n (bF n m) []),none]from rfl,ll (db (aG (dr (af (p9 rfl) rfl) m8) rfl kP))];exact gA)),rfl⟩,λz=>absurd z (by decide)⟩
def Cy (ms:List Int) (r:Bi):D:= .tup [.int r.1, .int r.2.1, .int r.2.2, .bl (decide (r.1∈ms))]
theorem qp (g:m.Ok):bD [.ins "Cellar" (dS n (bF n m) hs)]= .ok (.tup (m.ss.map (Cy m.ms))):=by
 refine cS rfl ?_
 show eF [some (.val (.ins "Cellar" (dS n (bF n m) hs))),none]=_
 unfold eF
 have nw:∀{x:Option Slot},c3 "Cellar" "now" (al 0) [some (.val (.ins "Cellar" (dS n (bF n m) hs))),x]= .ok (bF n m):=λ{x}=>dA (fds:=dS n (bF n m) hs) rfl rfl
 rw[aH (ρ':=[some (.val (.ins "Cellar" (dS n (bF n m) hs))),some (.val (.tup (m.ms.map .int)))]) (ii (dA nw (gB n m)) rfl)]
 refine j7 (dr (af (xD (qo (enc:=jS) (l:=m.ss) (by unfold eB;rw[dA nw (dR n m)];rfl) (by have:=g.len;omega) (rest:=[some (.val (.tup (m.ms.map .int)))]) rfl λr _=>aG (a:=jS r) (b:= .tup [.bl (decide (r.1∈m.ms))]) rfl (fu (ds:=[.bl (decide (r.1∈m.ms))]) (af (aG (aG rfl rfl sH) rfl B5) rfl) (show 1<=lim by decide)) (rD (by simp[jS])))) rfl) rfl)
theorem wv {k:Nat} (h:k<m.ds.length):av [.ins "Cellar" (dS n (bF n m) hs), .int ((k:Int)+1)]= .ok (pc n m.ds[k]):=by
 refine cS rfl ?_
 show dw [some (.val (.ins "Cellar" (dS n (bF n m) hs))),some (.val (.int ((k:Int)+1)))]=_
 unfold dw
 have t1:fT (f2 wz (al 1) (fC (.int 1))) [some (.val (.ins "Cellar" (dS n (bF n m) hs))),some (.val (.int ((k:Int)+1)))]= .ok false:=db (aG (a:= .int ((k:Int)+1)) (b:= .int 1) rfl rfl (by rw[kO,decide_eq_false (by omega)]))
 have t2:fT (f2 xt (al 1) (b9 "Cellar" "days_gone" 1 ax (ap 0) ag)) [some (.val (.ins "Cellar" (dS n (bF n m) hs))),some (.val (.int ((k:Int)+1)))]= .ok false:=db (aG (a:= .int ((k:Int)+1)) rfl (eX (n:=1) (fds:=dS n (bF n m) hs) (ds:=[]) rfl rfl rfl fz rfl) (by rw[m7,decide_eq_false (by omega)]))
 rw[aH (by rw[eW (by unfold qu;rw[t1,ah,if_neg (by simp),t2])];rfl)]
 refine j7 (aG (dA (fds:=rC n m) (dA (fds:=dS n (bF n m) hs) rfl rfl) (gC n m)) (aG (a:= .int ((k:Int)+1)) (b:= .int 1) rfl rfl oJ) ?_)
 rw[pU,show (k:Int)+1 - 1=(k:Int) by omega,j6 (by simpa using h)]
 simp
end
def m0:Mo:=⟨0,[],[],[],[],[]⟩
theorem yC:m0.Ok:=⟨.nil,λr h=>(by cases h),by decide, .refl _, .nil,λx h=>(by cases h),by decide,by decide⟩
theorem uq {n:Int} (h0:0<=n) (h7:n<=7):aM [.int n]= .ok (je n (bF n m0),"history",[]):=by
 unfold aM gm
 rw[if_pos (show [D.int n].length=1 from rfl)]
 show (cP [some .obj,some (.val (.int n)),none,none,none]>>=_)=_
 unfold cP
 rw[aH (ρ':=[some .obj,some (.val (.int n)),none,none,none]) (by
  rw[eW]
  ·rfl
  ·unfold qu
   rw[db (aG (a:= .int n) (b:= .int 0) rfl rfl kO),ah,decide_eq_false (by omega),if_neg (by simp)]
   rw[db (aG (a:= .int n) (b:= .int 7) rfl rfl m7),decide_eq_false (by omega)])]
 rfl
theorem ww {n:Int} (h:n<0\/7<n):∃ρ,aM [.int n]= .err "BadTanks" ρ:=by
 unfold aM gm
 rw[if_pos (show [D.int n].length=1 from rfl)]
 have t:qu (fT (f2 wz (al 1) (fC (.int 0)))) (fT (f2 xt (al 1) (fC (.int 7)))) [some .obj,some (.val (.int n)),none,none,none]= .ok true:=by
  unfold qu
  rw[db (aG (a:= .int n) (b:= .int 0) rfl rfl kO),ah]
  by_cases z:n<0
  ·rw[decide_eq_true z];rfl
  ·rw[decide_eq_false z,if_neg (by simp),db (aG (a:= .int n) (b:= .int 7) rfl rfl m7),decide_eq_true (by omega)]
 refine⟨[some .obj,some (.val (.int n)),none,none,none],?_⟩
 show (cP [some .obj,some (.val (.int n)),none,none,none]>>=_)=_
 unfold cP
 rw[cE (x:="BadTanks") (ρ':=[some .obj,some (.val (.int n)),none,none,none]) (by rw[ll t];exact gA)]
 rfl
theorem ur {n:Int} (h:n<0\/7<n):dQ [.int n]= .ok (.lst ([true,true,false,false,false,false,false,false,false,false,false,false].map .bl)):=by
 obtain⟨ρ,e⟩:=ww h
 refine cS rfl ?_
 show jd [some (.val (.int n)),none,none]=_
 let ρ1:a9:=[some (.val (.int n)),some (.own (.lst [])),none]
 have h1:mz 1 aM (a8 (ap 0) (ag)) ρ1= .err "BadTanks" ρ1:=by
  unfold mz
  rw[af (d:= .int n) (ds:=[]) rfl rfl,ah,if_pos (show [D.int n].length=1 from rfl),e]
 have hT:∀{i:Nat} {sub:Df->Bool} {hd rest:a9->R aR},aC (md i sub (mz 1 aM (a8 (ap 0) (ag))) hd) rest ρ1=aC (λ_=>ma i sub hd "BadTanks" ρ1) rest ρ1:=by
  intro i sub hd rest
  unfold aC md
  rw[h1]
 unfold jd
 rw[aH (ρ':=ρ1) rfl,hT]
 kernel_rfl
section
variable {n:Int}
abbrev c0 (n:Int):D:= .ins "Cellar" (dS n (bF n m0) [])
theorem yD:ax [c0 n]= .ok (.int 0):=fz (m:=m0) (hs:=[])
theorem mQ {cls m:Df} {n:Nat} {r:List D->R D} {fo:a9->R D} {fs:a9->R (List D)} {ρ ρe:a9} {fds:List (Df×D)} {ds:List D} {x:Df} (h1:fo ρ= .ok (.ins cls fds)) (h2:fs ρ= .ok ds) (hl:ds.length+1=n) (e:r (.ins cls fds::ds)= .err x ρe) (hm:fds.lookup m=none):b9 cls m n r fo fs ρ= .err x ρ:=by
 unfold b9
 rw[h1,ah]
 dsimp only
 rw[if_pos ⟨rfl,hm⟩,h2,ah,if_pos hl,e]
theorem dB {f:a9->R D} {ρ ρ':a9} {x:Df} (h:f ρ= .err x ρ'):bJ f ρ= .err x ρ':=by unfold bJ;rw[h];rfl
theorem gD {m:List D->R D} {n:Nat} {f:a9->R D} {fs:a9->R (List D)} {ρ ρ':a9} {x:Df} (h:f ρ= .err x ρ'):aD m n (a8 f fs) ρ= .err x ρ':=by unfold aD a8;rw[h];rfl
theorem y8 (k:Int):∃ρ,av [c0 n, .int k]= .err "UnknownDay" ρ:=by
 have t:qu (fT (f2 wz (al 1) (fC (.int 1)))) (fT (f2 xt (al 1) (b9 "Cellar" "days_gone" 1 ax (ap 0) ag))) [some (.val (c0 n)),some (.val (.int k))]= .ok true:=by
  unfold qu
  rw[db (aG (a:= .int k) (b:= .int 1) rfl rfl kO),ah]
  by_cases z:k<1
  ·rw[decide_eq_true z];rfl
  ·rw[decide_eq_false z,if_neg (by simp),db (aG (a:= .int k) (b:= .int 0) rfl (eX (n:=1) (fds:=dS n (bF n m0) []) (ds:=[]) rfl rfl rfl yD rfl) m7),decide_eq_true (by omega)]
 refine⟨[some (.val (c0 n)),some (.val (.int k))],eo rfl ?_⟩
 show dw [some (.val (c0 n)),some (.val (.int k))]=_
 unfold dw
 exact cE (by rw[ll t];exact gA)
theorem gE {k:Int} {ρ:a9} {f0 f1:a9->R D} (h0:f0 ρ= .ok (c0 n)) (h1:f1 ρ= .ok (.int k)):b9 "Cellar" "day" 2 av f0 (a8 f1 ag) ρ= .err "UnknownDay" ρ:=by
 obtain⟨ρe,e⟩:=y8 (n:=n) k
 exact mQ (fds:=dS n (bF n m0) []) (ds:=[.int k]) h0 (af h1 rfl) rfl e rfl
theorem kF {w c:Int} {ρ:a9} (h:(al 1:a9->R D) ρ= .ok (.int w)) (Lx:w≠c):fT (f2 oE (al 1) (fC (.int c))) ρ= .ok false:=db (aG h rfl (by rw[kP,decide_eq_false Lx]))
theorem kT {w c:Int} {ρ:a9} (h:(al 1:a9->R D) ρ= .ok (.int w)) (Lx:w=c):fT (f2 oE (al 1) (fC (.int c))) ρ= .ok true:=db (aG h rfl (by rw[kP,decide_eq_true Lx]))
theorem y9 (k s:Int):(∃ρ,bO [c0 n, .int k]= .err "UnknownDay" ρ)/\(∃ρ,bP [c0 n, .int k]= .err "UnknownDay" ρ)/\(∃ρ,cQ [c0 n, .int k, .int s]= .err "UnknownDay" ρ)/\(∃ρ,c8 [c0 n, .int k]= .err "UnknownDay" ρ)/\∃ρ,bQ [c0 n, .int k]= .err "UnknownDay" ρ:=
 ⟨⟨_,eo rfl (ρ:=[some (.val (c0 n)),some (.val (.int k))]) (dB (gD (gE (n:=n) (k:=k) rfl rfl)))⟩,⟨_,eo rfl (ρ:=[some (.val (c0 n)),some (.val (.int k))]) (dB (gD (gE (n:=n) (k:=k) rfl rfl)))⟩,
  ⟨_,eo rfl (ρ:=[some (.val (c0 n)),some (.val (.int k)),some (.val (.int s))]) (dB (gD (gE (n:=n) (k:=k) rfl rfl)))⟩,⟨_,eo rfl (ρ:=[some (.val (c0 n)),some (.val (.int k))]) (dB (gD (gE (n:=n) (k:=k) rfl rfl)))⟩,⟨_,eo rfl (ρ:=[some (.val (c0 n)),some (.val (.int k))]) (dB (gD (gE (n:=n) (k:=k) rfl rfl)))⟩⟩
theorem ya (w:Nat) (k s:Int) (hw:w<6):∃ρ,dP [c0 n, .int (w:Int), .int k, .int s]= .err "UnknownDay" ρ:=by
 obtain⟨⟨r1,a1⟩,⟨r2,a2⟩,⟨r3,a3⟩,⟨r4,a4⟩,r5,a5⟩:=y9 (n:=n) k s
 let Z:a9:=[some (.val (c0 n)),some (.val (.int (w:Int))),some (.val (.int k)),some (.val (.int s))]
 have b:(al 1:a9->R D) Z= .ok (.int (w:Int)):=rfl
 have me:∀{mt:Df} {r:List D->R D} {ρe:a9},r [c0 n, .int k]= .err "UnknownDay" ρe->(dS n (bF n m0) []).lookup mt=none->b9 "Cellar" mt 2 r (ap 0) (a8 (ap 2) ag) Z= .err "UnknownDay" Z:=λh hm=>mQ (fds:=dS n (bF n m0) []) (ds:=[.int k]) rfl rfl rfl h hm
 refine⟨Z,eo rfl ?_⟩
 show kA Z=_
 unfold kA
 rcases w with _|_|_|_|_|_|w
 ·exact cE (by rw[ll (kT b (by decide))];exact dB (gE (n:=n) (k:=k) rfl rfl))
 ·rw[aH (by rw[eW (kF b (by decide))];rfl)]
  exact cE (by rw[ll (kT b (by decide))];exact dB (me a1 rfl))
 ·rw[aH (by rw[eW (kF b (by decide))];rfl),aH (by rw[eW (kF b (by decide))];rfl)]
  exact cE (by rw[ll (kT b (by decide))];exact dB (me a2 rfl))
 ·rw[aH (by rw[eW (kF b (by decide))];rfl),aH (by rw[eW (kF b (by decide))];rfl),aH (by rw[eW (kF b (by decide))];rfl)]
  exact cE (by rw[ll (kT b (by decide))];exact dB (mQ (fds:=dS n (bF n m0) []) (ds:=[.int k, .int s]) rfl rfl rfl a3 rfl))
 ·rw[aH (by rw[eW (kF b (by decide))];rfl),aH (by rw[eW (kF b (by decide))];rfl),aH (by rw[eW (kF b (by decide))];rfl),aH (by rw[eW (kF b (by decide))];rfl)]
  exact cE (by rw[ll (kT b (by decide))];exact dB (me a4 rfl))
 ·rw[aH (by rw[eW (kF b (by decide))];rfl),aH (by rw[eW (kF b (by decide))];rfl),aH (by rw[eW (kF b (by decide))];rfl),aH (by rw[eW (kF b (by decide))];rfl),aH (by rw[eW (kF b (by decide))];rfl)]
  exact dB (me a5 rfl)
 ·omega
theorem qq (w:Nat) (k:Int) (hw:w<6):cC [c0 n, .int (w:Int), .int k]= .ok (.bl true):=by
 obtain⟨ρ,e⟩:=ya (n:=n) w k 1 hw
 refine cS rfl ?_
 show gY [some (.val (c0 n)),some (.val (.int (w:Int))),some (.val (.int k)),none,none]=_
 let ρ1:a9:=[some (.val (c0 n)),some (.val (.int (w:Int))),some (.val (.int k)),some (.own (.lst [])),none]
 have h1:eK (aD dP 4 (a8 (ap 0) (a8 (ap 1) (a8 (ap 2) (a8 (fC (.int 1)) (ag)))))) ρ1= .err "UnknownDay" ρ1:=mK (mL (af rfl (af rfl (af rfl (af rfl rfl)))) rfl e)
 have hT:∀{i:Nat} {sub:Df->Bool} {hd rest:a9->R aR},aC (md i sub (eK (aD dP 4 (a8 (ap 0) (a8 (ap 1) (a8 (ap 2) (a8 (fC (.int 1)) (ag))))))) hd) rest ρ1=aC (λ_=>ma i sub hd "UnknownDay" ρ1) rest ρ1:=by
  intro i sub hd rest
  unfold aC md
  rw[h1]
 unfold gY
 rw[aH (ρ':=ρ1) rfl,hT]
 kernel_rfl
theorem pk:b6 [aN n (bF n m0) []] []= .ok (.bl true,[aN n (bF n m0) []]):=by
 obtain⟨ρe,e,t⟩:=(uo (n:=n) (m:=m0)).1 (by decide)
 let ρ1:a9:=[some (aN n (bF n m0) []),some (.own (.lst [])),none]
 have h1:fc (hX 0 "Cellar" "take_back" (eR [0] aS 0 ag)) ρ1= .err "NothingDone" ρ1:=nX (by rw[pb (n:=n) (now:=bF n m0) (hs:=[]) rfl];exact sE (n:=n) (now:=bF n m0) (hs:=[]) rfl rfl rfl e t rfl)
 have hT:∀{i:Nat} {sub:Df->Bool} {hd rest:a9->R aR},aC (md i sub (fc (hX 0 "Cellar" "take_back" (eR [0] aS 0 ag))) hd) rest ρ1=aC (λ_=>ma i sub hd "NothingDone" ρ1) rest ρ1:=by
  intro i sub hd rest
  unfold aC md
  rw[h1]
 refine nY ⟨rfl,rfl⟩ (ρ:=[some (aN n (bF n m0) []),some (.val (.lst ([true,true,false,false,false].map .bl))),none]) ?_ rfl
 show d5 [some (aN n (bF n m0) []),none,none]=_
 unfold d5
 rw[aH (ρ':=ρ1) rfl,hT]
 kernel_rfl
end
theorem wx {m:List D->R D} {fx:a9->R (D×a9)} {g:a9->R D} {ρ ρ':a9} {d e z:D} (h:fx ρ= .ok (d,ρ')) (hg:g ρ'= .ok e) (hm:m [d,e]= .ok z):kn m 2 (wA fx (wA (xS g) Ak)) ρ= .ok (z,ρ'):=by
 unfold kn wA xS Ak
 simp only[h,ah,hg,DC,Fv,Hj,Ju,if_true,hm]
theorem sN {fx:a9->R (D×a9)} {ρ ρ':a9} {b:Bool} (h:fx ρ= .ok (.bl b,ρ')):nQ (tZ fx) ρ= .ok (!b,ρ'):=by unfold nQ tZ;rw[h];rfl
theorem yE {gx:a9->R (Bool×a9)} {g g':a9->R aR} {ρ ρ':a9} (h:gx ρ= .ok (false,ρ')):t_ gx g g' ρ=g' ρ':=by unfold t_;rw[h];rfl
theorem yF:vf (.int 10) (.int 30)=some (.int (10 ^30)):=xy (by unfold pO;decide)
theorem Aa {fs:a9->R (List D)} {ρ:a9} {ds:List D} (h:fs ρ= .ok ds) (hl:ds.length<=1000):gj fs ρ= .ok (.lst ds):=by unfold gj;rw[h,ah];exact if_pos (by unfold lim;omega)
theorem yp {n:Nat} {ri:List Int} (hl:ri.length=n) (hn:n<=7) (hr:∀x∈ri,Al x=false):aI [aN (n:Int) (bF (n:Int) m0) []] [.lst (ri.map .int), .lst []]= .ok (.int 1,[aN (n:Int) (bF (n:Int) (m0.passes ri [])) [.tup [sM ri [],bF (n:Int) m0]]]):=by
 refine(um (n:=(n:Int)) (hs:=[]) yC (d1:= .lst (ri.map .int)) (d2:= .lst []) (ri:=ri) (rd:=[]) (.inl rfl) (.inl rfl) (by omega) (by simp)).2 ?_
 have h1:ri.any Al=false:=by
  rw[IH]
  exact λx hx=>by rw[hr x hx];simp
 unfold yB BH
 rw[h1,decide_eq_true (show ((ri.length:Int)=(n:Int)) by rw[hl])]
 rfl
theorem Bk {n:Nat} {m:Mo} {hs:List D} (g:m.Ok) (h0:m.ss=[]) (hc:m.c=0) (hl:hs.length<60) {b:Int} (hb:1<=b) (hn:b<=(n:Int)):∃s',s'.kind=2/\aJ [aN (n:Int) (bF (n:Int) m) hs] [.int 0, .int b]= .ok (.int 1,[s']):=by
 refine⟨aN (n:Int) (bF (n:Int) (m.comes 0 b)) (hs++[.tup [rH 0 b,bF (n:Int) m]]),rfl,((rJ (n:=(n:Int)) (hs:=hs) g 0 b).2 ?_).trans (by rw[hc];rfl)⟩
 have o0:A6 (n:Int) 0=false:=by unfold A6;simp
 have ob:A6 (n:Int) b=false:=by unfold A6;simp only[HU,decide_eq_false_iff_not];omega
 unfold wq Cw pi
 rw[h0,decide_eq_false (show ¬(60:Int)<=(hs.length:Int) by omega),decide_eq_false (show ¬(0:Int)=b by omega)]
 simp only[ED,List.any_nil,o0,ob]
 rfl
theorem Bm {i k n:Nat} {mt:Df} {mf:List Slot->List D->R (D×List Slot)} {fs:a9->R (List D)} {ρ:a9} {N:Int} {now d:D} {hs ds:List D} {s':Slot} (h:ρ[i]? =some (some (aN N now hs))) (h2:fs ρ= .ok ds) (hl:ds.length=k) (e:mf [aN N now hs] ds= .ok (d,[s'])) (hk:s'.kind=2) (hm:mt≠"history":=by decide) (h3:(je N now).lookup mt=none:=by rfl):hX i "Cellar" mt (eR [i] mf k fs) ρ= .ok (d,ρ.set i (some s')):=by
 rw[pb (n:=N) (now:=now) (hs:=hs) h hm h3]
 unfold eR
 have QQ:ck ρ [i]=some [aN N now hs]:=by unfold ck ck;rw[h];rfl
 rw[QQ]
 dsimp only
 rw[if_pos ⟨rfl,by simp⟩,h2,ah,if_pos hl,e]
 dsimp only
 rw[if_pos (show J5 Slot.kind [s']=J5 Slot.kind [aN N now hs] by simp only[DD,Fd,hk];rfl)]
 rfl
theorem rK {n:Nat}:bS [c0 (n:Int), .int (n:Int)]= .ok (.bl true):=by
 have s0:ay [.tup [], .tup []]= .ok (.bl true):=kG [] (by simp)
 let Z:a9:=[some (.val (c0 (n:Int))),some (.val (.int (n:Int)))]
 refine cS rfl ?_
 show ir Z=_
 unfold ir
 have a1:dC (cM (aD ay 2 (a8 (c3 "Cellar" "tanks" (al 0)) (a8 (ap 1) (ag))))) Z= .ok false:=by
  unfold dC
  rw[jf (b:=true) (cT (n:=2) (af (d:= .int (n:Int)) (dA (fds:=dS (n:Int) (bF (n:Int) m0) []) rfl rfl) (af (d:= .int (n:Int)) rfl rfl)) rfl (iF _))]
  rfl
 have a2:dC (cM (aD ay 2 (a8 (b9 "Cellar" "layout" 1 bD (ap 0) ag) (a8 (eA (ag)) (ag))))) Z= .ok false:=by
  unfold dC
  rw[jf (b:=true) (cT (n:=2) (af (d:= .tup []) (eX (n:=1) (fds:=dS (n:Int) (bF (n:Int) m0) []) (ds:=[]) rfl rfl rfl (qp (m:=m0) (hs:=[]) yC) rfl) (af (d:= .tup []) rfl rfl)) rfl s0)]
  rfl
 rw[aH (ρ':=Z) (by rw[eW (by unfold qu;rw[a1,ah,if_neg (by simp),a2])];rfl)]
 refine j7 ?_
 unfold lX
 have d0:cr [c0 (n:Int)]= .ok (.tup []):=by
  refine cS rfl (j7 (dr (af (d:= .lst []) (xD ?_) rfl) rfl))
  exact(qo (enc:=λp:D×D=> .tup [p.1,p.2]) (l:=[]) (out:=(·.1)) (by unfold eB;rw[dA (fds:=dS (n:Int) (bF (n:Int) m0) []) (d:= .lst []) rfl rfl];rfl) (by simp) (rest:=[]) rfl λp hp=>by cases hp)
 rw[cT (n:=2) (af (d:= .tup []) (eX (n:=1) (fds:=dS (n:Int) (bF (n:Int) m0) []) (ds:=[]) rfl rfl rfl d0 rfl) (af (d:= .tup []) rfl rfl)) rfl s0]
 show aD ay 2 (a8 (b9 "Cellar" "days_gone" 1 ax (ap 0) ag) (a8 (fC (.int 0)) (ag))) Z=_
 exact cT (n:=2) (af (d:= .int 0) (eX (n:=1) (fds:=dS (n:Int) (bF (n:Int) m0) []) (ds:=[]) rfl rfl rfl yD rfl) (af (d:= .int 0) rfl rfl)) rfl (iF 0)
theorem main (ns:List Int) (_:ns.length<=63):nU [.scr ns]= .ok (.bl true):=by
 obtain⟨n,hn,Tb⟩:∃n:Nat,cel ns 0%8=(n:Int)/\n<=7:=⟨(cel ns 0%8).toNat,by omega,by omega⟩
 let A:Option Slot:=some (.val (.scr ns))
 let N:Option Slot:=some (.val (.int (n:Int)))
 let m1:Int:=cel ns 1 / 2%10 ^30
 have NS:0<=m1:=Jk _ (by decide)
 let mo:Int:=if cel ns 2%2=1 then m1%3 else m1
 have TC:0<=mo:=by simp only[mo];split<;>omega
 let be:Int:=if cel ns 1%2=1 then -1 - mo else 8+mo
 have NP:be<0\/7<be:=by simp only[be];split<;>omega
 have ce:∀{ρ:a9} (k:Nat) {x:Int},(ap 0:a9->R D) ρ= .ok (.scr ns)->x=(k:Int)->aD bg 2 (a8 (ap 0) (a8 (fC (.int x)) (ag))) ρ= .ok (.int (cel ns k)):=λ{ρ} k {x} h e=>cT (n:=2) (af h (af rfl rfl)) rfl (by rw[e];exact sD ns k)
 let ri:List Int:=(Eb n).map λk=>cel ns (5+k)%2001 - 1000
 have Tc:ri.length=n:=by simp only[ri,Dl,F8]
 have QS:∀x∈ri,Al x=false:=λx hx=>by
  obtain⟨k,_,rfl⟩:=G4.mp hx
  unfold Al
  simp only[HU,decide_eq_false_iff_not]
  omega
 let S:Option Slot:=some (.val (.tup (([0,7,12,10,1000,12,60]:List Int).map .int)))
 let C:Option Slot:=some (aN (n:Int) (bF (n:Int) m0) [])
 let R (x y z w:Option Slot):a9:=[A,N,some (.val (.int mo)),some (.val (.int be)),S,x,y,z,w]
 refine cS rfl ?_
 show w9 [A,none,none,none,none,none,none,none,none]=_
 unfold w9
 rw[aH (ρ':=[A,N,none,none,none,none,none,none,none]) (ii (aG (ce 0 (x:=0) rfl rfl) (b:= .int 8) rfl ((ef (by decide)).trans (by rw[hn]))) rfl)]
 rw[aH (ρ':=[A,N,some (.val (.int m1)),none,none,none,none,none,none]) (ii (aG (aG (ce 1 (x:=1) rfl rfl) (b:= .int 2) rfl (tN (by decide))) (aG rfl rfl yF) (ef (by decide))) rfl)]
 rw[aH (ρ':=[A,N,some (.val (.int mo)),none,none,none,none,none,none]) (by
  have t:fT (f2 oE (f2 kd (aD bg 2 (a8 (ap 0) (a8 (fC (.int 2)) (ag)))) (fC (.int 2))) (fC (.int 1))) [A,N,some (.val (.int m1)),none,none,none,none,none,none]= .ok (decide (cel ns 2%2=1)):=db (aG (aG (ce 2 (x:=2) rfl rfl) (b:= .int 2) rfl (ef (by decide))) (b:= .int 1) rfl kP)
  by_cases z:cel ns 2%2=1
  ·rw[ll (by rw[t,decide_eq_true z])]
   refine(ii (aG (a:= .int m1) (b:= .int 3) rfl rfl (ef (by decide))) rfl).trans ?_
   simp only[mo,if_pos z];rfl
  ·rw[eW (by rw[t,decide_eq_false z])]
   simp only[mo,if_neg z];rfl)]
 rw[aH (ρ':=[A,N,some (.val (.int mo)),some (.val (.int be)),none,none,none,none,none]) (by
  have h2:f2 kd (aD bg 2 (a8 (ap 0) (a8 (fC (.int 1)) (ag)))) (fC (.int 2)) [A,N,some (.val (.int mo)),none,none,none,none,none,none]= .ok (.int (cel ns 1%2)):=aG (ce 1 (x:=1) rfl rfl) (b:= .int 2) rfl (ef (by decide))
  refine ii (d:= .int be) (aG (a:= .lst [.int (8+mo), .int (-1 - mo)]) (Aa (af (aG (a:= .int 8) (b:= .int mo) rfl rfl m6) (af (aG (a:= .int (-1)) (b:= .int mo) rfl rfl oJ) rfl)) (show 2<=1000 by decide)) h2 ?_) rfl
  by_cases z:cel ns 1%2=1
  ·rw[z];simp only[be,if_pos z];exact Dc
  ·rw[show cel ns 1%2=0 by omega];simp only[be,if_neg z];exact D9)]
 rw[aH (ρ':=R none none none none) (ii (fu (ds:=([0,7,12,10,1000,12,60]:List Int).map .int) rfl (by decide)) rfl)]
 rw[aH (ρ':=R none none none none) (by
  have a1:dC (cM (aD ay 2 (a8 (ap 4) (a8 (eA (a8 (fC (.int 0)) (a8 (fC (.int 7)) (a8 (fC (.int 12)) (a8 (fC (.int 10)) (a8 (fC (.int 1000)) (a8 (fC (.int 12)) (a8 (fC (.int 60)) (ag))))))))) (ag))))) (R none none none none)= .ok false:=by
   unfold dC
   rw[jf (b:=true) (cT (n:=2) (af rfl (af (fu (ds:=([0,7,12,10,1000,12,60]:List Int).map .int) rfl (by decide)) rfl)) rfl (kG [0,7,12,10,1000,12,60] (by decide)))]
   rfl
  have a2:fT (f2 xV (aD dQ 1 (a8 (ap 3) (ag))) (f2 fS (gj (a8 (fC (.bl true)) (a8 (fC (.bl true)) (ag)))) (f2 xu (gj (a8 (fC (.bl false)) (ag))) (fC (.int 10))))) (R none none none none)= .ok false:=db (aG (cT (n:=1) (af rfl rfl) rfl (ur NP)) (b:= .lst ([true,true,false,false,false,false,false,false,false,false,false,false].map .bl)) rfl rfl)
  rw[eW (by unfold qu;rw[a1,ah,if_neg (by simp),a2])];rfl)]
 rw[aH (ρ':=R C none none none) (by
  unfold p0
  rw[if_pos (show BE 5 (R none none none none)=true from rfl),af (d:= .int (n:Int)) (ds:=[]) rfl rfl,ah,if_pos (show [D.int (n:Int)].length=1 from rfl),uq (by omega) (by omega)]
  rfl)]
 have Pw:∀(k:Int) (l:List Nat) (z:Option Slot),(∀w∈l,w<6)->∃z',eY (gN 7) rq (l.map λw:Nat=>D.int (w:Int)) (R C (some (.val (.int k))) z none)= .ok (.nx (R C (some (.val (.int k))) z' none)):=λk l=>by
  induction l with
  |nil=>exact λz _=>⟨z,rfl⟩
  |cons w l ih=>
   intro z hw
   obtain⟨z',e⟩:=ih (some (.val (.int (w:Int)))) λx hx=>hw x (Dw _ hx)
   refine⟨z',?_⟩
   rw[DD,oM (ρ1:=R C (some (.val (.int k))) (some (.val (.int (w:Int)))) none) rfl (by
    unfold rq
    rw[eW (by
     show (dC (cM (aD cC 3 (a8 (ap 5) (a8 (ap 7) (a8 (ap 6) (ag))))))) [A,N,some (.val (.int mo)),some (.val (.int be)),S,some (.val (c0 (n:Int))),some (.val (.int k)),some (.val (.int (w:Int))),none]=_
     unfold dC
     rw[jf (b:=true) (cT (n:=3) (af rfl (af rfl (af rfl rfl))) rfl (qq w k (hw w Dt)))]
     rfl)]
    rfl),e]
 have outer:∀(l:List Int) (y z:Option Slot),∃y' z',eY (gN 6) rz (l.map .int) (R C y z none)= .ok (.nx (R C y' z' none)):=λl=>by
  induction l with
  |nil=>exact λy z=>⟨y,z,rfl⟩
  |cons k l ih=>
   intro y z
   obtain⟨z1,e1⟩:=Pw k (Eb 6) z λw hw=>Ex.mp hw
   obtain⟨y',z',e⟩:=ih (some (.val (.int k))) z1
   exact⟨y',z',by rw[DD,oM (ρ1:=R C (some (.val (.int k))) z none) rfl (show rz _= .ok (.nx (R C (some (.val (.int k))) z1 none))from (vx (kg (n:=6) rfl (by decide))).trans e1),e]⟩
 obtain⟨y1,z1,e1⟩:=outer [0,1,-1,2+cel ns 3%20,10 ^30] none none
 rw[aH ((vx (by
  unfold eB
  rw[fu (ds:=([0,1,-1,2+cel ns 3%20,10 ^30]:List Int).map .int) (af rfl (af rfl (af rfl (af (aG (a:= .int 2) rfl (aG (ce 3 (x:=3) rfl rfl) (b:= .int 20) rfl (ef (by decide))) m6) (af (aG rfl rfl yF) rfl))))) (show 5<=lim by decide)]
  rfl)).trans e1)]
 rw[aH (ρ':=R C y1 z1 none) (by
  have a1:nQ (tZ (eR [5] b6 0 (ag))) (R C y1 z1 none)= .ok (false,R C y1 z1 none):=sN (we (n:=(n:Int)) (now:=bF (n:Int) m0) (hs:=[]) rfl rfl rfl pk)
  have a2:zV (il [5] (dC (cM (aD bS 2 (a8 (ap 5) (a8 (ap 1) (ag))))))) (R C y1 z1 none)= .ok (false,R C y1 z1 none):=by
   unfold zV
   rw[show il [5] (dC (cM (aD bS 2 (a8 (ap 5) (a8 (ap 1) (ag)))))) (R C y1 z1 none)= .ok false by
    show (dC (cM (aD bS 2 (a8 (ap 5) (a8 (ap 1) (ag)))))) (R (some (.val (c0 (n:Int)))) y1 z1 none)=_
    unfold dC
    rw[jf (b:=true) (cT (n:=2) (af rfl (af rfl rfl)) rfl rK)]
    rfl,ah]
  exact yE (by unfold v_;rw[a1,ah,if_neg (by simp),a2]))]
 rw[aH (ρ':=R C y1 z1 (some (.own (.lst (ri.map .int))))) (by
  refine oO (ds:=ri.map .int) ?_
  rw[qo (enc:=λk:Nat=>D.int (k:Int)) (l:=Eb n) (out:=λk:Nat=>D.int (cel ns (5+k)%2001 - 1000)) (kg (n:=n) (af rfl rfl) (by unfold lim;omega)) (by rw[F8];omega) (rest:=[none,A]) rfl λk hk=>aG (aG (cT (n:=2) (af rfl (af (d:= .int ((5+k:Nat):Int)) (aG (a:= .int 5) (b:= .int (k:Int)) rfl rfl (by rw[m6];congr 2)) rfl)) rfl (sD ns (5+k))) (b:= .int 2001) rfl (ef (by decide))) (b:= .int 1000) rfl oJ]
  simp only[ri,Fg];rfl)]
 let m':=m0.passes ri []
 let Ko:List D:=[.tup [sM ri [],bF (n:Int) m0]]
 let V:Option Slot:=some (.val (.lst (ri.map .int)))
 let C':Option Slot:=some (aN (n:Int) (bF (n:Int) m') Ko)
 rw[aH (ρ':=R C' y1 z1 V) (by
  show t_ _ _ _ (R C y1 z1 V)=_
  have a1:hX 5 "Cellar" "day_passes" (eR [5] aI 2 (a8 (ap 8) (a8 (gj (ag)) (ag)))) (R C y1 z1 V)= .ok (.int 1,R C' y1 z1 V):=Bm (n:=0) (N:=(n:Int)) (now:=bF (n:Int) m0) (hs:=[]) rfl (af rfl (af (d:= .lst []) rfl rfl)) rfl (yp Tc Tb QS) rfl
  have a0:kn ay 2 (wA (hX 5 "Cellar" "day_passes" (eR [5] aI 2 (a8 (ap 8) (a8 (gj (ag)) (ag))))) (wA (xS (fC (.int 1))) (Ak))) (R C y1 z1 V)= .ok (.bl true,R C' y1 z1 V):=wx a1 rfl (iF 1)
  have a2:=sN a0
  have a3:zV (il [5] (dC (cM (aD ay 2 (a8 (c3 "Day" "rises" (b9 "Cellar" "day" 2 av (ap 5) (a8 (fC (.int 1)) (ag)))) (a8 (fY cG (a8 (al 8) (ag))) (ag))))))) (R C' y1 z1 V)= .ok (false,R C' y1 z1 V):=by
   unfold zV
   rw[show il [5] (dC (cM (aD ay 2 (a8 (c3 "Day" "rises" (b9 "Cellar" "day" 2 av (ap 5) (a8 (fC (.int 1)) (ag)))) (a8 (fY cG (a8 (al 8) (ag))) (ag)))))) (R C' y1 z1 V)= .ok false by
    show (dC (cM (aD ay 2 (a8 (c3 "Day" "rises" (b9 "Cellar" "day" 2 av (ap 5) (a8 (fC (.int 1)) (ag)))) (a8 (fY cG (a8 (al 8) (ag))) (ag)))))) (R (some (.val (.ins "Cellar" (dS (n:Int) (bF (n:Int) m') Ko)))) y1 z1 V)=_
    unfold dC
    rw[jf (b:=true) (cT (n:=2) (af (d:= .tup (ri.map .int)) (dA (fds:=y3 (n:Int) ⟨[],ri,ui []⟩) (eX (n:=2) (fds:=dS (n:Int) (bF (n:Int) m') Ko) (ds:=[.int 1]) rfl rfl rfl (wv (m:=m') (hs:=Ko) (k:=0) (by simp[m',Mo.passes])) rfl) rfl) (af (d:= .tup (ri.map .int)) (dr (af (d:= .lst (ri.map .int)) rfl rfl) rfl) rfl)) rfl (kG ri (by omega)))]
    rfl,ah]
  exact yE (by unfold v_;rw[a2,ah,if_neg (by simp),a3]))]
 unfold vY zX
 have t0:xS (f2 oE (al 1) (fC (.int 0))) (R C' y1 z1 V)= .ok (.bl (decide ((n:Int)=0)),R C' y1 z1 V):=by
  unfold xS
  rw[aG (a:= .int (n:Int)) (b:= .int 0) rfl rfl kP,ah]
 rw[t0]
 by_cases z:(n:Int)=0
 ·rw[decide_eq_true z];rfl
 ·rw[decide_eq_false z]
  have hp:m'.Ok:=⟨.nil,λr h=>(by cases h),(by show 0<=12;omega), .refl _, .nil,λx h=>(by cases h),(by show 0<=10;omega),by simp[m',Mo.passes,m0]⟩
  obtain⟨s',k',e'⟩:=Bk (n:=n) (m:=m') (hs:=Ko) hp rfl rfl (by simp[Ko]) (b:=1+cel ns 4%(n:Int)) (by have:=Jk (cel ns 4) z;omega) (by have:=Int.emod_lt_of_pos (cel ns 4) (show (0:Int)<n by omega);omega)
  have a1:hX 5 "Cellar" "stream_comes" (eR [5] aJ 2 (a8 (fC (.int 0)) (a8 (f2 fS (fC (.int 1)) (f2 kd (aD bg 2 (a8 (ap 0) (a8 (fC (.int 4)) (ag)))) (al 1))) (ag)))) (R C' y1 z1 V)= .ok (.int 1,R (some s') y1 z1 V):=Bm (n:=0) (N:=(n:Int)) (now:=bF (n:Int) m') (hs:=Ko) rfl (af rfl (af (aG (a:= .int 1) rfl (aG (ce 4 (x:=4) rfl rfl) (b:= .int (n:Int)) rfl (ef (by omega))) m6) rfl)) rfl e' k'
  have a2:=wx (m:=ay) (g:=fC (.int 1)) a1 rfl (iF 1)
  exact(congrArg (λr=>r>>=λr=>L2.Pu.R.ok (aR.ret r.1)) a2).trans rfl
end My
end
inductive PySem.W.Fast
|tw10059392976401110726|tw10152247767617171989|tw10286004412518249621|tw10406217301622067423|tw10408922443245884796|tw10536145621848901844|tw10657109930975649417|tw10910572597256630522|tw109116571203868132|tw10973787613874955603|tw11089388064792989850|tw11725880945074451862|tw11820901283845697511|tw11824750035119228202|tw11889410126310684898|tw12019447661817763528|tw12058597656274488317|tw1222578695881703223|tw12295322148227779157|tw12428320327152209414|tw12472827623010831579|tw12555203318123055625|tw12656455189041696307|tw12741418119937254321|tw1276153330694337633|tw12828601166146600158|tw13045933436070709354|tw13108184381317678089|tw13215372180527881329|tw13273642835147582312|tw13288901904364948973|tw13398214701859366654|tw13649517080945229271|tw1367724703496615416|tw13696615555204882731|tw14081262886959767295|tw14123488744757623656|tw14136935976152768383|tw14147313356279631598|tw14172647205101243786|tw14445276114227859589|tw14515329128114766555|tw14574502310219256589|tw1463777351529823213|tw14785200739093715523|tw14824158309679418656|tw14865181530944327726|tw15250520510051584149|tw15387094905583385447|tw15411238160732757658|tw15470955123517438908|tw1567005325998975070|tw15810324475456696864|tw15918940617633644113|tw16000337553475056237|tw16036170043337146061|tw16451931458113226015|tw16710456214231354786|tw16840497835223112257|tw16872072157108702904|tw16968003675827607531|tw16995063428169745485|tw1700626607893975608|tw1704826395543992994|tw17138913231213884079|tw17233162051498623755|tw17332680216431477884|tw17598517143132080712|tw18061170497775787029|tw18126259414529645794|tw18155860509319188437|tw1827929062885249036|tw1835779898219164140|tw18397527752609794527|tw193634709967828751|tw2101951925276285060|tw2176774552652340369|tw228120655383619698|tw2291161062120229163|tw2316085845291033859|tw2363312723841852188|tw2539346849810878097|tw2642572816767962121|tw285483689409076223|tw2887455126693428193|tw2969266769301364896|tw3077772038414318549|tw310548979893046347|tw3135279074536349104|tw3155229245212584563|tw3214515755162843681|tw3214756185542725369|tw3243708524353020205|tw3280905739881351647|tw3390175289520147318|tw3654431215300265939|tw3677829472705211638|tw3979073070236075964|tw3998046065858629558|tw4179710393145863672|tw4707411347099938218|tw4797732430322906391|tw5242863773382999272|tw5422639137520917323|tw5530709139904667723|tw5664257231941955052|tw5757787028189764195|tw5775296995619982341|tw6108217966328006938|tw6183403553322457943|tw619386716652537841|tw622591081462168100|tw6245028158525594172|tw6294368890966487637|tw6357459360194468232|tw6418742200959948081|tw643199124360335330|tw6635929104432978219|tw675882874307330900|tw6766530177203456879|tw6943698318638860079|tw69767089346583548|tw7056230978263442423|tw7219385583326087254|tw7247293969288220186|tw7268777023222223564|tw732628569613675730|tw7418167874522708236|tw7450193389102295442|tw7596385855834240485|tw7618497075825142831|tw7679406097794073360|tw7679676331782419045|tw7805410935267987546|tw7817498341041154944|tw7842299517183867224|tw7843297112141463478|tw7969882570537565908|tw8005490188930448560|tw8213057200544701367|tw823625017625476056|tw8266962344231256403|tw8305050465111579186|tw8395974744307165449|tw8889801399845087778|tw9007496521904358970|tw9049829057585249202|tw9192759140173436973|tw9336183510219529379|tw9646433292400746532|tw9738179590891611420|tw9777228047040491431|tw9973618967784969598
open PySem PySem.W PyProof.Rows
set_option maxRecDepth 100000 in
set_option maxHeartbeats 0 in
theorem PySem.Challenge.cw_tankbalance_k19_new_cellar_holds : PySem.Challenge.rw_tankbalance_k19_new_cellar.Holds := by
  w_on; o_law; k_head; (case hw => w_witness2)
  k_fill
  refine My.walk (l := PySem.Challenge.rw_tankbalance_k19_new_cellar) rfl rfl (fun w h Y => PySem.W.kIn_of Y) My.main ?F
  case F =>
    intro w mg fa h KX G hmg
    refine' My.A1 KX G hmg ?_ ?_ ?_ ?_ ?_ ?_ ?_ ?_ ?_ ?_ ?_ ?_ ?_ ?_ ?_ ?_ ?_ ?_ ?_ ?_ ?_ ?_ ?_ ?_ ?_ ?_ ?_ ?_ ?_ ?_ ?_ ?_ ?_ ?_ ?_ ?_ ?_ ?_ ?_ ?_ ?_ ?_ ?_ ?_ ?_ ?_ ?_ ?_ ?_ ?_ ?_ ?_ ?_ ?_ ?_ ?_ ?_ ?_ ?_ ?_ ?_ ?_ ?_ ?_ ?_ ?_ ?_ ?_ ?_ ?_ ?_ ?_ ?_ ?_ ?_ ?_ ?_ ?_ ?_ ?_ ?_ ?_ ?_ ?_ ?_ ?_ ?_ ?_ ?_ ?_ ?_ ?_ ?_ ?_ ?_ ?_ ?_ ?_ ?_ ?_ ?_ ?_ ?_ ?_ ?_ ?_ ?_ ?_ ?_
    all_goals try first | k_is | k_exc | (refine' L2.Pu.UF.of ?_ ?_ ?_ ?_ <;> try k_is) | (refine' L2.Pu.lc.of ?_ ?_ ?_ ?_ ?_ <;> try k_is)
    all_goals try (repeat' (first | exact True.intro | refine And.intro ?_ ?_ | (refine @Eq.trans _ _ (some true) _ ?_ rfl; k_is) | (refine @Eq.trans _ _ (some false) _ ?_ rfl; k_is) | k_is | k_exc))
