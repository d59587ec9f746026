import PyProof.Rows.All
import Wide.All
import OpenK.AllK
import Wide.FinOn
import Lean
import PyProof.EqAt
import PyProof.EqKinds
import PyProof.TupleCall
import PyProof.NeKinds
import PySem.Challenge.RW_tankbalance_k20_streams_come_and_go
set_option Elab.async false
set_option linter.all false
set_option maxRecDepth 100000
set_option maxHeartbeats 4000000
local macro_rules | `(tactic| omega) => `(tactic| lia)
namespace L2
open PySem PySem.Spec PyProof.Rows
noncomputable abbrev cb:=Sum Int Str
noncomputable def kr:cb->Value->Bool
 | .inl k,v=>Value.isInt k v
 | .inr x,v=>Value.isStrOf x v
noncomputable def xO (w:World):cb->Int
 | .inl k=>hashInt k
 | .inr x=>hashStr w x
theorem bJ:∀{k:cb} {v:Value},kr k v=true->(∃i t,k=Sum.inl i/\v=Value.int i t)\/(∃x t,k=Sum.inr x/\v=Value.str x t)
 | .inl i,v,h=>by
  obtain⟨t,e⟩:=Value.isInt_shape (k:=i) (v:=v) h
  exact .inl ⟨i,t,rfl,e⟩
 | .inr x,v,h=>by
  obtain⟨t,e⟩:=Value.isStrOf_shape (x:=x) (v:=v) h
  exact .inr ⟨x,t,rfl,e⟩
theorem pf (i:Int) (t:Tok):kr (.inl i) (.int i t)=true:=by simp[kr,Value.isInt]
theorem ph (x:Str) (t:Tok):kr (.inr x) (.str x t)=true:=by simp[kr,Value.isStrOf]
theorem uM (a b:Int):decide ((Sum.inl a:cb)=Sum.inl b)=(a==b):=by
 by_cases e:a=b
 ·subst e;simp
 ·have h:¬(Sum.inl a:cb)=Sum.inl b:=fun q=>e (Sum.inl.inj q)
  rw[decide_eq_false h]
  exact(beq_eq_false_iff_ne.mpr e).symm
theorem uN (a b:Str):decide ((Sum.inr a:cb)=Sum.inr b)=decide (a=b):=by
 by_cases e:a=b
 ·subst e;simp
 ·have h:¬(Sum.inr a:cb)=Sum.inr b:=fun q=>e (Sum.inr.inj q)
  rw[decide_eq_false h,decide_eq_false e]
theorem uO (a:Int) (b:Str):decide ((Sum.inl a:cb)=Sum.inr b)=false:=decide_eq_false (fun q=>nomatch q)
theorem uP (a:Str) (b:Int):decide ((Sum.inr a:cb)=Sum.inl b)=false:=decide_eq_false (fun q=>nomatch q)
noncomputable def cT (prog:Program) (w:World):PySem.KeyKind prog w cb where
 is:=kr
 hash:=xO w
 inj:=fun v a b ha hb=>by
  rcases bJ ha with ⟨i,t,rfl,rfl⟩|⟨x,t,rfl,rfl⟩
  ·rcases bJ hb with ⟨j,u,rfl,e⟩|⟨y,u,rfl,e⟩
   ·injection e with e1 _;rw[e1]
   ·exact nomatch e
  ·rcases bJ hb with ⟨j,u,rfl,e⟩|⟨y,u,rfl,e⟩
   ·exact nomatch e
   ·injection e with e1 _;rw[e1]
 byValue:=fun k v h=>by
  rcases bJ h with ⟨i,t,rfl,rfl⟩|⟨x,t,rfl,rfl⟩<;>rfl
 pyHash:=fun hv h=>by
  rcases bJ hv with ⟨i,t,rfl,rfl⟩|⟨x,t,rfl,rfl⟩
  ·exact wpAny_pyHash_int h
  ·exact wpAny_pyHash_str h
 eqBool:=fun hu hv h=>by
  rcases bJ hu with ⟨i,t,rfl,rfl⟩|⟨x,t,rfl,rfl⟩
  ·rcases bJ hv with ⟨j,u,rfl,rfl⟩|⟨y,u,rfl,rfl⟩
   ·rw[uM]at h;exact wpAny_eqBool_int h
   ·rw[uO]at h;exact SeqAt.EqAt.int_str i t y u _ _ _ _ h
  ·rcases bJ hv with ⟨j,u,rfl,rfl⟩|⟨y,u,rfl,rfl⟩
   ·rw[uP]at h;exact SeqAt.EqAt.str_int x t j u _ _ _ _ h
   ·rw[uN]at h;exact wpAny_eqBool_str h
 «strs»:=fun k x t v h=>by
  rcases bJ h with ⟨i,u,rfl,e⟩|⟨y,u,rfl,e⟩
  ·exact nomatch e
  ·injection e with e1 _
   subst e1
   cases v<;>rfl
theorem lW (prog:Program) (w:World) (i:Int) (t:Tok):(cT prog w).is (.inl i) (.int i t)=true:=pf i t
theorem lX (prog:Program) (w:World) (x:Str) (t:Tok):(cT prog w).is (.inr x) (.str x t)=true:=ph x t
end L2
namespace L2
open PySem PySem.Spec PyProof.Rows
inductive V where
 |non|bl (b:Bool)|int (i:Int)|str (x:Str)|byt (b:Array UInt8)|flt (b:UInt64)|ref (a:Addr)|ty (n:String)
 deriving DecidableEq
noncomputable def bg:V->Value->Prop
 | .non,u=>u=Value.none
 | .bl b,u=>u=Value.bool b
 | .int i,u=>∃t,u=Value.int i t
 | .str x,u=>∃t,u=Value.str x t
 | .byt b,u=>∃t,u=Value.bytes b t
 | .flt b,u=>∃t,u=Value.float b t
 | .ref a,u=>u=Value.ref a
 | .ty n,u=>u=Value.type n
noncomputable abbrev aM:List V->List Value->Prop:=Paired bg
theorem aM.length {xs:List V} {us:List Value} (r:aM xs us):xs.length=us.length:=Paired.length r
theorem aM.get:∀{xs:List V} {us:List Value} {i:Nat} {x:V},aM xs us->xs[i]? =some x->∃u,us[i]? =some u/\bg x u
 |_,_,_,_, .nil,e=>by simp at e
 |_,_,0,_, .cons r _,e=>by simp at e;subst e;exact⟨_,rfl,r⟩
 |_,_,i+1,x, .cons _ t,e=>by
  obtain⟨u,h1,h2⟩:=aM.get (i:=i) (x:=x) t (by simpa using e)
  exact⟨u,by simpa using h1,h2⟩
theorem aM.set {x:V} {u:Value} (r:bg x u):∀{xs:List V} {us:List Value} (i:Nat),aM xs us->aM (xs.set i x) (us.set i u)
 |_,_,_, .nil=> .nil
 |_,_,0, .cons _ t=> .cons r t
 |_,_,i+1, .cons q t=> .cons q (aM.set r i t)
theorem aM.append:∀{xs ys:List V} {us ws:List Value},aM xs us->aM ys ws->aM (xs++ys) (us++ws)
 |_,_,_,_, .nil,s=>s
 |_,_,_,_, .cons r t,s=> .cons r (aM.append t s)
theorem aM.take:∀{xs:List V} {us:List Value} (n:Nat),aM xs us->aM (xs.take n) (us.take n)
 |_,_,0,_=> .nil
 |_,_,_+1, .nil=> .nil
 |_,_,n+1, .cons r t=> .cons r (aM.take n t)
theorem aM.drop:∀{xs:List V} {us:List Value} (n:Nat),aM xs us->aM (xs.drop n) (us.drop n)
 |_,_,0,r=>r
 |_,_,_+1, .nil=> .nil
 |_,_,n+1, .cons _ t=>aM.drop n t
noncomputable def fO:Option V->Option Value->Prop
 |some v,some u=>bg v u
 |none,none=>True
 |_,_=>False
noncomputable def KV {κ:Type}:List (κ×V)->List (κ×Value)->Prop:=Paired fun (p:κ×V) (q:κ×Value)=>p.1=q.1/\bg p.2 q.2
noncomputable def kV:cb->V
 | .inl i=> .int i
 | .inr x=> .str x
inductive HO where
 |lst (xs:List V)
 |tup (xs:List V)
 |dK (kvs:List (cb×V))|dT (kvs:List (List cb×V))
 |set (S:Int->Bool) (n:Nat)
 |ins (C dx:Addr) (fs:List (Str×V))
 |own (x:Addr)
 |xd (fs:List (Str×V))
 |met (f x:Addr)
 |rng (lo hi:Int)
 |frz (o:Obj) (u:HO)
 |tbl (ps:Array Value)
 |ext (φ:Heap->Prop)
noncomputable abbrev Hp:=Addr->Option HO
noncomputable def bn (H:Hp) (a:Addr) (o:HO):Hp:=fun b=>if b=a then some o else H b
theorem ar {H:Hp} {a:Addr} {o:HO}:bn H a o a=some o:=by unfold bn;rw[if_pos rfl]
theorem aj {H:Hp} {a b:Addr} {o:HO} (h:b≠a):bn H a o b=H b:=by unfold bn;rw[if_neg h]
theorem dW {H:Hp} {a b:Addr} {o:HO} (h:H a=some o) (h':H b=none):a≠b:=by
 intro e;subst e;rw[h]at h';cases h'
noncomputable def e_ (h:Heap) (a:Addr) (items:Array Value):Prop:=∃o,h.get? a=some o/\o.cls= .type "tuple"/\∃n,o.data= .seq items n/\o.dict=none
theorem e_.tup {h:Heap} {a:Addr} {items:Array Value} (x:e_ h a items):IsTup h a items:=let ⟨o,ho,hc,n,hd,_⟩:=x;⟨o,ho,hc,n,hd⟩
theorem e_.lt {h:Heap} {a:Addr} {items:Array Value} (x:e_ h a items):a<h.objs.size:=x.tup.lt
theorem e_.new (h:Heap) (items:Array Value):e_ (h.push {cls:= .type "tuple",data:= .seq items}) h.objs.size items:=⟨_,Heap.get?_push_size _ rfl,rfl,_,rfl,rfl⟩
section
variable (P:Program) (w:World)
noncomputable def bO (H:Hp) (h:Heap) (a:Addr):HO->Prop
 | .lst xs=>xs.length<=sizeLine/\∃(its:List Value) (n:Nat),aM xs its/\h.get? a=some {cls:= .type "list",data:= .seq its.toArray n}
 | .tup xs=>xs.length<=sizeLine/\∃its:List Value,aM xs its/\e_ h a its.toArray
 | .dK kvs=>kvs.length<=sizeLine/\(a==sysModules)=false/\∃vs,KV kvs vs/\h.DictOf (cT P w) a vs
 | .dT kvs=>kvs.length<=sizeLine/\(a==sysModules)=false/\∃xs:List (List cb×Addr×Value),
   Paired (fun (p:List cb×V) (q:List cb×Addr×Value)=>p.1=q.1/\H q.2.1=some (.tup (p.1.map kV))/\bg p.2 q.2.2) kvs xs/\
   ∃o es ep,h.get? a=some o/\o.ExactDict/\o.data= .dict es ep/\es.toList=xs.map (entryOfKey (tupleKind (cT P w)))/\(xs.map (·.1)).Nodup
 | .set S n=>h.SetOf (intKind P w) a S n
 | .ins C dx fs=>H dx=some (.own a)/\fs.length<=1000/\dx≠a/\h.get? a=some (PySem.W.instObj C dx)/\
   ∃mA,h.Ns1 dx mA/\(∀f,fO (fs.lookup f) (mA f))/\PySem.Within mA (fs.map (·.1))
 | .own _=>∃o,h.get? a=some o
 | .xd fs=>∃mA,h.Ns1 a mA/\∀f,fO (fs.lookup f) (mA f)
 | .rng lo hi=>∃t u v,h.get? a=some {cls:= .type "range",data:= .fields #[.int lo t, .int hi u, .int 1 v]}
 | .frz o u=>h.get? a=some o/\bO H h a u
 | .tbl ps=>h.get? a=some {cls:= .none,data:= .fields ps}
 | .met f x=>h.get? a=some (PySem.W.methodObj (.ref f) (.ref x))
 | .ext φ=>φ h/\(∃o,h.get? a=some o)/\∀h1 h2:Heap,φ h1->(∀o,h1.get? a=some o->h2.get? a=some o)->φ h2
noncomputable def gM (H:Hp) (h:Heap):Prop:=∀a o,H a=some o->bO P w H h a o
end
section
variable {P:Program} {w:World} {H H':Hp} {h h':Heap} {a:Addr} {o:HO}
theorem bO.lt (x:bO P w H h a o):a<h.objs.size:=by
 cases o with
 |lst xs=>obtain⟨_,_,_,_,e⟩:=x;exact Heap.lt_size e
 |tup xs=>obtain⟨_,_,_,p⟩:=x;exact p.lt
 |dK kvs=>obtain⟨_,_,_,_,o,_,_,e,_⟩:=x;exact Heap.lt_size e
 |dT kvs=>obtain⟨_,_,_,_,o,_,_,e,_⟩:=x;exact Heap.lt_size e
 |set S n=>obtain⟨o,_,_,_,e,_⟩:=x;exact Heap.lt_size e
 |ins C dx fs=>obtain⟨_,_,_,e,_⟩:=x;exact Heap.lt_size e
 |own y=>obtain⟨_,e⟩:=x;exact Heap.lt_size e
 |xd fs=>obtain⟨_,⟨_,_,_,e,_⟩,_⟩:=x;exact Heap.lt_size e
 |rng lo hi=>obtain⟨_,_,_,e⟩:=x;exact Heap.lt_size e
 |frz ob u=>obtain⟨e,_⟩:=x;exact Heap.lt_size e
 |tbl ps=>exact Heap.lt_size (show h.get? a=some _ from x)
 |met f y=>exact Heap.lt_size (show h.get? a=some _ from x)
 |ext φ=>obtain⟨_,⟨_,e⟩,_⟩:=x;exact Heap.lt_size e
theorem Paired.mapP {α β:Type} {F G:α->β->Prop}:∀{l₁:List α} {l₂:List β},Paired F l₁ l₂->(∀a b,F a b->G a b)->Paired G l₁ l₂
 |_,_, .nil,_=> .nil
 |_,_, .cons r t,f=> .cons (f _ _ r) (Paired.mapP t f)
theorem bO.stay (x:bO P w H h a o) (k:∀b u,(b=a\/H b=some (.own a))->h.get? b=some u->h'.get? b=some u)
  (ho:∀b,H b=some (.own a)->H' b=some (.own a)) (ht:∀b xs,H b=some (.tup xs)->H' b=some (.tup xs)):bO P w H' h' a o:=by
 induction o with
 |lst xs=>obtain⟨z,its,n,r,e⟩:=x;exact⟨z,its,n,r,k _ _ (.inl rfl) e⟩
 |tup xs=>obtain⟨z,its,r,ob,e,c⟩:=x;exact⟨z,its,r,ob,k _ _ (.inl rfl) e,c⟩
 |dK kvs=>obtain⟨z,y,vs,r,ob,es,ep,e,c⟩:=x;exact⟨z,y,vs,r,ob,es,ep,k _ _ (.inl rfl) e,c⟩
 |dT kvs=>
  obtain⟨z,y,xs,r,ob,es,ep,e,c⟩:=x
  exact⟨z,y,xs,Paired.mapP r fun p q z=>⟨z.1,ht _ _ z.2.1,z.2.2⟩,ob,es,ep,k _ _ (.inl rfl) e,c⟩
 |set S n=>obtain⟨ob,es,ep,t,e,c⟩:=x;exact⟨ob,es,ep,t,k _ _ (.inl rfl) e,c⟩
 |ins C dx fs=>
  obtain⟨d,z,ne,e,mA,⟨od,es,ep,e2,c⟩,r⟩:=x
  exact⟨ho _ d,z,ne,k _ _ (.inl rfl) e,mA,⟨od,es,ep,k _ _ (.inr d) e2,c⟩,r⟩
 |own y=>obtain⟨ob,e⟩:=x;exact⟨ob,k _ _ (.inl rfl) e⟩
 |xd fs=>obtain⟨mA,⟨od,es,ep,e,c⟩,r⟩:=x;exact⟨mA,⟨od,es,ep,k _ _ (.inl rfl) e,c⟩,r⟩
 |rng lo hi=>obtain⟨t,u,v,e⟩:=x;exact⟨t,u,v,k _ _ (.inl rfl) e⟩
 |frz ob u ih=>obtain⟨e,q⟩:=x;exact⟨k _ _ (.inl rfl) e,ih q⟩
 |tbl ps=>
  have e:h.get? a=some {cls:= .none,data:= .fields ps}:=x
  show h'.get? a=some {cls:= .none,data:= .fields ps}
  exact k a _ (.inl rfl) e
 |met f y=>
  have e:h.get? a=some (PySem.W.methodObj (.ref f) (.ref y)):=x
  show h'.get? a=some (PySem.W.methodObj (.ref f) (.ref y))
  exact k a _ (.inl rfl) e
 |ext φ=>obtain⟨p,⟨o,e⟩,st⟩:=x;exact⟨st _ _ p fun o q=>k _ _ (.inl rfl) q,⟨o,k _ _ (.inl rfl) e⟩,st⟩
theorem gM.lt (x:gM P w H h) (e:H a=some o):a<h.objs.size:=(x a o e).lt
theorem gM.fresh (x:gM P w H h) (e:h.objs.size<=a):H a=none:=by
 cases q:H a with
 |none=>rfl
 |some u=>exact absurd (Nat.lt_of_lt_of_le (x.lt q) e) (Nat.lt_irrefl _)
theorem gM.kept (x:gM P w H h) (k:∀b u,h.get? b=some u->h'.get? b=some u):gM P w H h':=fun a o e=>
 (x a o e).stay (fun b u _ q=>k b u q) (fun _ q=>q) fun _ _ q=>q
theorem gM.laid (x:gM P w H h) (k:∀b u,h.get? b=some u->h'.get? b=some u) (hp:h.objs.size<=a) (new:bO P w (bn H a o) h' a o):gM P w (bn H a o) h':=fun b u e=>by
 have hn:=x.fresh hp
 by_cases hb:b=a
 ·subst hb;rw[ar]at e;cases e;exact new
 ·rw[aj hb]at e
  exact(x b u e).stay (fun c v _ q=>k c v q) (fun c q=>by rw[aj (dW q hn)];exact q) fun c xs q=>by rw[aj (dW q hn)];exact q
end
noncomputable def Rd (H:Hp) (a:Addr) (u:HO):Prop:=H a=some u\/∃o,H a=some (.frz o u)
theorem Rd.of {H:Hp} {a:Addr} {u:HO} (h:H a=some u):Rd H a u:= .inl h
theorem Rd.ok {P:Program} {w:World} {H:Hp} {h:Heap} {a:Addr} {u:HO} (r:Rd H a u) (x:gM P w H h):bO P w H h a u:=by
 rcases r with r|⟨o,r⟩
 ·exact x a u r
 ·obtain⟨_,q⟩:=x a _ r
  exact q
noncomputable def xy:Option HO->Prop
 |some (.lst _)=>True
 |some (.dK _)=>True
 |some (.dT _)=>True
 |some (.set _ _)=>True
 |some (.ins _ _ _)=>True
 |some (.ext _)=>True
 |_=>False
section
variable {P:Program} {w:World} {H:Hp} {h h':Heap} {x e:Addr} {o':HO}
theorem gM.write (ok:gM P w H h) (mu:xy (H x)) (he:e=x\/H e=some (.own x)) (k:∀b u,b≠e->h.get? b=some u->h'.get? b=some u) (heo:∃u,h'.get? e=some u)
  (new:bO P w (bn H x o') h' x o'):gM P w (bn H x o') h':=fun b u q=>by
 have nown:∀c y,H c=some (.own y)->c≠x:=fun c y r z=>by subst z;rw[r]at mu;exact mu
 have ntup:∀c xs,H c=some (.tup xs)->c≠x:=fun c xs r z=>by subst z;rw[r]at mu;exact mu
 by_cases hb:b=x
 ·subst hb;rw[ar]at q;cases q;exact new
 ·rw[aj hb]at q
  by_cases hbe:b=e
  ·have q':H b=some (.own x):=by
    rcases he with z|z
    ·exact absurd (hbe.trans z) hb
    ·rw[hbe];exact z
   rw[q]at q';cases q'
   obtain⟨v,hv⟩:=heo
   exact⟨v,by rw[hbe];exact hv⟩
  ·refine(ok b u q).stay (fun c v hc r=>k c v ?_ r) (fun c r=>by rw[aj (nown c b r)];exact r) fun c xs r=>by rw[aj (ntup c xs r)];exact r
   rcases hc with rfl|hc
   ·exact hbe
   ·rintro rfl
    rcases he with z|z
    ·exact nown c b hc z
    ·rw[hc]at z;cases z;exact hb rfl
end
structure Un (fs ex:List Addr) (H H':Hp) (h h':Heap):Prop where
 keep:∀b o,h.get? b=some o->H b=none->b∉fs->b∉ex->h'.get? b=some o
 slot:∀b o,h.get? b=some o->H b=none->b∈fs->b∉ex->∃sl,h'.get? b=some {o with slots:=sl}
 free:∀b o,h.get? b=some o->H b=none->b∉ex->H' b=none
 there:∀b o,h.get? b=some o->b∉ex->∃o',h'.get? b=some o'
 tups:∀b xs,H b=some (.tup xs)->H' b=some (.tup xs)
 frzs:∀b o u,H b=some (.frz o u)->H' b=some (.frz o u)
 tbls:∀b ps,H b=some (.tbl ps)->∃more,H' b=some (.tbl (ps++more))
section
variable {fs fs' ex ex':List Addr} {H H1 H2:Hp} {h h1 h2 h':Heap} {a x e:Addr} {o:HO}
theorem Un.any (u:Un fs ex H H1 h h1) {b:Addr} {ob:Obj} (q:h.get? b=some ob) (n:H b=none) (hx:b∉ex):∃sl,h1.get? b=some {ob with slots:=sl}:=by
 by_cases hb:b∈fs
 ·exact u.slot b ob q n hb hx
 ·exact⟨ob.slots,u.keep b ob q n hb hx⟩
theorem Un.trans (a:Un fs ex H H1 h h1) (b:Un fs ex H1 H2 h1 h2):Un fs ex H H2 h h2 where
 keep:=fun c ob q n hc hx=>b.keep c ob (a.keep c ob q n hc hx) (a.free c ob q n hx) hc hx
 slot:=fun c ob q n hc hx=>by
  obtain⟨sl,e1⟩:=a.slot c ob q n hc hx
  obtain⟨sl',e2⟩:=b.slot c _ e1 (a.free c ob q n hx) hc hx
  exact⟨sl',e2⟩
 free:=fun c ob q n hx=>by
  obtain⟨o',e1⟩:=a.there c ob q hx
  exact b.free c o' e1 (a.free c ob q n hx) hx
 there:=fun c ob q hx=>by
  obtain⟨o',e1⟩:=a.there c ob q hx
  exact b.there c o' e1 hx
 tups:=fun c xs q=>b.tups c xs (a.tups c xs q)
 frzs:=fun c ob xs q=>b.frzs c ob xs (a.frzs c ob xs q)
 tbls:=fun c ps q=>by
  obtain⟨m1,e1⟩:=a.tbls c ps q
  obtain⟨m2,e2⟩:=b.tbls c _ e1
  exact⟨m1++m2,by rw[e2,Array.append_assoc]⟩
theorem Un.kept (k:∀b u,h.get? b=some u->h'.get? b=some u):Un fs ex H H h h':=
 ⟨fun b ob q _ _ _=>k b ob q,fun b ob q _ _ _=>⟨ob.slots,k b ob q⟩,fun _ _ _ n _=>n,fun b ob q _=>⟨ob,k b ob q⟩,fun _ _ q=>q,fun _ _ _ q=>q,fun _ ps q=>⟨#[],by rw[q];simp⟩⟩
theorem Un.refl:Un fs ex H H h h:=Un.kept fun _ _ q=>q
theorem Un.laid (k:∀b u,h.get? b=some u->h'.get? b=some u) (hp:h.objs.size<=a) (hn:H a=none):Un fs ex H (bn H a o) h h' where
 keep:=fun b u q _ _ _=>k b u q
 slot:=fun b u q _ _ _=>⟨u.slots,k b u q⟩
 free:=fun b u q n _=>by rw[aj (Nat.ne_of_lt (Nat.lt_of_lt_of_le (Heap.lt_size q) hp))];exact n
 there:=fun b u q _=>⟨u,k b u q⟩
 tups:=fun b xs q=>by rw[aj (dW q hn)];exact q
 frzs:=fun b u xs q=>by rw[aj (dW q hn)];exact q
 tbls:=fun b ps q=>⟨#[],by rw[aj (dW q hn),q];simp⟩
theorem Un.write (mu:xy (H x)) (he:e=x\/H e=some (.own x)) (k:∀b u,b≠e->h.get? b=some u->h'.get? b=some u) (heo:∃u,h'.get? e=some u):Un fs ex H (bn H x o) h h':=by
 have hx:∀b,H b=none->b≠x:=fun b n z=>by subst z;rw[n]at mu;exact mu
 have hb:∀b,H b=none->b≠e:=fun b n z=>by
  subst z
  rcases he with r|r
  ·exact hx b n r
  ·rw[n]at r;cases r
 have hm:∀b u,H b=some u->¬xy (some u)->b≠x:=fun b u q nm z=>by subst z;rw[q]at mu;exact nm mu
 refine⟨fun b u q n _ _=>k b u (hb b n) q,fun b u q n _ _=>⟨u.slots,k b u (hb b n) q⟩,fun b u q n _=>by rw[aj (hx b n)];exact n,fun b u q _=> ?_,
  fun b xs q=>by rw[aj (hm b _ q fun z=>z)];exact q,fun b u xs q=>by rw[aj (hm b _ q fun z=>z)];exact q,fun b ps q=>⟨#[],by rw[aj (hm b _ q fun z=>z),q];simp⟩⟩
 by_cases hbe:b=e
 ·subst hbe;exact heo
 ·exact⟨u,k b u hbe q⟩
end
noncomputable def xz (h:Heap) (H:Hp):List Addr:=(List.range h.objs.size).filter fun a=>(H a).isSome
noncomputable def li (h:Heap) (H:Hp):Heap:=PySem.W.hideAll h (xz h H)
theorem pi (h:Heap) (H:Hp):(li h H).objs.size=h.objs.size:=PySem.W.hideAll_size _ _
theorem qt {h:Heap} {H:Hp} {b:Addr} {o:Obj} (e:h.get? b=some o) (n:H b=none):(li h H).get? b=some o:=
 PySem.W.hideAll_get _ e fun hm=>by
  have q:(H b).isSome=true:=(List.mem_filter.mp hm).2
  rw[n]at q;simp at q
theorem sG {h:Heap} {H:Hp} {b:Addr} {o:Obj} (e:(li h H).get? b=some o):h.get? b=some o/\H b=none:=by
 have e':h.get? b=some o:=PySem.W.of_hideAll (xz h H) e
 refine⟨e',?_⟩
 cases q:H b with
 |none=>rfl
 |some x=>
  have hm:b∈xz h H:=List.mem_filter.mpr ⟨List.mem_range.mpr (Heap.lt_size e'),by simp[q]⟩
  have z:(li h H).get? b=none:=PySem.W.hideAll_none (xz h H) hm
  rw[z]at e;cases e
noncomputable def sH (g h:Heap) (L:Addr):List (Addr×Obj):=(List.range h.objs.size).filterMap fun a=>if a=L\/(g.get? a).isSome=true then none else (h.get? a).map fun o=>(a,o)
noncomputable def rest (g h:Heap) (L d:Addr):List (Addr×Obj):=(sH g h L).filter fun p=>decide (p.1≠d)
end L2
namespace L2
open PySem PySem.Spec PyProof.Rows
structure Mod (K:PySem.W.Frag) (mg:Str->Option Value) (base:Heap):Prop where
 kin:K.In base
 glob:base.Ns mainGlobals mg
 blt:∃mb,base.Ns builtinsNs mb/\∀x:Str,x≠"__name__"->mb x=bootBuiltins x
 nolimit:base.NoLimit
structure Cx where
 prog:Program
 w:World
 K:PySem.W.Frag
 mg:Str->Option Value
 base:Heap
 A:Around
 N:List Str
 s₀:Shared
 H₀:Hp
 env:Env
 outer:List Env
 stack:List Env
 ex:List Addr
 fn:Str->Bool
 calm:Bool
 pn:List (Addr×Obj)
 xe:Value->Shared->Prop
noncomputable def jg (l:List Env):List Addr:=l.filterMap (·.frame)
noncomputable abbrev Cx.fs (X:Cx):List Addr:=jg X.outer
noncomputable def kh (sc:Scope) (x:Str):Prop:=sc.names.lookup x=some .local\/sc.names.lookup x=some .cell\/sc.names.lookup x=some .free
noncomputable def qu (sc:Scope) (x:Str):Prop:=sc.names.lookup x=some .local\/sc.names.lookup x=some .cell
noncomputable def xP (env:Env) (h:Heap) (m:Str->Option Value) (x:Str) (u:Value):Prop:=
 (env.kindOf x=some .local/\m x=some u)\/((env.kindOf x=some .cell\/env.kindOf x=some .free)/\∃c,env.cells.lookup x=some c/\h.IsCell c (some u))
structure Cx.Ok (X:Cx):Prop where
 mod:Mod X.K X.mg X.base
 kind:X.env.scope.kind= .function
 glob:X.env.globals=mainGlobals
 blt:X.env.builtins=builtinsNs
 above:X.s₀.heap.objs.size<=X.env.locals
 inj:∀x y c,X.env.cells.lookup x=some c->X.env.cells.lookup y=some c->x=y
 has:∀x,(X.env.kindOf x=some .cell\/X.env.kindOf x=some .free)->∃c,X.env.cells.lookup x=some c
 cab:∀x c,X.fn x=true->X.env.cells.lookup x=some c->X.s₀.heap.objs.size<=c
 hd:X.calm=true->X.A.handled=none
 frames:X.A.frames=some X.stack
 stk:X.stack=X.outer\/(X.stack=X.env::X.outer/\X.env.frame=some X.env.locals)
 exf:∀b∈X.ex,b≠X.env.locals/\∀x c,X.env.cells.lookup x=some c->c≠b
 bs:∀b o,X.base.get? b=some o->X.s₀.heap.get? b=some o/\X.H₀ b=none
 bsz:X.base.objs.size<=X.s₀.heap.objs.size
 noex:∀b o,X.base.get? b=some o->b∉X.ex
 exfs:∀b∈X.ex,b∉X.fs
 funs:X.s₀.heap.FunFrames X.base X.outer
 frf:∀b∈X.fs,X.H₀ b=none
structure au (X:Cx) (pins:List (Addr×Obj)) (σ:List (Option V)) (H:Hp) (s:Shared):Prop where
 ok:X.Ok
 os:s.os=X.s₀.os
 bare:AllBare s.gens
 base:Un X.fs X.ex X.H₀ H X.s₀.heap s.heap
 loc:∃m,s.heap.Ns X.env.locals m/\∀(i:Nat) (x:Str) (v:V),X.N[i]? =some x->σ[i]? =some (some v)->kh X.env.scope x->∃u,bg v u/\xP X.env s.heap m x u
 cell:∀x c,X.env.cells.lookup x=some c->∃v,s.heap.IsCell c v
 free:H X.env.locals=none
 freeC:∀x c,X.env.cells.lookup x=some c->H c=none
 pin:∀p∈X.pn++pins,s.heap.get? p.1=some p.2/\H p.1=none/\p.1≠X.env.locals/\p.1∉X.fs/\∀v,p.2.data≠ .cell v
 hok:gM X.prog X.w H s.heap
 len:σ.length=X.N.length
section
variable {X:Cx} {pins:List (Addr×Obj)} {σ:List (Option V)} {H H':Hp} {s:Shared} {h':Heap}
theorem Cx.Ok.nofr (ok:X.Ok) {b:Addr} {o:Obj} (e:X.base.get? b=some o):b∉X.fs:=fun hb=>by
 have:=(ok.funs.mem hb).1
 rw[e]at this;cases this
theorem au.bs (I:au X pins σ H s):∀b o,X.base.get? b=some o->s.heap.get? b=some o/\H b=none:=fun b o e=>
 ⟨I.base.keep b o (I.ok.bs b o e).1 (I.ok.bs b o e).2 (I.ok.nofr e) (I.ok.noex b o e),I.base.free b o (I.ok.bs b o e).1 (I.ok.bs b o e).2 (I.ok.noex b o e)⟩
theorem au.bk (I:au X pins σ H s):∀b o,X.base.get? b=some o->s.heap.get? b=some o:=fun b o e=>(I.bs b o e).1
theorem au.mod (I:au X pins σ H s):Mod X.K X.mg X.base:=I.ok.mod
theorem au.kIn (I:au X pins σ H s):X.K.In s.heap:=I.ok.mod.kin.keeps I.bk
theorem au.lt (I:au X pins σ H s):X.env.locals<s.heap.objs.size:=let ⟨_,hn,_⟩:=I.loc;hn.lt
theorem au.sz (I:au X pins σ H s):X.s₀.heap.objs.size<=s.heap.objs.size:=Nat.le_trans I.ok.above (Nat.le_of_lt I.lt)
theorem au.nofs (I:au X pins σ H s) {a:Addr} (h:s.heap.objs.size<=a):a∉X.fs:=fun hb=>by
 obtain⟨_,o,ho,_⟩:=I.ok.funs.mem hb
 exact absurd (Nat.lt_of_lt_of_le (Heap.lt_size ho) (Nat.le_trans I.sz h)) (Nat.lt_irrefl _)
theorem au.cne (I:au X pins σ H s):∀x c,X.env.cells.lookup x=some c->c≠X.env.locals:=fun x c e z=>by
 obtain⟨v,o,ho,hd⟩:=I.cell x c e
 obtain⟨m,⟨o',es,ep,ho',hd',_⟩,_⟩:=I.loc
 rw[z,ho']at ho;cases ho;rw[hd']at hd;cases hd
theorem au.funs (I:au X pins σ H s):s.heap.FunFrames X.base X.outer:=by
 have all:∀(l:List Env),(∀b∈jg l,b∈X.fs)->X.s₀.heap.FunFrames X.base l->s.heap.FunFrames X.base l:=by
  intro l
  induction l with
  |nil=>intro _ _;trivial
  |cons env r ih=>
   intro hs hl
   obtain⟨hk,⟨L,o,hf,hn,ho,hd⟩,hr⟩:=hl
   have hL:L∈X.fs:=hs L (by unfold jg;rw[List.filterMap_cons,hf];exact List.mem_cons_self)
   obtain⟨sl,e⟩:=I.base.slot L o ho (I.ok.frf L hL) hL fun z=>I.ok.exfs L z hL
   exact⟨hk,⟨L,_,hf,hn,e,hd⟩,ih (fun b hb=>hs b (by unfold jg;rw[List.filterMap_cons,hf];exact List.mem_cons_of_mem _ hb)) hr⟩
 exact all X.outer (fun _ hb=>hb) I.ok.funs
theorem au.stack (I:au X pins σ H s):s.heap.FunFrames X.base X.stack:=by
 rcases I.ok.stk with e|⟨e,hf⟩
 ·rw[e];exact I.funs
 ·rw[e]
  obtain⟨m,hn,_⟩:=I.loc
  refine .cons (by rw[I.ok.kind];decide) hf hn ?_ I.funs
  exact Heap.get?_none_of_le (Nat.le_trans I.ok.bsz I.ok.above)
theorem au.stkSub (I:au X pins σ H s):∀b∈jg X.stack,b∈X.env.locals::X.fs:=fun b hb=>by
 rcases I.ok.stk with e|⟨e,hf⟩
 ·rw[e]at hb;exact List.mem_cons_of_mem _ hb
 ·rw[e]at hb
  unfold jg at hb
  rw[List.filterMap_cons,hf]at hb
  exact hb
theorem au.stkFree (I:au X pins σ H s):∀b∈jg X.stack,H b=none:=fun b hb=>by
 rcases List.mem_cons.mp (I.stkSub b hb)with e|hb
 ·rw[e];exact I.free
 ·obtain⟨_,o,ho,_⟩:=I.ok.funs.mem hb
  exact I.base.free b o ho (I.ok.frf b hb) fun z=>I.ok.exfs b z hb
theorem au.step {g':Array GenState} {t':Nat} {d':Drawn} {ch:List Addr} (I:au X pins σ H s)
  (hch:∀b∈ch,(b∈X.ex\/X.s₀.heap.get? b=none)/\b≠X.env.locals/\(∀x c,X.env.cells.lookup x=some c->c≠b)/\∀p∈X.pn++pins,p.1≠b)
  (keep:∀b o,b≠X.env.locals->b∉X.fs->b∉ch->s.heap.get? b=some o->H b=none->h'.get? b=some o)
  (slot:∀b o,b≠X.env.locals->b∈X.fs->b∉ch->s.heap.get? b=some o->H b=none->∃sl,h'.get? b=some {o with slots:=sl}) (free:∀b o,b∉ch->s.heap.get? b=some o->H b=none->H' b=none)
  (there:∀b o,b∉ch->s.heap.get? b=some o->∃o',h'.get? b=some o')
  (tups:∀b xs,H b=some (.tup xs)->H' b=some (.tup xs)) (frzs:∀b o u,H b=some (.frz o u)->H' b=some (.frz o u)) (tbls:∀b ps,H b=some (.tbl ps)->∃more,H' b=some (.tbl (ps++more)))
  (ns:∀m,s.heap.Ns X.env.locals m->h'.Ns X.env.locals m) (hok:gM X.prog X.w H' h') (hg:AllBare g'):
  au X pins σ H' {s with heap:=h',gens:=g',drawn:=d',toks:=t'}:=by
 have neL:∀b o,X.s₀.heap.get? b=some o->b≠X.env.locals:=fun b o e=>Nat.ne_of_lt (Nat.lt_of_lt_of_le (Heap.lt_size e) I.ok.above)
 have neC:∀b o,X.s₀.heap.get? b=some o->b∉X.ex->b∉ch:=fun b o e hx hb=>by
  rcases(hch b hb).1 with z|z
  ·exact hx z
  ·rw[e]at z;cases z
 have cellK:∀x c,X.env.cells.lookup x=some c->∀v,s.heap.IsCell c v->h'.IsCell c v:=fun x c e v ⟨o,ho,hd⟩=>by
  have nch:c∉ch:=fun z=>(hch c z).2.2.1 x c e rfl
  by_cases hc:c∈X.fs
  ·obtain⟨sl,q⟩:=slot c o (I.cne x c e) hc nch ho (I.freeC x c e)
   exact⟨_,q,hd⟩
  ·exact⟨o,keep c o (I.cne x c e) hc nch ho (I.freeC x c e),hd⟩
 refine⟨I.ok,I.os,hg,⟨fun b o e n hb hx=> ?_,fun b o e n hb hx=> ?_,fun b o e n hx=> ?_,fun b o e hx=> ?_,fun b xs e=>tups b xs (I.base.tups b xs e),fun b o xs e=>frzs b o xs (I.base.frzs b o xs e),fun b ps e=> ?_⟩,?_,fun x c e=> ?_,?_,fun x c e=> ?_,fun p hp=> ?_,hok,I.len⟩
 ·exact keep b o (neL b o e) hb (neC b o e hx) (I.base.keep b o e n hb hx) (I.base.free b o e n hx)
 ·obtain⟨sl,e1⟩:=I.base.slot b o e n hb hx
  obtain⟨sl',e2⟩:=slot b _ (neL b o e) hb (neC b o e hx) e1 (I.base.free b o e n hx)
  exact⟨sl',e2⟩
 ·obtain⟨o',e1⟩:=I.base.there b o e hx
  exact free b o' (neC b o e hx) e1 (I.base.free b o e n hx)
 ·obtain⟨o',e1⟩:=I.base.there b o e hx
  exact there b o' (neC b o e hx) e1
 ·obtain⟨m1,e1⟩:=I.base.tbls b ps e
  obtain⟨m2,e2⟩:=tbls b _ e1
  exact⟨m1++m2,by rw[e2,Array.append_assoc]⟩
 ·obtain⟨m,hn,hl⟩:=I.loc
  refine⟨m,ns m hn,fun i x v e1 e2 e3=> ?_⟩
  obtain⟨u,r,l⟩:=hl i x v e1 e2 e3
  refine⟨u,r,?_⟩
  rcases l with l|⟨k,c,e,z⟩
  ·exact .inl l
  ·exact .inr ⟨k,c,e,cellK x c e _ z⟩
 ·obtain⟨v,z⟩:=I.cell x c e
  exact⟨v,cellK x c e v z⟩
 ·obtain⟨m,⟨o,_,_,ho,_⟩,_⟩:=I.loc
  exact free _ o (fun z=>(hch _ z).2.1 rfl) ho I.free
 ·obtain⟨v,o,ho,hd⟩:=I.cell x c e
  exact free c o (fun z=>(hch c z).2.2.1 x c e rfl) ho (I.freeC x c e)
 ·obtain⟨e,n,ne,nf,d⟩:=I.pin p hp
  have nch:p.1∉ch:=fun z=>(hch p.1 z).2.2.2 p hp rfl
  exact⟨keep p.1 p.2 ne nf nch e n,free p.1 p.2 nch e n,ne,nf,d⟩
theorem au.un {t':Nat} (I:au X pins σ H s) (u:Un X.fs [] H H' s.heap h') (hok:gM X.prog X.w H' h'):au X pins σ H' {s with heap:=h',toks:=t'}:=by
 obtain⟨m,⟨o,es,ep,ho,r⟩,_⟩:=id I.loc
 obtain⟨sl,hL⟩:=u.any ho I.free (by simp)
 exact I.step (g':=s.gens) (d':=s.drawn) (ch:=[]) (fun _ z=>nomatch z) (fun b o _ hb _ e n=>u.keep b o e n hb (by simp)) (fun b o _ hb _ e n=>u.slot b o e n hb (by simp)) (fun b o _ e n=>u.free b o e n (by simp)) (fun b o _ e=>u.there b o e (by simp)) u.tups u.frzs u.tbls (fun m' hm=>by
  obtain⟨o',es',ep',ho',r'⟩:=hm
  rw[ho]at ho';cases ho'
  exact⟨_,es',ep',hL,r'⟩) hok I.bare
theorem au.call {g':Array GenState} {t':Nat} {d':Drawn} {ch:List Addr} (I:au X pins σ H s) (u:Un (jg X.stack) ch H H' s.heap h') (hok:gM X.prog X.w H' h') (hg:AllBare g')
  (hch:∀b∈ch,(b∈X.ex\/X.s₀.heap.objs.size<=b)/\b≠X.env.locals/\(∀x c,X.env.cells.lookup x=some c->c≠b)/\∀p∈X.pn++pins,p.1≠b):
  au X pins σ H' {s with heap:=h',gens:=g',drawn:=d',toks:=t'}:=by
 obtain⟨m,⟨o,es,ep,ho,r⟩,_⟩:=id I.loc
 obtain⟨sl,hL⟩:=u.any ho I.free fun z=>(hch _ z).2.1 rfl
 exact I.step (ch:=ch) (fun b hb=>⟨(hch b hb).1.imp id Heap.get?_none_of_le,(hch b hb).2⟩) (fun b o hL hb hc e n=>u.keep b o e n (fun z=>(List.mem_cons.mp (I.stkSub b z)).elim hL hb) hc) (fun b o _ _ hc e n=>u.any e n hc) (fun b o hc e n=>u.free b o e n hc) (fun b o hc e=>u.there b o e hc) u.tups u.frzs u.tbls (fun m' hm=>by
  obtain⟨o',es',ep',ho',r'⟩:=hm
  rw[ho]at ho';cases ho'
  exact⟨_,es',ep',hL,r'⟩) hok hg
theorem au.turned {t':Nat} {it:Addr} (I:au X pins σ H s) (k:∀b o,b≠it->s.heap.get? b=some o->h'.get? b=some o) (hn:H it=none) (hL:it≠X.env.locals)
  (h1:it∈X.ex\/X.s₀.heap.objs.size<=it) (h2:∀x c,X.env.cells.lookup x=some c->c≠it) (h3:∀p∈X.pn++pins,p.1≠it):au X pins σ H {s with heap:=h',toks:=t'}:=by
 have nit:∀b u,H b=some u->b≠it:=fun b u e z=>by rw[z,hn]at e;cases e
 refine I.step (g':=s.gens) (d':=s.drawn) (ch:=[it]) (fun b hb=> ?_) (fun b o _ _ hc e _=>k b o (fun z=>hc (by simp[z])) e) (fun b o _ _ hc e _=>⟨o.slots,k b o (fun z=>hc (by simp[z])) e⟩) (fun _ _ _ _ n=>n)
  (fun b o hc e=>⟨o,k b o (fun z=>hc (by simp[z])) e⟩) (fun _ _ e=>e) (fun _ _ _ e=>e) (fun b ps e=>⟨#[],by rw[e];simp⟩) (fun m hm=> ?_) (fun b u e=> ?_) I.bare
 ·have e:b=it:=by simpa using hb
  subst e
  exact⟨h1.imp id Heap.get?_none_of_le,hL,h2,h3⟩
 ·obtain⟨o,es,ep,ho,r⟩:=hm
  exact⟨o,es,ep,k _ o (Ne.symm hL) ho,r⟩
 ·refine(I.hok b u e).stay (fun c v hc q=>k c v ?_ q) (fun _ q=>q) fun _ _ q=>q
  rcases hc with z|z
  ·rw[z];exact nit b u e
  ·exact nit c _ z
theorem au.tok (I:au X pins σ H s) (t:Nat):au X pins σ H {s with toks:=t}:=I.un (h':=s.heap) (t':=t) Un.refl I.hok
theorem au.kept {t':Nat} (I:au X pins σ H s) (k:∀b u,s.heap.get? b=some u->h'.get? b=some u):au X pins σ H {s with heap:=h',toks:=t'}:=I.un (Un.kept k) (I.hok.kept k)
theorem au.laid {a:Addr} {o:HO} {t':Nat} (I:au X pins σ H s) (k:∀b u,s.heap.get? b=some u->h'.get? b=some u) (hp:s.heap.objs.size<=a) (new:bO X.prog X.w (bn H a o) h' a o):
  au X pins σ (bn H a o) {s with heap:=h',toks:=t'}:=I.un (Un.laid k hp (I.hok.fresh hp)) (I.hok.laid k hp new)
theorem au.write {x e:Addr} {o:HO} {t':Nat} (I:au X pins σ H s) (mu:xy (H x)) (he:e=x\/H e=some (.own x)) (k:∀b u,b≠e->s.heap.get? b=some u->h'.get? b=some u) (heo:∃u,h'.get? e=some u)
  (new:bO X.prog X.w (bn H x o) h' x o):au X pins σ (bn H x o) {s with heap:=h',toks:=t'}:=I.un (Un.write mu he k heo) (I.hok.write mu he k heo new)
theorem au.pins_of {pins':List (Addr×Obj)} (I:au X pins σ H s) (h:∀p∈pins',s.heap.get? p.1=some p.2/\H p.1=none/\p.1≠X.env.locals/\p.1∉X.fs/\∀v,p.2.data≠ .cell v):au X pins' σ H s:=
 ⟨I.ok,I.os,I.bare,I.base,I.loc,I.cell,I.free,I.freeC,fun p hp=>(List.mem_append.mp hp).elim (fun z=>I.pin p (List.mem_append_left _ z)) (h p),I.hok,I.len⟩
theorem jt {N:List Str} (hN:N.Nodup) {i j:Nat} {x:Str} (a:N[i]? =some x) (b:N[j]? =some x):i=j:=by
 obtain⟨h1,e1⟩:=List.getElem?_eq_some_iff.mp a
 obtain⟨h2,e2⟩:=List.getElem?_eq_some_iff.mp b
 exact(List.getElem_inj hN).mp (e1.trans e2.symm)
theorem pj {M:Model} {A:Around} {E:Value->Shared->Prop} {i:Nat} {x:Str} {v:V} {u:Value} {Q:Unit->Shared->Prop} (I:au X pins σ H s) (hN:X.N.Nodup) (hi:X.N[i]? =some x) (hx:qu X.env.scope x) (r:bg v u)
  (h:∀s',au X pins (σ.set i (some v)) H s'->(∃a,Heap.SameBut a s.heap s'.heap/\(a=X.env.locals\/X.env.cells.lookup x=some a))->Q () s') (hf:X.fn x=true\/X.env.scope.names.lookup x=some .local:=by first|exact .inl rfl|exact .inr rfl|assumption):wpAny M A (storeName X.env x u) Q E s:=by
 obtain⟨m,hn,hl⟩:=id I.loc
 have hcls:(X.env.scope.kind== .class||(X.env.scope.kind== .module&&X.env.locals != X.env.globals))=false:=by rw[I.ok.kind];rfl
 have hiσ:i<σ.length:=by rw[I.len];exact(List.getElem?_eq_some_iff.mp hi).1
 have cne:=I.cne
 have tracked:∀{a:Addr} {h':Heap},(∃o,s.heap.get? a=some o/\H a=none)->Heap.SameBut a s.heap h'->gM X.prog X.w H h':=fun {a h'} ha hs b ob e=>by
  obtain⟨_,_,hfree⟩:=ha
  refine(I.hok b ob e).stay (fun c w' hc q=>(hs.2 c ?_).trans q) (fun _ q=>q) fun _ _ q=>q
  rintro rfl
  rcases hc with rfl|hc
  ·rw[hfree]at e;cases e
  ·rw[hfree]at hc;cases hc
 rcases hx with hk|hk
 ·refine wpAny_storeName_local hk hn (fun h' hn' hs=> ?_) hcls
  obtain⟨oL,_,_,hoL,_⟩:=id hn
  refine h _ ⟨I.ok,I.os,I.bare,⟨fun b o e n hb hx=> ?_,fun b o e n hb hx=> ?_,I.base.free,fun b o e hx=> ?_,I.base.tups,I.base.frzs,I.base.tbls⟩,⟨_,hn',fun j y v' e1 e2 e3=> ?_⟩,fun y c e=> ?_,I.free,I.freeC,fun p hp=> ?_,tracked ⟨oL,hoL,I.free⟩ hs,by simpa using I.len⟩ ⟨_,hs, .inl rfl⟩
  ·exact(hs.2 b (Nat.ne_of_lt (Nat.lt_of_lt_of_le (Heap.lt_size e) I.ok.above))).trans (I.base.keep b o e n hb hx)
  ·obtain⟨sl,e1⟩:=I.base.slot b o e n hb hx
   exact⟨sl,(hs.2 b (Nat.ne_of_lt (Nat.lt_of_lt_of_le (Heap.lt_size e) I.ok.above))).trans e1⟩
  ·obtain⟨o',e1⟩:=I.base.there b o e hx
   exact⟨o',(hs.2 b (Nat.ne_of_lt (Nat.lt_of_lt_of_le (Heap.lt_size e) I.ok.above))).trans e1⟩
  ·by_cases hj:j=i
   ·subst hj
    rw[hi]at e1;cases e1
    rw[List.getElem?_set_self hiσ]at e2
    cases e2
    exact⟨u,r, .inl ⟨hk,by simp⟩⟩
   ·rw[List.getElem?_set_ne (Ne.symm hj)]at e2
    obtain⟨u',r',q⟩:=hl j y v' e1 e2 e3
    refine⟨u',r',?_⟩
    rcases q with ⟨k,e⟩|⟨k,c,e,z⟩
    ·refine .inl ⟨k,?_⟩
     have:y≠x:=fun e=>hj (jt hN e1 (e▸hi))
     simp[this,e]
    ·exact .inr ⟨k,c,e,z.sameBut hs (cne y c e)⟩
  ·obtain⟨w',z⟩:=I.cell y c e
   exact⟨w',z.sameBut hs (cne y c e)⟩
  ·obtain⟨e,n,ne,nf,d⟩:=I.pin p hp
   exact⟨(hs.2 p.1 ne).trans e,n,ne,nf,d⟩
 ·have hfn:X.fn x=true:=by
   rcases hf with z|z
   ·exact z
   ·rw[z]at hk;cases hk
  obtain⟨c,hc⟩:=I.ok.has x (.inl hk)
  obtain⟨w',z⟩:=I.cell x c hc
  refine wpAny_storeName_cell I.ok.kind hk hc z (fun h' hc' hs=> ?_)
  obtain⟨oc,hoc,hocd⟩:=id z
  refine h {s with heap:=h'} ⟨I.ok,I.os,I.bare,⟨fun b o e n hb hx=> ?_,fun b o e n hb hx=> ?_,I.base.free,fun b o e hx=> ?_,I.base.tups,I.base.frzs,I.base.tbls⟩,⟨m,hn.sameBut hs (Ne.symm (cne x c hc)),fun j y v' e1 e2 e3=> ?_⟩,fun y c' e=> ?_,I.free,I.freeC,fun p hp=> ?_,tracked ⟨oc,hoc,I.freeC x c hc⟩ hs,by simpa using I.len⟩ ⟨c,hs, .inr hc⟩
  ·exact(hs.2 b (Nat.ne_of_lt (Nat.lt_of_lt_of_le (Heap.lt_size e) (I.ok.cab x c hfn hc)))).trans (I.base.keep b o e n hb hx)
  ·obtain⟨sl,e1⟩:=I.base.slot b o e n hb hx
   exact⟨sl,(hs.2 b (Nat.ne_of_lt (Nat.lt_of_lt_of_le (Heap.lt_size e) (I.ok.cab x c hfn hc)))).trans e1⟩
  ·obtain⟨o',e1⟩:=I.base.there b o e hx
   exact⟨o',(hs.2 b (Nat.ne_of_lt (Nat.lt_of_lt_of_le (Heap.lt_size e) (I.ok.cab x c hfn hc)))).trans e1⟩
  ·by_cases hj:j=i
   ·subst hj
    rw[hi]at e1;cases e1
    rw[List.getElem?_set_self hiσ]at e2
    cases e2
    exact⟨u,r, .inr ⟨.inl hk,c,hc,hc'⟩⟩
   ·rw[List.getElem?_set_ne (Ne.symm hj)]at e2
    obtain⟨u',r',q⟩:=hl j y v' e1 e2 e3
    refine⟨u',r',?_⟩
    rcases q with q|⟨k,c',e,z'⟩
    ·exact .inl q
    ·refine .inr ⟨k,c',e,z'.sameBut hs ?_⟩
     rintro rfl
     exact hj (jt hN e1 (I.ok.inj _ _ _ e hc▸hi))
  ·by_cases hcc:c'=c
   ·subst hcc;exact⟨_,hc'⟩
   ·obtain⟨w2,z2⟩:=I.cell y c' e
    exact⟨w2,z2.sameBut hs hcc⟩
  ·obtain⟨e,n,ne,nf,d⟩:=I.pin p hp
   refine⟨(hs.2 p.1 ?_).trans e,n,ne,nf,d⟩
   intro q
   rw[q,hoc]at e
   have q':oc=p.2:=Option.some.inj e
   exact d w' (by rw[<-q'];exact hocd)
theorem ju {M:Model} {A:Around} {E:Value->Shared->Prop} {i:Nat} {x:Str} {v:V} {u:Value} {Q:Unit->Shared->Prop} (I:au X pins σ H s) (hN:X.N.Nodup) (hi:X.N[i]? =some x) (hx:qu X.env.scope x) (r:bg v u)
  (h:∀s',au X pins (σ.set i (some v)) H s'->Q () s') (hf:X.fn x=true\/X.env.scope.names.lookup x=some .local:=by first|exact .inl rfl|exact .inr rfl|assumption):wpAny M A (storeName X.env x u) Q E s:=
 pj I hN hi hx r (fun s' I' _=>h s' I') hf
theorem au.call' {s':Shared} {ch:List Addr} (I:au X pins σ H s) (ho:s'.os=s.os) (u:Un (jg X.stack) ch H H' s.heap s'.heap) (hok:gM X.prog X.w H' s'.heap) (hg:AllBare s'.gens)
  (hch:∀b∈ch,(b∈X.ex\/X.s₀.heap.objs.size<=b)/\b≠X.env.locals/\(∀x c,X.env.cells.lookup x=some c->c≠b)/\∀p∈X.pn++pins,p.1≠b):au X pins σ H' s':=by
 obtain⟨h',g',d',t',o'⟩:=s'
 have e:o'=s.os:=ho
 subst e
 exact I.call (g':=g') (t':=t') (d':=d') u hok hg hch
end
noncomputable abbrev XK:=Value->Option Addr->Hp->Prop
noncomputable abbrev St:=List (Option V)
noncomputable abbrev VK:=V->Hp->Prop
noncomputable abbrev TE:=St->Hp->VK->Prop
noncomputable abbrev TT:=St->Hp->(Bool->Hp->Prop)->Prop
noncomputable abbrev TA:=St->Hp->(List V->Hp->Prop)->Prop
structure iA where
 nx:St->Hp->Prop
 rt:VK
 bk:St->Hp->Prop:=fun _ _=>False
 ct:St->Hp->Prop:=fun _ _=>False
noncomputable abbrev TS:=iA->St->Hp->Prop
noncomputable def EP (X:Cx) (pins:List (Addr×Obj)) (σ:St) (Q:VK) (u:Value) (s':Shared):Prop:=∃v H',au X pins σ H' s'/\bg v u/\Q v H'
noncomputable def TP (X:Cx) (pins:List (Addr×Obj)) (σ:St) (Q:Bool->Hp->Prop) (b:Bool) (s':Shared):Prop:=∃H',au X pins σ H' s'/\Q b H'
noncomputable def AP (X:Cx) (pins:List (Addr×Obj)) (σ:St) (Q:List V->Hp->Prop) (us:List Value) (s':Shared):Prop:=∃vs H',au X pins σ H' s'/\aM vs us/\Q vs H'
noncomputable def SP (X:Cx) (pins:List (Addr×Obj)) (D:iA) (f:Flow) (s':Shared):Prop:=
 match f with
 | .next=>∃σ' H',au X pins σ' H' s'/\D.nx σ' H'
 | .brk=>∃σ' H',au X pins σ' H' s'/\D.bk σ' H'
 | .cont=>∃σ' H',au X pins σ' H' s'/\D.ct σ' H'
 | .ret u=>∃v σ' H',au X pins σ' H' s'/\bg v u/\D.rt v H'
noncomputable def PE (X:Cx) (e:Expr) (t:TE):Prop:=
 ∀(pins:List (Addr×Obj)) (s:Shared) (σ:St) (H:Hp) (Q:VK),au X pins σ H s->t σ H Q->wpAny (model X.prog X.w) X.A (eval e X.env) (EP X pins σ Q) X.xe s
noncomputable def PT (X:Cx) (e:Expr) (t:TT):Prop:=
 ∀(pins:List (Addr×Obj)) (s:Shared) (σ:St) (H:Hp) (Q:Bool->Hp->Prop),au X pins σ H s->t σ H Q->wpAny (model X.prog X.w) X.A (isTrue e X.env (eval e X.env)) (TP X pins σ Q) X.xe s
noncomputable def PW (X:Cx) (e:Expr) (t:TT):Prop:=
 ∀(whole:Sem Value) (pins:List (Addr×Obj)) (s:Shared) (σ:St) (H:Hp) (Q:Bool->Hp->Prop),au X pins σ H s->t σ H Q->wpAny (model X.prog X.w) X.A (isTrue e X.env whole) (TP X pins σ Q) X.xe s
theorem PW.pt {X:Cx} {e:Expr} {t:TT} (h:PW X e t):PT X e t:=h _
noncomputable def PA (X:Cx) (es:List Expr) (t:TA):Prop:=
 ∀(pos:Pos) (pins:List (Addr×Obj)) (s:Shared) (σ:St) (H:Hp) (Q:List V->Hp->Prop),au X pins σ H s->t σ H Q->wpAny (model X.prog X.w) X.A (spliced (backTo pos (starEach es X.env))) (AP X pins σ Q) X.xe s
noncomputable def PS (X:Cx) (st:Stmt) (t:TS):Prop:=
 ∀(pins:List (Addr×Obj)) (s:Shared) (σ:St) (H:Hp) (D:iA),au X pins σ H s->t D σ H->wpAny (model X.prog X.w) X.A (exec st X.env) (SP X pins D) X.xe s
noncomputable def kt (X:Cx) (st:List Stmt) (t:TS):Prop:=
 ∀(pins:List (Addr×Obj)) (s:Shared) (σ:St) (H:Hp) (D:iA),au X pins σ H s->t D σ H->wpAny (model X.prog X.w) X.A (execs st X.env) (SP X pins D) X.xe s
theorem cg {α:Type} {t:Sem α} {Q Q':α->Shared->Prop} {M:Model} {A:Around} {E:Value->Shared->Prop} {s:Shared} (h:wpAny M A t Q E s) (hQ:∀a s,Q a s->Q' a s):wpAny M A t Q' E s:=wpAny_mono h hQ fun _ _ x=>x
end L2
namespace L2
open PySem PySem.Spec PyProof.Rows
section
variable {X:Cx}
noncomputable def qv (i:Nat):TE:=fun σ H Q=>∃v,σ[i]? =some (some v)/\Q v H
noncomputable def tC (v:V):TE:=fun _ H Q=>Q v H
theorem uQ {i:Nat} {x:Str} {pos:Pos} (hN:X.N[i]? =some x) (hv:kh X.env.scope x) (hd:(x==("__debug__":Str))=false:=by decide) (hcd:(x==("__classdict__":Str))=false:=by decide):PE X (.Name x pos) (qv i):=by
 intro pins s σ H Q I h
 obtain⟨v,e,h⟩:=h
 obtain⟨m,hn,hl⟩:=I.loc
 obtain⟨u,r,l⟩:=hl i x v hN e hv
 have fin:EP X pins σ Q u s:=⟨v,H,I,r,h⟩
 rcases l with ⟨hk,hm⟩|⟨hk,c,hc,hcell⟩
 ·exact wpAny_Name (wpAny_loadName_local I.ok.kind hk hn hm fin) hd
 ·rcases hk with hk|hk
  ·exact wpAny_Name (wpAny_loadName_cell I.ok.kind hk hc hcell fin) hd
  ·exact wpAny_Name (wpAny_loadName_free I.ok.kind hk hc hcell fin hcd) hd
theorem uR {i j pos}:PE X (.Constant (.int i) j pos) (tC (.int i)):=fun _ _ _ H _ I h=>wpAny_Constant_int ⟨.int i,H,I.tok _,⟨_,rfl⟩,h⟩
theorem wl {b j pos}:PE X (.Constant (.bool b) j pos) (tC (.bl b)):=fun _ _ _ H _ I h=>Constant_bool ⟨.bl b,H,I,rfl,h⟩
theorem uS {j pos}:PE X (.Constant .none j pos) (tC .non):=fun _ _ _ H _ I h=>Constant_none ⟨.non,H,I,rfl,h⟩
theorem uT {x j pos}:PE X (.Constant (.str x) j pos) (tC (.str x)):=fun _ _ _ H _ I h=>Calls.Constant_str ⟨.str x,H,I.tok _,⟨_,rfl⟩,h⟩
noncomputable def Gl (X:Cx) (x:Str):Prop:=X.env.kindOf x=some .globalImplicit
theorem hW {E:Value->Shared->Prop} {pins:List (Addr×Obj)} {s:Shared} {σ:St} {H:Hp} {x:Str} {u:Value} {pos:Pos} {Q:Value->Shared->Prop} (I:au X pins σ H s) (hg:Gl X x) (hm:X.mg x=some u) (h:Q u s)
  (hd:(x==("__debug__":Str))=false:=by decide):wpAny (model X.prog X.w) X.A (eval (.Name x pos) X.env) Q E s:=
 Calls.Name_function_global I.ok.kind hg (Calls.loadGlobal_global (by rw[I.ok.glob];exact I.mod.glob.keeps I.bk) hm h) hd
theorem gO {E:Value->Shared->Prop} {pins:List (Addr×Obj)} {s:Shared} {σ:St} {H:Hp} {x:Str} {u:Value} {pos:Pos} {Q:Value->Shared->Prop} (I:au X pins σ H s) (hg:Gl X x) (hm:X.mg x=none) (hv:bootBuiltins x=some u) (h:Q u s)
  (hn:x≠"__name__":=by decide) (hd:(x==("__debug__":Str))=false:=by decide):wpAny (model X.prog X.w) X.A (eval (.Name x pos) X.env) Q E s:=by
 obtain⟨mb,h1,h2⟩:=I.mod.blt
 exact Calls.Name_function_global I.ok.kind hg (Calls.loadGlobal_builtin (by rw[I.ok.glob];exact I.mod.glob.keeps I.bk) hm (by rw[I.ok.blt];exact h1.keeps I.bk) ((h2 x hn).trans hv) h) hd
theorem og {x:Str} {v:V} {u:Value} {pos:Pos} (hg:Gl X x) (hm:X.mg x=some u) (r:bg v u) (hd:(x==("__debug__":Str))=false:=by decide):PE X (.Name x pos) (tC v):=
 fun _ _ _ H _ I h=>hW I hg hm ⟨v,H,I,r,h⟩ hd
theorem oh {x:Str} {v:V} {u:Value} {pos:Pos} (hg:Gl X x) (hm:X.mg x=none) (hv:bootBuiltins x=some u) (r:bg v u) (hn:x≠"__name__":=by decide) (hd:(x==("__debug__":Str))=false:=by decide):PE X (.Name x pos) (tC v):=
 fun _ _ _ H _ I h=>gO I hg hm hv ⟨v,H,I,r,h⟩ hn hd
variable {a b:Expr} {ta tb:TE} {pos:Pos}
noncomputable def PC (X:Cx) (op:CmpOp) (a b:Expr) (t:TE):Prop:=
 ∀(pins:List (Addr×Obj)) (s:Shared) (σ:St) (H:Hp) (Q:VK),au X pins σ H s->t σ H Q->
  wpAny (model X.prog X.w) X.A (eval a X.env) (fun v s₁=>wpAny (model X.prog X.w) X.A (eval b X.env) (fun u s₂=>wpAny (model X.prog X.w) X.A (compareOp op v u) (EP X pins σ Q) X.xe s₂) X.xe s₁) X.xe s
noncomputable def tB (t:TE):TT:=fun σ H Q=>t σ H fun x H1=>∃c,x= .bl c/\Q c H1
theorem qw {op:CmpOp} {t:TE} (h:PC X op a b t) (h1:behindInMarks op b=false:=by first|exact nobehind _ (by decide) (by decide)|rfl):PE X (.Compare a [op] [b] pos) t:=fun pins s σ H Q I hw=>wpAny_Compare1 (h pins s σ H Q I hw) h1
theorem uU {op:CmpOp} {t:TE} (h:PC X op a b t) (h1:behindInMarks op b=false:=by first|exact nobehind _ (by decide) (by decide)|rfl):PT X (.Compare a [op] [b] pos) (tB t):=by
 intro pins s σ H Q I hw
 refine wpAny_isTrue_Compare1 (cg (h pins s σ H _ I hw) fun v s1 h1=>cg h1 fun u s2 h2=>cg h2 fun c s3 z_=> ?_) h1
 obtain⟨x,H1,I1,r1,q1⟩:=z_
 obtain⟨d,rfl,q⟩:=q1
 cases r1
 exact wpAny_truthy_bool ⟨H1,I1,q⟩
variable {tA tB':TT} {rest:List Expr}
noncomputable def xQ (t u:TT):TT:=fun σ H Q=>t σ H fun c H1=>if c=true then u σ H1 Q else Q false H1
noncomputable def yJ (t u:TT):TT:=fun σ H Q=>t σ H fun c H1=>if c=true then Q true H1 else u σ H1 Q
noncomputable def xR (t:TT):TT:=fun σ H Q=>t σ H fun c H1=>Q (!c) H1
theorem sI (ha:PT X a tA):PW X (.BoolOp .And [a] pos) tA:=by
 intro wh pins s σ H Q I h
 refine isTrue_and (cg (ha pins s σ H Q I h) fun c s1 e=> ?_)
 cases c with
 |true=>exact isTrue_and_nil e
 |false=>exact e
theorem uV (ha:PT X a tA):PW X (.BoolOp .Or [a] pos) tA:=by
 intro wh pins s σ H Q I h
 refine isTrue_or (cg (ha pins s σ H Q I h) fun c s1 e=> ?_)
 cases c with
 |false=>exact isTrue_or_nil e
 |true=>exact e
theorem uW (ha:PT X a tA) (hb:PW X (.BoolOp .And (b::rest) pos) tB'):PW X (.BoolOp .And (a::b::rest) pos) (xQ tA tB'):=by
 intro wh pins s σ H Q I h
 refine isTrue_and (cg (ha pins s σ H _ I h) fun c s1 z_=> ?_)
 obtain⟨H1,I1,q1⟩:=z_
 cases c with
 |true=>exact hb wh pins s1 σ H1 Q I1 q1
 |false=>exact⟨H1,I1,q1⟩
theorem wm (ha:PT X a tA) (hb:PW X (.BoolOp .Or (b::rest) pos) tB'):PW X (.BoolOp .Or (a::b::rest) pos) (yJ tA tB'):=by
 intro wh pins s σ H Q I h
 refine isTrue_or (cg (ha pins s σ H _ I h) fun c s1 z_=> ?_)
 obtain⟨H1,I1,q1⟩:=z_
 cases c with
 |true=>exact⟨H1,I1,q1⟩
 |false=>exact hb wh pins s1 σ H1 Q I1 q1
theorem uX (ha:PT X a tA):PT X (.UnaryOp .Not a pos) (xR tA):=by
 intro pins s σ H Q I h
 exact isTrue_not (ha pins s σ H (fun c H1=>Q (!c) H1) I h)
noncomputable def wo (ta tb:TE):TE:=fun σ H Q=>ta σ H fun x H1=>∃c,x= .bl c/\if c=true then tb σ H1 Q else Q (.bl false) H1
noncomputable def xS (ta tb:TE):TE:=fun σ H Q=>ta σ H fun x H1=>∃c,x= .bl c/\if c=true then Q (.bl true) H1 else tb σ H1 Q
noncomputable def wq (ta:TE):TE:=fun σ H Q=>ta σ H fun x H1=>∃c,x= .bl c/\Q (.bl (!c)) H1
theorem uY {op} {t:TE} (h:PE X a t):PE X (.BoolOp op [a] pos) t:=fun pins s σ H Q I hw=>BoolOp_one (h pins s σ H Q I hw)
theorem uZ (ha:PE X a ta) (hb:PE X (.BoolOp .And (b::rest) pos) tb):PE X (.BoolOp .And (a::b::rest) pos) (wo ta tb):=by
 intro pins s σ H Q I h
 refine BoolOp_and (cg (ha pins s σ H _ I h) fun v s1 z_=> ?_)
 obtain⟨x,H1,I1,r1,q1⟩:=z_
 obtain⟨c,rfl,q1⟩:=q1
 cases r1
 refine wpAny_truthy_bool ?_
 cases c with
 |true=>exact hb pins s1 σ H1 Q I1 q1
 |false=>exact⟨.bl false,H1,I1,rfl,q1⟩
theorem wt (ha:PE X a ta) (hb:PE X (.BoolOp .Or (b::rest) pos) tb):PE X (.BoolOp .Or (a::b::rest) pos) (xS ta tb):=by
 intro pins s σ H Q I h
 refine BoolOp_or (cg (ha pins s σ H _ I h) fun v s1 z_=> ?_)
 obtain⟨x,H1,I1,r1,q1⟩:=z_
 obtain⟨c,rfl,q1⟩:=q1
 cases r1
 refine wpAny_truthy_bool ?_
 cases c with
 |false=>exact hb pins s1 σ H1 Q I1 q1
 |true=>exact⟨.bl true,H1,I1,rfl,q1⟩
theorem u_ (ha:PE X a ta):PE X (.UnaryOp .Not a pos) (wq ta):=by
 intro pins s σ H Q I h
 refine UnaryOp_ (cg (ha pins s σ H _ I h) fun v s1 z_=> ?_)
 obtain⟨x,H1,I1,r1,q1⟩:=z_
 obtain⟨c,rfl,q1⟩:=q1
 cases r1
 exact not_of (wpAny_truthy_bool ⟨.bl (!c),H1,I1,rfl,q1⟩)
end
end L2
namespace L2
open PySem PySem.Spec PyProof.Rows
noncomputable def dr (K:PySem.W.Frag) (H:Hp) (a:Addr) (xs:List V):Prop:=
 Rd H a (.lst xs)\/
  ∃(o:Obj) (its:Array Value) (n:Nat),K.lookup a=some o/\o.cls= .type "list"/\o.dict=none/\o.data= .seq its n/\its.size<=sizeLine/\aM xs its.toList
noncomputable def eL (K:PySem.W.Frag) (H:Hp) (a:Addr) (xs:List V):Prop:=
 Rd H a (.tup xs)\/
  ∃(o:Obj) (its:Array Value) (n:Nat),K.lookup a=some o/\o.cls= .type "tuple"/\o.data= .seq its n/\its.size<=sizeLine/\aM xs its.toList
noncomputable def xT:Value->Option V
 | .none=>some .non
 | .bool b=>some (.bl b)
 | .int i _=>some (.int i)
 | .str x _=>some (.str x)
 | .bytes b _=>some (.byt b)
 | .float b _=>some (.flt b)
 | .ref a=>some (.ref a)
 | .type n=>some (.ty n)
 |_=>none
theorem bg.abs {x:V} {u:Value} (r:bg x u):xT u=some x:=by
 cases x with
 |non=>cases r;rfl
 |bl _=>cases r;rfl
 |int _=>obtain⟨t,rfl⟩:=r;rfl
 |str _=>obtain⟨t,rfl⟩:=r;rfl
 |byt _=>obtain⟨t,rfl⟩:=r;rfl
 |flt _=>obtain⟨t,rfl⟩:=r;rfl
 |ref _=>cases r;rfl
 |ty _=>cases r;rfl
theorem bg.inj {x y:V} {u:Value} (r:bg x u) (q:bg y u):x=y:=Option.some.inj (r.abs.symm.trans q.abs)
theorem aM.inj:∀{xs ys:List V} {us:List Value},aM xs us->aM ys us->xs=ys
 |_,_,_, .nil, .nil=>rfl
 |_,_,_, .cons r t, .cons r' t'=>by rw[r.inj r',aM.inj t t']
section
variable {X:Cx} {pins:List (Addr×Obj)} {σ:St} {H:Hp} {s:Shared} {a:Addr} {xs ys:List V}
theorem dr.of {K:PySem.W.Frag} (h:H a=some (.lst xs)):dr K H a xs:= .inl (.inl h)
theorem eL.of {K:PySem.W.Frag} (h:H a=some (.tup xs)):eL K H a xs:= .inl (.inl h)
theorem au.list (I:au X pins σ H s) (h:dr X.K H a xs):∃its:List Value,aM xs its/\PlainL s.heap a its.toArray/\xs.length<=sizeLine:=by
 rcases h with h|⟨o,its,n,hk,hc,hd,hs,hz,r⟩
 ·obtain⟨z,its,n,r,e⟩:=h.ok I.hok
  exact⟨its,r,⟨_,n,e,rfl,rfl,rfl⟩,z⟩
 ·refine⟨its.toList,r,⟨o,n,I.kIn a o hk,hc,hd,by simpa using hs⟩,?_⟩
  have e:=r.length
  simp only[Array.length_toList]at e
  omega
theorem au.tuple (I:au X pins σ H s) (h:eL X.K H a xs):∃its:List Value,aM xs its/\IsTup s.heap a its.toArray/\xs.length<=sizeLine:=by
 rcases h with h|⟨o,its,n,hk,hc,hs,hz,r⟩
 ·obtain⟨z,its,r,p⟩:=h.ok I.hok
  exact⟨its,r,p.tup,z⟩
 ·refine⟨its.toList,r,⟨o,I.kIn a o hk,hc,n,by simpa using hs⟩,?_⟩
  have e:=r.length
  simp only[Array.length_toList]at e
  omega
theorem au.list_inj (I:au X pins σ H s) (h:dr X.K H a xs) (h':dr X.K H a ys):xs=ys:=by
 obtain⟨its,r,⟨o,n,e,_,_,d⟩,_⟩:=I.list h
 obtain⟨its',r',⟨o',n',e',_,_,d'⟩,_⟩:=I.list h'
 rw[e]at e';cases e'
 rw[d]at d'
 injection d' with d1 _
 have:its=its':=by simpa using congrArg Array.toList d1
 subst this
 exact r.inj r'
theorem au.tuple_inj (I:au X pins σ H s) (h:eL X.K H a xs) (h':eL X.K H a ys):xs=ys:=by
 obtain⟨its,r,⟨o,e,_,n,d⟩,_⟩:=I.tuple h
 obtain⟨its',r',⟨o',e',_,n',d'⟩,_⟩:=I.tuple h'
 rw[e]at e';cases e'
 rw[d]at d'
 injection d' with d1 _
 have:its=its':=by simpa using congrArg Array.toList d1
 subst this
 exact r.inj r'
end
noncomputable abbrev Cx.wish (X:Cx) (E:Value->Shared->Prop):Cx:={X with xe:=E}
noncomputable abbrev Cx.nox (X:Cx):Cx:=X.wish fun _ _=>False
theorem Cx.Ok.wish {X:Cx} (ok:X.Ok) (E:Value->Shared->Prop):(X.wish E).Ok:=
 ⟨ok.mod,ok.kind,ok.glob,ok.blt,ok.above,ok.inj,ok.has,ok.cab,ok.hd,ok.frames,ok.stk,ok.exf,ok.bs,ok.bsz,ok.noex,ok.exfs,ok.funs,ok.frf⟩
theorem Cx.Ok.unwish {X:Cx} {E:Value->Shared->Prop} (ok:(X.wish E).Ok):X.Ok:=
 ⟨ok.mod,ok.kind,ok.glob,ok.blt,ok.above,ok.inj,ok.has,ok.cab,ok.hd,ok.frames,ok.stk,ok.exf,ok.bs,ok.bsz,ok.noex,ok.exfs,ok.funs,ok.frf⟩
section
variable {X:Cx} {pins:List (Addr×Obj)} {σ:St} {H:Hp} {s:Shared} {E:Value->Shared->Prop}
theorem au.wish (I:au X pins σ H s) (E:Value->Shared->Prop):au (X.wish E) pins σ H s:=⟨I.ok.wish E,I.os,I.bare,I.base,I.loc,I.cell,I.free,I.freeC,I.pin,I.hok,I.len⟩
theorem au.unwish (I:au (X.wish E) pins σ H s):au X pins σ H s:=⟨I.ok.unwish,I.os,I.bare,I.base,I.loc,I.cell,I.free,I.freeC,I.pin,I.hok,I.len⟩
theorem SP.unwish {D:iA} {f:Flow} {s':Shared} (h:SP (X.wish E) pins D f s'):SP X pins D f s':=by
 cases f with
 |next=>obtain⟨σ',H',I,q⟩:=h;exact⟨σ',H',I.unwish,q⟩
 |brk=>obtain⟨σ',H',I,q⟩:=h;exact⟨σ',H',I.unwish,q⟩
 |cont=>obtain⟨σ',H',I,q⟩:=h;exact⟨σ',H',I.unwish,q⟩
 |ret u=>obtain⟨v,σ',H',I,r,q⟩:=h;exact⟨v,σ',H',I.unwish,r,q⟩
theorem PE.nox {e:Expr} {t:TE} (h:PE X.nox e t):PE X e t:=fun pins s σ H Q I hw=>
 wpAny_mono (h pins s σ H Q (I.wish _) hw) (fun _ _ ⟨v,H',I',r,q⟩=>⟨v,H',I'.unwish,r,q⟩) fun _ _ z=>False.elim z
theorem PT.nox {e:Expr} {t:TT} (h:PT X.nox e t):PT X e t:=fun pins s σ H Q I hw=>
 wpAny_mono (h pins s σ H Q (I.wish _) hw) (fun _ _ ⟨H',I',q⟩=>⟨H',I'.unwish,q⟩) fun _ _ z=>False.elim z
theorem kt.nox {st:List Stmt} {t:TS} (h:kt X.nox st t):kt X st t:=fun pins s σ H D I hw=>
 wpAny_mono (h pins s σ H D (I.wish _) hw) (fun _ _ q=>q.unwish) fun _ _ z=>False.elim z
end
section
variable {X:Cx} {st:Stmt} {rest:List Stmt} {t u:TS} {e:Expr} {te:TE} {pos:Pos}
noncomputable def wu:TS:=fun D σ H=>D.nx σ H
noncomputable def xU (t u:TS):TS:=fun D σ H=>t {D with nx:=u D} σ H
theorem sJ:kt X [] wu:=fun _ _ σ H _ I h=>wpAny_execs_nil ⟨σ,H,I,h⟩
theorem qx (h1:PS X st t) (h2:kt X rest u):kt X (st::rest) (xU t u):=by
 intro pins s σ H D I h
 refine wpAny_execs_cons (cg (h1 pins s σ H {D with nx:=u D} I h) fun f s1 q=> ?_)
 cases f with
 |next=>
  obtain⟨σ',H',I',q⟩:=q
  exact h2 pins s1 σ' H' D I' q
 |ret v=>exact q
 |brk=>exact q
 |cont=>exact q
theorem sK (h1:PS X st t):kt X [st] t:=by
 intro pins s σ H D I h
 refine wpAny_execs_cons (cg (h1 pins s σ H D I h) fun f s1 q=> ?_)
 cases f with
 |next=>exact wpAny_execs_nil q
 |ret v=>exact q
 |brk=>exact q
 |cont=>exact q
theorem au.quiet {pins:List (Addr×Obj)} {σ:St} {H:Hp} {s:Shared} (I:au X pins σ H s):interactive X.env=false:=by simp[interactive,I.ok.kind]
noncomputable def wv (te:TE):TS:=fun D σ H=>te σ H fun _ H1=>D.nx σ H1
theorem jh (he:PE X e te) (hs:swapsWith e none pos.line X.env=pure false:=by rfl):PS X (.Expr e pos) (wv te):=by
 intro pins s σ H D I h
 exact wpAny_Expr_any (cg (he pins s σ H _ I h) fun v s1 ⟨x,H1,I1,r1,q1⟩=>⟨σ,H1,I1,q1⟩) I.quiet hs
noncomputable def xV (te:TE):TS:=fun D σ H=>te σ H D.rt
theorem nj (he:PE X e te):PS X (.Return (some e) pos) (xV te):=by
 intro pins s σ H D I h
 exact wpAny_Return_some (cg (he pins s σ H _ I h) fun v s1 ⟨x,H1,I1,r1,q1⟩=>⟨x,σ,H1,I1,r1,q1⟩)
noncomputable def xW (c:TT) (t u:TS):TS:=fun D σ H=>c σ H fun b H1=>if b=true then t D σ H1 else u D σ H1
theorem ww {c:Expr} {a b:List Stmt} {tc:TT} (hc:PT X c tc) (ha:kt X a t) (hb:kt X b u):PS X (.If c a b pos) (xW tc t u):=by
 intro pins s σ H D I h
 refine wpAny_If (cg (hc pins s σ H _ I h) fun d s1 z_=> ?_)
 obtain⟨H1,I1,q1⟩:=z_
 cases d with
 |true=>exact ha pins s1 σ H1 D I1 q1
 |false=>exact hb pins s1 σ H1 D I1 q1
end
noncomputable abbrev TG:=V->St->Hp->(St->Hp->Prop)->Prop
noncomputable def PG (X:Cx) (target:Expr) (t:TG):Prop:=
 ∀(pins:List (Addr×Obj)) (s:Shared) (σ:St) (H:Hp) (v:V) (u:Value) (Q:St->Hp->Prop),au X pins σ H s->bg v u->t v σ H Q->
  wpAny (model X.prog X.w) X.A (assign target X.env u) (fun _ s'=>∃σ' H',au X pins σ' H' s'/\Q σ' H') X.xe s
section
variable {X:Cx} {pos:Pos}
noncomputable def ul (i:Nat):TG:=fun v σ H Q=>Q (σ.set i (some v)) H
theorem oi {i:Nat} {x:Str} (hN:X.N.Nodup) (hi:X.N[i]? =some x) (hx:qu X.env.scope x) (hf:X.fn x=true\/X.env.scope.names.lookup x=some .local:=by first|exact .inl rfl|exact .inr rfl|assumption):PG X (.Name x pos) (ul i):=by
 intro pins s σ H v u Q I r h
 exact wpAny_assign_Name (ju I hN hi hx r (fun s' I'=>⟨_,H,I',h⟩) hf)
noncomputable def xX (te:TE) (g:TG):TS:=fun D σ H=>te σ H fun x H1=>g x σ H1 D.nx
theorem jv {i:Nat} {x:Str} {e:Expr} {te:TE} {pos':Pos} (hN:X.N.Nodup) (hi:X.N[i]? =some x) (hx:qu X.env.scope x) (he:PE X e te) (hs:swapsWith e (some (.Name x pos')) pos.line X.env=pure false:=by rfl) (hf:X.fn x=true\/X.env.scope.names.lookup x=some .local:=by first|exact .inl rfl|exact .inr rfl|assumption):
  PS X (.Assign [.Name x pos'] e pos) (xX te (ul i)):=by
 intro pins s σ H D I h
 refine wpAny_Assign_Name (cg (he pins s σ H _ I h) fun v s1 z_=> ?_) hs
 obtain⟨y,H1,I1,r1,q1⟩:=z_
 exact ju I1 hN hi hx r1 (fun s2 I2=>⟨_,H1,I2,q1⟩) hf
end
section
variable {X:Cx} {pos:Pos}
end
structure It where
 go:Nat->Hp->Prop
 yld:Nat->Hp->V->Hp->Prop
 stop:Nat->Hp->Prop
noncomputable def hX (X:Cx) (pins:List (Addr×Obj)) (H:Hp) (b:Addr):Prop:=
 H b=none/\b≠X.env.locals/\b∉X.fs/\(b∈X.ex\/X.s₀.heap.objs.size<=b)/\(∀x c,X.env.cells.lookup x=some c->c≠b)/\∀p∈X.pn++pins,p.1≠b
theorem au.fpOk {X:Cx} {pins:List (Addr×Obj)} {σ:St} {H H':Hp} {s:Shared} {b:Addr} (I:au X pins σ H s) (hb:s.heap.objs.size<=b) (hn:H' b=none):hX X pins H' b:=by
 refine⟨hn,Nat.ne_of_gt (Nat.lt_of_lt_of_le I.lt hb),I.nofs hb, .inr (Nat.le_trans I.sz hb),fun x c e z=> ?_,fun p hp z=> ?_⟩
 ·obtain⟨v,q⟩:=I.cell x c e
  exact absurd (Nat.lt_of_lt_of_le q.lt (by rw[z];exact hb)) (Nat.lt_irrefl _)
 ·exact absurd (Nat.lt_of_lt_of_le (Heap.lt_size (I.pin p hp).1) (by rw[z];exact hb)) (Nat.lt_irrefl _)
structure pk (P:Program) (w:World) (K:PySem.W.Frag) (tg:Expr) (J:It) (fp:List Addr) (it:Addr) (tn:Nat->Heap->Prop):Prop where
 mem:it∈fp
 obj:∀i h,tn i h->∀b∈fp,∃o,h.get? b=some o/\∀v,o.data≠ .cell v
 keep:∀i h h',tn i h->(∀b∈fp,∀o,h.get? b=some o->h'.get? b=some o)->tn i h'
 item:∀(X:Cx),X.prog=P->X.w=w->X.K=K->X.calm=true->∀(i:Nat) (pins:List (Addr×Obj)) (s:Shared) (σ:St) (H:Hp) (E:Value->Shared->Prop),au X pins σ H s->(∀b∈fp,hX X pins H b)->tn i s.heap->J.go i H->
  wpAny (model P w) X.A (pyNext (.ref it)) (fun r s1=>∃u,r=some u/\
   wpAny (model P w) X.A (letOwnedTupleGo tg (.ref it) u) (fun _ s2=>∃x H',au X pins σ H' s2/\bg x u/\J.yld i H x H'/\tn (i+1) s2.heap/\∀b∈fp,H' b=none) E s1) E s
 done:∀(X:Cx),X.prog=P->X.w=w->X.K=K->X.calm=true->∀(i:Nat) (pins:List (Addr×Obj)) (s:Shared) (σ:St) (H:Hp) (E:Value->Shared->Prop),au X pins σ H s->(∀b∈fp,hX X pins H b)->tn i s.heap->J.stop i H->
  wpAny (model P w) X.A (pyNext (.ref it)) (fun r s1=>r=none/\au X pins σ H s1) E s
 self:∀(A:Around) (i:Nat) (s:Shared) (Q:Value->Shared->Prop) (E:Value->Shared->Prop),tn i s.heap->Q (.ref it) s->wpAny (model P w) A (pyIter (.ref it)) Q E s
noncomputable abbrev TI:=St->Hp->(It->Hp->Prop)->Prop
noncomputable def yw (X:Cx) (pins:List (Addr×Obj)) (σ:St) (tg:Expr) (R:It->Hp->Prop) (itv:Value) (s2:Shared):Prop:=
 ∃(it:Addr) (fp:List Addr) (tn:Nat->Heap->Prop) (J:It) (H':Hp),itv= .ref it/\au X pins σ H' s2/\pk X.prog X.w X.K tg J fp it tn/\tn 0 s2.heap/\(∀b∈fp,hX X pins H' b)/\R J H'
noncomputable def PI (X:Cx) (tg iter:Expr) (wi:TI):Prop:=
 ∀(pins:List (Addr×Obj)) (s:Shared) (σ:St) (H:Hp) (R:It->Hp->Prop),au X pins σ H s->wi σ H R->
  wpAny (model X.prog X.w) X.A (eval iter X.env) (fun v s1=>wpAny (model X.prog X.w) X.A (pyIter v) (yw X pins σ tg R) X.xe s1) X.xe s
theorem qy {M:Model} {A:Around} {E:Value->Shared->Prop} {s:Shared} {tg:Expr} {it:Addr} {u:Value} {o:Obj} {n:String} {vs:Array Value} {Q:Unit->Shared->Prop} (ho:s.heap.get? it=some o) (hc:o.cls= .type n) (hd:o.data= .fields vs)
  (hn:["enumerate","zip","dict_itemiterator","dict_reverseitemiterator","odict_iterator","itertools.zip_longest","itertools.pairwise"].contains n=false) (hQ:Q () s):wpAny M A (letOwnedTupleGo tg (.ref it) u) Q E s:=by
 unfold letOwnedTupleGo
 cases tg<;>first
  |exact wpAny_pure hQ
  |(cases u<;>first
    |exact wpAny_pure hQ
    |(refine wpAny_bind (wpAny_load ho ?_)
      rw[hc,hd]
      show wpAny M A (if (["enumerate","zip","dict_itemiterator","dict_reverseitemiterator","odict_iterator","itertools.zip_longest","itertools.pairwise"].contains n&&vs[0]? ==some (rawInt _))=true then _ else _) Q E s
      rw[if_neg (by intro h;rw[hn,Bool.false_and]at h;cases h)]
      exact wpAny_pure hQ))
noncomputable def xA (K:PySem.W.Frag) (a:Addr):It:=
 ⟨fun i H=>∃xs x,dr K H a xs/\xs[i]? =some x,fun i H x H'=>H'=H/\∀xs,dr K H a xs->xs[i]? =some x,fun i H=>∃xs,dr K H a xs/\xs.length<=i⟩
noncomputable def xY (K:PySem.W.Frag) (a:Addr):It:=
 ⟨fun i H=>∃xs x,eL K H a xs/\xs[i]? =some x,fun i H x H'=>H'=H/\∀xs,eL K H a xs->xs[i]? =some x,fun i H=>∃xs,eL K H a xs/\xs.length<=i⟩
noncomputable def wx (lo:Int) (n:Nat):It:=⟨fun i _=>i<n,fun i H x H'=>H'=H/\x= .int (lo+i),fun i _=>n<=i⟩
theorem pq {P:Program} {w:World} {K:PySem.W.Frag} {tg:Expr} (a it:Addr):pk P w K tg (xA K a) [it] it (fun i h=>h.IsListIter it a i)where
 mem:=by simp
 obj:=fun i h st b hb=>by
  have e:b=it:=by simpa using hb
  subst e
  obtain⟨o,e,c,d⟩:=st
  exact⟨o,e,fun v z=>by rw[d]at z;cases z⟩
 keep:=fun i h h' st k=>st.at fun o e=>k it (by simp) o e
 item:=by
  intro X hP hw hK hc i pins s σ H E I hf st hg
  subst hP hw hK
  obtain⟨xs,x,hq,hx⟩:=hg
  obtain⟨its,rv,p,hz⟩:=I.list hq
  obtain⟨u,hu,ru⟩:=rv.get hx
  obtain⟨f0,f1,f2,f3,f4,f5⟩:=hf it (by simp)
  refine wpAny_pyNext_list_item st p.isList (x:=u) (by simpa using hu) fun h' st' sb=> ?_
  have I1:au X pins σ H {s with heap:=h'}:=I.turned (t':=s.toks) (fun b o hb e=>(sb.2 b hb).trans e) f0 f1 f3 f4 f5
  obtain⟨o,e,c,d⟩:=id st'
  exact⟨u,rfl,qy (s:={s with heap:=h'}) e c d (by decide) ⟨x,H,I1,ru,⟨rfl,fun ys hy=>by rw[I.list_inj hy hq];exact hx⟩,st',fun b hb=>(hf b hb).1⟩⟩
 done:=by
  intro X hP hw hK hc i pins s σ H E I hf st hg
  subst hP hw hK
  obtain⟨xs,hq,hx⟩:=hg
  obtain⟨its,rv,p,hz⟩:=I.list hq
  obtain⟨f0,f1,f2,f3,f4,f5⟩:=hf it (by simp)
  have hl:=rv.length
  exact wpAny_pyNext_list_end (I.ok.hd hc) st p.isList (by simp;omega) fun h' eb=>⟨rfl,I.turned (t':=s.toks) (fun b o hb e=>eb b o hb e) f0 f1 f3 f4 f5⟩
 self:=fun _ _ _ _ _ st h=>wpAny_pyIter_listiter st h
theorem nk {P:Program} {w:World} {K:PySem.W.Frag} {tg:Expr} (a it:Addr):pk P w K tg (xY K a) [it] it (fun i h=>h.IsTupleIter it a i)where
 mem:=by simp
 obj:=fun i h st b hb=>by
  have e:b=it:=by simpa using hb
  subst e
  obtain⟨o,e,c,d⟩:=st
  exact⟨o,e,fun v z=>by rw[d]at z;cases z⟩
 keep:=fun i h h' st k=>st.at fun o e=>k it (by simp) o e
 item:=by
  intro X hP hw hK hc i pins s σ H E I hf st hg
  subst hP hw hK
  obtain⟨xs,x,hq,hx⟩:=hg
  obtain⟨its,rv,p,hz⟩:=I.tuple hq
  obtain⟨u,hu,ru⟩:=rv.get hx
  obtain⟨f0,f1,f2,f3,f4,f5⟩:=hf it (by simp)
  refine wpAny_pyNext_tuple_item st (show s.heap.IsTuple a its.toArray from p) (x:=u) (by simpa using hu) fun h' st' sb=> ?_
  have I1:au X pins σ H {s with heap:=h'}:=I.turned (t':=s.toks) (fun b o hb e=>(sb.2 b hb).trans e) f0 f1 f3 f4 f5
  obtain⟨o,e,c,d⟩:=id st'
  exact⟨u,rfl,qy (s:={s with heap:=h'}) e c d (by decide) ⟨x,H,I1,ru,⟨rfl,fun ys hy=>by rw[I.tuple_inj hy hq];exact hx⟩,st',fun b hb=>(hf b hb).1⟩⟩
 done:=by
  intro X hP hw hK hc i pins s σ H E I hf st hg
  subst hP hw hK
  obtain⟨xs,hq,hx⟩:=hg
  obtain⟨its,rv,p,hz⟩:=I.tuple hq
  obtain⟨f0,f1,f2,f3,f4,f5⟩:=hf it (by simp)
  have hl:=rv.length
  exact wpAny_pyNext_tuple_end (I.ok.hd hc) st (show s.heap.IsTuple a its.toArray from p) (by simp;omega) fun h' eb=>⟨rfl,I.turned (t':=s.toks) (fun b o hb e=>eb b o hb e) f0 f1 f3 f4 f5⟩
 self:=fun _ _ _ _ _ st h=>wpAny_pyIter_tupleiter st h
theorem nl {P:Program} {w:World} {K:PySem.W.Frag} {tg:Expr} (it:Addr) (lo:Int) (n:Nat):pk P w K tg (wx lo n) [it] it (fun i h=>IsRangeIter h it (lo+(i:Nat)*1) ((n:Int) - (i:Nat)) 1)where
 mem:=by simp
 obj:=fun i h st b hb=>by
  have e:b=it:=by simpa using hb
  subst e
  exact⟨_,st,fun v z=>by
   have z':Data.fields _=Data.cell v:=z
   cases z'⟩
 keep:=fun i h h' st k=>k it (by simp) _ st
 item:=by
  intro X hP hw hK hc i pins s σ H E I hf st hg
  subst hP hw hK
  obtain⟨f0,f1,f2,f3,f4,f5⟩:=hf it (by simp)
  have W:=Walks.range (prog:=X.prog) (w:=X.w) (I.ok.hd hc) it lo 1 n
  refine W.item i s _ _ hg st fun v h' tk hv st' kk=> ?_
  obtain⟨t,rfl⟩:=hv
  have I1:au X pins σ H {s with heap:=h',toks:=tk}:=I.turned (fun b o hb e=>kk b o (by simpa using hb) e) f0 f1 f3 f4 f5
  refine⟨_,rfl,qy (s:={s with heap:=h',toks:=tk}) (n:="range_iterator") st' rfl rfl (by decide) ⟨.int (lo+i),H,I1,⟨t,?_⟩,⟨rfl,rfl⟩,st',fun b hb=>(hf b hb).1⟩⟩
  rw[Int.mul_one]
 done:=by
  intro X hP hw hK hc i pins s σ H E I hf st hg
  subst hP hw hK
  obtain⟨f0,f1,f2,f3,f4,f5⟩:=hf it (by simp)
  exact wpAny_pyNext_range_end (I.ok.hd hc) st (by have:n<=i:=hg;omega) fun h' eb=>⟨rfl,I.turned (t':=s.toks) (fun b o hb e=>eb b o hb e) f0 f1 f3 f4 f5⟩
 self:=fun _ _ _ _ _ st h=>wpAny_pyIter_rangeiter st h
end L2
namespace L2
open PySem PySem.Spec PyProof.Rows
section
variable {X:Cx} {tg:Expr}
noncomputable def wy (K:PySem.W.Frag) (tl:TE):TI:=fun σ H R=>tl σ H fun x H1=>∃a,x= .ref a/\(∃xs,dr K H1 a xs)/\R (xA K a) H1
noncomputable def xZ (K:PySem.W.Frag) (tl:TE):TI:=fun σ H R=>tl σ H fun x H1=>∃a,x= .ref a/\(∃xs,eL K H1 a xs)/\R (xY K a) H1
theorem lj {l:Expr} {tl:TE} (hl:PE X l tl):PI X tg l (wy X.K tl):=by
 intro pins s σ H R I h
 refine cg (hl pins s σ H _ I h) fun v s1 z_=> ?_
 obtain⟨x,H1,I1,r1,q1⟩:=z_
 obtain⟨a,e,⟨xs,hq⟩,q⟩:=q1
 subst e
 cases r1
 obtain⟨its,rv,p,hz⟩:=I1.list hq
 refine wpAny_pyIter_list p.isList ?_
 refine⟨s1.heap.objs.size,[s1.heap.objs.size],_,_,H1,rfl,I1.kept (t':=s1.toks) fun b o e=>Heap.get?_push_of_some _ e,pq a _,⟨_,Heap.get?_push_size _ rfl,rfl,rfl⟩,fun b hb=> ?_,q⟩
 have e:b=s1.heap.objs.size:=by simpa using hb
 subst e
 exact I1.fpOk (Nat.le_refl _) (I1.hok.fresh (Nat.le_refl _))
theorem v0 {l:Expr} {tl:TE} (hl:PE X l tl):PI X tg l (xZ X.K tl):=by
 intro pins s σ H R I h
 refine cg (hl pins s σ H _ I h) fun v s1 z_=> ?_
 obtain⟨x,H1,I1,r1,q1⟩:=z_
 obtain⟨a,e,⟨xs,hq⟩,q⟩:=q1
 subst e
 cases r1
 obtain⟨its,rv,p,hz⟩:=I1.tuple hq
 refine wpAny_pyIter_tuple (show s1.heap.IsTuple a its.toArray from p) ?_
 refine⟨s1.heap.objs.size,[s1.heap.objs.size],_,_,H1,rfl,I1.kept (t':=s1.toks) fun b o e=>Heap.get?_push_of_some _ e,nk a _,⟨_,Heap.get?_push_size _ rfl,rfl,rfl⟩,fun b hb=> ?_,q⟩
 have e:b=s1.heap.objs.size:=by simpa using hb
 subst e
 exact I1.fpOk (Nat.le_refl _) (I1.hok.fresh (Nat.le_refl _))
theorem lY {pins:List (Addr×Obj)} {σ:St} {H:Hp} {s:Shared} {R:It->Hp->Prop} {E:Value->Shared->Prop} {lo hi:Int} {t u v:Tok} {tk:Nat} (I:au X pins σ H s) (h1: -(2 ^62)<=lo) (h2:lo<2 ^62) (h3: -(2 ^62)<=hi) (h4:hi<2 ^62)
  (q:R (wx lo (hi - lo).toNat) H):wpAny (model X.prog X.w) X.A (pyIter (.ref s.heap.objs.size)) (yw X pins σ tg R) E {s with heap:=s.heap.push {cls:= .type "range",data:= .fields #[.int lo t, .int hi u, .int 1 v]},toks:=tk}:=by
 refine wpAny_pyIter_range (IsRange.new ..) (small_one h1 h2 h3 h4) ?_
 have I1:au X pins σ H {s with heap:=s.heap.push {cls:= .type "range",data:= .fields #[.int lo t, .int hi u, .int 1 v]},toks:=tk}:=I.kept fun b o e=>Heap.get?_push_of_some _ e
 refine⟨(s.heap.push {cls:= .type "range",data:= .fields #[.int lo t, .int hi u, .int 1 v]}).objs.size,[(s.heap.push {cls:= .type "range",data:= .fields #[.int lo t, .int hi u, .int 1 v]}).objs.size],_,_,H,rfl,
  I1.kept (t':=tk) fun b o e=>Heap.get?_push_of_some _ e,nl _ lo (hi - lo).toNat,?_,fun b hb=> ?_,q⟩
 ·have e1:lo+((0:Nat):Int)*1=lo:=by simp
  have e2:(((hi - lo).toNat:Nat):Int) - ((0:Nat):Int)=Builtin.Range.rangeSize lo hi 1:=by rw[rangeSize_one];split<;>omega
  show IsRangeIter _ _ (lo+((0:Nat):Int)*1) ((((hi - lo).toNat:Nat):Int) - ((0:Nat):Int)) 1
  rw[e1,e2]
  exact Heap.get?_push_size _ rfl
 ·have e:b=(s.heap.push {cls:= .type "range",data:= .fields #[.int lo t, .int hi u, .int 1 v]}).objs.size:=by simpa using hb
  subst e
  exact I1.fpOk (Nat.le_refl _) (I1.hok.fresh (Nat.le_refl _))
noncomputable def wz (ta:TA):TI:=fun σ H R=>ta σ H fun vs H1=>∃j:Int,vs=[.int j]/\ -(2 ^62)<=j/\j<2 ^62/\R (wx 0 j.toNat) H1
noncomputable def wA (ta:TA):TI:=fun σ H R=>ta σ H fun vs H1=>∃i j:Int,vs=[.int i, .int j]/\(-(2 ^62)<=i/\i<2 ^62/\ -(2 ^62)<=j/\j<2 ^62)/\R (wx i (j - i).toNat) H1
theorem pr {a:Expr} {ta:TA} {p pos:Pos} (hg:Gl X "range") (hm:X.mg "range"=none) (ha:PA X [a] ta) (hs:starEach [a] X.env=[(false,eval a X.env)]:=by rfl):PI X tg (.Call (.Name "range" p) [a] [] pos) (wz ta):=by
 intro pins s σ H R I h
 refine Call_ (gO I hg hm boot_range (PyProof.Rows.callWith_type1 (cg (ha pos pins s σ H _ I h) fun us s1 z_=> ?_) hs rfl))
 obtain⟨vs,H1,I1,r1,q1⟩:=z_
 obtain⟨j,e,q1,q2,q⟩:=q1
 subst e
 cases r1 with
 |cons r rr=>
  cases rr
  obtain⟨t,rfl⟩:=r
  exact call_range_1 (lY I1 (by omega) (by omega) q1 q2 (by simpa using q))
theorem pw {a b:Expr} {ta:TA} {p pos:Pos} (hg:Gl X "range") (hm:X.mg "range"=none) (ha:PA X [a,b] ta) (hs:starEach [a,b] X.env=[(false,eval a X.env),(false,eval b X.env)]:=by rfl) (hs2:starEach [b] X.env=[(false,eval b X.env)]:=by rfl):
  PI X tg (.Call (.Name "range" p) [a,b] [] pos) (wA ta):=by
 intro pins s σ H R I h
 refine Call_ (gO I hg hm boot_range (PyProof.Rows.callWith_type1 (cg (ha pos pins s σ H _ I h) fun us s1 z_=> ?_) (by rw[hs,hs2]) (by rw[hs2];rfl)))
 obtain⟨vs,H1,I1,r1,q1⟩:=z_
 obtain⟨i,j,e,⟨q1,q2,q3,q4⟩,q⟩:=q1
 subst e
 cases r1 with
 |cons r rr=>
  cases rr with
  |cons r' rr=>
   cases rr
   obtain⟨t,rfl⟩:=r
   obtain⟨t',rfl⟩:=r'
   exact call_range_2 (lY I1 q1 q2 q3 q4 q)
noncomputable def wB (wi:TI) (g:TG) (tb:TS):TS:=fun D σ H=>wi σ H fun J H1=>∃W:Nat->Nat->St->Hp->Prop,(∃m,W 0 m σ H1)/\∀i m σ H,W i m σ H->
 (J.stop i H/\D.nx σ H)\/(J.go i H/\∃N:St->Hp->Prop,(∀σ' H',N σ' H'->∃m',m'<m/\W (i+1) m' σ' H')/\∀x H',J.yld i H x H'->g x σ H' fun σ2 H2=>tb {D with nx:=N,ct:=N,bk:=D.nx} σ2 H2)
noncomputable def jw (fp:List Addr) (h:Heap):List (Addr×Obj):=fp.filterMap fun b=>(h.get? b).map fun o=>(b,o)
theorem fc {fp:List Addr} {h:Heap} {b:Addr} {o:Obj} (hb:b∈fp) (e:h.get? b=some o):(b,o)∈jw fp h:=List.mem_filterMap.mpr ⟨b,hb,by rw[e];rfl⟩
theorem pz {fp:List Addr} {h:Heap} {p:Addr×Obj} (hp:p∈jw fp h):p.1∈fp/\h.get? p.1=some p.2:=by
 obtain⟨b,hb,e⟩:=List.mem_filterMap.mp hp
 cases q:h.get? b with
 |none=>rw[q]at e;cases e
 |some o=>
  rw[q]at e
  have e':(b,o)=p:=Option.some.inj e
  subst e'
  exact⟨hb,q⟩
theorem au.pinned {pins:List (Addr×Obj)} {σ:St} {H:Hp} {s:Shared} {fp:List Addr} (I:au X pins σ H s) (hf:∀b∈fp,hX X pins H b) (ho:∀b∈fp,∃o,s.heap.get? b=some o/\∀v,o.data≠ .cell v):au X (pins++jw fp s.heap) σ H s:=
 I.pins_of fun p hp=>(List.mem_append.mp hp).elim (fun z=>I.pin p (List.mem_append_right _ z)) fun z=>by
  obtain⟨hb,e⟩:=pz z
  obtain⟨f0,f1,f2,_⟩:=hf p.1 hb
  obtain⟨o,e',d⟩:=ho p.1 hb
  rw[e]at e';cases e'
  exact⟨e,f0,f1,f2,d⟩
theorem au.unpinned {pins pl:List (Addr×Obj)} {σ:St} {H:Hp} {s:Shared} (I:au X (pins++pl) σ H s):au X pins σ H s:=I.pins_of fun p hp=>I.pin p (List.mem_append_right _ (List.mem_append_left _ hp))
theorem v1 {iter:Expr} {body:List Stmt} {wi:TI} {g:TG} {tb:TS} {pos:Pos} (hp:PassesOwn (model X.prog X.w) X.A X.env X.xe) (hc:X.calm=true) (hi:PI X tg iter wi) (hg:PG X tg g) (hb:kt X body tb)
  (hs:∀x,foldedSetIterable iter X.env x=pure x:=by intro _;rfl):PS X (.For tg iter body [] pos) (wB wi g tb):=by
 intro pins s σ H D I h
 refine wpAny_For (cg (hi pins s σ H _ I h) fun v s1 h1=>cg h1 fun itv s2 h2=> ?_) hs
 obtain⟨it,fp,tn,J,H2,e,I2,T,st2,f2,W,⟨m0,w0⟩,turn⟩:=h2
 subst e
 have stat:∀{H':Hp},(∀b∈fp,H' b=none)->∀b∈fp,hX X pins H' b:=fun hn b hb=>⟨hn b hb,(f2 b hb).2⟩
 refine codeAny_forLoop_any (fun n s'=>∃i σ' H',au X pins σ' H' s'/\tn i s'.heap/\(∀b∈fp,H' b=none)/\W i n σ' H') ?_ m0 ⟨0,σ,H2,I2,st2,fun b hb=>(f2 b hb).1,w0⟩
 rintro n s3 ⟨i,σ3,H3,I3,st3,fr3,w3⟩
 rcases turn i n σ3 H3 w3 with ⟨stop,qn⟩|⟨go,N,hN,step⟩
 ·refine wpAny_passesOwn hp (cg (T.done X rfl rfl rfl hc i pins s3 σ3 H3 X.xe I3 (stat fr3) st3 stop) fun r s4 z_=> ?_)
  obtain⟨hr,I4⟩:=z_
  subst hr
  exact wpAny_execs_nil ⟨σ3,H3,I4,qn⟩
 ·refine wpAny_passesOwn hp (cg (T.item X rfl rfl rfl hc i pins s3 σ3 H3 X.xe I3 (stat fr3) st3 go) fun r s4 z_=> ?_)
  obtain⟨u,hr,h4⟩:=z_
  subst hr
  refine wpAny_passesOwn hp (cg h4 fun _ s5 z_=> ?_)
  obtain⟨x,H5,I5,r5,y5,st5,fr5⟩:=z_
  have I5':=I5.pinned (stat fr5) (T.obj _ _ st5)
  refine wpAny_passesOwn hp (cg (hg _ s5 σ3 H5 x u _ I5' r5 (step x H5 y5)) fun _ s6 z_=> ?_)
  obtain⟨σ6,H6,I6,q6⟩:=z_
  refine wpAny_passesOwn hp (cg (hb _ s6 σ6 H6 _ I6 q6) fun f s7 q7=> ?_)
  have again:∀{σ7:St} {H7:Hp},au X (pins++jw fp s5.heap) σ7 H7 s7->N σ7 H7->∃m,m<n/\∃i σ' H',au X pins σ' H' s7/\tn i s7.heap/\(∀b∈fp,H' b=none)/\W i m σ' H':=fun {σ7 H7} I7 n7=>by
   obtain⟨m',hm,w7⟩:=hN σ7 H7 n7
   refine⟨m',hm,i+1,σ7,H7,I7.unpinned,T.keep _ _ _ st5 fun b hb o e=>(I7.pin (b,o) (List.mem_append_right _ (List.mem_append_right _ (fc hb e)))).1,fun b hb=> ?_,w7⟩
   obtain⟨o,e,d⟩:=T.obj _ _ st5 b hb
   exact(I7.pin (b,o) (List.mem_append_right _ (List.mem_append_right _ (fc hb e)))).2.1
  cases f with
  |next=>obtain⟨σ7,H7,I7,n7⟩:=q7;exact again I7 n7
  |cont=>obtain⟨σ7,H7,I7,n7⟩:=q7;exact again I7 n7
  |brk=>obtain⟨σ7,H7,I7,q7⟩:=q7;exact⟨σ7,H7,I7.unpinned,q7⟩
  |ret v=>obtain⟨x7,σ7,H7,I7,r7,q7⟩:=q7;exact⟨x7,σ7,H7,I7.unpinned,r7,q7⟩
end
end L2
namespace L2
open PySem PySem.Spec PyProof.Rows
noncomputable abbrev R2:=V->V->Hp->VK->Prop
noncomputable def gE (X:Cx) (f:Value->Value->Sem Value) (r:R2):Prop:=
 ∀(pins:List (Addr×Obj)) (s:Shared) (σ:St) (H:Hp) (x y:V) (v u:Value) (Q:VK),au X pins σ H s->bg x v->bg y u->r x y H Q->
  wpAny (model X.prog X.w) X.A (f v u) (EP X pins σ Q) X.xe s
noncomputable def eO (X:Cx) (f:Value) (r:List V->Hp->VK->Prop):Prop:=
 ∀(pins:List (Addr×Obj)) (s:Shared) (σ:St) (H:Hp) (xs:List V) (us:List Value) (Q:VK),au X pins σ H s->aM xs us->r xs H Q->
  wpAny (model X.prog X.w) X.A (call f us) (EP X pins σ Q) X.xe s
noncomputable def x_ (X:Cx) (r:V->Hp->(Bool->Hp->Prop)->Prop):Prop:=
 ∀(pins:List (Addr×Obj)) (s:Shared) (σ:St) (H:Hp) (x:V) (v:Value) (Q:Bool->Hp->Prop),au X pins σ H s->bg x v->r x H Q->
  wpAny (model X.prog X.w) X.A (truthy v) (TP X pins σ Q) X.xe s
noncomputable def xB (r:R2) (ta tb:TE):TE:=fun σ H Q=>ta σ H fun x H1=>tb σ H1 fun y H2=>r x y H2 Q
noncomputable def rI (C:Int->Int->Prop) (g:Int->Int->V):R2:=fun x y H Q=>∃i j,x= .int i/\y= .int j/\C i j/\Q (g i j) H
noncomputable def pA (g:Int->Int->V):R2:=fun x y H Q=>∃i j,x= .int i/\y= .int j/\Q (g i j) H
section
variable {X:Cx} {a b c:Expr} {ta tb tc:TE} {pos:Pos}
theorem v2 (ha:PE X a ta) (hb:PE X b tb) {pins:List (Addr×Obj)} {s:Shared} {σ:St} {H:Hp} {R:V->V->Hp->Prop} (I:au X pins σ H s)
  (h:ta σ H fun x H1=>tb σ H1 fun y H2=>R x y H2) {Q:Value->Shared->Prop} {f:Value->Value->Sem Value}
  (hf:∀v u s2 x y H2,au X pins σ H2 s2->bg x v->bg y u->R x y H2->wpAny (model X.prog X.w) X.A (f v u) Q X.xe s2):
  wpAny (model X.prog X.w) X.A (eval a X.env) (fun v s₁=>wpAny (model X.prog X.w) X.A (eval b X.env) (fun u s₂=>wpAny (model X.prog X.w) X.A (f v u) Q X.xe s₂) X.xe s₁) X.xe s:=by
 refine cg (ha pins s σ H _ I h) fun v s1 z_=> ?_
 obtain⟨x,H1,I1,r1,q1⟩:=z_
 refine cg (hb pins s1 σ H1 _ I1 q1) fun u s2 z_=> ?_
 obtain⟨y,H2,I2,r2,q2⟩:=z_
 exact hf v u s2 x y H2 I2 r1 r2 q2
theorem wC {op:Operator} {r:R2} (ho:gE X (binaryOp op) r) (ha:PE X a ta) (hb:PE X b tb):PE X (.BinOp a op b pos) (xB r ta tb):=by
 intro pins s σ H Q I h
 exact wpAny_BinOp (v2 ha hb I h fun v u s2 x y H2 I2 rx ry q=>ho pins s2 σ H2 x y v u Q I2 rx ry q)
theorem xC {f:Value->Value->Sem Value} {C:Int->Int->Prop} {g:Int->Int->Int}
  (rule:∀(i j:Int) (t u:Tok) (s:Shared) (Q:Value->Shared->Prop) (E:Value->Shared->Prop),C i j->Q (.int (g i j) s.toks) {s with toks:=s.toks+1}->wpAny (model X.prog X.w) X.A (f (.int i t) (.int j u)) Q E s):
  gE X f (rI C fun i j=> .int (g i j)):=by
 intro pins s σ H x y v u Q I rx ry h
 obtain⟨i,j,rfl,rfl,hc,q⟩:=h
 obtain⟨t,rfl⟩:=rx
 obtain⟨t',rfl⟩:=ry
 exact rule i j t t' s _ _ hc ⟨.int (g i j),H,I.tok _,⟨_,rfl⟩,q⟩
theorem wD {f:Value->Value->Sem Value} {g:Int->Int->Int}
  (rule:∀(i j:Int) (t u:Tok) (s:Shared) (Q:Value->Shared->Prop) (E:Value->Shared->Prop),Q (.int (g i j) s.toks) {s with toks:=s.toks+1}->wpAny (model X.prog X.w) X.A (f (.int i t) (.int j u)) Q E s):
  gE X f (pA fun i j=> .int (g i j)):=by
 intro pins s σ H x y v u Q I rx ry h
 obtain⟨i,j,rfl,rfl,q⟩:=h
 obtain⟨t,rfl⟩:=rx
 obtain⟨t',rfl⟩:=ry
 exact rule i j t t' s _ _ ⟨.int (g i j),H,I.tok _,⟨_,rfl⟩,q⟩
theorem v3 {f:Value->Value->Sem Value} {g:Int->Int->Bool}
  (rule:∀(i j:Int) (t u:Tok) (s:Shared) (Q:Value->Shared->Prop) (E:Value->Shared->Prop),Q (.bool (g i j)) s->wpAny (model X.prog X.w) X.A (f (.int i t) (.int j u)) Q E s):
  gE X f (pA fun i j=> .bl (g i j)):=by
 intro pins s σ H x y v u Q I rx ry h
 obtain⟨i,j,rfl,rfl,q⟩:=h
 obtain⟨t,rfl⟩:=rx
 obtain⟨t',rfl⟩:=ry
 exact rule i j t t' s _ _ ⟨.bl (g i j),H,I,rfl,q⟩
noncomputable def sL (i j:Int):Prop:=0<j/\j<1073741824
noncomputable def sM (i j:Int):Prop:=0<=j/\j<=1000000/\i.natAbs<2 ^64
noncomputable def pB (i j:Int):Prop:=(-(2 ^64)<i/\i<2 ^64)\/(-(2 ^64)<j/\j<2 ^64)
theorem pB.ok {i j:Int} (h:pB i j):IntMulOk i j:=by
 rcases h with ⟨h1,h2⟩|⟨h1,h2⟩
 ·exact .of_left (intBits_le_64 h1 h2)
 ·exact .of_right (intBits_le_64 h1 h2)
theorem v4:gE X (binaryOp .Add) (pA fun i j=> .int (i+j)):=wD fun _ _ _ _ _ _ _ q=>add_int q
theorem qz:gE X (binaryOp .Sub) (pA fun i j=> .int (i - j)):=wD fun _ _ _ _ _ _ _ q=>sub_int q
theorem v5:gE X (binaryOp .Mult) (rI pB fun i j=> .int (i*j)):=xC fun _ _ _ _ _ _ _ hc q=>mul_int q hc.ok
theorem gA:gE X (binaryOp .FloorDiv) (rI sL fun i j=> .int (i / j)):=xC fun i j _ _ _ _ _ hc q=>by
 have h1:(0:Int)<j:=hc.1
 have h2:j<1073741824:=hc.2
 exact floordiv_int (by omega) (by rw[Int.fdiv_eq_ediv_of_nonneg i (by omega)];exact q) (.inl (PyProof.noPylong_small (by omega)))
theorem fg:gE X (binaryOp .Mod) (rI (fun _ j=>0<j) fun i j=> .int (i%j)):=xC fun i j _ _ _ _ _ hc q=>by
 have h1:(0:Int)<j:=hc
 exact mod_int' (by omega) (by rw[Int.fmod_eq_emod_of_nonneg i (by omega)];exact q)
theorem v6:gE X (binaryOp .Pow) (rI sM fun i j=> .int (i ^j.toNat)):=xC fun _ _ _ _ _ _ _ hc q=>pow_int_small hc.1 hc.2.1 hc.2.2 q
end
noncomputable def v7:V->V->Bool
 | .non, .non=>true| .non, .int _=>true| .int _, .non=>true| .non, .bl _=>true| .bl _, .non=>true| .non, .str _=>true| .str _, .non=>true
 | .int _, .int _=>true| .bl _, .bl _=>true| .str _, .str _=>true| .byt _, .byt _=>true
 | .int _, .str _=>true| .str _, .int _=>true| .bl _, .str _=>true| .str _, .bl _=>true
 |_,_=>false
noncomputable def yx:R2:=fun x y H Q=>v7 x y=true/\Q (.bl (decide (x=y))) H
noncomputable def yy:R2:=fun x y H Q=>v7 x y=true/\Q (.bl (!decide (x=y))) H
theorem oj {i j:Int}:decide (V.int i=V.int j)=(i==j):=by
 rw[Bool.eq_iff_iff]
 simp
theorem qA {i j:Bool}:decide (V.bl i=V.bl j)=(i==j):=by
 rw[Bool.eq_iff_iff]
 simp
theorem ol {i j:Str}:decide (V.str i=V.str j)=(i==j):=by
 rw[Bool.eq_iff_iff]
 simp
theorem om {i j:Array UInt8}:decide (V.byt i=V.byt j)=(i.toList==j.toList):=by
 rw[Bool.eq_iff_iff]
 cases i
 cases j
 simp
section
variable {X:Cx} {a b c:Expr} {ta tb tc:TE} {pos:Pos}
theorem aW {pins:List (Addr×Obj)} {σ:St} {H:Hp} {s:Shared} {Q:VK} {k k':Bool} (I:au X pins σ H s) (q:Q (.bl k) H) (e:k=k'):EP X pins σ Q (.bool k') s:=by
 subst e
 exact⟨.bl k,H,I,rfl,q⟩
theorem eE:gE X (compareOp .Eq) yx:=by
 intro pins s σ H x y v u Q I rx ry h
 obtain⟨hs,q⟩:=h
 cases x with
 |non=>
  cases rx
  cases y with
  |non=>cases ry;exact PySem.EqNone.eq_none_none (aW I q (by simp))
  |bl j=>cases ry;exact PySem.EqNone.eq_none_bool (aW I q (by simp))
  |int j=>obtain⟨t',rfl⟩:=ry;exact PySem.EqNone.eq_none_int (aW I q (by simp))
  |str j=>obtain⟨t',rfl⟩:=ry;exact PySem.EqNone.eq_none_str (aW I q (by simp))
  |_=>exact absurd (show false=true from hs) Bool.false_ne_true
 |bl i=>
  cases rx
  cases y with
  |non=>cases ry;exact PySem.EqNone.eq_bool_none (aW I q (by simp))
  |bl j=>cases ry;exact eq_bool (aW I q qA)
  |str j=>obtain⟨t',rfl⟩:=ry;exact PySem.EqMixed.eq_bool_str (aW I q (by simp))
  |_=>exact absurd (show false=true from hs) Bool.false_ne_true
 |int i=>
  obtain⟨t,rfl⟩:=rx
  cases y with
  |non=>cases ry;exact PySem.EqNone.eq_int_none (aW I q (by simp))
  |int j=>obtain⟨t',rfl⟩:=ry;exact eq_int (aW I q oj)
  |str j=>obtain⟨t',rfl⟩:=ry;exact PySem.EqMixed.eq_int_str (aW I q (by simp))
  |_=>exact absurd (show false=true from hs) Bool.false_ne_true
 |str i=>
  obtain⟨t,rfl⟩:=rx
  cases y with
  |non=>cases ry;exact PySem.EqNone.eq_str_none (aW I q (by simp))
  |bl j=>cases ry;exact PySem.EqMixed.eq_str_bool (aW I q (by simp))
  |int j=>obtain⟨t',rfl⟩:=ry;exact PySem.EqMixed.eq_str_int (aW I q (by simp))
  |str j=>obtain⟨t',rfl⟩:=ry;exact eq_str (aW I q ol)
  |_=>exact absurd (show false=true from hs) Bool.false_ne_true
 |byt i=>
  obtain⟨t,rfl⟩:=rx
  cases y with
  |byt j=>obtain⟨t',rfl⟩:=ry;exact PySem.W.eq_bytes (aW I q om)
  |_=>exact absurd (show false=true from hs) Bool.false_ne_true
 |_=>cases y<;>exact absurd (show false=true from hs) Bool.false_ne_true
theorem lZ:gE X (compareOp .NotEq) yy:=by
 intro pins s σ H x y v u Q I rx ry h
 obtain⟨hs,q⟩:=h
 cases x with
 |non=>
  cases rx
  cases y with
  |non=>cases ry;exact PySem.EqNone.ne_none_none (aW I q (by simp))
  |bl j=>cases ry;exact PySem.EqNone.ne_none_bool (aW I q (by simp))
  |int j=>obtain⟨t',rfl⟩:=ry;exact PySem.EqNone.ne_none_int (aW I q (by simp))
  |str j=>obtain⟨t',rfl⟩:=ry;exact PySem.EqNone.ne_none_str (aW I q (by simp))
  |_=>exact absurd (show false=true from hs) Bool.false_ne_true
 |bl i=>
  cases rx
  cases y with
  |non=>cases ry;exact PySem.EqNone.ne_bool_none (aW I q (by simp))
  |bl j=>cases ry;exact ne_bool (aW I q (congrArg not qA))
  |str j=>obtain⟨t',rfl⟩:=ry;exact PySem.EqMixed.ne_bool_str (aW I q (by simp))
  |_=>exact absurd (show false=true from hs) Bool.false_ne_true
 |int i=>
  obtain⟨t,rfl⟩:=rx
  cases y with
  |non=>cases ry;exact PySem.EqNone.ne_int_none (aW I q (by simp))
  |int j=>obtain⟨t',rfl⟩:=ry;exact ne_int (aW I q (congrArg not oj))
  |str j=>obtain⟨t',rfl⟩:=ry;exact PySem.EqMixed.ne_int_str (aW I q (by simp))
  |_=>exact absurd (show false=true from hs) Bool.false_ne_true
 |str i=>
  obtain⟨t,rfl⟩:=rx
  cases y with
  |non=>cases ry;exact PySem.EqNone.ne_str_none (aW I q (by simp))
  |bl j=>cases ry;exact PySem.EqMixed.ne_str_bool (aW I q (by simp))
  |int j=>obtain⟨t',rfl⟩:=ry;exact PySem.EqMixed.ne_str_int (aW I q (by simp))
  |str j=>obtain⟨t',rfl⟩:=ry;exact ne_str (aW I q (congrArg not ol))
  |_=>exact absurd (show false=true from hs) Bool.false_ne_true
 |byt i=>
  obtain⟨t,rfl⟩:=rx
  cases y with
  |byt j=>obtain⟨t',rfl⟩:=ry;exact PySem.W.ne_bytes (aW I q (congrArg not om))
  |_=>exact absurd (show false=true from hs) Bool.false_ne_true
 |_=>cases y<;>exact absurd (show false=true from hs) Bool.false_ne_true
theorem l_:gE X (compareOp .Lt) (pA fun i j=> .bl (decide (i<j))):=v3 fun _ _ _ _ _ _ _ q=>lt_int q
theorem qB:gE X (compareOp .Gt) (pA fun i j=> .bl (decide (j<i))):=v3 fun _ _ _ _ _ _ _ q=>gt_int q
theorem oo:gE X (compareOp .GtE) (pA fun i j=> .bl (decide (j<=i))):=v3 fun _ _ _ _ _ _ _ q=>ge_int q
theorem sN:gE X (compareOp .IsNot) (fun x y H Q=>y= .non/\Q (.bl (!decide (x= .non))) H):=by
 intro pins s σ H x y v u Q I rx ry h
 obtain⟨rfl,q⟩:=h
 cases ry
 refine isnot_none_gen (aW I q ?_)
 cases x<;>first
  |(cases rx;rfl)
  |(obtain⟨t,rfl⟩:=rx;rfl)
theorem gE.or {f:Value->Value->Sem Value} {r r':R2} (h:gE X f r) (h':gE X f r'):gE X f (fun x y H Q=>r x y H Q\/r' x y H Q):=by
 intro pins s σ H x y v u Q I rx ry q
 rcases q with q|q
 ·exact h pins s σ H x y v u Q I rx ry q
 ·exact h' pins s σ H x y v u Q I rx ry q
theorem qC (b:Expr) {op:CmpOp} (h:op≠ .In:=by decide) (h2:op≠ .NotIn:=by decide):behindInMarks op b=false:=by
 have e1:(op==CmpOp.In)=false:=by cases op<;>first|rfl|exact absurd rfl h
 have e2:(op==CmpOp.NotIn)=false:=by cases op<;>first|rfl|exact absurd rfl h2
 cases b<;>simp[behindInMarks,e1,e2]
theorem sO {op:CmpOp} {r:R2} (ho:gE X (compareOp op) r) (ha:PE X a ta) (hb:PE X b tb) (hm:behindInMarks op b=false):PE X (.Compare a [op] [b] pos) (xB r ta tb):=by
 intro pins s σ H Q I h
 exact wpAny_Compare1 (v2 ha hb I h fun v u s2 x y H2 I2 rx ry q=>ho pins s2 σ H2 x y v u Q I2 rx ry q) hm
noncomputable def um (t:TE):TT:=fun σ H Q=>t σ H fun x H'=>∃k,x= .bl k/\Q k H'
theorem sP {op:CmpOp} {r:R2} (ho:gE X (compareOp op) r) (ha:PE X a ta) (hb:PE X b tb) (hm:behindInMarks op b=false):PT X (.Compare a [op] [b] pos) (um (xB r ta tb)):=by
 intro pins s σ H Q I h
 refine wpAny_isTrue_Compare1 (cg (ha pins s σ H _ I h) fun v s1 ⟨x,H1,I1,r1,q1⟩=>cg (hb pins s1 σ H1 _ I1 q1) fun u s2 ⟨y,H2,I2,r2,q2⟩=>
  cg (ho pins s2 σ H2 x y v u _ I2 r1 r2 q2) fun c s3 ⟨z,H3,I3,r3,k,e,q3⟩=> ?_) hm
 subst e
 cases r3
 exact wpAny_truthy_bool ⟨H3,I3,q3⟩
noncomputable def wF (K:PySem.W.Frag) (x:V) (H:Hp) (k:Bool):Prop:=
 match x with
 | .non=>k=false
 | .bl b=>k=b
 | .int i=>k=(i != 0)
 | .str y=>y.length<=sizeLine/\k=((y.length:Int) != 0)
 | .byt y=>y.size<=sizeLine/\k=((y.size:Int) != 0)
 | .ref p=>(∃xs,dr K H p xs/\k= !xs.isEmpty)\/(∃xs,eL K H p xs/\k= !xs.isEmpty)\/∃kvs,H p=some (.dK kvs)/\k= !kvs.isEmpty
 |_=>False
theorem nn {κ:Type} {kvs:List (κ×V)} {vs:List (κ×Value)} (r:KV kvs vs):(!vs.isEmpty)= !kvs.isEmpty:=by
 cases r<;>rfl
theorem jx {xs:List V} {its:List Value} (r:aM xs its):(!its.toArray.isEmpty)= !xs.isEmpty:=by
 cases r<;>simp
theorem jy:(sizeLine:Nat)<2 ^63:=by rw[sizeLine_eq];decide
theorem v8:x_ X (fun x H Q=>∃k,wF X.K x H k/\Q k H):=by
 intro pins s σ H x v Q I rx h
 obtain⟨k,e,q⟩:=h
 have hl:=jy
 have hs:sizeLine=16777216:=sizeLine_eq
 cases x with
 |non=>
  cases rx
  have e':k=false:=e
  subst e'
  exact truthy_none ⟨H,I,q⟩
 |bl b=>
  cases rx
  have e':k=b:=e
  subst e'
  exact wpAny_truthy_bool ⟨H,I,q⟩
 |int i=>
  obtain⟨t,rfl⟩:=rx
  have e':k=(i != 0):=e
  subst e'
  exact PySem.P.truthy_int ⟨H,I,q⟩
 |str y=>
  obtain⟨t,rfl⟩:=rx
  obtain⟨hy,e'⟩:y.length<=sizeLine/\k=((y.length:Int) != 0):=e
  subst e'
  exact PySem.P.truthy_str (by omega) ⟨H,I.tok _,q⟩
 |byt y=>
  obtain⟨t,rfl⟩:=rx
  obtain⟨hy,e'⟩:y.size<=sizeLine/\k=((y.size:Int) != 0):=e
  subst e'
  exact PySem.W.truthy_bytes (by omega) ⟨H,I.tok _,q⟩
 |ref p=>
  cases rx
  have e':(∃xs,dr X.K H p xs/\k= !xs.isEmpty)\/(∃xs,eL X.K H p xs/\k= !xs.isEmpty)\/∃kvs,H p=some (.dK kvs)/\k= !kvs.isEmpty:=e
  rcases e' with ⟨xs,hx,e'⟩|⟨xs,hx,e'⟩|⟨kvs,hx,e'⟩
  ·subst e'
   obtain⟨its,r,pl,hz⟩:=I.list hx
   have hlen:=r.length
   exact wpAny_truthy_list pl.isList (by simp only[List.size_toArray];omega) ⟨H,I.tok _,by rw[jx r];exact q⟩
  ·subst e'
   obtain⟨its,r,pl,hz⟩:=I.tuple hx
   have hlen:=r.length
   exact truthy_tuple pl (by simp only[List.size_toArray];omega) ⟨H,I.tok _,by rw[jx r];exact q⟩
  ·subst e'
   obtain⟨hz,hS,vs,r,m⟩:kvs.length<=sizeLine/\(p==sysModules)=false/\∃vs,KV kvs vs/\s.heap.DictOf (cT X.prog X.w) p vs:=I.hok p _ hx
   have hlen:kvs.length=vs.length:=Paired.length r
   exact wpAny_truthy_dict hS m (by omega) ⟨H,I.tok _,by rw[nn r];exact q⟩
 |_=>exact(show False from e).elim
theorem qD (ha:PE X a ta) (he:∀whole,isTrue a X.env whole=(do let v<-whole;standAt a.pos;holding [v] (truthy v))):
  PT X a (fun σ H Q=>ta σ H fun x H'=>∃k,wF X.K x H' k/\Q k H'):=by
 intro pins s σ H Q I h
 exact isTrue_plain (cg (ha pins s σ H _ I h) fun v s1 ⟨x,H1,I1,r1,q1⟩=>v8 pins s1 σ H1 x v Q I1 r1 q1) (he _)
theorem hZ {x:V} {us:List Value} (r:aM [x] us):∃u,us=[u]/\bg x u:=by
 cases r with
 |cons r1 r2=>cases r2;exact⟨_,rfl,r1⟩
theorem uo {x y:V} {us:List Value} (r:aM [x,y] us):∃u w',us=[u,w']/\bg x u/\bg y w':=by
 cases r with
 |cons r1 r2=>
  cases r2 with
  |cons r3 r4=>cases r4;exact⟨_,_,rfl,r1,r3⟩
theorem ku:eO X (.type "int") (fun xs H Q=>(∃i,xs=[.int i]/\Q (.int i) H)\/∃k,xs=[.bl k]/\Q (.int (if k then 1 else 0)) H):=by
 intro pins s σ H xs us Q I r h
 rcases h with ⟨i,rfl,q⟩|⟨k,rfl,q⟩
 ·obtain⟨u,rfl,t,rfl⟩:=hZ r
  exact call_int_int ⟨.int i,H,I,⟨_,rfl⟩,q⟩
 ·obtain⟨u,rfl,r1⟩:=hZ r
  cases r1
  exact call_int_bool ⟨.int (if k then 1 else 0),H,I.tok _,⟨_,rfl⟩,q⟩
end
end L2
namespace L2
open PySem PySem.Spec PyProof.Rows
structure nq (h:Heap) (x dx C:Addr) (mA:Str->Option Value):Prop where
 obj:h.get? x=some (PySem.W.instObj C dx)
 ns:h.Ns1 dx mA
 ne:dx≠x
theorem pC {h:Heap} {dx:Addr} {mA:Str->Option Value} (n:h.Ns1 dx mA):∃od,h.get? dx=some od/\∀name,PySem.W.lookIn name od=some (mA name):=by
 obtain⟨o,es,ep,ho,hd,hk,_,hm⟩:=n
 refine⟨o,ho,fun name=> ?_⟩
 have e:=hm name
 unfold nsFind findBy at e
 rw[<-Array.find?_toList]at e
 unfold PySem.W.lookIn
 rw[hd]
 dsimp only
 split
 ·rename_i y q
  rw[q]at e
  exact congrArg some e
 ·rename_i q
  rw[q]at e
  have a:es.toList.any (·.refKey)=false:=by
   rw[List.any_eq_false]
   intro y hy
   obtain⟨z,t,hkey⟩:=hk y (Array.mem_toList_iff.mp hy)
   simp[DictEntry.refKey,hkey]
  have a':¬es.toList.any (·.refKey)=true:=by rw[a];exact Bool.false_ne_true
  rw[if_neg a']
  exact congrArg some e
theorem nq.look {h:Heap} {x dx C:Addr} {mA:Str->Option Value} (I:nq h x dx C mA):∃od,PySem.W.InstAt h x (PySem.W.instObj C dx) C (some od)/\∀name,PySem.W.lookIn name od=some (mA name):=
 let ⟨od,ho,hl⟩:=pC I.ns
 ⟨od,⟨I.obj,rfl,rfl,ho⟩,hl⟩
section
variable {prog:Program} {w:World} {A:Around} {E:Value->Shared->Prop} {s:Shared} {K:PySem.W.Frag} {x dx C f:Addr} {mA:Str->Option Value} {name:Str} {v:Value}
theorem sQ {expr:Bool} {Q:Value->Shared->Prop} (X:K.In s.heap) (I:nq s.heap x dx C mA) (hg:PySem.W.plainGet K C name=true) (hh:PySem.W.hasDictIn K C=true)
  (ha:PySem.W.findIn K (.ref C) name=some none) (hv:mA name=some v) (hv':PySem.W.handedIn v=true) (h:Q v {s with toks:=s.toks+1}):
  wpAny (model prog w) A (getAttr (.ref x) name expr) Q E s:=by
 obtain⟨od,J,hl⟩:=I.look
 exact PySem.W.get_value X J (PySem.W.plainGet_of hg).1 (PySem.W.findObj_own hh ha rfl (by rw[hl,hv])) hv' h
theorem qE {pl:Sem Bool} {Q:Value×List Value->Shared->Prop} (X:K.In s.heap) (I:nq s.heap x dx C mA) (hg:PySem.W.plainGet K C name=true)
  (hf:PySem.W.findIn K (.ref C) name=some (some (.ref f))) (ht:PySem.W.isFn K (.ref f)=true) (hv:mA name=none) (h:Q (.ref f,[.ref x]) s):
  wpAny (model prog w) A (getMethod (.ref x) name pl) Q E s:=by
 obtain⟨od,J,hl⟩:=I.look
 exact PySem.W.method_fn X J (PySem.W.plainGet_of hg).1 (PySem.W.plainGet_of hg).2 hf (beq_iff_eq.mp ht) (by show (PySem.W.lookIn name od).map (·.isSome)=some false;rw[hl,hv];rfl) h
theorem sR {ns:List Str} {Q:Unit->Shared->Prop} (X:K.In s.heap) (I:nq s.heap x dx C mA)
  (hs:PySem.W.findIn K (.ref C) "__setattr__"=some (some (.builtin "object.__setattr__"))) (hp:PySem.W.plainOver K C=true) (ht:PySem.W.takerIn K C name=some none) (hh:PySem.W.hasDictIn K C=true)
  (hw:PySem.Within mA ns) (hsz:ns.length<=sizeLine)
  (h:∀h',nq h' x dx C (fun y=>if y=name then some v else mA y)->Heap.SameBut dx s.heap h'->Q () {s with heap:=h',toks:=s.toks+2}):
  wpAny (model prog w) A (setAttr (.ref x) name v) Q E s:=by
 obtain⟨od,J,hl⟩:=I.look
 refine PySem.W.set_plain X J hs (PySem.W.osa_open (s:={s with toks:=s.toks+1}) (r:=none) X J hp ht fun b=> ?_)
 obtain⟨cd,hc,hd'⟩:=PySem.W.any_some hh
 have hx:s.heap.get? x=some ⟨.ref C,some dx, .plain,#[]⟩:=I.obj
 refine wpAny_bind (wpAny_pure (wpAny_bind (wpAny_bind (wpAny_loadPart hx (wpAny_bind (PySem.W.Looks.here (s:={s with toks:=s.toks+1}) (PySem.W.looks_clsIn X hc) ?_))))))
 rw[hd']
 refine wpAny_pure (a:=some dx) (wpAny_bind (wpAny_pure (wpAny_bind ?_)))
 refine wpAny_nsSet1 (s:={s with toks:=s.toks+1}) I.ns fun h' hn2 hs2=> ?_
 obtain⟨oD,esD,epD,hoD,hdD,hcD⟩:=hn2.count (PySem.Within.cons name v hw)
 refine wpAny_bind (wpAny_lookBehind hoD (by rw[hdD];exact pastItsLine_dict (Nat.le_trans hcD (by rw[List.length_cons];omega))) ?_)
 exact wpAny_pure (h _ ⟨(hs2.2 _ (Ne.symm I.ne)).trans I.obj,hn2,I.ne⟩ hs2)
theorem qF {R:Result->Shared->Prop} {vs:List Value} {kw:List (Str×Value)} (X:K.In s.heap) (hm:PySem.W.makesIn K C=true)
  (hi:PySem.W.findIn K (.ref C) "__init__"=some (some (.ref f))) (hf:PySem.W.typeIn K (.ref f)=some (.type "function"))
  (h:codeAny (model prog w) (A.under (.builtin "type.__call__" ⟨.ref C::vs,kw⟩)) (.call (.ref f) ⟨.ref (s.heap.objs.size+1)::vs,kw⟩) (PySem.W.InitBack (s.heap.objs.size+1) R)
   {s with heap:=(s.heap.push PySem.W.emptyDict).push (PySem.W.instObj C s.heap.objs.size)}):
  codeAny (model prog w) A (.call (.ref C) ⟨vs,kw⟩) R s:=by
 obtain⟨hh,g,d,t,os⟩:=s
 exact PySem.W.make_core (PySem.W.makes_of X hm) (PySem.W.looks_findIn X hi) (fun self=>PySem.W.bind_fn X self hf) (.inl rfl) h
end
noncomputable def dE (f:Str) (v:V):List (Str×V)->List (Str×V)
 |[]=>[(f,v)]
 |(g,x)::r=>if g=f then (g,v)::r else (g,x)::dE f v r
theorem bK (f g:Str) (v:V):∀fs:List (Str×V),(dE f v fs).lookup g=if g=f then some v else fs.lookup g
 |[]=>by
  show List.lookup g [(f,v)]=_
  by_cases h:g=f
  ·have hb:(g==f)=true:=beq_iff_eq.mpr h
   simp only[List.lookup,hb,if_pos h]
  ·have hb:(g==f)=false:=beq_eq_false_iff_ne.mpr h
   simp only[List.lookup,hb,if_neg h]
 |(k,x)::r=>by
  have ih:=bK f g v r
  rw[show dE f v ((k,x)::r)=(if k=f then (k,v)::r else (k,x)::dE f v r)from rfl]
  by_cases hk:k=f
  ·rw[if_pos hk]
   by_cases h:g=k
   ·have hb:(g==k)=true:=beq_iff_eq.mpr h
    simp only[List.lookup,hb,if_pos (h.trans hk)]
   ·have hb:(g==k)=false:=beq_eq_false_iff_ne.mpr h
    simp only[List.lookup,hb,if_neg (fun e:g=f=>h (e.trans hk.symm))]
  ·rw[if_neg hk]
   by_cases h:g=k
   ·have hb:(g==k)=true:=beq_iff_eq.mpr h
    simp only[List.lookup,hb,if_neg (fun e:g=f=>hk (h.symm.trans e))]
   ·have hb:(g==k)=false:=beq_eq_false_iff_ne.mpr h
    simp only[List.lookup,hb]
    exact ih
theorem iB (f:Str) (v:V):∀fs:List (Str×V),f∈(dE f v fs).map (·.1)/\∀g,g∈fs.map (·.1)->g∈(dE f v fs).map (·.1)
 |[]=>⟨by simp[dE],fun g h=>by simp at h⟩
 |(k,x)::r=>by
  obtain⟨i1,i2⟩:=iB f v r
  rw[show dE f v ((k,x)::r)=(if k=f then (k,v)::r else (k,x)::dE f v r)from rfl]
  by_cases hk:k=f
  ·rw[if_pos hk]
   subst hk
   exact⟨by simp,fun g h=>by simpa using h⟩
  ·rw[if_neg hk]
   refine⟨?_,fun g h=> ?_⟩
   ·rw[List.map_cons]
    exact List.mem_cons_of_mem _ i1
   ·rw[List.map_cons]at h ⊢
    rcases List.mem_cons.mp h with e|e
    ·exact List.mem_cons.mpr (.inl e)
    ·exact List.mem_cons_of_mem _ (i2 g e)
theorem j2 (f:Str) (v:V):∀fs:List (Str×V),(dE f v fs).length<=fs.length+1
 |[]=>by simp[dE]
 |(k,x)::r=>by
  have ih:=j2 f v r
  rw[show dE f v ((k,x)::r)=(if k=f then (k,v)::r else (k,x)::dE f v r)from rfl]
  by_cases hk:k=f
  ·rw[if_pos hk,List.length_cons,List.length_cons];omega
  ·rw[if_neg hk,List.length_cons,List.length_cons];omega
theorem fO.some_of {v:V} {o:Option Value} (r:fO (some v) o):∃u,o=some u/\bg v u:=by
 cases o with
 |none=>exact(show False from r).elim
 |some u=>exact⟨u,rfl,r⟩
theorem fO.none_of {o:Option Value} (r:fO none o):o=none:=by
 cases o with
 |none=>rfl
 |some u=>exact(show False from r).elim
theorem pD {v:V} {u:Value} (r:bg v u):PySem.W.handedIn u=true:=by
 cases v with
 |non=>cases (show u=Value.none from r);rfl
 |bl b=>cases (show u=Value.bool b from r);rfl
 |int i=>obtain⟨t,e⟩:=(show ∃t,u=Value.int i t from r);cases e;rfl
 |str x=>obtain⟨t,e⟩:=(show ∃t,u=Value.str x t from r);cases e;rfl
 |byt b=>obtain⟨t,e⟩:=(show ∃t,u=Value.bytes b t from r);cases e;rfl
 |flt b=>obtain⟨t,e⟩:=(show ∃t,u=Value.float b t from r);cases e;rfl
 |ref a=>cases (show u=Value.ref a from r);rfl
 |ty n=>cases (show u=Value.type n from r);rfl
section
variable {P:Program} {w:World} {H H':Hp} {h h':Heap} {a C dx:Addr} {fs fs':List (Str×V)}
theorem ji (hok:gM P w H h) (e:H a=some (.ins C dx fs)):∃mA,nq h a dx C mA/\(∀f,fO (fs.lookup f) (mA f))/\PySem.Within mA (fs.map (·.1))/\fs.length<=1000/\H dx=some (.own a):=by
 obtain⟨d,z,ne,ob,mA,n,r,q⟩:=(show bO P w H h a (.ins C dx fs)from hok a _ e)
 exact⟨mA,⟨ob,n,ne⟩,r,q,z,d⟩
end
structure m6 (K:PySem.W.Frag) (C:Addr):Prop where
 pg:PySem.W.plainGet K C Str.empty=true
 hd:PySem.W.hasDictIn K C=true
 po:PySem.W.plainOver K C=true
 sa:PySem.W.findIn K (.ref C) "__setattr__"=some (some (.builtin "object.__setattr__"))
theorem m6.get {K:PySem.W.Frag} {C:Addr} (c:m6 K C) (f:Str):PySem.W.plainGet K C f=true:=c.pg
noncomputable def cF (K:PySem.W.Frag) (C:Addr) (f:Str):Prop:=PySem.W.findIn K (.ref C) f=some none
theorem cF.taker {K:PySem.W.Frag} {C:Addr} {f:Str} (n:cF K C f):PySem.W.takerIn K C f=some none:=by
 unfold PySem.W.takerIn
 rw[show PySem.W.findIn K (.ref C) f=some none from n]
 rfl
structure nu (K:PySem.W.Frag) (C:Addr) (m:Str) (f:Addr):Prop where
 at_:PySem.W.findIn K (.ref C) m=some (some (.ref f))
 fn:PySem.W.isFn K (.ref f)=true
 kp:PySem.W.keepIn K (.ref f)=true
section
variable {X:Cx} {pins:List (Addr×Obj)} {σ:St} {H:Hp} {s:Shared} {a C dx:Addr} {fs:List (Str×V)} {f:Str} {v:V} {A:Around} {E:Value->Shared->Prop}
theorem nv {b:Bool} {Q:Value->Shared->Prop} (I:au X pins σ H s) (e:H a=some (.ins C dx fs)) (c:m6 X.K C) (n:cF X.K C f) (l:fs.lookup f=some v)
  (h:∀u s',au X pins σ H s'->bg v u->Q u s'):wpAny (model X.prog X.w) A (getAttr (.ref a) f b) Q E s:=by
 obtain⟨mA,O,r,_,_,_⟩:=ji I.hok e
 obtain⟨u,hu,ru⟩:=fO.some_of (v:=v) (o:=mA f) (by rw[<-l];exact r f)
 exact sQ I.kIn O (c.get f) c.hd n hu (pD ru) (h u _ (I.tok _) ru)
theorem gP {m:Str} {g:Addr} {pl:Sem Bool} {Q:Value×List Value->Shared->Prop} (I:au X pins σ H s) (e:H a=some (.ins C dx fs)) (c:m6 X.K C) (k:nu X.K C m g) (l:fs.lookup m=none)
  (h:Q (.ref g,[.ref a]) s):wpAny (model X.prog X.w) A (getMethod (.ref a) m pl) Q E s:=by
 obtain⟨mA,O,r,_,_,_⟩:=ji I.hok e
 have hn:mA m=none:=fO.none_of (by rw[<-l];exact r m)
 exact qE I.kIn O (c.get m) k.at_ k.fn hn h
theorem jz {y:V} {u:Value} {Q:Unit->Shared->Prop} (I:au X pins σ H s) (e:H a=some (.ins C dx fs)) (c:m6 X.K C) (n:cF X.K C f) (hl:fs.length<1000) (ry:bg y u)
  (h:∀s',au X pins σ (bn H a (.ins C dx (dE f y fs))) s'->Q () s'):wpAny (model X.prog X.w) A (setAttr (.ref a) f u) Q E s:=by
 obtain⟨mA,O,r,wi,_,ho⟩:=ji I.hok e
 have hz:(fs.map (·.1)).length<=sizeLine:=by rw[List.length_map,sizeLine_eq];omega
 refine sR I.kIn O c.sa c.po n.taker c.hd wi hz fun h' O' sb=>h _ ?_
 have hd:∃o,h'.get? dx=some o:=let ⟨o,_,_,e',_⟩:=O'.ns;⟨o,e'⟩
 refine I.write (x:=a) (e:=dx) (by rw[e];exact True.intro) (.inr ho) (fun b q hb z=>(sb.2 b hb).trans z) hd ?_
 refine⟨by rw[aj O.ne];exact ho,?_,O.ne,O'.obj,_,O'.ns,fun g=> ?_,fun g hg=> ?_⟩
 ·have:=j2 f y fs;omega
 ·show fO ((dE f y fs).lookup g) (if g=f then some u else mA g)
  rw[bK]
  by_cases q:g=f
  ·rw[if_pos q,if_pos q];exact ry
  ·rw[if_neg q,if_neg q];exact r g
 ·by_cases q:g=f
  ·rw[q];exact(iB f y fs).1
  ·refine(iB f y fs).2 g (wi g fun z=>hg ?_)
   show (if g=f then some u else mA g)=none
   rw[if_neg q];exact z
theorem au.made (I:au X pins σ H s):au X pins σ (bn (bn H s.heap.objs.size (.own (s.heap.objs.size+1))) (s.heap.objs.size+1) (.ins C s.heap.objs.size []))
  {s with heap:=(s.heap.push PySem.W.emptyDict).push (PySem.W.instObj C s.heap.objs.size)}:=by
 have e1:(s.heap.push PySem.W.emptyDict).get? s.heap.objs.size=some PySem.W.emptyDict:=Heap.get?_push_size s.heap rfl
 have e2:((s.heap.push PySem.W.emptyDict).push (PySem.W.instObj C s.heap.objs.size)).get? (s.heap.objs.size+1)=some (PySem.W.instObj C s.heap.objs.size):=by
  have:=Heap.get?_push_size (s.heap.push PySem.W.emptyDict) (o:=PySem.W.instObj C s.heap.objs.size) rfl
  rwa [Heap.size_push]at this
 have e3:(s.heap.push PySem.W.emptyDict).Ns s.heap.objs.size (fun _=>none):=⟨PySem.W.emptyDict,#[],_,e1,rfl,(fun e he=>absurd he (by simp)),fun _=>rfl⟩
 have I1:=I.laid (a:=s.heap.objs.size) (o:= .own (s.heap.objs.size+1)) (h':=s.heap.push PySem.W.emptyDict) (t':=s.toks) (fun b u q=>Heap.get?_push_of_some _ q) (Nat.le_refl _) ⟨_,e1⟩
 refine I1.laid (a:=s.heap.objs.size+1) (o:= .ins C s.heap.objs.size []) (t':=s.toks) (fun b u q=>Heap.get?_push_of_some _ q) (Nat.le_of_eq (Heap.size_push _ _)) ?_
 have ne:s.heap.objs.size≠s.heap.objs.size+1:=Nat.ne_of_lt (Nat.lt_succ_self _)
 refine⟨by rw[aj ne,ar],Nat.zero_le _,ne,e2,fun _=>none,(Heap.Ns1.of_empty e3).at fun o q=>Heap.get?_push_of_some _ q,fun _=>True.intro,fun y hy=>absurd rfl hy⟩
theorem sS {prog:Program} {w:World} {env:Env} {e:Expr} {f:Str} {pos:Pos} {s:Shared} {Q:Value->Shared->Prop} (hb:attributeBase e f env (eval e env)=eval e env)
  (h:wpAny (model prog w) A (eval e env) (fun o s₁=>wpAny (model prog w) A (getAttr o f true) Q E s₁) E s):wpAny (model prog w) A (eval (.Attribute e f pos) env) Q E s:=
 Attribute_any_ h (by rw[arm_eval_Attribute,hb])
end
noncomputable def y0 (K:PySem.W.Frag) (ta:TE) (f:Str):TE:=fun σ H Q=>ta σ H fun x H1=>∃a C dx fs v,x= .ref a/\H1 a=some (.ins C dx fs)/\m6 K C/\cF K C f/\fs.lookup f=some v/\Q v H1
noncomputable def y3 (K:PySem.W.Frag) (ta tv:TE) (f:Str):TS:=fun D σ H=>tv σ H fun y H1=>ta σ H1 fun x H2=>∃a C dx fs,x= .ref a/\H2 a=some (.ins C dx fs)/\m6 K C/\cF K C f/\fs.length<1000/\
 D.nx σ (bn H2 a (.ins C dx (dE f y fs)))
section
variable {X:Cx} {o e value:Expr} {f:Str} {pos pos' tpos:Pos} {ta tv:TE}
theorem ll (he:PE X e ta) (hb:attributeBase e f X.env (eval e X.env)=eval e X.env):PE X (.Attribute e f pos) (y0 X.K ta f):=by
 intro pins s σ H Q I h
 refine sS hb (cg (he pins s σ H _ I h) fun u s1 z_=> ?_)
 obtain⟨x,H1,I1,rx,a,C,dx,fs,v,ex,ea,c,n,l,q⟩:=z_
 subst ex
 obtain rfl:u=Value.ref a:=rx
 exact nv I1 ea c n l fun u' s2 I2 ru=>⟨v,H1,I2,ru,q⟩
theorem v9 (ha:PE X o ta) (hv:PE X value tv) (hs:swapsWith value (some (.Attribute o f pos')) pos.line X.env=pure false):PS X (.Assign [.Attribute o f pos'] value pos) (y3 X.K ta tv f):=by
 intro pins s σ H D I h
 refine plainObj_wpAny_Assign_Attribute (cg (hv pins s σ H _ I h) fun u s1 ⟨y,H1,I1,ry,q⟩=>cg (ha pins s1 σ H1 _ I1 q) fun ov s2 z_=> ?_) hs
 obtain⟨x,H2,I2,rx,a,C,dx,fs,ex,ea,c,n,l,q2⟩:=z_
 subst ex
 obtain rfl:ov=Value.ref a:=rx
 exact jz I2 ea c n l ry fun s3 I3=>⟨σ,_,I3,q2⟩
theorem uq {pl:Sem Bool} {m:Str} {apos:Pos} {args:List Expr} {pins:List (Addr×Obj)} {s:Shared} {σ:St} {H:Hp} {Q:Value->Shared->Prop} {te:TE} (he:PE X e te) (I:au X pins σ H s)
  (h:te σ H fun x H1=>∃a C dx fs g,x= .ref a/\H1 a=some (.ins C dx fs)/\m6 X.K C/\nu X.K C m g/\fs.lookup m=none/\
   ∀s1,au X pins σ H1 s1->wpAny (model X.prog X.w) X.A (callWith pos (.ref g) [.ref a] (backTo pos (starEach args X.env)) (backToKw pos (keywordEach [] X.env))) Q X.xe s1)
  (ht:eval (.Call (.Attribute e m apos) args [] pos) X.env=(do
   let ov<-eval e X.env
   standAt apos.atName
   let (f,first)<-holding [ov] (getMethod ov m pl)
   callWith pos f first (backTo pos (starEach args X.env)) (backToKw pos (keywordEach [] X.env)))):
  wpAny (model X.prog X.w) X.A (eval (.Call (.Attribute e m apos) args [] pos) X.env) Q X.xe s:=by
 refine PySem.W.methodCall_KW (pl:=pl) (cg (he pins s σ H _ I h) fun u s1 z_=> ?_) ht
 obtain⟨x,H1,I1,rx,a,C,dx,fs,g,ex,ea,c,k,l,q⟩:=z_
 subst ex
 obtain rfl:u=Value.ref a:=rx
 exact gP I1 ea c k l (q s1 I1)
end
section
variable {X:Cx} {pins:List (Addr×Obj)} {σ:St} {H:Hp} {s:Shared} {A:Around} {E:Value->Shared->Prop} {Q:Value->Shared->Prop} {c:Value} {b:Bool}
inductive h_ (K:PySem.W.Frag) (H:Hp):V->Value->Prop where
 |non:h_ K H .non (.type "NoneType")
 |bl (x:Bool):h_ K H (.bl x) (.type "bool")
 |int (i:Int):h_ K H (.int i) (.type "int")
 |str (x:Str):h_ K H (.str x) (.type "str")
 |flt (x:UInt64):h_ K H (.flt x) (.type "float")
 |lst {a:Addr} {xs:List V} (e:H a=some (.lst xs)):h_ K H (.ref a) (.type "list")
 |frz {a:Addr} {o:Obj} {xs:List V} (e:H a=some (.frz o (.lst xs))):h_ K H (.ref a) (.type "list")
 |tup {a:Addr} {xs:List V} (e:H a=some (.tup xs)):h_ K H (.ref a) (.type "tuple")
 |dK {a:Addr} {kvs:List (cb×V)} (e:H a=some (.dK kvs)):h_ K H (.ref a) (.type "dict")
 |dT {a:Addr} {kvs:List (List cb×V)} (e:H a=some (.dT kvs)):h_ K H (.ref a) (.type "dict")
 |ins {a C dx:Addr} {fs:List (Str×V)} (e:H a=some (.ins C dx fs)) (cl:m6 K C) (ha:PySem.W.findIn K (.ref C) "__class__"=some (some (.builtin "object.__class__")))
   (hn:PySem.W.specialIn K (.builtin "object.__class__") "__get__"=some (some (.builtin "getset_descriptor.__get__"))) (htk:PySem.W.takesIn K (.builtin "object.__class__")=some true)
   (hm:PySem.W.mroIn K C (.type "object")=some true):h_ K H (.ref a) (.ref C)
theorem pE {x:V} {u t:Value} (I:au X pins σ H s) (rx:bg x u) (ty:h_ X.K H x t) (e:PySem.W.kitOne X.K t c=some b) (h:∀tk,Q (.bool b) {s with toks:=tk}):
  wpAny (model X.prog X.w) A (call (.builtin "isinstance") [u,c]) Q E s:=by
 cases ty with
 |non=>cases (show u=Value.none from rx);exact PySem.W.kia_one PySem.W.kitx_none I.kIn True.intro e (fun z=>nomatch z) h
 |bl y=>cases (show u=Value.bool y from rx);exact PySem.W.kia_one PySem.W.kitx_bool I.kIn True.intro e (fun z=>nomatch z) h
 |int i=>obtain⟨t,q⟩:=(show ∃t,u=Value.int i t from rx);cases q;exact PySem.W.kia_one PySem.W.kitx_int I.kIn True.intro e (fun z=>nomatch z) h
 |str y=>obtain⟨t,q⟩:=(show ∃t,u=Value.str y t from rx);cases q;exact PySem.W.kia_one PySem.W.kitx_str I.kIn True.intro e (fun z=>nomatch z) h
 |flt y=>obtain⟨t,q⟩:=(show ∃t,u=Value.float y t from rx);cases q;exact PySem.W.kia_one PySem.W.kitx_float I.kIn True.intro e (fun z=>nomatch z) h
 | @lst a xs ea=>
  cases (show u=Value.ref a from rx)
  obtain⟨_,_,n,_,h1⟩:=(show bO X.prog X.w H s.heap a (.lst xs)from I.hok a _ ea)
  exact PySem.W.kia_one PySem.W.kitx_list I.kIn ⟨_,h1,rfl⟩ e (fun z=>nomatch z) h
 | @frz a ob xs ea=>
  cases (show u=Value.ref a from rx)
  obtain⟨_,_,_,n,_,h1⟩:=(show bO X.prog X.w H s.heap a (.frz ob (.lst xs))from I.hok a _ ea)
  exact PySem.W.kia_one PySem.W.kitx_list I.kIn ⟨_,h1,rfl⟩ e (fun z=>nomatch z) h
 | @tup a xs ea=>
  cases (show u=Value.ref a from rx)
  obtain⟨_,_,_,p⟩:=(show bO X.prog X.w H s.heap a (.tup xs)from I.hok a _ ea)
  obtain⟨o,h1,h2,_⟩:=p
  exact PySem.W.kia_one PySem.W.kitx_tuple I.kIn ⟨o,h1,h2⟩ e (fun z=>nomatch z) h
 | @dK a kvs ea=>
  cases (show u=Value.ref a from rx)
  obtain⟨_,_,vs,_,p⟩:=(show bO X.prog X.w H s.heap a (.dK kvs)from I.hok a _ ea)
  obtain⟨o,es,ep,h1,h2,_⟩:=p
  exact PySem.W.kia_one PySem.W.kitx_dict I.kIn ⟨o,h1,h2.1⟩ e (fun z=>nomatch z) h
 | @dT a kvs ea=>
  cases (show u=Value.ref a from rx)
  obtain⟨_,_,xs,_,o,es,ep,h1,h2,_⟩:=(show bO X.prog X.w H s.heap a (.dT kvs)from I.hok a _ ea)
  exact PySem.W.kia_one PySem.W.kitx_dict I.kIn ⟨o,h1,h2.1⟩ e (fun z=>nomatch z) h
 | @ins a C dx fs ea cl ha hn htk hm=>
  cases (show u=Value.ref a from rx)
  obtain⟨mA,O,_⟩:=ji I.hok ea
  obtain⟨od,J,_⟩:=O.look
  exact PySem.W.kia_one (PySem.W.kitx_own (cl.get _) cl.hd ha hn htk hm) I.kIn J e (fun z=>nomatch z) h
end
end L2
namespace L2
open PySem PySem.Spec PyProof.Rows
structure bL (k:Nat) (A:Around):Prop where
 hd:A.handled=none
 dp:A.depth+3*k+5<recursionLimit
 un:A.units+16*k+200<cLine
theorem bL.mono {j k:Nat} {A:Around} (r:bL k A) (h:j<=k):bL j A:=⟨r.hd,by have:=r.dp;omega,by have:=r.un;omega⟩
theorem bL.deeper {k:Nat} {A:Around} (r:bL (k+1) A) (env:Env):bL k (A.deeper env):=
 ⟨r.hd,by have:=r.dp;show A.depth+1+3*k+5<_;omega,by have:=r.un;show A.units+3+16*k+200<_;omega⟩
theorem nz {A:Around} {C:Addr} {us:List Value} {kw:List (Str×Value)}:(A.under (.builtin "type.__call__" ⟨.ref C::us,kw⟩)).depth=A.depth+1:=by
 first|rfl|simp[Around.under,Code.weight,Code.isCreation,Code.isGuard,Code.isCaller,Code.frames,Code.isFrame,guardIds]
theorem nA {A:Around} {C:Addr} {us:List Value} {kw:List (Str×Value)}:(A.under (.builtin "type.__call__" ⟨.ref C::us,kw⟩)).units=A.units+1:=by
 first|rfl|simp[Around.under,Code.cUnits,Code.frames,Code.isFrame]
theorem bL.make {k:Nat} {A:Around} (r:bL (k+1) A) (C:Addr) (us:List Value) (kw:List (Str×Value)):bL k (A.under (.builtin "type.__call__" ⟨.ref C::us,kw⟩)):=
 ⟨r.hd,by have:=r.dp;rw[nz];omega,by have:=r.un;rw[nA];omega⟩
theorem bL.depth {k:Nat} {A:Around} (r:bL k A):A.depth<recursionLimit:=by have:=r.dp;omega
theorem bL.units {k:Nat} {A:Around} (r:bL k A):A.units+64<cLine:=by have:=r.un;omega
noncomputable def wG:TA:=fun _ H Q=>Q [] H
noncomputable def ur (ta:TE) (tr:TA):TA:=fun σ H Q=>ta σ H fun x H1=>tr σ H1 fun xs H2=>Q (x::xs) H2
section
variable {X:Cx} {e:Expr} {es:List Expr} {te:TE} {t:TA} {pos:Pos}
theorem dF:PA X [] wG:=fun _ _ _ _ H Q I h=>Calls.spliced_nil ⟨[],H,I, .nil,h⟩
theorem bP (ha:PE X e te) (hr:PA X es t) (hs:starEach (e::es) X.env=(false,eval e X.env)::starEach es X.env:=by rfl):PA X (e::es) (ur te t):=by
 intro pos pins s σ H Q I h
 rw[hs]
 show wpAny _ _ (spliced ((false,eval e X.env)::backTo pos (starEach es X.env))) _ _ s
 refine Calls.spliced_cons (cg (ha pins s σ H _ I h) fun u s1 z_=> ?_)
 obtain⟨x,H1,I1,r1,q1⟩:=z_
 exact cg (hr pos pins s1 σ H1 _ I1 q1) fun us s2 ⟨xs,H2,I2,r2,q2⟩=>⟨x::xs,H2,I2, .cons r1 r2,q2⟩
noncomputable def y6 (t:TA):TE:=fun σ H Q=>t σ H fun xs H1=>xs.length<=sizeLine/\∀p,H1 p=none->Q (.ref p) (bn H1 p (.tup xs))
noncomputable def ya (t:TA):TE:=fun σ H Q=>t σ H fun xs H1=>xs.length<=sizeLine/\∀p,H1 p=none->Q (.ref p) (bn H1 p (.lst xs))
theorem va {x1} (h:PA X es t):PE X (.Tuple es x1 pos) (y6 t):=by
 intro pins s σ H Q I hq
 refine wpAny_Tuple_spliced (cg (h pos pins s σ H _ I hq) fun us s1 ⟨xs,H1,I1,r,z,q⟩=>⟨by rw[<-r.length];exact z,?_⟩)
 have hf:H1 s1.heap.objs.size=none:=I1.hok.fresh (Nat.le_refl _)
 refine⟨.ref s1.heap.objs.size,bn H1 s1.heap.objs.size (.tup xs),I1.laid (t':=s1.toks) (fun b u e=>Heap.get?_push_of_some _ e) (Nat.le_refl _) ?_,rfl,q _ hf⟩
 exact⟨z,us,r,⟨_,Heap.get?_push_size _ rfl,rfl,_,rfl,rfl⟩⟩
theorem lm (h:PA X es t):PE X (.List es pos) (ya t):=by
 intro pins s σ H Q I hq
 refine wpAny_List_spliced (cg (h pos pins s σ H _ I hq) fun us s1 ⟨xs,H1,I1,r,z,q⟩=>⟨by rw[<-r.length];exact z,?_⟩)
 have hf:H1 s1.heap.objs.size=none:=I1.hok.fresh (Nat.le_refl _)
 refine⟨.ref s1.heap.objs.size,bn H1 s1.heap.objs.size (.lst xs),I1.laid (t':=s1.toks) (fun b u e=>Heap.get?_push_of_some _ e) (Nat.le_refl _) ?_,rfl,q _ hf⟩
 exact⟨z,us,0,r,Heap.get?_push_size _ rfl⟩
end
noncomputable abbrev Sp:=List V->Hp->VK->XK->Prop
noncomputable abbrev oq:=List Env->Hp->Shared->XK->Value->Shared->Prop
structure nB (P:Program) (w:World) (K:PySem.W.Frag) (mg:Str->Option Value) (base:Heap) (A:Around) (outer:List Env) (s:Shared) (H:Hp):Prop where
 frames:A.frames=some outer
 mod:Mod K mg base
 bs:∀b o,base.get? b=some o->s.heap.get? b=some o/\H b=none
 bsz:base.objs.size<=s.heap.objs.size
 funs:s.heap.FunFrames base outer
 frf:∀b∈jg outer,H b=none
 hok:gM P w H s.heap
 bare:AllBare s.gens
noncomputable def CE (outer:List Env) (P:Program) (w:World) (H:Hp) (s:Shared) (Q:VK) (u:Value) (s':Shared):Prop:=
 ∃v H',s'.os=s.os/\AllBare s'.gens/\Un (jg outer) [] H H' s.heap s'.heap/\gM P w H' s'.heap/\bg v u/\Q v H'
noncomputable def CR (CX:oq) (outer:List Env) (P:Program) (w:World) (H:Hp) (s:Shared) (Q:VK) (E:XK) (r:Result) (s':Shared):Prop:=
 match r with
 | .ok (.ret u)=>CE outer P w H s Q u s'
 | .ok _=>False
 | .error e=>CX outer H s E e s'
structure dc (P:Program) (w:World) (K:PySem.W.Frag) (mg:Str->Option Value) (base:Heap) (CX:oq) (k:Nat) (f:Addr) (fd:FuncData) (ps:List Str) (sp:Sp):Prop where
 len:∀vs H Q E,sp vs H Q E->vs.length=ps.length
 run:∀(A:Around) (outer:List Env) (s:Shared) (H:Hp) (args:Args) (us:List Value) (vs:List V) (Q:VK) (E:XK),bL k A->nB P w K mg base A outer s H->BindsTo s fd args (ps.zip us)->aM vs us->sp vs H Q E->
  codeAny (model P w) A (.call (.ref f) args) (CR CX outer P w H s Q E) s
theorem dc.mono {P:Program} {w:World} {K:PySem.W.Frag} {mg:Str->Option Value} {base:Heap} {CX:oq} {j k:Nat} {f:Addr} {fd:FuncData} {ps:List Str} {sp:Sp} (F:dc P w K mg base CX j f fd ps sp) (h:j<=k):
  dc P w K mg base CX k f fd ps sp:=⟨F.len,fun A outer s H args us vs Q E hr=>F.run A outer s H args us vs Q E (hr.mono h)⟩
theorem nB.make {P:Program} {w:World} {K:PySem.W.Frag} {mg:Str->Option Value} {base:Heap} {A:Around} {outer:List Env} {s:Shared} {H:Hp} (e:nB P w K mg base A outer s H) (C:Addr) (us:List Value) (kw:List (Str×Value)):
  nB P w K mg base (A.under (.builtin "type.__call__" ⟨.ref C::us,kw⟩)) outer s H:=⟨by first|exact e.frames|(simpa[Around.under,Code.envs,Code.isFrame,pushEnvs]using e.frames),e.mod,e.bs,e.bsz,e.funs,e.frf,e.hok,e.bare⟩
section
variable {X:Cx} {pins:List (Addr×Obj)} {σ:St} {H:Hp} {s s':Shared}
theorem au.env0 (I:au X pins σ H s):nB X.prog X.w X.K X.mg X.base X.A X.stack s H:=
 ⟨I.ok.frames,I.ok.mod,I.bs,Nat.le_trans I.ok.bsz I.sz,I.stack,I.stkFree,I.hok,I.bare⟩
theorem au.after {Q:VK} {u:Value} (I:au X pins σ H s) (h:CE X.stack X.prog X.w H s Q u s'):EP X pins σ Q u s':=by
 obtain⟨v,H',os,bare,un,hok,r,q⟩:=h
 obtain⟨hh,g,d,t,os'⟩:=s'
 obtain rfl:os'=s.os:=os
 exact⟨v,H',I.call (h':=hh) (g':=g) (d':=d) (t':=t) (ch:=[]) un hok bare (fun b z=>absurd z (by simp)),r,q⟩
end
noncomputable def ut (sp:Sp) (dvs:List V) (E:St->XK) (t:TA):TE:=fun σ H Q=>t σ H fun vs H1=>sp (vs++dvs) H1 Q (E σ)
noncomputable def qG (C:Addr) (m:Str) (sp:Sp) (dvs:List V) (E:St->XK) (ta:TE) (t:TA):TE:=fun σ H Q=>ta σ H fun x H1=>∃a dx fs,x= .ref a/\H1 a=some (.ins C dx fs)/\fs.lookup m=none/\
 t σ H1 fun vs H2=>sp (x::(vs++dvs)) H2 Q (E σ)
noncomputable def wH (C:Addr) (sp:Sp) (dvs:List V) (E:St->XK) (t:TA):TE:=fun σ H Q=>t σ H fun vs H1=>∀x dx,H1 x=none->H1 dx=none->dx≠x->
 sp (.ref x::(vs++dvs)) (bn (bn H1 dx (.own x)) x (.ins C dx [])) (fun v H2=>v= .non/\Q (.ref x) H2) (E σ)
noncomputable def cU (K:PySem.W.Frag) (fd:FuncData) (ps:List Str) (ds:List Value):Prop:=
 ∀(s:Shared) (us:List Value),K.In s.heap->(us++ds).length=ps.length->BindsTo s fd ⟨us,[]⟩ (ps.zip (us++ds))
theorem cU.all {K:PySem.W.Frag} {fd:FuncData} {ps:List Str} (h:∀us:List Value,us.length=ps.length->bindArgs fd ⟨us,[]⟩=pure (ps.zip us)):cU K fd ps []:=fun s us _ hl=>by
 rw[List.append_nil]at hl ⊢
 exact .of_eq (h us hl)
noncomputable def gQ (CX:oq) (X:Cx) (E:St->XK):Prop:=∀(pins:List (Addr×Obj)) (σ:St) (H:Hp) (s:Shared) (e:Value) (s':Shared),au X pins σ H s->CX X.stack H s (E σ) e s'->X.xe e s'
section
variable {X:Cx} {CX:oq} {k:Nat} {f C:Addr} {fd:FuncData} {ps:List Str} {sp:Sp} {dvs:List V} {ds:List Value} {E:St->XK} {x m:Str} {p pos apos:Pos} {e o:Expr} {es:List Expr} {ta:TE} {t:TA}
theorem nD {pins:List (Addr×Obj)} {σ:St} {H:Hp} {s:Shared} {Q:VK} {us:List Value} {vs:List V} (F:dc X.prog X.w X.K X.mg X.base CX k f fd ps sp) (hr:bL k X.A) (hb:cU X.K fd ps ds) (hd:aM dvs ds) (hx:gQ CX X E)
  (I:au X pins σ H s) (r:aM vs us) (h:sp (vs++dvs) H Q (E σ)):wpAny (model X.prog X.w) X.A (call (.ref f) us) (EP X pins σ Q) X.xe s:=by
 have r2:aM (vs++dvs) (us++ds):=r.append hd
 have hl:(us++ds).length=ps.length:=by rw[<-r2.length];exact F.len _ _ _ _ h
 refine wpAny_call (codeAny_mono (F.run X.A X.stack s H ⟨us,[]⟩ (us++ds) (vs++dvs) Q (E σ) hr I.env0 (hb s us I.kIn hl) r2 h) fun r s' hq=> ?_)
 cases r with
 |error e=>exact hx pins σ H s e s' I hq
 |ok fl=>
  cases fl with
  |ret u=>exact I.after hq
  |next=>exact False.elim hq
  |brk=>exact False.elim hq
  |cont=>exact False.elim hq
theorem ou (F:dc X.prog X.w X.K X.mg X.base CX k f fd ps sp) (hr:bL k X.A) (hg:Gl X x) (hm:X.mg x=some (.ref f)) (hk:PySem.W.keepIn X.K (.ref f)=true) (hb:cU X.K fd ps ds) (hd:aM dvs ds) (hx:gQ CX X E)
  (ha:PA X (e::es) t) (hdb:(x==("__debug__":Str))=false:=by decide) (he:starEach (e::es) X.env=(false,eval e X.env)::starEach es X.env:=by rfl) (hpl:(backTo pos (starEach es X.env)).any (·.1)=false:=by rfl):
  PE X (.Call (.Name x p) (e::es) [] pos) (ut sp dvs E t):=by
 intro pins s σ H Q I h
 refine wpAny_Call_Name_kw (hW I hg hm ?_ hdb)
 refine PySem.W.callWith_K (h₀:=X.base) I.ok.mod.kin hk (cg (ha pos pins s σ H _ I h) fun us s1 ⟨vs,H1,I1,r,q⟩=>⟨I1.kIn,?_⟩) he hpl
 exact nD F hr hb hd hx I1 r q
theorem oy {pl:Sem Bool} (he:PE X o ta) (c:m6 X.K C) (hm:nu X.K C m f) (F:dc X.prog X.w X.K X.mg X.base CX k f fd ps sp) (hr:bL k X.A) (hb:cU X.K fd ps ds) (hd:aM dvs ds) (hx:gQ CX X E) (ha:PA X (e::es) t)
  (hst:starEach (e::es) X.env=(false,eval e X.env)::starEach es X.env:=by rfl) (hpl:(backTo pos (starEach es X.env)).any (·.1)=false:=by rfl)
  (ht:eval (.Call (.Attribute o m apos) (e::es) [] pos) X.env=(do
   let ov<-eval o X.env
   standAt apos.atName
   let (f,first)<-holding [ov] (getMethod ov m pl)
   callWith pos f first (backTo pos (starEach (e::es) X.env)) (backToKw pos (keywordEach [] X.env))):=by rfl):
  PE X (.Call (.Attribute o m apos) (e::es) [] pos) (qG C m sp dvs E ta t):=by
 intro pins s σ H Q I h
 refine PySem.W.methodCall_KW (pl:=pl) (cg (he pins s σ H _ I h) fun u s1 z_=> ?_) ht
 obtain⟨x,H1,I1,rx,a,dx,fs,ex,ea,l,q⟩:=z_
 subst ex
 obtain rfl:u=Value.ref a:=rx
 refine gP I1 ea c hm l ?_
 refine PySem.W.callWith_K (first:=[.ref a]) (h₀:=X.base) I.ok.mod.kin hm.kp (cg (ha pos pins s1 σ H1 _ I1 q) fun us s2 ⟨vs,H2,I2,r,q2⟩=>⟨I2.kIn,?_⟩) hst hpl
 exact nD (us:= .ref a::us) (vs:= .ref a::vs) F hr hb hd hx I2 (.cons rfl r) q2
theorem qH {pl:Sem Bool} (he:PE X o ta) (c:m6 X.K C) (hm:nu X.K C m f) (F:dc X.prog X.w X.K X.mg X.base CX k f fd ps sp) (hr:bL k X.A) (hb:cU X.K fd ps ds) (hd:aM dvs ds) (hx:gQ CX X E)
  (ht:eval (.Call (.Attribute o m apos) [] [] pos) X.env=(do
   let ov<-eval o X.env
   standAt apos.atName
   let (f,first)<-holding [ov] (getMethod ov m pl)
   callWith pos f first (backTo pos (starEach [] X.env)) (backToKw pos (keywordEach [] X.env))):=by rfl):
  PE X (.Call (.Attribute o m apos) [] [] pos) (qG C m sp dvs E ta wG):=by
 intro pins s σ H Q I h
 refine PySem.W.methodCall_KW (pl:=pl) (cg (he pins s σ H _ I h) fun u s1 z_=> ?_) ht
 obtain⟨x,H1,I1,rx,a,dx,fs,ex,ea,l,q⟩:=z_
 subst ex
 obtain rfl:u=Value.ref a:=rx
 refine gP I1 ea c hm l ?_
 exact PySem.W.callWith_K0 (first:=[.ref a]) I1.kIn hm.kp (nD (us:=[.ref a]) (vs:=[.ref a]) F hr hb hd hx I1 (.cons rfl .nil) q)
structure Mk (K:PySem.W.Frag) (C f:Addr):Prop where
 makes:PySem.W.makesIn K C=true
 init:PySem.W.findIn K (.ref C) "__init__"=some (some (.ref f))
 fn:PySem.W.isFn K (.ref f)=true
 kp:PySem.W.keepIn K (.ref C)=true
theorem qI {pins:List (Addr×Obj)} {σ:St} {H:Hp} {s:Shared} {Q:VK} {us:List Value} {vs:List V} (M:Mk X.K C f) (F:dc X.prog X.w X.K X.mg X.base CX k f fd ps sp) (hr:bL (k+1) X.A) (hb:cU X.K fd ps ds) (hd:aM dvs ds)
  (hx:gQ CX X E) (I:au X pins σ H s) (r:aM vs us)
  (h:∀x dx,H x=none->H dx=none->dx≠x->sp (.ref x::(vs++dvs)) (bn (bn H dx (.own x)) x (.ins C dx [])) (fun v H2=>v= .non/\Q (.ref x) H2) (E σ)):
  wpAny (model X.prog X.w) X.A (call (.ref C) us) (EP X pins σ Q) X.xe s:=by
 have hq:=h (s.heap.objs.size+1) s.heap.objs.size (I.hok.fresh (Nat.le_succ _)) (I.hok.fresh (Nat.le_refl _)) (Nat.ne_of_lt (Nat.lt_succ_self _))
 have I2:=au.made (C:=C) I
 have r2:aM (V.ref (s.heap.objs.size+1)::(vs++dvs)) (Value.ref (s.heap.objs.size+1)::(us++ds)):= .cons rfl (r.append hd)
 have hl:(Value.ref (s.heap.objs.size+1)::us++ds).length=ps.length:=by
  have e:=r2.length
  rw[F.len _ _ _ _ hq]at e
  exact e.symm
 refine wpAny_call (qF (f:=f) I.kIn M.makes M.init (beq_iff_eq.mp M.fn) (codeAny_mono (F.run _ X.stack _ _ ⟨Value.ref (s.heap.objs.size+1)::us,[]⟩ (Value.ref (s.heap.objs.size+1)::(us++ds)) _ _ (E σ) (hr.make C us [])
  (I2.env0.make C us []) (hb _ (Value.ref (s.heap.objs.size+1)::us) I2.kIn hl) r2 hq) fun r s' hq'=> ?_))
 cases r with
 |error e=>exact hx pins σ _ _ e s' I2 hq'
 |ok fl=>
  cases fl with
  |ret u=>
   obtain⟨v,H',I3,rv,ev,q3⟩:=I2.after hq'
   subst ev
   exact⟨rv,⟨V.ref (s.heap.objs.size+1),H',I3,rfl,q3⟩⟩
  |next=>exact False.elim hq'
  |brk=>exact False.elim hq'
  |cont=>exact False.elim hq'
theorem oz (M:Mk X.K C f) (F:dc X.prog X.w X.K X.mg X.base CX k f fd ps sp) (hr:bL (k+1) X.A) (hg:Gl X x) (hm:X.mg x=some (.ref C)) (hb:cU X.K fd ps ds) (hd:aM dvs ds) (hx:gQ CX X E)
  (ha:PA X (e::es) t) (hdb:(x==("__debug__":Str))=false:=by decide) (he:starEach (e::es) X.env=(false,eval e X.env)::starEach es X.env:=by rfl) (hpl:(backTo pos (starEach es X.env)).any (·.1)=false:=by rfl):
  PE X (.Call (.Name x p) (e::es) [] pos) (wH C sp dvs E t):=by
 intro pins s σ H Q I h
 refine wpAny_Call_Name_kw (hW I hg hm ?_ hdb)
 refine PySem.W.callWith_K (h₀:=X.base) I.ok.mod.kin M.kp (cg (ha pos pins s σ H _ I h) fun us s1 ⟨vs,H1,I1,r,q⟩=>⟨I1.kIn,?_⟩) he hpl
 exact qI M F hr hb hd hx I1 r q
end
section
variable {X:Cx} {CX:oq} {k:Nat} {f C:Addr} {fd:FuncData} {ps ks:List Str} {sp:Sp} {E:St->XK} {x m:Str} {p pos apos kpos:Pos} {e o:Expr} {es:List Expr} {kws:List Keyword} {te ta:TE} {t tk:TA} {nm:Option Str}
variable {g:List Value->List Value->List Value} {gV:List V->List V->List V}
end
structure aK (N P:List Str) (sc:Scope):Prop where
 kind:sc.kind= .function
 co:sc.isCoroutine=false
 gen:sc.isGenerator=false
 nd:N.Nodup
 pre:N.take P.length=P
 par:∀x∈P,sc.names.lookup x=some .local\/sc.names.lookup x=some .cell
 nofree:∀y∈sc.names,y.2≠ .free
theorem kx {kindOf:Str->Option NameKind} {x:Str}:∀{binds:List (Str×Value)} {m:Str->Option Value},(∀v,(x,v)∉binds)->bindL kindOf binds m x=m x
 |[],_,_=>rfl
 |(n,v)::r,m,h=>by
  unfold bindL
  rw[kx fun w hw=>h w (List.mem_cons_of_mem _ hw)]
  split
  ·have:x≠n:=by rintro rfl;exact h v List.mem_cons_self
   simp[this]
  ·rfl
theorem ky {kindOf:Str->Option NameKind} {x:Str}:∀{binds:List (Str×Value)} {m:Str->Option Value},(∀v,(x,v)∉binds)->bindC kindOf binds m x=m x
 |[],_,_=>rfl
 |(n,v)::r,m,h=>by
  unfold bindC
  rw[ky fun w hw=>h w (List.mem_cons_of_mem _ hw)]
  split
  ·rfl
  ·have:x≠n:=by rintro rfl;exact h v List.mem_cons_self
   simp[this]
theorem kA {kindOf:Str->Option NameKind} {x:Str} {v:Value}:∀{P:List Str} {vs:List Value} {i:Nat} {m:Str->Option Value},P.Nodup->P[i]? =some x->vs[i]? =some v->kindOf x=some .local->
  bindL kindOf (P.zip vs) m x=some v
 |[],_,_,_,_,h,_,_=>by simp at h
 |_::_,[],_,_,_,_,h,_=>by simp at h
 |p::P,w::vs,0,m,nd,h1,h2,hk=>by
  simp at h1 h2;subst h1;subst h2
  show bindL kindOf ((p,w)::P.zip vs) m p=_
  unfold bindL
  rw[kx fun v hv=>(List.nodup_cons.mp nd).1 (List.of_mem_zip hv).1,if_pos hk]
  simp
 |p::P,w::vs,i+1,m,nd,h1,h2,hk=>by
  show bindL kindOf ((p,w)::P.zip vs) m x=_
  unfold bindL
  exact kA (i:=i) (List.nodup_cons.mp nd).2 (by simpa using h1) (by simpa using h2) hk
theorem kB {kindOf:Str->Option NameKind} {x:Str} {v:Value}:∀{P:List Str} {vs:List Value} {i:Nat} {m:Str->Option Value},P.Nodup->P[i]? =some x->vs[i]? =some v->kindOf x≠some .local->
  bindC kindOf (P.zip vs) m x=some v
 |[],_,_,_,_,h,_,_=>by simp at h
 |_::_,[],_,_,_,_,h,_=>by simp at h
 |p::P,w::vs,0,m,nd,h1,h2,hk=>by
  simp at h1 h2;subst h1;subst h2
  show bindC kindOf ((p,w)::P.zip vs) m p=_
  unfold bindC
  rw[ky fun v hv=>(List.nodup_cons.mp nd).1 (List.of_mem_zip hv).1,if_neg hk]
  simp
 |p::P,w::vs,i+1,m,nd,h1,h2,hk=>by
  show bindC kindOf ((p,w)::P.zip vs) m x=_
  unfold bindC
  exact kB (i:=i) (List.nodup_cons.mp nd).2 (by simpa using h1) (by simpa using h2) hk
noncomputable def cE (N:List Str) (vs:List V):St:=vs.map some++List.replicate (N.length - vs.length) none
noncomputable def eD (CX:oq) (P:Program) (w:World) (K:PySem.W.Frag) (mg:Str->Option Value) (base:Heap) (N:List Str) (qual:Str) (scope:Scope) (f:Addr) (cd:Value) (A:Around) (outer:List Env) (s:Shared) (H:Hp) (E:XK):Cx where
 prog:=P
 w:=w
 K:=K
 mg:=mg
 base:=base
 A:=A.deeper (envOfC qual scope s.heap.objs.size f cd)
 N:=N
 s₀:=s
 H₀:=H
 env:=envOfC qual scope s.heap.objs.size f cd
 outer:=outer
 stack:=envOfC qual scope s.heap.objs.size f cd::outer
 ex:=[]
 calm:=true
 fn:=fun _=>true
 pn:=[]
 xe:=fun e s'=>wpAny (model P w) (A.deeper (envOfC qual scope s.heap.objs.size f cd)) (leaving (envOfC qual scope s.heap.objs.size f cd) e) (fun _ s''=>CX outer H s E e s'') (fun e' s''=>CX outer H s E e' s'') s'
theorem m7 {sc:Scope} {n:Nat} {x:Str} (h:sc.names.lookup x=some .cell):∃c,(cellsFrom n sc.names []).lookup x=some c:=by
 have q:=PySem.W.cellsFrom_some sc.names n [] (.inl h)
 exact Option.isSome_iff_exists.mp q
theorem pF {CX:oq} {P:Program} {w:World} {K:PySem.W.Frag} {mg:Str->Option Value} {base:Heap} {N ps:List Str} {qual:Str} {scope:Scope} {f:Addr} {cd:Value} {A:Around} {outer:List Env} {s s1:Shared} {H:Hp} {E:XK} {us:List Value} {vs:List V}
  (S:aK N ps scope) (hd:A.handled=none) (e0:nB P w K mg base A outer s H) (hl:vs.length=ps.length) (r:aM vs us)
  (x:InCallC s s.heap.objs.size (bindL (envOfC qual scope s.heap.objs.size f cd).kindOf (ps.zip us) fun _=>none) (cellsFrom (s.heap.objs.size+1) scope.names []) (bindC (envOfC qual scope s.heap.objs.size f cd).kindOf (ps.zip us) fun _=>none) s1):
  au (eD CX P w K mg base N qual scope f cd A outer s H E) [] (cE N vs) H s1:=by
 have hpl:ps.length<=N.length:=by have:=congrArg List.length S.pre;rw[List.length_take]at this;omega
 obtain⟨h1,tk,rfl,hk⟩:=x.done
 have noA:∀b:Addr,b∉(eD CX P w K mg base N qual scope f cd A outer s H E).ex:=fun b z=>absurd (show b∈([]:List Addr)from z) (by simp)
 refine⟨⟨e0.mod,S.kind,rfl,rfl,Nat.le_refl _,fun y z c h1 h2=> ?_,fun y hy=> ?_,fun y c _ h=> ?_,fun _=>hd,Around.frames_deeper e0.frames, .inr ⟨rfl,rfl⟩,fun b z=>absurd z (noA b),e0.bs,e0.bsz,fun b _ _=>noA b,fun b z=>absurd z (noA b),e0.funs,e0.frf⟩,
  rfl,e0.bare,Un.kept hk,⟨_,x.toInCall.ns,fun i y v h1 h2 h3=> ?_⟩,fun y c h=>⟨_,x.cell y c h⟩,e0.hok.fresh (Nat.le_refl _),fun y c h=> ?_,fun p hp=>absurd (show p∈([]:List (Addr×Obj))from hp) (by simp),e0.hok.kept hk,?_⟩
 ·exact name_of_addr x.apart (PySem.mem_of_lookup h1) (PySem.mem_of_lookup h2)
 ·have hy:scope.names.lookup y=some .cell\/scope.names.lookup y=some .free:=hy
  rcases hy with hy|hy
  ·exact m7 hy
  ·exact absurd rfl (S.nofree _ (PySem.mem_of_lookup hy))
 ·exact Nat.le_of_lt (x.above y c (PySem.mem_of_lookup h))
 ·have hi:i<vs.length:=by
   unfold cE at h2
   by_cases hi:i<vs.length
   ·exact hi
   ·rw[List.getElem?_append_right (by simpa using hi)]at h2
    rw[List.getElem?_replicate]at h2
    split at h2<;>cases h2
  have ha:vs[i]? =some v:=by
   unfold cE at h2
   rw[List.getElem?_append_left (by simpa using hi),List.getElem?_map]at h2
   cases e:vs[i]? with
   |none=>rw[e]at h2;cases h2
   |some a=>rw[e]at h2;cases h2;rfl
  obtain⟨u,hu,rv⟩:=r.get ha
  have hp:ps[i]? =some y:=by
   rw[<-S.pre,List.getElem?_take_of_lt (by omega)];exact h1
  have ndP:ps.Nodup:=by rw[<-S.pre];exact S.nd.sublist (List.take_sublist _ _)
  refine⟨u,rv,?_⟩
  rcases S.par y (List.mem_of_getElem? hp)with k|k
  ·exact .inl ⟨k,kA ndP hp hu k⟩
  ·obtain⟨c,e⟩:=m7 (n:=s.heap.objs.size+1) k
   refine .inr ⟨.inl k,c,e,?_⟩
   have q:=x.cell y c e
   rw[kB ndP hp hu (by show scope.names.lookup y≠_;rw[k];decide)]at q
   exact q
 ·exact e0.hok.fresh (Nat.le_of_lt (x.above y c (PySem.mem_of_lookup h)))
 ·unfold cE
  show _=N.length
  rw[List.length_append,List.length_map,List.length_replicate]
  omega
theorem uu {CX:oq} {P:Program} {w:World} {K:PySem.W.Frag} {mg:Str->Option Value} {base:Heap} {k:Nat} {f:Addr} {name qual:Str} {params:Arguments} {body:List Stmt} {scope:Scope} {dV kV doc pm cdv ct oc:Value} {an od:Option Addr}
  {osl:Array (Option Value)} {N ps:List Str} {sp:Sp} (lk:K.lookup f=some ⟨oc,od, .func (PySem.W.fnOf name qual params body scope dV kV doc pm an cdv ct),osl⟩) (hcd:PySem.W.codeIn K cdv qual=true) (S:aK N ps scope)
  (len:∀vs H Q E,sp vs H Q E->vs.length=ps.length)
  (hbody:∀(A:Around) (outer:List Env) (s:Shared) (H:Hp) (vs:List V) (Q:VK) (E:XK),bL k (A.deeper (envOfC qual scope s.heap.objs.size f cdv))->sp vs H Q E->
   ∃t,kt (eD CX P w K mg base N qual scope f cdv A outer s H E) body t/\t {nx:=fun _ H'=>Q .non H',rt:=Q} (cE N vs) H):
  dc P w K mg base CX (k+1) f (PySem.W.fnOf name qual params body scope dV kV doc pm an cdv ct) ps sp:=by
 refine⟨len,fun A outer s H args us vs Q E hr e0 hb r hsp=> ?_⟩
 have hl:=len _ _ _ _ hsp
 have KX:K.In s.heap:=e0.mod.kin.keeps fun b o e=>(e0.bs b o e).1
 have lim:s.heap.NoLimit:=e0.mod.nolimit.keeps fun b o e=>(e0.bs b o e).1
 have hkind:∀y∈ps.zip us,scope.names.lookup y.1=some .local\/(scope.names.lookup y.1=some .cell/\((cellsFrom (s.heap.objs.size+1) scope.names []).lookup y.1).isSome=true):=fun ⟨n,v⟩ hy=>by
  rcases S.par n (List.of_mem_zip hy).1 with q|q
  ·exact .inl q
  ·exact .inr ⟨q,PySem.W.cellsFrom_some _ _ _ (.inl q)⟩
 refine codeAny_call_function hr.depth (KX _ _ lk) rfl S.co S.gen rfl (PySem.W.codeRec_of KX hcd) (hb _ _ _ _ ?_)
 refine wpAny_newFunctionEnv_cells S.kind hkind fun env he s1 x=> ?_
 subst he
 refine⟨lim.keeps x.toInCall.keep,codeAny_func ?_⟩
 obtain⟨t,ht,hq⟩:=hbody A outer s H vs Q E (hr.deeper _) hsp
 have I:au (eD CX P w K mg base N qual scope f cdv A outer s H E) [] (cE N vs) H s1:=pF S hr.hd e0 hl r x
 refine wpAny_mono (ht [] s1 (cE N vs) H _ I hq) (fun fl s' hs=> ?_) fun e s' hs=>hs
 have fin:∀{σ':St} {H':Hp} {v:V} {u:Value},au (eD CX P w K mg base N qual scope f cdv A outer s H E) [] σ' H' s'->bg v u->Q v H'->CE outer P w H s Q u s':=
  fun {σ' H' v u} J rv q=>⟨v,H',J.os,J.bare,J.base,J.hok,rv,q⟩
 cases fl with
 |ret u=>
  obtain⟨v,σ',H',J,rv,q⟩:=hs
  exact fin J rv q
 |next=>
  obtain⟨σ',H',J,q⟩:=hs
  exact fin (v:=V.non) (u:=Value.none) J rfl q
 |brk=>
  obtain⟨_,_,_,q⟩:=hs
  exact False.elim q
 |cont=>
  obtain⟨_,_,_,q⟩:=hs
  exact False.elim q
end L2
namespace L2
open PySem PySem.Spec PyProof.Rows
section
variable {X:Cx} {x:Str} {p pos:Pos} {e:Expr} {es:List Expr} {t:TA} {id T:String} {r:List V->Hp->VK->Prop}
noncomputable def yb (r:List V->Hp->VK->Prop) (t:TA):TE:=fun σ H Q=>t σ H fun vs H1=>r vs H1 Q
theorem i0 (hc:eO X (.builtin id) r) (hg:Gl X x) (hm:X.mg x=none) (hv:bootBuiltins x=some (.builtin id)) (ha:PA X (e::es) t) (hn:x≠"__name__":=by decide) (hdb:(x==("__debug__":Str))=false:=by decide)
  (he:starEach (e::es) X.env=(false,eval e X.env)::starEach es X.env:=by rfl) (hpl:(backTo pos (starEach es X.env)).any (·.1)=false:=by rfl):PE X (.Call (.Name x p) (e::es) [] pos) (yb r t):=by
 intro pins s σ H Q I h
 refine wpAny_Call_Name_kw (gO I hg hm hv ?_ hn hdb)
 exact PyProof.Rows.callWith_builtin1 (cg (ha pos pins s σ H _ I h) fun us s1 ⟨vs,H1,I1,r1,q1⟩=>hc pins s1 σ H1 vs us Q I1 r1 q1) he hpl
theorem pG (hc:eO X (.type T) r) (hg:Gl X x) (hm:X.mg x=none) (hv:bootBuiltins x=some (.type T)) (ha:PA X (e::es) t) (hn:x≠"__name__":=by decide) (hdb:(x==("__debug__":Str))=false:=by decide)
  (he:starEach (e::es) X.env=(false,eval e X.env)::starEach es X.env:=by rfl) (hpl:(backTo pos (starEach es X.env)).any (·.1)=false:=by rfl):PE X (.Call (.Name x p) (e::es) [] pos) (yb r t):=by
 intro pins s σ H Q I h
 refine wpAny_Call_Name_kw (gO I hg hm hv ?_ hn hdb)
 exact PyProof.Rows.callWith_type1 (cg (ha pos pins s σ H _ I h) fun us s1 ⟨vs,H1,I1,r1,q1⟩=>hc pins s1 σ H1 vs us Q I1 r1 q1) he hpl
end
end L2
namespace HT
open PySem PyProof.Rows
section
open PySem.SeqAt
open PySem.AutoSeq1 (wpAny_loadPart')
open PySem.MeetsSeq PySem.MeetsSeq2 PySem.MeetsSeq3
end
section
variable {prog:Program} {w:World} {A:Around} {E:Value->Shared->Prop} {s:Shared}
theorem sT {t b:Addr} {vs ws:List Value} {Q:Value->Shared->Prop} (ht:IsTup s.heap t vs.toArray) (hb:IsTup s.heap b ws.toArray) (hv:vs≠[])
  (h1:ws=[]->Q (.ref t) s) (h2:ws≠[]->Q (.ref s.heap.objs.size) {s with heap:=s.heap.push {cls:= .type "tuple",data:= .seq (vs++ws).toArray}})
  (hsz:vs.length+ws.length<=sizeLine):wpAny (model prog w) A (binaryOp .Add (.ref t) (.ref b)) Q E s:=by
 obtain⟨⟨cls,dd,data,sl⟩,ho,hc,n,hd⟩:=id ht
 obtain⟨⟨cls2,dd2,data2,sl2⟩,ho2,hc2,n2,hd2⟩:=id hb
 simp only at hc hd hc2 hd2
 subst hc hd hc2 hd2
 have e:vs.toArray++ws.toArray=(vs++ws).toArray:=by simp
 by_cases hw:ws=[]
 ·exact concat_meets ⟨_,ho,rfl⟩ ⟨_,ho2,rfl⟩ noFill_tuple_add seq_tuple_add PySem.F.slot_tuple_add PySem.F.entry_tuple_add (PySem.F.args_tuple_add_2 _ _)
   (tuple_addW1 t b vs.toArray ws.toArray n n2 dd dd2 sl sl2 (by simpa using hv) (by simp[hw])) ⟨ho,ho2,h1 hw⟩
 ·refine concat_meets ⟨_,ho,rfl⟩ ⟨_,ho2,rfl⟩ noFill_tuple_add seq_tuple_add PySem.F.slot_tuple_add PySem.F.entry_tuple_add (PySem.F.args_tuple_add_2 _ _)
   (tuple_addW2 t b vs.toArray ws.toArray n n2 dd dd2 sl sl2 (by simpa using hv) (by simpa using hw) (by rw[List.size_toArray,List.size_toArray];exact hsz)) ⟨ho,ho2,?_⟩
  rw[e]
  exact h2 hw
noncomputable def nE (n d:Nat):Option Int->Nat
 |none=>d
 |some v=>if v<0 then (v+(n:Int)).toNat else min v.toNat n
end
end HT
namespace L2
open PySem PySem.Spec PyProof.Rows
theorem nF {ns:List Int}:∀{us:List Value},aM (ns.map V.int) us->IntsAre us ns:=by
 induction ns with
 |nil=>intro us r;rw[List.map_nil]at r;cases r;exact .nil
 |cons n ns ih=>
  intro us r
  rw[List.map_cons]at r
  cases r with
  |cons r1 r2=>
   obtain⟨t,e⟩:=r1
   subst e
   exact .cons n t (ih r2)
section
variable {X:Cx} {e:Expr} {te:TE} {lo hi:Option Expr} {tl th:TO} {pos p2:Pos}
noncomputable def yK (X:Cx) (r:V->Option Int->Option Int->Hp->VK->Prop):Prop:=
 ∀(pins:List (Addr×Obj)) (s:Shared) (σ:St) (H:Hp) (x:V) (v vl vu:Value) (lo hi:Option Int) (sl:Addr) (Q:VK),au X pins σ H s->bg x v->s.heap.IsSliceOf sl vl vu .none->IsPart vl lo->IsPart vu hi->r x lo hi H Q->
  ∃T id,typeLookup (.type T) "__getitem__"=pure (some (.builtin id))/\s.TypeIs v T/\wpAny (model X.prog X.w) X.A (getItem v (.ref sl)) (EP X pins σ Q) X.xe s
noncomputable def sU (xs:List V) (lo hi:Option Int):List V:=(xs.drop (HT.nE xs.length 0 lo)).take (HT.nE xs.length xs.length hi - HT.nE xs.length 0 lo)
theorem m8 (xs:List V) (lo hi:Option Int):(sU xs lo hi).length<=xs.length:=by
 unfold sU
 rw[List.length_take,List.length_drop]
 omega
noncomputable def uv (K:PySem.W.Frag):R2:=fun x y H Q=>∃a b xs ys,x= .ref a/\y= .ref b/\eL K H a xs/\eL K H b ys/\xs≠[]/\xs.length+ys.length<=sizeLine/\
 (ys=[]->Q (.ref a) H)/\(ys≠[]->∀p,H p=none->Q (.ref p) (bn H p (.tup (xs++ys))))
theorem aM.nil_iff {xs:List V} {us:List Value} (r:aM xs us):us=[]<->xs=[]:=by
 cases r with
 |nil=>simp
 |cons _ _=>simp
theorem sV:gE X (binaryOp .Add) (uv X.K):=by
 intro pins s σ H x y v u Q I rx ry h
 obtain⟨a,b,xs,ys,rfl,rfl,ha,hb,hx,hz,q1,q2⟩:=h
 cases rx
 cases ry
 obtain⟨its,r1,p1,_⟩:=I.tuple ha
 obtain⟨its2,r2,p2,_⟩:=I.tuple hb
 refine HT.sT p1 p2 (fun z=>hx (r1.nil_iff.mp z)) (fun z=>⟨.ref a,H,I,rfl,q1 (r2.nil_iff.mp z)⟩) (fun z=> ?_) (by rw[<-r1.length,<-r2.length];exact hz)
 refine⟨.ref s.heap.objs.size,_,I.laid (t':=s.toks) (o:= .tup (xs++ys)) (fun b ob q=>Heap.get?_push_of_some _ q) (Nat.le_refl _) ?_,rfl,q2 (fun w=>z (r2.nil_iff.mpr w)) _ (I.hok.fresh (Nat.le_refl _))⟩
 exact⟨by rw[List.length_append];exact hz,_,r1.append r2,e_.new _ _⟩
end
end L2
namespace L2
open PySem PySem.Spec PyProof.Rows
noncomputable def uw (n:Nat) (i:Int):Option Nat:=if 0<=i then (if i<n then some i.toNat else none)else if -(n:Int)<=i then some (i+n).toNat else none
noncomputable def atI {α:Type} (xs:List α) (i:Int):Option α:=(uw xs.length i).bind fun j=>xs[j]?
theorem sW {n:Nat} {i:Int} {j:Nat} (h:uw n i=some j):seqIndex? i n=some j/\j<n/\ -(n:Int)<=i/\i<n:=by
 unfold uw at h
 by_cases h0:0<=i
 ·rw[if_pos h0]at h
  by_cases h1:i<n
  ·rw[if_pos h1]at h
   have e:i.toNat=j:=Option.some.inj h
   exact⟨by rw[seqIndex_of h0 h1,e],by omega,by omega,h1⟩
  ·rw[if_neg h1]at h;cases h
 ·rw[if_neg h0]at h
  by_cases h1: -(n:Int)<=i
  ·rw[if_pos h1]at h
   have e:(i+n).toNat=j:=Option.some.inj h
   exact⟨by rw[seqIndex_neg (by omega) h1,e],by omega,h1,by omega⟩
  ·rw[if_neg h1]at h;cases h
theorem lp {α:Type} {xs:List α} {i:Int} {v:α} (h:atI xs i=some v):∃j,seqIndex? i xs.length=some j/\xs[j]? =some v/\j<xs.length/\ -(xs.length:Int)<=i/\i<xs.length:=by
 unfold atI at h
 cases e:uw xs.length i with
 |none=>rw[e]at h;cases h
 |some j=>
  rw[e]at h
  obtain⟨h1,h2,h3,h4⟩:=sW e
  exact⟨j,h1,h,h2,h3,h4⟩
theorem sX {α:Type} {xs:List α} {j:Nat} {v:α} (h:xs[j]? =some v):atI xs (j:Int)=some v:=by
 have hj:j<xs.length:=(List.getElem?_eq_some_iff.mp h).1
 have e:uw xs.length (j:Int)=some j:=by
  unfold uw
  rw[if_pos (by omega),if_pos (by omega)];simp
 unfold atI;rw[e];exact h
noncomputable def oA (b:Expr):Prop:=∀o i,subscripted b false o i=operate [o,i] (getItem o i)
noncomputable def sY (X:Cx) (r:R2):Prop:=
 ∀(value slice:Expr) (pins:List (Addr×Obj)) (s:Shared) (σ:St) (H:Hp) (x y:V) (v u:Value) (Q:VK),au X pins σ H s->bg x v->bg y u->r x y H Q->
  subscripted slice false v u=operate [v,u] (getItem v u)->wpAny (model X.prog X.w) X.A (subscriptTail value slice v u) (EP X pins σ Q) X.xe s
noncomputable def yL (X:Cx) (id:String) (r:V->List V->Hp->VK->Prop):Prop:=
 ∀(pins:List (Addr×Obj)) (s:Shared) (σ:St) (H:Hp) (x:V) (xs:List V) (v:Value) (us:List Value) (Q:VK),au X pins σ H s->bg x v->aM xs us->r x xs H Q->
  wpAny (model X.prog X.w) X.A (call (.builtin id) (v::us)) (EP X pins σ Q) X.xe s
section
variable {X:Cx} {a b:Expr} {ta tb:TE} {pos:Pos}
theorem sY.or {r r':R2} (h:sY X r) (h':sY X r'):sY X (fun x y H Q=>r x y H Q\/r' x y H Q):=by
 intro value slice pins s σ H x y v u Q I rx ry q hs
 rcases q with q|q
 ·exact h value slice pins s σ H x y v u Q I rx ry q hs
 ·exact h' value slice pins s σ H x y v u Q I rx ry q hs
theorem wI {r:R2} (hr:sY X r) (ha:PE X a ta) (hb:PE X b tb) (hs:oA b):PE X (.Subscript a b pos) (xB r ta tb):=by
 intro pins s σ H Q I h
 exact Subscript_ (v2 ha hb I h fun v u s2 x y H2 I2 rx ry q=>hr a b pins s2 σ H2 x y v u Q I2 rx ry q (hs _ _))
noncomputable def wJ (K:PySem.W.Frag):R2:=fun x y H Q=>∃p xs i v,x= .ref p/\y= .int i/\dr K H p xs/\atI xs i=some v/\Q v H
noncomputable def wK (K:PySem.W.Frag):R2:=fun x y H Q=>∃p xs i v,x= .ref p/\y= .int i/\eL K H p xs/\atI xs i=some v/\Q v H
noncomputable def wL:R2:=fun x y H Q=>∃z i c,x= .str z/\y= .int i/\z.length<=sizeLine/\atI z.cps.toList i=some c/\Q (.str ⟨#[c]⟩) H
theorem sZ:sY X (wJ X.K):=by
 intro value slice pins s σ H x y v u Q I rx ry h hs
 obtain⟨p,xs,i,z,rfl,rfl,hq,he,q⟩:=h
 cases rx
 obtain⟨t,rfl⟩:=ry
 obtain⟨its,r,pl,hz⟩:=I.list hq
 obtain⟨j,h1,h2,h3,h4,h5⟩:=lp he
 obtain⟨w,ew,rw'⟩:=r.get h2
 have hl:=r.length
 have hn:=jy
 have fin:EP X pins σ Q w s:=⟨z,H,I,rw',q⟩
 by_cases h0:0<=i
 ·have hj:i.toNat=j:=by
   rw[seqIndex_of h0 h5]at h1
   exact Option.some.inj h1
  exact item_listR pl.isList h0 (by omega) (by rw[hj];simpa using ew) fin hs
 ·have hj:(i+(its.toArray.size:Int)).toNat=j:=by
   rw[seqIndex_neg (by omega) h4]at h1
   rw[List.size_toArray,<-hl]
   exact Option.some.inj h1
  exact subscriptTail_builtinR (x:=w) pl.isList.typeIs slot_list_getitem.lookup
   (wpAny_getItem_list_neg (Q:=fun r s'=>r=w/\EP X pins σ Q r s') pl.isList (by omega) (by rw[List.size_toArray]<;>omega) (by omega) (by rw[hj];simpa using ew) ⟨rfl,fin⟩) hs
theorem vb:sY X (wK X.K):=by
 intro value slice pins s σ H x y v u Q I rx ry h hs
 obtain⟨p,xs,i,z,rfl,rfl,hq,he,q⟩:=h
 cases rx
 obtain⟨t,rfl⟩:=ry
 obtain⟨its,r,pl,hz⟩:=I.tuple hq
 obtain⟨j,h1,h2,h3,h4,h5⟩:=lp he
 obtain⟨w,ew,rw'⟩:=r.get h2
 have hl:=r.length
 have hn:=jy
 have fin:EP X pins σ Q w s:=⟨z,H,I,rw',q⟩
 exact subscriptTail_builtinR (x:=w) pl.typeIs slot_tuple_getitem.lookup
  (getItem_tuple (j:=j) (Q:=fun r s'=>r=w/\EP X pins σ Q r s') pl (by omega) (by omega) (by rw[List.size_toArray,<-hl];exact h1) (by simpa using ew) ⟨rfl,fin⟩) hs
theorem vc:sY X wL:=by
 intro value slice pins s σ H x y v u Q I rx ry h hs
 obtain⟨z,i,c,rfl,rfl,hz,he,q⟩:=h
 obtain⟨t,rfl⟩:=rx
 obtain⟨t',rfl⟩:=ry
 obtain⟨j,h1,h2,h3,h4,h5⟩:=lp he
 have hl:z.cps.toList.length=z.length:=by simp[Str.length]
 rw[hl]at h1 h4 h5
 have hn:=jy
 exact tail_any (typeIs_str s z t) slot_str_getitem.lookup (getItem_str (c:=c) (by
  have e1:decide (i< -(2 ^63:Int))=false:=decide_eq_false (by omega)
  have e2:decide (i>=2 ^63)=false:=decide_eq_false (by omega)
  rw[e1,e2,Bool.or_false]) (by rw[h1];simpa using h2) ⟨.str ⟨#[c]⟩,H,I.tok _,⟨_,rfl⟩,q⟩) hs
noncomputable def yz (K:PySem.W.Frag):R2:=fun x y H Q=>wJ K x y H Q\/wK K x y H Q\/wL x y H Q
theorem ve:sY X (yz X.K):=sZ.or (vb.or vc)
theorem au.lst {pins:List (Addr×Obj)} {σ:St} {H:Hp} {s:Shared} {p:Addr} {xs:List V} (I:au X pins σ H s) (h:H p=some (.lst xs)):
  ∃(its:List Value) (n:Nat),aM xs its/\s.heap.get? p=some {cls:= .type "list",data:= .seq its.toArray n}/\xs.length<=sizeLine:=by
 obtain⟨z,its,n,r,e⟩:=I.hok p _ h
 exact⟨its,n,r,e,z⟩
theorem lq (lo hi:Option Int) (n:Nat):(sliceBounds lo hi none n).1=((HT.nE n 0 lo:Nat):Int)/\(sliceBounds lo hi none n).2.1=((HT.nE n n hi:Nat):Int)/\(sliceBounds lo hi none n).2.2=1:=by
 refine⟨?_,?_,rfl⟩
 ·cases lo with
  |none=>simp[sliceBounds,HT.nE]
  |some i=>
   simp only[sliceBounds,HT.nE,Option.getD_none,show (1:Int)>0 by decide,if_true]
   by_cases h:i<0
   ·simp only[h,if_true]<;>omega
   ·simp only[h,if_false]<;>omega
 ·cases hi with
  |none=>simp[sliceBounds,HT.nE]
  |some i=>
   simp only[sliceBounds,HT.nE,Option.getD_none,show (1:Int)>0 by decide,if_true]
   by_cases h:i<0
   ·simp only[h,if_true]<;>omega
   ·simp only[h,if_false]<;>omega
theorem ki (its:List Value) (lo hi:Option Int):slicePick its.toArray lo hi none=((its.drop (HT.nE its.length 0 lo)).take (HT.nE its.length its.length hi - HT.nE its.length 0 lo)).toArray:=by
 obtain⟨h1,h2,h3⟩:=lq lo hi its.toArray.size
 unfold slicePick
 rw[h1,h2,h3]
 simp only[sliceRange_one,pick_run,List.size_toArray]<;>rfl
noncomputable def yc (K:PySem.W.Frag):V->Option Int->Option Int->Hp->VK->Prop:=fun x lo hi H Q=>∃a xs,x= .ref a/\dr K H a xs/\∀p,H p=none->Q (.ref p) (bn H p (.lst (sU xs lo hi)))
theorem xD:yK X (yc X.K):=by
 intro pins s σ H x v vl vu lo hi sl Q I rx hs pl pu h
 obtain⟨a,xs,rfl,hx,q⟩:=h
 cases rx
 obtain⟨its,r,ht,hz⟩:=I.list hx
 have hlen:=r.length
 refine⟨"list",_,slot_list_getitem.lookup,ht.isList.typeIs,?_⟩
 refine wpAny_getItem_list_slice ht.isList hs pl pu .none (by simp) ?_ (by rw[List.size_toArray]<;>omega)
 rw[ki,<-hlen]
 refine⟨.ref s.heap.objs.size,_,I.laid (t':=s.toks) (o:= .lst (sU xs lo hi)) (fun b ob q=>Heap.get?_push_of_some _ q) (Nat.le_refl _) ?_,rfl,q _ (I.hok.fresh (Nat.le_refl _))⟩
 exact⟨Nat.le_trans (m8 xs lo hi) hz,_,0,(r.drop (HT.nE xs.length 0 lo)).take (HT.nE xs.length xs.length hi - HT.nE xs.length 0 lo),Heap.get?_push_size _ rfl⟩
noncomputable def fJ:V->Bool
 | .non=>true
 | .bl _=>true
 | .int _=>true
 | .str _=>true
 |_=>false
noncomputable def s_:V->V->Bool
 | .non, .non=>true
 | .bl a, .bl b=>a==b
 | .bl a, .int b=>(if a then 1 else 0)==b
 | .int a, .bl b=>a==(if b then 1 else 0)
 | .int a, .int b=>a==b
 | .str a, .str b=>a==b
 |_,_=>false
theorem vf {A:Around} {s:Shared} {y x:V} {u v:Value} (ry:bg y u) (rx:bg x v) (fy:fJ y=true) (fx:fJ x=true):SeqAt.EqAt A s u v (s_ y x):=by
 cases y with
 |non=>
  cases ry
  cases x with
  |non=>cases rx;exact SeqAt.EqAt.same _
  |bl b=>cases rx;exact SeqAt.EqAt.none_bool b
  |int b=>obtain⟨t,rfl⟩:=rx;exact SeqAt.EqAt.none_int b t
  |str b=>obtain⟨t,rfl⟩:=rx;exact SeqAt.EqAt.none_str b t
  |_=>exact absurd (show false=true from fx) Bool.false_ne_true
 |bl a=>
  cases ry
  cases x with
  |non=>cases rx;exact SeqAt.EqAt.bool_none a
  |bl b=>cases rx;exact SeqAt.EqAt.bool_bool a b
  |int b=>obtain⟨t,rfl⟩:=rx;exact SeqAt.EqAt.bool_int a b t
  |str b=>obtain⟨t,rfl⟩:=rx;exact SeqAt.EqAt.bool_str a b t
  |_=>exact absurd (show false=true from fx) Bool.false_ne_true
 |int a=>
  obtain⟨t',rfl⟩:=ry
  cases x with
  |non=>cases rx;exact SeqAt.EqAt.int_none a t'
  |bl b=>cases rx;exact SeqAt.EqAt.int_bool a t' b
  |int b=>obtain⟨t,rfl⟩:=rx;exact SeqAt.EqAt.int_int a t' b t
  |str b=>obtain⟨t,rfl⟩:=rx;exact SeqAt.EqAt.int_str a t' b t
  |_=>exact absurd (show false=true from fx) Bool.false_ne_true
 |str a=>
  obtain⟨t',rfl⟩:=ry
  cases x with
  |non=>cases rx;exact SeqAt.EqAt.str_none a t'
  |bl b=>cases rx;exact SeqAt.EqAt.str_bool a t' b
  |int b=>obtain⟨t,rfl⟩:=rx;exact SeqAt.EqAt.str_int a t' b t
  |str b=>obtain⟨t,rfl⟩:=rx;exact SeqAt.EqAt.str_str a t' b t
  |_=>exact absurd (show false=true from fx) Bool.false_ne_true
 |_=>exact absurd (show false=true from fy) Bool.false_ne_true
noncomputable def nG (x:V) (u:Value):Bool:=match u with
 | .none=>s_ .non x
 | .bool b=>s_ (.bl b) x
 | .int i _=>s_ (.int i) x
 | .str z _=>s_ (.str z) x
 |_=>false
theorem qJ {x y:V} {u:Value} (r:bg y u) (f:fJ y=true):nG x u=s_ y x:=by
 cases y with
 |non=>cases r;rfl
 |bl b=>cases r;rfl
 |int i=>obtain⟨t,rfl⟩:=r;rfl
 |str z=>obtain⟨t,rfl⟩:=r;rfl
 |_=>exact absurd (show false=true from f) Bool.false_ne_true
theorem i4 {x:V}:∀{xs:List V} {us:List Value},aM xs us->xs.all fJ=true->us.any (nG x)=xs.any fun y=>s_ y x
 |_,_, .nil,_=>rfl
 |y::xs,u::us, .cons r t,f=>by
  rw[List.all_cons,Bool.and_eq_true]at f
  rw[List.any_cons,List.any_cons,qJ r f.1,i4 t f.2]
theorem fS {A:Around} {s:Shared} {x:V} {v:Value} (rx:bg x v) (fx:fJ x=true):∀{xs:List V} {us:List Value},aM xs us->xs.all fJ=true->∀u∈us,SeqAt.EqAt A s u v (nG x u)
 |_,_, .nil,_=>fun u hu=>by cases hu
 |y::xs,u::us, .cons r t,f=>fun u' hu=>by
  rw[List.all_cons,Bool.and_eq_true]at f
  rcases List.mem_cons.mp hu with rfl|hu
  ·rw[qJ r f.1];exact vf r rx f.1 fx
  ·exact fS rx fx t f.2 u' hu
noncomputable def inV (x:V) (xs:List V):Bool:=xs.any fun y=>s_ y x
noncomputable def yd (K:PySem.W.Frag) (neg:Bool):R2:=fun x y H Q=>∃p xs,y= .ref p/\(dr K H p xs\/eL K H p xs)/\fJ x=true/\xs.all fJ=true/\Q (.bl (if neg then !inV x xs else inV x xs)) H
theorem pH:gE X (compareOp .In) (yd X.K false):=by
 intro pins s σ H x y v u Q I rx ry h
 obtain⟨p,xs,rfl,hq,fx,fs,q⟩:=h
 cases ry
 rcases hq with hq|hq
 ·obtain⟨its,r,pl,hz⟩:=I.list hq
  refine SeqAt.in_listAt (nG x) pl.isList (fun w hw=>fS rx fx r fs w (by simpa using hw)) ⟨.bl _,H,I,rfl,?_⟩
  rw[show its.toArray.any (nG x)=its.any (nG x) by simp,i4 r fs]
  exact q
 ·obtain⟨its,r,pl,hz⟩:=I.tuple hq
  refine SeqAt.in_tupleAt (nG x) pl (fun w hw=>fS rx fx r fs w (by simpa using hw)) ⟨.bl _,H,I,rfl,?_⟩
  rw[show its.toArray.any (nG x)=its.any (nG x) by simp,i4 r fs]
  exact q
theorem i5:gE X (compareOp .NotIn) (yd X.K true):=by
 intro pins s σ H x y v u Q I rx ry h
 obtain⟨p,xs,rfl,hq,fx,fs,q⟩:=h
 cases ry
 rcases hq with hq|hq
 ·obtain⟨its,r,pl,hz⟩:=I.list hq
  refine SeqAt.notIn_listAt (nG x) pl.isList (fun w hw=>fS rx fx r fs w (by simpa using hw)) ⟨.bl _,H,I,rfl,?_⟩
  rw[show its.toArray.any (nG x)=its.any (nG x) by simp,i4 r fs]
  exact q
 ·obtain⟨its,r,pl,hz⟩:=I.tuple hq
  refine SeqAt.notIn_tupleAt (nG x) pl (fun w hw=>fS rx fx r fs w (by simpa using hw)) ⟨.bl _,H,I,rfl,?_⟩
  rw[show its.toArray.any (nG x)=its.any (nG x) by simp,i4 r fs]
  exact q
theorem lr:eO X (.builtin "len") (fun xs H Q=>∃p ys,xs=[.ref p]/\(dr X.K H p ys\/eL X.K H p ys)/\Q (.int ys.length) H):=by
 intro pins s σ H xs us Q I r h
 obtain⟨p,ys,rfl,hq,q⟩:=h
 obtain⟨u,rfl,rx⟩:=hZ r
 cases rx
 have hn:=jy
 rcases hq with hq|hq
 ·obtain⟨its,r',pl,hz⟩:=I.list hq
  have hlen:=r'.length
  exact Calls.call_len_list pl.isList (by simp only[List.size_toArray]<;>omega) ⟨.int ys.length,H,I.tok _,⟨s.toks+1,by rw[List.size_toArray,hlen]⟩,q⟩
 ·obtain⟨its,r',pl,hz⟩:=I.tuple hq
  have hlen:=r'.length
  exact len_tuple pl (by simp only[List.size_toArray]<;>omega) ⟨.int ys.length,H,I.tok _,⟨s.toks+1,by rw[List.size_toArray,hlen]⟩,q⟩
theorem dt:eO X (.type "tuple") (fun xs H Q=>∃p ys,xs=[.ref p]/\((dr X.K H p ys/\∀l,H l=none->Q (.ref l) (bn H l (.tup ys)))\/(eL X.K H p ys/\Q (.ref p) H))):=by
 intro pins s σ H xs us Q I r h
 obtain⟨p,ys,rfl,h⟩:=h
 obtain⟨u,rfl,rx⟩:=hZ r
 cases rx
 rcases h with ⟨hq,q⟩|⟨hq,q⟩
 ·obtain⟨its,r',pl,hz⟩:=I.list hq
  have hlen:=r'.length
  refine call_tuple_list pl.isList (fun h' kp=> ?_) (by simp only[List.size_toArray]<;>omega)
  have I1:au X pins σ H {s with heap:=h'}:=I.kept (t':=s.toks) kp
  have I2:au X pins σ (bn H h'.objs.size (.tup ys)) {s with heap:=h'.push {cls:= .type "tuple",data:= .seq its.toArray}}:=
   I1.laid (t':=s.toks) (fun b o e=>Heap.get?_push_of_some _ e) (Nat.le_refl _) (show bO X.prog X.w _ _ _ (.tup ys)from ⟨hz,its,r',e_.new _ _⟩)
  exact⟨.ref h'.objs.size,_,I2,rfl,q _ (I1.hok.fresh (Nat.le_refl _))⟩
 ·obtain⟨its,r',pl,hz⟩:=I.tuple hq
  exact call_tuple_same pl ⟨.ref p,H,I,rfl,q⟩
noncomputable def yA (K:PySem.W.Frag) (T:String) (x:V) (H:Hp):Prop:=match x with
 | .str _=>T="str"
 | .int _=>T="int"
 | .ref p=>(T="list"/\∃xs,dr K H p xs)\/(T="tuple"/\∃o,K.lookup p=some o/\o.cls= .type "tuple"/\o.dict=none)\/
   (T="dict"/\((∃kvs,H p=some (.dK kvs))\/∃kvs,H p=some (.dT kvs)))\/(T="set"/\∃S n,H p=some (.set S n))
 |_=>False
theorem vg {pins:List (Addr×Obj)} {σ:St} {H:Hp} {s:Shared} {T:String} {x:V} {v:Value} (I:au X pins σ H s) (r:bg x v) (ty:yA X.K T x H):
  s.TypeIs v T/\∀a,v= .ref a->∃ob,s.heap.get? a=some ob/\ob.dict=none:=by
 cases x with
 |str z=>
  obtain⟨t,rfl⟩:=r
  cases (show T="str" from ty)
  exact⟨typeIs_str s z t,fun _ e=>nomatch e⟩
 |int i=>
  obtain⟨t,rfl⟩:=r
  cases (show T="int" from ty)
  exact⟨typeIs_int s i t,fun _ e=>nomatch e⟩
 |ref p=>
  cases r
  rcases ty with ⟨rfl,xs,hq⟩|⟨rfl,o,hk,hc,hd⟩|⟨rfl,hk⟩|⟨rfl,S,n,hk⟩
  ·obtain⟨its,_,pl,_⟩:=I.list hq
   refine⟨pl.isList.typeIs,fun a e=> ?_⟩
   cases e
   obtain⟨o,n,e,c,hd,_⟩:=pl
   exact⟨o,e,hd⟩
  ·refine⟨⟨o,I.kIn p o hk,hc⟩,fun a e=> ?_⟩
   cases e
   exact⟨o,I.kIn _ o hk,hd⟩
  ·have z:∃o,s.heap.get? p=some o/\o.ExactDict:=by
    rcases hk with ⟨kvs,hk⟩|⟨kvs,hk⟩
    ·obtain⟨_,_,_,_,o,_,_,e,ex,_⟩:=I.hok p _ hk
     exact⟨o,e,ex⟩
    ·obtain⟨_,_,_,_,o,_,_,e,ex,_⟩:=I.hok p _ hk
     exact⟨o,e,ex⟩
   obtain⟨o,e,ex⟩:=z
   refine⟨⟨o,e,ex.1⟩,fun a e2=> ?_⟩
   cases e2
   exact⟨o,e,ex.2.1⟩
  ·obtain⟨o,_,_,_,e,ex,_⟩:=I.hok p _ hk
   refine⟨⟨o,e,ex.1⟩,fun a e2=> ?_⟩
   cases e2
   exact⟨o,e,ex.2.1⟩
 |_=>exact False.elim ty
noncomputable def yM (K:PySem.W.Frag) (T:String) (r:V->List V->Hp->VK->Prop) (to:TE) (t:TA):TE:=fun σ H Q=>to σ H fun x H1=>yA K T x H1/\t σ H1 fun xs H2=>r x xs H2 Q
variable {o e:Expr} {es:List Expr} {to:TE} {t:TA} {name:Str} {apos cpos:Pos} {T id:String} {r:V->List V->Hp->VK->Prop}
theorem oB (pa:PlainAttrs T) (slot:Slot T name id) (hty:typeOf (.builtin id)=pure (.type "method_descriptor")) (hm:yL X id r) (ho:PE X o to) (ha:PA X (e::es) t)
  (hbase:attributeBase o name X.env (eval o X.env)=eval o X.env:=by rfl)
  (hfew:((backTo cpos (starEach (e::es) X.env)).all (fun x=> !x.1)&&(backToKw cpos (keywordEach [] X.env)).all (fun x=>x.1.isSome)
   &&decide ((e::es).length+([]:List Keyword).length+(if ([]:List Keyword).isEmpty then 0 else 1)<30))=true:=by rfl)
  (hline:(apos.endLine==cpos.line)=true:=by rfl) (hs:starEach (e::es) X.env=(false,eval e X.env)::starEach es X.env:=by rfl) (hplain:(backTo cpos (starEach es X.env)).any (·.1)=false:=by rfl):
  PE X (.Call (.Attribute o name apos) (e::es) [] cpos) (yM X.K T r to t):=by
 intro pins s σ H Q I h
 refine wpAny_Call_method_late hbase hfew hline rfl (cg (ho pins s σ H _ I h) fun v s1 z_=> ?_)
 obtain⟨x,H1,I1,r1,ty,q1⟩:=z_
 obtain⟨h1,h2⟩:=vg I1 r1 ty
 refine⟨T,id,pa,slot,hty,h1,h2,?_⟩
 have hA:=ha cpos pins s1 σ H1 _ I1 q1
 rw[hs]at hA ⊢
 refine Calls.callWith_builtin (by show (false||(backTo cpos (starEach es X.env)).any (·.1))=false;rw[hplain]<;>rfl) (Calls.evalArgs_plain ?_)
 exact cg hA fun us s2 ⟨vs,H2,I2,r2,q2⟩=>hm pins s2 σ H2 x vs v us Q I2 r1 r2 q2
end
end L2
namespace L2
open PySem PySem.Spec PyProof.Rows
noncomputable def xE (X:Cx) (id:String) (r:V->List V->Hp->VK->Prop):Prop:=
 ∀(pins:List (Addr×Obj)) (s:Shared) (σ:St) (H:Hp) (x:V) (xs:List V) (v:Value) (us:List Value) (Q:VK),au X pins σ H s->bg x v->aM xs us->r x xs H Q->
  wpAny (model X.prog X.w) X.A (call (.builtin id) (v::us)) (EP X pins σ Q) X.xe s
theorem aM.one:∀{x:V} {us:List Value},aM [x] us->∃u,us=[u]/\bg x u:=fun h=>by
 cases h with
 |cons r t=>cases t;exact⟨_,rfl,r⟩
theorem aM.reverse {xs:List V} {us:List Value} (h:aM xs us):aM xs.reverse us.reverse:=by
 induction h with
 |nil=>exact .nil
 |cons r t ih=>rw[List.reverse_cons,List.reverse_cons];exact aM.append ih (.cons r .nil)
theorem aM.rep {xs:List V} {us:List Value} (h:aM xs us):∀k:Nat,aM (List.replicate k xs).flatten (List.replicate k us).flatten
 |0=> .nil
 |k+1=>by
  rw[List.replicate_succ,List.replicate_succ,List.flatten_cons,List.flatten_cons]
  exact aM.append h (aM.rep h k)
theorem kC (its:List Value):∀(k:Nat) (acc:List Value),
  List.foldl (fun x1 x2=>x1++x2) acc.toArray (List.replicate k its.toArray)=(acc++(List.replicate k its).flatten).toArray
 |0,acc=>by simp
 |k+1,acc=>by
  have e:acc.toArray++its.toArray=(acc++its).toArray:=by simp
  have e2:(acc++its)++(List.replicate k its).flatten=acc++(List.replicate (k+1) its).flatten:=by
   rw[List.replicate_succ,List.flatten_cons,List.append_assoc]
  rw[<-e2,<-kC its k (acc++its),<-e,List.replicate_succ,List.foldl_cons]
section
variable {X:Cx} {pins:List (Addr×Obj)} {σ:St} {H:Hp} {s:Shared} {l b:Addr} {xs ys zs:List V}
theorem au.lset {its its':List Value} {n:Nat} {f:Array Value->Array Value} {t':Nat} (I:au X pins σ H s) (hH:H l=some (.lst xs))
  (e:s.heap.get? l=some {cls:= .type "list",data:= .seq its.toArray n}) (hf:f its.toArray=its'.toArray) (hv:aM ys its') (hz:ys.length<=sizeLine):
  au X pins σ (bn H l (.lst ys)) {s with heap:=s.heap.update l (Obj.mapSeq f),toks:=t'}:=by
 have q:=PySem.IsL.update e f
 rw[hf]at q
 refine I.write (x:=l) (e:=l) (by rw[hH];exact trivial) (.inl rfl) (fun b' u hb hu=>(Heap.get?_update_other s.heap (Obj.mapSeq f) (Ne.symm hb)).trans hu) ⟨_,q⟩ ?_
 exact⟨hz,its',_,hv,q⟩
theorem au.lnew {its:List Value} {t':Nat} (I:au X pins σ H s) (hv:aM ys its) (hz:ys.length<=sizeLine):
  au X pins σ (bn H s.heap.objs.size (.lst ys)) {s with heap:=s.heap.push {cls:= .type "list",data:= .seq its.toArray},toks:=t'}:=
 I.laid (fun _ _ q=>Heap.get?_push_of_some _ q) (Nat.le_refl _) ⟨hz,its,0,hv,Heap.get?_push_size _ rfl⟩
theorem au.fresh (I:au X pins σ H s):H s.heap.objs.size=none:=I.hok.fresh (Nat.le_refl _)
theorem au.lstM (I:au X pins σ H s) (hH:H l=some (.lst xs)):xs.length<=sizeLine/\∃(its:List Value) (n:Nat),aM xs its/\xs.length=its.length/\s.heap.get? l=some {cls:= .type "list",data:= .seq its.toArray n}:=by
 obtain⟨z,its,n,r,e⟩:=I.hok l _ hH
 exact⟨z,its,n,r,r.length,e⟩
theorem m9 {n:Nat} (h:n<=sizeLine):Builtin.List.listTooLong n=false:=by
 unfold Builtin.List.listTooLong
 exact decide_eq_false (by omega)
end
section
variable {X:Cx}
noncomputable def t0:V->List V->Hp->VK->Prop:=fun x vs H Q=>∃l xs y,x= .ref l/\vs=[y]/\H l=some (.lst xs)/\xs.length<sizeLine/\Q .non (bn H l (.lst (xs++[y])))
theorem iC:xE X "list.append" t0:=by
 intro pins s σ H x vs v us Q I rx rv h
 obtain⟨l,xs,y,rfl,rfl,hH,hz,q⟩:=h
 cases rx
 obtain⟨u,rfl,ru⟩:=rv.one
 obtain⟨z,its,n,r,hl,e⟩:=I.lstM hH
 refine call_meets F.slot_list_append ⟨_,e,rfl⟩ F.entry_list_append (F.args_list_append_2 _ _) (PySem.list_append l its.toArray n u (by rw[List.size_toArray];omega)) ⟨e,?_⟩
 refine⟨.non,_,I.lset (its':=its++[u]) hH e (by simp) (r.append (.cons ru .nil)) ?_,rfl,q⟩
 rw[List.length_append,List.length_singleton]
 omega
noncomputable def t5:V->List V->Hp->VK->Prop:=fun x vs H Q=>∃l b xs zs,x= .ref l/\vs=[.ref b]/\H l=some (.lst xs)/\H b=some (.lst zs)/\xs.length+zs.length<=sizeLine/\Q .non (bn H l (.lst (xs++zs)))
theorem wc:xE X "list.extend" t5:=by
 intro pins s σ H x vs v us Q I rx rv h
 obtain⟨l,b,xs,zs,rfl,rfl,hH,hB,hz,q⟩:=h
 cases rx
 obtain⟨u,rfl,ru⟩:=rv.one
 cases ru
 obtain⟨z,its,n,r,hl,e⟩:=I.lstM hH
 obtain⟨z2,its2,n2,r2,hl2,e2⟩:=I.lstM hB
 have hsz:its.toArray.size+its2.toArray.size<=sizeLine:=by rw[List.size_toArray,List.size_toArray];omega
 have hlong:¬(!its.toArray.isEmpty&&Builtin.List.listTooLong (its.toArray.size+its2.toArray.size))=true:=by
  rw[m9 hsz,Bool.and_false]
  exact Bool.false_ne_true
 refine call_meets F.slot_list_extend ⟨_,e,rfl⟩ F.entry_list_extend (F.args_list_extend_2 _ _)
  (AutoSeq1.list_extend_list_list_0 l its.toArray n b its2.toArray n2 hlong (by rw[List.size_toArray];omega) (by omega)) ⟨e,e2,?_⟩
 refine⟨.non,_,I.lset (its':=its++its2) hH e (by simp) (r.append r2) ?_,rfl,q⟩
 rw[List.length_append]
 omega
noncomputable def wM:R2:=fun x y H Q=>∃l b xs zs,x= .ref l/\y= .ref b/\H l=some (.lst xs)/\H b=some (.lst zs)/\xs.length+zs.length<=sizeLine/\∀p,H p=none->Q (.ref p) (bn H p (.lst (xs++zs)))
theorem vh:gE X (binaryOp .Add) wM:=by
 intro pins s σ H x y v u Q I rx ry h
 obtain⟨l,b,xs,zs,rfl,rfl,hH,hB,hz,q⟩:=h
 cases rx
 cases ry
 obtain⟨z,its,n,r,hl,e⟩:=I.lstM hH
 obtain⟨z2,its2,n2,r2,hl2,e2⟩:=I.lstM hB
 refine PySem.P.add_list e e2 ?_ (by rw[List.size_toArray,List.size_toArray];omega)
 have ea:its.toArray++its2.toArray=(its++its2).toArray:=by simp
 rw[ea]
 exact⟨.ref _,_,I.lnew (t':=s.toks) (r.append r2) (by rw[List.length_append];omega),rfl,q _ I.fresh⟩
noncomputable def wN:R2:=fun x y H Q=>∃l k xs,x= .ref l/\y= .int k/\H l=some (.lst xs)/\ -(2 ^63)<=k/\k<2 ^63/\xs.length*k.toNat<=sizeLine/\
 ∀p,H p=none->Q (.ref p) (bn H p (.lst (List.replicate k.toNat xs).flatten))
theorem t6 {α:Type} (xs:List α) (k:Nat):(List.replicate k xs).flatten.length=k*xs.length:=by
 induction k with
 |zero=>simp
 |succ k ih=>rw[List.replicate_succ,List.flatten_cons,List.length_append,ih,Nat.succ_mul,Nat.add_comm]
theorem vi:gE X (binaryOp .Mult) wN:=by
 intro pins s σ H x y v u Q I rx ry h
 obtain⟨l,k,xs,rfl,rfl,hH,h1,h2,hz,q⟩:=h
 cases rx
 obtain⟨t,rfl⟩:=ry
 obtain⟨z,its,n,r,hl,e⟩:=I.lstM hH
 have hlen:its.toArray.size*k.toNat<=sizeLine:=by rw[List.size_toArray,<-hl];exact hz
 have hcap:¬its.toArray.size*k.toNat>(2 ^63 - 1) / 8:=by
  have:(sizeLine:Nat)<=(2 ^63 - 1) / 8:=by decide
  omega
 have hfit:¬(!Builtin.List.listFitsIndex k)=true:=by
  rw[fitsIndex_both h1 h2]
  exact Bool.false_ne_true
 have hlong:¬Builtin.List.listTooLong (its.toArray.size*k.toNat)=true:=by
  rw[m9 hlen]
  exact Bool.false_ne_true
 have hnew:List.foldl (fun x1 x2=>x1++x2) #[] (List.replicate (if its.toArray.isEmpty=true then 0 else k.toNat) its.toArray)=(List.replicate k.toNat its).flatten.toArray:=by
  have f0:∀m:Nat,List.foldl (fun x1 x2=>x1++x2) #[] (List.replicate m its.toArray)=(List.replicate m its).flatten.toArray:=fun m=>by
   have:=kC its m []
   rw[List.nil_append]at this
   exact this
  rw[f0]
  cases its with
  |nil=>simp
  |cons a r'=>rw[if_neg (by simp)]
 refine wpAny_binaryOp_repeat_ref (T:="list") (U:="int") (by decide) ⟨_,e,rfl⟩ (fun s'=>typeIs_int s' k t) noFill_list_mul F.fills_int_mul F.slot_int_rmul repeat_list F.slot_int_index.lookup
  (call_meets F.slot_int_rmul (typeIs_int s k t) F.entry_int_rmul (F.args_int_rmul_2 _ _) (int___rmul___int_list k t l its.toArray n)
   ⟨e,rfl,⟨_,e,rfl⟩,call_meets F.slot_list_mul ⟨_,e,rfl⟩ F.entry_list_mul (F.args_list_mul_2 _ _) (AutoListH.list___mul___list_int_3 l its.toArray n k t hfit hcap hlong) ⟨e,?_⟩⟩)
 rw[hnew]
 exact⟨.ref _,_,I.lnew (t':=s.toks) (r.rep k.toNat) (by rw[t6,Nat.mul_comm];exact hz),rfl,q _ I.fresh⟩
end
section
variable {prog:Program} {w:World} {A:Around} {E:Value->Shared->Prop} {s:Shared}
end
section
variable {X:Cx}
end
end L2
namespace L2
open PySem PySem.Spec PyProof.Rows
section
variable {κ:Type} [DecidableEq κ]
noncomputable def fP (kvs:List (κ×V)) (k:κ):Option V:=(kvs.find? fun kv=>decide (kv.1=k)).map (·.2)
noncomputable def t7 (kvs:List (κ×V)) (k:κ) (v:V):List (κ×V):=
 if (kvs.any fun kv=>decide (kv.1=k))=true then kvs.map (fun kv=>if kv.1=k then (kv.1,v)else kv)else kvs++[(k,v)]
theorem ma {p:κ×V} {r:List (κ×V)} {k:κ} (e:p.1=k):fP (p::r) k=some p.2:=by simp[fP,List.find?_cons,e]
theorem md {p:κ×V} {r:List (κ×V)} {k:κ} (e:¬p.1=k):fP (p::r) k=fP r k:=by simp[fP,List.find?_cons,e]
theorem fO.isSome_eq {o:Option V} {u:Option Value} (r:fO o u):o.isSome=u.isSome:=by
 cases o with
 |none=>cases u with
  |none=>rfl
  |some _=>exact(show False from r).elim
 |some _=>cases u with
  |none=>exact(show False from r).elim
  |some _=>rfl
theorem fO.getD {o:Option V} {u:Option Value} {d:V} {d':Value} (r:fO o u) (rd:bg d d'):bg (o.getD d) (u.getD d'):=by
 cases o with
 |none=>cases u with
  |none=>exact rd
  |some _=>exact(show False from r).elim
 |some _=>cases u with
  |none=>exact(show False from r).elim
  |some _=>exact r
theorem KV.val {kvs:List (κ×V)} {vs:List (κ×Value)} (r:KV kvs vs) (k:κ):fO (fP kvs k) (valueAt vs k):=by
 unfold KV at r
 induction r with
 |nil=>exact True.intro
 | @cons p q ps qs h t ih=>
  obtain⟨h1,h2⟩:=h
  by_cases e:p.1=k
  ·have e':q.1=k:=h1.symm.trans e
   have b:valueAt (q::qs) k=some q.2:=by simp[valueAt,List.find?_cons,e']
   rw[ma e,b];exact h2
  ·have e':¬q.1=k:=fun z=>e (h1.trans z)
   have b:valueAt (q::qs) k=valueAt qs k:=by simp[valueAt,List.find?_cons,e']
   rw[md e,b];exact ih
theorem KV.any {kvs:List (κ×V)} {vs:List (κ×Value)} (r:KV kvs vs) (k:κ):(kvs.any fun kv=>decide (kv.1=k))=vs.any fun kv=>decide (kv.1=k):=by
 unfold KV at r
 induction r with
 |nil=>rfl
 |cons h t ih=>rw[List.any_cons,List.any_cons,ih,h.1]
theorem KV.length {kvs:List (κ×V)} {vs:List (κ×Value)} (r:KV kvs vs):kvs.length=vs.length:=Paired.length r
end
theorem oE {P:Program} {w:World} {k:cb} {u:Value} (r:bg (kV k) u):(cT P w).is k u=true:=by
 cases k with
 |inl i=>obtain⟨t,e⟩:=(show ∃t,u=Value.int i t from r);subst e;exact lW P w i t
 |inr x=>obtain⟨t,e⟩:=(show ∃t,u=Value.str x t from r);subst e;exact lX P w x t
theorem kD {P:Program} {w:World}:∀{ks:List cb} {us:List Value},aM (ks.map kV) us->ItemsAre (cT P w) ks us
 |[],_,r=>by rw[List.map_nil]at r;cases r;exact .nil
 |k::ks,_,r=>by
  rw[List.map_cons]at r
  cases r with
  |cons h t=>exact .cons (oE h) (kD t)
noncomputable abbrev KT (H:Hp):List (List cb×V)->List (List cb×Addr×Value)->Prop:=Paired fun p q=>p.1=q.1/\H q.2.1=some (.tup (p.1.map kV))/\bg p.2 q.2.2
theorem KT.val {H:Hp} {kvs:List (List cb×V)} {xs:List (List cb×Addr×Value)} (r:KT H kvs xs) (k:List cb):fO (fP kvs k) ((atKey xs k).map (·.2)):=by
 induction r with
 |nil=>exact True.intro
 | @cons p q ps qs h t ih=>
  obtain⟨h1,_,h2⟩:=h
  by_cases e:p.1=k
  ·have e':q.1=k:=h1.symm.trans e
   have b:atKey (q::qs) k=some q.2:=by simp[atKey,List.find?_cons,e']
   rw[ma e,b];exact h2
  ·have e':¬q.1=k:=fun z=>e (h1.trans z)
   have b:atKey (q::qs) k=atKey qs k:=by simp[atKey,List.find?_cons,e']
   rw[md e,b];exact ih
section
variable {P:Program} {w:World} {H:Hp} {h:Heap} {a:Addr}
theorem ux {u:HO} (ok:gM P w H h) (e:Rd H a u):bO P w H h a u:=e.ok ok
theorem mh {kvs:List (cb×V)} (ok:gM P w H h) (e:Rd H a (.dK kvs)):kvs.length<=sizeLine/\(a==sysModules)=false/\∃vs,KV kvs vs/\h.DictOf (cT P w) a vs:=
 show bO P w H h a (.dK kvs)from ux ok e
theorem lv {ks:List cb} (ok:gM P w H h) (e:H a=some (.tup (ks.map kV))):(tupleKind (cT P w)).is h ks a:=by
 obtain⟨_,its,r,o,h1,h2,n,h3,_⟩:=(show bO P w H h a (.tup (ks.map kV))from ok a _ e)
 exact⟨o,its.toArray,n,h1,h2,h3,by simpa using kD r⟩
theorem oF {kvs:List (List cb×V)} (ok:gM P w H h) (e:Rd H a (.dT kvs)):kvs.length<=sizeLine/\(a==sysModules)=false/\
  ∃xs,KT H kvs xs/\h.DictOfH (tupleKind (cT P w)) a xs:=by
 obtain⟨z,y,xs,r,o,es,ep,h1,h2,h3,h4,h5⟩:=(show bO P w H h a (.dT kvs)from ux ok e)
 refine⟨z,y,xs,r,o,es,ep,h1,h2,h3,h4,fun x hx=> ?_,h5⟩
 have all:∀{l:List (List cb×V)} {m:List (List cb×Addr×Value)},KT H l m->∀x∈m,(tupleKind (cT P w)).is h x.1 x.2.1:=by
  intro l m q
  induction q with
  |nil=>intro x hx;exact nomatch hx
  | @cons p q ps qs hq t ih=>
   intro x hx
   rcases List.mem_cons.mp hx with e|hx
   ·subst e
    exact lv ok (by rw[<-hq.1];exact hq.2.1)
   ·exact ih x hx
 exact all r x hx
end
noncomputable def ia (H:Hp) (a:Addr) (y:V) (r:Option V):Prop:=
 (∃kvs k,Rd H a (.dK kvs)/\y=kV k/\r=fP kvs k)\/∃kvs k b,Rd H a (.dT kvs)/\y= .ref b/\H b=some (.tup (k.map kV))/\r=fP kvs k
noncomputable def t8 (H:Hp) (a:Addr) (y v:V) (H':Hp):Prop:=
 (∃kvs k,H a=some (.dK kvs)/\y=kV k/\kvs.length<sizeLine/\H'=bn H a (.dK (t7 kvs k v)))\/
 ∃kvs k b,H a=some (.dT kvs)/\y= .ref b/\H b=some (.tup (k.map kV))/\kvs.length<sizeLine/\H'=bn H a (.dT (t7 kvs k v))
theorem ia.k {H:Hp} {a:Addr} {kvs:List (cb×V)} {k:cb} (e:H a=some (.dK kvs)):ia H a (kV k) (fP kvs k):= .inl ⟨kvs,k, .inl e,rfl,rfl⟩
theorem ia.t {H:Hp} {a b:Addr} {kvs:List (List cb×V)} {k:List cb} (e:H a=some (.dT kvs)) (eb:H b=some (.tup (k.map kV))):ia H a (.ref b) (fP kvs k):= .inr ⟨kvs,k,b, .inl e,rfl,eb,rfl⟩
theorem t8.k {H:Hp} {a:Addr} {kvs:List (cb×V)} {k:cb} {v:V} (e:H a=some (.dK kvs)) (hl:kvs.length<sizeLine):t8 H a (kV k) v (bn H a (.dK (t7 kvs k v))):= .inl ⟨kvs,k,e,rfl,hl,rfl⟩
theorem t8.t {H:Hp} {a b:Addr} {kvs:List (List cb×V)} {k:List cb} {v:V} (e:H a=some (.dT kvs)) (eb:H b=some (.tup (k.map kV))) (hl:kvs.length<sizeLine):
  t8 H a (.ref b) v (bn H a (.dT (t7 kvs k v))):= .inr ⟨kvs,k,b,e,rfl,eb,hl,rfl⟩
section
variable {X:Cx} {pins:List (Addr×Obj)} {σ:St} {H:Hp} {s:Shared} {a:Addr} {y v:V} {u r:Value} {o:Option V} {A:Around} {E:Value->Shared->Prop}
theorem pI {Q:Value->Shared->Prop} (hu:A.units+1<cLine) (I:au X pins σ H s) (g:ia H a y (some v)) (ry:bg y u) (h:∀w' s',au X pins σ H s'->bg v w'->Q w' s'):
  wpAny (model X.prog X.w) A (getItem (.ref a) u) Q E s:=by
 rcases g with ⟨kvs,k,e,ey,l⟩|⟨kvs,k,b,e,ey,eb,l⟩
 ·subst ey
  obtain⟨z,hd,vs,rel,dd⟩:=mh I.hok e
  obtain⟨w',hw,rw'⟩:=fO.some_of (v:=v) (o:=valueAt vs k) (by rw[l];exact rel.val k)
  exact wpAny_getItem_of (oE ry) dd.mapOf hw (h w' _ (I.tok _) rw')
 ·subst ey
  cases (show u=Value.ref b from ry)
  obtain⟨z,hd,xs,rel,dd⟩:=oF I.hok e
  obtain⟨w',hw,rw'⟩:=fO.some_of (v:=v) (o:=(atKey xs k).map (·.2)) (by rw[l];exact rel.val k)
  obtain⟨p,hp,hp2⟩:=Option.map_eq_some_iff.mp hw
  refine wpAny_getItem_heap (tupleKind_room_in1 hu) (lv I.hok eb) dd hp ?_
  rw[hp2]
  exact h w' _ (I.tok _) rw'
theorem ye {Q:Value->Shared->Prop} (hu:A.units+1<cLine) (I:au X pins σ H s) (g:ia H a y o) (ry:bg y u) (h:∀s',au X pins σ H s'->Q (.bool o.isSome) s'):
  wpAny (model X.prog X.w) A (compareOp .In u (.ref a)) Q E s:=by
 rcases g with ⟨kvs,k,e,ey,l⟩|⟨kvs,k,b,e,ey,eb,l⟩
 ·subst ey
  obtain⟨z,hd,vs,rel,dd⟩:=mh I.hok e
  refine wpAny_in_of (oE ry) hd dd.mapOf ?_
  rw[<-(rel.val k).isSome_eq,<-l]
  exact h _ (I.tok _)
 ·subst ey
  cases (show u=Value.ref b from ry)
  obtain⟨z,hd,xs,rel,dd⟩:=oF I.hok e
  refine wpAny_in_heap (tupleKind_room_in1 hu) (lv I.hok eb) hd dd ?_
  have q:=(rel.val k).isSome_eq
  rw[Option.isSome_map]at q
  rw[<-q,<-l]
  exact h _ (I.tok _)
theorem t9 {Q:Value->Shared->Prop} (hu:A.units+1<cLine) (I:au X pins σ H s) (g:ia H a y o) (ry:bg y u) (h:∀s',au X pins σ H s'->Q (.bool (!o.isSome)) s'):
  wpAny (model X.prog X.w) A (compareOp .NotIn u (.ref a)) Q E s:=by
 rcases g with ⟨kvs,k,e,ey,l⟩|⟨kvs,k,b,e,ey,eb,l⟩
 ·subst ey
  obtain⟨z,hd,vs,rel,dd⟩:=mh I.hok e
  refine wpAny_notIn_of (oE ry) hd dd.mapOf ?_
  rw[<-(rel.val k).isSome_eq,<-l]
  exact h _ (I.tok _)
 ·subst ey
  cases (show u=Value.ref b from ry)
  obtain⟨z,hd,xs,rel,dd⟩:=oF I.hok e
  refine wpAny_notIn_heap (tupleKind_room_in1 hu) (lv I.hok eb) hd dd ?_
  have q:=(rel.val k).isSome_eq
  rw[Option.isSome_map]at q
  rw[<-q,<-l]
  exact h _ (I.tok _)
end
section
variable {X:Cx} {pins:List (Addr×Obj)} {σ:St} {H:Hp} {s:Shared} {a:Addr} {kvs:List (cb×V)} {k:cb} {u:Value} {A:Around} {E:Value->Shared->Prop}
theorem wO {Q:Value->Shared->Prop} (I:au X pins σ H s) (e:Rd H a (.dK kvs)) (h:∀t s',au X pins σ H s'->Q (.int kvs.length t) s'):wpAny (model X.prog X.w) A (call (.builtin "len") [.ref a]) Q E s:=by
 obtain⟨z,hd,vs,rel,dd⟩:=mh I.hok e
 refine call_len_dict hd dd (by rw[<-rel.length];rw[sizeLine_eq]at z;omega) ?_
 rw[<-rel.length]
 exact h _ _ (I.tok _)
end
noncomputable def wQ (i:Expr):Prop:=∀ov iv,subscripted i false ov iv=operate [ov,iv] (getItem ov iv)
theorem tf {prog:Program} {w:World} {A:Around} {E:Value->Shared->Prop} {s:Shared} {env:Env} {value slice:Expr} {pos:Pos} {T id:String} {Q:Value->Shared->Prop}
  (hl:typeLookup (.type T) "__getitem__"=pure (some (.builtin id))) (hs:wQ slice)
  (h:wpAny (model prog w) A (eval value env) (fun o s₁=>wpAny (model prog w) A (eval slice env) (fun i s₂=>s₂.TypeIs o T/\wpAny (model prog w) A (getItem o i) Q E s₂) E s₁) E s):
  wpAny (model prog w) A (eval (.Subscript value slice pos) env) Q E s:=by
 refine Subscript_ (wpAny_mono h (fun o s₁ h₁=>wpAny_mono h₁ (fun i s₂ h₂=> ?_) fun _ _ x=>x) fun _ _ x=>x)
 obtain⟨hT,h₂⟩:=h₂
 unfold subscriptTail
 refine wpAny_bind ?_
 rw[getitemInPython_of_ne hT.not_modules]
 refine wpAny_bind (wpAny_specialOf hT hl ?_)
 have fin:wpAny (model prog w) A (subscripted slice false o i) (fun r s₃=>wpAny (model prog w) A (letTemporaryGo value o r>>=fun _=>pure r) Q E s₃) E s₂:=by
  rw[hs o i]
  exact wpAny_operating (wpAny_mono h₂ (fun r s₃ h₃=>wpAny_bind (wpAny_letTemporaryGo (wpAny_pure h₃))) fun _ _ x=>x)
 first
  |exact wpAny_pure (wpAny_bind fin)
  |exact wpAny_bind (wpAny_pure (wpAny_bind fin))
  |exact wpAny_bind fin
theorem mj {X:Cx} {pins:List (Addr×Obj)} {σ:St} {H:Hp} {s:Shared} {a:Addr} {y:V} {o:Option V} (I:au X pins σ H s) (g:ia H a y o):s.TypeIs (.ref a) "dict":=by
 rcases g with ⟨kvs,k,e,_,_⟩|⟨kvs,k,b,e,_,_,_⟩
 ·obtain⟨_,_,vs,_,dd⟩:=mh I.hok e
  exact dd.typeIs
 ·obtain⟨_,_,xs,_,dd⟩:=oF I.hok e
  exact dd.typeIs
noncomputable def wR (td ty:TE):TE:=fun σ H Q=>td σ H fun x H1=>ty σ H1 fun y H2=>∃a v,x= .ref a/\ia H2 a y (some v)/\Q v H2
noncomputable def wU (ty td:TE):TE:=fun σ H Q=>ty σ H fun y H1=>td σ H1 fun x H2=>∃a o,x= .ref a/\ia H2 a y o/\Q (.bl o.isSome) H2
noncomputable def lw (ty td:TE):TE:=fun σ H Q=>ty σ H fun y H1=>td σ H1 fun x H2=>∃a o,x= .ref a/\ia H2 a y o/\Q (.bl (!o.isSome)) H2
section
variable {X:Cx} {o i e value:Expr} {pos pos' tpos:Pos} {td ty tv:TE}
theorem ti (hu:X.A.units+1<cLine) (ho:PE X o td) (hi:PE X i ty) (hs:wQ i):PE X (.Subscript o i pos) (wR td ty):=by
 intro pins s σ H Q I h
 refine tf PySem.F.slot_dict_getitem.lookup hs (cg (ho pins s σ H _ I h) fun u s1 ⟨x,H1,I1,rx,q1⟩=>cg (hi pins s1 σ H1 _ I1 q1) fun iv s2 z_=> ?_)
 obtain⟨y,H2,I2,ry,a,v,ex,g,q2⟩:=z_
 subst ex
 obtain rfl:u=Value.ref a:=rx
 exact⟨mj I2 g,pI hu I2 g ry fun w' s3 I3 rw'=>⟨v,H2,I3,rw',q2⟩⟩
theorem vj (hu:X.A.units+1<cLine) (hi:PE X i ty) (ho:PE X o td):PC X .In i o (wU ty td):=by
 intro pins s σ H Q I h
 refine cg (hi pins s σ H _ I h) fun iv s1 ⟨y,H1,I1,ry,q1⟩=>cg (ho pins s1 σ H1 _ I1 q1) fun u s2 z_=> ?_
 obtain⟨x,H2,I2,rx,a,ov,ex,g,q2⟩:=z_
 subst ex
 obtain rfl:u=Value.ref a:=rx
 exact ye hu I2 g ry fun s3 I3=>⟨.bl ov.isSome,H2,I3,rfl,q2⟩
theorem kE (hu:X.A.units+1<cLine) (hi:PE X i ty) (ho:PE X o td):PC X .NotIn i o (lw ty td):=by
 intro pins s σ H Q I h
 refine cg (hi pins s σ H _ I h) fun iv s1 ⟨y,H1,I1,ry,q1⟩=>cg (ho pins s1 σ H1 _ I1 q1) fun u s2 z_=> ?_
 obtain⟨x,H2,I2,rx,a,ov,ex,g,q2⟩:=z_
 subst ex
 obtain rfl:u=Value.ref a:=rx
 exact t9 hu I2 g ry fun s3 I3=>⟨.bl (!ov.isSome),H2,I3,rfl,q2⟩
end
section
variable {X:Cx} {pos:Pos}
end
section
variable {X:Cx} {pins:List (Addr×Obj)} {σ:St} {H:Hp} {s:Shared} {a:Addr} {y d:V} {u r:Value} {o:Option V} {A:Around} {E:Value->Shared->Prop}
end
section
variable {X:Cx} {o e f:Expr} {apos cpos:Pos} {td ty tx:TE}
end
section
variable {X:Cx} {pins:List (Addr×Obj)} {σ:St} {H:Hp} {s:Shared} {a:Addr} {kvs:List (cb×V)} {A:Around} {E:Value->Shared->Prop}
end
section
variable {X:Cx} {pins:List (Addr×Obj)} {σ:St} {H:Hp} {s:Shared} {a:Addr} {y:V} {u:Value} {A:Around} {E:Value->Shared->Prop}
end
end L2
namespace Att
open PySem PySem.W PySem.Calls PyProof.Rows
theorem ja {P:Params} {h:Heap}:∀(ns:List Int) (vs:List Value),WellAll P h vs (ns.map WData.int)->IntsAre vs ns:=by
 intro ns
 induction ns with
 |nil=>
  intro vs w
  rw[List.map_nil]at w
  cases w
  exact .nil
 |cons n ns ih=>
  intro vs w
  rw[List.map_cons]at w
  cases w with
  |cons a b=>
   cases a
   exact .cons _ _ (ih _ b)
theorem pJ {l:OpenLaw} {n:Nat} (hn:l.most=some n) {P:Params} {h:Heap} {args:List WData} {vals:List Value}
  (hpre:l.row.toRowW.claim.pre args=true) (hwl:WellAll P h vals args):
  ∃a vs ns,vals=[Value.ref a]/\args=[WData.list (ns.map WData.int)]/\h.get? a=some {cls:= .type "list",data:= .seq vs.toArray}/\IntsAre vs ns/\ns.length<=n:=by
 have hsh:WShape.hasAll [] args [.list .int]=true:=(pre_splitW hpre).1
 have hc:l.pre.holds [] {args:=args}=true:=(pre_splitW hpre).2
 obtain⟨d,r,rfl,h1,h2⟩:=hasAllW_cons hsh
 obtain rfl:=hasAllW_nil h2
 obtain⟨xs,rfl,h3⟩:=hasW_list h1
 obtain⟨ns,rfl⟩:=items_int h3
 have hlen:ns.length<=n:=by
  unfold OpenLaw.pre at hc
  have h4:(WTm.not (.lt (.lit (.int (n:Int))) (.len (.arg 0)))).holds [] {args:=[.list (ns.map .int)]}=true:=by
   have h4:=(holds_andW hc).1
   rw[hn]at h4
   exact h4
  have h5:=condW_of h4 (w_not (w_lt w_lit (w_len_list (w_arg rfl))))
  rw[List.length_map]at h5
  refine Nat.le_of_not_lt fun q=> ?_
  have q':(n:Int)<((ns.length:Nat):Int):=by omega
  first
   |(rw[decide_eq_true q']at h5;exact absurd h5 (by decide))
   |(simp at h5;omega)
 cases hwl with
 |cons w1 w2=>
  cases w2
  cases w1 with
  |list ho hall=>exact⟨_,_,ns,rfl,rfl,ho,ja ns _ hall,hlen⟩
theorem pK (l:OpenLaw) (args:List WData):l.row.toRowW.claim.post args (.bool true) args=true:=
 postW_of (r:=l.row.toRowW) (X:=(true==true))
  (show WShape.has [] (.bool true) .bool=true by first|rfl|decide|simp[WShape.has,WShape.arms,WShape.armsAll])
  (show (WTm.eq .res (.lit (.bool true))).value [] {args:=args,res:=some (.bool true),after:=args}=some (.bool (true==true))from w_eq_bool (w_res rfl) w_lit) rfl
theorem attach_call {l:OpenLaw} {n:Nat} {q:Program} {loose:List Str} {XP:(Str->Option Value)->Heap->Prop} {YP:World->Heap->Prop} {d:DefRec}
  (hn:l.most=some n) (hdf:d.params.defaults=[])
  (call:∀(w:World) (s₀ s₁:Shared) (mg mb:Str->Option Value) (fa:Addr) (o:Obj) (pm cd doc:Value) (a:Addr) (vs:List Value) (ns:List Int),
   Ground q loose [] XP w s₀ mg mb s₁.heap->YP w s₁.heap->
   s₁.heap.get? fa=some o->o.data= .func (docDef d.name d.params d.body d.scope pm cd doc)->s₁.heap.CodeRec cd d.name->mg d.name=some (.ref fa)->
   s₁.heap.get? a=some {cls:= .type "list",data:= .seq vs.toArray}->IntsAre vs ns->ns.length<=n->s₁.gens= #[]->
   codeAny (model l.prog w) callerA (.call (.ref fa) ⟨[.ref a],[]⟩) (fun r s'=>r= .ok (.ret (.bool true))/\OldK s₁.heap s'.heap/\s'.os=s₁.os/\AllBare s'.gens) s₁):
  WalkO q loose XP YP l.row.toRowW d [] (fun f vs=>PySem.call f vs):=by
 intro w s₀ s₁ mg mb G Y fa o pm cd doc dV kV ho hd hcd hD hmg hg args vals as hpre hlay hrd hwl hlo
 obtain rfl:dV= .none:=Dflts.none hD hdf
 obtain rfl:kV= .none:=Dflts.noKw hD
 obtain⟨a,vs,ns,rfl,rfl,hobj,hints,hlen⟩:=pJ hn hpre hwl
 refine enter_call (codeAny_mono (call w s₀ s₁ mg mb fa o pm cd doc a vs ns G Y ho (fd_plain hd) hcd hmg hobj hints hlen hg) fun r s' hq=> ?_)
 obtain⟨rfl,h2,h3,h4⟩:=hq
 exact⟨.inl ⟨.bool true, .bool true,[],rfl,fun _=>rfl, .bool true,pK l _,fun _=>⟨List.Pairwise.nil,fun _ hm=>(nomatch hm)⟩⟩,h2,h3,h4⟩
section
variable {prog:Program} {w:World} {A:Around} {E:Value->Shared->Prop} {s:Shared} {K:Frag}
end
end Att
namespace L2
open PySem PySem.Spec PyProof.Rows
theorem kF:∀{vs:List Value} {ns:List Int},IntsAre vs ns->aM (ns.map V.int) vs
 |_,_, .nil=> .nil
 |_,_, .cons n t h=> .cons ⟨t,rfl⟩ (kF h)
noncomputable def vk (H:Hp):Prop:=∀b,H b=none\/∃o xs,H b=some (.frz o (.lst xs))
theorem qK {P:Program} {w:World} {K:PySem.W.Frag} {mg mb:Str->Option Value} {CX:oq} {k:Nat} {fa a:Addr} {fd:FuncData} {x:Str} {sp:Sp} {s₁:Shared} {vs:List Value} {ns:List Int}
  (KX:K.In s₁.heap) (hns:s₁.heap.Ns mainGlobals mg) (hb:s₁.heap.Ns builtinsNs mb) (hbb:∀x:Str,x≠"__name__"->mb x=bootBuiltins x) (hlim:s₁.heap.NoLimit) (hg:s₁.gens= #[])
  (ha:s₁.heap.get? a=some {cls:= .type "list",data:= .seq vs.toArray}) (hi:IntsAre vs ns) (hl:ns.length<=sizeLine) (hr:bL k callerA)
  (F:∀base:Heap,K.In base->base.Ns mainGlobals mg->dc P w K mg base CX k fa fd [x] sp) (hbind:∀(s:Shared) (u:Value),BindsTo s fd ⟨[u],[]⟩ [(x,u)])
  (hsp:∀H:Hp,vk H->dr K H a (ns.map V.int)->sp [.ref a] H (fun v _=>v= .bl true) fun _ _ _=>False)
  (hCX:∀H e s',CX [] H s₁ (fun _ _ _=>False) e s'->False):
  codeAny (model P w) callerA (.call (.ref fa) ⟨[.ref a],[]⟩) (fun r s'=>r= .ok (.ret (.bool true))/\OldK s₁.heap s'.heap/\s'.os=s₁.os/\AllBare s'.gens) s₁:=by
 have rv:=kF hi
 have lenV:=hi.length
 have core:∀H:Hp,vk H->dr K H a (ns.map V.int)->gM P w H s₁.heap->(∀b,H b≠none->b=a)->(H a≠none->K.lookup a=none)->
   codeAny (model P w) callerA (.call (.ref fa) ⟨[.ref a],[]⟩) (fun r s'=>r= .ok (.ret (.bool true))/\OldK s₁.heap s'.heap/\s'.os=s₁.os/\AllBare s'.gens) s₁:=by
  intro H hO hS hok hA hK
  have base_of:∀{b:Addr} {o:Obj},s₁.heap.get? b=some o->H b=none->(li s₁.heap H).get? b=some o:=fun e n=>qt e n
  have noA:∀{b:Addr} {o:Obj} {es:Array DictEntry} {ep:Nat},s₁.heap.get? b=some o->o.data= .dict es ep->H b=none:=fun {b o es ep} e d=>by
   cases q:H b with
   |none=>rfl
   |some u=>
    have e':b=a:=hA b (by rw[q];simp)
    subst e'
    rw[ha]at e;cases e
    have d':Data.seq vs.toArray _=Data.dict es ep:=d
    cases d'
  have nsK:∀{b:Addr} {m:Str->Option Value},s₁.heap.Ns b m->(li s₁.heap H).Ns b m:=fun {b m} ⟨o,es,ep,e,d,r⟩=>⟨o,es,ep,base_of e (noA e d),d,r⟩
  have hKb:K.In (li s₁.heap H):=fun b o e=>base_of (KX b o e) (by
   cases q:H b with
   |none=>rfl
   |some u=>
    have e':b=a:=hA b (by rw[q];simp)
    subst e'
    rw[hK (by rw[q];simp)]at e;cases e)
  have hM:Mod K mg (li s₁.heap H):=⟨hKb,nsK hns,⟨mb,nsK hb,hbb⟩,let ⟨mc,h1,h2⟩:=hlim;⟨mc,nsK h1,h2⟩⟩
  have e0:nB P w K mg (li s₁.heap H) callerA [] s₁ H:=⟨rfl,hM,fun b o e=>sG e,Nat.le_of_eq (pi _ _),trivial,fun b hb=>absurd (show b∈([]:List Addr)from hb) (by simp),hok, .of_eq hg⟩
  refine codeAny_mono ((F _ hKb (nsK hns)).run callerA [] s₁ H ⟨[.ref a],[]⟩ [.ref a] [.ref a] _ _ hr e0 (hbind s₁ (.ref a)) (.cons rfl .nil) (hsp H hO hS)) fun r s' h=> ?_
  cases r with
  |error e=>exact(hCX H e s' h).elim
  |ok fl=>
   cases fl with
   |next=>exact False.elim h
   |brk=>exact False.elim h
   |cont=>exact False.elim h
   |ret u=>
    obtain⟨v,H',os,bare,un,hok',r',q⟩:=h
    have q':v= .bl true:=q
    subst q'
    obtain rfl:u=Value.bool true:=r'
    refine⟨rfl,OldK.of_keep fun b o e=> ?_,os,bare⟩
    cases q:H b with
    |none=>exact un.keep b o e q (by intro z;exact absurd (show b∈([]:List Addr)from z) (by simp)) (by simp)
    |some u=>
     rcases hO b with z|⟨ob,xs,z⟩
     ·rw[q]at z;cases z
     ·have z2:=un.frzs b ob _ z
      obtain⟨e1,_⟩:=hok b _ z
      obtain⟨e2,_⟩:=hok' b _ z2
      rw[e]at e1;cases e1
      exact e2
 cases hk:K.lookup a with
 |some o=>
  have e:=KX a o hk
  rw[ha]at e
  cases e
  refine core (fun _=>none) (fun _=> .inl rfl) (.inr ⟨_,vs.toArray,_,hk,rfl,rfl,rfl,by rw[List.size_toArray,lenV];exact hl,by simpa using rv⟩) (fun b u z=>by have z':(none:Option HO)=some u:=z;cases z') (fun b z=>absurd rfl z) fun z=>absurd rfl z
 |none=>
  refine core (fun b=>if b=a then some (.frz {cls:= .type "list",data:= .seq vs.toArray} (.lst (ns.map V.int)))else none) (fun b=> ?_) (.inl (.inr ⟨{cls:= .type "list",data:= .seq vs.toArray},if_pos rfl⟩)) (fun b u z=> ?_) (fun b z=> ?_) fun _=>hk
  ·by_cases hb:b=a
   ·exact .inr ⟨_,_,if_pos hb⟩
   ·exact .inl (if_neg hb)
  ·by_cases hb:b=a
   ·have z':=(if_pos hb).symm.trans z
    cases z'
    subst hb
    exact⟨ha,by rw[List.length_map];exact hl,vs,_,rv,ha⟩
   ·have z':=(if_neg hb).symm.trans z
    cases z'
  ·by_cases hb:b=a
   ·exact hb
   ·exact absurd (if_neg hb) z
end L2
namespace L2
open PySem PySem.Spec PyProof.Rows
theorem tj {l:PySem.W.OpenLaw} {n k:Nat} {q:Program} {loose:List Str} {XP:(Str->Option Value)->Heap->Prop} {YP:World->Heap->Prop} {d:DefRec} {K:Params->PySem.W.Frag} {CX:World->oq} {sp:World->Sp} {x:Str}
  (hn:l.most=some n) (hn2:n<=sizeLine) (hdf:d.params.defaults=[]) (hr:bL k callerA)
  (hY:∀(w:World) (h:Heap),YP w h->(K w.params).In h)
  (F:∀(w:World) (mg:Str->Option Value) (fa:Addr) (h:Heap),(K w.params).In h->h.Ns mainGlobals mg->mg d.name=some (.ref fa)->
   ∃fd:FuncData,(∀(s:Shared) (u:Value),BindsTo s fd ⟨[u],[]⟩ [(x,u)])/\
    ∀base:Heap,(K w.params).In base->base.Ns mainGlobals mg->dc l.prog w (K w.params) mg base (CX w) k fa fd [x] (sp w))
  (hsp:∀(w:World) (H:Hp) (a:Addr) (ns:List Int),ns.length<=n->vk H->dr (K w.params) H a (ns.map V.int)->sp w [.ref a] H (fun v _=>v= .bl true) fun _ _ _=>False)
  (hCX:∀(w:World) (H:Hp) (s:Shared) (e:Value) (s':Shared),CX w [] H s (fun _ _ _=>False) e s'->False):
  PySem.W.WalkO q loose XP YP l.row.toRowW d [] (fun f vs=>PySem.call f vs):=by
 refine Att.attach_call hn hdf fun w s₀ s₁ mg mb fa o pm cd doc a vs ns G Y ho hd hcd hmg hobj hints hlen hg=> ?_
 have KX:=hY w _ Y
 obtain⟨fd,hb,hF⟩:=F w mg fa _ KX G.T.g hmg
 exact qK KX G.T.g G.T.b G.T.builtins G.T.nolimit hg hobj hints (Nat.le_trans hlen hn2) hr hF hb (fun H hO hS=>hsp w H a ns hlen hO hS) fun H e s'=>hCX w H s₁ e s'
end L2
namespace L2
open PySem PySem.Spec PyProof.Rows
noncomputable def eF (s:Stmt) (j:Nat):Stmt:=match s with
 | .ClassDef _ _ _ body _ _ _ _ _ _ _=>body.getD j (.Pass ⟨0,0,0,0⟩)
 |_=> .Pass ⟨0,0,0,0⟩
noncomputable def b0 (s:Stmt):Arguments:=match s with
 | .FunctionDef _ a _ _ _ _ _ _ _ _=>a
 |_=>{posonlyargs:=[],args:=[],vararg:=none,kwonlyargs:=[],kw_defaults:=[],kwarg:=none,defaults:=[]}
noncomputable def aH (s:Stmt):List Stmt:=match s with
 | .FunctionDef _ _ b _ _ _ _ _ _ _=>b
 |_=>[]
noncomputable def ag (s:Stmt):Scope:=match s with
 | .FunctionDef _ _ _ _ _ _ sc _ _ _=>sc
 |_=>{kind:= .function,names:=[],isGenerator:=false,isCoroutine:=false}
noncomputable abbrev yB:oq:=fun _ _ _ _ _ _=>False
structure oG (K:PySem.W.Frag) (x qual:Str) (st:Stmt) (f:Addr) (fd:FuncData):Prop where
 ex:∃(oc:Value) (od:Option Addr) (kV doc pm:Value) (an:Option Addr) (cdv ct:Value) (osl:Array (Option Value)),
  fd=PySem.W.fnOf x qual (b0 st) (aH st) (ag st) .none kV doc pm an cdv ct/\K.lookup f=some ⟨oc,od, .func fd,osl⟩/\PySem.W.codeIn K cdv qual=true
 kp:PySem.W.keepIn K (.ref f)=true
section
variable {P:Program} {w:World} {K:PySem.W.Frag} {mg:Str->Option Value} {base:Heap}
theorem oG.ok {x qual:Str} {st:Stmt} {f:Addr} {fd:FuncData} {N ps:List Str} {k:Nat} {sp:Sp} (F:oG K x qual st f fd) (S:aK N ps (ag st)) (len:∀vs H Q E,sp vs H Q E->vs.length=ps.length)
  (hbody:∀(cdv:Value) (A:Around) (outer:List Env) (s:Shared) (H:Hp) (vs:List V) (Q:VK) (E:XK),bL k (A.deeper (envOfC qual (ag st) s.heap.objs.size f cdv))->sp vs H Q E->
   ∃t,kt (eD yB P w K mg base N qual (ag st) f cdv A outer s H E).nox (aH st) t/\t {nx:=fun _ H'=>Q .non H',rt:=Q} (cE N vs) H):dc P w K mg base yB (k+1) f fd ps sp:=by
 obtain⟨oc,od,kV,doc,pm,an,cdv,ct,osl,rfl,lk,hcd⟩:=F.ex
 refine uu lk hcd S len fun A outer s H vs Q E hr hsp=> ?_
 obtain⟨t,h,q⟩:=hbody cdv A outer s H vs Q E hr hsp
 exact⟨t,h.nox,q⟩
theorem oG.binds {x qual:Str} {st:Stmt} {f:Addr} {fd:FuncData} {ps:List Str} (F:oG K x qual st f fd)
  (h:∀(kV doc pm:Value) (an:Option Addr) (cdv ct:Value) (us:List Value),us.length=ps.length->bindArgs (PySem.W.fnOf x qual (b0 st) (aH st) (ag st) .none kV doc pm an cdv ct) ⟨us,[]⟩=pure (ps.zip us)):cU K fd ps []:=by
 obtain⟨oc,od,kV,doc,pm,an,cdv,ct,osl,rfl,lk,hcd⟩:=F.ex
 exact .all (h kV doc pm an cdv ct)
theorem cm {x qual:Str} {st:Stmt} {f:Addr} {oc:Value} {od an:Option Addr} {osl:Array (Option Value)} {kV doc pm cdv ct:Value} (l:K.lookup f=some ⟨oc,od, .func (PySem.W.fnOf x qual (b0 st) (aH st) (ag st) .none kV doc pm an cdv ct),osl⟩)
  (c:PySem.W.codeIn K cdv qual=true) (k:PySem.W.keepIn K (.ref f)=true):oG K x qual st f (PySem.W.fnOf x qual (b0 st) (aH st) (ag st) .none kV doc pm an cdv ct):=⟨⟨oc,od,kV,doc,pm,an,cdv,ct,osl,rfl,l,c⟩,k⟩
end
theorem dz {A:Around} {k:Nat} (hr:bL k A):A.units+1<cLine:=Nat.lt_of_le_of_lt (Nat.add_le_add_left (by decide:1<=64) _) hr.units
section
variable {X:Cx}
theorem pv (i:Nat) {x:Str} {pos:Pos} (hN:X.N[i]? =some x:=by rfl) (hv:kh X.env.scope x:=by first|exact Or.inl rfl|exact Or.inr (Or.inl rfl)|exact Or.inr (Or.inr rfl)) (hd:(x==("__debug__":Str))=false:=by decide)
  (hcd:(x==("__classdict__":Str))=false:=by decide):PE X (.Name x pos) (qv i):=uQ hN hv hd hcd
end
noncomputable def aF (H H':Hp):Prop:=∀b o,H b=some o->H' b=some o
theorem aF.refl (H:Hp):aF H H:=fun _ _ h=>h
theorem aF.trans {H H1 H2:Hp} (a:aF H H1) (b:aF H1 H2):aF H H2:=fun c o h=>b c o (a c o h)
theorem aF.free {H H':Hp} (e:aF H H') {l:Addr} (h:H' l=Option.none):H l=Option.none:=by
 cases q:H l with
 |none=>rfl
 |some o=>
  rw[e l o q]at h
  cases h
theorem aF.seq {K:PySem.W.Frag} {H H':Hp} {a:Addr} {xs:List V} (e:aF H H') (h:dr K H a xs):dr K H' a xs:=by
 rcases h with (h|⟨o,h⟩)|h
 ·exact .inl (.inl (e _ _ h))
 ·exact .inl (.inr ⟨o,e _ _ h⟩)
 ·exact .inr h
section
variable {κ:Type} [DecidableEq κ]
end
end L2
namespace L2
open PySem PySem.Spec PyProof.Rows
noncomputable def iD (env:Env):List (Str×NameKind)->List (Str×Addr)->List (Str×Addr)
 |[],cs=>cs
 |(n,k)::r,cs=>iD env r (if k= .free then (match env.cells.lookup n with|some c=>(n,c)::cs|none=>cs)else cs)
theorem jA (env:Env):∀(names:List (Str×NameKind)) (cs:List (Str×Addr)),(∀y∈names,y.2= .free->∃c,env.cells.lookup y.1=some c)->
  (forIn names cs fun (x:Str×NameKind) (r:List (Str×Addr))=>(if (x.2==NameKind.free)=true then do
    let a<-cellOf env x.1
    pure (ForInStep.yield ((x.1,a)::r))else pure (ForInStep.yield r):Sem (ForInStep (List (Str×Addr)))))=pure (iD env names cs)
 |[],cs,_=>rfl
 |(n,k)::r,cs,h=>by
  rw[List.forIn_cons]
  by_cases hk:k= .free
  ·subst hk
   obtain⟨c,hc⟩:=h (n, .free) List.mem_cons_self rfl
   have e:cellOf env n=pure c:=by unfold cellOf;rw[hc]
   simp only[beq_self_eq_true,if_true,e]
   unfold iD
   simp only[if_true,hc]
   exact jA env r ((n,c)::cs) fun y hy=>h y (List.mem_cons_of_mem _ hy)
  ·have hb:(k==NameKind.free)=false:=by simpa using hk
   simp only[hb,Bool.false_eq_true,if_false]
   unfold iD
   rw[if_neg hk]
   exact jA env r cs fun y hy=>h y (List.mem_cons_of_mem _ hy)
theorem oH {scope:Scope} {env:Env} (h:∀y∈scope.names,y.2= .free->∃c,env.cells.lookup y.1=some c):closureFor scope env=pure (iD env scope.names []):=by
 have:=jA env scope.names [] h
 unfold closureFor
 simp only[bind_pure]
 exact this
theorem dA {env:Env} {x:Str} {c:Addr}:∀{names:List (Str×NameKind)} {cs:List (Str×Addr)},(∀c,cs.lookup x=some c->env.cells.lookup x=some c)->(iD env names cs).lookup x=some c->env.cells.lookup x=some c
 |[],cs,h,e=>h c e
 |(n,k)::r,cs,h,e=>by
  unfold iD at e
  refine dA (names:=r) (fun d hd=> ?_) e
  split at hd
  ·split at hd
   ·rename_i c' hc
    rw[List.lookup_cons]at hd
    cases hx:x==n with
    |true=>rw[hx]at hd;have:=eq_of_beq hx;subst this;rw[hc];exact hd
    |false=>rw[hx]at hd;exact h d hd
   ·exact h d hd
  ·exact h d hd
theorem kG {env:Env} {x:Str}:∀{names:List (Str×NameKind)} {cs:List (Str×Addr)},(∃c,cs.lookup x=some c)->∃c,(iD env names cs).lookup x=some c
 |[],cs,h=>h
 |(n,k)::r,cs,h=>by
  unfold iD
  refine kG (names:=r) ?_
  split
  ·split
   ·rename_i c' hc
    rw[List.lookup_cons]
    cases x==n with
    |true=>exact⟨_,rfl⟩
    |false=>exact h
   ·exact h
  ·exact h
theorem jB {env:Env} {x:Str}:∀{names:List (Str×NameKind)} {cs:List (Str×Addr)},(x,NameKind.free)∈names->(∃c,env.cells.lookup x=some c)->∃c,(iD env names cs).lookup x=some c
 |(n,k)::r,cs,h,hc=>by
  unfold iD
  rcases List.mem_cons.mp h with h|h
  ·cases h
   obtain⟨c,hc⟩:=hc
   refine kG (names:=r) ?_
   rw[if_pos rfl,hc]
   exact⟨c,by simp⟩
  ·exact jB h hc
noncomputable def jC (N:List Str) (names:List (Str×NameKind)) (σ:St):St:=
 names.map fun x=>if x.2= .free then ((N.findIdx? (·==x.1)).bind fun i=>(σ[i]?).join)else none
noncomputable def bV (X:Cx) (scope:Scope) (s:Shared) (H:Hp) (ex:List Addr):Cx:=
 {X with N:=scope.names.map (·.1),s₀:=s,H₀:=H,env:=compEnvC scope (iD X.env scope.names []) s.heap.objs.size X.env,outer:=X.stack,ex:=ex,fn:=fun _=>false,pn:=[],xe:=fun _ _=>False}
structure ba (X:Cx) (scope:Scope):Prop where
 kind:scope.kind= .function
 nocell:∀y∈scope.names,y.2≠ .cell
 loc:∀y∈scope.names,y.2= .local->scope.names.lookup y.1=some .local
 free:∀y∈scope.names,y.2= .free->X.env.kindOf y.1=some .cell\/X.env.kindOf y.1=some .free
 nd:(scope.names.map (·.1)).Nodup
theorem cV {env:Env} {x:Str}:∀{names:List (Str×NameKind)} {k:NameKind},
  (names.map fun (n,k)=>if (k==NameKind.free&&env.scope.kind== .function&&env.kindOf n==some .cell)then (n,NameKind.cell)else (n,k)).lookup x=some k->
  names.lookup x=some k\/(names.lookup x=some .free/\k= .cell)
 |[],k,h=>by simp at h
 |(n,j)::r,k,h=>by
  have ih:= @cV env x r k
  rw[List.map_cons,List.lookup_cons]at h
  rw[List.lookup_cons]
  by_cases hc:(j==NameKind.free&&env.scope.kind== .function&&env.kindOf n==some .cell)=true
  ·rw[if_pos hc]at h
   have hj:j= .free:=by
    simp only[Bool.and_eq_true]at hc
    exact eq_of_beq hc.1.1
   cases hx:x==n with
   |true=>rw[hx]at h;simp at h;exact .inr ⟨by rw[hj],h.symm⟩
   |false=>rw[hx]at h;exact ih h
  ·rw[if_neg hc]at h
   cases hx:x==n with
   |true=>rw[hx]at h;exact .inl h
   |false=>rw[hx]at h;exact ih h
theorem dB {α β:Type} [BEq α] [LawfulBEq α] {x:α} {b:β}:∀{l:List (α×β)},l.lookup x=some b->(x,b)∈l
 |[],h=>by simp at h
 |(a,c)::r,h=>by
  rw[List.lookup_cons]at h
  cases hx:x==a with
  |true=>rw[hx]at h;have:=eq_of_beq hx;subst this;cases h;exact List.mem_cons_self
  |false=>rw[hx]at h;exact List.mem_cons_of_mem _ (dB h)
section
variable {X:Cx} {pins:List (Addr×Obj)} {σ:St} {H:Hp} {s:Shared} {scope:Scope}
theorem ba.cellOf (S:ba X scope) (ok:X.Ok):∀y∈scope.names,y.2= .free->∃c,X.env.cells.lookup y.1=some c:=fun y hy hf=>ok.has y.1 (S.free y hy hf)
theorem oI (S:ba X scope) (I:au X pins σ H s) {fp:List Addr} (hfp:∀b∈fp,hX X pins H b/\b<s.heap.objs.size):(bV X scope s H fp).Ok where
 mod:=I.mod
 kind:=S.kind
 glob:=I.ok.glob
 blt:=I.ok.blt
 above:=Nat.le_refl _
 inj:=fun x y c hx hy=>I.ok.inj x y c (dA (by intro c h;simp at h) hx) (dA (by intro c h;simp at h) hy)
 has:=fun x hx=>by
  have hm:(x,NameKind.free)∈scope.names:=by
   rcases hx with hx|hx
   ·rcases cV hx with h|⟨h,_⟩
    ·exact absurd rfl (S.nocell _ (dB h))
    ·exact dB h
   ·rcases cV hx with h|⟨h,_⟩<;>exact dB h
  exact jB hm (S.cellOf I.ok _ hm rfl)
 cab:=fun x c h=>by cases h
 hd:=I.ok.hd
 frames:=I.ok.frames
 stk:= .inl rfl
 exf:=fun b hb=>⟨Nat.ne_of_lt (hfp b hb).2,fun x c hx=>(hfp b hb).1.2.2.2.2.1 x c (dA (by intro c h;simp at h) hx)⟩
 bs:=I.bs
 bsz:=Nat.le_trans I.ok.bsz I.sz
 noex:=fun b o e hb=>by
  rcases(hfp b hb).1.2.2.2.1 with h|h
  ·exact I.ok.noex b o e h
  ·have h1:b<X.base.objs.size:=Heap.lt_size e
   exact Nat.lt_irrefl _ (Nat.lt_of_lt_of_le h1 (Nat.le_trans I.ok.bsz h))
 exfs:=fun b hb hc=>by
  have:=I.stkSub b hc
  rcases List.mem_cons.mp this with h|h
  ·exact(hfp b hb).1.2.1 h
  ·exact(hfp b hb).1.2.2.1 h
 funs:=I.stack
 frf:=I.stkFree
theorem vm (S:ba X scope) (I:au X pins σ H s) {fp:List Addr} (hfp:∀b∈fp,hX X pins H b/\b<s.heap.objs.size) {h':Heap} {t':Nat}
  (hn:h'.Ns s.heap.objs.size fun _=>none) (k:∀b o,s.heap.get? b=some o->h'.get? b=some o):
  au (bV X scope s H fp) [] (jC X.N scope.names σ) H {s with heap:=h',toks:=t'}where
 ok:=oI S I hfp
 os:=rfl
 bare:=I.bare
 base:=Un.kept k
 loc:=by
  refine⟨_,hn,fun i x v hi hv _=> ?_⟩
  have hi':(scope.names.map (·.1))[i]? =some x:=hi
  rw[List.getElem?_map]at hi'
  unfold jC at hv
  rw[List.getElem?_map]at hv
  cases e:scope.names[i]? with
  |none=>rw[e]at hi';cases hi'
  |some y=>
   rw[e]at hi' hv
   have hx:y.1=x:=by simpa using hi'
   have hy:y∈scope.names:=List.mem_of_getElem? e
   simp only[Option.map_some,Option.some.injEq]at hv
   by_cases hf:y.2= .free
   ·rw[if_pos hf]at hv
    cases ei:X.N.findIdx? (·==y.1)with
    |none=>rw[ei]at hv;cases hv
    |some j=>
     rw[ei]at hv
     have hj:σ[j]? =some (some v):=by
      cases e2:σ[j]? with
      |none=>simp[e2]at hv
      |some o=>simp only[Option.bind_some,e2,Option.join_some]at hv;rw[hv]
     obtain⟨hl,hp,_⟩:=List.findIdx?_eq_some_iff_getElem.mp ei
     have hN:X.N[j]? =some x:=by
      rw[List.getElem?_eq_getElem hl]
      have:=eq_of_beq hp
      rw[this,hx]
     have hk:=S.free y hy hf
     rw[hx]at hk
     obtain⟨m,_,hm⟩:=I.loc
     obtain⟨u,ru,lu⟩:=hm j x v hN hj (by
      rcases hk with q|q
      ·exact .inr (.inl q)
      ·exact .inr (.inr q))
     refine⟨u,ru,?_⟩
     rcases lu with ⟨q,_⟩|⟨_,c,hc,hcell⟩
     ·rcases hk with z|z<;>rw[z]at q<;>cases q
     ·have hmem:(x,NameKind.free)∈scope.names:=by
       have:y=(x,NameKind.free):=by cases y;simp at hx hf;rw[hx,hf]
       rw[<-this];exact hy
      obtain⟨d,hd⟩:=jB (cs:=[]) hmem (S.cellOf I.ok _ hmem rfl)
      have hdc:d=c:=by
       have:=dA (cs:=[]) (by intro c h;simp at h) hd
       rw[this]at hc
       exact Option.some.inj hc
      refine .inr ⟨?_,d,hd,?_⟩
      ·show (relabel scope X.env).names.lookup x=some .cell\/(relabel scope X.env).names.lookup x=some .free
       have hlk:∃k,(relabel scope X.env).names.lookup x=some k:=by
        unfold relabel
        cases el:(scope.names.map fun (n,k)=>if (k==NameKind.free&&X.env.scope.kind== .function&&X.env.kindOf n==some .cell)then (n,NameKind.cell)else (n,k)).lookup x with
        |some k=>exact⟨k,rfl⟩
        |none=>
         exfalso
         rw[List.lookup_eq_none_iff]at el
         have:=el (if (NameKind.free==NameKind.free&&X.env.scope.kind== .function&&X.env.kindOf x==some .cell)then (x,NameKind.cell)else (x,NameKind.free)) (List.mem_map.mpr ⟨_,hmem,rfl⟩)
         split at this<;>simp at this
       obtain⟨k,hk2⟩:=hlk
       rcases cV hk2 with h|⟨_,h⟩
       ·have hm2:=dB h
        have:k= .free:=by
         have nd:=S.nd
         obtain⟨a,ha,e1⟩:=List.mem_iff_getElem.mp hmem
         obtain⟨b,hb,e2⟩:=List.mem_iff_getElem.mp hm2
         have:a=b:=by
          refine(List.getElem_inj (h₀:=by simpa using ha) (h₁:=by simpa using hb) nd).mp ?_
          rw[List.getElem_map,List.getElem_map,e1,e2]
         subst this
         rw[e1]at e2
         cases e2;rfl
        subst this
        exact .inr hk2
       ·subst h;exact .inl hk2
      ·rw[hdc];exact hcell.keeps k
   ·rw[if_neg hf]at hv;cases hv
 cell:=fun x c hx=>by
  obtain⟨v,hv⟩:=I.cell x c (dA (cs:=[]) (by intro c h;simp at h) hx)
  exact⟨v,hv.keeps k⟩
 free:=I.hok.fresh (Nat.le_refl _)
 freeC:=fun x c hx=>I.freeC x c (dA (cs:=[]) (by intro c h;simp at h) hx)
 pin:=fun p hp=>by cases hp
 hok:=I.hok.kept k
 len:=by simp[bV,jC]
theorem oJ (I:au X pins σ H s) {fp:List Addr} (hfp:∀b∈fp,hX X pins H b/\b<s.heap.objs.size) {τ:St} {H':Hp} {s':Shared} (I':au (bV X scope s H fp) [] τ H' s') {h':Heap} {t':Nat}
  (hs:∀b o,b≠s.heap.objs.size->s'.heap.get? b=some o->h'.get? b=some o):au X pins σ H' {s' with heap:=h',toks:=t'}:=by
 have u:Un (jg X.stack) fp H H' s.heap s'.heap:=I'.base
 have hC:H' s.heap.objs.size=none:=I'.free
 have nC:∀b o,s.heap.get? b=some o->b≠s.heap.objs.size:=fun b o e=>Nat.ne_of_lt (Heap.lt_size e)
 refine I.call' (ch:=fp) I'.os ⟨?_,?_,u.free,?_,u.tups,u.frzs,u.tbls⟩ (fun b o e=> ?_) I'.bare fun b hb=> ?_
 ·exact fun b o e n a c=>hs b o (nC b o e) (u.keep b o e n a c)
 ·intro b o e n a c
  obtain⟨sl,q⟩:=u.slot b o e n a c
  exact⟨sl,hs b _ (nC b o e) q⟩
 ·intro b o e a
  obtain⟨o',q⟩:=u.there b o e a
  exact⟨o',hs b _ (nC b o e) q⟩
 ·refine(I'.hok b o e).stay (fun c v hc q=>hs c v ?_ q) (fun _ q=>q) fun _ _ q=>q
  intro z
  subst z
  rcases hc with z|z
  ·rw[z]at hC;rw[hC]at e;cases e
  ·rw[hC]at z;cases z
 ·obtain⟨h1,h2,h3,h4,h5,h6⟩:=(hfp b hb).1
  exact⟨h4,h2,h5,h6⟩
end
noncomputable def uy (X:Cx) (ifs:List Expr) (t:TT):Prop:=
 ∀(pins:List (Addr×Obj)) (s:Shared) (σ:St) (H:Hp) (Q:Bool->Hp->Prop),au X pins σ H s->t σ H Q->
  wpAny (model X.prog X.w) X.A (forIn ifs true fun c r=>if r=true then do let ok<-isTrue c X.env (eval c X.env);pure (ForInStep.yield ok)else pure (ForInStep.yield r)) (TP X pins σ Q) X.xe s
theorem tm {X:Cx}:uy X [] (fun _ H Q=>Q true H):=fun _ _ _ H _ I h=>wpAny_tests_nil ⟨H,I,h⟩
theorem tq {X:Cx} {c:Expr} {t:TT} (h:PT X c t):uy X [c] t:=fun pins s σ H Q I q=>wpAny_tests_one (h pins s σ H Q I q)
noncomputable def jD (J:It) (g:TG) (tt:TT) (te:TE) (D:Addr) (τ0:St) (Q:Hp->Prop) (H1:Hp):Prop:=
 ∃W:Nat->Nat->List V->St->Hp->Prop,(∃m,W 0 m [] τ0 H1)/\∀i m ys τ H,W i m ys τ H->H D=some (.lst ys)/\
  ((J.stop i H/\Q H)\/(J.go i H/\ys.length<sizeLine/\∀x H',J.yld i H x H'->g x τ H' fun τ2 H2=>tt τ2 H2 fun b H3=>
   if b=true then te τ2 H3 fun y H4=>H4 D=some (.lst ys)/\∃m',m'<m/\W (i+1) m' (ys++[y]) τ2 (bn H4 D (.lst (ys++[y])))else ∃m',m'<m/\W (i+1) m' ys τ2 H3))
noncomputable def wV (N:List Str) (names:List (Str×NameKind)) (wi:TI) (g:TG) (tt:TT) (te:TE):TE:=fun σ H Q=>
 wi σ H fun J H1=>∀D,H1 D=none->jD J g tt te D (jC N names σ) (fun H2=>Q (.ref D) H2) (bn H1 D (.lst []))
section
variable {X:Cx} {elt tg iter:Expr} {ifs:List Expr} {scope:Scope} {pos:Pos} {wi:TI} {g:TG} {tt:TT} {te:TE}
theorem tu (S:ba X scope) (hc:X.calm=true) (hg:∀s H ex,PG (bV X scope s H ex) tg g) (hif:∀s H ex,uy (bV X scope s H ex) ifs tt) (hel:∀s H ex,PE (bV X scope s H ex) elt te)
  {pins:List (Addr×Obj)} {σ:St} {H:Hp} {s:Shared} (I:au X pins σ H s) {fp:List Addr} {it D:Addr} {tn:Nat->Heap->Prop} {J:It} (T:pk X.prog X.w X.K tg J fp it tn)
  (hfp:∀b∈fp,hX X pins H b/\b<s.heap.objs.size) {Q:Hp->Prop} {R:Result->Shared->Prop}
  (hR:∀τ H' s',au (bV X scope s H fp) [] τ H' s'->Q H'->R (.ok .next) s')
  {s1:Shared} {τ0:St} (I1:au (bV X scope s H fp) [] τ0 H s1) (ht:tn 0 s1.heap) (q:jD J g tt te D τ0 Q H):
  codeAny (model X.prog X.w) X.A (.compLoop (.ListComp elt [⟨tg,iter,ifs,0⟩] scope pos) 0 (.ref it) (.ref D) (bV X scope s H fp).env) R s1:=by
 obtain⟨W,⟨m0,w0⟩,turn⟩:=q
 have stat:∀{H':Hp},(∀b∈fp,H' b=none)->∀b∈fp,hX (bV X scope s H fp) [] H' b:=fun {H'} hn b hb=>
  ⟨hn b hb,Nat.ne_of_lt (hfp b hb).2,(oI S I hfp).exfs b hb, .inl hb,fun x c hx=>(hfp b hb).1.2.2.2.2.1 x c (dA (cs:=[]) (by intro c h;simp at h) hx),fun p hp=>by cases hp⟩
 refine codeAny_loop rfl (fun n s'=>∃i ys τ H',au (bV X scope s H fp) [] τ H' s'/\tn i s'.heap/\(∀b∈fp,H' b=none)/\W i n ys τ H') (fun n s2 hI=> ?_) m0 ⟨0,[],τ0,H,I1,ht,fun b hb=>(hfp b hb).1.1,w0⟩
 obtain⟨i,ys,τ,H2,I2,st2,fr2,w2⟩:=hI
 show wpAny _ X.A ((compTurn (.ListComp elt [⟨tg,iter,ifs,0⟩] scope pos) 0 (.ref it) (.ref D) (bV X scope s H fp).env).onRaise (fun x=>do noteFrame x (bV X scope s H fp).env;theTreesLotGoes x)) _ _ s2
 refine wpAny_noted ?_
 rw[compTurn_list]
 have up:∀{α:Type} {t:Sem α} {Q:α->Shared->Prop} {E:Value->Shared->Prop} {s:Shared},wpAny (model X.prog X.w) X.A t Q (fun _ _=>False) s->wpAny (model X.prog X.w) X.A t Q E s:=fun h=>wpAny_mono h (fun _ _ q=>q) fun _ _ f=>f.elim
 obtain⟨hD,alt⟩:=turn i n ys τ H2 w2
 rcases alt with ⟨stop,qn⟩|⟨go,hz,step⟩
 ·refine wpAny_bind (wpAny_standAt (wpAny_bind (up (cg (T.done (bV X scope s H fp) rfl rfl rfl hc i [] s2 τ H2 (fun _ _=>False) I2 (stat fr2) st2 stop) fun r s3 z_=> ?_))))
  obtain⟨hr,I3⟩:=z_
  subst hr
  exact wpAny_pure (hR _ _ _ I3 qn)
 ·refine wpAny_bind (wpAny_standAt (wpAny_bind (up (cg (T.item (bV X scope s H fp) rfl rfl rfl hc i [] s2 τ H2 (fun _ _=>False) I2 (stat fr2) st2 go) fun r s3 z_=> ?_))))
  obtain⟨u,hr,h3⟩:=z_
  subst hr
  refine wpAny_bind (up (cg h3 fun _ s4 z_=> ?_))
  obtain⟨x,H4,I4,r4,y4,st4,fr4⟩:=z_
  have I4':=I4.pinned (stat fr4) (T.obj _ _ st4)
  have back:∀{τ7:St} {H7:Hp} {s7:Shared},au (bV X scope s H fp) ([]++jw fp s4.heap) τ7 H7 s7->au (bV X scope s H fp) [] τ7 H7 s7/\tn (i+1) s7.heap/\∀b∈fp,H7 b=none:=fun I7=>
   ⟨I7.unpinned,T.keep _ _ _ st4 fun b hb o e=>(I7.pin (b,o) (List.mem_append_right _ (List.mem_append_right _ (fc hb e)))).1,fun b hb=>by
    obtain⟨o,e,d⟩:=T.obj _ _ st4 b hb
    exact(I7.pin (b,o) (List.mem_append_right _ (List.mem_append_right _ (fc hb e)))).2.1⟩
  refine wpAny_bind (up (cg (hg s H fp _ s4 τ H4 x u _ I4' r4 (step x H4 y4)) fun _ s5 z_=> ?_))
  obtain⟨τ5,H5,I5,q5⟩:=z_
  refine wpAny_bind (up (cg (hif s H fp _ s5 τ5 H5 _ I5 q5) fun ok s6 z_=> ?_))
  obtain⟨H6,I6,q6⟩:=z_
  cases ok with
  |false=>
   obtain⟨m',hm,w'⟩:=q6
   obtain⟨a,b,c⟩:=back I6
   exact wpAny_pure ⟨rfl,m',hm,i+1,ys,τ5,H6,a,b,c,w'⟩
  |true=>
   rw[if_pos rfl]at q6
   refine wpAny_bind (wpAny_bind (up (cg (hel s H fp _ s6 τ5 H6 _ I6 q6) fun v s7 z_=> ?_)))
   obtain⟨y,H7,I7,r7,hD7,m',hm,w'⟩:=z_
   refine wpAny_bind (up (cg (iC (X:=bV X scope s H fp) _ s7 τ5 H7 (.ref D) [y] (.ref D) [v] (fun _ H8=>H8=bn H7 D (.lst (ys++[y]))) I7 rfl (.cons r7 .nil) ⟨D,ys,y,rfl,rfl,hD7,hz,rfl⟩) fun _ s8 z_=> ?_))
   obtain⟨_,H8,I8,_,e8⟩:=z_
   subst e8
   obtain⟨a,b,c⟩:=back I8
   exact wpAny_pure (wpAny_pure ⟨rfl,m',hm,i+1,ys++[y],τ5,_,a,b,c,w'⟩)
theorem ml (S:ba X scope) (hc:X.calm=true) (hg:∀s H ex,PG (bV X scope s H ex) tg g) (hif:∀s H ex,uy (bV X scope s H ex) ifs tt) (hel:∀s H ex,PE (bV X scope s H ex) elt te)
  {pins:List (Addr×Obj)} {σ:St} {H:Hp} {s:Shared} {E:Value->Shared->Prop} (I:au X pins σ H s) {fp:List Addr} {it:Addr} {tn:Nat->Heap->Prop} {J:It} (T:pk X.prog X.w X.K tg J fp it tn)
  (hfp:∀b∈fp,hX X pins H b) (ht:tn 0 s.heap) {Q:Addr->Hp->Prop} {RR:Value->Addr->Result->Shared->Prop}
  (hR:∀(D:Addr) (H3:Hp) (s3:Shared) (τ:St) (H':Hp) (s':Shared),au X pins σ H3 s3->(∀b∈fp,hX X pins H3 b/\b<s3.heap.objs.size)->au (bV X scope s3 H3 fp) [] τ H' s'->Q D H'->RR (.ref D) s3.heap.objs.size (.ok .next) s')
  (q:∀D,H D=none->jD J g tt te D (jC X.N scope.names σ) (Q D) (bn H D (.lst []))):
  wpAny (model X.prog X.w) X.A (newList []) (fun acc s₃=>wpAny (model X.prog X.w) X.A (newFunctionEnv scope X.env.globals (iD X.env scope.names []) [] X.env.qual none .none (some X.env)) (fun cenv s₄=>
   codeAny (model X.prog X.w) X.A (.compStart (.ListComp elt [⟨tg,iter,ifs,0⟩] scope pos) 0 (.ref it) acc {cenv with scope:=relabel scope X.env}) (RR acc cenv.locals) s₄) E s₃) E s:=by
 have hlt:∀b∈fp,b<s.heap.objs.size:=fun b hb=>by
  obtain⟨o,e,_⟩:=T.obj _ _ ht b hb
  exact Heap.lt_size e
 refine wpAny_newList ?_
 have I3:=I.lnew (ys:=[]) (its:=[]) (t':=s.toks) .nil (Nat.zero_le _)
 have hD:H s.heap.objs.size=none:=I.hok.fresh (Nat.le_refl _)
 have hsz3:(s.heap.push {cls:= .type "list",data:= .seq ([]:List Value).toArray}).objs.size=s.heap.objs.size+1:=Heap.size_push ..
 have hfp3:∀b∈fp,hX X pins (bn H s.heap.objs.size (.lst [])) b/\b<({s with heap:=s.heap.push {cls:= .type "list",data:= .seq ([]:List Value).toArray},toks:=s.toks}:Shared).heap.objs.size:=fun b hb=>by
  refine⟨⟨?_,(hfp b hb).2⟩,?_⟩
  ·rw[aj (Nat.ne_of_lt (hlt b hb))];exact(hfp b hb).1
  ·show b<(s.heap.push _).objs.size
   rw[hsz3]
   exact Nat.lt_succ_of_lt (hlt b hb)
 refine wpAny_newFunctionEnv S.nocell (by intro y hy;simp at hy) (fun h₁ hns₁ hsb₁=> ?_) S.kind
 dsimp only at hns₁ hsb₁ ⊢
 have k1:∀b o,(s.heap.push {cls:= .type "list",data:= .seq ([]:List Value).toArray}).get? b=some o->h₁.get? b=some o:=fun b o e=>hsb₁.extBut b o (Nat.ne_of_lt (Heap.lt_size e)) (Heap.get?_push_of_some _ e)
 have I4:=vm (t':=s.toks) S I3 hfp3 (h':=h₁) hns₁ k1
 have ht1:tn 0 h₁:=T.keep _ _ _ ht fun b hb o e=>k1 b o (Heap.get?_push_of_some _ e)
 have loop:codeAny (model X.prog X.w) X.A (.compLoop (.ListComp elt [⟨tg,iter,ifs,0⟩] scope pos) 0 (.ref it) (.ref s.heap.objs.size) (bV X scope {s with heap:=s.heap.push {cls:= .type "list",data:= .seq ([]:List Value).toArray},toks:=s.toks} (bn H s.heap.objs.size (.lst [])) fp).env)
   (RR (.ref s.heap.objs.size) (s.heap.push {cls:= .type "list",data:= .seq ([]:List Value).toArray}).objs.size) {s with heap:=h₁,toks:=s.toks}:=
  tu S hc hg hif hel I3 T hfp3 (fun τ H' s' I' q'=>hR _ _ _ τ H' s' I3 hfp3 I' q') I4 ht1 (q _ hD)
 exact codeAny_compStart_list loop (T.self _ 0 _ _ _ ht1 loop)
theorem oK (S:ba X scope) (hc:X.calm=true) (hi:PI X tg iter wi) (hg:∀s H ex,PG (bV X scope s H ex) tg g) (hif:∀s H ex,uy (bV X scope s H ex) ifs tt) (hel:∀s H ex,PE (bV X scope s H ex) elt te)
  (hs:∀x,foldedSetIterable iter X.env x=pure x:=by intro _;rfl):PE X (.ListComp elt [⟨tg,iter,ifs,0⟩] scope pos) (wV X.N scope.names wi g tt te):=by
 intro pins s σ H Q I h
 rw[eval_ListComp]
 refine wpAny_comprehension_free (use:=none) rfl hs (oH (S.cellOf I.ok)) S.kind S.loc (cg (hi pins s σ H _ I h) fun v s1 h1=>cg h1 fun itv s2 h2=> ?_)
 obtain⟨it,fp,tn,J,H2,e,I2,T,st2,f2,q⟩:=h2
 subst e
 refine ml (Q:=fun D H2=>Q (.ref D) H2) (RR:=fun acc C=>compPost (model X.prog X.w) X.A X.xe none (EP X pins σ Q) acc C) S hc hg hif hel I2 T f2 st2 ?_ q
 intro D H3 s3 τ H' s' I3 f3 I' q'
 obtain⟨m,hm,_⟩:=I'.loc
 refine⟨m,hm,fun h' hs'=> ?_⟩
 exact⟨.ref D,H',oJ (t':=s'.toks) I3 f3 I' fun b o hb e=>hs'.extBut b o hb e,rfl,q'⟩
noncomputable def wW (N:List Str) (names:List (Str×NameKind)) (wi:TI) (g:TG) (tt:TT) (te:TE) (gy:TG):TS:=fun D σ H=>
 wi σ H fun J H1=>∀p,H1 p=none->jD J g tt te p (jC N names σ) (fun H2=>gy (.ref p) σ H2 D.nx) (bn H1 p (.lst []))
theorem tw {y:Str} {py spos:Pos} {gy:TG} (S:ba X scope) (hc:X.calm=true) (hi:PI X tg iter wi) (hg:∀s H ex,PG (bV X scope s H ex) tg g) (hif:∀s H ex,uy (bV X scope s H ex) ifs tt)
  (hel:∀s H ex,PE (bV X scope s H ex) elt te) (hy:PG X (.Name y py) gy) (hsw:swapsWith (.ListComp elt [⟨tg,iter,ifs,0⟩] scope pos) (some (.Name y py)) spos.line X.env=pure true:=by rfl)
  (hs:∀x,foldedSetIterable iter X.env x=pure x:=by intro _;rfl):PS X (.Assign [.Name y py] (.ListComp elt [⟨tg,iter,ifs,0⟩] scope pos) spos) (wW X.N scope.names wi g tt te gy):=by
 intro pins s σ H D I h
 rw[exec_Assign_Name_used _ _ _ _ hsw]
 refine wpAny_bind (wpAny_standAt (wpAny_bind ?_))
 show wpAny _ X.A (do let _<-comprehension (.ListComp elt [⟨tg,iter,ifs,0⟩] scope pos) scope X.env _ (newList []) false (eval iter X.env) (some (assign (.Name y py) X.env))) _ _ s
 refine wpAny_bind (wpAny_mono (wpAny_comprehension_free (use:=some (assign (.Name y py) X.env)) (Q:=fun _ s'=>SP X pins D .next s') rfl hs (oH (S.cellOf I.ok)) S.kind S.loc
  (cg (hi pins s σ H _ I h) fun v s1 h1=>cg h1 fun itv s2 h2=> ?_)) (fun _ s' hq=>wpAny_pure (wpAny_pure hq)) fun _ _ e=>e)
 obtain⟨it,fp,tn,J,H2,e,I2,T,st2,f2,q⟩:=h2
 subst e
 refine ml (Q:=fun p H2=>gy (.ref p) σ H2 D.nx) (RR:=fun acc C=>compPost (model X.prog X.w) X.A X.xe (some (assign (.Name y py) X.env)) (fun _ s'=>SP X pins D .next s') acc C) S hc hg hif hel I2 T f2 st2 ?_ q
 intro p H3 s3 τ H' s' I3 f3 I' q'
 obtain⟨m,hm,_⟩:=I'.loc
 obtain⟨oC,es,ep,hoC,hdC,hkC,hmC⟩:=hm
 have J1:au X pins σ H' s':=oJ (t':=s'.toks) (h':=s'.heap) I3 f3 I' fun b o _ e=>e
 have hC0:H' s3.heap.objs.size=none:=I'.free
 have hCl:s3.heap.objs.size≠X.env.locals:=fun z=>by have:=I3.lt;rw[<-z]at this;exact Nat.lt_irrefl _ this
 have J2:au X (pins++[(s3.heap.objs.size,oC)]) σ H' s':=J1.pins_of fun q hq=>by
  rcases List.mem_append.mp hq with hq|hq
  ·exact J1.pin q (List.mem_append_right _ hq)
  ·have e:q=(s3.heap.objs.size,oC):=by simpa using hq
   subst e
   exact⟨hoC,hC0,hCl,I3.nofs (Nat.le_refl _),fun v z=>by rw[hdC]at z;cases z⟩
 refine cg (hy _ s' σ H' (.ref p) (.ref p) D.nx J2 rfl q') fun _ s'' z_=> ?_
 obtain⟨σ5,H5,I5,q5⟩:=z_
 have hp:=I5.pin (s3.heap.objs.size,oC) (List.mem_append_right _ (List.mem_append_right _ List.mem_cons_self))
 refine⟨m,⟨oC,es,ep,hp.1,hdC,hkC,hmC⟩,fun h' hs'=> ?_⟩
 refine⟨σ5,H5,(I5.unpinned).turned (it:=s3.heap.objs.size) (t':=s''.toks) (fun b o hb e=>hs'.extBut b o hb e) hp.2.1 hCl (.inr I3.sz) (fun x c hx z=> ?_) (fun q hq z=> ?_),q5⟩
 ·obtain⟨v,o,ho,_⟩:=I3.cell x c hx
  have:=Heap.lt_size ho
  rw[z]at this
  exact Nat.lt_irrefl _ this
 ·have:=(I3.pin q hq).1
  have:=Heap.lt_size this
  rw[z]at this
  exact Nat.lt_irrefl _ this
end
end L2
namespace L2
open PySem PySem.Spec PyProof.Rows
section
variable {X:Cx} {e a b st:Expr} {te ta tb:TE} {tst:TO} {pos p2 p:Pos}
noncomputable def yf (K:PySem.W.Frag):List V->Hp->VK->Prop:=fun xs H Q=>∃x T t k,xs=[x, .ty T]/\h_ K H x t/\PySem.W.kitOne K t (.type T)=some k/\Q (.bl k) H
theorem qL:eO X (.builtin "isinstance") (yf X.K):=by
 intro pins s σ H xs us Q I rv h
 obtain⟨x,T,t,k,rfl,ty,e,q⟩:=h
 obtain⟨u,w',rfl,ru,rw'⟩:=uo rv
 cases rw'
 exact pE I ru ty e fun tk=>⟨.bl k,H,I.tok tk,rfl,q⟩
theorem jE:bootBuiltins "isinstance"=some (.builtin "isinstance"):=by decide+kernel
end
end L2
namespace L2
open PySem PySem.Spec PyProof.Rows
section
variable {P:Program} {w:World} {H:Hp} {h h':Heap} {a:Addr} {o:HO}
end
section
variable {X:Cx} {pins:List (Addr×Obj)} {σ:List (Option V)} {H:Hp} {s:Shared} {h':Heap}
end
section
variable {X:Cx}
end
end L2
namespace L2
open PySem PySem.Spec PyProof.Rows
section
variable {prog:Program} {w:World} {A:Around} {E:Value->Shared->Prop} {s:Shared} {I:Addr} {fp wr:List Addr} {G:Array GenState->Array GenState->Prop} {n:Nat} {P:Nat->Value->Prop} {St:Nat->Shared->Prop}
end
section
variable {X:Cx} {e:Expr} {te:TE} {pos p1 p2 pos2:Pos}
end
end L2
namespace L2
open PySem PySem.Spec PyProof.Rows
section
variable {prog:Program} {w:World} {A:Around} {E:Value->Shared->Prop} {s:Shared} {a:Addr}
end
section
variable {prog:Program} {w:World} {A:Around} {R:Result->Shared->Prop} {I:Addr} {fp wr:List Addr} {G:Array GenState->Array GenState->Prop} {n:Nat} {P:Nat->Value->Prop} {St:Nat->Shared->Prop}
end
section
variable {prog:Program} {w:World} {A:Around} {E:Value->Shared->Prop} {s:Shared} {p:Addr}
end
section
variable {X:Cx}
end
end L2
namespace L2
open PySem PySem.Spec PyProof.Rows PySem.W
section
variable {n:Nat} {key:Nat->Int}
structure yC (n:Nat) (p:Array Nat):Prop where
 sz:p.size=n
 perm:p.toList.Perm (List.range n)
theorem yC.inj {p:Array Nat} (h:yC n p) {i j:Nat} (hi:i<n) (hj:j<n) (e:p.getD i 0=p.getD j 0):i=j:=by
 have hi':i<p.size:=by rw[h.sz];exact hi
 have hj':j<p.size:=by rw[h.sz];exact hj
 have e1:p.getD i 0=p[i]:=by simp[Array.getD,hi']
 have e2:p.getD j 0=p[j]:=by simp[Array.getD,hj']
 rw[e1,e2]at e
 have nd:p.toList.Nodup:=(h.perm.nodup_iff).mpr List.nodup_range
 have hp:=List.pairwise_iff_getElem.mp nd
 have el:p.toList[i]'(by simpa using hi')=p.toList[j]'(by simpa using hj'):=by simpa using e
 rcases Nat.lt_trichotomy i j with z|z|z
 ·exact absurd el (hp i j _ _ z)
 ·exact z
 ·exact absurd el.symm (hp j i _ _ z)
end
end L2
namespace L2
open PySem PySem.Spec PyProof.Rows PySem.W
section
variable {prog:Program} {w:World} {A:Around} {E:Value->Shared->Prop} {s:Shared}
end
section
variable {X:Cx}
inductive jF (H:Hp):List V->List Int->Prop
 |nil:jF H [] []
 |cons {a:Addr} {k:Int} {rest ys:List V} {ks:List Int}:H a=some (.tup (.int k::rest))->jF H ys ks->jF H (.ref a::ys) (k::ks)
theorem jF.length {H:Hp}:∀{ys:List V} {ks:List Int},jF H ys ks->ys.length=ks.length
 |_,_, .nil=>rfl
 |_,_, .cons _ t=>by rw[List.length_cons,List.length_cons,t.length]
end
end L2
namespace L2
open PySem PySem.Spec PyProof.Rows
section
variable {prog:Program} {w:World} {A:Around} {E:Value->Shared->Prop} {s:Shared}
end
section
variable {X:Cx} {pos:Pos}
theorem mn (l b:Addr) (items items2:Array Value) (n n2:Nat) (dd dd2:Option Addr) (sl sl2:Array (Option Value)) (h0:items.isEmpty=true):
  Meets (Builtin.«tuple.__add__» {pos:=[Value.ref l,Value.ref b]}) fun x R s=>
    s.heap.get? l=some {cls:=Value.type "tuple",dict:=dd,data:=Data.seq items n,slots:=sl}/\
     s.heap.get? b=some {cls:=Value.type "tuple",dict:=dd2,data:=Data.seq items2 n2,slots:=sl2}/\R (Except.ok (Flow.ret (Value.ref b))) s:=by
 intro prog w A R s ⟨g1,g2,q⟩
 have t1:IsTup s.heap l items:=⟨_,g1,rfl,n,rfl⟩
 have t2:IsTup s.heap b items2:=⟨_,g2,rfl,n2,rfl⟩
 unfold Builtin.«tuple.__add__»
 refine wpAny_bind (wpAny_pure (a:=(Value.ref l,[Value.ref b])) ?_)
 dsimp only
 refine wpAny_bind (wpAny_isInstance t2.typeIs sub_tuple_tuple ?_)
 rw[if_neg (by decide)]
 refine wpAny_bind (tupleItemsOf_ t1 (wpAny_bind (tupleItemsOf_ t2 ?_)))
 rw[if_pos h0]
 unfold Builtin.Tuple.tupleIsExact
 refine wpAny_bind (wpAny_bind (wpAny_typeOf t2.typeIs (wpAny_pure ?_)))
 rw[if_pos (by decide)]
 exact wpAny_bind (wpAny_rule (PySem.W.nd_pure q))
noncomputable def uz (K:PySem.W.Frag):R2:=fun x y H Q=>∃a b ys,x= .ref a/\y= .ref b/\eL K H a []/\eL K H b ys/\Q (.ref b) H
theorem tz:gE X (binaryOp .Add) (uz X.K):=by
 intro pins s σ H x y v u Q I rx ry h
 obtain⟨a,b,ys,rfl,rfl,ha,hb,q⟩:=h
 cases rx
 cases ry
 obtain⟨its,r1,p1,_⟩:=I.tuple ha
 obtain⟨its2,r2,p2,_⟩:=I.tuple hb
 cases r1
 obtain⟨⟨cls,dd,data,sl⟩,ho,hc,n,hd⟩:=id p1
 obtain⟨⟨cls2,dd2,data2,sl2⟩,ho2,hc2,n2,hd2⟩:=id p2
 simp only at hc hd hc2 hd2
 subst hc hd hc2 hd2
 exact concat_meets ⟨_,ho,rfl⟩ ⟨_,ho2,rfl⟩ noFill_tuple_add seq_tuple_add PySem.F.slot_tuple_add PySem.F.entry_tuple_add (PySem.F.args_tuple_add_2 _ _)
   (mn a b _ _ n n2 dd dd2 sl sl2 rfl) ⟨ho,ho2,⟨.ref b,H,I,rfl,q⟩⟩
end
end L2
namespace L2
open PySem PySem.Spec PyProof.Rows
section
variable {X:Cx}
theorem ib:∀{bs:List Bool} {its:List Value},aM (bs.map V.bl) its->∀{i:Nat} {v:Value},its[i]? =some v->∃b,bs[i]? =some b/\v= .bool b:=by
 intro bs its r i v e
 have hl:=r.length
 rw[List.length_map]at hl
 have hi:i<bs.length:=by rw[hl];exact(List.getElem?_eq_some_iff.mp e).1
 obtain⟨u,h1,h2⟩:=r.get (i:=i) (x:=V.bl bs[i]) (by simp[hi])
 rw[e]at h1
 cases h1
 exact⟨bs[i],by simp[hi],h2⟩
theorem ic:∀{ns:List Int} {its:List Value},aM (ns.map V.int) its->∀{i:Nat} {v:Value},its[i]? =some v->∃t,v= .int (ns.getD i 0) t:=by
 intro ns its r i v e
 have hl:=r.length
 rw[List.length_map]at hl
 have hi:i<ns.length:=by rw[hl];exact(List.getElem?_eq_some_iff.mp e).1
 obtain⟨u,h1,h2⟩:=r.get (i:=i) (x:=V.int ns[i]) (by simp[hi])
 rw[e]at h1
 cases h1
 obtain⟨t,ht⟩:=h2
 exact⟨t,by rw[ht];simp[hi]⟩
theorem nH (bs:List Bool):((List.range bs.length).any fun i=>bs.getD i false)=bs.any id:=by
 rw[Bool.eq_iff_iff,List.any_eq_true,List.any_eq_true]
 constructor
 ·rintro⟨i,h1,h2⟩
  have hi:=List.mem_range.mp h1
  exact⟨bs[i],List.getElem_mem hi,by simpa[hi]using h2⟩
 ·rintro⟨b,h1,h2⟩
  obtain⟨i,hi,e⟩:=List.getElem_of_mem h1
  exact⟨i,List.mem_range.mpr hi,by simp[hi,e];exact h2⟩
theorem iE {s:Shared} {it:Obj} {h':Heap} (hk:∀b o,b∉[s.heap.objs.size]->(s.heap.push it).get? b=some o->h'.get? b=some o):∀b o,s.heap.get? b=some o->h'.get? b=some o:=fun b o e=>
 hk b o (fun z=>by rw[List.mem_singleton.mp z]at e;exact absurd (Heap.lt_size e) (Nat.lt_irrefl _)) (Heap.get?_push_of_some _ e)
theorem kH (hc:X.calm=true):eO X (.builtin "any") (fun xs H Q=>∃(p:Addr) (bs:List Bool),xs=[.ref p]/\dr X.K H p (bs.map V.bl)/\Q (.bl (bs.any id)) H):=by
 intro pins s σ H xs us Q I rv h
 obtain⟨p,bs,rfl,hx,q⟩:=h
 obtain⟨u,rfl,ru⟩:=hZ rv
 cases ru
 obtain⟨its,r,ht,hz⟩:=I.list hx
 have hl:=ht.isList
 have hlt:p<s.heap.objs.size:=by obtain⟨_,e,_⟩:=hl;exact Heap.lt_size e
 refine call_any_walk (wpAny_pyIter_list hl ?_)
 refine⟨s.heap.objs.size,[s.heap.objs.size,p],[s.heap.objs.size],its.toArray.size,_,_,fun i=>bs.getD i false,rfl,Walks.list (A:=X.A.in1) (I.ok.hd hc) _ p (Nat.ne_of_lt hlt) its.toArray,⟨⟨_,Heap.get?_push_size _ rfl,rfl,rfl⟩,hl.push _⟩,fun i v s' Q' E' hP hQ=> ?_,fun h' tk hk=> ?_⟩
 ·obtain⟨b,e,rfl⟩:=ib r (i:=i) (v:=v) (by simpa using hP)
  have:bs.getD i false=b:=by simp[List.getD_eq_getElem?_getD,e]
  dsimp only at hQ
  rw[this]at hQ
  exact wpAny_truthy_bool hQ
 ·have e:((List.range its.toArray.size).any fun i=>bs.getD i false)=bs.any id:=by
   have hl:=r.length
   rw[List.length_map]at hl
   rw[List.size_toArray,<-hl];exact nH bs
  rw[e]
  exact⟨.bl _,H,I.kept (iE hk),rfl,q⟩
theorem pL (hc:X.calm=true):eO X (.builtin "min") (fun xs H Q=>∃(p:Addr) (i j:Int),xs=[.ref p]/\eL X.K H p [.int i, .int j]/\Q (.int (if j<i then j else i)) H):=by
 intro pins s σ H xs us Q I rv h
 obtain⟨p,i,j,rfl,hx,q⟩:=h
 obtain⟨u,rfl,ru⟩:=hZ rv
 cases ru
 obtain⟨its,r,ht,hz⟩:=I.tuple hx
 have hlt:p<s.heap.objs.size:=ht.lt
 have hlen:=r.length
 refine call_min_walk (wpAny_pyIter_tuple (show s.heap.IsTuple p its.toArray from ht) ?_)
 refine⟨s.heap.objs.size,[s.heap.objs.size,p],[s.heap.objs.size],its.toArray.size,_,_,_,rfl,Walks.tuple (A:=X.A.in1) (I.ok.hd hc) _ p (Nat.ne_of_lt hlt) its.toArray,⟨⟨_,Heap.get?_push_size _ rfl,rfl,rfl⟩,show IsTup _ _ _ from ht.push _⟩,fun b hb=> ?_,by rw[List.size_toArray,<-hlen];exact Nat.succ_pos _,CmpOf.ints_lt (fun k=>([i,j]:List Int).getD k 0) (fun k v hv=>ic (ns:=[i,j]) r (by simpa using hv)),fun v h' tk hP hk=> ?_⟩
 ·show b<(s.heap.push _).objs.size
  rw[Heap.size_push]
  rcases List.mem_cons.mp hb with rfl|hb
  ·exact Nat.lt_succ_self _
  ·rw[List.mem_singleton.mp hb];exact Nat.lt_succ_of_lt hlt
 ·obtain⟨t,rfl⟩:=ic (ns:=[i,j]) r (by simpa using hP)
  refine⟨.int (if j<i then j else i),H,I.kept (iE hk),⟨t,?_⟩,q⟩
  rw[<-hlen]
  by_cases e:j<i<;>simp[argBest,e]
theorem pM (hc:X.calm=true):eO X (.builtin "max") (fun xs H Q=>∃(p:Addr) (i j:Int),xs=[.ref p]/\eL X.K H p [.int i, .int j]/\Q (.int (if i<j then j else i)) H):=by
 intro pins s σ H xs us Q I rv h
 obtain⟨p,i,j,rfl,hx,q⟩:=h
 obtain⟨u,rfl,ru⟩:=hZ rv
 cases ru
 obtain⟨its,r,ht,hz⟩:=I.tuple hx
 have hlt:p<s.heap.objs.size:=ht.lt
 have hlen:=r.length
 refine call_max_walk (wpAny_pyIter_tuple (show s.heap.IsTuple p its.toArray from ht) ?_)
 refine⟨s.heap.objs.size,[s.heap.objs.size,p],[s.heap.objs.size],its.toArray.size,_,_,_,rfl,Walks.tuple (A:=X.A.in1) (I.ok.hd hc) _ p (Nat.ne_of_lt hlt) its.toArray,⟨⟨_,Heap.get?_push_size _ rfl,rfl,rfl⟩,show IsTup _ _ _ from ht.push _⟩,fun b hb=> ?_,by rw[List.size_toArray,<-hlen];exact Nat.succ_pos _,CmpOf.ints_gt (fun k=>([i,j]:List Int).getD k 0) (fun k v hv=>ic (ns:=[i,j]) r (by simpa using hv)),fun v h' tk hP hk=> ?_⟩
 ·show b<(s.heap.push _).objs.size
  rw[Heap.size_push]
  rcases List.mem_cons.mp hb with rfl|hb
  ·exact Nat.lt_succ_self _
  ·rw[List.mem_singleton.mp hb];exact Nat.lt_succ_of_lt hlt
 ·obtain⟨t,rfl⟩:=ic (ns:=[i,j]) r (by simpa using hP)
  refine⟨.int (if i<j then j else i),H,I.kept (iE hk),⟨t,?_⟩,q⟩
  rw[<-hlen]
  by_cases e:i<j<;>simp[argBest,e]
noncomputable def qM (k:Bool):Value->Bool
 | .bool b=>b==k
 |_=>false
theorem oM {k:Bool}:∀{bs:List Bool} {its:List Value},aM (bs.map V.bl) its->its.countP (qM k)=bs.count k
 |[],its,r=>by cases r;rfl
 |b::bs,its,r=>by
  cases r with
  |cons h t=>cases h;rw[List.countP_cons,List.count_cons,oM t];rfl
noncomputable def tD (K:PySem.W.Frag):V->List V->Hp->VK->Prop:=fun x vs H Q=>∃(l:Addr) (k:Bool) (bs:List Bool),x= .ref l/\vs=[.bl k]/\dr K H l (bs.map V.bl)/\Q (.int (bs.count k)) H
theorem pN:xE X "list.count" (tD X.K):=by
 intro pins s σ H x vs v us Q I rx rv h
 obtain⟨l,k,bs,rfl,rfl,hx,q⟩:=h
 cases rx
 obtain⟨u,rfl,ru⟩:=rv.one
 cases ru
 obtain⟨its,r,ht,hz⟩:=I.list hx
 obtain⟨⟨cls,dd,data,sl⟩,ho,hc,n,hd⟩:=ht.isList
 simp only at hc hd
 subst hc hd
 refine call_meets PySem.F.slot_list_count ⟨_,ho,rfl⟩ PySem.F.entry_list_count (PySem.F.args_list_count_2 _ _) (PySem.SeqAt.list_countAt l its.toArray n dd sl (.bool k) (qM k)) ⟨ho,fun y hy=> ?_,?_⟩
 ·obtain⟨i,hi,e⟩:=List.getElem_of_mem (show y∈its by simpa using hy)
  obtain⟨b,_,rfl⟩:=ib r (i:=i) (v:=y) (by rw[List.getElem?_eq_getElem hi,e])
  exact PySem.SeqAt.EqAt.bool_bool b k
 ·rw[show its.toArray.toList=its from rfl,oM r]
  exact⟨.int _,H,I.tok _,⟨_,rfl⟩,q⟩
theorem wX {k:Bool} {bs:List Bool} {its:List Value} (r:aM (bs.map V.bl) its) {i:Nat} (hi:i<its.length):∃h:i<bs.length,its[i]= .bool bs[i]:=by
 obtain⟨b,h1,h2⟩:=ib r (i:=i) (v:=its[i]) (List.getElem?_eq_getElem hi)
 obtain⟨l,e⟩:=List.getElem?_eq_some_iff.mp h1
 exact⟨l,by rw[h2,e]⟩
theorem qN {k:Bool}:∀{bs:List Bool} {m:Nat} (hm:m<bs.length),m<bs.idxOf k->(bs[m]==k)=false
 |b::bs,0,hm,h=>by
  rw[List.idxOf_cons]at h
  cases e:b==k with
  |true=>rw[e]at h;simp at h
  |false=>exact e
 |b::bs,m+1,hm,h=>by
  rw[List.idxOf_cons]at h
  cases e:b==k with
  |true=>rw[e]at h;simp at h
  |false=>
   rw[e]at h
   exact qN (bs:=bs) (m:=m) (by simpa using hm) (by simp at h;omega)
noncomputable def tE (K:PySem.W.Frag):V->List V->Hp->VK->Prop:=fun x vs H Q=>∃(l:Addr) (k:Bool) (bs:List Bool),x= .ref l/\vs=[.bl k]/\dr K H l (bs.map V.bl)/\k∈bs/\bs.length<1000/\Q (.int (bs.idxOf k)) H
theorem pO:xE X "list.index" (tE X.K):=by
 intro pins s σ H x vs v us Q I rx rv h
 obtain⟨l,k,bs,rfl,rfl,hx,hk,hl,q⟩:=h
 cases rx
 obtain⟨u,rfl,ru⟩:=rv.one
 cases ru
 obtain⟨its,r,ht,hz⟩:=I.list hx
 have hlen:=r.length
 rw[List.length_map]at hlen
 obtain⟨⟨cls,dd,data,sl⟩,ho,hc,n,hd⟩:=ht.isList
 simp only at hc hd
 subst hc hd
 have hj:=List.idxOf_lt_length_of_mem hk
 refine call_meets PySem.F.slot_list_index ⟨_,ho,rfl⟩ PySem.F.entry_list_index (PySem.F.args_list_index_2 _ _) (PySem.SeqAt.list_indexAt l its.toArray n dd sl (.bool k) (qM k) (bs.idxOf k) (by rw[List.size_toArray,<-hlen];exact hj) (by omega) ?_ ?_) ⟨ho,fun y hy=> ?_,?_⟩
 ·obtain⟨h1,e⟩:=wX (k:=k) r (i:=bs.idxOf k) (by rw[<-hlen];exact hj)
  show qM k (its[bs.idxOf k]'_)=true
  rw[e]
  show (bs[bs.idxOf k]==k)=true
  simp
 ·intro m hm hlt
  obtain⟨h1,e⟩:=wX (k:=k) r (i:=m) (by simpa using hm)
  show qM k (its[m]'_)=false
  rw[e]
  exact qN h1 hlt
 ·obtain⟨i,hi,e⟩:=List.getElem_of_mem (show y∈its by simpa using hy)
  obtain⟨b,_,rfl⟩:=ib r (i:=i) (v:=y) (by rw[List.getElem?_eq_getElem hi,e])
  exact PySem.SeqAt.EqAt.bool_bool b k
 ·exact⟨.int _,H,I.tok _,⟨_,rfl⟩,q⟩
end
end L2
namespace L2
open PySem PySem.Spec PyProof.Rows
theorem kj:isSubtype (.type "tuple") (.type "set")=pure false:=by rw[isSubtype_type];kernel_rfl
theorem jG:isSubtype (.type "tuple") (.type "frozenset")=pure false:=by rw[isSubtype_type];kernel_rfl
noncomputable abbrev setNew (led:Bool):Obj:={cls:= .type "set",dict:=none,data:= .set #[] 0 (.fresh 0 0 led)}
noncomputable abbrev qO (prog:Program) (w:World) (h':Heap) (a:Addr) (ns:List Int) (n:Nat):Prop:=h'.SetOf (intKind prog w) a (fun k=>(firstMet (fun i=>ns.getD i 0) n).any (·==k)) (firstMet (fun i=>ns.getD i 0) n).length
set_option maxHeartbeats 8000000 in
theorem pP {prog:Program} {w:World} {A:Around} {E:Value->Shared->Prop} {s:Shared} {u:Addr} {xs:Array Value} {ns:List Int} {Q:Value->Shared->Prop} (hh:A.handled=none) (ht:s.heap.IsTuple u xs) (hi:∀(i:Nat) (v:Value),xs[i]? =some v->∃t,v= .int (ns.getD i 0) t) (hb:xs.size+1<scanBound)
  (fin:∀(h':Heap) (tk:Nat),qO prog w h' s.heap.objs.size ns xs.size->(∀b o,b<s.heap.objs.size->s.heap.get? b=some o->h'.get? b=some o)->Q (.ref s.heap.objs.size) {s with heap:=h',toks:=tk}):wpAny (model prog w) A (call (.type "set") [.ref u]) Q E s:=by
 obtain⟨c,tl,hmro⟩:=F.called_set.mro
 have m1:=F.called_set.made
 have m2:=F.called_set.sub
 have m3:=F.called_set.notType
 have m4:=F.called_set.canCreate
 have m5:=F.typeCall_set_1 (.ref u)
 refine wpAny_call (codeAny_of_tree ?_)
 show wpAny _ _ (callAny (.type "set") _) _ _ _
 refine wpAny_pure ⟨Code.quiet_builtin _ (by decide+kernel),codeAny_builtin F.entry_type_call ?_⟩
 rw[Around.under_plain (weight_type_call_type "set" [.ref u] []) rfl]
 repeat (any_goals (first|assumption|wp_step))
 refine codeAny_mono (code_set_new_1 (.ref u) (E:=E) (Q₁:=fun o s₁=>∃led:Bool,o= .ref s.heap.objs.size/\s₁={s with heap:=s.heap.push (setNew led)}) fun led=>⟨led,rfl,rfl⟩) fun r s₁ hr=> ?_
 cases r with
 |error e=>exact hr
 |ok fl=>
  cases fl with
  |ret o=>
   obtain⟨led,rfl,rfl⟩:=hr
   have gS:(s.heap.push (setNew led)).get? s.heap.objs.size=some (setNew led):=Heap.get?_push_size _ rfl
   have tS:Shared.TypeIs {s with heap:=s.heap.push (setNew led)} (.ref s.heap.objs.size) "set":=⟨_,gS,rfl⟩
   have n1:=F.called_set.init.lookup
   have n2:=F.called_set.init.bind (.ref s.heap.objs.size)
   repeat (any_goals (first|assumption|wp_step))
   refine codeAny_mono (codeAny_call_builtin (R:=wants (fun r s₂=>r= .none/\∃h' tk,s₂={s with heap:=h',toks:=tk}/\qO prog w h' s.heap.objs.size ns xs.size/\∀b o,b<s.heap.objs.size->s.heap.get? b=some o->h'.get? b=some o) E) F.called_set.init.plain F.entry_set_init (check_set_init_1 tS ?_)) fun r₂ s₂ hr₂=> ?_
   ·have ht0:=ht
    obtain⟨ot,hot,hct,nt,hdt⟩:=ht
    obtain⟨ocls,odict,odata,oslots⟩:=ot
    simp only at hct hdt
    subst hct
    subst hdt
    have hot':(s.heap.push (setNew led)).get? u=some {cls:= .type "tuple",dict:=odict,data:= .seq xs nt,slots:=oslots}:=Heap.get?_push_of_some _ hot
    have k1:=kj
    have k2:=jG
    have k3:(Value.type "tuple"==Value.type "dict")=false:=by decide
    have t1:(s.heap.push (setNew led)).IsTuple u xs:=⟨_,hot',rfl,nt,rfl⟩
    unfold Builtin.«set.__init__» noKeywords Builtin.Frozenset.updateFrom
    generalize hPI:pyIter=PI
    wp_walk
    subst hPI
    refine wpAny_pyIter_tuple t1 (wpAny_bind (wpAny_runValue ?_))
    have hu:u<s.heap.objs.size:=Heap.lt_size hot
    have h3:A.in1.in1.in1.handled=none:=by simp[hh]
    have z1:u≠(s.heap.push (setNew led)).objs.size:=by rw[Heap.size_push];exact Nat.ne_of_lt (Nat.lt_succ_of_lt hu)
    have z2:s.heap.objs.size∉[(s.heap.push (setNew led)).objs.size,u]:=by
     rw[Heap.size_push]
     intro z
     rcases List.mem_cons.mp z with z|z
     ·exact Nat.ne_of_lt (Nat.lt_succ_self _) z
     ·exact Nat.ne_of_gt hu (List.mem_singleton.mp z)
    refine codeAny_set_update_loopS (Walks.tuple h3 _ u z1 xs).toS s.heap.objs.size z2 (fun i=>ns.getD i 0) (fun i v hv=>hi i v hv) hb (xs.size - 0) 0 _ (by omega) (Nat.zero_le _) ⟨⟨_,Heap.get?_push_size _ rfl,rfl,rfl⟩,t1.push _⟩ ?a0 ?a1
    case a0=>
     exact SetOf_congr ((setObjOf_fresh (knd:=intKind prog w) led).setOf (Heap.get?_push_of_some _ gS) (by unfold scanBound;omega)) (fun _=>rfl) rfl
    case a1=>
     intro s' hm hS'
     obtain⟨h',g',d',tk',os'⟩:=s'
     obtain rfl:g'=s.gens:=hm.gens
     obtain rfl:d'=s.drawn:=hm.drawn
     obtain rfl:os'=s.os:=hm.os
     show wpAny _ _ _ _ _ _
     refine wpAny_pure ?_
     show wpAny _ _ (ret Value.none) _ _ _
     refine wpAny_pure ⟨rfl,h',tk',rfl,hS',fun b o hb e=>hm.heap b o ?_ (Heap.get?_push_of_some _ (Heap.get?_push_of_some _ e))⟩
     rw[Heap.size_push]
     intro z
     rcases List.mem_cons.mp z with z|z
     ·exact Nat.ne_of_lt hb z
     ·exact Nat.ne_of_lt (Nat.lt_succ_of_lt hb) (List.mem_singleton.mp z)
   ·cases r₂ with
    |error e=>exact hr₂
    |ok fl₂=>
     cases fl₂ with
     |ret r=>
      obtain⟨rfl,h',tk,rfl,hS',hk'⟩:=hr₂
      repeat (any_goals (first|assumption|wp_step))
      exact fin _ _ hS' hk'
     |_=>exact hr₂.elim
  |_=>exact hr.elim
noncomputable def fU (ns:List Int):Nat:=(firstMet (fun i=>ns.getD i 0) ns.length).length
section
variable {X:Cx} {e:Expr} {te:TE} {p1 p2 pos pos2:Pos}
noncomputable def tF (K:PySem.W.Frag) (te:TE):TE:=fun σ H Q=>te σ H fun x H1=>∃(a:Addr) (ns:List Int),[x]=[V.ref a]/\(dr K H1 a (ns.map V.int)\/eL K H1 a (ns.map V.int))/\ns.length<4000/\Q (.int (fU ns)) H1
theorem qP:bootBuiltins "set"=some (.type "set"):=by decide+kernel
theorem pQ:bootBuiltins "len"=some (.builtin "len"):=by decide+kernel
theorem pR (hc:X.calm=true) (he:PE X e te) (hml:X.mg "len"=none) (hms:X.mg "set"=none) (hgl:Gl X "len") (hgs:Gl X "set")
  (he1:starEach [e] X.env=(false,eval e X.env)::starEach [] X.env) (hpl1:(backTo pos2 (starEach [] X.env)).any (·.1)=false)
  (he2:starEach [.Call (.Name "set" p2) [e] [] pos2] X.env=(false,eval (.Call (.Name "set" p2) [e] [] pos2) X.env)::starEach [] X.env) (hpl2:(backTo pos (starEach [] X.env)).any (·.1)=false):
  PE X (.Call (.Name "len" p1) [.Call (.Name "set" p2) [e] [] pos2] [] pos) (tF X.K te):=by
 intro pins s σ H Q I h
 refine wpAny_Call_Name_kw (gO I hgl hml pQ ?_ (by decide) (by decide))
 refine PyProof.Rows.callWith_builtin1 ?_ he2 hpl2
 rw[he2]
 show wpAny _ _ (spliced ((false,eval (.Call (.Name "set" p2) [e] [] pos2) X.env)::backTo pos (starEach [] X.env))) _ _ s
 refine Calls.spliced_cons ?_
 refine wpAny_Call_Name_kw (gO I hgs hms qP ?_ (by decide) (by decide))
 refine PyProof.Rows.callWith_type1 ?_ he1 hpl1
 refine cg (bP he dF he1 pos2 pins s σ H (fun vs H1=>∃(a:Addr) (ns:List Int),vs=[V.ref a]/\(dr X.K H1 a (ns.map V.int)\/eL X.K H1 a (ns.map V.int))/\ns.length<4000/\Q (.int (fU ns)) H1) I h) fun us s1 z_=> ?_
 obtain⟨vs,H1,I1,r1,a,ns,rfl,hx,hl,q⟩:=z_
 obtain⟨u,rfl,ru⟩:=hZ r1
 cases ru
 have fin:∀(n:Nat),n=ns.length->∀(h':Heap) (tk:Nat),qO X.prog X.w h' s1.heap.objs.size ns n->(∀b o,b<s1.heap.objs.size->s1.heap.get? b=some o->h'.get? b=some o)->
   wpAny (model X.prog X.w) X.A (spliced (backTo pos (starEach [] X.env))) (fun us s2=>wpAny (model X.prog X.w) X.A (call (.builtin "len") (.ref s1.heap.objs.size::us)) (EP X pins σ Q) X.xe s2) X.xe {s1 with heap:=h',toks:=tk}:=by
  rintro n rfl h' tk hS hk
  refine Calls.spliced_nil ?_
  obtain⟨o,es,ep,t,ho,hex,hd,hel,hmem,_,hf,hcnt⟩:=hS
  have hle:=firstMet_length_le (fun i=>ns.getD i 0) ns.length
  refine call_len_set ho hex hd hf (by rw[hcnt];omega) ?_
  rw[hcnt]
  exact⟨.int _,H1,(I1.kept fun b o e=>hk b o (Heap.lt_size e) e).tok _,⟨_,rfl⟩,q⟩
 rcases hx with hx|hx
 ·obtain⟨its,r,ht,hz⟩:=I1.list hx
  have hlen:=r.length
  rw[List.length_map]at hlen
  exact call_set_list (I1.ok.hd hc) ht.isList (nF r) (by rw[List.size_toArray,<-hlen];unfold scanBound;omega) fun h' tk a b=>fin _ (by rw[List.size_toArray,hlen]) h' tk a b
 ·obtain⟨its,r,ht,hz⟩:=I1.tuple hx
  have hlen:=r.length
  rw[List.length_map]at hlen
  exact pP (I1.ok.hd hc) ht (fun i v hv=>ic r (by simpa using hv)) (by rw[List.size_toArray,<-hlen];unfold scanBound;omega) fun h' tk a b=>fin _ (by rw[List.size_toArray,hlen]) h' tk a b
end
end L2
namespace L2
open PySem PySem.Spec PyProof.Rows
theorem bO.there {P:Program} {w:World} {H:Hp} {h:Heap} {a:Addr} {o:HO} (x:bO P w H h a o):∃ob,h.get? a=some ob:=by
 cases o with
 |lst xs=>obtain⟨_,_,_,_,e⟩:=x;exact⟨_,e⟩
 |tup xs=>obtain⟨_,_,_,o,e,_⟩:=x;exact⟨_,e⟩
 |dK kvs=>obtain⟨_,_,_,_,o,_,_,e,_⟩:=x;exact⟨_,e⟩
 |dT kvs=>obtain⟨_,_,_,_,o,_,_,e,_⟩:=x;exact⟨_,e⟩
 |set S n=>obtain⟨o,_,_,_,e,_⟩:=x;exact⟨_,e⟩
 |ins C dx fs=>obtain⟨_,_,_,e,_⟩:=x;exact⟨_,e⟩
 |own y=>obtain⟨_,e⟩:=x;exact⟨_,e⟩
 |xd fs=>obtain⟨_,⟨_,_,_,e,_⟩,_⟩:=x;exact⟨_,e⟩
 |rng lo hi=>obtain⟨_,_,_,e⟩:=x;exact⟨_,e⟩
 |frz ob u=>obtain⟨e,_⟩:=x;exact⟨_,e⟩
 |tbl ps=>exact⟨_,(show h.get? a=some _ from x)⟩
 |met f y=>exact⟨_,(show h.get? a=some _ from x)⟩
 |ext φ=>obtain⟨_,⟨_,e⟩,_⟩:=x;exact⟨_,e⟩
theorem gM.none_of {P:Program} {w:World} {H:Hp} {h:Heap} {a:Addr} (x:gM P w H h) (e:h.get? a=none):H a=none:=by
 cases q:H a with
 |none=>rfl
 |some o=>obtain⟨ob,z⟩:=(x a o q).there;rw[e]at z;cases z
structure nI (X:Cx) (pins:List (Addr×Obj)) (H:Hp) (b:Addr):Prop where
 s0:X.s₀.heap.get? b=none
 no:H b=none
 pin:∀p∈X.pn++pins,p.1≠b
structure vn (X:Cx) (pins:List (Addr×Obj)) (H:Hp) (h:Heap) (a T:Addr):Prop where
 new:nI X pins H T
 ne:T≠a
 at_:∃oT ts,h.get? T=some oT/\oT.data= .fields ts/\ts[3]? =some .none
structure Fl (X:Cx) (pins:List (Addr×Obj)) (H:Hp) (h:Heap) (a:Addr) (cls:Value):Prop where
 new:nI X pins H a
 at_:∃oe vs,h.get? a=some oe/\oe.cls=cls/\oe.data= .fields vs/\(vs[1]? =some .none\/∃T,vs[1]? =some (.ref T)/\vn X pins H h a T)
structure uA (X:Cx) (pins:List (Addr×Obj)) (H:Hp) (h:Heap) (a:Addr) (cls:Value):Prop where
 new:nI X pins H a
 at_:∃oe vs,h.get? a=some oe/\oe.cls=cls/\oe.data= .fields vs/\∃T,vs[1]? =some (.ref T)/\vn X pins H h a T
theorem uA.fl {X:Cx} {pins:List (Addr×Obj)} {H:Hp} {h:Heap} {a:Addr} {cls:Value} (f:uA X pins H h a cls):Fl X pins H h a cls:=
 let ⟨oe,vs,h1,h2,h3,h4⟩:=f.at_;⟨f.new,oe,vs,h1,h2,h3, .inr h4⟩
section
variable {X:Cx} {pins:List (Addr×Obj)} {σ:St} {H H':Hp} {s s':Shared} {a:Addr} {cls:Value}
structure fK (X:Cx):Prop where
 st:X.stack=X.env::X.outer
 fr:X.env.frame=some X.env.locals
 ex:X.ex=[]
theorem nI.of (I:au X pins σ H s) (p:fK X) {b:Addr} (h:s.heap.get? b=none) (hH:H' b=none):nI X pins H' b:=by
 refine⟨?_,hH,fun q hq z=> ?_⟩
 ·cases e:X.s₀.heap.get? b with
  |none=>rfl
  |some o=>
   obtain⟨o',e'⟩:=I.base.there b o e (by rw[p.ex];simp)
   rw[h]at e';cases e'
 ·have:=(I.pin q hq).1
  rw[z,h]at this;cases this
theorem _root_.PySem.Heap.TracedW.traced {h B:Heap} {a:Addr} {cls a0:Value} (t:h.TracedW B a cls a0):h.Traced B a cls:=
 let ⟨oe,vs,T,oT,ts,g1,g2,g3⟩:=t;⟨oe,vs,T,oT,ts,g1,g2.1,g3⟩
theorem iF (I:au X pins σ H s) (p:fK X) (fl:Fl X pins H s.heap a cls):∃(B:Heap) (oe:Obj) (vs:Array Value),s.heap.get? a=some oe/\oe.cls=cls/\oe.data= .fields vs/\s.heap.FunFrames B (X.env::X.outer)/\B.StaysIn s.heap/\B.get? a=none/\
  (vs[1]? =some .none\/∃T oT ts,vs[1]? =some (.ref T)/\B.get? T=none/\T≠a/\s.heap.get? T=some oT/\oT.data= .fields ts/\ts[3]? =some .none)/\
  ∀h',B.StaysIn h'->h'.Traced B a cls->s.heap.UpToSlots h'->au X pins σ H {s with heap:=h'}/\uA X pins H h' a cls:=by
 obtain⟨oe,vs,ge,gc,gd,gt⟩:=fl.at_
 obtain⟨rest,hrest,hnext⟩:∃rest:List Addr,(∀b∈rest,nI X pins H b/\∃oT ts,s.heap.get? b=some oT/\oT.data= .fields ts)/\(vs[1]? =some .none\/∃T,vs[1]? =some (.ref T)/\vn X pins H s.heap a T/\T∈rest):=by
  rcases gt with g|⟨T,g,t⟩
  ·exact⟨[],(fun b hb=>by cases hb), .inl g⟩
  ·obtain⟨oT,ts,e1,e2,_⟩:=t.at_
   exact⟨[T],fun b hb=>by rw[List.mem_singleton.mp hb];exact⟨t.new,oT,ts,e1,e2⟩, .inr ⟨T,g,t,List.mem_singleton.mpr rfl⟩⟩
 have fsub:∀b,b∈X.fs->b∈jg X.stack:=fun b hb=>by
  rw[p.st]
  unfold jg
  rw[List.filterMap_cons,p.fr]
  exact List.mem_cons_of_mem _ hb
 have lsub:X.env.locals∈jg X.stack:=by
  rw[p.st]
  unfold jg
  rw[List.filterMap_cons,p.fr]
  exact List.mem_cons_self
 have chN:∀b∈a::rest,nI X pins H b/\∃oT ts,s.heap.get? b=some oT/\oT.data= .fields ts:=fun b hb=>by
  rcases List.mem_cons.mp hb with rfl|hb
  ·exact⟨fl.new,oe,vs,ge,gd⟩
  ·exact hrest b hb
 have frD:∀b∈jg X.stack,∃o,s.heap.get? b=some o/\∀vs:Array Value,o.data≠Data.fields vs:=fun b hb=>(I.stack.mem hb).2
 have apart:∀b∈a::rest,b∉jg X.stack:=fun b hb z=>by
  obtain⟨_,o,ts,e1,e2⟩:=chN b hb
  obtain⟨o',e3,e4⟩:=frD b z
  rw[e1]at e3;cases e3
  exact e4 ts e2
 let hid:List Addr:=(a::rest)++jg X.stack
 let B:Heap:=PySem.W.hideAll s.heap hid
 have ff:s.heap.FunFrames B X.stack:=PySem.W.funFrames_hide I.stack fun env he b hb=>List.mem_append_right _ (List.mem_filterMap.mpr ⟨env,he,hb⟩)
 have hB:B.StaysIn s.heap:=fun b o e=>PySem.W.of_hideAll _ e
 have hBa:B.get? a=none:=PySem.W.hideAll_none _ (List.mem_append_left _ List.mem_cons_self)
 have ff':s.heap.FunFrames B (X.env::X.outer):=by rw[<-p.st];exact ff
 refine⟨B,oe,vs,ge,gc,gd,ff',hB,hBa,?_,fun h' st ⟨oe',vs',T',oT',ts',g1,g2,g3,g4,g5,g6,g7,g8,g9⟩ up=> ?_⟩
 ·rcases hnext with g|⟨T,g,t,hT⟩
  ·exact .inl g
  ·obtain⟨oT,ts,e1,e2,e3⟩:=t.at_
   exact .inr ⟨T,oT,ts,g,PySem.W.hideAll_none _ (List.mem_append_left _ (List.mem_cons_of_mem _ hT)),t.ne,e1,e2,e3⟩
 ·have inB:∀b o,s.heap.get? b=some o->b∉a::rest->b∉jg X.stack->h'.get? b=some o:=fun b o e n1 n2=>
   st b o (PySem.W.hideAll_get _ e fun z=>(List.mem_append.mp z).elim n1 n2)
  have newT:nI X pins H T':=by
   by_cases hr:T'∈rest
   ·exact(hrest T' hr).1
   ·have hn:s.heap.get? T'=none:=by
     cases e:s.heap.get? T' with
     |none=>rfl
     |some o=>
      by_cases hf:T'∈jg X.stack
      ·obtain⟨o',e3,e4⟩:=frD T' hf
       obtain⟨sl,e5⟩:=up T' o' e3 e4
       rw[g7]at e5;cases e5
       exact absurd g8 (e4 ts')
      ·have:=PySem.W.hideAll_get hid (b:=T') e fun z=>(List.mem_append.mp z).elim (fun q=>(List.mem_cons.mp q).elim g6 hr) hf
       rw[g5]at this;cases this
    exact nI.of I p hn (I.hok.none_of hn)
  refine⟨I.step (g':=s.gens) (d':=s.drawn) (t':=s.toks) (ch:=a::rest) (fun b hb=> ?_) (fun b o n1 n2 n3 e _=> ?_) (fun b o _ hb n3 e _=> ?_) (fun _ _ _ _ n=>n) (fun b o n e=> ?_) (fun _ _ e=>e) (fun _ _ _ e=>e) (fun b ps e=>⟨#[],by rw[e];simp⟩) (fun m hm=> ?_) (fun b u e=> ?_) I.bare,
   ⟨fl.new,oe',vs',g1,g2,g3,T',g4,newT,g6,oT',ts',g7,g8,g9⟩⟩
  ·obtain⟨n,o,ts,e1,e2⟩:=chN b hb
   refine⟨.inr n.s0,fun z=>apart b hb (by rw[z];exact lsub),fun x c hc z=> ?_,n.pin⟩
   obtain⟨v,o',e3,e4⟩:=I.cell x c hc
   rw[z,e1]at e3;cases e3
   rw[e2]at e4;cases e4
  ·exact inB b o e n3 fun z=>(List.mem_cons.mp (I.stkSub b z)).elim n1 n2
  ·obtain⟨o',e3,e4⟩:=frD b (fsub b hb)
   rw[e]at e3;cases e3
   exact up b o e e4
  ·by_cases hf:b∈jg X.stack
   ·obtain⟨o',e3,e4⟩:=frD b hf
    rw[e]at e3;cases e3
    obtain⟨sl,e5⟩:=up b o e e4
    exact⟨_,e5⟩
   ·exact⟨o,inB b o e n hf⟩
  ·obtain⟨o,es,ep,ho,hd,r⟩:=hm
   obtain⟨sl,e5⟩:=up _ o ho fun vs z=>by rw[hd]at z;cases z
   exact⟨_,es,ep,e5,hd,r⟩
  ·have nh:∀c v,H c=some v->c∉a::rest/\c∉jg X.stack:=fun c v hc=>⟨fun z=>(by have:=(chN c z).1.no;rw[hc]at this;cases this),fun z=>(by have:=I.stkFree c z;rw[hc]at this;cases this)⟩
   refine(I.hok b u e).stay (fun c v hc q=> ?_) (fun _ q=>q) fun _ _ q=>q
   rcases hc with z|z
   ·rw[z]at q ⊢;exact inB b v q (nh b u e).1 (nh b u e).2
   ·exact inB c v q (nh c _ z).1 (nh c _ z).2
theorem qQ {Q:Unit->Shared->Prop} {E:Value->Shared->Prop} (I:au X pins σ H s) (p:fK X) (fl:Fl X pins H s.heap a cls)
  (k:∀h',au X pins σ H {s with heap:=h'}->uA X pins H h' a cls->Q () {s with heap:=h'}):wpAny (model X.prog X.w) X.A (leaving X.env (.ref a)) Q E s:=by
 obtain⟨B,oe,vs,ge,gc,gd,ff,hB,hBa,hn,hk⟩:=iF I p fl
 have hfr:X.A.frames=some (X.env::X.outer):=by rw[I.ok.frames,p.st]
 have go:∀h',B.Left (X.env::X.outer) a oe.cls s.heap h'->Q () {s with heap:=h'}:=fun h' ⟨st,_,tr,up⟩=>by
  rw[gc]at tr
  obtain⟨I',f'⟩:=hk h' st tr up
  exact k h' I' f'
 rcases hn with g|⟨T,oT,ts,g1,g2,g3,g4,g5,g6⟩
 ·exact wpAny_leaving_first hfr ff p.fr ge hB hBa gd g go
 ·exact wpAny_leaving_next (cls:=oe.cls) hfr ff p.fr ⟨oe,vs,T,oT,ts,ge,rfl,gd,g1,g2,g3,g4,g5,g6⟩ hB hBa go
theorem qR {Q:Unit->Shared->Prop} {E:Value->Shared->Prop} (I:au X pins σ H s) (p:fK X) (fl:Fl X pins H s.heap a cls)
  (k:∀h',au X pins σ H {s with heap:=h'}->uA X pins H h' a cls->Q () {s with heap:=h'}):
  wpAny (model X.prog X.w) X.A (noteFrame (.ref a) X.env) (fun _ s₂=>wpAny (model X.prog X.w) X.A (setFlight (.ref a) none) Q E s₂) E s:=by
 obtain⟨B,oe,vs,ge,gc,gd,ff,hB,hBa,hn,hk⟩:=iF I p fl
 have hfr:X.A.frames=some (X.env::X.outer):=by rw[I.ok.frames,p.st]
 have size1:1<vs.size:=by
  have:vs[1]? ≠none:=by
   rcases hn with g|⟨T,oT,ts,g1,_⟩
   ·rw[g];simp
   ·rw[g1];simp
  by_cases z:1<vs.size
  ·exact z
  ·exact absurd (Array.getElem?_eq_none (Nat.le_of_not_lt z)) this
 obtain⟨a0,h0⟩:∃a0,vs[0]? =some a0:=⟨vs[0]'(by omega),by simp⟩
 rcases hn with g|⟨T,oT,ts,g1,g2,g3,g4,g5,g6⟩
 ·unfold noteFrame
  rw[p.fr]
  refine wpAny_bind (wpAny_field (o:=oe) ge (by rw[gd]) g ?_)
  refine wpAny_newEntryW (head:= .none) (hadNext:=false) hfr ff p.fr ge hB hBa gd size1 h0 fun h' z_=> ?_
  obtain⟨st,_,tr,up⟩:=z_
  rw[gc]at tr
  obtain⟨I',f'⟩:=hk h' st tr.traced up
  exact k h' I' f'
 ·refine wpAny_looks_onW (cls:=cls) (a0:=a0) hfr p.fr ⟨hB,hBa,ff,oe,vs,T,oT,ts,ge,⟨gc,h0⟩,gd,g1,g2,g3,g4,g5,g6⟩ fun h1 held u1=> ?_
  refine wpAny_landsW held fun h2 ⟨st,_,_,tr⟩ u2=> ?_
  obtain⟨I',f'⟩:=hk h2 st tr.traced (u1.trans u2)
  exact k h2 I' f'
noncomputable def yN (g:Heap) (H:Hp) (h:Heap) (a:Addr) (cls:Value):Prop:=g.get? a=none/\H a=none/\∃oe vs T oT ts,h.get? a=some oe/\oe.cls=cls/\oe.data= .fields vs/\vs[1]? =some (.ref T)/\g.get? T=none/\H T=none/\T≠a/\
 h.get? T=some oT/\oT.data= .fields ts/\ts[3]? =some .none
noncomputable def gB (P:Program) (w:World):oq:=fun outer H s E e s'=>∃a cls H',e= .ref a/\s'.os=s.os/\AllBare s'.gens/\Un (jg outer) [] H H' s.heap s'.heap/\gM P w H' s'.heap/\yN s.heap H' s'.heap a cls/\E cls (some a) H'
theorem vo {E:XK} {e:Value} (I:au X pins σ H s) (p:fK X) (h:gB X.prog X.w X.stack H s E e s'):∃a cls H',e= .ref a/\au X pins σ H' s'/\Fl X pins H' s'.heap a cls/\E cls (some a) H':=by
 obtain⟨a,cls,H',rfl,os,bare,un,hok,⟨n1,n2,oe,vs,T,oT,ts,g1,g2,g3,g4,g5,g6,g7,g8,g9,g10⟩,q⟩:=h
 refine⟨a,cls,H',rfl,I.call' os un hok bare (fun b hb=>by cases hb),⟨nI.of I p n1 n2,oe,vs,g1,g2,g3, .inr ⟨T,g4,nI.of I p g5 g6,g7,oT,ts,g8,g9,g10⟩⟩,q⟩
theorem jH {CX:oq} {P:Program} {w:World} {K:PySem.W.Frag} {mg:Str->Option Value} {base:Heap} {N:List Str} {qual:Str} {scope:Scope} {f:Addr} {cd:Value} {A:Around} {outer:List Env} {s:Shared} {H:Hp} {E:XK}:
  fK (eD CX P w K mg base N qual scope f cd A outer s H E):=⟨rfl,rfl,rfl⟩
theorem nJ {P:Program} {w:World} {K:PySem.W.Frag} {mg:Str->Option Value} {base:Heap} {N:List Str} {qual:Str} {scope:Scope} {f:Addr} {cd:Value} {A:Around} {outer:List Env} {s0:Shared} {H0:Hp} {E:XK}
  (I:au (eD (gB P w) P w K mg base N qual scope f cd A outer s0 H0 E) pins σ H s) (fl:Fl (eD (gB P w) P w K mg base N qual scope f cd A outer s0 H0 E) pins H s.heap a cls) (h:E cls (some a) H):
  (eD (gB P w) P w K mg base N qual scope f cd A outer s0 H0 E).xe (.ref a) s:=by
 refine qQ I jH fl fun h' I' f'=> ?_
 obtain⟨oe,vs,g1,g2,g3,T,g4,t⟩:=f'.at_
 obtain⟨oT,ts,g5,g6,g7⟩:=t.at_
 exact⟨a,cls,H,rfl,I'.os,I'.bare,I'.base,I'.hok,⟨f'.new.s0,f'.new.no,oe,vs,T,oT,ts,g1,g2,g3,g4,t.new.s0,t.new.no,t.ne,g5,g6,g7⟩,h⟩
end
end L2
namespace L2
open PySem PySem.Spec PyProof.Rows
theorem cn {α:Type} {M:Model} {A:Around} {t:Sem α} {r:α} {Q:α->Shared->Prop} {E:Value->Shared->Prop} {s:Shared} (l:PySem.W.Looks M s.heap t r) (q:Q r s):wpAny M A t Q E s:=l A Q E s (fun _ _ e=>e) q
theorem gR {M:Model} {h:Heap} {x C:Addr} {ox:Obj} (e:h.get? x=some ox) (hc:ox.cls= .ref C):PySem.W.Looks M h (typeOf (.ref x)) (.ref C):=fun A Q E s k q=>
 wpAny_bind (wpAny_loadPart (k _ _ e) (wpAny_pure (by rw[hc];exact q)))
theorem nK {prog:Program} {w:World} {A:Around} {s:Shared} {K:PySem.W.Frag} {x C:Addr} {R:Result->Shared->Prop} {ox:Obj} {tp:Value} (KX:K.In s.heap) (e:s.heap.get? x=some ox) (hc:ox.cls= .ref C) (hm:PySem.W.mroIn K C (.type "object")=some true)
  (q:R (.ok (.ret (.ref C))) s):codeAny (model prog w) A (.call (.builtin "getset_descriptor.__get__") {pos:=[.builtin "object.__class__", .ref x,tp]}) R s:=by
 refine codeAny_call_builtin PySem.W.KF.slot_gs.plain PySem.W.KF.entry_gs ?_
 refine PySem.W.KF.slot_gs.check _ _ _ _ _ _ _ _ PySem.W.KF.type_class (PySem.W.KF.args_gs _ _ _) ?_
 show wpAny _ _ (Builtin.Getset_descriptor.descrGet _) _ _ _
 unfold Builtin.Getset_descriptor.descrGet
 rw[PySem.W.dga_obj]
 refine wpAny_bind (wpAny_pure ?_)
 dsimp only
 unfold Builtin.Getset_descriptor.descrGetter
 dsimp only
 unfold Builtin.Getset_descriptor.descrCheckInstance Builtin.Getset_descriptor.descrNameAndClass
 dsimp only
 rw[PySem.W.KF.owner_class]
 refine wpAny_bind (wpAny_bind (wpAny_pure ?_))
 refine wpAny_bind (wpAny_bind (cn (gR e hc) (cn (PySem.W.looks_mroIn KX hm) ?_)))
 refine wpAny_pure ?_
 refine PySem.W.nd_pure ⟨Code.quiet_builtin _ (by decide+kernel),codeAny_builtin PySem.W.KF.entry_class ?_⟩
 show wpAny _ _ (do let t<-shownTypeOf (.ref x);ret t) _ _ _
 unfold shownTypeOf
 refine wpAny_bind (wpAny_bind (cn (gR e hc) ?_))
 rw[if_neg (by intro z;exact absurd z (by simp))]
 exact wpAny_pure (PySem.W.nd_pure q)
theorem tH {prog:Program} {w:World} {A:Around} {E:Value->Shared->Prop} {s:Shared} {K:PySem.W.Frag} {x C:Addr} {ox:Obj} {Q:Option Value->Shared->Prop} (KX:K.In s.heap) (e:s.heap.get? x=some ox) (hc:ox.cls= .ref C)
  (h1:PySem.W.findIn K (.ref C) "__getattribute__"=some (some (.builtin "BaseException.__getattribute__"))) (h2:PySem.W.findIn K (.ref C) "__getattr__"=some none) (h3:PySem.W.findIn K (.ref C) "__class__"=some (some (.builtin "object.__class__")))
  (h4:PySem.W.specialIn K (.builtin "object.__class__") "__get__"=some (some (.builtin "getset_descriptor.__get__"))) (h5:PySem.W.takesIn K (.builtin "object.__class__")=some true) (h6:PySem.W.mroIn K C (.type "object")=some true) (h7:PySem.W.mroIn K C (.type "BaseException")=some true)
  (q:Q (some (.ref C)) {s with toks:=s.toks+1}):wpAny (model prog w) A (getAttr? (.ref x) "__class__") Q E s:=by
 unfold getAttr?
 refine wpAny_bind (wpAny_mkText ?_)
 unfold getAttrBy?
 refine wpAny_bind (wpAny_attempt ?_)
 unfold getAttrBy
 refine wpAny_holding (wpAny_bind (cn (gR e hc) (wpAny_bind (cn (PySem.W.looks_findIn KX h1) ?_))))
 dsimp only
 rw[if_neg (by rw[show (Value.builtin "BaseException.__getattribute__"==Value.builtin "object.__getattribute__")=false by decide+kernel,Bool.and_false];simp)]
 unfold getAttrByItsOwn hookBefore
 refine wpAny_bind ?_
 rw[if_pos (by rfl)]
 refine cn (PySem.W.looks_findIn KX h2) ?_
 refine wpAny_bind (wpAny_attempt (wpAny_holding ?_))
 unfold callGetattribute
 rw[if_neg (by simp)]
 unfold boundAndCalled
 rw[F.attrBase_ValueError.ga.bind]
 refine wpAny_bind (wpAny_pure ?_)
 dsimp only
 refine wpAny_call (codeAny_call_builtin F.attrBase_ValueError.ga.plain F.entry_bexc_ga ?_)
 show wpAny _ _ (checkBuiltinCall "BaseException.__getattribute__" {pos:=Value.ref x::[Value.str (Str.ofString "__class__") s.toks],kw:=[]}) _ _ _
 refine PySem.W.check_slot (i:="BaseException.__getattribute__") (owner:="BaseException") (n:="__getattribute__") PySem.wpAny_check_ga_own._proof_1_1 PySem.wpAny_check_ga_own._proof_1_2 (fun A Q E s k q=>wpAny_bind (gR e hc A _ E s k (PySem.W.looks_mroIn KX h7 A _ E s k q))) (F.args_bexc_ga _ _) ?_
 unfold Builtin.«object.__getattribute__»
 refine wpAny_bind (wpAny_pure (a:=(Value.ref x,[Value.str (Str.ofString "__class__") s.toks])) ?_)
 dsimp only
 refine wpAny_bind (wpAny_pure (a:=Str.ofString "__class__") ?_)
 refine wpAny_bind (cn (gR e hc) ?_)
 refine wpAny_bind ?_
 unfold Builtin.ObjectAttr.find
 refine wpAny_bind (cn (PySem.W.looks_findIn KX h3) ?_)
 refine wpAny_bind ?_
 show wpAny _ _ (specialOf _ _) _ _ _
 refine cn (PySem.W.looks_specialIn KX h4) ?_
 refine wpAny_bind ?_
 show wpAny _ _ (do let b<-Builtin.ObjectAttr.takesStores (Value.builtin "object.__class__");if b=true then pure (some (Value.builtin "getset_descriptor.__get__",Value.builtin "object.__class__"))else pure none) _ _ _
 refine wpAny_bind (cn (PySem.W.looks_takesIn KX h5) ?_)
 rw[if_pos rfl]
 refine wpAny_pure ?_
 dsimp only
 refine wpAny_bind (wpAny_rule (wpAny_pure ?_))
 dsimp only
 unfold Builtin.ObjectAttr.bindTo
 dsimp only
 refine wpAny_bind (wpAny_holding (wpAny_call (nK KX e hc h6 ?_)))
 refine PySem.W.nd_pure ?_
 exact PySem.W.handed_on (by rfl) (wpAny_pure q)
def jI:List Value:=[.type "ValueError", .type "Exception", .type "BaseException", .type "object"]
structure ie (K:PySem.W.Frag) (C:Addr):Prop where
 exc:∃newId Bn inN bmN,PySem.W.excIn K C jI newId=true/\ExcBaseFacts Bn newId inN bmN/\jI.contains (.type Bn)=true
 ga:PySem.W.findIn K (.ref C) "__getattribute__"=some (some (.builtin "BaseException.__getattribute__"))
 gt:PySem.W.findIn K (.ref C) "__getattr__"=some none
 kc:PySem.W.findIn K (.ref C) "__class__"=some (some (.builtin "object.__class__"))
 sp:PySem.W.specialIn K (.builtin "object.__class__") "__get__"=some (some (.builtin "getset_descriptor.__get__"))
 tk:PySem.W.takesIn K (.builtin "object.__class__")=some true
 mo:PySem.W.mroIn K C (.type "object")=some true
 mb:PySem.W.mroIn K C (.type "BaseException")=some true
 kk:PySem.W.kitCls K (.ref C) (.ref C)=some true
theorem oN {K:PySem.W.Frag} {h:Heap} {C:Addr} {bmB:List Value} {newId:String} (KX:K.In h) (e:PySem.W.excIn K C bmB newId=true):∃bm N nm q bs hdct sn sub ab col dd k0 k1 k2 k3 k5 mN,
  h.get? C=some (excClassObj nm q C N bs bm hdct sn sub ab col dd k0 k1 k2 k3 k5 newId)/\h.Ns N mN/\mN (Str.ofString "__init__")=none/\OwnTail h bmB bm:=by
 unfold PySem.W.excIn at e
 split at e
 ·split at e
  ·rename_i dd cd sl lk _ _ C' bm k0 k1 k2 k3 n k5 e1 e2
   simp only[Bool.and_eq_true]at e
   obtain⟨⟨⟨⟨⟨a1,a2⟩,a3⟩,a4⟩,a5⟩,a6⟩:=e
   have b1:C'=C:=eq_of_beq a1
   have b2:n=newId:=eq_of_beq a2
   subst b1 b2
   have g:=KX _ _ lk
   have esl:sl= #[k0,k1,k2,k3,some (Value.builtin n),k5]:=by rw[<-Array.toList_inj];exact e2
   have hdel:cd.hasDel=false:=by simpa using a3
   obtain⟨nm,bs,mro,N,q,hd,sn,sb,ab,col,del⟩:=cd
   dsimp only at e1 hdel a4 a5 a6
   subst e1 esl hdel
   exact⟨bm,N,nm,q,bs,hd,sn,sb,ab,col,dd,k0,k1,k2,k3,k5,_,g,Heap.Ns.of_isNs (PySem.W.isNs_of_in KX a5),PySem.W.nsMap_none_of_in KX a5 (eq_of_beq a6),PySem.W.tail_of_in KX a4⟩
  ·cases e
 ·cases e
theorem qS {K:PySem.W.Frag} {x C:Addr} (k:ie K C):PySem.W.KitX K (.ref x) (.ref C) fun h=>∃ox,h.get? x=some ox/\ox.cls= .ref C where
 ty:=fun M h _ ⟨ox,e,hc⟩=>gR e hc
 it:=fun M h KX _=>(PySem.W.kit_cls KX k.kk).2.1
 ne:=fun h tp dd its n sl KX e=>by
  cases z:(Value.ref C==Value.ref tp)with
  |false=>rfl
  |true=>
   have ez:Value.ref C=Value.ref tp:=eq_of_beq z
   cases ez
   obtain⟨newId,_,_,_,ei,_⟩:=k.exc
   obtain⟨bm,N,nm,q,bs,hd,sn,sb,ab,col,dd,k0,k1,k2,k3,k5,mN,g,_⟩:=oN KX ei
   rw[e]at g
   exact absurd (congrArg Obj.data (Option.some.inj g)) (fun z=>by cases z)
 ca:=fun {prog w A E Q s} KX ⟨ox,e,hc⟩ q=>tH KX e hc k.ga k.gt k.kc k.sp k.tk k.mo k.mb q
end L2
namespace L2
open PySem PySem.Spec PyProof.Rows
section
variable {X:Cx} {pins:List (Addr×Obj)} {σ:St} {H:Hp} {s:Shared} {a:Addr} {cls:Value} {x:Str} {np cpos pos:Pos} {e:Expr} {es:List Expr} {t:TA} {C:Addr}
noncomputable def qT (X:Cx) (C:Addr) (t:TA):TS:=fun _ σ H=>t σ H fun vs H1=>vs.length<=sizeLine/\∀pins s a,au X pins σ H1 s->Fl X pins H1 s.heap a (.ref C)->X.xe (.ref a) s
theorem tJ {h':Heap} {vs:List Value} (I:au X pins σ H s) (p:fK X) (m:s.heap.MadeExcOf h' a cls vs):au X pins σ H {s with heap:=h'}/\Fl X pins H h' a cls:=by
 obtain⟨tp,g1,g2,g3⟩:=m.there
 exact⟨I.kept (t':=s.toks) m.keeps,nI.of I p m.new (I.hok.none_of m.new),_,_,g1,rfl,rfl, .inl rfl⟩
theorem qU (k:ie X.K C) (hm:X.mg x=some (.ref C)) (p:fK X) (hc:X.calm=true) (ha:PA X (e::es) t) (hg:Gl X x:=by rfl) (hdb:(x==("__debug__":Str))=false:=by decide)
  (he:starEach (e::es) X.env=(false,eval e X.env)::starEach es X.env:=by rfl) (hpl:(backTo cpos (starEach es X.env)).any (·.1)=false:=by rfl):PS X (.Raise (some (.Call (.Name x np) (e::es) [] cpos)) none pos) (qT X C t):=by
 intro pins s σ H D I h
 obtain⟨newId,Bn,inN,bmN,ei,fB,hB⟩:=k.exc
 obtain⟨bm,N,nm,q,bs,hd,sn,sb,ab,col,dd,k0,k1,k2,k3,k5,mN,g,ns,ni,tl⟩:=oN I.ok.mod.kin ei
 have hcons:backTo cpos (starEach (e::es) X.env)=(false,eval e X.env)::backTo cpos (starEach es X.env):=by rw[he];rfl
 refine wpAny_Raise_call_subU (nm:=nm) (q:=q) (C:=C) (N:=N) (bs:=bs) (hdct:=hd) (sn:=sn) (sub:=sb) (ab:=ab) (col:=col) (dd:=dd) (k0:=k0) (k1:=k1) (k2:=k2) (k3:=k3) (k5:=k5) fB hB F.excBase_ValueError (tl.hasType (by decide)) (I.ok.hd hc) (by rw[hcons];exact hpl) ni (hW I hg hm ⟨rfl,?_⟩ hdb)
 rw[hcons]
 refine Calls.evalArgs_plain ?_
 rw[<-hcons]
 refine cg (ha cpos pins s σ H _ I h) fun us s1 ⟨vs,H1,I1,r,z,q1⟩=>⟨rfl,by rw[<-r.length];exact z,I1.bk _ _ g,ns.keeps I1.bk,tl.keeps I1.bk,fun h' a m=> ?_⟩
 obtain⟨I2,f2⟩:=tJ I1 p m
 exact q1 pins _ a I2 f2
noncomputable abbrev Cx.inH (X:Cx) (v:Value):Cx:={X with A:=X.A.mark (some v),calm:=false,xe:=fun _ _=>False}
theorem Cx.Ok.inH {v:Value} (ok:X.Ok):(X.inH v).Ok:=⟨ok.mod,ok.kind,ok.glob,ok.blt,ok.above,ok.inj,ok.has,ok.cab,(fun z=>by cases z),ok.frames,ok.stk,ok.exf,ok.bs,ok.bsz,ok.noex,ok.exfs,ok.funs,ok.frf⟩
theorem au.inH {v:Value} (I:au X pins σ H s):au (X.inH v) pins σ H s:=⟨I.ok.inH,I.os,I.bare,I.base,I.loc,I.cell,I.free,I.freeC,I.pin,I.hok,I.len⟩
theorem au.outH {v:Value} (ok:X.Ok) (I:au (X.inH v) pins σ H s):au X pins σ H s:=⟨ok,I.os,I.bare,I.base,I.loc,I.cell,I.free,I.freeC,I.pin,I.hok,I.len⟩
theorem au.track {o:HO} {oa:Obj} {vs:Array Value} (I:au X pins σ H s) (n:nI X pins H a) (ga:s.heap.get? a=some oa) (gd:oa.data= .fields vs) (new:bO X.prog X.w (bn H a o) s.heap a o):au X pins σ (bn H a o) s:=by
 have ne:∀b u,H b=some u->b≠a:=fun b u e z=>by rw[z,n.no]at e;cases e
 have neL:X.env.locals≠a:=fun z=>by
  obtain⟨m,⟨o,es,ep,ho,hd,_⟩,_⟩:=I.loc
  rw[z,ga]at ho;cases ho
  rw[gd]at hd;cases hd
 have neC:∀y c,X.env.cells.lookup y=some c->c≠a:=fun y c e z=>by
  obtain⟨v,o,ho,hd⟩:=I.cell y c e
  rw[z,ga]at ho;cases ho
  rw[gd]at hd;cases hd
 refine⟨I.ok,I.os,I.bare,⟨I.base.keep,I.base.slot,fun b o e n' hx=> ?_,I.base.there,fun b xs e=> ?_,fun b o u e=> ?_,fun b ps e=> ?_⟩,I.loc,I.cell,by rw[aj neL];exact I.free,fun y c e=>by rw[aj (neC y c e)];exact I.freeC y c e,fun p hp=> ?_,fun b u e=> ?_,I.len⟩
 ·rw[aj (fun z=>by rw[z,n.s0]at e;cases e)];exact I.base.free b o e n' hx
 ·have q:=I.base.tups b xs e
  rw[aj (ne b _ q)];exact q
 ·have q:=I.base.frzs b o u e
  rw[aj (ne b _ q)];exact q
 ·obtain⟨more,q⟩:=I.base.tbls b ps e
  exact⟨more,by rw[aj (ne b _ q)];exact q⟩
 ·obtain⟨e,n',r⟩:=I.pin p hp
  exact⟨e,by rw[aj (n.pin p hp)];exact n',r⟩
 ·by_cases z:b=a
  ·subst z;rw[ar]at e;cases e;exact new
  ·rw[aj z]at e
   refine(I.hok b u e).stay (fun _ _ _ q=>q) (fun c q=> ?_) fun c xs q=> ?_
   ·rw[aj (ne c _ q)];exact q
   ·rw[aj (ne c _ q)];exact q
theorem pS {M:Model} {A:Around} {E:Value->Shared->Prop} {i:Nat} {n:Str} {Q:Unit->Shared->Prop} (I:au X pins σ H s) (hN:X.N.Nodup) (hi:X.N[i]? =some n) (hk:X.env.kindOf n=some .local)
  (k:∀s',au X pins (σ.set i none) H s'->Q () s'):wpAny M A (do bindName X.env n Value.none;unbindBehindTheSuite X.env n pos) Q E s:=by
 obtain⟨m,hn,hl⟩:=id I.loc
 refine wpAny_nameGoes_keeps hk hn (by rw[I.ok.kind];rfl) fun h' v hn' hs=>k _ ?_
 have neL:∀b o,X.s₀.heap.get? b=some o->b≠X.env.locals:=fun b o e=>Nat.ne_of_lt (Nat.lt_of_lt_of_le (Heap.lt_size e) I.ok.above)
 refine⟨I.ok,I.os,I.bare,⟨fun b o e n hb hx=>(hs.2 b (neL b o e)).trans (I.base.keep b o e n hb hx),fun b o e n hb hx=> ?_,I.base.free,fun b o e hx=> ?_,I.base.tups,I.base.frzs,I.base.tbls⟩,⟨_,hn',fun j y v' e1 e2 e3=> ?_⟩,fun y c e=> ?_,I.free,I.freeC,fun p hp=> ?_,fun b u e=> ?_,by simpa using I.len⟩
 ·obtain⟨sl,e1⟩:=I.base.slot b o e n hb hx
  exact⟨sl,(hs.2 b (neL b o e)).trans e1⟩
 ·obtain⟨o',e1⟩:=I.base.there b o e hx
  exact⟨o',(hs.2 b (neL b o e)).trans e1⟩
 ·by_cases hj:j=i
  ·subst hj
   rw[List.getElem?_set]at e2
   split at e2
   ·split at e2<;>cases e2
   ·exact absurd rfl ‹_›
  ·rw[List.getElem?_set_ne (Ne.symm hj)]at e2
   obtain⟨u',r',q⟩:=hl j y v' e1 e2 e3
   refine⟨u',r',?_⟩
   have ny:y≠n:=fun e=>hj (jt hN e1 (e▸hi))
   rcases q with ⟨k,e⟩|⟨k,c,e,z⟩
   ·exact .inl ⟨k,by show (if y=n then v else m y)=_;rw[if_neg ny];exact e⟩
   ·exact .inr ⟨k,c,e,z.sameBut hs (I.cne y c e)⟩
 ·obtain⟨w',z⟩:=I.cell y c e
  exact⟨w',z.sameBut hs (I.cne y c e)⟩
 ·obtain⟨e,n,ne,nf,d⟩:=I.pin p hp
  exact⟨(hs.2 p.1 ne).trans e,n,ne,nf,d⟩
 ·refine(I.hok b u e).stay (fun c v hc q=>(hs.2 c ?_).trans q) (fun _ q=>q) fun _ _ q=>q
  rintro rfl
  have:=I.free
  rcases hc with z|z
  ·rw[<-z,this]at e;cases e
  ·rw[this]at z;cases z
noncomputable def eP (a:Addr) (cls:Value):Heap->Prop:=fun h=>∃o,h.get? a=some o/\o.cls=cls
theorem pT {P:Program} {w:World} {h:Heap} (e:eP a cls h):bO P w H h a (.ext (eP a cls)):=by
 obtain⟨o,h1,h2⟩:=e
 exact⟨⟨o,h1,h2⟩,⟨o,h1⟩,fun g1 g2 ⟨o',e1,e2⟩ k=>⟨o',k _ e1,e2⟩⟩
theorem vp (I:au X pins σ H s) (p:fK X) (fl:uA X pins H s.heap a cls) {Q:Unit->Shared->Prop} {E:Value->Shared->Prop} {A:Around}
  (k:∀h',au X pins σ H {s with heap:=h'}->uA X pins H h' a cls->Q () {s with heap:=h'}):wpAny (model X.prog X.w) A (setFlight (.ref a) none) Q E s:=by
 obtain⟨B,oe,vs,ge,gc,gd,ff,hB,hBa,hn,hk⟩:=iF I p fl.fl
 rcases hn with g|⟨T,oT,ts,g1,g2,g3,g4,g5,g6⟩
 ·obtain⟨oe',vs',e1,e2,e3,T,e4,_⟩:=fl.at_
  rw[ge]at e1;cases e1
  rw[gd]at e3;cases e3
  rw[g]at e4;cases e4
 ·have size1:1<vs.size:=by
   by_cases z:1<vs.size
   ·exact z
   ·rw[Array.getElem?_eq_none (Nat.le_of_not_lt z)]at g1;cases g1
  obtain⟨a0,h0⟩:∃a0,vs[0]? =some a0:=⟨vs[0]'(by omega),by simp⟩
  refine lands_againW (base:=B) (l:=X.env::X.outer) (cls:=cls) (a0:=a0) ⟨hB,hBa,ff,oe,vs,T,oT,ts,ge,⟨gc,h0⟩,gd,g1,g2,g3,g4,g5,g6⟩ fun h2 ⟨st,_,_,tr⟩ up=> ?_
  obtain⟨I',f'⟩:=hk h2 st tr.traced up
  exact k h2 I' f'
theorem pU {Cx':Addr} {cx n:Str} {i:Nat} {hpos:Pos} {b₀:Stmt} {suite:List Stmt} {rest:List ExceptHandler} {Q:Flow->Shared->Prop} {E:Value->Shared->Prop} (I:au X pins σ H s) (p:fK X) (fl:uA X pins H s.heap a (.ref C)) (hN:X.N.Nodup) (hi:X.N[i]? =some n)
  (hk:X.env.scope.names.lookup n=some .local) (hg:Gl X cx) (hm:X.mg cx=some (.ref Cx')) (hx:PySem.W.exmOne X.K (.ref C) (.ref Cx')=some true) (hdb:(cx==("__debug__":Str))=false)
  (k:∀s',au (X.inH (.ref a)) pins (σ.set i (some (.ref a))) (bn H a (.ext (eP a (.ref C)))) s'->
   wpAny (model X.prog X.w) (X.inH (.ref a)).A (execs (b₀::suite) X.env) (fun f s3=>wpAny (model X.prog X.w) X.A (do bindName X.env n Value.none;unbindBehindTheSuite X.env n hpos) (fun _ s5=>Q f s5) E s3) (fun _ _=>False) s'):
  wpAny (model X.prog X.w) X.A (handleBy (.ref a) X.env (.ExceptHandler (some (.Name cx np)) (some n) (b₀::suite) hpos::rest)) Q E s:=by
 refine wpAny_handleBy_cons (codeAny_handlers_test ?_) (by intro z;cases z)
 refine hW (X:=X.inH (.ref a)) I.inH hg hm ?_ hdb
 obtain⟨oe,vs,ge,gc,gd,_⟩:=fl.at_
 refine cn (PySem.W.exm_one I.kIn (gR ge gc) hx) ?_
 rw[if_pos rfl]
 refine codeAny_handlers_suite_as ?_
 refine vp I p fl fun h2 I2 f2=> ?_
 obtain⟨oe,vs,ge,gc,gd,_⟩:=f2.at_
 have I3:au X pins σ (bn H a (.ext (eP a (.ref C)))) {s with heap:=h2}:=I2.track f2.new ge gd (pT ⟨oe,ge,gc⟩)
 refine ju (X:=X.inH (.ref a)) I3.inH hN hi (.inl hk) (v:= .ref a) rfl (fun s' I'=> ?_) (.inr hk)
 exact wpAny_mono (k s' I') (fun f s3 q=>q) fun _ _ z=>z.elim
end
end L2
namespace L2.Pu
open PySem PySem.Spec PyProof.Rows
structure du where
 x:Nat
 C:Addr
 fl:List (Str×Nat)
variable {ly:List du}
inductive D where
 |non|bl (b:Bool)|int (i:Int)|str (x:Str)|tup (ds:List D)|lst (ds:List D)|dic (kds:List (cb×D))|ins (x:Str) (fs:List (Str×D))|scr (ns:List Int)|exc (x:Str)
mutual
inductive cI (K:PySem.W.Frag) (F:Hp):V->D->Prop
 |non:cI K F .non .non
 |bl (b:Bool):cI K F (.bl b) (.bl b)
 |int (i:Int):cI K F (.int i) (.int i)
 |str (x:Str):cI K F (.str x) (.str x)
 |tup {a:Addr} {vs:List V} {ds:List D}:F a=some (.tup vs)->Reps K F vs ds->cI K F (.ref a) (.tup ds)
 |lst {a:Addr} {vs:List V} {ds:List D}:F a=some (.lst vs)->Reps K F vs ds->cI K F (.ref a) (.lst ds)
 |scr {a:Addr} {ns:List Int}:dr K F a (ns.map V.int)->cI K F (.ref a) (.scr ns)
 |dic {a:Addr} {kvs:List (cb×V)} {kds:List (cb×D)}:F a=some (.dK kvs)->RepK K F kvs kds->(kvs.map (·.1)).Nodup->cI K F (.ref a) (.dic kds)
 |ins {a C dx:Addr} {x:Str} {fs vs:List (Str×V)} {fds:List (Str×D)}:F a=some (.ins C dx fs)->F dx=some (.own a)->PySem.W.nsIn K mainGlobals x=some (some (.ref C))->(∀p∈vs,fs.lookup p.1=some p.2)->(∀f v,fs.lookup f=some v->f∈vs.map (·.1))->RepF K F vs fds->cI K F (.ref a) (.ins x fds)
 |exc {a C:Addr} {x:Str}:F a=some (.ext (eP a (.ref C)))->PySem.W.nsIn K mainGlobals x=some (some (.ref C))->cI K F (.ref a) (.exc x)
inductive Reps (K:PySem.W.Frag) (F:Hp):List V->List D->Prop
 |nil:Reps K F [] []
 |cons {v:V} {d:D} {vs:List V} {ds:List D}:cI K F v d->Reps K F vs ds->Reps K F (v::vs) (d::ds)
inductive RepK (K:PySem.W.Frag) (F:Hp):List (cb×V)->List (cb×D)->Prop
 |nil:RepK K F [] []
 |cons {k:cb} {v:V} {d:D} {vs:List (cb×V)} {ds:List (cb×D)}:cI K F v d->RepK K F vs ds->RepK K F ((k,v)::vs) ((k,d)::ds)
inductive RepF (K:PySem.W.Frag) (F:Hp):List (Str×V)->List (Str×D)->Prop
 |nil:RepF K F [] []
 |cons {k:Str} {v:V} {d:D} {vs:List (Str×V)} {ds:List (Str×D)}:cI K F v d->RepF K F vs ds->RepF K F ((k,v)::vs) ((k,d)::ds)
end
theorem ig {K:PySem.W.Frag} {F F':Hp} {a:Addr} {xs:List V} (e:aF F F') (h:dr K F a xs):dr K F' a xs:=e.seq h
theorem cI.mono {K:PySem.W.Frag} {F F':Hp} (e:aF F F') {v:V} {d:D} (h:cI K F v d):cI K F' v d:=
 cI.rec (motive_1:=fun v d _=>cI K F' v d) (motive_2:=fun v d _=>Reps K F' v d) (motive_3:=fun v d _=>RepK K F' v d) (motive_4:=fun v d _=>RepF K F' v d) .non .bl .int .str (fun h _ r=> .tup (e _ _ h) r) (fun h _ r=> .lst (e _ _ h) r) (fun h=> .scr (ig e h)) (fun h _ n r=> .dic (e _ _ h) r n) (fun h h2 n l1 l2 _ r=> .ins (e _ _ h) (e _ _ h2) n l1 l2 r) (fun h n=> .exc (e _ _ h) n) .nil (fun _ _ a b=> .cons a b) .nil (fun _ _ a b=> .cons a b) .nil (fun _ _ a b=> .cons a b) h
theorem Reps.mono {K:PySem.W.Frag} {F F':Hp} (e:aF F F') {v:List V} {d:List D} (h:Reps K F v d):Reps K F' v d:=
 Reps.rec (motive_1:=fun v d _=>cI K F' v d) (motive_2:=fun v d _=>Reps K F' v d) (motive_3:=fun v d _=>RepK K F' v d) (motive_4:=fun v d _=>RepF K F' v d) .non .bl .int .str (fun h _ r=> .tup (e _ _ h) r) (fun h _ r=> .lst (e _ _ h) r) (fun h=> .scr (ig e h)) (fun h _ n r=> .dic (e _ _ h) r n) (fun h h2 n l1 l2 _ r=> .ins (e _ _ h) (e _ _ h2) n l1 l2 r) (fun h n=> .exc (e _ _ h) n) .nil (fun _ _ a b=> .cons a b) .nil (fun _ _ a b=> .cons a b) .nil (fun _ _ a b=> .cons a b) h
theorem RepK.mono {K:PySem.W.Frag} {F F':Hp} (e:aF F F') {v:List (cb×V)} {d:List (cb×D)} (h:RepK K F v d):RepK K F' v d:=
 RepK.rec (motive_1:=fun v d _=>cI K F' v d) (motive_2:=fun v d _=>Reps K F' v d) (motive_3:=fun v d _=>RepK K F' v d) (motive_4:=fun v d _=>RepF K F' v d) .non .bl .int .str (fun h _ r=> .tup (e _ _ h) r) (fun h _ r=> .lst (e _ _ h) r) (fun h=> .scr (ig e h)) (fun h _ n r=> .dic (e _ _ h) r n) (fun h h2 n l1 l2 _ r=> .ins (e _ _ h) (e _ _ h2) n l1 l2 r) (fun h n=> .exc (e _ _ h) n) .nil (fun _ _ a b=> .cons a b) .nil (fun _ _ a b=> .cons a b) .nil (fun _ _ a b=> .cons a b) h
theorem RepF.mono {K:PySem.W.Frag} {F F':Hp} (e:aF F F') {v:List (Str×V)} {d:List (Str×D)} (h:RepF K F v d):RepF K F' v d:=
 RepF.rec (motive_1:=fun v d _=>cI K F' v d) (motive_2:=fun v d _=>Reps K F' v d) (motive_3:=fun v d _=>RepK K F' v d) (motive_4:=fun v d _=>RepF K F' v d) .non .bl .int .str (fun h _ r=> .tup (e _ _ h) r) (fun h _ r=> .lst (e _ _ h) r) (fun h=> .scr (ig e h)) (fun h _ n r=> .dic (e _ _ h) r n) (fun h h2 n l1 l2 _ r=> .ins (e _ _ h) (e _ _ h2) n l1 l2 r) (fun h n=> .exc (e _ _ h) n) .nil (fun _ _ a b=> .cons a b) .nil (fun _ _ a b=> .cons a b) .nil (fun _ _ a b=> .cons a b) h
section
variable {K:PySem.W.Frag} {F:Hp}
noncomputable def qV (K:PySem.W.Frag) (F:Hp) (v:V):D->Prop
 | .non=>v= .non
 | .bl b=>v= .bl b
 | .int i=>v= .int i
 | .str x=>v= .str x
 | .tup ds=>∃a vs,v= .ref a/\F a=some (.tup vs)/\Reps K F vs ds
 | .lst ds=>∃a vs,v= .ref a/\F a=some (.lst vs)/\Reps K F vs ds
 | .scr ns=>∃a,v= .ref a/\dr K F a (ns.map V.int)
 | .dic kds=>∃a kvs,v= .ref a/\F a=some (.dK kvs)/\RepK K F kvs kds/\(kvs.map (·.1)).Nodup
 | .ins x fds=>∃a C dx fs vs,v= .ref a/\F a=some (.ins C dx fs)/\PySem.W.nsIn K mainGlobals x=some (some (.ref C))/\(∀p∈vs,fs.lookup p.1=some p.2)/\(∀f v,fs.lookup f=some v->f∈vs.map (·.1))/\RepF K F vs fds
 | .exc x=>∃a C,v= .ref a/\F a=some (.ext (eP a (.ref C)))/\PySem.W.nsIn K mainGlobals x=some (some (.ref C))
theorem cI.inv {v:V} {d:D} (h:cI K F v d):qV K F v d:=by
 cases h with
 |non=>exact rfl
 |bl=>exact rfl
 |int=>exact rfl
 |str=>exact rfl
 |tup h r=>exact⟨_,_,rfl,h,r⟩
 |lst h r=>exact⟨_,_,rfl,h,r⟩
 |scr h=>exact⟨_,rfl,h⟩
 |dic h r n=>exact⟨_,_,rfl,h,r,n⟩
 |ins h1 _ h3 h4 h5 h6=>exact⟨_,_,_,_,_,rfl,h1,h3,h4,h5,h6⟩
 |exc h n=>exact⟨_,_,rfl,h,n⟩
theorem RepK.nilI {vs:List (cb×V)} (h:RepK K F vs []):vs=[]:=by cases h;rfl
theorem RepK.consI {vs:List (cb×V)} {k:cb} {d:D} {ds:List (cb×D)} (h:RepK K F vs ((k,d)::ds)):∃v us,vs=(k,v)::us/\cI K F v d/\RepK K F us ds:=by
 cases h with
 |cons r t=>exact⟨_,_,rfl,r,t⟩
theorem Reps.nilI {vs:List V} (h:Reps K F vs []):vs=[]:=by cases h;rfl
theorem Reps.consI {vs:List V} {d:D} {ds:List D} (h:Reps K F vs (d::ds)):∃v us,vs=v::us/\cI K F v d/\Reps K F us ds:=by
 cases h with
 |cons r t=>exact⟨_,_,rfl,r,t⟩
theorem cI.intI {v:V} {i:Int} (h:cI K F v (.int i)):v= .int i:=h.inv
theorem Reps.int1 {vs:List V} {i:Int} (h:Reps K F vs [.int i]):vs=[.int i]:=by
 obtain⟨v,us,rfl,r,t⟩:=h.consI
 rw[t.nilI,r.intI]
theorem Reps.int2 {vs:List V} {i j:Int} (h:Reps K F vs [.int i, .int j]):vs=[.int i, .int j]:=by
 obtain⟨v,us,rfl,r,t⟩:=h.consI
 rw[t.int1,r.intI]
theorem Reps.length:∀{vs:List V} {ds:List D},Reps K F vs ds->vs.length=ds.length:=by
 intro vs ds
 induction ds generalizing vs with
 |nil=>intro h;rw[h.nilI];rfl
 |cons d ds ih=>
  intro h
  obtain⟨v,us,rfl,_,t⟩:=h.consI
  rw[List.length_cons,List.length_cons,ih t]
theorem RepK.length:∀{vs:List (cb×V)} {ds:List (cb×D)},RepK K F vs ds->vs.length=ds.length:=by
 intro vs ds
 induction ds generalizing vs with
 |nil=>intro h;rw[h.nilI];rfl
 |cons d ds ih=>
  intro h
  obtain⟨v,us,rfl,_,t⟩:=RepK.consI (k:=d.1) (d:=d.2) h
  rw[List.length_cons,List.length_cons,ih t]
theorem Reps.append:∀{vs us:List V} {ds es:List D},Reps K F vs ds->Reps K F us es->Reps K F (vs++us) (ds++es):=by
 intro vs us ds
 induction ds generalizing vs with
 |nil=>intro es h g;rw[h.nilI];exact g
 |cons d ds ih=>
  intro es h g
  obtain⟨v,us,rfl,r,t⟩:=h.consI
  exact .cons r (ih t g)
theorem Reps.get:∀{vs:List V} {ds:List D} {i:Nat} {d:D},Reps K F vs ds->ds[i]? =some d->∃v,vs[i]? =some v/\cI K F v d
 |_,_,_,_, .nil,h=>by simp at h
 |_,_,0,_, .cons r t,h=>by simp at h;subst h;exact⟨_,rfl,r⟩
 |_,_,i+1,_, .cons r t,h=>by
  obtain⟨v,h1,h2⟩:=t.get (i:=i) (by simpa using h)
  exact⟨v,by simpa using h1,h2⟩
theorem Reps.get':∀{vs:List V} {ds:List D} {i:Nat} {v:V},Reps K F vs ds->vs[i]? =some v->∃d,ds[i]? =some d/\cI K F v d
 |_,_,_,_, .nil,h=>by simp at h
 |_,_,0,_, .cons r t,h=>by simp at h;subst h;exact⟨_,rfl,r⟩
 |_,_,i+1,_, .cons r t,h=>by
  obtain⟨v,h1,h2⟩:=t.get' (i:=i) (by simpa using h)
  exact⟨v,by simpa using h1,h2⟩
theorem Reps.set:∀{vs:List V} {ds:List D} {v:V} {d:D} (i:Nat),Reps K F vs ds->cI K F v d->Reps K F (vs.set i v) (ds.set i d)
 |_,_,_,_,_, .nil,_=> .nil
 |_,_,_,_,0, .cons r t,h=> .cons h t
 |_,_,_,_,i+1, .cons r t,h=> .cons r (t.set i h)
theorem Reps.reverse {vs:List V} {ds:List D} (h:Reps K F vs ds):Reps K F vs.reverse ds.reverse:=by
 induction h using Reps.rec (motive_1:=fun _ _ _=>True) (motive_3:=fun _ _ _=>True) (motive_4:=fun _ _ _=>True)with
 |nil=>exact .nil
 |cons r t _ ih=>rw[List.reverse_cons,List.reverse_cons];exact ih.append (.cons r .nil)
 |_=>trivial
end
structure bv (H F H' F':Hp):Prop where
 sub:aF F' H'
 keep:aF H H'
 grow:aF F F'
 new:∀a,F' a≠none->F a≠none\/H a=none
theorem bv.refl {H F:Hp} (h:aF F H):bv H F H F:=⟨h,aF.refl _,aF.refl _,fun _ h=> .inl h⟩
theorem bv.trans {H F H1 F1 H2 F2:Hp} (a:bv H F H1 F1) (b:bv H1 F1 H2 F2):bv H F H2 F2:=
 ⟨b.sub,a.keep.trans b.keep,a.grow.trans b.grow,fun x h=>(b.new x h).elim (fun q=>a.new x q) fun q=> .inr (a.keep.free q)⟩
theorem bA {H:Hp} {p:Addr} {o:HO} (h:H p=none):aF H (bn H p o):=fun b u e=>by
 rw[aj (fun z=>by rw[z,h]at e;cases e)];exact e
theorem bv.lay {H F:Hp} (s:aF F H) {p:Addr} {o:HO} (h:H p=none):bv H F (bn H p o) (bn F p o):=by
 refine⟨fun b u e=> ?_,bA h,bA (s.free h),fun b e=> ?_⟩
 ·by_cases z:b=p
  ·subst z;rw[ar]at e ⊢;exact e
  ·rw[aj z]at e ⊢;exact s b u e
 ·by_cases z:b=p
  ·subst z;exact .inr h
  ·rw[aj z]at e;exact .inl e
theorem bv.layOwn {H F:Hp} (s:aF F H) {p:Addr} {o:HO} (h:H p=none):bv H F (bn H p o) F:=
 ⟨s.trans (bA h),bA h,aF.refl _,fun _ e=> .inl e⟩
inductive Slot where
 |val (d:D)|own (d:D)|bor (d:D)|obj|cel (x:Str) (vds:List (Str×D)) (f:Str) (hs:List D)
noncomputable def Slot.data:Slot->D
 | .val d=>d
 | .own d=>d
 | .bor d=>d
 | .obj=> .non
 | .cel .. => .non
noncomputable def Slot.single:Slot->Bool
 | .obj=>true
 | .cel .. =>true
 |_=>false
noncomputable abbrev ae:=List (Option Slot)
inductive gF (K:PySem.W.Frag) (F:Hp):HO->D->Prop
 |lst {vs:List V} {ds:List D}:Reps K F vs ds->gF K F (.lst vs) (.lst ds)
 |dic {kvs:List (cb×V)} {kds:List (cb×D)}:RepK K F kvs kds->(kvs.map (·.1)).Nodup->gF K F (.dK kvs) (.dic kds)
theorem gF.mono {K:PySem.W.Frag} {F F':Hp} (e:aF F F') {o:HO} {d:D}:gF K F o d->gF K F' o d
 | .lst r=> .lst (r.mono e)
 | .dic r n=> .dic (r.mono e) n
structure cA (ly:List du)where
 H0:Hp
 F0:Hp
 B:Hp
 Er:Str->ae->Prop
 oa:Nat->Option Addr:=fun _=>none
 Fm:Hp:=fun _=>none
structure fV (K:PySem.W.Frag) (H0 H F:Hp) (a dx b:Addr) (x:Str) (vds:List (Str×D)) (f:Str) (hs:List D):Prop where
 ex:∃C fs vs us,H a=some (.ins C dx fs)/\PySem.W.nsIn K mainGlobals x=some (some (.ref C))/\fs.lookup f=some (.ref b)/\H b=some (.lst us)/\Reps K F us hs/\RepF K F vs vds/\(∀p∈vs,fs.lookup p.1=some p.2)/\
  (∀g v,fs.lookup g=some v->g=f\/g∈vs.map (·.1))/\(fs.map (·.1)).Nodup/\f∉vs.map (·.1)
 own:H dx=some (.own a)
 fa:F a=none
 fd:F dx=none
 fb:F b=none
 za:H0 a=none
 zd:H0 dx=none
 zb:H0 b=none
theorem bv.out {H F H' F':Hp} (e:bv H F H' F') {a:Addr} {o:HO} (h:H a=some o) (hF:F a=none):F' a=none:=by
 cases q:F' a with
 |none=>rfl
 |some u=>
  rcases e.new a (by rw[q];simp)with z|z
  ·exact absurd hF z
  ·rw[h]at z;cases z
theorem fV.step {K:PySem.W.Frag} {H0 H F H' F':Hp} {a dx b:Addr} {x:Str} {vds:List (Str×D)} {f:Str} {hs:List D} (h:fV K H0 H F a dx b x vds f hs) (e:bv H F H' F'):fV K H0 H' F' a dx b x vds f hs:=by
 obtain⟨C,fs,vs,us,h1,h2,h3,h4,h5,h6,h7,h8⟩:=h.ex
 exact⟨⟨C,fs,vs,us,e.keep _ _ h1,h2,h3,e.keep _ _ h4,h5.mono e.grow,h6.mono e.grow,h7,h8⟩,e.keep _ _ h.own,e.out h1 h.fa,e.out h.own h.fd,e.out h4 h.fb,h.za,h.zd,h.zb⟩
structure ii (K:PySem.W.Frag) (H0:Hp) (ρ:ae) (σ:St) (H F:Hp):Prop where
 ex:∀(i:Nat) x vds f hs,ρ[i]? =some (some (.cel x vds f hs))->∃a dx b,σ[i]? =some (some (.ref a))/\fV K H0 H F a dx b x vds f hs/\∀(j:Nat) d,ρ[j]? =some (some (.own d))->σ[j]? ≠some (some (.ref b))
 one:∀(i j:Nat) x vds f hs s,ρ[i]? =some (some (.cel x vds f hs))->ρ[j]? =some (some s)->s.single=true->i=j
theorem ii.no {K:PySem.W.Frag} {H0:Hp} {ρ:ae} {σ:St} {H F:Hp} (h:∀(i:Nat) x vds f hs,ρ[i]? ≠some (some (.cel x vds f hs))):ii K H0 ρ σ H F:=⟨fun i x vds f hs e=>absurd e (h i x vds f hs),fun i j x vds f hs s e=>absurd e (h i x vds f hs)⟩
theorem ii.step {K:PySem.W.Frag} {H0 H F H' F':Hp} {ρ:ae} {σ:St} (h:ii K H0 ρ σ H F) (e:bv H F H' F'):ii K H0 ρ σ H' F':=
 ⟨fun i x vds f hs q=>by obtain⟨a,dx,b,h1,h2,h3⟩:=h.ex i x vds f hs q;exact⟨a,dx,b,h1,h2.step e,h3⟩,h.one⟩
structure RI (K:PySem.W.Frag) (c:cA ly) (ρ:ae) (σ:St) (H F:Hp):Prop where
 ext:bv c.H0 c.F0 H F
 val:∀(i:Nat) d,ρ[i]? =some (some (.val d))->∃v,σ[i]? =some (some v)/\cI K F v d
 own:∀(i:Nat) d,ρ[i]? =some (some (.own d))->∃a o,σ[i]? =some (some (.ref a))/\H a=some o/\F a=none/\c.H0 a=none/\gF K F o d
 bor:∀(i:Nat) d,ρ[i]? =some (some (.bor d))->∃a o,σ[i]? =some (some (.ref a))/\c.B a=some o/\gF K c.F0 o d
 bh:aF c.B c.H0
 dis:∀(i j:Nat) d d' a,ρ[i]? =some (some (.own d))->ρ[j]? =some (some (.own d'))->σ[i]? =some (some (.ref a))->σ[j]? =some (some (.ref a))->i=j
 len:ρ.length=σ.length
 obj:∀L∈ly,ρ[L.x]? =some (some .obj)->∃a dx fs,(∀b,c.oa L.x=some b->a=b)/\σ[L.x]? =some (some (.ref a))/\H a=some (.ins L.C dx fs)/\H dx=some (.own a)/\F a=none/\F dx=none/\c.H0 a=none/\c.H0 dx=none/\
  (∀p∈L.fl,fs.lookup p.1=(σ[p.2]?).join)/\(∀f v,fs.lookup f=some v->f∈L.fl.map (·.1))/\(fs.map (·.1)).Nodup
 odis:∀L∈ly,∀L'∈ly,ρ[L.x]? =some (some .obj)->ρ[L'.x]? =some (some .obj)->∀a,σ[L.x]? =some (some (.ref a))->σ[L'.x]? =some (some (.ref a))->L=L'
 fm:aF c.Fm F
 cel:ii K c.H0 ρ σ H F
 pin:∀L∈ly,∀a,c.oa L.x=some a->σ[L.x]? =some (some (.ref a))
noncomputable def gG (ly:List du) (i:Nat):Prop:=∀L∈ly,L.x≠i/\∀p∈L.fl,p.2≠i
theorem dC {i:Nat}:gG [] i:=fun L h=>by cases h
theorem cQ {L:du} {ls:List du} {i:Nat} (h:L.x≠i/\∀p∈L.fl,p.2≠i) (r:gG ls i):gG (L::ls) i:=fun M hM=>by
 rcases List.mem_cons.mp hM with rfl|hM
 ·exact h
 ·exact r M hM
section
variable {K:PySem.W.Frag} {c:cA ly} {ρ:ae} {σ:St} {H F H' F':Hp}
theorem RI.step (r:RI K c ρ σ H F) (e:bv H F H' F'):RI K c ρ σ H' F' where
 cel:=r.cel.step e
 pin:=r.pin
 obj:=fun L hL hρ=>by
  obtain⟨a,dx,fs,h0,h1,h2,h3,h4,h5,h6,h7,h8⟩:=r.obj L hL hρ
  exact⟨a,dx,fs,h0,h1,e.keep _ _ h2,e.keep _ _ h3,e.out h2 h4,e.out h3 h5,h6,h7,h8⟩
 odis:=r.odis
 fm:=r.fm.trans e.grow
 ext:=r.ext.trans e
 val:=fun i d h=>by obtain⟨v,h1,h2⟩:=r.val i d h;exact⟨v,h1,h2.mono e.grow⟩
 own:=fun i d h=>by
  obtain⟨a,o,h1,h2,h3,h4,h5⟩:=r.own i d h
  refine⟨a,o,h1,e.keep _ _ h2,?_,h4,h5.mono e.grow⟩
  cases q:F' a with
  |none=>rfl
  |some u=>
   rcases e.new a (by rw[q];simp)with z|z
   ·exact absurd h3 z
   ·rw[h2]at z;cases z
 bor:=r.bor
 bh:=r.bh
 dis:=r.dis
 len:=r.len
theorem RI.sub (r:RI K c ρ σ H F):aF F H:=r.ext.sub
theorem ak {α:Type} {l:List α} {i j:Nat} {a b:α} (h:(l.set i a)[j]? =some b):(i=j/\a=b/\i<l.length)\/(i≠j/\l[j]? =some b):=by
 rw[List.getElem?_set]at h
 by_cases e:i=j
 ·rw[if_pos e]at h
  split at h
  ·cases h;exact .inl ⟨e,rfl,by assumption⟩
  ·cases h
 ·rw[if_neg e]at h;exact .inr ⟨e,h⟩
theorem cW {α:Type} {l:List α} {i:Nat} {a:α} (h:i<l.length):(l.set i a)[i]? =some a:=by
 rw[List.getElem?_set,if_pos rfl,if_pos h]
theorem ac {α:Type} {l:List α} {i j:Nat} {a:α} (h:i≠j):(l.set i a)[j]? =l[j]? :=by
 rw[List.getElem?_set,if_neg h]
theorem ii.set {K:PySem.W.Frag} {H0:Hp} {ρ:ae} {σ:St} {H F:Hp} (h:ii K H0 ρ σ H F) (i:Nat) {s:Option Slot} {v:Option V} (hn:∀s',s=some s'->s'.single=false)
  (ho:∀d,s=some (.own d)->∀(j:Nat) x vds f hs a C dx fs b,ρ[j]? =some (some (.cel x vds f hs))->σ[j]? =some (some (.ref a))->H a=some (.ins C dx fs)->fs.lookup f=some (.ref b)->v≠some (.ref b)):ii K H0 (ρ.set i s) (σ.set i v) H F:=by
 refine⟨fun j x vds f hs q=> ?_,fun j k x vds f hs s' q q2 hs'=> ?_⟩
 ·rcases ak q with ⟨_,z,_⟩|⟨z,q⟩
  ·have:=hn _ z;cases this
  ·obtain⟨a,dx,b,h1,h2,h3⟩:=h.ex j x vds f hs q
   refine⟨a,dx,b,by rw[ac z];exact h1,h2,fun k d w=> ?_⟩
   rcases ak w with ⟨rfl,z',l⟩|⟨z',w⟩
   ·obtain⟨C,fs,vs,us,g1,g2,g3,_⟩:=h2.ex
    intro e
    rw[List.getElem?_set]at e
    split at e
    ·split at e
     ·exact ho d z' j x vds f hs a C dx fs b q h1 g1 g3 (by simpa using e)
     ·cases e
    ·rename_i ne;exact absurd rfl ne
   ·rw[ac z'];exact h3 k d w
 ·rcases ak q with ⟨_,z,_⟩|⟨z,q⟩
  ·have:=hn _ z;cases this
  ·rcases ak q2 with ⟨_,z',_⟩|⟨z',q2⟩
   ·have:=hn _ z';rw[hs']at this;cases this
   ·exact h.one j k x vds f hs s' q q2 hs'
theorem RI.setVal (r:RI K c ρ σ H F) (i:Nat) {v:V} {d:D} (hf:gG ly i) (h:cI K F v d):RI K c (ρ.set i (some (.val d))) (σ.set i (some v)) H F where
 cel:=r.cel.set i (fun s' e=>by cases e;rfl) (fun d e=>by cases e)
 pin:=fun L hL a h=>by rw[ac (hf L hL).1.symm];exact r.pin L hL a h
 obj:=fun L hL hρ=>by
  rw[ac (hf L hL).1.symm]at hρ
  obtain⟨a,dx,fs,h0,h1,h2,h3,h4,h5,h6,h7,h8,h9⟩:=r.obj L hL hρ
  refine⟨a,dx,fs,h0,by rw[ac (hf L hL).1.symm];exact h1,h2,h3,h4,h5,h6,h7,fun p hp=> ?_,h9⟩
  rw[ac ((hf L hL).2 p hp).symm];exact h8 p hp
 odis:=fun L hL L' hL' q1 q2 a k1 k2=>by
  rw[ac (hf L hL).1.symm]at k1 q1
  rw[ac (hf L' hL').1.symm]at k2 q2
  exact r.odis L hL L' hL' q1 q2 a k1 k2
 fm:=r.fm
 ext:=r.ext
 val:=fun j e q=>by
  rcases ak q with ⟨rfl,z,l⟩|⟨z,q⟩
  ·cases z;exact⟨v,cW (by rw[<-r.len];exact l),h⟩
  ·rw[ac z];exact r.val j e q
 own:=fun j e q=>by
  rcases ak q with ⟨rfl,z,l⟩|⟨z,q⟩
  ·cases z
  ·rw[ac z];exact r.own j e q
 bor:=fun j e q=>by
  rcases ak q with ⟨rfl,z,l⟩|⟨z,q⟩
  ·cases z
  ·rw[ac z];exact r.bor j e q
 bh:=r.bh
 dis:=fun j k e e' a q1 q2 q3 q4=>by
  rcases ak q1 with ⟨rfl,z,l⟩|⟨z,q1⟩
  ·cases z
  ·rcases ak q2 with ⟨rfl,z',l⟩|⟨z',q2⟩
   ·cases z'
   ·rw[ac z]at q3;rw[ac z']at q4
    exact r.dis j k e e' a q1 q2 q3 q4
 len:=by simp[r.len]
theorem RI.setNone (r:RI K c ρ σ H F) (i:Nat) {v:Option V} (hf:gG ly i):RI K c (ρ.set i none) (σ.set i v) H F where
 cel:=r.cel.set i (fun s' e=>by cases e) (fun d e=>by cases e)
 pin:=fun L hL a h=>by rw[ac (hf L hL).1.symm];exact r.pin L hL a h
 obj:=fun L hL hρ=>by
  rw[ac (hf L hL).1.symm]at hρ
  obtain⟨a,dx,fs,h0,h1,h2,h3,h4,h5,h6,h7,h8,h9⟩:=r.obj L hL hρ
  refine⟨a,dx,fs,h0,by rw[ac (hf L hL).1.symm];exact h1,h2,h3,h4,h5,h6,h7,fun p hp=> ?_,h9⟩
  rw[ac ((hf L hL).2 p hp).symm];exact h8 p hp
 odis:=fun L hL L' hL' q1 q2 a k1 k2=>by
  rw[ac (hf L hL).1.symm]at k1 q1
  rw[ac (hf L' hL').1.symm]at k2 q2
  exact r.odis L hL L' hL' q1 q2 a k1 k2
 fm:=r.fm
 ext:=r.ext
 val:=fun j e q=>by
  rcases ak q with ⟨rfl,z,l⟩|⟨z,q⟩
  ·cases z
  ·rw[ac z];exact r.val j e q
 own:=fun j e q=>by
  rcases ak q with ⟨rfl,z,l⟩|⟨z,q⟩
  ·cases z
  ·rw[ac z];exact r.own j e q
 bor:=fun j e q=>by
  rcases ak q with ⟨rfl,z,l⟩|⟨z,q⟩
  ·cases z
  ·rw[ac z];exact r.bor j e q
 bh:=r.bh
 dis:=fun j k e e' a q1 q2 q3 q4=>by
  rcases ak q1 with ⟨rfl,z,l⟩|⟨z,q1⟩
  ·cases z
  ·rcases ak q2 with ⟨rfl,z',l⟩|⟨z',q2⟩
   ·cases z'
   ·rw[ac z]at q3;rw[ac z']at q4
    exact r.dis j k e e' a q1 q2 q3 q4
 len:=by simp[r.len]
theorem RI.setOwn (r:RI K c ρ σ H F) (i:Nat) {a:Addr} {o:HO} {d:D} (hf:gG ly i) (h:H a=some o) (hF:F a=none) (h0:c.H0 a=none) (q:gF K F o d)
  (ne:∀(j:Nat) d',j≠i->ρ[j]? =some (some (.own d'))->σ[j]? ≠some (some (.ref a)))
  (nb:∀(j:Nat) x vds f hs a' C dx fs,ρ[j]? =some (some (.cel x vds f hs))->σ[j]? =some (some (.ref a'))->H a'=some (.ins C dx fs)->fs.lookup f≠some (.ref a)):RI K c (ρ.set i (some (.own d))) (σ.set i (some (.ref a))) H F where
 cel:=r.cel.set i (fun s' e=>by cases e;rfl) (fun d e j x vds f hs a' C dx fs b q1 q2 q3 q4 z=>by cases z;exact nb j x vds f hs a' C dx fs q1 q2 q3 q4)
 pin:=fun L hL b h=>by rw[ac (hf L hL).1.symm];exact r.pin L hL b h
 obj:=fun L hL hρ=>by
  rw[ac (hf L hL).1.symm]at hρ
  obtain⟨b,dx,fs,h0,h1,h2,h3,h4,h5,h6,h7,h8,h9⟩:=r.obj L hL hρ
  refine⟨b,dx,fs,h0,by rw[ac (hf L hL).1.symm];exact h1,h2,h3,h4,h5,h6,h7,fun p hp=> ?_,h9⟩
  rw[ac ((hf L hL).2 p hp).symm];exact h8 p hp
 odis:=fun L hL L' hL' q1 q2 b k1 k2=>by
  rw[ac (hf L hL).1.symm]at k1 q1
  rw[ac (hf L' hL').1.symm]at k2 q2
  exact r.odis L hL L' hL' q1 q2 b k1 k2
 fm:=r.fm
 ext:=r.ext
 val:=fun j e q=>by
  rcases ak q with ⟨rfl,z,l⟩|⟨z,q⟩
  ·cases z
  ·rw[ac z];exact r.val j e q
 own:=fun j e q'=>by
  rcases ak q' with ⟨rfl,z,l⟩|⟨z,q'⟩
  ·cases z;exact⟨a,o,cW (by rw[<-r.len];exact l),h,hF,h0,q⟩
  ·rw[ac z];exact r.own j e q'
 bor:=fun j e q=>by
  rcases ak q with ⟨rfl,z,l⟩|⟨z,q⟩
  ·cases z
  ·rw[ac z];exact r.bor j e q
 bh:=r.bh
 dis:=fun j k e e' b q1 q2 q3 q4=>by
  rcases ak q1 with ⟨rfl,z,l⟩|⟨z,q1⟩
  ·rw[cW (by rw[<-r.len];exact l)]at q3
   cases q3
   rcases ak q2 with ⟨rfl,z',l⟩|⟨z',q2⟩
   ·rfl
   ·rw[ac z']at q4
    exact absurd q4 (ne k e' (Ne.symm z') q2)
  ·rw[ac z]at q3
   rcases ak q2 with ⟨rfl,z',l⟩|⟨z',q2⟩
   ·rw[cW (by rw[<-r.len];exact l)]at q4
    cases q4
    exact absurd q3 (ne j e (Ne.symm z) q1)
   ·rw[ac z']at q4
    exact r.dis j k e e' b q1 q2 q3 q4
 len:=by simp[r.len]
theorem RI.celNe (r:RI K c ρ σ H F) {H2:Hp} (k:aF H H2) {p:Addr} (hp:H p=none):∀(j:Nat) x vds f hs a' C dx fs,ρ[j]? =some (some (.cel x vds f hs))->σ[j]? =some (some (.ref a'))->H2 a'=some (.ins C dx fs)->fs.lookup f≠some (.ref p):=fun j x vds f hs a' C dx fs q1 q2 q3 q4=>by
 obtain⟨a,dx0,b,h1,h2,_⟩:=r.cel.ex j x vds f hs q1
 rw[q2]at h1
 cases h1
 obtain⟨C0,fs0,vs,us,g1,g2,g3,g4,_⟩:=h2.ex
 rw[k _ _ g1]at q3
 cases q3
 rw[g3]at q4
 cases q4
 rw[hp]at g4
 cases g4
theorem RI.setNew (r:RI K c ρ σ H F) (i:Nat) {a:Addr} {o:HO} {d:D} (hf:gG ly i) (h:H a=none) (q:gF K F o d):RI K c (ρ.set i (some (.own d))) (σ.set i (some (.ref a))) (bn H a o) F:=by
 have r':=r.step (bv.layOwn r.sub (o:=o) h)
 refine r'.setOwn i hf ar (r.sub.free h) (r.ext.keep.free h) q (fun j d' _ hj e=> ?_) (r.celNe (bA h) h)
 obtain⟨b,o',h1,h2,_⟩:=r.own j d' hj
 rw[e]at h1
 cases h1
 rw[h]at h2
 cases h2
theorem RI.change (r:RI K c ρ σ H F) {i:Nat} {a:Addr} {o o':HO} {d d':D} (hi:ρ[i]? =some (some (.own d))) (hs:σ[i]? =some (some (.ref a))) (q:gF K F o' d'):
  RI K c (ρ.set i (some (.own d'))) σ (bn H a o') F:=by
 obtain⟨b,u,h1,h2,h3,h4,h5⟩:=r.own i d hi
 rw[hs]at h1
 cases h1
 refine⟨⟨fun x y e=> ?_,fun x y e=> ?_,r.ext.grow,r.ext.new⟩,fun j e w=> ?_,fun j e w=> ?_,fun j e w=> ?_,r.bh,fun j k e e' x q1 q2 q3 q4=> ?_,by simp[r.len],fun L hL hρ=> ?_,fun L hL L' hL' q1 q2=> ?_,r.fm,⟨fun j x vds f hs w=> ?_,fun j k x vds f hs s w w2 hs'=> ?_⟩,r.pin⟩
 ·rw[aj (fun z=>by rw[z,h3]at e;cases e)];exact r.sub x y e
 ·rw[aj (fun z=>by rw[z,h4]at e;cases e)];exact r.ext.keep x y e
 ·rcases ak w with ⟨rfl,z,l⟩|⟨z,w⟩
  ·cases z
  ·exact r.val j e w
 ·rcases ak w with ⟨rfl,z,l⟩|⟨z,w⟩
  ·cases z;exact⟨a,o',hs,ar,h3,h4,q⟩
  ·obtain⟨x,y,k1,k2,k3,k4,k5⟩:=r.own j e w
   refine⟨x,y,k1,?_,k3,k4,k5⟩
   rw[aj (fun zz=>by subst zz;exact z (r.dis i j d e x hi w hs k1))]
   exact k2
 ·rcases ak w with ⟨rfl,z,l⟩|⟨z,w⟩
  ·cases z
  ·exact r.bor j e w
 ·have own_of:∀{l:Nat} {x:D},(ρ.set i (some (.own d')))[l]? =some (some (.own x))->∃y,ρ[l]? =some (some (.own y)):=fun {l x} w=>by
   rcases ak w with ⟨rfl,z,_⟩|⟨z,w⟩
   ·exact⟨d,hi⟩
   ·exact⟨x,w⟩
  obtain⟨y1,w1⟩:=own_of q1
  obtain⟨y2,w2⟩:=own_of q2
  exact r.dis j k y1 y2 x w1 w2 q3 q4
 ·have hρ':ρ[L.x]? =some (some .obj):=by
   rcases ak hρ with ⟨_,z,_⟩|⟨_,w⟩
   ·cases z
   ·exact w
  obtain⟨b,dx,fs,k0,k1,k2,k3,k4⟩:=r.obj L hL hρ'
  have n1:b≠a:=fun z=>by subst z;rw[k2]at h2;cases h2;cases h5
  have n2:dx≠a:=fun z=>by subst z;rw[k3]at h2;cases h2;cases h5
  exact⟨b,dx,fs,k0,k1,by rw[aj n1];exact k2,by rw[aj n2];exact k3,k4⟩
 ·refine r.odis L hL L' hL' ?_ ?_
  ·rcases ak q1 with ⟨_,z,_⟩|⟨_,w⟩
   ·cases z
   ·exact w
  ·rcases ak q2 with ⟨_,z,_⟩|⟨_,w⟩
   ·cases z
   ·exact w
 ·rcases ak w with ⟨rfl,z,l⟩|⟨z,w⟩
  ·cases z
  ·obtain⟨b,dx,bb,k1,k2,k3⟩:=r.cel.ex j x vds f hs w
   obtain⟨C,fs,vs,us,g1,g2,g3,g4,g5⟩:=k2.ex
   have n1:b≠a:=fun z=>by subst z;rw[g1]at h2;cases h2;cases h5
   have n2:dx≠a:=fun z=>by subst z;rw[k2.own]at h2;cases h2;cases h5
   have n3:bb≠a:=fun z=>by subst z;exact k3 i d hi hs
   refine⟨b,dx,bb,k1,⟨⟨C,fs,vs,us,by rw[aj n1];exact g1,g2,g3,by rw[aj n3];exact g4,g5⟩,by rw[aj n2];exact k2.own,k2.fa,k2.fd,k2.fb,k2.za,k2.zd,k2.zb⟩,fun k e w2=> ?_⟩
   rcases ak w2 with ⟨rfl,z',l⟩|⟨z',w2⟩
   ·exact k3 i d hi
   ·exact k3 k e w2
 ·rcases ak w with ⟨rfl,z,l⟩|⟨z,w⟩
  ·cases z
  ·rcases ak w2 with ⟨rfl,z',l⟩|⟨z',w2⟩
   ·cases z';cases hs'
   ·exact r.cel.one j k x vds f hs s w w2 hs'
end
noncomputable def frz1 (i:Nat) (ρ:ae):ae:=match ρ[i]? with
 |some (some (.own d))=>ρ.set i (some (.val d))
 |_=>ρ
noncomputable def frz (L:List Nat) (ρ:ae):ae:=L.foldl (fun r i=>frz1 i r) ρ
theorem RI.frz1 {K:PySem.W.Frag} {c:cA ly} {ρ:ae} {σ:St} {H F:Hp} (r:RI K c ρ σ H F) (i:Nat):∃F',aF F F'/\RI K c (frz1 i ρ) σ H F':=by
 unfold L2.Pu.frz1
 split
 ·rename_i d hi
  obtain⟨a,o,h1,h2,h3,h4,h5⟩:=r.own i d hi
  have g:aF F (bn F a o):=bA h3
  refine⟨bn F a o,g,⟨⟨fun b u e=> ?_,r.ext.keep,r.ext.grow.trans g,fun b e=> ?_⟩,fun j e w=> ?_,fun j e w=> ?_,fun j e w=> ?_,r.bh,fun j k e e' x q1 q2 q3 q4=> ?_,by simp[r.len],fun L hL hρ=> ?_,fun L hL L' hL' q1 q2=> ?_,r.fm.trans g,⟨fun j x vds f hs w=> ?_,fun j k x vds f hs s w w2 hs'=> ?_⟩,r.pin⟩⟩
  ·by_cases z:b=a
   ·subst z;rw[ar]at e;rw[h2];exact e
   ·rw[aj z]at e;exact r.sub b u e
  ·by_cases z:b=a
   ·subst z;exact .inr h4
   ·rw[aj z]at e;exact r.ext.new b e
  ·rcases ak w with ⟨rfl,z,l⟩|⟨z,w⟩
   ·cases z
    refine⟨.ref a,h1,?_⟩
    cases h5 with
    |lst q=>exact .lst ar (q.mono g)
    |dic q n=>exact .dic ar (q.mono g) n
   ·obtain⟨v,k1,k2⟩:=r.val j e w;exact⟨v,k1,k2.mono g⟩
  ·rcases ak w with ⟨rfl,z,l⟩|⟨z,w⟩
   ·cases z
   ·obtain⟨x,y,k1,k2,k3,k4,k5⟩:=r.own j e w
    refine⟨x,y,k1,k2,?_,k4,k5.mono g⟩
    rw[aj (fun zz=>by subst zz;exact z (r.dis i j d e x hi w h1 k1))]
    exact k3
  ·rcases ak w with ⟨rfl,z,l⟩|⟨z,w⟩
   ·cases z
   ·exact r.bor j e w
  ·rcases ak q1 with ⟨rfl,z,l⟩|⟨z,q1⟩
   ·cases z
   ·rcases ak q2 with ⟨rfl,z',l⟩|⟨z',q2⟩
    ·cases z'
    ·exact r.dis j k e e' x q1 q2 q3 q4
  ·have hρ':ρ[L.x]? =some (some .obj):=by
    rcases ak hρ with ⟨_,z,_⟩|⟨_,w⟩
    ·cases z
    ·exact w
   obtain⟨b,dx,fs,k0,k1,k2,k3,k4,k5,k6⟩:=r.obj L hL hρ'
   have n1:b≠a:=fun z=>by subst z;rw[k2]at h2;cases h2;cases h5
   have n2:dx≠a:=fun z=>by subst z;rw[k3]at h2;cases h2;cases h5
   exact⟨b,dx,fs,k0,k1,k2,k3,by rw[aj n1];exact k4,by rw[aj n2];exact k5,k6⟩
  ·refine r.odis L hL L' hL' ?_ ?_
   ·rcases ak q1 with ⟨_,z,_⟩|⟨_,w⟩
    ·cases z
    ·exact w
   ·rcases ak q2 with ⟨_,z,_⟩|⟨_,w⟩
    ·cases z
    ·exact w
  ·rcases ak w with ⟨rfl,z,l⟩|⟨z,w⟩
   ·cases z
   ·obtain⟨b,dx,bb,k1,k2,k3⟩:=r.cel.ex j x vds f hs w
    obtain⟨C,fs,vs,us,g1,g2,g3,g4,g5,g6,g7⟩:=k2.ex
    have n1:b≠a:=fun z=>by subst z;rw[g1]at h2;cases h2;cases h5
    have n2:dx≠a:=fun z=>by subst z;rw[k2.own]at h2;cases h2;cases h5
    have n3:bb≠a:=fun z=>by subst z;exact k3 i d hi h1
    refine⟨b,dx,bb,k1,⟨⟨C,fs,vs,us,g1,g2,g3,g4,g5.mono g,g6.mono g,g7⟩,k2.own,by rw[aj n1];exact k2.fa,by rw[aj n2];exact k2.fd,by rw[aj n3];exact k2.fb,k2.za,k2.zd,k2.zb⟩,fun k e w2=> ?_⟩
    rcases ak w2 with ⟨rfl,z',l⟩|⟨z',w2⟩
    ·cases z'
    ·exact k3 k e w2
  ·rcases ak w with ⟨rfl,z,l⟩|⟨z,w⟩
   ·cases z
   ·rcases ak w2 with ⟨rfl,z',l⟩|⟨z',w2⟩
    ·cases z';cases hs'
    ·exact r.cel.one j k x vds f hs s w w2 hs'
 ·exact⟨F,aF.refl _,r⟩
theorem RI.frz {K:PySem.W.Frag} {c:cA ly} {σ:St} {H:Hp}:∀(L:List Nat) {ρ:ae} {F:Hp},RI K c ρ σ H F->∃F',aF F F'/\RI K c (frz L ρ) σ H F'
 |[],ρ,F,r=>⟨F,aF.refl _,r⟩
 |i::L,ρ,F,r=>by
  obtain⟨F1,g1,r1⟩:=r.frz1 i
  obtain⟨F2,g2,r2⟩:=RI.frz L r1
  exact⟨F2,g1.trans g2,r2⟩
end L2.Pu
namespace L2.Pu
open PySem PySem.Spec PyProof.Rows
variable {ly:List du}
inductive R (α:Type)where
 |ok (a:α)|err (c:Str) (ρ:ae)|bad
noncomputable def R.bind {α β:Type}:R α->(α->R β)->R β
 | .ok a,f=>f a
 | .err c ρ,_=> .err c ρ
 | .bad,_=> .bad
noncomputable instance:Monad R where
 pure:=R.ok
 bind:=R.bind
@[simp] theorem ah {α β:Type} (a:α) (f:α->R β):(R.ok a>>=f)=f a:=rfl
@[simp] theorem wY {α β:Type} (c:Str) (ρ:ae) (f:α->R β):(R.err c ρ>>=f)=R.err c ρ:=rfl
@[simp] theorem wZ {α β:Type} (f:α->R β):(R.bad>>=f)=R.bad:=rfl
@[simp] theorem xF {α:Type} (a:α):(pure a:R α)=R.ok a:=rfl
noncomputable def R.of {α:Type}:Option α->R α
 |some a=> .ok a
 |none=> .bad
@[simp] theorem cJ {α:Type} (a:α):R.of (some a)= .ok a:=rfl
@[simp] theorem xG {α:Type}:R.of (none:Option α)= .bad:=rfl
noncomputable def aD {α:Type} (c:cA ly) (r:R α) (P:α->Prop):Prop:=match r with
 | .ok a=>P a
 | .err e ρ=>c.Er e ρ
 | .bad=>False
theorem aD.imp {α:Type} {c:cA ly} {r:R α} {P P':α->Prop} (h:aD c r P) (w:∀a,r= .ok a->P a->P' a):aD c r P':=by
 cases r with
 |ok a=>exact w a rfl h
 |err e ρ=>exact h
 |bad=>exact h
theorem aD.bind {α β:Type} {c:cA ly} {r:R α} {f:α->R β} {P:β->Prop}:aD c (r>>=f) P<->aD c r fun a=>aD c (f a) P:=by
 cases r<;>exact Iff.rfl
theorem aD.of {α:Type} {c:cA ly} {r:Option α} {P:α->Prop} (h:aD c (R.of r) P):∃a,r=some a/\P a:=by
 cases r with
 |none=>exact h.elim
 |some a=>exact⟨a,rfl,h⟩
noncomputable def bW (K:PySem.W.Frag) (H F:Hp) (v:V) (d:D):Prop:=cI K F v d\/∃a o,v= .ref a/\H a=some o/\gF K F o d
theorem bW.mono {K:PySem.W.Frag} {H F H' F':Hp} {v:V} {d:D} (e:bv H F H' F'):bW K H F v d->bW K H' F' v d
 | .inl r=> .inl (r.mono e.grow)
 | .inr ⟨a,o,h1,h2,h3⟩=> .inr ⟨a,o,h1,e.keep _ _ h2,h3.mono e.grow⟩
theorem bW.lst {K:PySem.W.Frag} {H F:Hp} {v:V} {ds:List D} (s:aF F H) (h:bW K H F v (.lst ds)):∃a vs,v= .ref a/\H a=some (.lst vs)/\Reps K F vs ds:=by
 rcases h with h|⟨a,o,h1,h2,q⟩
 ·obtain⟨a,vs,e,h,r⟩:=h.inv
  exact⟨a,vs,e,s _ _ h,r⟩
 ·cases q with
  |lst r=>exact⟨_,_,h1,h2,r⟩
theorem bW.dic {K:PySem.W.Frag} {H F:Hp} {v:V} {ds:List (cb×D)} (s:aF F H) (h:bW K H F v (.dic ds)):∃a vs,v= .ref a/\H a=some (.dK vs)/\RepK K F vs ds/\(vs.map (·.1)).Nodup:=by
 rcases h with h|⟨a,o,h1,h2,q⟩
 ·obtain⟨a,vs,e,h,r⟩:=h.inv
  exact⟨a,vs,e,s _ _ h,r⟩
 ·cases q with
  |dic r n=>exact⟨_,_,h1,h2,r,n⟩
noncomputable def yO:D->Bool
 | .lst _=>true
 | .dic _=>true
 |_=>false
theorem bW.in {K:PySem.W.Frag} {H F:Hp} {v:V} {d:D} (h:bW K H F v d) (n:yO d=false):qV K F v d:=by
 rcases h with h|⟨a,o,h1,h2,q⟩
 ·exact h.inv
 ·cases q<;>cases n
theorem bW.tup {K:PySem.W.Frag} {H F:Hp} {v:V} {ds:List D} (s:aF F H) (h:bW K H F v (.tup ds)):∃a vs,v= .ref a/\H a=some (.tup vs)/\Reps K F vs ds:=by
 obtain⟨a,vs,e,h,r⟩:=h.in rfl
 exact⟨a,vs,e,s _ _ h,r⟩
theorem bW.scr {K:PySem.W.Frag} {H F:Hp} {v:V} {ns:List Int} (s:aF F H) (h:bW K H F v (.scr ns)):∃a,v= .ref a/\dr K H a (ns.map V.int):=by
 obtain⟨a,e,h⟩:=h.in rfl
 exact⟨a,e,s.seq h⟩
theorem bW.int {K:PySem.W.Frag} {H F:Hp} {v:V} {i:Int} (h:bW K H F v (.int i)):v= .int i:=h.in rfl
theorem bW.bl {K:PySem.W.Frag} {H F:Hp} {v:V} {i:Bool} (h:bW K H F v (.bl i)):v= .bl i:=h.in rfl
theorem bW.str {K:PySem.W.Frag} {H F:Hp} {v:V} {i:Str} (h:bW K H F v (.str i)):v= .str i:=h.in rfl
theorem bW.non {K:PySem.W.Frag} {H F:Hp} {v:V} (h:bW K H F v .non):v= .non:=h.in rfl
inductive jJ (K:PySem.W.Frag) (H F:Hp):List V->List D->Prop
 |nil:jJ K H F [] []
 |cons {v:V} {d:D} {vs:List V} {ds:List D}:bW K H F v d->jJ K H F vs ds->jJ K H F (v::vs) (d::ds)
noncomputable def cX (K:PySem.W.Frag) (x:Str) (cls:Value):Prop:=∃C,cls= .ref C/\PySem.W.nsIn K mainGlobals x=some (some (.ref C))
noncomputable def w_ (X:Cx) (c:cA ly):Prop:=(fK X/\∀pins σ ρ H F s a cls x,au X pins σ H s->RI X.K c ρ σ H F->Fl X pins H s.heap a cls->cX X.K x cls->c.Er x ρ->X.xe (.ref a) s)\/∀x ρ,¬c.Er x ρ
noncomputable abbrev fW (ly:List du) (X:Cx):Type:={c:cA ly // w_ X c}
theorem w_.no {X:Cx} {c:cA ly} (h:∀x ρ,¬c.Er x ρ):w_ X c:= .inr h
noncomputable def wd (X:Cx) (c:cA ly) (σ:St):XK:=fun cls _ H'=>∃x ρ F',cX X.K x cls/\RI X.K c ρ σ H' F'/\c.Er x ρ
theorem jK {X:Cx} (c:fW ly X):gQ (gB X.prog X.w) X (wd X c.1):=fun pins σ H s e s' I h=>by
 rcases c.2 with ⟨hp,thr⟩|no
 ·obtain⟨a,cls,H',rfl,I',fl,x,ρ,F',ec,ri,er⟩:=vo I hp h
  exact thr pins σ ρ H' F' s' a cls x I' ri fl ec er
 ·obtain⟨a,cls,H',_,_,_,_,_,_,x,ρ,F',ec,ri,er⟩:=h
  exact absurd er (no x ρ)
noncomputable def tQ (K:PySem.W.Frag) (c:cA ly) (f:ae->R D):TE:=fun σ H Q=>∃F ρ,RI K c ρ σ H F/\aD c (f ρ) fun d=>∀v H' F',bv H F H' F'->cI K F' v d->Q v H'
noncomputable def tB' (K:PySem.W.Frag) (c:cA ly) (f:ae->R D):TE:=fun σ H Q=>∃F ρ,RI K c ρ σ H F/\aD c (f ρ) fun d=>∀v H' F',bv H F H' F'->bW K H' F' v d->Q v H'
noncomputable def tT (K:PySem.W.Frag) (c:cA ly) (f:ae->R Bool):TT:=fun σ H Q=>∃F ρ,RI K c ρ σ H F/\aD c (f ρ) fun b=>∀H' F',bv H F H' F'->Q b H'
noncomputable def we (K:PySem.W.Frag) (c:cA ly) (f:ae->R (List D)):TA:=fun σ H Q=>∃F ρ,RI K c ρ σ H F/\aD c (f ρ) fun ds=>∀vs H' F',bv H F H' F'->Reps K F' vs ds->Q vs H'
noncomputable def x3 (K:PySem.W.Frag) (c:cA ly) (f:ae->R (List D)):TA:=fun σ H Q=>∃F ρ,RI K c ρ σ H F/\aD c (f ρ) fun ds=>∀vs H' F',bv H F H' F'->jJ K H' F' vs ds->Q vs H'
noncomputable def PQ (ly:List du) (X:Cx) (e:Expr) (f:ae->R D):Prop:=∀c:fW ly X,PE X e (tQ X.K c.1 f)
noncomputable def PB (ly:List du) (X:Cx) (e:Expr) (f:ae->R D):Prop:=∀c:fW ly X,PE X e (tB' X.K c.1 f)
noncomputable def mq (ly:List du) (X:Cx) (e:Expr) (f:ae->R Bool):Prop:=∀c:fW ly X,PT X e (tT X.K c.1 f)
noncomputable def qr (ly:List du) (X:Cx) (e:Expr) (f:ae->R Bool):Prop:=∀c:fW ly X,PW X e (tT X.K c.1 f)
noncomputable def ng (ly:List du) (X:Cx) (es:List Expr) (f:ae->R (List D)):Prop:=∀c:fW ly X,PA X es (we X.K c.1 f)
noncomputable def x4 (ly:List du) (X:Cx) (es:List Expr) (f:ae->R (List D)):Prop:=∀c:fW ly X,PA X es (x3 X.K c.1 f)
theorem PE.weak {X:Cx} {e:Expr} {t t':TE} (h:PE X e t) (w:∀σ H Q,t' σ H Q->t σ H Q):PE X e t':=fun pins s σ H Q I q=>h pins s σ H Q I (w σ H Q q)
theorem PT.weak {X:Cx} {e:Expr} {t t':TT} (h:PT X e t) (w:∀σ H Q,t' σ H Q->t σ H Q):PT X e t':=fun pins s σ H Q I q=>h pins s σ H Q I (w σ H Q q)
theorem PW.weak {X:Cx} {e:Expr} {t t':TT} (h:PW X e t) (w:∀σ H Q,t' σ H Q->t σ H Q):PW X e t':=fun wh pins s σ H Q I q=>h wh pins s σ H Q I (w σ H Q q)
theorem PA.weak {X:Cx} {e:List Expr} {t t':TA} (h:PA X e t) (w:∀σ H Q,t' σ H Q->t σ H Q):PA X e t':=fun pos pins s σ H Q I q=>h pos pins s σ H Q I (w σ H Q q)
theorem PS.weak {X:Cx} {e:Stmt} {t t':TS} (h:PS X e t) (w:∀D σ H,t' D σ H->t D σ H):PS X e t':=fun pins s σ H D I q=>h pins s σ H D I (w D σ H q)
theorem kt.weak {X:Cx} {e:List Stmt} {t t':TS} (h:kt X e t) (w:∀D σ H,t' D σ H->t D σ H):kt X e t':=fun pins s σ H D I q=>h pins s σ H D I (w D σ H q)
theorem PG.weak {X:Cx} {e:Expr} {t t':TG} (h:PG X e t) (w:∀v σ H Q,t' v σ H Q->t v σ H Q):PG X e t':=fun pins s σ H v u Q I r q=>h pins s σ H v u Q I r (w v σ H Q q)
theorem vq {K:PySem.W.Frag} {c:cA ly} {fa fb:ae->R D} {g:D->D->R D} {σ:St} {H:Hp} {Q:VK} (h:tQ K c (fun ρ=>fa ρ>>=fun x=>fb ρ>>=fun y=>g x y) σ H Q)
  {T:V->V->Hp->Prop} (k:∀F H2 F2 v u x y,bv H F H2 F2->bW K H2 F2 v x->bW K H2 F2 u y->aD c (g x y) (fun d=>∀w H' F',bv H F H' F'->cI K F' w d->Q w H')->T v u H2):
  tB' K c fa σ H fun v H1=>tB' K c fb σ H1 fun u H2=>T v u H2:=by
 obtain⟨F,ρ,ri,w⟩:=h
 refine⟨F,ρ,ri,(aD.bind.mp w).imp fun x hx w1 v H1 F1 e1 r1=>⟨F1,ρ,ri.step e1,(aD.bind.mp w1).imp fun y hy w2 u H2 F2 e2 r2=> ?_⟩⟩
 exact k F H2 F2 v u x y (e1.trans e2) (r1.mono e2) r2 w2
noncomputable def fj (K:PySem.W.Frag) (r:R2) (g:D->D->Option D):Prop:=∀v u x y d H F Q,aF F H->bW K H F v x->bW K H F u y->g x y=some d->(∀w H' F',bv H F H' F'->cI K F' w d->Q w H')->r v u H Q
noncomputable def lx (K:PySem.W.Frag) (r:List V->Hp->VK->Prop) (g:List D->Option D):Prop:=∀vs ds d H F Q,aF F H->jJ K H F vs ds->g ds=some d->(∀w H' F',bv H F H' F'->cI K F' w d->Q w H')->r vs H Q
section
variable {X:Cx} {a b e:Expr} {es:List Expr} {fa fb f:ae->R D} {fs:ae->R (List D)} {pos:Pos}
theorem PQ.bo (h:PQ ly X e f):PB ly X e f:=fun c=>PE.weak (h c) fun σ H Q ⟨F,ρ,ri,w⟩=>⟨F,ρ,ri,w.imp fun d _ k v H' F' e r=>k v H' F' e (.inl r)⟩
noncomputable def aA (i:Nat):ae->R D:=fun ρ=>match ρ[i]? with
 |some (some (.val d))=> .ok d
 |_=> .bad
noncomputable def ai (i:Nat):ae->R D:=fun ρ=>match ρ[i]? with
 |some (some .obj)=> .bad
 |some (some (.cel ..))=> .bad
 |some (some s)=> .ok s.data
 |_=> .bad
theorem yg (h:PE X e (qv i)):PQ ly X e (aA i):=fun c=>PE.weak h fun σ H Q ⟨F,ρ,ri,w⟩=>by
 unfold aA at w
 split at w
 ·rename_i d hd
  obtain⟨v,h1,h2⟩:=ri.val i d hd
  exact⟨v,h1,w v H F (bv.refl ri.sub) h2⟩
 ·exact w.elim
theorem yh (h:PE X e (qv i)):PB ly X e (ai i):=fun c=>PE.weak h fun σ H Q ⟨F,ρ,ri,w⟩=>by
 unfold ai at w
 split at w
 ·exact w.elim
 ·exact w.elim
 ·rename_i s hno1 hno2 hs
  cases s with
  |obj=>exact absurd rfl hno1
  |cel x vds f hs=>exact absurd rfl (hno2 _ _ _ _)
  |val d=>obtain⟨v,h1,h2⟩:=ri.val i d hs;exact⟨v,h1,w v H F (bv.refl ri.sub) (.inl h2)⟩
  |own d=>obtain⟨a,o,h1,h2,h3,h4,h5⟩:=ri.own i d hs;exact⟨_,h1,w _ H F (bv.refl ri.sub) (.inr ⟨a,o,rfl,h2,h5⟩)⟩
  |bor d=>obtain⟨a,o,h1,h2,h3⟩:=ri.bor i d hs;exact⟨_,h1,w _ H F (bv.refl ri.sub) (.inr ⟨a,o,rfl,ri.ext.keep _ _ (ri.bh _ _ h2),h3.mono ri.ext.grow⟩)⟩
 ·exact w.elim
theorem aI (i:Nat) {x:Str} (hN:X.N[i]? =some x:=by rfl) (hv:kh X.env.scope x:=by first|exact Or.inl rfl|exact Or.inr (Or.inl rfl)|exact Or.inr (Or.inr rfl)) (hd:(x==("__debug__":Str))=false:=by decide)
  (hcd:(x==("__classdict__":Str))=false:=by decide):PQ ly X (.Name x pos) (aA i):=yg (pv i hN hv hd hcd)
theorem al (i:Nat) {x:Str} (hN:X.N[i]? =some x:=by rfl) (hv:kh X.env.scope x:=by first|exact Or.inl rfl|exact Or.inr (Or.inl rfl)|exact Or.inr (Or.inr rfl)) (hd:(x==("__debug__":Str))=false:=by decide)
  (hcd:(x==("__classdict__":Str))=false:=by decide):PB ly X (.Name x pos) (ai i):=yh (pv i hN hv hd hcd)
noncomputable def fC (d:D):ae->R D:=fun _=> .ok d
theorem aC {i:Int} {j:Nat}:PQ ly X (.Constant (.int i) j pos) (fC (.int i)):=fun c=>PE.weak uR fun σ H Q ⟨F,ρ,ri,w⟩=>w _ H F (bv.refl ri.sub) (.int i)
theorem jL {i:Bool} {j:Nat}:PQ ly X (.Constant (.bool i) j pos) (fC (.bl i)):=fun c=>PE.weak wl fun σ H Q ⟨F,ρ,ri,w⟩=>w _ H F (bv.refl ri.sub) (.bl i)
theorem uB {j:Nat}:PQ ly X (.Constant .none j pos) (fC .non):=fun c=>PE.weak uS fun σ H Q ⟨F,ρ,ri,w⟩=>w _ H F (bv.refl ri.sub) .non
theorem bR {x:Str} {j:Nat}:PQ ly X (.Constant (.str x) j pos) (fC (.str x)):=fun c=>PE.weak uT fun σ H Q ⟨F,ρ,ri,w⟩=>w _ H F (bv.refl ri.sub) (.str x)
theorem jj {x:Str} {i:Int} {t:Tok} (hg:Gl X x) (hm:X.mg x=some (.int i t)) (hd:(x==("__debug__":Str))=false:=by decide):PQ ly X (.Name x pos) (fC (.int i)):=
 fun c=>PE.weak (og hg hm (v:= .int i) ⟨t,rfl⟩ hd) fun σ H Q ⟨F,ρ,ri,w⟩=>w _ H F (bv.refl ri.sub) (.int i)
noncomputable def f2 (g:D->D->Option D) (fa fb:ae->R D):ae->R D:=fun ρ=>fa ρ>>=fun x=>fb ρ>>=fun y=>R.of (g x y)
theorem bf {op:Operator} {r:R2} {g:D->D->Option D} (ho:gE X (binaryOp op) r) (sem:fj X.K r g) (ha:PB ly X a fa) (hb:PB ly X b fb):PQ ly X (.BinOp a op b pos) (f2 g fa fb):=fun c=>
 PE.weak (wC ho (ha c) (hb c)) fun σ H Q h=>vq h fun F H2 F2 v u x y e rx ry w=>by
  obtain⟨d,hd,k⟩:=w.of
  exact sem v u x y d H2 F2 Q e.sub rx ry hd fun w H' F' e' r'=>k w H' F' (e.trans e') r'
noncomputable def f1 (g:D->Option D) (fa:ae->R D):ae->R D:=fun ρ=>fa ρ>>=fun x=>R.of (g x)
theorem j3 {op:CmpOp} {r:R2} {g:D->D->Option D} (ho:gE X (compareOp op) r) (sem:fj X.K r g) (ha:PB ly X a fa) (hb:PB ly X b fb) (hm:behindInMarks op b=false:=by first|exact qC _|with_unfolding_all rfl):
  PQ ly X (.Compare a [op] [b] pos) (f2 g fa fb):=fun c=>
 PE.weak (sO ho (ha c) (hb c) hm) fun σ H Q h=>vq h fun F H2 F2 v u x y e rx ry w=>by
  obtain⟨d,hd,k⟩:=w.of
  exact sem v u x y d H2 F2 Q e.sub rx ry hd fun w H' F' e' r'=>k w H' F' (e.trans e') r'
noncomputable def fT (f:ae->R D):ae->R Bool:=fun ρ=>f ρ>>=fun d=>match d with
 | .bl b=> .ok b
 |_=> .bad
theorem x5 {t:TE} (h:PT X e (um t)) (w:∀σ H Q,tQ X.K c f σ H Q->t σ H Q):PT X e (tT X.K c (fT f)):=PT.weak h fun σ H Q ⟨F,ρ,ri,k⟩=>by
 refine w σ H _ ⟨F,ρ,ri,(aD.bind.mp k).imp fun d _ k1 v H' F' e r=> ?_⟩
 cases d with
 |bl b=>cases r;exact⟨b,rfl,k1 H' F' e⟩
 |_=>exact k1.elim
theorem bS {op:CmpOp} {r:R2} {g:D->D->Option D} (ho:gE X (compareOp op) r) (sem:fj X.K r g) (ha:PB ly X a fa) (hb:PB ly X b fb) (hm:behindInMarks op b=false:=by first|exact qC _|with_unfolding_all rfl):
  mq ly X (.Compare a [op] [b] pos) (fT (f2 g fa fb)):=fun c=>x5 (sP ho (ha c) (hb c) hm) fun σ H Q h=>vq h fun F H2 F2 v u x y e rx ry w=>by
  obtain⟨d,hd,k⟩:=w.of
  exact sem v u x y d H2 F2 Q e.sub rx ry hd fun w H' F' e' r'=>k w H' F' (e.trans e') r'
noncomputable def am:ae->R (List D):=fun _=> .ok []
noncomputable def aa (f:ae->R D) (fs:ae->R (List D)):ae->R (List D):=fun ρ=>f ρ>>=fun x=>fs ρ>>=fun xs=> .ok (x::xs)
theorem av:ng ly X [] am:=fun c=>PA.weak dF fun σ H Q ⟨F,ρ,ri,w⟩=>w [] H F (bv.refl ri.sub) .nil
theorem af (h:PQ ly X e f) (hr:ng ly X es fs) (hs:starEach (e::es) X.env=(false,eval e X.env)::starEach es X.env:=by rfl):ng ly X (e::es) (aa f fs):=fun c=>
 PA.weak (bP (h c) (hr c) hs) fun σ H Q ⟨F,ρ,ri,w⟩=>⟨F,ρ,ri,(aD.bind.mp w).imp fun x hx w1 v H1 F1 e1 r1=>⟨F1,ρ,ri.step e1,(aD.bind.mp w1).imp fun y hy w2 u H2 F2 e2 r2=>
  w2 _ H2 F2 (e1.trans e2) (.cons (r1.mono e2.grow) r2)⟩⟩
theorem bD:x4 ly X [] am:=fun c=>PA.weak dF fun σ H Q ⟨F,ρ,ri,w⟩=>w [] H F (bv.refl ri.sub) .nil
theorem bc (h:PB ly X e f) (hr:x4 ly X es fs) (hs:starEach (e::es) X.env=(false,eval e X.env)::starEach es X.env:=by rfl):x4 ly X (e::es) (aa f fs):=fun c=>
 PA.weak (bP (h c) (hr c) hs) fun σ H Q ⟨F,ρ,ri,w⟩=>⟨F,ρ,ri,(aD.bind.mp w).imp fun x hx w1 v H1 F1 e1 r1=>⟨F1,ρ,ri.step e1,(aD.bind.mp w1).imp fun y hy w2 u H2 F2 e2 r2=>
  w2 _ H2 F2 (e1.trans e2) (.cons (r1.mono e2) r2)⟩⟩
noncomputable def lim:Nat:=100000
theorem dX:lim<=sizeLine:=by decide
noncomputable def cY (fs:ae->R (List D)):ae->R D:=fun ρ=>fs ρ>>=fun ds=>if ds.length<=lim then .ok (.tup ds)else .bad
noncomputable def mv (fs:ae->R (List D)):ae->R D:=fun ρ=>fs ρ>>=fun ds=>if ds.length<=lim then .ok (.lst ds)else .bad
theorem dY {x1:Nat} (h:ng ly X es fs):PQ ly X (.Tuple es x1 pos) (cY fs):=fun c=>PE.weak (va (h c)) fun σ H Q ⟨F,ρ,ri,w⟩=>⟨F,ρ,ri,(aD.bind.mp w).imp fun ds hd w1 vs H1 F1 e1 r1=>by
 split at w1
 ·rename_i hl
  refine⟨Nat.le_trans (by rw[r1.length];exact hl) dX,fun p hp=> ?_⟩
  have e2:=bv.lay (o:= .tup vs) e1.sub hp
  exact w1 _ _ _ (e1.trans e2) (.tup ar (r1.mono e2.grow))
 ·exact w1.elim⟩
theorem qW (h:ng ly X es fs):PQ ly X (.List es pos) (mv fs):=fun c=>PE.weak (lm (h c)) fun σ H Q ⟨F,ρ,ri,w⟩=>⟨F,ρ,ri,(aD.bind.mp w).imp fun ds hd w1 vs H1 F1 e1 r1=>by
 split at w1
 ·rename_i hl
  refine⟨Nat.le_trans (by rw[r1.length];exact hl) dX,fun p hp=> ?_⟩
  have e2:=bv.lay (o:= .lst vs) e1.sub hp
  exact w1 _ _ _ (e1.trans e2) (.lst ar (r1.mono e2.grow))
 ·exact w1.elim⟩
noncomputable def dZ (g:List D->Option D) (fs:ae->R (List D)):ae->R D:=fun ρ=>fs ρ>>=fun ds=>R.of (g ds)
variable {x:Str} {p:Pos} {id T:String} {rc:List V->Hp->VK->Prop}
theorem oO {c:cA ly} {rc:List V->Hp->VK->Prop} {g:List D->Option D} (sem:lx X.K rc g) {σ:St} {H:Hp} {Q:VK} (h:tQ X.K c (dZ g fs) σ H Q):yb rc (x3 X.K c fs) σ H Q:=by
 obtain⟨F,ρ,ri,w⟩:=h
 refine⟨F,ρ,ri,(aD.bind.mp w).imp fun ds hd w1 vs H1 F1 e1 r1=> ?_⟩
 obtain⟨d,hd,k⟩:=w1.of
 exact sem vs ds d H1 F1 Q e1.sub r1 hd fun w H' F' e' r'=>k w H' F' (e1.trans e') r'
theorem bQ {g:List D->Option D} (hc:eO X (.builtin id) rc) (sem:lx X.K rc g) (hm:X.mg x=none) (hv:bootBuiltins x=some (.builtin id)) (ha:x4 ly X (e::es) fs) (hg:Gl X x:=by rfl) (hn:x≠"__name__":=by decide) (hdb:(x==("__debug__":Str))=false:=by decide)
  (he:starEach (e::es) X.env=(false,eval e X.env)::starEach es X.env:=by rfl) (hpl:(backTo pos (starEach es X.env)).any (·.1)=false:=by rfl):PQ ly X (.Call (.Name x p) (e::es) [] pos) (dZ g fs):=fun c=>
 PE.weak (i0 hc hg hm hv (ha c) hn hdb he hpl) fun σ H Q h=>oO sem h
theorem eQ {g:List D->Option D} (hc:eO X (.type T) rc) (sem:lx X.K rc g) (hm:X.mg x=none) (hv:bootBuiltins x=some (.type T)) (ha:x4 ly X (e::es) fs) (hg:Gl X x:=by rfl) (hn:x≠"__name__":=by decide) (hdb:(x==("__debug__":Str))=false:=by decide)
  (he:starEach (e::es) X.env=(false,eval e X.env)::starEach es X.env:=by rfl) (hpl:(backTo pos (starEach es X.env)).any (·.1)=false:=by rfl):PQ ly X (.Call (.Name x p) (e::es) [] pos) (dZ g fs):=fun c=>
 PE.weak (pG hc hg hm hv (ha c) hn hdb he hpl) fun σ H Q h=>oO sem h
noncomputable def pV (K:PySem.W.Frag) (n:Nat) (m:List D->R D):Sp:=fun vs H Q E=>vs.length=n/\∃F ds,aF F H/\Reps K F vs ds/\match m ds with
 | .ok d=>∀v H' F',bv H F H' F'->cI K F' v d->Q v H'
 | .err x _=>∀cls a H' F',cX K x cls->bv H F H' F'->E cls a H'
 | .bad=>False
noncomputable def bC (m:List D->R D) (n:Nat) (fs:ae->R (List D)):ae->R D:=fun ρ=>fs ρ>>=fun ds=>if ds.length=n then (match m ds with| .ok d=> .ok d| .err x _=> .err x ρ| .bad=> .bad)else .bad
theorem vr {c:cA ly} {m:List D->R D} {n:Nat} {σ:St} {H:Hp} {Q:VK} (h:tQ X.K c (bC m n fs) σ H Q):ut (pV X.K n m) [] (wd X c) (we X.K c fs) σ H Q:=by
 obtain⟨F,ρ,ri,w⟩:=h
 refine⟨F,ρ,ri,(aD.bind.mp w).imp fun ds hd w1 vs H1 F1 e1 r1=> ?_⟩
 show pV X.K n m (vs++[]) H1 Q (wd X c σ)
 rw[List.append_nil]
 split at w1
 ·rename_i hl
  refine⟨by rw[r1.length];exact hl,F1,ds,e1.sub,r1,?_⟩
  split at w1
  ·exact fun v H' F' e' r'=>w1 v H' F' (e1.trans e') r'
  ·exact fun cls a H' F' ec e'=>⟨_,ρ,F',ec,ri.step (e1.trans e'),w1⟩
  ·exact w1.elim
 ·exact w1.elim
theorem vt {n k:Nat} {m:List D->R D} {f:Addr} {fd:FuncData} {ps:List Str} (F:dc X.prog X.w X.K X.mg X.base (gB X.prog X.w) k f fd ps (pV X.K n m)) (hr:bL k X.A) (hm:X.mg x=some (.ref f)) (hk:PySem.W.keepIn X.K (.ref f)=true) (hb:cU X.K fd ps [])
  (ha:ng ly X (e::es) fs) (hg:Gl X x:=by rfl) (hdb:(x==("__debug__":Str))=false:=by decide) (he:starEach (e::es) X.env=(false,eval e X.env)::starEach es X.env:=by rfl) (hpl:(backTo pos (starEach es X.env)).any (·.1)=false:=by rfl):
  PQ ly X (.Call (.Name x p) (e::es) [] pos) (bC m n fs):=fun c=>PE.weak (ou F hr hg hm hk hb .nil (jK c) (ha c) hdb he hpl) fun σ H Q h=>vr h
variable {ga gb:ae->R Bool} {rest:List Expr}
noncomputable def pW (ga gb:ae->R Bool):ae->R Bool:=fun ρ=>ga ρ>>=fun b=>if b=true then gb ρ else .ok false
noncomputable def tK (ga gb:ae->R Bool):ae->R Bool:=fun ρ=>ga ρ>>=fun b=>if b=true then .ok true else gb ρ
noncomputable def kl (ga:ae->R Bool):ae->R Bool:=fun ρ=>ga ρ>>=fun b=> .ok (!b)
theorem qr.t (h:qr ly X e ga):mq ly X e ga:=fun c=>(h c).pt
theorem vv (h:mq ly X a ga):qr ly X (.BoolOp .And [a] pos) ga:=fun c=>sI (h c)
theorem qX (h:mq ly X a ga):qr ly X (.BoolOp .Or [a] pos) ga:=fun c=>uV (h c)
theorem xa (h:mq ly X a ga) (hb:qr ly X (.BoolOp .And (b::rest) pos) gb):qr ly X (.BoolOp .And (a::b::rest) pos) (pW ga gb):=fun c=>PW.weak (uW (h c) (hb c)) fun σ H Q ⟨F,ρ,ri,w⟩=>
 ⟨F,ρ,ri,(aD.bind.mp w).imp fun b hb w1 H1 F1 e1=>by
  cases b with
  |true=>exact⟨F1,ρ,ri.step e1,w1.imp fun b' _ k H2 F2 e2=>k H2 F2 (e1.trans e2)⟩
  |false=>exact w1 H1 F1 e1⟩
theorem vw (h:mq ly X a ga) (hb:qr ly X (.BoolOp .Or (b::rest) pos) gb):qr ly X (.BoolOp .Or (a::b::rest) pos) (tK ga gb):=fun c=>PW.weak (wm (h c) (hb c)) fun σ H Q ⟨F,ρ,ri,w⟩=>
 ⟨F,ρ,ri,(aD.bind.mp w).imp fun b hb w1 H1 F1 e1=>by
  cases b with
  |false=>exact⟨F1,ρ,ri.step e1,w1.imp fun b' _ k H2 F2 e2=>k H2 F2 (e1.trans e2)⟩
  |true=>exact w1 H1 F1 e1⟩
theorem oP (h:mq ly X a ga):mq ly X (.UnaryOp .Not a pos) (kl ga):=fun c=>PT.weak (uX (h c)) fun σ H Q ⟨F,ρ,ri,w⟩=>⟨F,ρ,ri,(aD.bind.mp w).imp fun b hb w1 H1 F1 e1=>w1 H1 F1 e1⟩
noncomputable def jM (fa fb:ae->R D):ae->R D:=fun ρ=>fa ρ>>=fun d=>match d with
 | .bl true=>fb ρ
 | .bl false=> .ok (.bl false)
 |_=> .bad
noncomputable def qY (fa fb:ae->R D):ae->R D:=fun ρ=>fa ρ>>=fun d=>match d with
 | .bl true=> .ok (.bl true)
 | .bl false=>fb ρ
 |_=> .bad
noncomputable def kI (fa:ae->R D):ae->R D:=fun ρ=>fa ρ>>=fun d=>match d with
 | .bl b=> .ok (.bl (!b))
 |_=> .bad
theorem qZ {op:PySem.BoolOp} (h:PQ ly X a fa):PQ ly X (.BoolOp op [a] pos) fa:=fun c=>uY (h c)
theorem q_ (ha:PQ ly X a fa) (hb:PQ ly X (.BoolOp .And (b::rest) pos) fb):PQ ly X (.BoolOp .And (a::b::rest) pos) (jM fa fb):=fun c=>PE.weak (uZ (ha c) (hb c)) fun σ H Q ⟨F,ρ,ri,w⟩=>
 ⟨F,ρ,ri,(aD.bind.mp w).imp fun d hd w1 v H1 F1 e1 r1=>by
  cases d with
  |bl b=>
   cases r1
   cases b with
   |true=>exact⟨true,rfl,F1,ρ,ri.step e1,w1.imp fun b' _ k v H2 F2 e2 r2=>k v H2 F2 (e1.trans e2) r2⟩
   |false=>exact⟨false,rfl,w1 _ H1 F1 e1 (.bl false)⟩
  |_=>exact w1.elim⟩
theorem yi (ha:PQ ly X a fa) (hb:PQ ly X (.BoolOp .Or (b::rest) pos) fb):PQ ly X (.BoolOp .Or (a::b::rest) pos) (qY fa fb):=fun c=>PE.weak (wt (ha c) (hb c)) fun σ H Q ⟨F,ρ,ri,w⟩=>
 ⟨F,ρ,ri,(aD.bind.mp w).imp fun d hd w1 v H1 F1 e1 r1=>by
  cases d with
  |bl b=>
   cases r1
   cases b with
   |false=>exact⟨false,rfl,F1,ρ,ri.step e1,w1.imp fun b' _ k v H2 F2 e2 r2=>k v H2 F2 (e1.trans e2) r2⟩
   |true=>exact⟨true,rfl,w1 _ H1 F1 e1 (.bl true)⟩
  |_=>exact w1.elim⟩
theorem uC (ha:PQ ly X a fa):PQ ly X (.UnaryOp .Not a pos) (kI fa):=fun c=>PE.weak (u_ (ha c)) fun σ H Q ⟨F,ρ,ri,w⟩=>⟨F,ρ,ri,(aD.bind.mp w).imp fun d hd w1 v H1 F1 e1 r1=>by
  cases d with
  |bl b=>cases r1;exact⟨b,rfl,w1 _ H1 F1 e1 (.bl _)⟩
  |_=>exact w1.elim⟩
noncomputable def yP (gc:ae->R Bool) (fa fb:ae->R D):ae->R D:=fun ρ=>gc ρ>>=fun b=>if b=true then fa ρ else fb ρ
noncomputable def iG:D->Option Bool
 | .non=>some false
 | .bl b=>some b
 | .int i=>some (i != 0)
 | .lst ds=>some (!ds.isEmpty)
 | .tup ds=>some (!ds.isEmpty)
 | .dic ds=>some (!ds.isEmpty)
 |_=>none
noncomputable def eR (f:ae->R D):ae->R Bool:=fun ρ=>f ρ>>=fun d=>R.of (iG d)
theorem Reps.isEmpty {K:PySem.W.Frag} {F:Hp}:∀{vs:List V} {ds:List D},Reps K F vs ds->vs.isEmpty=ds.isEmpty
 |_,_, .nil=>rfl
 |_,_, .cons _ _=>rfl
theorem RepK.isEmpty {K:PySem.W.Frag} {F:Hp}:∀{vs:List (cb×V)} {ds:List (cb×D)},RepK K F vs ds->vs.isEmpty=ds.isEmpty
 |_,_, .nil=>rfl
 |_,_, .cons _ _=>rfl
theorem j4 (h:PB ly X e f) (he:∀whole,isTrue e X.env whole=(do let v<-whole;standAt e.pos;holding [v] (truthy v)):=by intro _;rfl):mq ly X e (eR f):=fun c=>PT.weak (qD (h c) he) fun σ H Q ⟨F,ρ,ri,w⟩=>
 ⟨F,ρ,ri,(aD.bind.mp w).imp fun d hd w1 v H1 F1 e1 r1=>by
  obtain⟨b,hb,k⟩:=w1.of
  refine⟨b,?_,k H1 F1 e1⟩
  cases d with
  |non=>cases r1.non;cases hb;rfl
  |bl=>cases r1.bl;cases hb;rfl
  |int=>cases r1.int;cases hb;rfl
  |lst ds=>obtain⟨a,vs,rfl,h1,h2⟩:=r1.lst e1.sub;cases hb;exact .inl ⟨vs,dr.of h1,by rw[h2.isEmpty]⟩
  |tup ds=>obtain⟨a,vs,rfl,h1,h2⟩:=r1.tup e1.sub;cases hb;exact .inr (.inl ⟨vs,eL.of h1,by rw[h2.isEmpty]⟩)
  |dic ds=>obtain⟨a,vs,rfl,h1,h2,h3⟩:=r1.dic e1.sub;cases hb;exact .inr (.inr ⟨vs,h1,by rw[h2.isEmpty]⟩)
  |_=>cases hb⟩
end
end L2.Pu
namespace L2.Pu
open PySem PySem.Spec PyProof.Rows
variable {ly:List du}
inductive br where
 |nx (ρ:ae)|ret (d:D)|brk (ρ:ae)|cnt (ρ:ae)|retc (d:D) (ρ:ae)
noncomputable def dM (K:PySem.W.Frag) (c:cA ly) (F:Hp) (D:iA):br->Prop
 | .nx ρ=>∀σ' H' F',aF F F'->RI K c ρ σ' H' F'->D.nx σ' H'
 | .brk ρ=>∀σ' H' F',aF F F'->RI K c ρ σ' H' F'->D.bk σ' H'
 | .cnt ρ=>∀σ' H' F',aF F F'->RI K c ρ σ' H' F'->D.ct σ' H'
 | .ret d=>∀v H' F',aF F F'->bv c.H0 c.F0 H' F'->cI K F' v d->D.rt v H'
 | .retc d ρ=>∀v σ' H' F',aF F F'->RI K c ρ σ' H' F'->cI K F' v d->D.rt v H'
theorem dM.mono {K:PySem.W.Frag} {c:cA ly} {F F1:Hp} {D:iA} (g:aF F F1):∀{o:br},dM K c F D o->dM K c F1 D o
 | .nx ρ,h=>fun σ' H' F' s r=>h σ' H' F' (g.trans s) r
 | .brk ρ,h=>fun σ' H' F' s r=>h σ' H' F' (g.trans s) r
 | .cnt ρ,h=>fun σ' H' F' s r=>h σ' H' F' (g.trans s) r
 | .ret d,h=>fun v H' F' s e r=>h v H' F' (g.trans s) e r
 | .retc d ρ,h=>fun v σ' H' F' s e r=>h v σ' H' F' (g.trans s) e r
noncomputable def tS (K:PySem.W.Frag) (c:cA ly) (g:ae->R br):TS:=fun D σ H=>∃F ρ,RI K c ρ σ H F/\aD c (g ρ) (dM K c F D)
noncomputable def jk (ly:List du) (X:Cx) (st:Stmt) (g:ae->R br):Prop:=∀c:fW ly X,PS X st (tS X.K c.1 g)
noncomputable def fq (ly:List du) (X:Cx) (st:List Stmt) (g:ae->R br):Prop:=∀c:fW ly X,kt X st (tS X.K c.1 g)
section
variable {X:Cx} {st:Stmt} {rest:List Stmt} {a b e:Expr} {es:List Expr} {fa fb f:ae->R D} {fs:ae->R (List D)} {ga gb g g':ae->R br} {gt:ae->R Bool} {pos:Pos}
noncomputable def bi:ae->R br:=fun ρ=> .ok (.nx ρ)
noncomputable def aN (g g':ae->R br):ae->R br:=fun ρ=>g ρ>>=fun o=>match o with
 | .nx ρ'=>g' ρ'
 |o=> .ok o
theorem bt:fq ly X [] bi:=fun c=>kt.weak sJ fun D σ H ⟨F,ρ,ri,w⟩=>w σ H F (aF.refl _) ri
theorem ao (h:jk ly X st g) (hr:fq ly X rest g'):fq ly X (st::rest) (aN g g'):=fun c=>kt.weak (qx (h c) (hr c)) fun D σ H ⟨F,ρ,ri,w⟩=>by
 refine⟨F,ρ,ri,(aD.bind.mp w).imp fun o ho w1=> ?_⟩
 cases o with
 |nx ρ'=>exact fun σ' H' F' s r=>⟨F',ρ',r,w1.imp fun o' _ k=>k.mono s⟩
 |ret d=>exact w1
 |brk ρ'=>exact w1
 |cnt ρ'=>exact w1
 |retc d ρ'=>exact w1
theorem ay (h:jk ly X st g):fq ly X [st] g:=fun c=>kt.weak (sK (h c)) fun D σ H w=>w
noncomputable def vx (L:List Nat) (g:ae->R br):ae->R br:=fun ρ=>g (frz L ρ)
theorem xb (L:List Nat) (h:jk ly X st g):jk ly X st (vx L g):=fun c=>PS.weak (h c) fun D σ H ⟨F,ρ,ri,w⟩=>by
 obtain⟨F',s,ri'⟩:=ri.frz L
 exact⟨F',_,ri',w.imp fun o _ k=>k.mono s⟩
noncomputable def cj (f:ae->R D):ae->R br:=fun ρ=>f ρ>>=fun d=> .ok (.ret d)
theorem ci (h:PQ ly X e f):jk ly X (.Return (some e) pos) (cj f):=fun c=>PS.weak (nj (h c)) fun D σ H ⟨F,ρ,ri,w⟩=>
 ⟨F,ρ,ri,(aD.bind.mp w).imp fun d _ w1 v H' F' e r=>w1 v H' F' e.grow (ri.ext.trans e) r⟩
noncomputable def eM (gc:ae->R Bool) (g g':ae->R br):ae->R br:=fun ρ=>gc ρ>>=fun b=>if b=true then g ρ else g' ρ
theorem de {ta tb:List Stmt} (hc:mq ly X e gt) (ha:fq ly X ta g) (hb:fq ly X tb g'):jk ly X (.If e ta tb pos) (eM gt g g'):=fun c=>PS.weak (ww (hc c) (ha c) (hb c)) fun D σ H ⟨F,ρ,ri,w⟩=>
 ⟨F,ρ,ri,(aD.bind.mp w).imp fun b hb w1 H1 F1 e1=>by
  cases b with
  |true=>exact⟨F1,ρ,ri.step e1,w1.imp fun o _ k=>k.mono e1.grow⟩
  |false=>exact⟨F1,ρ,ri.step e1,w1.imp fun o _ k=>k.mono e1.grow⟩⟩
noncomputable def tG (K:PySem.W.Frag) (c:cA ly) (gt:D->ae->R ae):TG:=fun v σ H Q=>∃F ρ d,RI K c ρ σ H F/\cI K F v d/\aD c (gt d ρ) fun ρ'=>∀σ' H' F',aF F F'->RI K c ρ' σ' H' F'->Q σ' H'
noncomputable def wg (ly:List du) (X:Cx) (tg:Expr) (gt:D->ae->R ae):Prop:=∀c:fW ly X,PG X tg (tG X.K c.1 gt)
noncomputable def gN (i:Nat):D->ae->R ae:=fun d ρ=> .ok (ρ.set i (some (.val d)))
theorem d_ (i:Nat) {x:Str} (hN:X.N.Nodup) (hi:X.N[i]? =some x:=by rfl) (hx:qu X.env.scope x:=by first|exact Or.inl rfl|exact Or.inr rfl) (hf:X.fn x=true\/X.env.scope.names.lookup x=some .local:=by first|exact .inl rfl|exact .inr rfl|assumption) (hfr:gG ly i:=by(repeat (first|assumption|exact L2.Pu.dC|refine L2.Pu.cQ ⟨by first|decide|simp,by first|decide|simp⟩ ?_))):wg ly X (.Name x pos) (gN i):=
 fun c=>PG.weak (oi hN hi hx hf) fun v σ H Q ⟨F,ρ,d,ri,r,w⟩=>w _ H F (aF.refl _) (ri.setVal i hfr r)
noncomputable def yD:List D->ae->R ae:=fun ds ρ=>match ds with
 |[]=> .ok ρ
 |_=> .bad
noncomputable def ck (f:ae->R D) (g:D->ae->R ae):ae->R br:=fun ρ=>f ρ>>=fun d=>g d ρ>>=fun ρ'=> .ok (.nx ρ')
theorem cZ (i:Nat) {x:Str} {pos':Pos} (hN:X.N.Nodup) (he:PQ ly X e f) (hi:X.N[i]? =some x:=by rfl) (hx:qu X.env.scope x:=by first|exact Or.inl rfl|exact Or.inr rfl) (hs:swapsWith e (some (.Name x pos')) pos.line X.env=pure false:=by rfl)
  (hf:X.fn x=true\/X.env.scope.names.lookup x=some .local:=by first|exact .inl rfl|exact .inr rfl|assumption) (hfr:gG ly i:=by(repeat (first|assumption|exact L2.Pu.dC|refine L2.Pu.cQ ⟨by first|decide|simp,by first|decide|simp⟩ ?_))):jk ly X (.Assign [.Name x pos'] e pos) (ck f (gN i)):=fun c=>
 PS.weak (jv hN hi hx (he c) hs hf) fun D σ H h=>by
  obtain⟨F,ρ,ri,w⟩:=h
  exact⟨F,ρ,ri,(aD.bind.mp w).imp fun d _ w1 v H1 F1 e1 r1=>w1 _ H1 F1 e1.grow ((ri.step e1).setVal i hfr r1)⟩
noncomputable def yQ (i j:Nat) (fs:ae->R (List D)):ae->R br:=fun ρ=>fs ρ>>=fun ds=>match ds with
 |[x,y]=> .ok (.nx ((ρ.set i (some (.val x))).set j (some (.val y))))
 |_=> .bad
noncomputable def kJ (i:Nat) (fs:ae->R (List D)):ae->R br:=fun ρ=>fs ρ>>=fun ds=>if ds.length<=lim then .ok (.nx (ρ.set i (some (.own (.lst ds)))))else .bad
theorem lz (i:Nat) {x:Str} {pos' pl:Pos} (hN:X.N.Nodup) (h:ng ly X es fs) (hi:X.N[i]? =some x:=by rfl) (hx:qu X.env.scope x:=by first|exact Or.inl rfl|exact Or.inr rfl) (hs:swapsWith (.List es pl) (some (.Name x pos')) pos.line X.env=pure false:=by rfl)
  (hf:X.fn x=true\/X.env.scope.names.lookup x=some .local:=by first|exact .inl rfl|exact .inr rfl|assumption) (hfr:gG ly i:=by(repeat (first|assumption|exact L2.Pu.dC|refine L2.Pu.cQ ⟨by first|decide|simp,by first|decide|simp⟩ ?_))):jk ly X (.Assign [.Name x pos'] (.List es pl) pos) (kJ i fs):=fun c=>
 PS.weak (jv hN hi hx (lm (h c)) hs hf) fun D σ H ⟨F,ρ,ri,w⟩=>⟨F,ρ,ri,(aD.bind.mp w).imp fun ds _ w1 vs H1 F1 e1 r1=>by
  split at w1
  ·rename_i hl
   refine⟨Nat.le_trans (by rw[r1.length];exact hl) dX,fun p hp=> ?_⟩
   exact w1 _ _ F1 e1.grow ((ri.step e1).setNew i hfr hp (.lst r1))
  ·exact w1.elim⟩
structure pX (K:PySem.W.Frag) (F:Hp) (J:It) (ds:List D):Prop where
 go:∀i H,aF F H->i<ds.length->J.go i H
 stop:∀H,aF F H->J.stop ds.length H
 yld:∀i H F1 x H',aF F F1->aF F1 H->J.yld i H x H'->i<ds.length->∃F' d,ds[i]? =some d/\bv H F1 H' F'/\cI K F' x d
noncomputable def tI (K:PySem.W.Frag) (c:cA ly) (fi:ae->R (List D)):TI:=fun σ H Rk=>∃F ρ,RI K c ρ σ H F/\aD c (fi ρ) fun ds=>∀J H' F',bv H F H' F'->pX K F' J ds->Rk J H'
noncomputable def vy (ly:List du) (X:Cx) (tg iter:Expr) (fi:ae->R (List D)):Prop:=∀c:fW ly X,PI X tg iter (tI X.K c.1 fi)
theorem PI.weak {X:Cx} {tg e:Expr} {t t':TI} (h:PI X tg e t) (w:∀σ H Rk,t' σ H Rk->t σ H Rk):PI X tg e t':=fun pins s σ H Rk I q=>h pins s σ H Rk I (w σ H Rk q)
noncomputable def eG (g:D->ae->R ae) (gb:ae->R br):List D->ae->R br
 |[],ρ=> .ok (.nx ρ)
 |d::r,ρ=>g d ρ>>=fun ρ1=>gb ρ1>>=fun o=>match o with
  | .nx ρ2=>eG g gb r ρ2
  | .cnt ρ2=>eG g gb r ρ2
  | .brk ρ2=> .ok (.nx ρ2)
  | .ret d=> .ok (.ret d)
  | .retc d ρ2=> .ok (.retc d ρ2)
noncomputable def mw (fi:ae->R (List D)) (g:D->ae->R ae) (gb:ae->R br):ae->R br:=fun ρ=>fi ρ>>=fun ds=>eG g gb ds ρ
theorem nL {g:D->ae->R ae} {gb:ae->R br} {ds:List D} {i:Nat} {d:D} {ρ:ae} (h:ds[i]? =some d):eG g gb (ds.drop i) ρ=(g d ρ>>=fun ρ1=>gb ρ1>>=fun o=>match o with
  | .nx ρ2=>eG g gb (ds.drop (i+1)) ρ2
  | .cnt ρ2=>eG g gb (ds.drop (i+1)) ρ2
  | .brk ρ2=> .ok (.nx ρ2)
  | .ret d=> .ok (.ret d)
  | .retc d ρ2=> .ok (.retc d ρ2)):=by
 obtain⟨hl,e⟩:=List.getElem?_eq_some_iff.mp h
 rw[List.drop_eq_getElem_cons hl,e]
 rfl
theorem vz {K:PySem.W.Frag} {c:cA ly} {fi:ae->R (List D)} {g:D->ae->R ae} {D':iA} {σ:St} {H:Hp} (h:tS K c (mw fi g gb) D' σ H):wB (tI K c fi) (tG K c g) (tS K c gb) D' σ H:=by
 obtain⟨F,ρ,ri,w⟩:=h
 refine⟨F,ρ,ri,(aD.bind.mp w).imp fun ds _ w1 J H1 F1 e1 jo=> ?_⟩
 refine⟨fun i m σ H=>∃F2 ρ2,RI K c ρ2 σ H F2/\aF F1 F2/\m=ds.length - i/\i<=ds.length/\aD c (eG g gb (ds.drop i) ρ2) (dM K c F2 D'),⟨_,F1,ρ,ri.step e1,aF.refl _,rfl,Nat.zero_le _,w1.imp fun o _ k=>k.mono e1.grow⟩,?_⟩
 rintro i m σ2 H2 ⟨F2,ρ2,ri2,s2,rfl,hi,w2⟩
 by_cases hl:i<ds.length
 ·refine .inr ⟨jo.go i H2 (s2.trans ri2.sub) hl,fun σ' H'=>∃F3 ρ3,RI K c ρ3 σ' H' F3/\aF F2 F3/\aD c (eG g gb (ds.drop (i+1)) ρ3) (dM K c F3 D'),?_,fun x H3 y=> ?_⟩
  ·rintro σ' H' ⟨F3,ρ3,ri3,s3,w3⟩
   exact⟨ds.length - (i+1),by omega,F3,ρ3,ri3,s2.trans s3,rfl,hl,w3⟩
  ·obtain⟨F3,d,hd,e3,r3⟩:=jo.yld i H2 F2 x H3 s2 ri2.sub y hl
   rw[nL hd]at w2
   refine⟨F3,ρ2,d,ri2.step e3,r3,(aD.bind.mp w2).imp fun ρ3 _ w3 σ4 H4 F4 s4 r4=>⟨F4,ρ3,r4,(aD.bind.mp w3).imp fun o _ w4=> ?_⟩⟩
   have s24:aF F2 F4:=e3.grow.trans s4
   cases o with
   |nx ρ5=>exact fun σ' H' F' s' r'=>⟨F',ρ5,r',s24.trans s',w4.imp fun o _ k=>k.mono (s24.trans s')⟩
   |cnt ρ5=>exact fun σ' H' F' s' r'=>⟨F',ρ5,r',s24.trans s',w4.imp fun o _ k=>k.mono (s24.trans s')⟩
   |brk ρ5=>exact fun σ' H' F' s' r'=>w4 σ' H' F' (s24.trans s') r'
   |ret d=>exact fun v H' F' s' e' r'=>w4 v H' F' (s24.trans s') e' r'
   |retc d ρ5=>exact fun v σ' H' F' s' e' r'=>w4 v σ' H' F' (s24.trans s') e' r'
 ·have e:i=ds.length:=by omega
  subst e
  rw[List.drop_length]at w2
  exact .inl ⟨jo.stop H2 (s2.trans ri2.sub),w2 σ2 H2 F2 (aF.refl _) ri2⟩
theorem uD {tg iter:Expr} {body:List Stmt} {fi:ae->R (List D)} {g:D->ae->R ae} (hp:PassesOwn (model X.prog X.w) X.A X.env X.xe) (hc:X.calm=true) (hi:vy ly X tg iter fi) (hg:wg ly X tg g) (hb:fq ly X body gb)
  (hs:∀x,foldedSetIterable iter X.env x=pure x:=by intro _;rfl):jk ly X (.For tg iter body [] pos) (mw fi g gb):=fun c=>PS.weak (v1 hp hc (hi c) (hg c) (hb c) hs) fun D σ H h=>vz h
theorem pY {K:PySem.W.Frag} {F:Hp} {a:Addr} {vs:List V} {ds:List D} (h:F a=some (.lst vs)) (r:Reps K F vs ds):pX K F (xA K a) ds where
 go:=fun i H s hi=>⟨vs,vs[i]'(by rw[r.length];exact hi),dr.of (s _ _ h),by simp[r.length,hi]⟩
 stop:=fun H s=>⟨vs,dr.of (s _ _ h),Nat.le_of_eq r.length⟩
 yld:=fun i H F1 x H' s1 s2 y hi=>by
  obtain⟨rfl,y⟩:=y
  have:=y vs (dr.of (s2 _ _ (s1 _ _ h)))
  obtain⟨d,hd,rd⟩:=r.get' this
  exact⟨F1,d,hd,bv.refl s2,rd.mono s1⟩
theorem r0 {K:PySem.W.Frag} {F:Hp} {a:Addr} {vs:List V} {ds:List D} (h:F a=some (.tup vs)) (r:Reps K F vs ds):pX K F (xY K a) ds where
 go:=fun i H s hi=>⟨vs,vs[i]'(by rw[r.length];exact hi),eL.of (s _ _ h),by simp[r.length,hi]⟩
 stop:=fun H s=>⟨vs,eL.of (s _ _ h),Nat.le_of_eq r.length⟩
 yld:=fun i H F1 x H' s1 s2 y hi=>by
  obtain⟨rfl,y⟩:=y
  have:=y vs (eL.of (s2 _ _ (s1 _ _ h)))
  obtain⟨d,hd,rd⟩:=r.get' this
  exact⟨F1,d,hd,bv.refl s2,rd.mono s1⟩
noncomputable def dP (f:ae->R D):ae->R (List D):=fun ρ=>f ρ>>=fun d=>match d with
 | .lst ds=> .ok ds
 | .tup ds=> .ok ds
 | .scr ns=> .ok (ns.map .int)
 |_=> .bad
theorem r8 {K:PySem.W.Frag} {F:Hp} {a:Addr} {ns:List Int} (h:dr K F a (ns.map V.int)):pX K F (xA K a) (ns.map .int)where
 go:=fun i H s hi=>⟨ns.map V.int,(ns.map V.int)[i]'(by simpa using hi),s.seq h,by simp at hi;simp[hi]⟩
 stop:=fun H s=>⟨ns.map V.int,s.seq h,by simp⟩
 yld:=fun i H F1 x H' s1 s2 y hi=>by
  obtain⟨rfl,y⟩:=y
  have:=y (ns.map V.int) ((s1.trans s2).seq h)
  rw[List.getElem?_map]at this
  cases e:ns[i]? with
  |none=>rw[e]at this;cases this
  |some n=>rw[e]at this;cases this;exact⟨F1, .int n,by rw[List.getElem?_map,e];rfl,bv.refl s2, .int n⟩
theorem ij {tg:Expr} (h:PQ ly X e f):vy ly X tg e (dP f):=by
 intro c pins s σ H Rk I q
 obtain⟨F,ρ,ri,w⟩:=q
 have w':=aD.bind.mp w
 cases hf:f ρ with
 |bad=>rw[hf]at w';exact w'.elim
 |err er ρe=>
  rw[hf]at w'
  exact lj (h c) pins s σ H Rk I ⟨F,ρ,ri,by rw[hf];exact w'⟩
 |ok d=>
  rw[hf]at w'
  cases d with
  |lst ds=>exact lj (h c) pins s σ H Rk I ⟨F,ρ,ri,by
    rw[hf]
    intro v H1 F1 e1 r1
    cases r1 with
    |lst h1 h2=>exact⟨_,rfl,⟨_,dr.of (e1.sub _ _ h1)⟩,w' _ H1 F1 e1 (pY h1 h2)⟩⟩
  |tup ds=>exact v0 (h c) pins s σ H Rk I ⟨F,ρ,ri,by
    rw[hf]
    intro v H1 F1 e1 r1
    cases r1 with
    |tup h1 h2=>exact⟨_,rfl,⟨_,eL.of (e1.sub _ _ h1)⟩,w' _ H1 F1 e1 (r0 h1 h2)⟩⟩
  |scr ns=>exact lj (h c) pins s σ H Rk I ⟨F,ρ,ri,by
    rw[hf]
    intro v H1 F1 e1 r1
    cases r1 with
    |scr h1=>exact⟨_,rfl,⟨_,e1.sub.seq h1⟩,w' _ H1 F1 e1 (r8 h1)⟩⟩
  |_=>exact w'.elim
noncomputable def ee (lo hi:Int):List D:=(List.range (hi - lo).toNat).map fun k:Nat=>D.int (lo+(k:Int))
theorem jN {K:PySem.W.Frag} {F:Hp} {lo hi:Int}:pX K F (wx lo (hi - lo).toNat) (ee lo hi)where
 go:=fun i H s h=>by
  rw[ee,List.length_map,List.length_range]at h
  exact h
 stop:=fun H s=>by show (hi - lo).toNat<=_;rw[ee,List.length_map,List.length_range];exact Nat.le_refl _
 yld:=fun i H F1 x H' s1 s2 y h=>by
  obtain⟨rfl,rfl⟩:=y
  have h':i<(hi - lo).toNat:=by rw[ee,List.length_map,List.length_range]at h;exact h
  exact⟨F1, .int (lo+i),by rw[ee,List.getElem?_map,List.getElem?_range h'];rfl,bv.refl s2, .int _⟩
noncomputable def jl (f:ae->R (List D)):ae->R (List D):=fun ρ=>f ρ>>=fun ds=>match ds with
 |[.int j]=>if j.natAbs<=lim then .ok (ee 0 j)else .bad
 |_=> .bad
noncomputable def jm (f:ae->R (List D)):ae->R (List D):=fun ρ=>f ρ>>=fun ds=>match ds with
 |[.int i, .int j]=>if i.natAbs<=lim/\j.natAbs<=lim then .ok (ee i j)else .bad
 |_=> .bad
theorem eH {j:Int} (h:j.natAbs<=lim): -(2 ^62)<=j/\j<2 ^62:=by
 unfold lim at h
 omega
theorem r9 {tg:Expr} {p:Pos} (hm:X.mg "range"=none) (ha:ng ly X [a] fs) (hg:Gl X "range":=by rfl) (hs:starEach [a] X.env=[(false,eval a X.env)]:=by rfl):vy ly X tg (.Call (.Name "range" p) [a] [] pos) (jl fs):=fun c=>
 PI.weak (pr hg hm (ha c) hs) fun σ H Rk ⟨F,ρ,ri,w⟩=>⟨F,ρ,ri,(aD.bind.mp w).imp fun ds _ w1 vs H1 F1 e1 r1=>by
  split at w1
  ·split at w1
   ·rename_i j _ hj
    cases r1.int1
    exact⟨j,rfl,(eH hj).1,(eH hj).2,w1 _ H1 F1 e1 (by simpa using jN (K:=X.K) (F:=F1) (lo:=0) (hi:=j))⟩
   ·exact w1.elim
  ·exact w1.elim⟩
theorem ra {tg:Expr} {p:Pos} (hm:X.mg "range"=none) (ha:ng ly X [a,b] fs) (hg:Gl X "range":=by rfl) (hs:starEach [a,b] X.env=[(false,eval a X.env),(false,eval b X.env)]:=by rfl) (hs2:starEach [b] X.env=[(false,eval b X.env)]:=by rfl):vy ly X tg (.Call (.Name "range" p) [a,b] [] pos) (jm fs):=fun c=>
 PI.weak (pw hg hm (ha c) hs hs2) fun σ H Rk ⟨F,ρ,ri,w⟩=>⟨F,ρ,ri,(aD.bind.mp w).imp fun ds _ w1 vs H1 F1 e1 r1=>by
  split at w1
  ·split at w1
   ·rename_i i j _ hj
    cases r1.int2
    exact⟨i,j,rfl,⟨(eH hj.1).1,(eH hj.1).2,(eH hj.2).1,(eH hj.2).2⟩,w1 _ H1 F1 e1 jN⟩
   ·exact w1.elim
  ·exact w1.elim⟩
end
noncomputable def cf (n:Nat) (ds:List D):ae:=ds.map (fun d=>some (.val d))++List.replicate (n - ds.length) none
noncomputable def bE (k n:Nat) (g:ae->R br) (ds:List D):R D:=if ds.length=k then g (cf n ds)>>=fun o=>match o with
 | .ret d=> .ok d
 | .nx _=> .ok .non
 |_=> .bad else .bad
theorem rb {K:PySem.W.Frag} {N:List Str} {H F:Hp} {vs:List V} {ds:List D} {Er:Str->ae->Prop} (s:aF F H) (r:Reps K F vs ds):RI K (⟨H,F,fun _=>none,Er,fun _=>none,fun _=>none⟩:cA []) (cf N.length ds) (cE N vs) H F:=by
 have hv:∀(i:Nat) sl,(cf N.length ds)[i]? =some (some sl)->∃d,ds[i]? =some d/\sl= .val d:=fun i sl h=>by
  unfold cf at h
  rw[List.getElem?_append]at h
  split at h
  ·rw[List.getElem?_map]at h
   cases e:ds[i]? with
   |none=>rw[e]at h;cases h
   |some d=>rw[e]at h;simp at h;exact⟨d,rfl,h.symm⟩
  ·rw[List.getElem?_replicate]at h
   split at h<;>simp at h
 refine⟨bv.refl s,fun i d h=> ?_,fun i d h=> ?_,fun i d h=> ?_,(fun b o e=>by cases e),fun i j d d' a h=> ?_,?_,(fun L h=>by cases h),(fun L h=>by cases h),(fun _ _ e=>by cases e), .no fun i x vds f hs h=>(by obtain⟨d,_,z⟩:=hv i _ h;cases z),fun L h=>by cases h⟩
 ·obtain⟨d',e,z⟩:=hv i _ h
  cases z
  obtain⟨v,h1,h2⟩:=r.get e
  refine⟨v,?_,h2⟩
  unfold cE
  have hl:i<vs.length:=(List.getElem?_eq_some_iff.mp h1).1
  rw[List.getElem?_append_left (by simpa using hl),List.getElem?_map,h1]
  rfl
 ·obtain⟨d',_,z⟩:=hv i _ h;cases z
 ·obtain⟨d',_,z⟩:=hv i _ h;cases z
 ·obtain⟨d',_,z⟩:=hv i _ h;cases z
 ·simp[cf,cE,r.length]
theorem xH {P:Program} {w:World} {K:PySem.W.Frag} {mg:Str->Option Value} {base:Heap} {x qual:Str} {st:Stmt} {f:Addr} {fd:FuncData} {N ps:List Str} {k:Nat} {sp:Sp} (F:oG K x qual st f fd) (S:aK N ps (ag st)) (len:∀vs H Q E,sp vs H Q E->vs.length=ps.length)
  (hbody:∀(cdv:Value) (A:Around) (outer:List Env) (s:Shared) (H:Hp) (vs:List V) (Q:VK) (E:XK),bL k (A.deeper (envOfC qual (ag st) s.heap.objs.size f cdv))->sp vs H Q E->
   ∃t,kt (eD (gB P w) P w K mg base N qual (ag st) f cdv A outer s H E) (aH st) t/\t {nx:=fun _ H'=>Q .non H',rt:=Q} (cE N vs) H):dc P w K mg base (gB P w) (k+1) f fd ps sp:=by
 obtain⟨oc,od,kV,doc,pm,an,cdv,ct,osl,rfl,lk,hcd⟩:=F.ex
 exact uu lk hcd S len fun A outer s H vs Q E hr hsp=>hbody cdv A outer s H vs Q E hr hsp
theorem lA {P:Program} {w:World} {K:PySem.W.Frag} {mg:Str->Option Value} {base:Heap} {N:List Str} {qual:Str} {scope:Scope} {f:Addr} {cd:Value} {A:Around} {outer:List Env} {s0:Shared} {H0:Hp} {E:XK} {c:cA ly}
  (h:∀x ρ,c.Er x ρ->∀cls a H' F' σ,cX K x cls->RI K c ρ σ H' F'->E cls a H'):w_ (eD (gB P w) P w K mg base N qual scope f cd A outer s0 H0 E) c:=
 .inl ⟨jH,fun pins σ ρ H F s a cls x I ri fl ec er=>nJ I fl (h x ρ er cls (some a) H F σ ec ri)⟩
theorem vA {P:Program} {w:World} {K:PySem.W.Frag} {mg:Str->Option Value} {base:Heap} {x qual:Str} {st:Stmt} {f:Addr} {fd:FuncData} {N ps:List Str} {k n m:Nat} {g:ae->R br} (F:oG K x qual st f fd) (S:aK N ps (ag st)) (hn:ps.length=n) (hm:N.length=m)
  (hbody:∀(cdv:Value) (A:Around) (outer:List Env) (s:Shared) (H:Hp) (E:XK),bL k (A.deeper (envOfC qual (ag st) s.heap.objs.size f cdv))->
   fq [] (eD (gB P w) P w K mg base N qual (ag st) f cdv A outer s H E) (aH st) g):dc P w K mg base (gB P w) (k+1) f fd ps (pV K n (bE n m g)):=by
 refine xH F S (fun vs H Q E h=>by rw[hn];exact h.1) (fun cdv A outer s H vs Q E hr h=> ?_)
 obtain⟨hl,Fz,ds,sub,r,w⟩:=h
 refine⟨_,hbody cdv A outer s H E hr ⟨⟨H,Fz,fun _=>none,fun x _=>∀cls a H' F',cX K x cls->bv H Fz H' F'->E cls a H',fun _=>none,fun _=>none⟩,lA fun x ρ er cls a H' F' σ ec ri=>er cls a H' F' ec ri.ext⟩,?_⟩
 refine⟨Fz,cf m ds,by rw[<-hm];exact rb sub r,?_⟩
 have hd:ds.length=n:=by rw[<-r.length];exact hl
 unfold bE at w
 rw[if_pos hd]at w
 cases e:g (cf m ds)with
 |bad=>rw[e]at w;exact w.elim
 |err c ρ=>rw[e]at w;exact w
 |ok o=>
  rw[e]at w
  cases o with
  |ret d=>exact fun v H' F' _ e' r'=>w v H' F' e' r'
  |nx ρ=>exact fun σ' H' F' _ r'=>w .non H' F' r'.ext .non
  |retc d ρ=>exact w.elim
  |brk ρ=>exact w.elim
  |cnt ρ=>exact w.elim
end L2.Pu
namespace L2.Pu
open PySem PySem.Spec PyProof.Rows
variable {ly:List du}
noncomputable def Slot.toBor:Slot->Slot
 | .val d=> .val d
 | .own d=> .bor d
 | .bor d=> .bor d
 | .obj=> .obj
 | .cel .. => .obj
noncomputable def jO (N:List Str) (names:List (Str×NameKind)) (ρ:ae):ae:=
 names.map fun x=>if x.2= .free then ((N.findIdx? (·==x.1)).bind fun i=>(ρ[i]?).join.map Slot.toBor)else none
theorem xc {K:PySem.W.Frag} {c:cA ly} {ρ:ae} {σ:St} {H F H1 F1:Hp} {N:List Str} {names:List (Str×NameKind)} {p:Addr} {o:HO} (ri:RI K c ρ σ H F) (e:bv H F H1 F1) (hp:H1 p=none):
  RI K (⟨bn H1 p o,F1,H1,fun _ _=>False,fun _=>none,fun _=>none⟩:cA []) (jO N names ρ) (jC N names σ) (bn H1 p o) F1:=by
 have r1:=ri.step e
 have key:∀(i:Nat) sl,(jO N names ρ)[i]? =some (some sl)->∃(j:Nat) (sl':Slot),ρ[j]? =some (some sl')/\sl=sl'.toBor/\∀v,σ[j]? =some (some v)->(jC N names σ)[i]? =some (some v):=fun i sl h=>by
  unfold jO at h
  rw[List.getElem?_map]at h
  cases en:names[i]? with
  |none=>rw[en]at h;cases h
  |some y=>
   rw[en]at h
   simp only[Option.map_some,Option.some.injEq]at h
   by_cases hf:y.2= .free
   ·rw[if_pos hf]at h
    cases ei:N.findIdx? (·==y.1)with
    |none=>rw[ei]at h;cases h
    |some j=>
     rw[ei]at h
     cases e2:ρ[j]? with
     |none=>simp[e2]at h
     |some u=>
      cases u with
      |none=>simp[e2]at h
      |some sl'=>
       simp[e2]at h
       refine⟨j,sl',e2,h.symm,fun v hv=> ?_⟩
       unfold jC
       rw[List.getElem?_map,en]
       simp only[Option.map_some,Option.some.injEq]
       rw[if_pos hf,ei]
       show (σ[j]?).join=some v
       rw[hv];rfl
   ·rw[if_neg hf]at h;cases h
 refine⟨bv.refl (r1.sub.trans (bA hp)),fun i d h=> ?_,fun i d h=> ?_,fun i d h=> ?_,bA hp,fun i j d d' a h=> ?_,by simp[jO,jC],(fun L h=>by cases h),(fun L h=>by cases h),(fun _ _ e=>by cases e), .no fun i x vds f hs h=>(by obtain⟨j,sl,h1,h2,h3⟩:=key i _ h;cases sl<;>cases h2),fun L h=>by cases h⟩
 ·obtain⟨j,sl,h1,h2,h3⟩:=key i _ h
  cases sl with
  |val d'=>cases h2;obtain⟨v,k1,k2⟩:=r1.val j d h1;exact⟨v,h3 v k1,k2⟩
  |own d'=>cases h2
  |bor d'=>cases h2
  |obj=>cases h2
  |cel=>cases h2
 ·obtain⟨j,sl,h1,h2,h3⟩:=key i _ h;cases sl<;>cases h2
 ·obtain⟨j,sl,h1,h2,h3⟩:=key i _ h
  cases sl with
  |val d'=>cases h2
  |own d'=>cases h2;obtain⟨a,o,k1,k2,k3,k4,k5⟩:=r1.own j d h1;exact⟨a,o,h3 _ k1,k2,k5⟩
  |bor d'=>cases h2;obtain⟨a,o,k1,k2,k3⟩:=r1.bor j d h1;exact⟨a,o,h3 _ k1,r1.ext.keep _ _ (r1.bh _ _ k2),k3.mono r1.ext.grow⟩
  |obj=>cases h2
  |cel=>cases h2
 ·obtain⟨k,sl,h1,h2,h3⟩:=key i _ h;cases sl<;>cases h2
theorem RI.bump {K:PySem.W.Frag} {ρ:ae} {σ:St} {H F H1 F1:Hp} {p:Addr} {o o':HO} {Er:Str->ae->Prop} (r:RI K (⟨bn H1 p o,F1,H1,Er,fun _=>none,fun _=>none⟩:cA []) ρ σ H F) (hp:H1 p=none) (hF:F p=none):
  RI K (⟨bn H1 p o',F1,H1,Er,fun _=>none,fun _=>none⟩:cA []) ρ σ (bn H p o') F:=by
 refine⟨⟨fun b u e=> ?_,fun b u e=> ?_,r.ext.grow,fun b e=> ?_⟩,r.val,fun i d h=> ?_,r.bor,bA hp,r.dis,r.len,(fun L h=>by cases h),(fun L h=>by cases h),(fun _ _ e=>by cases e),⟨fun i x vds f hs h=> ?_,r.cel.one⟩,fun L h=>by cases h⟩
 ·rw[aj (fun z=>by rw[z,hF]at e;cases e)];exact r.sub b u e
 ·change bn H1 p o' b=some u at e
  by_cases z:b=p
  ·subst z;rw[ar]at e ⊢;exact e
  ·rw[aj z]at e ⊢;exact r.ext.keep b u (by show bn H1 p o b=some u;rw[aj z];exact e)
 ·by_cases z:b=p
  ·subst z;exact absurd hF e
  ·rcases r.ext.new b e with q|q
   ·exact .inl q
   ·refine .inr ?_
    change bn H1 p o b=none at q
    show bn H1 p o' b=none
    rw[aj z]at q ⊢;exact q
 ·obtain⟨a,u,h1,h2,h3,h4,h5⟩:=r.own i d h
  change bn H1 p o a=none at h4
  have z:a≠p:=fun z=>by subst z;rw[ar]at h4;cases h4
  refine⟨a,u,h1,by rw[aj z];exact h2,h3,?_,h5⟩
  show bn H1 p o' a=none
  rw[aj z]at h4 ⊢;exact h4
 ·obtain⟨a,dx,b,h1,h2,h3⟩:=r.cel.ex i x vds f hs h
  obtain⟨C,fs,vs,us,g1,g2,g3,g4,g5⟩:=h2.ex
  have key:∀{z:Addr},bn H1 p o z=none->z≠p/\bn H1 p o' z=none:=fun {z} e=>by
   have n:z≠p:=fun q=>by subst q;rw[ar]at e;cases e
   exact⟨n,by rw[aj n]at e ⊢;exact e⟩
  obtain⟨na,ea⟩:=key h2.za
  obtain⟨nd,ed⟩:=key h2.zd
  obtain⟨nb,eb⟩:=key h2.zb
  exact⟨a,dx,b,h1,⟨⟨C,fs,vs,us,by rw[aj na];exact g1,g2,g3,by rw[aj nb];exact g4,g5⟩,by rw[aj nd];exact h2.own,h2.fa,h2.fd,h2.fb,ea,ed,eb⟩,h3⟩
noncomputable def fX (g:D->ae->R ae) (gt:ae->R Bool) (fe:ae->R D):List D->ae->R (List D)
 |[],_=> .ok []
 |d::r,τ=>g d τ>>=fun τ1=>gt τ1>>=fun b=>if b=true then (fe τ1>>=fun y=>fX g gt fe r τ1>>=fun ys=> .ok (y::ys))else fX g gt fe r τ1
noncomputable def yE (K:PySem.W.Frag) (g:D->ae->R ae):TG:=fun v σ H Q=>∃c:cA [],(∀e ρ,¬c.Er e ρ)/\tG K c g v σ H Q
noncomputable def yF (K:PySem.W.Frag) (g:ae->R Bool):TT:=fun σ H Q=>∃c:cA [],(∀e ρ,¬c.Er e ρ)/\tT K c g σ H Q
noncomputable def yG (K:PySem.W.Frag) (g:ae->R D):TE:=fun σ H Q=>∃c:cA [],(∀e ρ,¬c.Er e ρ)/\tQ K c g σ H Q
noncomputable def pZ (ly:List du) (X:Cx) (ifs:List Expr) (gt:ae->R Bool):Prop:=∀c:fW ly X,uy X ifs (tT X.K c.1 gt)
noncomputable def jb:ae->R Bool:=fun _=> .ok true
theorem iH {X:Cx}:pZ ly X [] jb:=fun c pins s σ H Q I q=>by
 obtain⟨F,ρ,ri,w⟩:=q
 exact tm pins s σ H Q I (w H F (bv.refl ri.sub))
theorem nM {X:Cx} {c:Expr} {gt:ae->R Bool} (h:mq ly X c gt):pZ ly X [c] gt:=fun c=>tq (h c)
theorem jn {α β:Type} {r:R α} {f:α->R β} {b:β} (h:(r>>=f)= .ok b):∃a,r= .ok a/\f a= .ok b:=by
 cases r with
 |ok a=>exact⟨a,rfl,h⟩
 |err c ρ=>cases h
 |bad=>cases h
theorem gT {K:PySem.W.Frag} {c:cA ly} {ρ:ae} {σ:St} {H F H1 F1:Hp} {N:List Str} {names:List (Str×NameKind)} {p:Addr} {g:D->ae->R ae} {gt:ae->R Bool} {fe:ae->R D} {J:It} {ds es:List D} {Q:Hp->Prop}
  (ri:RI K c ρ σ H F) (e:bv H F H1 F1) (jo:pX K F1 J ds) (hp:H1 p=none) (hl:ds.length<=lim) (he:fX g gt fe ds (jO N names ρ)= .ok es)
  (k:∀H2 F2 vs,bv H1 F1 H2 F2->H2 p=some (.lst vs)->F2 p=none->Reps K F2 vs es->Q H2):
  jD J (yE K g) (yF K gt) (yG K fe) p (jC N names σ) Q (bn H1 p (.lst [])):=by
 have s1:aF F1 H1:=e.sub
 have f1:F1 p=none:=s1.free hp
 refine⟨fun i m ys τ H=>∃F ρ' pre rest,RI K (⟨bn H1 p (.lst ys),F1,H1,fun _ _=>False,fun _=>none,fun _=>none⟩:cA []) ρ' τ H F/\Reps K F ys pre/\pre.length<=i/\m=ds.length - i/\i<=ds.length/\fX g gt fe (ds.drop i) ρ'= .ok rest/\pre++rest=es,
  ⟨_,F1,_,[],es,xc ri e hp, .nil,Nat.le_refl _,rfl,Nat.zero_le _,he,rfl⟩,?_⟩
 rintro i m ys τ H2 ⟨F2,ρ',pre,rest,r2,rp,hpi,rfl,hi,hc,hes⟩
 have hF2:F2 p=none:=by
  cases q:F2 p with
  |none=>rfl
  |some u=>
   rcases r2.ext.new p (by rw[q];simp)with z|z
   ·exact absurd f1 z
   ·change bn H1 p (.lst ys) p=none at z;rw[ar]at z;cases z
 have hD:∀{ρ' τ H F},RI K (⟨bn H1 p (.lst ys),F1,H1,fun _ _=>False,fun _=>none,fun _=>none⟩:cA []) ρ' τ H F->H p=some (.lst ys):=fun r=>r.ext.keep p _ ar
 refine⟨hD r2,?_⟩
 by_cases hlt:i<ds.length
 ·refine .inr ⟨jo.go i H2 (r2.ext.grow.trans r2.sub) hlt,?_,fun x H3 y=> ?_⟩
  ·have:=rp.length
   have:=dX
   omega
  ·obtain⟨F3,d,hd,e3,r3⟩:=jo.yld i H2 F2 x H3 r2.ext.grow r2.sub y hlt
   obtain⟨hl',ed⟩:=List.getElem?_eq_some_iff.mp hd
   rw[List.drop_eq_getElem_cons hl',ed]at hc
   obtain⟨τ1,h1,hc⟩:=jn (r:=g d ρ') hc
   obtain⟨b,h2,hc⟩:=jn (r:=gt τ1) hc
   refine⟨_,fun e ρ h=>h,F3,ρ',d,r2.step e3,r3,?_⟩
   rw[h1]
   intro τ4 H4 F4 s4 r4
   refine⟨_,fun e ρ h=>h,F4,τ1,r4,?_⟩
   rw[h2]
   intro H5 F5 e5
   cases b with
   |false=>
    exact⟨ds.length - (i+1),by omega,F5,τ1,pre,rest,r4.step e5,(rp.mono e3.grow).mono (s4.trans e5.grow),by omega,rfl,hlt,hc,hes⟩
   |true=>
    rw[if_pos rfl]at hc ⊢
    obtain⟨y',h3,hc⟩:=jn (r:=fe τ1) hc
    obtain⟨ys',h4,hc⟩:=jn (r:=fX g gt fe (ds.drop (i+1)) τ1) hc
    cases hc
    refine⟨_,fun e ρ h=>h,F5,τ1,r4.step e5,?_⟩
    rw[h3]
    intro v H6 F6 e6 r6
    have r6':=(r4.step e5).step e6
    refine⟨hD r6',ds.length - (i+1),by omega,F6,τ1,pre++[y'],ys',r6'.bump hp ?_,(((rp.mono e3.grow).mono (s4.trans e5.grow)).mono e6.grow).append (.cons r6 .nil),by simp;omega,rfl,hlt,h4,by rw[<-hes];simp⟩
    cases q:F6 p with
    |none=>rfl
    |some u=>
     rcases r6'.ext.new p (by rw[q];simp)with z|z
     ·exact absurd f1 z
     ·change bn H1 p (.lst ys) p=none at z;rw[ar]at z;cases z
 ·have ei:i=ds.length:=by omega
  subst ei
  rw[List.drop_length]at hc
  cases hc
  rw[List.append_nil]at hes
  subst hes
  refine .inl ⟨jo.stop H2 (r2.ext.grow.trans r2.sub),k H2 F2 ys ⟨r2.sub,(bA hp).trans r2.ext.keep,r2.ext.grow,fun a ha=> ?_⟩ (hD r2) hF2 rp⟩
  rcases r2.ext.new a ha with z|z
  ·exact .inl z
  ·refine .inr ?_
   change bn H1 p (.lst ys) a=none at z
   rw[aj (fun q=>by subst q;rw[ar]at z;cases z)]at z
   exact z
section
variable {X:Cx} {elt tg iter:Expr} {ifs:List Expr} {scope:Scope} {pos:Pos} {fi:ae->R (List D)} {g:D->ae->R ae} {gt:ae->R Bool} {fe:ae->R D}
noncomputable def c_ (N:List Str) (names:List (Str×NameKind)) (fi:ae->R (List D)) (g:D->ae->R ae) (gt:ae->R Bool) (fe:ae->R D):ae->R (List D):=fun ρ=>fi ρ>>=fun ds=>if ds.length<=lim then (match fX g gt fe ds (jO N names ρ)with
 | .ok es=> .ok es
 |_=> .bad)else .bad
noncomputable def fL (f:ae->R (List D)):ae->R D:=fun ρ=>f ρ>>=fun ds=> .ok (.lst ds)
theorem yj {X:Cx} (h:wg [] X tg g):PG X tg (yE X.K g):=fun pins s σ H v u Q I r ⟨c,hn,q⟩=>h ⟨c, .no hn⟩ pins s σ H v u Q I r q
theorem yk {X:Cx} (h:pZ [] X ifs gt):uy X ifs (yF X.K gt):=fun pins s σ H Q I ⟨c,hn,q⟩=>h ⟨c, .no hn⟩ pins s σ H Q I q
theorem yl {X:Cx} (h:PQ [] X elt fe):PE X elt (yG X.K fe):=fun pins s σ H Q I ⟨c,hn,q⟩=>h ⟨c, .no hn⟩ pins s σ H Q I q
theorem gU (S:ba X scope) (hc:X.calm=true) (hi:vy ly X tg iter fi) (hg:∀s H ex,wg [] (bV X scope s H ex) tg g) (hif:∀s H ex,pZ [] (bV X scope s H ex) ifs gt) (hel:∀s H ex,PQ [] (bV X scope s H ex) elt fe)
  (hs:∀x,foldedSetIterable iter X.env x=pure x:=by intro _;rfl):PQ ly X (.ListComp elt [⟨tg,iter,ifs,0⟩] scope pos) (fL (c_ X.N scope.names fi g gt fe)):=fun c=>
 PE.weak (oK S hc (hi c) (fun s H ex=>yj (hg s H ex)) (fun s H ex=>yk (hif s H ex)) (fun s H ex=>yl (hel s H ex)) hs) fun σ H Q ⟨F,ρ,ri,w⟩=>by
  refine⟨F,ρ,ri,(aD.bind.mp (aD.bind.mp w)).imp fun ds _ w1 J H1 F1 e1 jo p hp=> ?_⟩
  split at w1
  ·rename_i hl
   split at w1
   ·rename_i es he
    refine gT ri e1 jo hp hl he fun H2 F2 vs e2 hp2 hf2 rv=> ?_
    have g2:aF F2 (bn F2 p (.lst vs)):=bA hf2
    refine w1 (.ref p) H2 (bn F2 p (.lst vs)) ⟨fun b u eb=> ?_,e1.keep.trans e2.keep,(e1.grow.trans e2.grow).trans g2,fun a ha=> ?_⟩ (.lst ar (rv.mono g2))
    ·by_cases z:b=p
     ·subst z;rw[ar]at eb;rw[hp2];exact eb
     ·rw[aj z]at eb;exact e2.sub b u eb
    ·by_cases z:a=p
     ·subst z;exact .inr (e1.keep.free hp)
     ·rw[aj z]at ha
      exact(e1.trans e2).new a ha
   ·exact w1.elim
  ·exact w1.elim
noncomputable def mx (i:Nat) (f:ae->R (List D)):ae->R br:=fun ρ=>f ρ>>=fun ds=> .ok (.nx (ρ.set i (some (.own (.lst ds)))))
theorem vB (i:Nat) {y:Str} {py spos:Pos} (S:ba X scope) (hc:X.calm=true) (hN:X.N.Nodup) (hi:vy ly X tg iter fi) (hg:∀s H ex,wg [] (bV X scope s H ex) tg g) (hif:∀s H ex,pZ [] (bV X scope s H ex) ifs gt) (hel:∀s H ex,PQ [] (bV X scope s H ex) elt fe)
  (hi':X.N[i]? =some y:=by rfl) (hx:qu X.env.scope y:=by first|exact Or.inl rfl|exact Or.inr rfl) (hf:X.fn y=true\/X.env.scope.names.lookup y=some .local:=by first|exact .inl rfl|exact .inr rfl|assumption)
  (hsw:swapsWith (.ListComp elt [⟨tg,iter,ifs,0⟩] scope pos) (some (.Name y py)) spos.line X.env=pure true:=by rfl) (hs:∀x,foldedSetIterable iter X.env x=pure x:=by intro _;rfl) (hfr:gG ly i:=by(repeat (first|assumption|exact L2.Pu.dC|refine L2.Pu.cQ ⟨by first|decide|simp,by first|decide|simp⟩ ?_))):
  jk ly X (.Assign [.Name y py] (.ListComp elt [⟨tg,iter,ifs,0⟩] scope pos) spos) (mx i (c_ X.N scope.names fi g gt fe)):=fun c=>
 PS.weak (tw S hc (hi c) (fun s H ex=>yj (hg s H ex)) (fun s H ex=>yk (hif s H ex)) (fun s H ex=>yl (hel s H ex)) (oi hN hi' hx hf) hsw hs) fun D σ H ⟨F,ρ,ri,w⟩=>by
  refine⟨F,ρ,ri,(aD.bind.mp (aD.bind.mp w)).imp fun ds _ w1 J H1 F1 e1 jo p hp=> ?_⟩
  split at w1
  ·rename_i hl
   split at w1
   ·rename_i es he
    refine gT ri e1 jo hp hl he fun H2 F2 vs e2 hp2 hf2 rv=> ?_
    refine w1 _ H2 F2 (e1.grow.trans e2.grow) ((ri.step (e1.trans e2)).setOwn i hfr hp2 hf2 (ri.ext.keep.free (e1.keep.free hp)) (.lst rv) (fun j d' _ hj ej=> ?_) (ri.celNe (e1.trans e2).keep (e1.keep.free hp)))
    obtain⟨a,o,k1,k2,_⟩:=ri.own j d' hj
    rw[ej]at k1
    cases k1
    rw[e1.keep.free hp]at k2
    cases k2
   ·exact w1.elim
  ·exact w1.elim
end
noncomputable def ik:D->Option cb
 | .int i=>some (.inl i)
 | .str x=>some (.inr x)
 |_=>none
noncomputable def fY (kds:List (cb×D)) (k:cb):Option D:=(kds.find? fun kv=>decide (kv.1=k)).map (·.2)
theorem iI {K:PySem.W.Frag} {H F:Hp} {v:V} {d:D} {k:cb} (h:ik d=some k) (r:bW K H F v d):v=kV k:=by
 cases d with
 |int i=>cases h;exact r.int
 |str x=>cases h;exact r.str
 |_=>cases h
section
variable {K:PySem.W.Frag} {F:Hp}
theorem RepK.any (k:cb):∀{vs:List (cb×V)} {ds:List (cb×D)},RepK K F vs ds->(vs.any fun kv=>decide (kv.1=k))=ds.any fun kv=>decide (kv.1=k):=by
 intro vs ds
 induction ds generalizing vs with
 |nil=>intro h;rw[h.nilI];rfl
 |cons d ds ih=>
  intro h
  obtain⟨v,us,rfl,_,t⟩:=RepK.consI (k:=d.1) (d:=d.2) h
  rw[List.any_cons,List.any_cons,ih t]
theorem RepK.get (k:cb):∀{vs:List (cb×V)} {ds:List (cb×D)},RepK K F vs ds->(fP vs k=none/\fY ds k=none)\/∃v d,fP vs k=some v/\fY ds k=some d/\cI K F v d:=by
 intro vs ds
 induction ds generalizing vs with
 |nil=>intro h;rw[h.nilI];exact .inl ⟨rfl,rfl⟩
 |cons d ds ih=>
  intro h
  obtain⟨a,d⟩:=d
  obtain⟨v,vs,rfl,r,t⟩:=h.consI
  by_cases e:a=k
  ·exact .inr ⟨v,d,by simp[fP,e],by simp[fY,e],r⟩
  ·have h1:fP ((a,v)::vs) k=fP vs k:=by simp[fP,e]
   have h2:fY ((a,d)::ds) k=fY ds k:=by simp[fY,e]
   rw[h1,h2]
   exact ih t
theorem RepK.append:∀{vs us:List (cb×V)} {ds es:List (cb×D)},RepK K F vs ds->RepK K F us es->RepK K F (vs++us) (ds++es):=by
 intro vs us ds
 induction ds generalizing vs with
 |nil=>intro es h g;rw[h.nilI];exact g
 |cons x ds ih=>
  intro es h g
  obtain⟨a,x⟩:=x
  obtain⟨y,vs,rfl,r,t⟩:=h.consI
  exact .cons r (ih t g)
end
section
variable {X:Cx} {a b e:Expr} {es:List Expr} {fa fb f fk fv:ae->R D} {fs:ae->R (List D)} {pos:Pos}
noncomputable def tL (i:Nat) (f:ae->R D):ae->R br:=fun ρ=>match ρ[i]? with
 |some (some (.own (.lst ds)))=>f ρ>>=fun d=>if ds.length<lim then .ok (.nx (ρ.set i (some (.own (.lst (ds++[d]))))))else .bad
 |_=> .bad
theorem RI.ownL {K:PySem.W.Frag} {c:cA ly} {ρ:ae} {σ:St} {H F:Hp} (ri:RI K c ρ σ H F) {i:Nat} {ds:List D} (h:ρ[i]? =some (some (.own (.lst ds)))):∃a vs,σ[i]? =some (some (.ref a))/\H a=some (.lst vs)/\Reps K F vs ds:=by
 obtain⟨a,o,h1,h2,_,_,h5⟩:=ri.own i _ h
 cases h5 with
 |lst r=>exact⟨a,_,h1,h2,r⟩
theorem re (i:Nat) {x:Str} {px apos cpos:Pos} (h:PQ ly X e f) (hN:X.N[i]? =some x:=by rfl) (hv:kh X.env.scope x:=by first|exact Or.inl rfl|exact Or.inr (Or.inl rfl)|exact Or.inr (Or.inr rfl)) (hd:(x==("__debug__":Str))=false:=by decide)
  (hcd:(x==("__classdict__":Str))=false:=by decide) (hbase:attributeBase (.Name x px) "append" X.env (eval (.Name x px) X.env)=eval (.Name x px) X.env:=by rfl)
  (hfew:((backTo cpos (starEach [e] X.env)).all (fun x=> !x.1)&&(backToKw cpos (keywordEach [] X.env)).all (fun x=>x.1.isSome)
   &&decide (([e]:List Expr).length+([]:List Keyword).length+(if ([]:List Keyword).isEmpty then 0 else 1)<30))=true:=by rfl)
  (hline:(apos.endLine==cpos.line)=true:=by rfl) (hs:starEach [e] X.env=(false,eval e X.env)::starEach [] X.env:=by rfl) (hplain:(backTo cpos (starEach [] X.env)).any (·.1)=false:=by rfl)
  (hsw:swapsWith (.Call (.Attribute (.Name x px) "append" apos) [e] [] cpos) none pos.line X.env=pure false:=by rfl):jk ly X (.Expr (.Call (.Attribute (.Name x px) "append" apos) [e] [] cpos) pos) (tL i f):=fun c=>
 PS.weak (jh (oB PySem.F.plainAttrs_list PySem.F.slot_list_append PySem.F.type_list_append iC (pv i hN hv hd hcd) (bP (h c) dF hs) hbase hfew hline hs hplain) hsw) fun D σ H ⟨F,ρ,ri,w⟩=>by
  unfold tL at w
  split at w
  ·rename_i ds hi
   obtain⟨a,vs,h1,h2,h3⟩:=ri.ownL hi
   refine⟨_,h1, .inl ⟨rfl,vs,dr.of h2⟩,F,ρ,ri,(aD.bind.mp w).imp fun d _ w1 v H1 F1 e1 r1=> ?_⟩
   split at w1
   ·rename_i hl
    refine⟨a,vs,v,rfl,rfl,e1.keep _ _ h2,Nat.lt_of_lt_of_le (by rw[h3.length];exact hl) dX,?_⟩
    exact w1 σ _ F1 e1.grow ((ri.step e1).change (o:= .lst vs) hi h1 (.lst ((h3.mono e1.grow).append (.cons r1 .nil))))
   ·exact w1.elim
  ·exact w.elim
end
end L2.Pu
namespace L2.Pu
open PySem PySem.Spec PyProof.Rows
variable {ly:List du}
section
variable {K:PySem.W.Frag}
noncomputable def km (i j:Int):Prop:=i.natAbs<18446744073709551616\/j.natAbs<18446744073709551616
noncomputable def nN (_ j:Int):Prop:=0<j/\j.natAbs<1073741824
noncomputable def my (i j:Int):Prop:=0<=j/\j.natAbs<=1000000/\i.natAbs<18446744073709551616
noncomputable instance (i j:Int):Decidable (km i j):=by unfold km;infer_instance
noncomputable instance (i j:Int):Decidable (nN i j):=by unfold nN;infer_instance
noncomputable instance (i j:Int):Decidable (my i j):=by unfold my;infer_instance
theorem km.c {i j:Int} (h:km i j):pB i j:=by
 unfold km at h
 unfold pB
 omega
theorem nN.c {i j:Int} (h:nN i j):sL i j:=by
 unfold nN at h
 unfold sL
 omega
theorem my.c {i j:Int} (h:my i j):sM i j:=by
 unfold my at h
 unfold sM
 omega
noncomputable def dG:D->D->Option D
 | .int i, .int j=>some (.int (i+j))
 | .lst a, .lst b=>if a.length+b.length<=lim then some (.lst (a++b))else none
 | .tup a, .tup b=>if a.length+b.length<=lim then some (.tup (a++b))else none
 |_,_=>none
noncomputable def uE (K:PySem.W.Frag):R2:=fun x y H Q=>(pA (fun i j=> .int (i+j)) x y H Q\/wM x y H Q)\/(uv K x y H Q\/uz K x y H Q)
theorem bX {X:Cx}:gE X (binaryOp .Add) (uE X.K):=(v4.or vh).or (sV.or tz)
theorem bY:fj K (uE K) dG:=by
 intro v u x y d H F Q s rx ry h k
 unfold dG at h
 split at h
 ·cases rx.int;cases ry.int;cases h;exact .inl (.inl ⟨_,_,rfl,rfl,k _ H F (bv.refl s) (.int _)⟩)
 ·rename_i a b
  split at h
  ·rename_i hl
   cases h
   obtain⟨p,vs,rfl,h1,h2⟩:=rx.lst s
   obtain⟨q,us,rfl,h3,h4⟩:=ry.lst s
   refine .inl (.inr ⟨p,q,vs,us,rfl,rfl,h1,h3,Nat.le_trans (by rw[h2.length,h4.length];exact hl) dX,fun l hl'=> ?_⟩)
   have e:=bv.lay (o:= .lst (vs++us)) s hl'
   exact k _ _ _ e (.lst ar ((h2.append h4).mono e.grow))
  ·cases h
 ·rename_i a b
  split at h
  ·rename_i hl
   cases h
   obtain⟨p,vs,rfl,h1,h2⟩:=rx.tup s
   obtain⟨q,us,rfl,h3,h4⟩:=ry.tup s
   cases a with
   |nil=>
    cases h2
    refine .inr (.inr ⟨p,q,us,rfl,rfl,eL.of h1,eL.of h3,?_⟩)
    match ry with
    | .inl ry=>exact k _ H F (bv.refl s) ry
   |cons a0 a1=>
    refine .inr (.inl ⟨p,q,vs,us,rfl,rfl,eL.of h1,eL.of h3,(fun z=>by subst z;cases h2),Nat.le_trans (by rw[h2.length,h4.length];exact hl) dX,fun z=> ?_,fun _ l hl'=> ?_⟩)
    ·subst z
     cases h4
     rw[List.append_nil]at k
     match rx with
     | .inl rx=>exact k _ H F (bv.refl s) rx
    ·have e:=bv.lay (o:= .tup (vs++us)) s hl'
     exact k _ _ _ e (.tup ar ((h2.append h4).mono e.grow))
  ·cases h
 ·cases h
noncomputable def wj (g:Int->Int->D):D->D->Option D
 | .int i, .int j=>some (g i j)
 |_,_=>none
noncomputable def tM (C:Int->Int->Prop) [∀i j,Decidable (C i j)] (g:Int->Int->D):D->D->Option D
 | .int i, .int j=>if C i j then some (g i j)else none
 |_,_=>none
theorem lB {gv:Int->Int->V} {g:Int->Int->D} (hg:∀F i j,cI K F (gv i j) (g i j)):fj K (pA gv) (wj g):=by
 intro v u x y d H F Q s rx ry h k
 cases x with
 |int i=>
  cases y with
  |int j=>cases rx.int;cases ry.int;cases h;exact⟨i,j,rfl,rfl,k _ H F (bv.refl s) (hg F i j)⟩
  |_=>cases h
 |_=>cases h
theorem nO {C C':Int->Int->Prop} [∀i j,Decidable (C i j)] {gv:Int->Int->V} {g:Int->Int->D} (hC:∀i j,C i j->C' i j) (hg:∀F i j,cI K F (gv i j) (g i j)):fj K (rI C' gv) (tM C g):=by
 intro v u x y d H F Q s rx ry h k
 cases x with
 |int i=>
  cases y with
  |int j=>
   cases rx.int;cases ry.int
   replace h:(if C i j then some (g i j)else none)=some d:=h
   split at h
   ·cases h;exact⟨i,j,rfl,rfl,hC i j (by assumption),k _ H F (bv.refl s) (hg F i j)⟩
   ·cases h
  |_=>cases h
 |_=>cases h
noncomputable def p_:=wj fun i j=> .int (i - j)
noncomputable def eS:=tM nN fun i j=> .int (i / j)
noncomputable def gW:=tM (fun _ j=>0<j) fun i j=> .int (i%j)
noncomputable def tN:=tM my fun i j=> .int (i ^j.toNat)
noncomputable def sC:=wj fun i j=> .bl (decide (i<j))
noncomputable def yR:=wj fun i j=> .bl (decide (i<=j))
noncomputable def vC:=wj fun i j=> .bl (decide (j<i))
noncomputable def rf:=wj fun i j=> .bl (decide (j<=i))
theorem oQ:fj K (pA fun i j=> .int (i - j)) p_:=lB fun F i j=> .int _
theorem eT:fj K (rI sL fun i j=> .int (i / j)) eS:=nO (fun _ _ h=>h.c) fun F i j=> .int _
theorem dQ:fj K (rI (fun _ j=>0<j) fun i j=> .int (i%j)) gW:=nO (fun _ _ h=>h) fun F i j=> .int _
theorem tO:fj K (rI sM fun i j=> .int (i ^j.toNat)) tN:=nO (fun _ _ h=>h.c) fun F i j=> .int _
theorem jP:fj K (pA fun i j=> .bl (decide (i<j))) sC:=lB fun F i j=> .bl _
theorem nP:fj K (pA fun i j=> .bl (decide (j<i))) vC:=lB fun F i j=> .bl _
theorem lC:fj K (pA fun i j=> .bl (decide (j<=i))) rf:=lB fun F i j=> .bl _
noncomputable def nQ:D->D->Option D
 | .int i, .int j=>if km i j then some (.int (i*j))else none
 | .lst a, .int k=>if k.natAbs<=lim/\a.length*k.toNat<=lim then some (.lst (List.replicate k.toNat a).flatten)else none
 |_,_=>none
noncomputable def uF:R2:=fun x y H Q=>rI pB (fun i j=> .int (i*j)) x y H Q\/wN x y H Q
theorem lD {X:Cx}:gE X (binaryOp .Mult) uF:=v5.or vi
theorem Reps.rep {F:Hp} {vs:List V} {ds:List D} (h:Reps K F vs ds):∀k:Nat,Reps K F (List.replicate k vs).flatten (List.replicate k ds).flatten
 |0=> .nil
 |k+1=>by
  rw[List.replicate_succ,List.replicate_succ,List.flatten_cons,List.flatten_cons]
  exact h.append (h.rep k)
theorem lE:fj K uF nQ:=by
 intro v u x y d H F Q s rx ry h k
 unfold nQ at h
 split at h
 ·rename_i i j
  cases rx.int;cases ry.int
  replace h:(if km i j then some (D.int (i*j))else none)=some d:=h
  split at h
  ·rename_i hb;cases h;exact .inl ⟨i,j,rfl,rfl,km.c hb,k _ H F (bv.refl s) (.int _)⟩
  ·cases h
 ·rename_i a j
  split at h
  ·rename_i hl
   cases h
   cases ry.int
   obtain⟨p,vs,rfl,h1,h2⟩:=rx.lst s
   refine .inr ⟨p,j,vs,rfl,rfl,h1,by have:=eH hl.1;omega,by have:=eH hl.1;omega,Nat.le_trans (by rw[h2.length];exact hl.2) dX,fun l hl'=> ?_⟩
   have e:=bv.lay (o:= .lst (List.replicate j.toNat vs).flatten) s hl'
   exact k _ _ _ e (.lst ar ((h2.rep _).mono e.grow))
  ·cases h
 ·cases h
noncomputable def ym:D->Option D
 | .int i=>some (.int (-i))
 |_=>none
noncomputable def nR:D->D->Option Bool
 | .non, .non=>some true
 | .non, .int _=>some false
 | .int _, .non=>some false
 | .non, .bl _=>some false
 | .bl _, .non=>some false
 | .non, .str _=>some false
 | .str _, .non=>some false
 | .int i, .int j=>some (decide (i=j))
 | .bl i, .bl j=>some (decide (i=j))
 | .str i, .str j=>some (decide (i=j))
 | .int _, .str _=>some false
 | .str _, .int _=>some false
 | .bl _, .str _=>some false
 | .str _, .bl _=>some false
 |_,_=>none
noncomputable def il (x y:D):Option D:=(nR x y).map .bl
noncomputable def q0 (x y:D):Option D:=(nR x y).map fun b=> .bl (!b)
theorem kK {H F:Hp} {v u:V} {x y:D} {b:Bool} (rx:bW K H F v x) (ry:bW K H F u y) (h:nR x y=some b):v7 v u=true/\decide (v=u)=b:=by
 cases x<;>cases y<;>first
  |(exfalso;revert h;simp[nR];done)
  |(first|cases rx.int|cases rx.bl|cases rx.str|cases rx.non)<;>(first|cases ry.int|cases ry.bl|cases ry.str|cases ry.non)<;>(refine⟨rfl,?_⟩;simp[nR]at h ⊢;try exact h)
theorem d0:fj K yx il:=by
 intro v u x y d H F Q s rx ry h k
 unfold il at h
 cases e:nR x y with
 |none=>rw[e]at h;cases h
 |some b=>
  rw[e]at h
  cases h
  obtain⟨h1,h2⟩:=kK rx ry e
  exact⟨h1,by rw[h2];exact k _ H F (bv.refl s) (.bl b)⟩
theorem jQ:fj K yy q0:=by
 intro v u x y d H F Q s rx ry h k
 unfold q0 at h
 cases e:nR x y with
 |none=>rw[e]at h;cases h
 |some b=>
  rw[e]at h
  cases h
  obtain⟨h1,h2⟩:=kK rx ry e
  exact⟨h1,by rw[h2];exact k _ H F (bv.refl s) (.bl _)⟩
noncomputable def xf:D->D->Option D
 | .non, .non=>some (.bl true)
 | .scr _, .non=>none
 |_, .non=>some (.bl false)
 |_,_=>none
noncomputable def oR:D->D->Option D
 | .non, .non=>some (.bl false)
 | .scr _, .non=>none
 |_, .non=>some (.bl true)
 |_,_=>none
noncomputable def rg:D->Bool
 | .non=>true
 |_=>false
theorem q8 {H F:Hp} {v:V} {x:D} (s:aF F H) (rx:bW K H F v x):decide (v= .non)=rg x:=by
 cases x with
 |non=>cases rx.non;rfl
 |bl b=>cases rx.bl;rfl
 |int i=>cases rx.int;rfl
 |str z=>cases rx.str;rfl
 |tup ds=>obtain⟨a,vs,rfl,_⟩:=rx.tup s;rfl
 |lst ds=>obtain⟨a,vs,rfl,_⟩:=rx.lst s;rfl
 |dic ds=>obtain⟨a,vs,rfl,_⟩:=rx.dic s;rfl
 |scr ns=>obtain⟨a,rfl,_⟩:=rx.scr s;rfl
 |ins C fs=>
  rcases rx with rx|⟨a,o,rfl,_,q⟩
  ·cases rx;rfl
  ·cases q
 |exc C=>
  rcases rx with rx|⟨a,o,rfl,_,q⟩
  ·cases rx;rfl
  ·cases q
theorem yn {x y d:D} (h:xf x y=some d):y= .non/\d= .bl (rg x):=by
 unfold xf at h
 split at h
 ·cases h;exact⟨rfl,rfl⟩
 ·cases h
 ·rename_i n1 _
  cases h
  refine⟨rfl,?_⟩
  unfold rg
  split
  ·exact absurd rfl n1
  ·rfl
 ·cases h
theorem nS:fj K (fun x y H Q=>y= .non/\Q (.bl (!decide (x= .non))) H) oR:=by
 intro v u x y d H F Q s rx ry h k
 cases y with
 |non=>
  cases ry.non
  refine⟨rfl,?_⟩
  rw[q8 s rx]
  cases x<;>first|(cases h;exact k _ H F (bv.refl s) (.bl _))|cases h
 |_=>cases x<;>cases h
noncomputable def im:D->Bool
 | .non=>true
 | .bl _=>true
 | .int _=>true
 | .str _=>true
 |_=>false
noncomputable def xg:D->D->Bool
 | .non, .non=>true
 | .bl a, .bl b=>a==b
 | .bl a, .int b=>(if a then 1 else 0)==b
 | .int a, .bl b=>a==(if b then 1 else 0)
 | .int a, .int b=>a==b
 | .str a, .str b=>a==b
 |_,_=>false
theorem mz {F:Hp} {v:V} {d:D} (r:cI K F v d) (h:im d=true):fJ v=true:=by
 cases r<;>first|rfl|cases h
theorem vD {F:Hp} {v u:V} {x y:D} (r:cI K F v x) (q:cI K F u y) (hx:im x=true) (hy:im y=true):s_ v u=xg x y:=by
 cases r<;>first|(cases hx;done)|(cases q<;>first|rfl|(cases hy;done))
theorem Reps.flat {F:Hp}:∀{vs:List V} {ds:List D},Reps K F vs ds->ds.all im=true->vs.all fJ=true:=by
 intro vs ds
 induction ds generalizing vs with
 |nil=>intro h _;rw[h.nilI];rfl
 |cons d ds ih=>
  intro g h
  obtain⟨v,us,rfl,r,t⟩:=g.consI
  rw[List.all_cons,Bool.and_eq_true]at h
  rw[List.all_cons,mz r h.1,ih t h.2];rfl
theorem Reps.inV {F:Hp} {v:V} {x:D} (rx:cI K F v x) (hx:im x=true) {vs:List V} {ds:List D} (g:Reps K F vs ds):ds.all im=true->L2.inV v vs=ds.any fun y=>xg y x:=by
 induction ds generalizing vs with
 |nil=>intro _;rw[g.nilI];rfl
 |cons d ds ih=>
  intro h
  obtain⟨w,us,e0,r,t⟩:=g.consI
  rw[List.all_cons,Bool.and_eq_true]at h
  have:=ih t h.2
  rw[e0]
  unfold L2.inV at this ⊢
  rw[List.any_cons,List.any_cons,vD r rx h.1 hx,this]
noncomputable def wk (neg:Bool) (x:D) (ds:List D):Option D:=if im x=true/\ds.all im=true then some (.bl (if neg then !(ds.any fun y=>xg y x)else ds.any fun y=>xg y x))else none
noncomputable def nT (neg:Bool):D->D->Option D
 |x, .lst ds=>wk neg x ds
 |x, .tup ds=>wk neg x ds
 |_,_=>none
theorem mB {H F:Hp} {neg:Bool} {v:V} {x d:D} {ds:List D} (rx:bW K H F v x) (h:wk neg x ds=some d) {vs:List V} (rv:Reps K F vs ds):
  fJ v=true/\vs.all fJ=true/\d= .bl (if neg then !L2.inV v vs else L2.inV v vs):=by
 unfold wk at h
 split at h
 ·rename_i hf
  cases h
  have rx':cI K F v x:=by
   rcases rx with rx|⟨a,o,rfl,_,q⟩
   ·exact rx
   ·cases q<;>cases hf.1
  exact⟨mz rx' hf.1,rv.flat hf.2,by rw[rv.inV rx' hf.1 hf.2]⟩
 ·cases h
theorem iJ {neg:Bool}:fj K (yd K neg) (nT neg):=by
 intro v u x y d H F Q s rx ry h k
 cases y with
 |lst ds=>
  obtain⟨a,vs,rfl,h1,h2⟩:=ry.lst s
  obtain⟨g1,g2,rfl⟩:=mB rx h h2
  exact⟨a,vs,rfl, .inl (dr.of h1),g1,g2,k _ H F (bv.refl s) (.bl _)⟩
 |tup ds=>
  obtain⟨a,vs,rfl,h1,h2⟩:=ry.tup s
  obtain⟨g1,g2,rfl⟩:=mB rx h h2
  exact⟨a,vs,rfl, .inr (eL.of h1),g1,g2,k _ H F (bv.refl s) (.bl _)⟩
 |_=>cases h
noncomputable def lF (neg:Bool):D->D->Option D
 |x, .dic kds=>(ik x).map fun k=> .bl (if neg then !(fY kds k).isSome else (fY kds k).isSome)
 |_,_=>none
noncomputable def jR (neg:Bool) (x y:D):Option D:=match y with
 | .dic _=>lF neg x y
 |_=>nT neg x y
theorem RepK.look {F:Hp} {vs:List (cb×V)} {ds:List (cb×D)} (r:RepK K F vs ds) (k:cb):(fP vs k).isSome=(fY ds k).isSome:=by
 rcases r.get k with ⟨h1,h2⟩|⟨v,d,h1,h2,_⟩<;>rw[h1,h2]<;>rfl
end
section
variable {X:Cx} {a b e:Expr} {es:List Expr} {fa fb f fk fv:ae->R D} {fs:ae->R (List D)} {pos:Pos}
theorem rh {g h:ae->R D} (hg:PQ ly X e g) (hh:PQ ly X e h) (sel:∀ρ,f ρ=g ρ\/f ρ=h ρ):PQ ly X e f:=fun c pins s σ H Q I ⟨F,ρ,ri,w⟩=>
 (sel ρ).elim (fun z=>hg c pins s σ H Q I ⟨F,ρ,ri,z▸w⟩) fun z=>hh c pins s σ H Q I ⟨F,ρ,ri,z▸w⟩
theorem xh {g h f:ae->R Bool} (hg:mq ly X e g) (hh:mq ly X e h) (sel:∀ρ,f ρ=g ρ\/f ρ=h ρ):mq ly X e f:=fun c pins s σ H Q I ⟨F,ρ,ri,w⟩=>
 (sel ρ).elim (fun z=>hg c pins s σ H Q I ⟨F,ρ,ri,z▸w⟩) fun z=>hh c pins s σ H Q I ⟨F,ρ,ri,z▸w⟩
theorem nU {neg:Bool} (ρ:ae):f2 (jR neg) fa fb ρ=f2 (nT neg) fa fb ρ\/f2 (jR neg) fa fb ρ=f2 (lF neg) fa fb ρ:=by
 unfold f2
 cases fa ρ with
 |ok x=>
  cases fb ρ with
  |ok y=>cases y<;>first|exact .inl rfl|exact .inr rfl
  |_=>exact .inl rfl
 |_=>exact .inl rfl
theorem rj {K:PySem.W.Frag} {c:cA ly} {σ:St} {H:Hp} {Q:VK} (h:tQ K c (f2 (lF false) fa fb) σ H Q):wU (tB' K c fa) (tB' K c fb) σ H Q:=vq h fun F H2 F2 v u x y e rx ry w=>by
 obtain⟨d,hd,k⟩:=w.of
 cases y with
 |dic kds=>
  obtain⟨p,vs,rfl,h1,h2,h3⟩:=ry.dic e.sub
  replace hd:(ik x).map (fun k=>D.bl (if false then !(fY kds k).isSome else (fY kds k).isSome))=some d:=hd
  cases hk:ik x with
  |none=>rw[hk]at hd;cases hd
  |some key=>
   rw[hk]at hd
   cases hd
   cases iI hk rx
   exact⟨p,_,rfl,ia.k (k:=key) h1,k _ H2 F2 e (by rw[h2.look];exact .bl _)⟩
 |_=>cases hd
theorem j5 {K:PySem.W.Frag} {c:cA ly} {σ:St} {H:Hp} {Q:VK} (h:tQ K c (f2 (lF true) fa fb) σ H Q):lw (tB' K c fa) (tB' K c fb) σ H Q:=vq h fun F H2 F2 v u x y e rx ry w=>by
 obtain⟨d,hd,k⟩:=w.of
 cases y with
 |dic kds=>
  obtain⟨p,vs,rfl,h1,h2,h3⟩:=ry.dic e.sub
  replace hd:(ik x).map (fun k=>D.bl (if true then !(fY kds k).isSome else (fY kds k).isSome))=some d:=hd
  cases hk:ik x with
  |none=>rw[hk]at hd;cases hd
  |some key=>
   rw[hk]at hd
   cases hd
   cases iI hk rx
   exact⟨p,_,rfl,ia.k (k:=key) h1,k _ H2 F2 e (by rw[h2.look];exact .bl _)⟩
 |_=>cases hd
theorem yo (hu:X.A.units+1<cLine) (ha:PB ly X a fa) (hb:PB ly X b fb) (hm:behindInMarks .In b=false:=by with_unfolding_all rfl):PQ ly X (.Compare a [.In] [b] pos) (f2 (jR false) fa fb):=
 rh (j3 pH iJ ha hb hm) (fun c=>PE.weak (qw (vj hu (ha c) (hb c)) hm) fun σ H Q h=>rj h) nU
theorem tP (hu:X.A.units+1<cLine) (ha:PB ly X a fa) (hb:PB ly X b fb) (hm:behindInMarks .NotIn b=false:=by with_unfolding_all rfl):PQ ly X (.Compare a [.NotIn] [b] pos) (f2 (jR true) fa fb):=
 rh (j3 i5 iJ ha hb hm) (fun c=>PE.weak (qw (kE hu (ha c) (hb c)) hm) fun σ H Q h=>j5 h) nU
theorem vE {g h:ae->R D} (sel:∀ρ,f ρ=g ρ\/f ρ=h ρ) (ρ:ae):fT f ρ=fT g ρ\/fT f ρ=fT h ρ:=by
 unfold fT
 rcases sel ρ with z|z
 ·exact .inl (by rw[z])
 ·exact .inr (by rw[z])
theorem tU (hu:X.A.units+1<cLine) (ha:PB ly X a fa) (hb:PB ly X b fb) (hm:behindInMarks .NotIn b=false:=by with_unfolding_all rfl):mq ly X (.Compare a [.NotIn] [b] pos) (fT (f2 (jR true) fa fb)):=
 xh (bS i5 iJ ha hb hm) (fun c=>x5 (c:=c.1) (t:=lw (tB' X.K c.1 fa) (tB' X.K c.1 fb)) (uU (kE hu (ha c) (hb c)) hm) fun σ H Q h=>j5 h) (vE nU)
noncomputable def lG:D->D->Option D
 | .lst ds, .int i=>atI ds i
 | .tup ds, .int i=>atI ds i
 | .scr ns, .int i=>(atI ns i).map .int
 |_,_=>none
noncomputable def rk:D->D->Option D
 | .dic kds,k=>(ik k).bind fun key=>fY kds key
 |_,_=>none
noncomputable def dh (x y:D):Option D:=match x with
 | .dic _=>rk x y
 |_=>lG x y
theorem Reps.atI {K:PySem.W.Frag} {F:Hp} {vs:List V} {ds:List D} {i:Int} {d:D} (r:Reps K F vs ds) (h:atI ds i=some d):∃v,L2.atI vs i=some v/\cI K F v d:=by
 unfold L2.atI at h ⊢
 rw[r.length]
 cases e:uw ds.length i with
 |none=>rw[e]at h;cases h
 |some j=>rw[e]at h;exact r.get h
theorem q9 {K:PySem.W.Frag}:fj K (yz K) lG:=by
 intro v u x y d H F Q s rx ry h k
 unfold lG at h
 split at h
 ·cases ry.int
  obtain⟨a,vs,rfl,h1,h2⟩:=rx.lst s
  obtain⟨w,h3,h4⟩:=h2.atI h
  exact .inl ⟨a,vs,_,w,rfl,rfl,dr.of h1,h3,k _ H F (bv.refl s) h4⟩
 ·cases ry.int
  obtain⟨a,vs,rfl,h1,h2⟩:=rx.tup s
  obtain⟨w,h3,h4⟩:=h2.atI h
  exact .inr (.inl ⟨a,vs,_,w,rfl,rfl,eL.of h1,h3,k _ H F (bv.refl s) h4⟩)
 ·rename_i ns i
  cases ry.int
  obtain⟨a,rfl,h1⟩:=rx.scr s
  cases e:atI ns i with
  |none=>rw[e]at h;cases h
  |some n=>
   rw[e]at h
   cases h
   refine .inl ⟨a,ns.map V.int,i, .int n,rfl,rfl,h1,?_,k _ H F (bv.refl s) (.int n)⟩
   unfold L2.atI at e ⊢
   rw[List.length_map]
   cases e2:uw ns.length i with
   |none=>rw[e2]at e;cases e
   |some j=>
    rw[e2]at e
    show (ns.map V.int)[j]? =_
    rw[List.getElem?_map,show ns[j]? =some n from e]
    rfl
 ·cases h
theorem vF (ρ:ae):f2 dh fa fb ρ=f2 lG fa fb ρ\/f2 dh fa fb ρ=f2 rk fa fb ρ:=by
 unfold f2
 cases fa ρ with
 |ok x=>
  cases fb ρ with
  |ok y=>cases x<;>first|exact .inl rfl|exact .inr rfl
  |_=>exact .inl rfl
 |_=>exact .inl rfl
theorem dR (hu:X.A.units+1<cLine) (ha:PB ly X a fa) (hb:PB ly X b fb) (hs:oA b:=by intro _ _;rfl):PQ ly X (.Subscript a b pos) (f2 dh fa fb):=
 rh (fun c=>PE.weak (wI ve (ha c) (hb c) hs) fun σ H Q h=>vq h fun F H2 F2 v u x y e rx ry w=>by
   obtain⟨d,hd,k⟩:=w.of
   exact q9 v u x y d H2 F2 Q e.sub rx ry hd fun w H' F' e' r'=>k w H' F' (e.trans e') r')
  (fun c=>PE.weak (ti hu (ha c) (hb c) hs) fun σ H Q h=>vq h fun F H2 F2 v u x y e rx ry w=>by
   obtain⟨d,hd,k⟩:=w.of
   cases x with
   |dic kds=>
    obtain⟨p,vs,rfl,h1,h2,h3⟩:=rx.dic e.sub
    replace hd:((ik y).bind fun key=>fY kds key)=some d:=hd
    cases hk:ik y with
    |none=>rw[hk]at hd;cases hd
    |some key=>
     rw[hk]at hd
     cases iI hk ry
     rcases h2.get key with ⟨_,z⟩|⟨v',d',z1,z2,z3⟩
     ·rw[show fY kds key=some d from hd]at z;cases z
     ·rw[show fY kds key=some d from hd]at z2
      cases z2
      exact⟨p,v',rfl,z1▸ia.k (k:=key) h1,k _ H2 F2 e z3⟩
   |_=>cases hd) vF
end
end L2.Pu
namespace L2.Pu
open PySem PySem.Spec PyProof.Rows
variable {ly:List du}
section
variable {K:PySem.W.Frag}
theorem jJ.one {H F:Hp} {vs:List V} {d:D}:jJ K H F vs [d]->∃v,vs=[v]/\bW K H F v d:=fun h=>by
 cases h with
 |cons r t=>cases t;exact⟨_,rfl,r⟩
noncomputable def dH:List D->Option D
 |[.lst ds]=>some (.int ds.length)
 |[.tup ds]=>some (.int ds.length)
 |[.scr ns]=>some (.int ns.length)
 |[.dic ds]=>some (.int ds.length)
 |_=>none
noncomputable def uG (K:PySem.W.Frag):List V->Hp->VK->Prop:=fun xs H Q=>(∃p ys,xs=[.ref p]/\(dr K H p ys\/eL K H p ys)/\Q (.int ys.length) H)\/∃p kvs,xs=[.ref p]/\H p=some (.dK kvs)/\Q (.int kvs.length) H
theorem bG {X:Cx}:eO X (.builtin "len") (uG X.K):=by
 intro pins s σ H xs us Q I rv h
 rcases h with h|⟨p,kvs,rfl,hk,q⟩
 ·exact lr pins s σ H xs us Q I rv h
 ·obtain⟨u,rfl,ru⟩:=hZ rv
  cases ru
  exact wO I (.inl hk) fun t s' I'=>⟨.int kvs.length,H,I',⟨t,rfl⟩,q⟩
theorem cK:lx K (uG K) dH:=by
 intro vs ds d H F Q s rv h k
 match ds,h with
 |[.lst xs],h=>
  obtain⟨v,rfl,r⟩:=rv.one
  obtain⟨a,ws,rfl,h1,h2⟩:=r.lst s
  cases h
  exact .inl ⟨a,ws,rfl, .inl (dr.of h1),by rw[h2.length];exact k _ H F (bv.refl s) (.int _)⟩
 |[.tup xs],h=>
  obtain⟨v,rfl,r⟩:=rv.one
  obtain⟨a,ws,rfl,h1,h2⟩:=r.tup s
  cases h
  exact .inl ⟨a,ws,rfl, .inr (eL.of h1),by rw[h2.length];exact k _ H F (bv.refl s) (.int _)⟩
 |[.scr ns],h=>
  obtain⟨v,rfl,r⟩:=rv.one
  obtain⟨a,rfl,h1⟩:=r.scr s
  cases h
  exact .inl ⟨a,_,rfl, .inl h1,by rw[List.length_map];exact k _ H F (bv.refl s) (.int _)⟩
 |[.dic xs],h=>
  obtain⟨v,rfl,r⟩:=rv.one
  obtain⟨a,ws,rfl,h1,h2,h3⟩:=r.dic s
  cases h
  exact .inr ⟨a,ws,rfl,h1,by rw[h2.length];exact k _ H F (bv.refl s) (.int _)⟩
noncomputable def fZ:List D->Option D
 |[.lst ds]=>some (.tup ds)
 |[.tup ds]=>some (.tup ds)
 |_=>none
theorem gC:lx K (fun xs H Q=>∃p ys,xs=[.ref p]/\((dr K H p ys/\∀l,H l=none->Q (.ref l) (bn H l (.tup ys)))\/(eL K H p ys/\Q (.ref p) H))) fZ:=by
 intro vs ds d H F Q s rv h k
 match ds,h with
 |[.lst xs],h=>
  obtain⟨v,rfl,r⟩:=rv.one
  obtain⟨a,ws,rfl,h1,h2⟩:=r.lst s
  cases h
  refine⟨a,ws,rfl, .inl ⟨dr.of h1,fun l hl=> ?_⟩⟩
  have e:=bv.lay (o:= .tup ws) s hl
  exact k _ _ _ e (.tup ar (h2.mono e.grow))
 |[.tup xs],h=>
  obtain⟨v,rfl,r⟩:=rv.one
  obtain⟨a,ws,rfl,h1,h2⟩:=r.tup s
  cases h
  refine⟨a,ws,rfl, .inr ⟨eL.of h1,?_⟩⟩
  match r with
  | .inl r=>exact k _ H F (bv.refl s) r
noncomputable def uH:List D->Option D
 |[.lst ds]=>some (.lst ds)
 |[.tup ds]=>some (.lst ds)
 |[.scr ns]=>some (.lst (ns.map .int))
 |_=>none
noncomputable def f_:List D->Option (List Int)
 |[]=>some []
 | .int i::r=>(f_ r).map (i::·)
 |_::_=>none
theorem jS {F:Hp}:∀{ds:List D} {ns:List Int} {vs:List V},f_ ds=some ns->Reps K F vs ds->vs=ns.map V.int:=by
 intro ds
 induction ds with
 |nil=>intro ns vs h r;cases r.nilI;cases h;rfl
 |cons d r ih=>
  intro ns vs h rv
  obtain⟨v,us,rfl,r1,t⟩:=rv.consI
  cases d with
  |int i=>
   cases r1.intI
   replace h:(f_ r).map (i::·)=some ns:=h
   cases e:f_ r with
   |none=>rw[e]at h;cases h
   |some ms=>
    rw[e]at h
    cases h
    rw[ih e t];rfl
  |_=>cases h
noncomputable def rl:List D->Option D
 |[.int i]=>some (.int i)
 |[.bl k]=>some (.int (if k then 1 else 0))
 |_=>none
theorem oS:lx K (fun xs H Q=>(∃i,xs=[.int i]/\Q (.int i) H)\/∃k,xs=[.bl k]/\Q (.int (if k then 1 else 0)) H) rl:=by
 intro vs ds d H F Q s rv h k
 match ds,h with
 |[.int i],h=>obtain⟨v,rfl,r⟩:=rv.one;cases r.int;cases h;exact .inl ⟨i,rfl,k _ H F (bv.refl s) (.int _)⟩
 |[.bl i],h=>obtain⟨v,rfl,r⟩:=rv.one;cases r.bl;cases h;exact .inr ⟨i,rfl,k _ H F (bv.refl s) (.int _)⟩
end
section
variable {X:Cx} {a b e:Expr} {es:List Expr} {fa fb f fk fv:ae->R D} {fs:ae->R (List D)} {pos p p2:Pos}
noncomputable def xI:D->Option String
 | .non=>some "NoneType"
 | .bl _=>some "bool"
 | .int _=>some "int"
 | .str _=>some "str"
 | .tup _=>some "tuple"
 | .lst _=>some "list"
 | .dic _=>some "dict"
 |_=>none
noncomputable def kL (t T:String):Option Bool:=if t=T then some true else if t="bool"/\T="int" then some true
 else if ["NoneType","bool","int","str","tuple","list","dict"].contains t/\["bool","int","str","tuple","list","dict"].contains T then some false else none
theorem rm (K:PySem.W.Frag) {t T:String} {k:Bool} (ht:t="NoneType"\/t="bool"\/t="int"\/t="str"\/t="tuple"\/t="list"\/t="dict") (hT:T="bool"\/T="int"\/T="str"\/T="tuple"\/T="list"\/T="dict") (h:kL t T=some k):
  PySem.W.kitOne K (.type t) (.type T)=some k:=by
 rcases ht with rfl|rfl|rfl|rfl|rfl|rfl|rfl<;>rcases hT with rfl|rfl|rfl|rfl|rfl|rfl<;>(revert h;unfold kL;simp+decide;rintro rfl;first|rfl|(unfold PySem.W.kitOne PySem.W.kitCls;decide+kernel))
noncomputable def mC (T:String) (d:D):Option D:=(xI d).bind fun t=>(kL t T).map .bl
noncomputable def kn (T:String) (f:ae->R D):ae->R D:=fun ρ=>f ρ>>=fun d=>R.of (mC T d)
theorem vG {K:PySem.W.Frag} {H F:Hp} {v:V} {d:D} {t:String} (s:aF F H) (r:bW K H F v d) (h:xI d=some t):h_ K H v (.type t):=by
 cases d with
 |non=>cases r.non;cases h;exact .non
 |bl=>cases r.bl;cases h;exact .bl _
 |int=>cases r.int;cases h;exact .int _
 |str=>cases r.str;cases h;exact .str _
 |tup=>obtain⟨a,vs,rfl,h1,_⟩:=r.tup s;cases h;exact .tup h1
 |lst=>obtain⟨a,vs,rfl,h1,_⟩:=r.lst s;cases h;exact .lst h1
 |dic=>obtain⟨a,vs,rfl,h1,_⟩:=r.dic s;cases h;exact .dK h1
 |_=>cases h
theorem qa {d:D} {t:String} (h:xI d=some t):t="NoneType"\/t="bool"\/t="int"\/t="str"\/t="tuple"\/t="list"\/t="dict":=by
 cases d<;>cases h<;>simp
theorem kM {x:Str} {T:String} (hT:T="bool"\/T="int"\/T="str"\/T="tuple"\/T="list"\/T="dict") (hm1:X.mg "isinstance"=none) (hm:X.mg x=none) (hv:bootBuiltins x=some (.type T)) (ha:PB ly X a fa) (hg1:Gl X "isinstance":=by rfl) (hg:Gl X x:=by rfl)
  (hn:x≠"__name__":=by decide) (hdb:(x==("__debug__":Str))=false:=by decide)
  (he:starEach [a, .Name x p2] X.env=(false,eval a X.env)::starEach [.Name x p2] X.env:=by rfl) (he2:starEach [.Name x p2] X.env=(false,eval (.Name x p2) X.env)::starEach [] X.env:=by rfl) (hpl:(backTo pos (starEach [.Name x p2] X.env)).any (·.1)=false:=by rfl):
  PQ ly X (.Call (.Name "isinstance" p) [a, .Name x p2] [] pos) (kn T fa):=fun c=>
 PE.weak (i0 qL hg1 hm1 jE (bP (ha c) (bP (oh (v:= .ty T) hg hm hv rfl hn hdb) dF he2) he) (by decide) (by decide) he hpl) fun σ H Q ⟨F,ρ,ri,w⟩=>
  ⟨F,ρ,ri,(aD.bind.mp w).imp fun d _ w1 v H1 F1 e1 r1=>by
   obtain⟨d',hd,k⟩:=w1.of
   unfold mC at hd
   cases ht:xI d with
   |none=>rw[ht]at hd;cases hd
   |some t=>
    rw[ht]at hd
    cases hs:kL t T with
    |none=>
     replace hd:(kL t T).map D.bl=some d':=hd
     rw[hs]at hd;cases hd
    |some kk=>
     replace hd:(kL t T).map D.bl=some d':=hd
     rw[hs]at hd
     cases hd
     exact⟨v,T,_,kk,rfl,vG e1.sub r1 ht,rm X.K (qa ht) hT hs,k _ H1 F1 e1 (.bl kk)⟩⟩
noncomputable def yp (f:ae->R D):ae->R D:=fun ρ=>f ρ>>=fun d=>match d with
 | .lst ds=> .ok (.lst ds.reverse)
 |_=> .bad
variable {lo hi:Option Expr} {fl fh:ae->R (Option Int)}
inductive xi (ly:List du) (X:Cx) (pos:Pos):List (Option Expr)->List Expr->List ((ae->R D)×(ae->R D))->Prop
 |nil:xi ly X pos [] [] []
 |cons {k v:Expr} {ks:List (Option Expr)} {vs:List Expr} {fk fv:ae->R D} {ps:List ((ae->R D)×(ae->R D))}:PQ ly X k fk->PQ ly X v fv->xi ly X pos ks vs ps->xi ly X pos (some k::ks) (v::vs) ((fk,fv)::ps)
theorem xi.len {X:Cx} {pos:Pos}:∀{ks:List (Option Expr)} {vs:List Expr} {ps:List ((ae->R D)×(ae->R D))},xi ly X pos ks vs ps->ks.length=vs.length/\ks.length=ps.length/\ks.all (·.isSome)=true
 |_,_,_, .nil=>⟨rfl,rfl,rfl⟩
 |_,_,_, .cons _ _ r=>by
  obtain⟨a,b,c⟩:=r.len
  exact⟨by simp[a],by simp[b],by simp[List.all_cons,c]⟩
end
end L2.Pu
namespace L2.Pu
open PySem PySem.Spec PyProof.Rows
variable {ly:List du}
noncomputable def mD (scope outer:Scope):Bool:=
 scope.kind== .function&&scope.names.all (fun y=>y.2 != .cell)&&scope.names.all (fun y=>y.2 != .local||scope.names.lookup y.1==some .local)&&
 scope.names.all (fun y=>y.2 != .free||outer.names.lookup y.1==some .cell||outer.names.lookup y.1==some .free)&&decide ((scope.names.map (·.1)).Nodup)
theorem ba.of {X:Cx} {scope outer:Scope} (h:X.env.scope=outer) (k:mD scope outer=true):ba X scope:=by
 unfold mD at k
 simp only[Bool.and_eq_true,List.all_eq_true,decide_eq_true_eq,Bool.or_eq_true,bne_iff_ne,beq_iff_eq]at k
 obtain⟨⟨⟨⟨k1,k2⟩,k3⟩,k4⟩,k5⟩:=k
 refine⟨k1,k2,fun y hy hl=> ?_,fun y hy hf=> ?_,k5⟩
 ·rcases k3 y hy with z|z
  ·exact absurd hl z
  ·exact z
 ·show X.env.scope.names.lookup y.1=_\/X.env.scope.names.lookup y.1=_
  rw[h]
  rcases k4 y hy with (z|z)|z
  ·exact absurd hf z
  ·exact .inl z
  ·exact .inr z
structure cG (K:PySem.W.Frag) (mg:Str->Option Value) (x:Str) (st:Stmt) (ps:List Str):Prop where
 ex:∃f fd,oG K x x st f fd/\mg x=some (.ref f)/\cU K fd ps []
structure d5 (P:Program) (w:World) (K:PySem.W.Frag) (mg:Str->Option Value) (base:Heap) (k:Nat) (x:Str) (n:Nat) (m:List D->R D):Prop where
 ex:∃f fd ps,dc P w K mg base (gB P w) k f fd ps (pV K n m)/\mg x=some (.ref f)/\PySem.W.keepIn K (.ref f)=true/\cU K fd ps []
section
variable {P:Program} {w:World} {K:PySem.W.Frag} {mg:Str->Option Value} {base:Heap}
theorem ft {x:Str} {st:Stmt} {N ps:List Str} {k n m:Nat} {g:ae->R br} (A:cG K mg x st ps) (S:aK N ps (ag st)) (hn:ps.length=n) (hm:N.length=m)
  (hbody:∀(f:Addr) (cdv:Value) (A:Around) (outer:List Env) (s:Shared) (H:Hp) (E:XK),bL k (A.deeper (envOfC x (ag st) s.heap.objs.size f cdv))->
   fq [] (eD (gB P w) P w K mg base N x (ag st) f cdv A outer s H E) (aH st) g):d5 P w K mg base (k+1) x n (bE n m g):=by
 obtain⟨f,fd,F,h1,h2⟩:=A.ex
 exact⟨f,fd,ps,vA F S hn hm fun cdv A outer s H E hr=>hbody f cdv A outer s H E hr,h1,F.kp,h2⟩
theorem d5.mono {x:Str} {j k n:Nat} {m:List D->R D} (F:d5 P w K mg base j x n m) (h:j<=k):d5 P w K mg base k x n m:=by
 obtain⟨f,fd,ps,h1,h2⟩:=F.ex
 exact⟨f,fd,ps,h1.mono h,h2⟩
theorem rn {x:Str} {st:Stmt} {ps:List Str} {n:Nat} (A:cG K mg x st ps) (hn:ps.length=n):d5 P w K mg base 0 x n (fun _=> .bad):=by
 obtain⟨f,fd,F,h1,h2⟩:=A.ex
 refine⟨f,fd,ps,⟨fun vs H Q E h=>by rw[hn];exact h.1,fun A outer s H args us vs Q E hr e0 hb rv h=> ?_⟩,h1,F.kp,h2⟩
 obtain⟨_,F',ds,_,_,z⟩:=h
 exact z.elim
end
section
variable {X:Cx} {e:Expr} {es:List Expr} {fs:ae->R (List D)} {x:Str} {p pos:Pos}
theorem iK {n k:Nat} {m:List D->R D} (F:d5 X.prog X.w X.K X.mg X.base k x n m) (hr:bL k X.A)
  (ha:ng ly X (e::es) fs) (hg:Gl X x:=by rfl) (hdb:(x==("__debug__":Str))=false:=by decide) (he:starEach (e::es) X.env=(false,eval e X.env)::starEach es X.env:=by rfl) (hpl:(backTo pos (starEach es X.env)).any (·.1)=false:=by rfl):
  PQ ly X (.Call (.Name x p) (e::es) [] pos) (bC m n fs):=by
 obtain⟨f,fd,ps,h1,h2,h3,h4⟩:=F.ex
 exact vt h1 hr h2 h3 h4 ha hg hdb he hpl
end
structure Bl (mg:Str->Option Value) (xs:List Str):Prop where
 no:∀x∈xs,mg x=none
theorem di:bootBuiltins "tuple"=some (.type "tuple"):=by decide+kernel
theorem jT:bootBuiltins "int"=some (.type "int"):=by decide+kernel
theorem iL:bootBuiltins "bool"=some (.type "bool"):=by decide+kernel
theorem rq:bootBuiltins "min"=some (.builtin "min"):=by decide+kernel
theorem rs:bootBuiltins "max"=some (.builtin "max"):=by decide+kernel
theorem vH {K:PySem.W.Frag} {m:List D->R D} {H:Hp} {a:Addr} {ns:List Int} {E:XK} (h:m [.scr ns]= .ok (.bl true)) (hs:dr K H a (ns.map V.int)):pV K 1 m [.ref a] H (fun v _=>v= .bl true) E:=by
 refine⟨rfl,H,[.scr ns],aF.refl _, .cons (.scr hs) .nil,?_⟩
 rw[h]
 intro v H' F' e r
 cases r
 rfl
end L2.Pu
namespace L2.Pu
open PySem PySem.Spec PyProof.Rows
variable {ly:List du}
section
variable {i j:Int}
theorem dD (h:0<j):gW (.int i) (.int j)=some (.int (i%j)):=if_pos h
theorem iM (h:0<j/\j<1073741824):eS (.int i) (.int j)=some (.int (i / j)):=if_pos (show nN i j from ⟨h.1,by omega⟩)
theorem rz (h:j.natAbs<18446744073709551616):nQ (.int i) (.int j)=some (.int (i*j)):=if_pos (show km i j from .inr h)
theorem vI (h:i.natAbs<18446744073709551616):nQ (.int i) (.int j)=some (.int (i*j)):=if_pos (show km i j from .inl h)
theorem tV (h:my i j):tN (.int i) (.int j)=some (.int (i ^j.toNat)):=if_pos h
theorem rA:dG (.int i) (.int j)=some (.int (i+j)):=rfl
theorem nV:p_ (.int i) (.int j)=some (.int (i - j)):=rfl
theorem kN:sC (.int i) (.int j)=some (.bl (decide (i<j))):=rfl
theorem xj:yR (.int i) (.int j)=some (.bl (decide (i<=j))):=rfl
theorem oU:vC (.int i) (.int j)=some (.bl (decide (j<i))):=rfl
theorem mE:rf (.int i) (.int j)=some (.bl (decide (j<=i))):=rfl
theorem kO:il (.int i) (.int j)=some (.bl (decide (i=j))):=rfl
theorem rB:q0 (.int i) (.int j)=some (.bl (!decide (i=j))):=rfl
theorem uI {a b:Bool}:il (.bl a) (.bl b)=some (.bl (decide (a=b))):=rfl
theorem vJ:ym (.int i)=some (.int (-i)):=rfl
end
theorem rC {ds:List D} {i:Int}:dh (.lst ds) (.int i)=atI ds i:=rfl
theorem oV {ds:List D} {i:Int}:dh (.tup ds) (.int i)=atI ds i:=rfl
theorem xk {ns:List Int} {i:Int}:dh (.scr ns) (.int i)=(atI ns i).map .int:=rfl
theorem nW {ds:List D}:dH [.lst ds]=some (.int ds.length):=rfl
theorem lH {ds:List D}:dH [.tup ds]=some (.int ds.length):=rfl
theorem rD {ds:List Int}:dH [.scr ds]=some (.int ds.length):=rfl
theorem rE {ds:List D}:fZ [.lst ds]=some (.tup ds):=rfl
theorem rF {ds:List D}:fZ [.tup ds]=some (.tup ds):=rfl
theorem tW {ds:List D}:uH [.lst ds]=some (.lst ds):=rfl
theorem tY {ds:List D}:uH [.tup ds]=some (.lst ds):=rfl
theorem iN {α:Type} {xs:List α} {k:Nat} (h:k<xs.length):L2.atI xs (k:Int)=some xs[k]:=sX (by simp[h])
theorem tZ (x:Int) (xs:List Int):((xs.map D.int).any fun y=>xg y (.int x))=decide (x∈xs):=by
 induction xs with
 |nil=>rfl
 |cons y r ih=>
  rw[List.map_cons,List.any_cons,ih]
  show (y==x||decide (x∈r))=decide (x∈y::r)
  by_cases e:x=y
  ·subst e;simp
  ·have:(y==x)=false:=beq_eq_false_iff_ne.mpr (Ne.symm e)
   simp[this,e]
theorem t_ (xs:List Int):(xs.map D.int).all im=true:=by
 induction xs with
 |nil=>rfl
 |cons y r ih=>rw[List.map_cons,List.all_cons,ih];rfl
theorem u0 (neg:Bool) (x:Int) (xs:List Int):wk neg (.int x) (xs.map .int)=some (.bl (if neg then !decide (x∈xs)else decide (x∈xs))):=by
 unfold wk
 rw[if_pos ⟨rfl,t_ xs⟩,tZ]
theorem mF {x:Int} {xs:List Int}:jR true (.int x) (.lst (xs.map .int))=some (.bl (!decide (x∈xs))):=u0 true x xs
theorem nX (n:Nat):ee 0 (n:Int)=(List.range n).map fun k:Nat=>D.int (k:Int):=by
 unfold ee
 simp
theorem vK {ds:List D}:mC "tuple" (.tup ds)=some (.bl true):=rfl
theorem vL {i:Int}:mC "tuple" (.int i)=some (.bl false):=rfl
theorem vM {i:Int}:mC "int" (.int i)=some (.bl true):=rfl
theorem vN {i:Int}:mC "bool" (.int i)=some (.bl false):=rfl
theorem rG {m:List D->R D} {n:Nat} {fs:ae->R (List D)} {ρ:ae} {ds:List D} {d:D} (h:fs ρ= .ok ds) (hl:ds.length=n) (hm:m ds= .ok d):bC m n fs ρ= .ok d:=by
 unfold bC
 rw[h,ah,if_pos hl,hm]
end L2.Pu
namespace L2.Pu
theorem oW {g:D->ae->R ae} {gb:ae->R br} {d:D} {r:List D} {ρ ρ1 ρ2:ae} (h1:g d ρ= .ok ρ1) (h2:gb ρ1= .ok (.nx ρ2)):eG g gb (d::r) ρ=eG g gb r ρ2:=by
 rw[eG,h1,ah,h2,ah]
end L2.Pu
namespace L2.Pu
theorem dv {k n:Nat} {g:ae->R br} {ds:List D} {d:D} (h:ds.length=k) (e:g (cf n ds)= .ok (.ret d)):bE k n g ds= .ok d:=by
 unfold bE
 rw[if_pos h,e,ah]
theorem rH {k n:Nat} {g:ae->R br} {ds:List D} {ρ:ae} (h:ds.length=k) (e:g (cf n ds)= .ok (.nx ρ)):bE k n g ds= .ok .non:=by
 unfold bE
 rw[if_pos h,e,ah]
theorem aw {g g':ae->R br} {ρ ρ':ae} (h:g ρ= .ok (.nx ρ')):aN g g' ρ=g' ρ':=by
 unfold aN
 rw[h,ah]
theorem ip {g g':ae->R br} {ρ:ae} {d:D} (h:g ρ= .ok (.ret d)):aN g g' ρ= .ok (.ret d):=by
 unfold aN
 rw[h,ah]
theorem vO {fi:ae->R (List D)} {g:D->ae->R ae} {gb:ae->R br} {ρ:ae} {ds:List D} (h:fi ρ= .ok ds):mw fi g gb ρ=eG g gb ds ρ:=by
 unfold mw
 rw[h,ah]
end L2.Pu
namespace L2.Pu
theorem qb {fs:ae->R (List D)} {ρ:ae} {n:Nat} (h:fs ρ= .ok [.int (n:Int)]) (hn:n<=lim):jl fs ρ= .ok ((List.range n).map fun k:Nat=>D.int (k:Int)):=by
 unfold jl
 rw[h,ah]
 have hc:(n:Int).natAbs<=lim:=by rw[Int.natAbs_natCast];exact hn
 exact(if_pos hc).trans (congrArg R.ok (nX n))
end L2.Pu
namespace L2.Pu
open PySem PySem.Spec PyProof.Rows
variable {ly:List du}
section
variable {X:Cx} {elt tg iter:Expr} {ifs:List Expr} {scope:Scope} {pos:Pos} {fi:ae->R (List D)} {g:D->ae->R ae} {gt:ae->R Bool} {fe:ae->R D}
theorem u3 (i:Nat) {y:Str} {py spos:Pos} (S:ba X scope) (hc:X.calm=true) (hN:X.N.Nodup) (hi:vy ly X tg iter fi) (hg:∀s H ex,wg [] (bV X scope s H ex) tg g) (hif:∀s H ex,pZ [] (bV X scope s H ex) ifs gt) (hel:∀s H ex,PQ [] (bV X scope s H ex) elt fe)
  (hi':X.N[i]? =some y:=by rfl) (hx:qu X.env.scope y:=by first|exact Or.inl rfl|exact Or.inr rfl) (hf:X.fn y=true\/X.env.scope.names.lookup y=some .local:=by first|exact .inl rfl|exact .inr rfl|assumption)
  (hsw:swapsWith (.ListComp elt [⟨tg,iter,ifs,0⟩] scope pos) (some (.Name y py)) spos.line X.env=pure false:=by rfl) (hs:∀x,foldedSetIterable iter X.env x=pure x:=by intro _;rfl) (hfr:gG ly i:=by(repeat (first|assumption|exact L2.Pu.dC|refine L2.Pu.cQ ⟨by first|decide|simp,by first|decide|simp⟩ ?_))):
  jk ly X (.Assign [.Name y py] (.ListComp elt [⟨tg,iter,ifs,0⟩] scope pos) spos) (mx i (c_ X.N scope.names fi g gt fe)):=fun c=>
 PS.weak (jv hN hi' hx (oK S hc (hi c) (fun s H ex=>yj (hg s H ex)) (fun s H ex=>yk (hif s H ex)) (fun s H ex=>yl (hel s H ex)) hs) hsw hf) fun D σ H ⟨F,ρ,ri,w⟩=>by
  refine⟨F,ρ,ri,(aD.bind.mp (aD.bind.mp w)).imp fun ds _ w1 J H1 F1 e1 jo p hp=> ?_⟩
  split at w1
  ·rename_i hl
   split at w1
   ·rename_i es he
    refine gT ri e1 jo hp hl he fun H2 F2 vs e2 hp2 hf2 rv=> ?_
    refine w1 _ H2 F2 (e1.grow.trans e2.grow) ((ri.step (e1.trans e2)).setOwn i hfr hp2 hf2 (ri.ext.keep.free (e1.keep.free hp)) (.lst rv) (fun j d' _ hj ej=> ?_) (ri.celNe (e1.trans e2).keep (e1.keep.free hp)))
    obtain⟨a,o,k1,k2,_⟩:=ri.own j d' hj
    rw[ej]at k1
    cases k1
    rw[e1.keep.free hp]at k2
    cases k2
   ·exact w1.elim
  ·exact w1.elim
end
end L2.Pu
namespace L2.Pu
open PySem PySem.Spec PyProof.Rows
variable {ly:List du}
theorem gf {f:ae->R D} {ρ:ae} {d:D} (h:f ρ= .ok d):cj f ρ= .ok (.ret d):=by unfold cj;rw[h,ah]
theorem dj {g:List D->Option D} {fs:ae->R (List D)} {ρ:ae} {ds:List D} {d:D} (h:fs ρ= .ok ds) (h2:g ds=some d):dZ g fs ρ= .ok d:=by unfold dZ;rw[h,ah,h2,cJ]
theorem ax {f:ae->R D} {fs:ae->R (List D)} {ρ:ae} {ds:List D} {d:D} (h:f ρ= .ok d) (h2:fs ρ= .ok ds):aa f fs ρ= .ok (d::ds):=by unfold aa;rw[h,ah,h2,ah]
theorem nY {f:ae->R (List D)} {ρ:ae} {ds:List D} (h:f ρ= .ok ds):fL f ρ= .ok (.lst ds):=by unfold fL;rw[h,ah]
theorem dS {N:List Str} {names:List (Str×NameKind)} {fi:ae->R (List D)} {g:D->ae->R ae} {gt:ae->R Bool} {fe:ae->R D} {ρ τ:ae} {ds es:List D} (h:fi ρ= .ok ds) (hl:ds.length<=lim) (hr:jO N names ρ=τ) (hc:fX g gt fe ds τ= .ok es):
  c_ N names fi g gt fe ρ= .ok es:=by
 unfold c_
 rw[h,ah,if_pos hl,hr,hc]
theorem own_of {i:Nat} {f:ae->R (List D)} {ρ:ae} {ds:List D} (h:f ρ= .ok ds):mx i f ρ= .ok (.nx (ρ.set i (some (.own (.lst ds))))):=by unfold mx;rw[h,ah]
theorem dI {f:ae->R D} {g:D->ae->R ae} {ρ ρ':ae} {d:D} (h:f ρ= .ok d) (h2:g d ρ= .ok ρ'):ck f g ρ= .ok (.nx ρ'):=by unfold ck;rw[h,ah,h2,ah]
theorem d6 {m:List D->R D} {n:Nat} {fs:ae->R (List D)} {ρ:ae} {ds:List D} {d:D} (h:fs ρ= .ok ds) (hl:ds.length=n) (hm:m ds= .ok d):bC m n fs ρ= .ok d:=rG h hl hm
theorem aE {g:D->D->Option D} {fa fb:ae->R D} {ρ:ae} {a b d:D} (h:fa ρ= .ok a) (h2:fb ρ= .ok b) (h3:g a b=some d):f2 g fa fb ρ= .ok d:=by unfold f2;rw[h,ah,h2,ah,h3,cJ]
end L2.Pu
namespace L2.Pu
theorem rJ (d:D):(Slot.val d).data=d:=rfl
theorem rK (d:D):(Slot.own d).data=d:=rfl
theorem rL (d:D):(Slot.bor d).data=d:=rfl
end L2.Pu
namespace L2.Pu
open PySem PySem.Spec PyProof.Rows
variable {ly:List du}
section
variable {X:Cx} {a b:Expr} {fs:ae->R (List D)} {pos p1 p2 pos2:Pos}
end
end L2.Pu
namespace L2.Pu
open PySem PySem.Spec PyProof.Rows
variable {ly:List du}
end L2.Pu
namespace L2.Pu
open PySem PySem.Spec PyProof.Rows
variable {ly:List du}
section
variable {X:Cx} {a:Expr} {fa:ae->R D} {pos p1 p2 pos2:Pos}
end
section
variable {K:PySem.W.Frag}
end
end L2.Pu
namespace L2.Pu
open PySem PySem.Spec PyProof.Rows
variable {ly:List du}
structure gi (K:PySem.W.Frag) (x:Str) (C:Addr):Prop where
 ns:PySem.W.nsIn K mainGlobals x=some (some (.ref C))
 cl:m6 K C
theorem RepF.nilI {K:PySem.W.Frag} {F:Hp} {vs:List (Str×V)} (h:RepF K F vs []):vs=[]:=by cases h;rfl
theorem RepF.consI {K:PySem.W.Frag} {F:Hp} {vs:List (Str×V)} {k:Str} {d:D} {ds:List (Str×D)} (h:RepF K F vs ((k,d)::ds)):∃v us,vs=(k,v)::us/\cI K F v d/\RepF K F us ds:=by
 cases h with
 |cons r t=>exact⟨_,_,rfl,r,t⟩
theorem RepF.get {K:PySem.W.Frag} {F:Hp} {f:Str} {d:D} {vs:List (Str×V)} {ds:List (Str×D)} (g:RepF K F vs ds):ds.lookup f=some d->∃v,(f,v)∈vs/\cI K F v d:=by
 induction ds generalizing vs with
 |nil=>intro h;cases h
 |cons p ds ih=>
  intro h
  obtain⟨v,us,e0,r,t⟩:=RepF.consI (k:=p.1) (d:=p.2) g
  subst e0
  rw[List.lookup_cons]at h
  cases e:f==p.1 with
  |true=>rw[e]at h;cases h;cases eq_of_beq e;exact⟨v,List.mem_cons_self,r⟩
  |false=>
   rw[e]at h
   obtain⟨v',h1,h2⟩:=ih t h
   exact⟨v',List.mem_cons_of_mem _ h1,h2⟩
theorem RepF.names {K:PySem.W.Frag} {F:Hp} {vs:List (Str×V)} {ds:List (Str×D)} (g:RepF K F vs ds):vs.map (·.1)=ds.map (·.1):=by
 induction ds generalizing vs with
 |nil=>rw[g.nilI];rfl
 |cons p ds ih=>
  obtain⟨v,us,e0,_,t⟩:=RepF.consI (k:=p.1) (d:=p.2) g
  rw[e0,List.map_cons,List.map_cons,ih t]
theorem ef {α:Type} {f:Str}:∀{ds:List (Str×α)},ds.lookup f=none->f∉ds.map (·.1)
 |[],_=>by simp
 |(k,v)::ds,h=>by
  rw[List.lookup_cons]at h
  cases e:f==k with
  |true=>rw[e]at h;cases h
  |false=>
   rw[e]at h
   rw[List.map_cons]
   intro z
   rcases List.mem_cons.mp z with z|z
   ·rw[z]at e;simp at e
   ·exact ef h z
theorem bW.ins {K:PySem.W.Frag} {H F:Hp} {v:V} {x:Str} {fds:List (Str×D)} (s:aF F H):bW K H F v (.ins x fds)->∃a C dx fs vs,v= .ref a/\H a=some (.ins C dx fs)/\PySem.W.nsIn K mainGlobals x=some (some (.ref C))/\(∀p∈vs,fs.lookup p.1=some p.2)/\(∀f v,fs.lookup f=some v->f∈vs.map (·.1))/\RepF K F vs fds:=fun h=>by
 obtain⟨a,C,dx,fs,vs,e,h,r⟩:=h.in rfl
 exact⟨a,C,dx,fs,vs,e,s _ _ h,r⟩
section
variable {X:Cx} {a o e:Expr} {es:List Expr} {fa fo:ae->R D} {fs:ae->R (List D)} {pos apos p:Pos} {cls f m x:Str} {C:Addr}
noncomputable def cS (cls f:Str) (fa:ae->R D):ae->R D:=fun ρ=>fa ρ>>=fun d=>match d with
 | .ins y fds=>if y=cls then R.of (fds.lookup f)else .bad
 |_=> .bad
theorem xl (T:gi X.K cls C) (n:cF X.K C f) (ha:PB ly X a fa) (hb:attributeBase a f X.env (eval a X.env)=eval a X.env:=by rfl):PQ ly X (.Attribute a f pos) (cS cls f fa):=fun c=>
 PE.weak (ll (ha c) hb) fun σ H Q ⟨F,ρ,ri,w⟩=>⟨F,ρ,ri,(aD.bind.mp w).imp fun d _ w1 v H1 F1 e1 r1=>by
  cases d with
  |ins y fds=>
   dsimp only at w1
   split at w1
   ·rename_i hy
    subst hy
    obtain⟨d',hd,k⟩:=w1.of
    obtain⟨a,C',dx,fs,vs,rfl,h1,h2,h3,h4,h5⟩:=r1.ins e1.sub
    have ec:C'=C:=by rw[T.ns]at h2;cases h2;rfl
    subst ec
    obtain⟨u,hu,ru⟩:=h5.get hd
    exact⟨a,C',dx,fs,u,rfl,h1,T.cl,n,h3 _ hu,k u H1 F1 e1 ru⟩
   ·exact w1.elim
  |_=>exact w1.elim⟩
structure dJ (P:Program) (w:World) (K:PySem.W.Frag) (mg:Str->Option Value) (base:Heap) (k:Nat) (cls m:Str) (n:Nat) (r:List D->R D):Prop where
 ex:∃C f fd ps,dc P w K mg base (gB P w) k f fd ps (pV K n r)/\gi K cls C/\nu K C m f/\cU K fd ps []
noncomputable def gj (cls m:Str) (n:Nat) (r:List D->R D) (fo:ae->R D) (fs:ae->R (List D)):ae->R D:=fun ρ=>fo ρ>>=fun d=>match d with
 | .ins y fds=>if y=cls/\fds.lookup m=none then (fs ρ>>=fun ds=>if ds.length+1=n then (match r (d::ds)with| .ok z=> .ok z| .err x _=> .err x ρ| .bad=> .bad)else .bad)else .bad
 |_=> .bad
theorem oX {c:cA ly} {r:List D->R D} {n:Nat} {σ:St} {H:Hp} {Q:VK} (T:gi X.K cls C) (h:tQ X.K c (gj cls m n r fo fs) σ H Q):qG C m (pV X.K n r) [] (wd X c) (tQ X.K c fo) (we X.K c fs) σ H Q:=by
 obtain⟨F,ρ,ri,w⟩:=h
 refine⟨F,ρ,ri,(aD.bind.mp w).imp fun d hd w1 v H1 F1 e1 r1=> ?_⟩
 cases d with
 |ins y fds=>
  dsimp only at w1
  split at w1
  ·rename_i hy
   obtain⟨rfl,hm⟩:=hy
   obtain⟨a,C',dx,fs',vs,rfl,h1,h2,h3,h4,h5⟩:=bW.ins e1.sub (H:=H1) (.inl r1)
   have ec:C'=C:=by rw[T.ns]at h2;cases h2;rfl
   subst ec
   have hno:fs'.lookup m=none:=by
    cases e:fs'.lookup m with
    |none=>rfl
    |some v=>
     have:=h4 m v e
     rw[h5.names]at this
     exact absurd this (ef hm)
   refine⟨a,dx,fs',rfl,h1,hno,F1,ρ,ri.step e1,(aD.bind.mp w1).imp fun ds _ w2 us H2 F2 e2 r2=> ?_⟩
   show pV X.K n r (V.ref a::(us++[])) H2 Q (wd X c σ)
   rw[List.append_nil]
   split at w2
   ·rename_i hl
    refine⟨by rw[List.length_cons,r2.length];exact hl,F2,_,e2.sub, .cons (r1.mono e2.grow) r2,?_⟩
    split at w2
    ·rename_i z hz
     try rw[hz]
     exact fun v H' F' e' r'=>w2 v H' F' ((e1.trans e2).trans e') r'
    ·rename_i z _ hz
     try rw[hz]
     exact fun cls a H' F' ec e'=>⟨_,ρ,F',ec,ri.step ((e1.trans e2).trans e'),w2⟩
    ·exact w2.elim
   ·exact w2.elim
  ·exact w1.elim
 |_=>exact w1.elim
theorem rM {k n:Nat} {r:List D->R D} {pl:Sem Bool} (G:dJ X.prog X.w X.K X.mg X.base k cls m n r) (hr:bL k X.A) (ho:PQ ly X o fo) (ha:ng ly X (e::es) fs)
  (hst:starEach (e::es) X.env=(false,eval e X.env)::starEach es X.env:=by rfl) (hpl:(backTo pos (starEach es X.env)).any (·.1)=false:=by rfl)
  (ht:eval (.Call (.Attribute o m apos) (e::es) [] pos) X.env=(do
   let ov<-eval o X.env
   standAt apos.atName
   let (f,first)<-holding [ov] (getMethod ov m pl)
   callWith pos f first (backTo pos (starEach (e::es) X.env)) (backToKw pos (keywordEach [] X.env))):=by rfl):
  PQ ly X (.Call (.Attribute o m apos) (e::es) [] pos) (gj cls m n r fo fs):=by
 obtain⟨C,f,fd,ps,h1,h2,h3,h4⟩:=G.ex
 exact fun c=>PE.weak (oy (pl:=pl) (ho c) h2.cl h3 h1 hr h4 .nil (jK c) (ha c) hst hpl ht) fun σ H Q h=>oX h2 h
theorem u4 {k n:Nat} {r:List D->R D} {pl:Sem Bool} (G:dJ X.prog X.w X.K X.mg X.base k cls m n r) (hr:bL k X.A) (ho:PQ ly X o fo)
  (ht:eval (.Call (.Attribute o m apos) [] [] pos) X.env=(do
   let ov<-eval o X.env
   standAt apos.atName
   let (f,first)<-holding [ov] (getMethod ov m pl)
   callWith pos f first (backTo pos (starEach [] X.env)) (backToKw pos (keywordEach [] X.env))):=by rfl):
  PQ ly X (.Call (.Attribute o m apos) [] [] pos) (gj cls m n r fo am):=by
 obtain⟨C,f,fd,ps,h1,h2,h3,h4⟩:=G.ex
 refine fun c=>PE.weak (qH (pl:=pl) (ho c) h2.cl h3 h1 hr h4 .nil (jK c) ht) fun σ H Q h=> ?_
 obtain⟨F,ρ,ri,w⟩:=oX h2 h
 refine⟨F,ρ,ri,w.imp fun d _ k v H1 F1 e1 r1=> ?_⟩
 obtain⟨a,dx,fs',g1,g2,g3,F2,ρ2,ri2,w2⟩:=k v H1 F1 e1 r1
 exact⟨a,dx,fs',g1,g2,g3,w2 [] H1 F2 (bv.refl ri2.sub) .nil⟩
theorem au.ghost {pins:List (Addr×Obj)} {σ:St} {H:Hp} {s:Shared} (I:au X pins σ H s) {i:Nat} {g:Str} {v:Option V} (hi:X.N[i]? =some g) (hv:¬kh X.env.scope g):au X pins (σ.set i v) H s:=by
 refine {I with loc:= ?_,len:=by rw[List.length_set];exact I.len}
 obtain⟨mm,h1,h2⟩:=I.loc
 refine⟨mm,h1,fun j x u e1 e2 e3=> ?_⟩
 by_cases z:i=j
 ·subst z
  rw[hi]at e1
  cases e1
  exact absurd e3 hv
 ·rw[ac z]at e2
  exact h2 j x u e1 e2 e3
noncomputable def xm (K:PySem.W.Frag) (i:Nat) (ta tv:TE) (f:Str):TS:=fun D σ H=>tv σ H fun y H1=>ta σ H1 fun x H2=>∃a C dx fs,x= .ref a/\H2 a=some (.ins C dx fs)/\m6 K C/\cF K C f/\fs.length<1000/\
 D.nx (σ.set i (some y)) (bn H2 a (.ins C dx (dE f y fs)))
theorem oY {value:Expr} {pos':Pos} {ta tv:TE} {g:Str} (i:Nat) (hi:X.N[i]? =some g) (hvis:¬kh X.env.scope g) (ha:PE X o ta) (hv:PE X value tv) (hs:swapsWith value (some (.Attribute o f pos')) pos.line X.env=pure false):
  PS X (.Assign [.Attribute o f pos'] value pos) (xm X.K i ta tv f):=by
 intro pins s σ H D I h
 refine plainObj_wpAny_Assign_Attribute (cg (hv pins s σ H _ I h) fun u s1 z=> ?_) hs
 obtain⟨y,H1,I1,ry,q⟩:=z
 refine cg (ha pins s1 σ H1 _ I1 q) fun ov s2 z=> ?_
 obtain⟨x,H2,I2,rx,a,C,dx,fs,ex,ea,c,n,l,q2⟩:=z
 subst ex
 obtain rfl:ov=Value.ref a:=rx
 exact jz I2 ea c n l ry fun s3 I3=>⟨_,_,L2.Pu.au.ghost I3 hi hvis,q2⟩
theorem kP (f:Str) (v:V):∀fs:List (Str×V),(dE f v fs).map (·.1)=if f∈fs.map (·.1)then fs.map (·.1)else fs.map (·.1)++[f]
 |[]=>rfl
 |(g,x)::r=>by
  show (if g=f then (g,v)::r else (g,x)::dE f v r).map (·.1)=_
  by_cases e:g=f
  ·subst e;simp
  ·rw[if_neg e,List.map_cons,kP f v r]
   by_cases h:f∈r.map (·.1)
   ·rw[if_pos h,if_pos (by rw[List.map_cons];exact List.mem_cons_of_mem _ h)];rfl
   ·rw[if_neg h,if_neg (by rw[List.map_cons];intro z;exact(List.mem_cons.mp z).elim (fun q=>e q.symm) h)];rfl
theorem lI (f:Str) (v:V) {fs:List (Str×V)} (h:(fs.map (·.1)).Nodup):((dE f v fs).map (·.1)).Nodup:=by
 rw[kP]
 split
 ·exact h
 ·rename_i hf
  refine List.nodup_append.mpr ⟨h,by simp,fun a ha b hb=> ?_⟩
  rw[List.mem_singleton.mp hb]
  intro z;subst z;exact hf ha
theorem dw {α:Type} [DecidableEq α]:∀{l m:List α},l.Nodup->(∀x∈l,x∈m)->l.length<=m.length
 |[],_,_,_=>Nat.zero_le _
 |a::l,m,h,s=>by
  obtain⟨h1,h2⟩:=List.nodup_cons.mp h
  have ha:=s a List.mem_cons_self
  have:=dw (m:=m.erase a) h2 fun x hx=>(List.mem_erase_of_ne (fun z=>h1 (by rw[<-z];exact hx))).mpr (s x (List.mem_cons_of_mem _ hx))
  rw[List.length_erase_of_mem ha]at this
  have hp:0<m.length:=List.length_pos_of_mem ha
  rw[List.length_cons]
  omega
theorem fu {α:Type} {f:Str}:∀{fs:List (Str×α)},f∈fs.map (·.1)->∃v,fs.lookup f=some v
 |(g,x)::r,h=>by
  rw[List.lookup_cons]
  cases e:f==g with
  |true=>exact⟨x,rfl⟩
  |false=>
   rw[List.map_cons]at h
   rcases List.mem_cons.mp h with z|z
   ·rw[z]at e;simp at e
   ·exact fu z
theorem RI.fld {K:PySem.W.Frag} {c:cA ly} {ρ:ae} {σ:St} {H F:Hp} (r:RI K c ρ σ H F) {L:du} (hL:L∈ly) (hρ:ρ[L.x]? =some (some .obj)) {a dx:Addr} {fs:List (Str×V)} {i:Nat} (hx:σ[L.x]? =some (some (.ref a))) (ha:H a=some (.ins L.C dx fs)) (hf:(f,i)∈L.fl)
  (hn:∀p∈L.fl,p.1=f<->p.2=i) (hxi:L.x≠i) (hoth:∀M∈ly,M≠L->M.x≠i/\∀p∈M.fl,p.2≠i) {v:V} {d:D} (hd:cI K F v d) (hil:i<σ.length):
  RI K c (ρ.set i (some (.val d))) (σ.set i (some v)) (bn H a (.ins L.C dx (dE f v fs))) F:=by
 obtain⟨b,dx',fs',k0,k1,k2,k3,k4,k5,k6,k7,k8,k9,k10⟩:=r.obj L hL hρ
 rw[hx]at k1
 cases k1
 rw[ha]at k2
 cases k2
 have hne:∀{b:Addr} {o:HO},H b=some o->gF K F o d->b≠a:=fun {b o} e q z=>by subst z;rw[ha]at e;cases e;cases q
 refine⟨⟨fun x y e=> ?_,fun x y e=> ?_,r.ext.grow,r.ext.new⟩,fun j e q=> ?_,fun j e q=> ?_,fun j e q=> ?_,r.bh,fun j k e e' x q1 q2 q3 q4=> ?_,by simp[r.len],fun M hM hq=> ?_,fun M hM M' hM' q01 q02 x q1 q2=> ?_,r.fm, .no fun j x vds g hs w=> ?_,fun M hM a h=> ?_⟩
 ·rw[aj (fun z=>by rw[z,k4]at e;cases e)];exact r.sub x y e
 ·rw[aj (fun z=>by rw[z,k6]at e;cases e)];exact r.ext.keep x y e
 ·rcases ak q with ⟨rfl,z,l⟩|⟨z,q⟩
  ·cases z;exact⟨v,cW hil,hd⟩
  ·rw[ac z];exact r.val j e q
 ·rcases ak q with ⟨rfl,z,l⟩|⟨z,q⟩
  ·cases z
  ·obtain⟨x,o,g1,g2,g3,g4,g5⟩:=r.own j e q
   have nx:x≠a:=fun z=>by subst z;rw[ha]at g2;cases g2;cases g5
   exact⟨x,o,by rw[ac z];exact g1,by rw[aj nx];exact g2,g3,g4,g5⟩
 ·rcases ak q with ⟨rfl,z,l⟩|⟨z,q⟩
  ·cases z
  ·rw[ac z];exact r.bor j e q
 ·rcases ak q1 with ⟨rfl,z,l⟩|⟨z,q1⟩
  ·cases z
  ·rcases ak q2 with ⟨rfl,z',l⟩|⟨z',q2⟩
   ·cases z'
   ·rw[ac z]at q3;rw[ac z']at q4
    exact r.dis j k e e' x q1 q2 q3 q4
 ·by_cases hML:M=L
  ·subst hML
   refine⟨a,dx,dE f v fs,k0,by rw[ac hxi.symm];exact hx,ar,?_,k4,k5,k6,k7,fun p hp=> ?_,fun g u hu=> ?_,lI _ _ k10⟩
   ·rw[aj (fun z=>by rw[z,ha]at k3;cases k3)];exact k3
   ·rw[bK]
    by_cases e:p.1=f
    ·rw[if_pos e,(hn p hp).mp e,cW hil];rfl
    ·rw[if_neg e,ac (fun z=>e ((hn p hp).mpr z.symm))];exact k8 p hp
   ·rw[bK]at hu
    by_cases e:g=f
    ·subst e;exact List.mem_map.mpr ⟨_,hf,rfl⟩
    ·rw[if_neg e]at hu;exact k9 g u hu
  ·have ho:=hoth M hM hML
   rw[ac ho.1.symm]at hq
   obtain⟨b,dy,gs,g0,g1,g2,g3,g4,g5,g6,g7,g8,g9⟩:=r.obj M hM hq
   have nb:b≠a:=fun z=>hML (r.odis M hM L hL hq hρ a (by rw[<-z];exact g1) hx)
   have nd:dy≠a:=fun z=>by subst z;rw[ha]at g3;cases g3
   refine⟨b,dy,gs,g0,by rw[ac ho.1.symm];exact g1,by rw[aj nb];exact g2,by rw[aj nd];exact g3,g4,g5,g6,g7,fun p hp=> ?_,g9⟩
   rw[ac (ho.2 p hp).symm];exact g8 p hp
 ·have hxs:∀M∈ly,M.x≠i:=fun M hM=>by
   by_cases hML:M=L
   ·subst hML;exact hxi
   ·exact(hoth M hM hML).1
  rw[ac (hxs M hM).symm]at q1 q01
  rw[ac (hxs M' hM').symm]at q2 q02
  exact r.odis M hM M' hM' q01 q02 x q1 q2
 ·rcases ak w with ⟨rfl,z,l⟩|⟨z,w⟩
  ·cases z
  ·have:=r.cel.one j L.x x vds g hs .obj w hρ rfl
   subst this
   rw[hρ]at w
   cases w
 ·have hxs:M.x≠i:=by
   by_cases hML:M=L
   ·subst hML;exact hxi
   ·exact(hoth M hM hML).1
  rw[ac hxs.symm];exact r.pin M hM a h
noncomputable def lJ (x:Nat) (g:ae->R br):ae->R br:=fun ρ=>match ρ[x]? with
 |some (some .obj)=>g ρ
 |_=> .bad
theorem u5 {c:cA ly} {x:Nat} {g:ae->R br} {ρ:ae} {P:br->Prop} (w:aD c (lJ x g ρ) P):ρ[x]? =some (some .obj)/\aD c (g ρ) P:=by
 unfold lJ at w
 split at w
 ·rename_i h;exact⟨h,w⟩
 ·exact w.elim
structure rN (ly:List du) (L:du) (f:Str) (i:Nat):Prop where
 mem:L∈ly
 fl:(f,i)∈L.fl
 un:∀p∈L.fl,p.1=f<->p.2=i
 x:L.x≠i
 oth:∀M∈ly,M≠L->M.x≠i/\∀p∈M.fl,p.2≠i
 few:L.fl.length<1000
theorem iO {value:Expr} {pos' px:Pos} {fv:ae->R D} {y g:Str} {L:du} (i:Nat) (hC:m6 X.K L.C) (n:cF X.K L.C f) (A:rN ly L f i) (hv:PQ ly X value fv) (hN:X.N[L.x]? =some y:=by rfl) (hvy:kh X.env.scope y:=by first|exact Or.inl rfl|exact Or.inr (Or.inl rfl)|exact Or.inr (Or.inr rfl)) (hd:(y==("__debug__":Str))=false:=by decide)
  (hcd:(y==("__classdict__":Str))=false:=by decide) (hi:X.N[i]? =some g:=by rfl) (hvis:¬kh X.env.scope g:=by decide+kernel) (hs:swapsWith value (some (.Attribute (.Name y px) f pos')) pos.line X.env=pure false:=by rfl):
  jk ly X (.Assign [.Attribute (.Name y px) f pos'] value pos) (lJ L.x (ck fv (gN i))):=fun c pins s σ H D I q=>by
 refine oY i hi hvis (pv L.x hN hvy hd hcd) (hv c) hs pins s σ H D I ?_
 obtain⟨F,ρ,ri,w⟩:=q
 obtain⟨hρ,w⟩:=u5 w
 refine⟨F,ρ,ri,(aD.bind.mp w).imp fun d _ w1 v H1 F1 e1 r1=> ?_⟩
 have ri1:=ri.step e1
 obtain⟨a,dx,fs,h0,h1,h2,h3,h4,h5,h6,h7,h8,h9,h10⟩:=ri1.obj L A.mem hρ
 have hil:i<σ.length:=by rw[I.len];exact(List.getElem?_eq_some_iff.mp hi).1
 have hlen:fs.length<1000:=by
  have:=dw (m:=L.fl.map (·.1)) h10 fun x hx=>by
   obtain⟨v,e⟩:=fu hx
   exact h9 x v e
  rw[List.length_map,List.length_map]at this
  exact Nat.lt_of_le_of_lt this A.few
 refine⟨.ref a,h1,a,L.C,dx,fs,rfl,h2,hC,n,hlen,?_⟩
 exact w1 _ _ F1 e1.grow (ri1.fld A.mem hρ h1 h2 A.fl A.un A.x A.oth r1 hil)
end
end L2.Pu
namespace L2.Pu
open PySem PySem.Spec PyProof.Rows
variable {ly:List du}
section
variable {X:Cx} {pos px:Pos} {f y:Str}
noncomputable def yH (x:Nat) (g:ae->R D):ae->R D:=fun ρ=>match ρ[x]? with
 |some (some .obj)=>g ρ
 |_=> .bad
end
noncomputable def cp:List (Str×Nat)->ae->Option (List (Str×D))
 |[],_=>some []
 |p::r,ρ=>match ρ[p.2]? with
  |some (some (.val d))=>(cp r ρ).map fun t=>(p.1,d)::t
  |_=>none
noncomputable def fw (n:Nat) (ds:List D):ae:=some Slot.obj::cf n ds
noncomputable def rO (fl:List (Str×Nat)) (ρ:ae):R (List (Str×D)):=match ρ[0]? with
 |some (some Slot.obj)=>R.of (cp fl ρ)
 |_=> .bad
noncomputable def jp (k n:Nat) (fl:List (Str×Nat)) (g:ae->R br) (ds:List D):R (List (Str×D)):=if ds.length=k then g (fw n ds)>>=fun o=>match o with
 | .nx ρ=>rO fl ρ
 |_=> .bad else .bad
noncomputable def rP (K:PySem.W.Frag) (C:Addr) (cls:Str) (k:Nat) (mi:List D->R (List (Str×D))):Sp:=fun vs H Q E=>∃F x dx us ds Hz,vs= .ref x::us/\us.length=k/\aF F Hz/\Hz x=none/\Hz dx=none/\dx≠x/\H=bn (bn Hz dx (.own x)) x (.ins C dx [])/\Reps K F us ds/\match mi ds with
 | .ok fds=>∀H' F',bv Hz F H' F'->cI K F' (.ref x) (.ins cls fds)->Q .non H'
 | .err z _=>∀ec a H' F',cX K z ec->bv Hz F H' F'->E ec a H'
 | .bad=>False
theorem gX {K:PySem.W.Frag} {c:cA ly} {ρ:ae} {σ:St} {H F:Hp} (ri:RI K c ρ σ H F) {fs:List (Str×V)}:∀{fl:List (Str×Nat)} {fds:List (Str×D)},cp fl ρ=some fds->(∀p∈fl,fs.lookup p.1=(σ[p.2]?).join)->
  ∃vs:List (Str×V),RepF K F vs fds/\vs.map (·.1)=fl.map (·.1)/\∀p∈vs,fs.lookup p.1=some p.2
 |[],fds,h,_=>by cases h;exact⟨[], .nil,rfl,fun p hp=>by cases hp⟩
 |p::fl,fds,h,hl=>by
  unfold cp at h
  split at h
  ·rename_i d hd
   cases e:cp fl ρ with
   |none=>rw[e]at h;cases h
   |some t=>
    rw[e]at h
    cases h
    obtain⟨vs,h1,h2,h3⟩:=gX ri e fun q hq=>hl q (List.mem_cons_of_mem _ hq)
    obtain⟨v,g1,g2⟩:=ri.val _ d hd
    refine⟨(p.1,v)::vs, .cons g2 h1,by rw[List.map_cons,List.map_cons,h2],fun q hq=> ?_⟩
    rcases List.mem_cons.mp hq with rfl|hq
    ·have:=hl p List.mem_cons_self
     rw[this,g1];rfl
    ·exact h3 q hq
  ·cases h
theorem kQ {K:PySem.W.Frag} {N:List Str} {C x dx:Addr} {fl:List (Str×Nat)} {Hz F:Hp} {us:List V} {ds:List D} {Er:Str->ae->Prop} {n:Nat} (hn:N.length=n+1) (s:aF F Hz) (hx:Hz x=none) (hdx:Hz dx=none) (hne:dx≠x) (r:Reps K F us ds) (hus:us.length<=n) (hg:∀p∈fl,us.length<p.2):
  RI K (⟨Hz,F,fun _=>none,Er,fun _=>some x,fun _=>none⟩:cA [⟨0,C,fl⟩]) (fw n ds) (cE N (.ref x::us)) (bn (bn Hz dx (.own x)) x (.ins C dx [])) F:=by
 have keep:aF Hz (bn (bn Hz dx (.own x)) x (.ins C dx [])):=(bA hdx).trans (bA (by rw[aj (Ne.symm hne)];exact hx))
 have hv:∀(i:Nat) sl,(fw n ds)[i]? =some (some sl)->(i=0/\sl= .obj)\/∃j d,i=j+1/\ds[j]? =some d/\sl= .val d:=fun i sl h=>by
  cases i with
  |zero=>exact .inl ⟨rfl,by cases h;rfl⟩
  |succ j=>
   have h':(cf n ds)[j]? =some (some sl):=h
   refine .inr ?_
   unfold cf at h'
   rw[List.getElem?_append]at h'
   split at h'
   ·rw[List.getElem?_map]at h'
    cases e:ds[j]? with
    |none=>rw[e]at h';cases h'
    |some d=>rw[e]at h';simp at h';exact⟨j,d,rfl,e,h'.symm⟩
   ·rw[List.getElem?_replicate]at h'
    split at h'<;>simp at h'
 have hs0:(cE N (V.ref x::us))[0]? =some (some (V.ref x)):=rfl
 refine⟨⟨s.trans keep,keep,aF.refl _,fun _ h=> .inl h⟩,fun i d h=> ?_,fun i d h=> ?_,fun i d h=> ?_,(fun b o e=>by cases e),fun i j d d' a h=> ?_,?_,fun L hL _=> ?_,fun L hL L' hL' _ _ a _ _=> ?_,(fun _ _ e=>by cases e), .no fun i x vds f hs h=>(by obtain⟨_,z⟩|⟨j,d',_,_,z⟩:=hv i _ h<;>cases z),fun L hL a h=>by rw[List.mem_singleton.mp hL];cases h;exact hs0⟩
 ·obtain⟨rfl,z⟩|⟨j,d',rfl,e,z⟩:=hv i _ h
  ·cases z
  cases z
  obtain⟨v,h1,h2⟩:=r.get e
  refine⟨v,?_,h2⟩
  unfold cE
  have hl:j<us.length:=(List.getElem?_eq_some_iff.mp h1).1
  rw[List.getElem?_append_left (by simpa using hl),List.getElem?_map]
  show (us[j]?).map some=_
  rw[h1]
  rfl
 ·obtain⟨_,z⟩|⟨j,d',_,_,z⟩:=hv i _ h<;>cases z
 ·obtain⟨_,z⟩|⟨j,d',_,_,z⟩:=hv i _ h<;>cases z
 ·obtain⟨_,z⟩|⟨j,d',_,_,z⟩:=hv i _ h<;>cases z
 ·simp only[fw,cf,cE,List.length_cons,List.length_append,List.length_map,List.length_replicate,hn]
  have:=r.length
  omega
 ·rw[List.mem_singleton.mp hL]
  refine⟨x,dx,[],(fun b hb=>by cases hb;rfl),hs0,ar,?_,s.free hx,s.free hdx,hx,hdx,fun p hp=> ?_,(fun f v h=>by cases h),List.nodup_nil⟩
  ·rw[aj hne];exact ar
  ·have hp2:=hg p hp
   show none=_
   unfold cE
   rw[List.getElem?_append_right (by simp;omega),List.getElem?_replicate]
   split<;>rfl
 ·rw[List.mem_singleton.mp hL,List.mem_singleton.mp hL']
theorem u6 {K:PySem.W.Frag} {C:Addr} {cls:Str} {fl:List (Str×Nat)} {c:cA [⟨0,C,fl⟩]} {ρ:ae} {σ:St} {H F:Hp} {fds:List (Str×D)} {x:Addr} (ri:RI K c ρ σ H F) (hρ:ρ[0]? =some (some .obj)) (hoa:c.oa 0=some x) (hns:PySem.W.nsIn K mainGlobals cls=some (some (.ref C))) (h:cp fl ρ=some fds):
  ∃F',bv c.H0 c.F0 H F'/\cI K F' (.ref x) (.ins cls fds):=by
 obtain⟨a,dx,fs,h0,h1,h2,h3,h4,h5,h6,h7,h8,h9,h10⟩:=ri.obj _ (List.mem_singleton.mpr rfl) hρ
 cases h0 x hoa
 obtain⟨vs,g1,g2,g3⟩:=gX ri h h8
 have hne:dx≠x:=fun z=>by rw[z,h2]at h3;cases h3
 have s1:aF F (bn F dx (.own x)):=bA h5
 have s2:aF (bn F dx (.own x)) (bn (bn F dx (.own x)) x (.ins C dx fs)):=bA (by rw[aj (Ne.symm hne)];exact h4)
 have sF:=s1.trans s2
 refine⟨bn (bn F dx (.own x)) x (.ins C dx fs),⟨fun b u e=> ?_,ri.ext.keep,ri.ext.grow.trans sF,fun b e=> ?_⟩, .ins ar (by rw[aj hne];exact ar) hns g3 (fun f v e=>by rw[g2];exact h9 f v e) (g1.mono sF)⟩
 ·by_cases z:b=x
  ·subst z;rw[ar]at e;rw[<-e];exact h2
  ·rw[aj z]at e
   by_cases z2:b=dx
   ·subst z2;rw[ar]at e;rw[<-e];exact h3
   ·rw[aj z2]at e;exact ri.sub b u e
 ·by_cases z:b=x
  ·subst z;exact .inr h6
  ·rw[aj z]at e
   by_cases z2:b=dx
   ·subst z2;exact .inr h7
   ·rw[aj z2]at e;exact ri.ext.new b e
theorem u7 {P:Program} {w:World} {K:PySem.W.Frag} {mg:Str->Option Value} {base:Heap} {x qual cls:Str} {st:Stmt} {f C:Addr} {fd:FuncData} {N ps:List Str} {k n m:Nat} {fl:List (Str×Nat)} {g:ae->R br} (F:oG K x qual st f fd) (S:aK N ps (ag st))
  (hns:PySem.W.nsIn K mainGlobals cls=some (some (.ref C))) (hn:ps.length=n+1) (hm:N.length=m+1) (hg:∀p∈fl,n<p.2) (hnm:n<=m)
  (hbody:∀(cdv:Value) (A:Around) (outer:List Env) (s:Shared) (H:Hp) (E:XK),bL k (A.deeper (envOfC qual (ag st) s.heap.objs.size f cdv))->
   fq [⟨0,C,fl⟩] (eD (gB P w) P w K mg base N qual (ag st) f cdv A outer s H E) (aH st) g):dc P w K mg base (gB P w) (k+1) f fd ps (rP K C cls n (jp n m fl g)):=by
 refine xH F S (fun vs H Q E h=> ?_) (fun cdv A outer s H vs Q E hr h=> ?_)
 ·obtain⟨Fz,y,dy,us,ds,Hz,rfl,hl,_⟩:=h
  rw[List.length_cons,hl,hn]
 ·obtain⟨Fz,y,dy,us,ds,Hz,rfl,hl,sub,hy,hdy,hne,rfl,r,w⟩:=h
  refine⟨_,hbody cdv A outer s _ E hr ⟨⟨Hz,Fz,fun _=>none,fun z _=>∀ec a H' F',cX K z ec->bv Hz Fz H' F'->E ec a H',fun _=>some y,fun _=>none⟩,lA fun z ρ er ec a H' F' σ hc ri=>er ec a H' F' hc ri.ext⟩,?_⟩
  refine⟨Fz,fw m ds,kQ hm sub hy hdy hne r (by omega) (fun p hp=>by rw[hl];exact hg p hp),?_⟩
  have hd:ds.length=n:=by rw[<-r.length];exact hl
  unfold jp at w
  rw[if_pos hd]at w
  cases e:g (fw m ds)with
  |bad=>rw[e]at w;exact w.elim
  |err c ρ=>rw[e]at w;exact w
  |ok o=>
   rw[e]at w
   cases o with
   |nx ρ=>
    intro σ' H' F' _ ri'
    rw[ah]at w
    split at w
    ·rename_i fds hf
     replace hf:rO fl ρ= .ok fds:=hf
     unfold rO at hf
     split at hf
     ·rename_i hρ
      cases e2:cp fl ρ with
      |none=>rw[e2]at hf;cases hf
      |some gds=>
       rw[e2]at hf
       cases hf
       obtain⟨F2,x1,x2⟩:=u6 ri' hρ rfl hns e2
       exact w H' F2 x1 x2
     ·cases hf
    ·rename_i z ρe hf
     replace hf:rO fl ρ= .err z ρe:=hf
     unfold rO at hf
     split at hf
     ·cases e2:cp fl ρ<;>rw[e2]at hf<;>cases hf
     ·cases hf
    ·exact w.elim
   |_=>exact w.elim
structure gY (P:Program) (w:World) (K:PySem.W.Frag) (mg:Str->Option Value) (base:Heap) (k:Nat) (cls:Str) (n:Nat) (mi:List D->R (List (Str×D))):Prop where
 ex:∃C f fd ps,dc P w K mg base (gB P w) k f fd ps (rP K C cls n mi)/\mg cls=some (.ref C)/\Mk K C f/\cU K fd ps []
section
variable {X:Cx} {e:Expr} {es:List Expr} {fs:ae->R (List D)} {cls:Str} {p pos:Pos}
noncomputable def kR (cls:Str) (n:Nat) (mi:List D->R (List (Str×D))) (fs:ae->R (List D)):ae->R D:=fun ρ=>fs ρ>>=fun ds=>if ds.length=n then (match mi ds with| .ok fds=> .ok (.ins cls fds)| .err x _=> .err x ρ| .bad=> .bad)else .bad
theorem nZ {k n:Nat} {mi:List D->R (List (Str×D))} (G:gY X.prog X.w X.K X.mg X.base k cls n mi) (hr:bL (k+1) X.A) (ha:ng ly X (e::es) fs) (hg:Gl X cls:=by rfl) (hdb:(cls==("__debug__":Str))=false:=by decide)
  (he:starEach (e::es) X.env=(false,eval e X.env)::starEach es X.env:=by rfl) (hpl:(backTo pos (starEach es X.env)).any (·.1)=false:=by rfl):PQ ly X (.Call (.Name cls p) (e::es) [] pos) (kR cls n mi fs):=by
 obtain⟨C,f,fd,ps,h1,h2,h3,h4⟩:=G.ex
 refine fun c=>PE.weak (oz h3 h1 hr hg h2 h4 .nil (jK c) (ha c) hdb he hpl) fun σ H Q ⟨F,ρ,ri,w⟩=>⟨F,ρ,ri,(aD.bind.mp w).imp fun ds _ w1 vs H1 F1 e1 r1 x dx hx hdx hne=> ?_⟩
 rw[List.append_nil]
 split at w1
 ·rename_i hl
  refine⟨F1,x,dx,vs,ds,H1,rfl,by rw[r1.length];exact hl,e1.sub,hx,hdx,hne,rfl,r1,?_⟩
  split at w1
  ·rename_i fds hm
   exact fun H' F' e' r'=>⟨rfl,w1 _ H' F' (e1.trans e') r'⟩
  ·exact fun ec a H' F' hc e'=>⟨_,ρ,F',hc,ri.step (e1.trans e'),w1⟩
  ·exact w1.elim
 ·exact w1.elim
end
end L2.Pu
namespace L2.Pu
open PySem PySem.Spec PyProof.Rows
variable {ly:List du}
section
variable {X:Cx} {e:Expr} {es:List Expr} {fs:ae->R (List D)} {x:Str} {np cpos pos:Pos}
structure eg (K:PySem.W.Frag) (mg:Str->Option Value) (x:Str):Prop where
 ex:∃C,PySem.W.nsIn K mainGlobals x=some (some (.ref C))/\mg x=some (.ref C)/\ie K C
noncomputable def dk (x:Str) (fs:ae->R (List D)):ae->R br:=fun ρ=>fs ρ>>=fun ds=>if ds.length<=lim then .err x ρ else .bad
theorem rQ {c:fW ly X} {C:Addr} {σ:St} {H:Hp} {D:iA} {ρ:ae} {F:Hp} (hns:PySem.W.nsIn X.K mainGlobals x=some (some (.ref C)))
  (thr:∀pins σ ρ H F s a cls x,au X pins σ H s->RI X.K c.1 ρ σ H F->Fl X pins H s.heap a cls->cX X.K x cls->c.1.Er x ρ->X.xe (.ref a) s)
  (ri:RI X.K c.1 ρ σ H F) (w:aD c.1 (dk x fs ρ) (dM X.K c.1 F D)):qT X C (we X.K c.1 fs) D σ H:=by
 refine⟨F,ρ,ri,(aD.bind.mp w).imp fun ds _ w1 vs H1 F1 e1 r1=> ?_⟩
 split at w1
 ·rename_i hl
  exact⟨Nat.le_trans (by rw[r1.length];exact hl) dX,fun pins s a I fl=>thr pins σ ρ H1 F1 s a _ x I (ri.step e1) fl ⟨C,rfl,hns⟩ w1⟩
 ·exact w1.elim
theorem rR {c:cA ly} {ρ:ae} {F:Hp} {D:iA} (no:∀x ρ,¬c.Er x ρ) (w:aD c (dk x fs ρ) (dM X.K c F D)):False:=by
 unfold dk at w
 cases h:fs ρ with
 |bad=>rw[h]at w;exact w
 |err y ρ'=>rw[h]at w;exact no _ _ w
 |ok ds=>
  rw[h,ah]at w
  split at w
  ·exact no _ _ w
  ·exact w
theorem fz (k:eg X.K X.mg x) (hc:X.calm=true) (ha:ng ly X (e::es) fs) (hg:Gl X x:=by rfl) (hdb:(x==("__debug__":Str))=false:=by decide)
  (he:starEach (e::es) X.env=(false,eval e X.env)::starEach es X.env:=by rfl) (hpl:(backTo cpos (starEach es X.env)).any (·.1)=false:=by rfl):jk ly X (.Raise (some (.Call (.Name x np) (e::es) [] cpos)) none pos) (dk x fs):=by
 obtain⟨C,h1,h2,h3⟩:=k.ex
 intro c pins s σ H D I q
 obtain⟨F,ρ,ri,w⟩:=q
 rcases c.2 with ⟨hp,thr⟩|no
 ·exact qU h3 h2 hp hc (ha c) hg hdb he hpl pins s σ H D I (rQ h1 thr ri w)
 ·exact(rR (X:=X) no w).elim
end
noncomputable def xn (i:Nat):br->br
 | .nx ρ=> .nx (ρ.set i none)
 | .brk ρ=> .brk (ρ.set i none)
 | .cnt ρ=> .cnt (ρ.set i none)
 | .ret d=> .ret d
 | .retc d ρ=> .retc d (ρ.set i none)
noncomputable def oZ (i:Nat) (sub:Str->Bool) (gh:ae->R br) (x:Str) (ρ:ae):R br:=if sub x=true then (match gh (ρ.set i (some (.val (.exc x))))with
 | .ok o=> .ok (xn i o)
 |_=> .bad)else .bad
noncomputable def lK (i:Nat) (sub:Str->Bool) (g gh:ae->R br):ae->R br:=fun ρ=>match g ρ with
 | .err x ρ'=>oZ i sub gh x ρ'
 |r=>r
section
variable {X:Cx} {pins:List (Addr×Obj)} {σ:St} {H:Hp} {s:Shared}
noncomputable abbrev _root_.L2.Cx.inT (X:Cx) (E:Value->Shared->Prop) (pn:List (Addr×Obj)):Cx:={X with xe:=E,pn:=pn}
theorem yS {E:Value->Shared->Prop} {pn:List (Addr×Obj)} (ok:X.Ok):(X.inT E pn).Ok:=
 ⟨ok.mod,ok.kind,ok.glob,ok.blt,ok.above,ok.inj,ok.has,ok.cab,ok.hd,ok.frames,ok.stk,ok.exf,ok.bs,ok.bsz,ok.noex,ok.exfs,ok.funs,ok.frf⟩
theorem inT {E:Value->Shared->Prop} (I:au X pins σ H s):au (X.inT E (X.pn++pins)) [] σ H s:=⟨yS I.ok,I.os,I.bare,I.base,I.loc,I.cell,I.free,I.freeC,fun p hp=>I.pin p (by simpa using hp),I.hok,I.len⟩
theorem rS {E:Value->Shared->Prop} {pins':List (Addr×Obj)} (ok:X.Ok) (I:au (X.inT E (X.pn++pins)) pins' σ H s):au X pins σ H s:=⟨ok,I.os,I.bare,I.base,I.loc,I.cell,I.free,I.freeC,fun p hp=>I.pin p (List.mem_append_left _ hp),I.hok,I.len⟩
theorem newT {E:Value->Shared->Prop} {pins':List (Addr×Obj)} {b:Addr} (n:nI (X.inT E (X.pn++pins)) pins' H b):nI X pins H b:=⟨n.s0,n.no,fun p hp=>n.pin p (List.mem_append_left _ hp)⟩
theorem yT {E:Value->Shared->Prop} {pins':List (Addr×Obj)} {h:Heap} {a:Addr} {cls:Value} (f:Fl (X.inT E (X.pn++pins)) pins' H h a cls):Fl X pins H h a cls:=by
 obtain⟨oe,vs,h1,h2,h3,h4⟩:=f.at_
 refine⟨newT f.new,oe,vs,h1,h2,h3,h4.imp id fun ⟨T,e,t⟩=>⟨T,e,newT t.new,t.ne,t.at_⟩⟩
theorem yU {E:Value->Shared->Prop} {D:iA} {f:Flow} (ok:X.Ok) (h:SP (X.inT E (X.pn++pins)) [] D f s):SP X pins D f s:=by
 cases f with
 |next=>obtain⟨σ',H',I,q⟩:=h;exact⟨σ',H',rS ok I,q⟩
 |brk=>obtain⟨σ',H',I,q⟩:=h;exact⟨σ',H',rS ok I,q⟩
 |cont=>obtain⟨σ',H',I,q⟩:=h;exact⟨σ',H',rS ok I,q⟩
 |ret u=>obtain⟨v,σ',H',I,r,q⟩:=h;exact⟨v,σ',H',rS ok I,r,q⟩
end
section
variable {K:PySem.W.Frag} {c:cA ly} {ρ:ae} {σ:St} {H F:Hp}
noncomputable def cA.er (c:cA ly) (F:Hp) (Er:Str->ae->Prop):cA ly:=⟨c.H0,c.F0,c.B,Er,c.oa,F⟩
theorem RI.er {Er:Str->ae->Prop} (r:RI K c ρ σ H F):RI K (c.er F Er) ρ σ H F:=⟨r.ext,r.val,r.own,r.bor,r.bh,r.dis,r.len,r.obj,r.odis,aF.refl _,r.cel,r.pin⟩
theorem RI.unEr {F1:Hp} {Er:Str->ae->Prop} (r:RI K (c.er F1 Er) ρ σ H F) (m:aF c.Fm F1):RI K c ρ σ H F:=⟨r.ext,r.val,r.own,r.bor,r.bh,r.dis,r.len,r.obj,r.odis,m.trans r.fm,r.cel,r.pin⟩
theorem dM.er {D:iA} {o:br} {F1:Hp} {Er:Str->ae->Prop} (m:aF c.Fm F1) (h:dM K c F D o):dM K (c.er F1 Er) F D o:=by
 cases o with
 |nx ρ=>exact fun σ' H' F' s r=>h σ' H' F' s (r.unEr m)
 |brk ρ=>exact fun σ' H' F' s r=>h σ' H' F' s (r.unEr m)
 |cnt ρ=>exact fun σ' H' F' s r=>h σ' H' F' s (r.unEr m)
 |ret d=>exact fun v H' F' s e r=>h v H' F' s e r
 |retc d ρ=>exact fun v σ' H' F' s e r=>h v σ' H' F' s (e.unEr m) r
end
section
variable {X:Cx} {body suite:List Stmt} {b₀:Stmt} {g gh:ae->R br} {cx n:Str} {np hpos pos:Pos} {sub:Str->Bool}
structure o_ (K:PySem.W.Frag) (mg:Str->Option Value) (cx:Str) (sub:Str->Bool):Prop where
 ex:∃C,mg cx=some (.ref C)/\∀x cls,sub x=true->cX K x cls->PySem.W.exmOne K cls (.ref C)=some true
theorem xo (i:Nat) (p:fK X) (hN:X.N.Nodup) (U:o_ X.K X.mg cx sub) (hb:∀E pn,fq ly (X.inT E pn) body g) (hh:∀v,fq ly (X.inH v) (b₀::suite) gh) (hi:X.N[i]? =some n:=by rfl) (hk:X.env.scope.names.lookup n=some .local:=by rfl) (hg:Gl X cx:=by rfl)
  (hdb:(cx==("__debug__":Str))=false:=by decide) (hfr:gG ly i:=by(repeat (first|assumption|exact L2.Pu.dC|refine L2.Pu.cQ ⟨by first|decide|simp,by first|decide|simp⟩ ?_))):jk ly X (.Try body [.ExceptHandler (some (.Name cx np)) (some n) (b₀::suite) hpos] [] [] pos) (lK i sub g gh):=by
 obtain⟨Cc,hm,hsub⟩:=U.ex
 intro c pins s σ H D I q
 obtain⟨F,ρ,ri,w⟩:=q
 refine wpAny_Try_except ?_
 have ok:=I.ok
 let xe':Value->Shared->Prop:=fun e s₁=>wpAny (model X.prog X.w) X.A (noteFrame e X.env) (fun _ s₂=>wpAny (model X.prog X.w) X.A (setFlight e none) (fun _ s₃=>wpAny (model X.prog X.w) X.A (handleBy e X.env [.ExceptHandler (some (.Name cx np)) (some n) (b₀::suite) hpos]) (SP X pins D) X.xe s₃) X.xe s₂) X.xe s₁
 let c':cA ly:=c.1.er F fun x ρ'=>aD c.1 (oZ i sub gh x ρ') (dM X.K c.1 F D)
 have thr:w_ (X.inT xe' (X.pn++pins)) c':=by
  refine .inl ⟨⟨p.st,p.fr,p.ex⟩,fun pins' σ' ρ' H' F' s' a cls x I' ri' fl ec er=> ?_⟩
  obtain⟨C,rfl,hns⟩:=ec
  have ri0:RI X.K c.1 ρ' σ' H' F':=ri'.unEr ri.fm
  have sF:aF F F':=ri'.fm
  refine qR (rS ok I') p (yT fl) fun h2 I2 f2=> ?_
  replace er:aD c.1 (oZ i sub gh x ρ') (dM X.K c.1 F D):=er
  unfold oZ at er
  split at er
  ·rename_i hs
   refine pU I2 p f2 hN hi hk hg hm (hsub x _ hs ⟨C,rfl,hns⟩) hdb fun s3 I3=> ?_
   have e2:=bv.lay (o:= .ext (eP a (.ref C))) ri0.sub f2.new.no
   have ri3:=(ri0.step e2).setVal i hfr (cI.exc ar hns)
   split at er
   ·rename_i o ho
    let D2:iA:={nx:=fun σ1 H1=>D.nx (σ1.set i none) H1,rt:=D.rt,bk:=fun σ1 H1=>D.bk (σ1.set i none) H1,ct:=fun σ1 H1=>D.ct (σ1.set i none) H1}
    have want:dM X.K (c.1.er F fun _ _=>False) (bn F' a (.ext (eP a (.ref C)))) D2 o:=by
     have sFF:=sF.trans e2.grow
     cases o with
     |nx ρ1=>exact fun σ1 H1 F1 s1 r1=>er _ H1 F1 (sFF.trans s1) ((r1.unEr ri.fm).setNone i hfr)
     |brk ρ1=>exact fun σ1 H1 F1 s1 r1=>er _ H1 F1 (sFF.trans s1) ((r1.unEr ri.fm).setNone i hfr)
     |cnt ρ1=>exact fun σ1 H1 F1 s1 r1=>er _ H1 F1 (sFF.trans s1) ((r1.unEr ri.fm).setNone i hfr)
     |ret d=>exact fun v H1 F1 s1 e1 r1=>er v H1 F1 (sFF.trans s1) e1 r1
     |retc d ρ1=>exact fun v σ1 H1 F1 s1 e1 r1=>er v _ H1 F1 (sFF.trans s1) ((e1.unEr ri.fm).setNone i (v:=none) hfr) r1
    have ri4:RI X.K (c.1.er F fun _ _=>False) (ρ'.set i (some (.val (.exc x)))) (σ'.set i (some (.ref a))) (bn H' a (.ext (eP a (.ref C)))) (bn F' a (.ext (eP a (.ref C)))):=⟨ri3.ext,ri3.val,ri3.own,ri3.bor,ri3.bh,ri3.dis,ri3.len,ri3.obj,ri3.odis,sF.trans e2.grow,ri3.cel,ri3.pin⟩
    refine cg (hh (.ref a) ⟨c.1.er F fun _ _=>False, .no fun _ _ z=>z⟩ pins s3 _ _ D2 I3 ⟨_,_,ri4,by rw[ho];exact want⟩) fun f s4 q4=> ?_
    have gone:∀{σ1 H1},au (X.inH (.ref a)) pins σ1 H1 s4->(∀s5,au X pins (σ1.set i none) H1 s5->SP X pins D f s5)->wpAny (model X.prog X.w) X.A (do bindName X.env n Value.none;unbindBehindTheSuite X.env n hpos) (fun _ s5=>SP X pins D f s5) X.xe s4:=fun I4 kk=>pS (I4.outH ok) hN hi hk kk
    cases f with
    |next=>obtain⟨σ1,H1,I4,q5⟩:=q4;exact gone I4 fun s5 I5=>⟨_,H1,I5,q5⟩
    |brk=>obtain⟨σ1,H1,I4,q5⟩:=q4;exact gone I4 fun s5 I5=>⟨_,H1,I5,q5⟩
    |cont=>obtain⟨σ1,H1,I4,q5⟩:=q4;exact gone I4 fun s5 I5=>⟨_,H1,I5,q5⟩
    |ret u=>obtain⟨v,σ1,H1,I4,r,q5⟩:=q4;exact gone I4 fun s5 I5=>⟨v,_,H1,I5,r,q5⟩
   ·exact er.elim
  ·exact er.elim
 have wb:aD c' (g ρ) (dM X.K c' F D):=by
  unfold lK at w
  cases h:g ρ with
  |bad=>rw[h]at w;exact w
  |err x ρ'=>rw[h]at w;exact w
  |ok o=>rw[h]at w;exact dM.er ri.fm w
 refine cg (hb xe' (X.pn++pins) ⟨c',thr⟩ [] s σ H D (inT I) ⟨F,ρ,ri.er,wb⟩) fun f s1 q1=> ?_
 have q2:=yU ok q1
 cases f with
 |next=>exact wpAny_execs_nil q2
 |brk=>exact q2
 |cont=>exact q2
 |ret u=>exact q2
end
section
variable {X:Cx} {a:Expr} {fa:ae->R D} {x:Str} {p p2 pos:Pos} {tb:Str->Option Bool}
structure jU (K:PySem.W.Frag) (v:Value) (tb:Str->Option Bool):Prop where
 ok:∀x b cls,tb x=some b->cX K x cls->PySem.W.kitOne K cls v=some b/\∃C,cls= .ref C/\ie K C
noncomputable def ko (tb:Str->Option Bool) (f:ae->R D):ae->R D:=fun ρ=>f ρ>>=fun d=>match d with
 | .exc x=>R.of ((tb x).map .bl)
 |_=> .bad
noncomputable def xp (K:PySem.W.Frag):List V->Hp->VK->Prop:=fun xs H Q=>∃a C v c b,xs=[.ref a,v]/\H a=some (.ext (eP a (.ref C)))/\ie K C/\((∃T,v= .ty T/\c= .type T)\/∃C2,v= .ref C2/\c= .ref C2)/\PySem.W.kitOne K (.ref C) c=some b/\Q (.bl b) H
theorem mG:eO X (.builtin "isinstance") (xp X.K):=by
 intro pins s σ H xs us Q I rv h
 obtain⟨a,C,v,c,b,rfl,ea,k,hc,e,q⟩:=h
 obtain⟨u,w',rfl,ru,rw'⟩:=uo rv
 cases (show u=Value.ref a from ru)
 obtain⟨⟨o,g1,g2⟩,_⟩:=(show bO X.prog X.w H s.heap a (.ext (eP a (.ref C)))from I.hok a _ ea)
 have ew:w'=c:=by
  rcases hc with ⟨T,rfl,rfl⟩|⟨C2,rfl,rfl⟩
  ·exact rw'
  ·exact rw'
 subst ew
 exact PySem.W.kia_one (qS k) I.kIn ⟨o,g1,g2⟩ e (fun z=>nomatch z) fun tk=>⟨.bl b,H,I.tok tk,rfl,q⟩
theorem bW.exc {K:PySem.W.Frag} {H F:Hp} {v:V} {x:Str} (s:aF F H):bW K H F v (.exc x)->∃a C,v= .ref a/\H a=some (.ext (eP a (.ref C)))/\PySem.W.nsIn K mainGlobals x=some (some (.ref C)):=fun h=>by
 obtain⟨a,C,e,h,n⟩:=h.in rfl
 exact⟨a,C,e,s _ _ h,n⟩
theorem rT {K:PySem.W.Frag} {c:cA ly} {tv:V} {cv:Value} {σ:St} {H:Hp} {Q:VK} (T:jU K cv tb) (hv:(∃T,tv= .ty T/\cv= .type T)\/∃C2,tv= .ref C2/\cv= .ref C2) (h:tQ K c (ko tb fa) σ H Q):
  tB' K c fa σ H fun v H1=>xp K [v,tv] H1 Q:=by
 obtain⟨F,ρ,ri,w⟩:=h
 refine⟨F,ρ,ri,(aD.bind.mp w).imp fun d _ w1 v H1 F1 e1 r1=> ?_⟩
 cases d with
 |exc x=>
  obtain⟨d',hd,k⟩:=w1.of
  cases ht:tb x with
  |none=>rw[ht]at hd;cases hd
  |some b=>
   rw[ht]at hd
   cases hd
   obtain⟨a,C,rfl,h1,h2⟩:=r1.exc e1.sub
   obtain⟨g1,C',g2,g3⟩:=T.ok x b (.ref C) ht ⟨C,rfl,h2⟩
   cases g2
   exact⟨a,C,tv,cv,b,rfl,h1,g3,hv,g1,k _ H1 F1 e1 (.bl b)⟩
 |_=>exact w1.elim
theorem xq {C2:Addr} (T:jU X.K (.ref C2) tb) (hm:X.mg x=some (.ref C2)) (hm1:X.mg "isinstance"=none) (ha:PB ly X a fa) (hg1:Gl X "isinstance":=by rfl) (hg:Gl X x:=by rfl) (hdb:(x==("__debug__":Str))=false:=by decide)
  (he:starEach [a, .Name x p2] X.env=(false,eval a X.env)::starEach [.Name x p2] X.env:=by rfl) (he2:starEach [.Name x p2] X.env=(false,eval (.Name x p2) X.env)::starEach [] X.env:=by rfl) (hpl:(backTo pos (starEach [.Name x p2] X.env)).any (·.1)=false:=by rfl):
  PQ ly X (.Call (.Name "isinstance" p) [a, .Name x p2] [] pos) (ko tb fa):=fun c=>
 PE.weak (i0 mG hg1 hm1 jE (bP (ha c) (bP (og hg hm (v:= .ref C2) rfl hdb) dF he2) he) (by decide) (by decide) he hpl) fun σ H Q h=>rT T (.inr ⟨C2,rfl,rfl⟩) h
theorem vP {Ty:String} (T:jU X.K (.type Ty) tb) (hv:bootBuiltins x=some (.type Ty)) (hm:X.mg x=none) (hm1:X.mg "isinstance"=none) (ha:PB ly X a fa) (hg1:Gl X "isinstance":=by rfl) (hg:Gl X x:=by rfl) (hn:x≠"__name__":=by decide) (hdb:(x==("__debug__":Str))=false:=by decide)
  (he:starEach [a, .Name x p2] X.env=(false,eval a X.env)::starEach [.Name x p2] X.env:=by rfl) (he2:starEach [.Name x p2] X.env=(false,eval (.Name x p2) X.env)::starEach [] X.env:=by rfl) (hpl:(backTo pos (starEach [.Name x p2] X.env)).any (·.1)=false:=by rfl):
  PQ ly X (.Call (.Name "isinstance" p) [a, .Name x p2] [] pos) (ko tb fa):=fun c=>
 PE.weak (i0 mG hg1 hm1 jE (bP (ha c) (bP (oh (v:= .ty Ty) hg hm hv rfl hn hdb) dF he2) he) (by decide) (by decide) he hpl) fun σ H Q h=>rT T (.inl ⟨Ty,rfl,rfl⟩) h
end
end L2.Pu
namespace L2.Pu
open PySem PySem.Spec PyProof.Rows
variable {ly:List du}
section
variable {X:Cx} {a b e:Expr} {es:List Expr} {fa fb f:ae->R D} {fs:ae->R (List D)} {pos p:Pos} {x:Str} {id T:String} {rc:List V->Hp->VK->Prop}
end
section
variable {K:PySem.W.Frag}
end
end L2.Pu
namespace L2.Pu
open PySem PySem.Spec PyProof.Rows
variable {ly:List du}
structure d7 (K:PySem.W.Frag) (cls m qual:Str) (st:Stmt) (ps:List Str):Prop where
 ex:∃C f fd,oG K m qual st f fd/\gi K cls C/\nu K C m f/\cU K fd ps []
structure iP (K:PySem.W.Frag) (mg:Str->Option Value) (cls qual:Str) (st:Stmt) (ps:List Str) (fs:List Str):Prop where
 ex:∃C f fd,oG K "__init__" qual st f fd/\gi K cls C/\mg cls=some (.ref C)/\Mk K C f/\cU K fd ps []/\∀x∈fs,cF K C x
structure dN (K:PySem.W.Frag) (cls:Str) (fs:List Str):Prop where
 ex:∃C,gi K cls C/\∀x∈fs,cF K C x
section
variable {P:Program} {w:World} {K:PySem.W.Frag} {mg:Str->Option Value} {base:Heap}
theorem iQ {cls mm qual:Str} {st:Stmt} {N ps:List Str} {k n m:Nat} {g:ae->R br} (A:d7 K cls mm qual st ps) (S:aK N ps (ag st)) (hn:ps.length=n) (hm:N.length=m)
  (hbody:∀(f:Addr) (cdv:Value) (A:Around) (outer:List Env) (s:Shared) (H:Hp) (E:XK),bL k (A.deeper (envOfC qual (ag st) s.heap.objs.size f cdv))->
   fq [] (eD (gB P w) P w K mg base N qual (ag st) f cdv A outer s H E) (aH st) g):dJ P w K mg base (k+1) cls mm n (bE n m g):=by
 obtain⟨C,f,fd,F,h1,h2,h3⟩:=A.ex
 exact⟨C,f,fd,ps,vA F S hn hm fun cdv A outer s H E hr=>hbody f cdv A outer s H E hr,h1,h2,h3⟩
theorem qc {cls qual:Str} {st:Stmt} {N ps fs:List Str} {k n m:Nat} {fl:List (Str×Nat)} {g:ae->R br} (A:iP K mg cls qual st ps fs) (S:aK N ps (ag st)) (hn:ps.length=n+1) (hm:N.length=m+1) (hg:∀p∈fl,n<p.2) (hnm:n<=m)
  (hbody:∀(C f:Addr) (cdv:Value) (A:Around) (outer:List Env) (s:Shared) (H:Hp) (E:XK),m6 K C->(∀x∈fs,cF K C x)->bL k (A.deeper (envOfC qual (ag st) s.heap.objs.size f cdv))->
   fq [⟨0,C,fl⟩] (eD (gB P w) P w K mg base N qual (ag st) f cdv A outer s H E) (aH st) g):gY P w K mg base (k+1) cls n (jp n m fl g):=by
 obtain⟨C,f,fd,F,h1,h2,h3,h4,h5⟩:=A.ex
 exact⟨C,f,fd,ps,u7 F S h1.ns hn hm hg hnm fun cdv A outer s H E hr=>hbody C f cdv A outer s H E h1.cl h5 hr,h2,h3,h4⟩
theorem gZ {C:Addr} {fl:List (Str×Nat)} {f:Str} {i:Nat} (h1:(f,i)∈fl) (h2:∀p∈fl,p.1=f<->p.2=i) (h3:0≠i) (h4:fl.length<1000):rN [⟨0,C,fl⟩] ⟨0,C,fl⟩ f i:=
 ⟨List.mem_cons_self,h1,h2,h3,fun M hM hne=>absurd (List.mem_singleton.mp hM) hne,h4⟩
theorem fA {C:Addr} (e1:PySem.W.excIn K C jI "ValueError.__new__"=true) (e2:PySem.W.findIn K (.ref C) "__getattribute__"=some (some (.builtin "BaseException.__getattribute__"))) (e3:PySem.W.findIn K (.ref C) "__getattr__"=some none)
  (e4:PySem.W.findIn K (.ref C) "__class__"=some (some (.builtin "object.__class__"))) (e5:PySem.W.mroIn K C (.type "object")=some true) (e6:PySem.W.mroIn K C (.type "BaseException")=some true) (e7:PySem.W.kitCls K (.ref C) (.ref C)=some true)
  (e8:PySem.W.specialIn K (.builtin "object.__class__") "__get__"=some (some (.builtin "getset_descriptor.__get__"))) (e9:PySem.W.takesIn K (.builtin "object.__class__")=some true):ie K C:=
 ⟨⟨_,_,_,_,e1,F.excBase_ValueError,by decide⟩,e2,e3,e4,e8,e9,e5,e6,e7⟩
theorem n_ {D:Addr} {bmB:List Value} {nid:String} (e:PySem.W.excIn K D bmB nid=true):((PySem.W.clsIn K D).isSome&&PySem.W.typeIn K (.ref D)==some (.type "type"))=true:=by
 unfold PySem.W.excIn at e
 split at e
 ·rename_i lk
  unfold PySem.W.clsIn PySem.W.typeIn
  simp only[lk]
  rfl
 ·cases e
theorem cB {C D:Addr} {b:Bool} {bmB:List Value} {nid:String} (e:PySem.W.excIn K D bmB nid=true) (m:PySem.W.mroIn K C (.ref D)=some b):PySem.W.kitCls K (.ref C) (.ref D)=some b:=by
 unfold PySem.W.kitCls
 dsimp only
 rw[if_pos (n_ e)]
 exact m
theorem aq {C D:Addr} {b:Bool} {bmB:List Value} {nid:String} (e:PySem.W.excIn K D bmB nid=true) (m:PySem.W.mroIn K C (.ref D)=some b) (s:PySem.W.mroIn K C (.ref C)=some true):PySem.W.kitOne K (.ref C) (.ref D)=some b:=by
 unfold PySem.W.kitOne
 split
 ·rename_i h
  have ez:Value.ref C=Value.ref D:=eq_of_beq h
  cases ez
  exact s.symm.trans m
 ·exact cB e m
theorem jc:PySem.W.kitMeta "ValueError"=true:=by unfold PySem.W.kitMeta;decide+kernel
theorem dm {C:Addr} {b:Bool} (m:PySem.W.mroIn K C (.type "ValueError")=some b):PySem.W.kitOne K (.ref C) (.type "ValueError")=some b:=by
 unfold PySem.W.kitOne
 rw[if_neg (by intro h;exact absurd (eq_of_beq h) (fun z=>by cases z))]
 unfold PySem.W.kitCls
 dsimp only
 rw[if_pos jc]
 exact m
theorem dn {C D:Addr} {b:Bool} {bmB:List Value} {nid:String} (e:PySem.W.excIn K D bmB nid=true) (m:PySem.W.mroIn K C (.ref D)=some b) (mb:PySem.W.mroIn K D (.type "BaseException")=some true):PySem.W.exmOne K (.ref C) (.ref D)=some b:=by
 unfold PySem.W.exmOne
 rw[if_pos (by show (PySem.W.mroIn K D (.type "BaseException")==some true)=true;rw[mb];rfl)]
 exact cB e m
noncomputable def rU (xs:List Str) (x:Str):Bool:=xs.contains x
theorem rV {cx:Str} {C:Addr} {xs:List Str} (hm:mg cx=some (.ref C)) (h:∀x∈xs,∃Ce,PySem.W.nsIn K mainGlobals x=some (some (.ref Ce))/\PySem.W.exmOne K (.ref Ce) (.ref C)=some true):o_ K mg cx (rU xs):=by
 refine⟨C,hm,fun x cls hx ⟨C',e,hc⟩=> ?_⟩
 obtain⟨Ce,h1,h2⟩:=h x (by simpa[rU]using hx)
 rw[hc]at h1
 cases h1
 rw[e]
 exact h2
noncomputable def fD (l:List (Str×Bool)) (x:Str):Option Bool:=l.lookup x
theorem kS {α:Type} {x:Str} {b:α}:∀{l:List (Str×α)},l.lookup x=some b->(x,b)∈l
 |(k,v)::r,h=>by
  rw[List.lookup_cons]at h
  cases e:x==k with
  |true=>rw[e]at h;cases h;cases eq_of_beq e;exact List.mem_cons_self
  |false=>rw[e]at h;exact List.mem_cons_of_mem _ (kS h)
theorem eU {v:Value} {l:List (Str×Bool)} (h:∀p∈l,∃Ce,PySem.W.nsIn K mainGlobals p.1=some (some (.ref Ce))/\PySem.W.kitOne K (.ref Ce) v=some p.2/\ie K Ce):jU K v (fD l):=by
 refine⟨fun x b cls hb ⟨C',e,hc⟩=> ?_⟩
 obtain⟨Ce,h1,h2,h3⟩:=h _ (kS hb)
 rw[hc]at h1
 cases h1
 subst e
 exact⟨h2,C',rfl,h3⟩
structure jV (K:PySem.W.Frag) (mg:Str->Option Value) (x:Str) (tb:Str->Option Bool):Prop where
 ex:∃C,mg x=some (.ref C)/\jU K (.ref C) tb
end
section
variable {X:Cx} {a e o:Expr} {es:List Expr} {fa f fo:ae->R D} {fs:ae->R (List D)} {cls fld x m:Str} {p p2 pos apos:Pos} {xs:List Str} {tb:Str->Option Bool}
theorem cL (T:dN X.K cls xs) (hf:fld∈xs) (ha:PB ly X a fa) (hb:attributeBase a fld X.env (eval a X.env)=eval a X.env:=by rfl):PQ ly X (.Attribute a fld pos) (cS cls fld fa):=by
 obtain⟨C,h1,h2⟩:=T.ex
 exact xl h1 (h2 fld hf) ha hb
theorem jW (T:jV X.K X.mg x tb) (hm1:X.mg "isinstance"=none) (ha:PB ly X a fa) (hg1:Gl X "isinstance":=by rfl) (hg:Gl X x:=by rfl) (hdb:(x==("__debug__":Str))=false:=by decide)
  (he:starEach [a, .Name x p2] X.env=(false,eval a X.env)::starEach [.Name x p2] X.env:=by rfl) (he2:starEach [.Name x p2] X.env=(false,eval (.Name x p2) X.env)::starEach [] X.env:=by rfl) (hpl:(backTo pos (starEach [.Name x p2] X.env)).any (·.1)=false:=by rfl):
  PQ ly X (.Call (.Name "isinstance" p) [a, .Name x p2] [] pos) (ko tb fa):=by
 obtain⟨C,h1,h2⟩:=T.ex
 exact xq h2 h1 hm1 ha hg1 hg hdb he he2 hpl
noncomputable def jX (f:ae->R D):ae->R br:=fun ρ=>f ρ>>=fun _=> .ok (.nx ρ)
theorem rW (h:PQ ly X e f) (hsw:swapsWith e none pos.line X.env=pure false:=by rfl):jk ly X (.Expr e pos) (jX f):=fun c=>
 PS.weak (jh (h c) hsw) fun D σ H ⟨F,ρ,ri,w⟩=>⟨F,ρ,ri,(aD.bind.mp w).imp fun d _ w1 v H1 F1 e1 r1=>w1 σ H1 F1 e1.grow (ri.step e1)⟩
end
theorem vQ {P:Program} {w:World} {outer:List Env} {H:Hp} {s s':Shared} {e:Value} (h:gB P w outer H s (fun _ _ _=>False) e s'):False:=by
 obtain⟨_,_,_,_,_,_,_,_,_,z⟩:=h
 exact z
theorem jd:bootBuiltins "ValueError"=some (.type "ValueError"):=by decide+kernel
end L2.Pu
namespace L2.Pu
open PySem PySem.Spec PyProof.Rows
variable {ly:List du}
theorem RI.up {K:PySem.W.Frag} {c:cA ly} {ρ:ae} {σ:St} {H F H':Hp} (r:RI K c ρ σ H F) (e:aF H H'):RI K c ρ σ H' F:=r.step ⟨r.sub.trans e,e,aF.refl _,fun _ h=> .inl h⟩
noncomputable def o0:D->Bool
 | .non=>true
 | .bl _=>true
 | .int _=>true
 | .str _=>true
 |_=>false
theorem rX {K:PySem.W.Frag} {F F':Hp} {v:V} {d:D} (h:o0 d=true) (r:cI K F v d):cI K F' v d:=by
 cases r with
 |non=>exact .non
 |bl b=>exact .bl b
 |int i=>exact .int i
 |str x=>exact .str x
 |_=>cases h
section
variable {X:Cx} {e:Expr} {es:List Expr} {f:ae->R D} {g:ae->R Bool} {pos:Pos}
noncomputable def p0 (L:List Nat) (f:ae->R D):ae->R D:=fun ρ=>f (frz L ρ)>>=fun d=>if o0 d=true then .ok d else .bad
theorem mH {H F H':Hp} (s:aF F H) (e:aF H H'):bv H F H' F:=⟨s.trans e,e,aF.refl _,fun _ h=> .inl h⟩
theorem vR (L:List Nat) (h:PQ ly X e f):PQ ly X e (p0 L f):=fun c=>PE.weak (h c) fun σ H Q ⟨F,ρ,ri,w⟩=>by
 obtain⟨F',s,ri'⟩:=ri.frz L
 refine⟨F',_,ri',(aD.bind.mp w).imp fun d _ w1 v H1 F1 e1 r1=> ?_⟩
 split at w1
 ·rename_i hd
  exact w1 v H1 F (mH ri.sub e1.keep) (rX hd r1)
 ·exact w1.elim
end
section
variable {X:Cx} {e:Expr} {f:ae->R D} {pos:Pos}
end
end L2.Pu
namespace L2
open PySem PySem.Spec PyProof.Rows
section
variable {X:Cx} {tg:Expr}
end
end L2
namespace L2.Pu
open PySem PySem.Spec PyProof.Rows
variable {ly:List du}
section
variable {X:Cx} {a b d:Expr} {fs:ae->R (List D)} {pos:Pos}
end
end L2.Pu
namespace L2
open PySem PySem.Spec PyProof.Rows
end L2
namespace L2.Pu
open PySem PySem.Spec PyProof.Rows
variable {ly:List du}
end L2.Pu
namespace L2.Pu
section
variable {α:Type} {P:List α->Prop}
theorem yV (h:P []):∀us:List α,us.length=0->P us:=fun us e=>by
 rw[List.length_eq_zero_iff.mp e];exact h
theorem xr {n:Nat} (h:∀a us,us.length=n->P (a::us)):∀us:List α,us.length=n+1->P us:=fun us e=>by
 cases us with
 |nil=>cases e
 |cons a us=>exact h a us (Nat.succ.inj e)
theorem yq (h:∀a,P [a]):∀us:List α,us.length=1->P us:=xr fun a=>yV (P:=fun us=>P (a::us)) (h a)
theorem sD (h:∀a b,P [a,b]):∀us:List α,us.length=2->P us:=xr fun a=>yq (P:=fun us=>P (a::us)) (h a)
theorem xJ (h:∀a b c,P [a,b,c]):∀us:List α,us.length=3->P us:=xr fun a=>sD (P:=fun us=>P (a::us)) (h a)
theorem yr (h:∀a b c d,P [a,b,c,d]):∀us:List α,us.length=4->P us:=xr fun a=>xJ (P:=fun us=>P (a::us)) (h a)
theorem yW (h:∀a b c d e,P [a,b,c,d,e]):∀us:List α,us.length=5->P us:=xr fun a=>yr (P:=fun us=>P (a::us)) (h a)
end
end L2.Pu
namespace L2
open PySem PySem.Spec PyProof.Rows
end L2
namespace L2.Pu
open PySem PySem.Spec PyProof.Rows
variable {ly:List du}
end L2.Pu
namespace L2.Pu
open PySem PySem.Spec PyProof.Rows
variable {ly:List du}
noncomputable def Slot.kind:Slot->Nat
 | .own _=>1
 | .cel .. =>2
 |_=>0
noncomputable def d8 (ρ:ae):List Nat->Option (List Slot)
 |[]=>some []
 |i::r=>match ρ[i]? with
  |some (some s)=>(d8 ρ r).map fun t=>s::t
  |_=>none
noncomputable def mI (ρ:ae):List Nat->List Slot->ae
 |i::is,s::ss=>mI (ρ.set i (some s)) is ss
 |_,_=>ρ
theorem mJ:∀(is:List Nat) (ss:List Slot) (ρ:ae),(mI ρ is ss).length=ρ.length
 |[],ss,ρ=>by cases ss<;>rfl
 |i::is,[],ρ=>rfl
 |i::is,s::ss,ρ=>by
  show (mI (ρ.set i (some s)) is ss).length=_
  rw[mJ is ss];simp
theorem mK:∀{is:List Nat} {ss:List Slot} {ρ:ae} {j:Nat} {s:Slot},is.Nodup->ss.length=is.length->(mI ρ is ss)[j]? =some (some s)->(∃k:Nat,is[k]? =some j/\ss[k]? =some s)\/(j∉is/\ρ[j]? =some (some s))
 |[],ss,ρ,j,s,_,_,h=>by
  refine .inr ⟨by simp,?_⟩
  cases ss<;>exact h
 |i::is,[],ρ,j,s,_,hl,h=>by simp at hl
 |i::is,t::ss,ρ,j,s,nd,hl,h=>by
  obtain⟨n1,n2⟩:=List.nodup_cons.mp nd
  rcases mK (ρ:=ρ.set i (some t)) n2 (by simpa using hl) h with ⟨k,h1,h2⟩|⟨h1,h2⟩
  ·exact .inl ⟨k+1,h1,h2⟩
  ·rcases ak h2 with ⟨rfl,z,_⟩|⟨z,h2⟩
   ·cases z;exact .inl ⟨0,rfl,rfl⟩
   ·exact .inr ⟨fun m=>(List.mem_cons.mp m).elim (fun q=>z q.symm) h1,h2⟩
inductive At (ρ:ae) (σ:St):List Nat->List Slot->List Addr->Prop
 |nil:At ρ σ [] [] []
 |cons {i:Nat} {s:Slot} {a:Addr} {is:List Nat} {ss:List Slot} {as:List Addr}:ρ[i]? =some (some s)->s.kind≠0->σ[i]? =some (some (.ref a))->At ρ σ is ss as->At ρ σ (i::is) (s::ss) (a::as)
theorem At.idx {ρ:ae} {σ:St} {is:List Nat} {ss:List Slot} {as:List Addr} (h:At ρ σ is ss as):∀{k i:Nat},is[k]? =some i->∃s a,ss[k]? =some s/\as[k]? =some a/\ρ[i]? =some (some s)/\s.kind≠0/\σ[i]? =some (some (.ref a)):=by
 induction h with
 |nil=>intro k i e;simp at e
 |cons h1 h2 h3 _ ih=>
  intro k i e
  cases k with
  |zero=>cases e;exact⟨_,_,rfl,rfl,h1,h2,h3⟩
  |succ k=>exact ih e
theorem At.lens {ρ:ae} {σ:St} {is:List Nat} {ss:List Slot} {as:List Addr} (h:At ρ σ is ss as):ss.length=is.length/\as.length=is.length:=by
 induction h with
 |nil=>exact⟨rfl,rfl⟩
 |cons _ _ _ _ ih=>exact⟨by simp[ih.1],by simp[ih.2]⟩
theorem At.get {ρ:ae} {σ:St} {is:List Nat} {ss:List Slot} {as:List Addr} (h:At ρ σ is ss as) {k:Nat} {s:Slot} (e:ss[k]? =some s):∃i a,is[k]? =some i/\as[k]? =some a/\ρ[i]? =some (some s)/\s.kind≠0/\σ[i]? =some (some (.ref a)):=by
 have hk:k<is.length:=by rw[<-h.lens.1];exact(List.getElem?_eq_some_iff.mp e).1
 obtain⟨s',a,h1,h2,h3⟩:=h.idx (k:=k) (i:=is[k]) (by simp[hk])
 rw[e]at h1
 cases h1
 exact⟨is[k],a,by simp[hk],h2,h3⟩
noncomputable def dU (H:Hp) (ρ:ae) (σ:St) (i:Nat) (z:Addr):Prop:=
 (∃d,ρ[i]? =some (some (.own d))/\σ[i]? =some (some (.ref z)))\/∃x vds f hs a C dx fs,ρ[i]? =some (some (.cel x vds f hs))/\σ[i]? =some (some (.ref a))/\H a=some (.ins C dx fs)/\(z=a\/z=dx\/fs.lookup f=some (.ref z))
open Classical in
noncomputable def fE (H:Hp) (ρ:ae) (σ:St) (is:List Nat):Hp:=fun z=>if ∃i∈is,dU H ρ σ i z then none else H z
theorem gk {H:Hp} {ρ:ae} {σ:St} {is:List Nat} {z:Addr} {i:Nat} (hi:i∈is) (h:dU H ρ σ i z):fE H ρ σ is z=none:=if_pos ⟨i,hi,h⟩
theorem u8 {H:Hp} {ρ:ae} {σ:St} {is:List Nat} {z:Addr} (h:∀i∈is,¬dU H ρ σ i z):fE H ρ σ is z=H z:=if_neg fun ⟨i,hi,o⟩=>h i hi o
theorem kT {H:Hp} {ρ:ae} {σ:St} {is:List Nat} {z:Addr} {u:HO} (h:fE H ρ σ is z=some u):H z=some u:=by
 unfold fE at h
 split at h
 ·cases h
 ·exact h
section
variable {K:PySem.W.Frag} {c:cA ly} {ρ:ae} {σ:St} {H F:Hp} {i j:Nat} {z:Addr}
theorem RI.celIn (r:RI K c ρ σ H F) {x:Str} {vds:List (Str×D)} {f:Str} {hs:List D} {a:Addr} {C dx:Addr} {fs:List (Str×V)} (h1:ρ[i]? =some (some (.cel x vds f hs))) (h2:σ[i]? =some (some (.ref a))) (h3:H a=some (.ins C dx fs)):
  ∃b,fV K c.H0 H F a dx b x vds f hs/\fs.lookup f=some (.ref b)/\∀(j:Nat) d,ρ[j]? =some (some (.own d))->σ[j]? ≠some (some (.ref b)):=by
 obtain⟨a',dx',b,k1,k2,k3⟩:=r.cel.ex i x vds f hs h1
 rw[h2]at k1
 cases k1
 obtain⟨C',fs',vs,us,g1,g2,g3,g4⟩:=k2.ex
 rw[h3]at g1
 cases g1
 exact⟨b,k2,g3,k3⟩
theorem RI.owns (r:RI K c ρ σ H F) (o:dU H ρ σ i z):c.H0 z=none/\F z=none/\∃u,H z=some u:=by
 rcases o with ⟨d,h1,h2⟩|⟨x,vds,f,hs,a,C,dx,fs,h1,h2,h3,h4⟩
 ·obtain⟨p,u,k1,k2,k3,k4,_⟩:=r.own i d h1
  rw[h2]at k1
  cases k1
  exact⟨k4,k3,u,k2⟩
 ·obtain⟨b,k1,k2,_⟩:=r.celIn h1 h2 h3
  rcases h4 with rfl|rfl|h4
  ·exact⟨k1.za,k1.fa,_,h3⟩
  ·exact⟨k1.zd,k1.fd,_,k1.own⟩
  ·rw[k2]at h4
   cases h4
   obtain⟨C',fs',vs,us,g1,g2,g3,g4,_⟩:=k1.ex
   exact⟨k1.zb,k1.fb,_,g4⟩
theorem RI.owns_inj (r:RI K c ρ σ H F) (o:dU H ρ σ i z) (o':dU H ρ σ j z):i=j:=by
 have oc:∀{i j:Nat},(∃d,ρ[i]? =some (some (.own d))/\σ[i]? =some (some (.ref z)))->(∃x vds f hs a C dx fs,ρ[j]? =some (some (.cel x vds f hs))/\σ[j]? =some (some (.ref a))/\H a=some (.ins C dx fs)/\(z=a\/z=dx\/fs.lookup f=some (.ref z)))->False:=by
  rintro i j ⟨d,h1,h2⟩ ⟨x,vds,f,hs,a,C,dx,fs,k1,k2,k3,k4⟩
  obtain⟨p,u,g1,g2,g3,g4,g5⟩:=r.own i d h1
  rw[h2]at g1
  cases g1
  obtain⟨b,m1,m2,m3⟩:=r.celIn k1 k2 k3
  rcases k4 with rfl|rfl|k4
  ·rw[k3]at g2;cases g2;cases g5
  ·rw[m1.own]at g2;cases g2;cases g5
  ·rw[m2]at k4;cases k4;exact m3 i d h1 h2
 rcases o with h|h
 ·rcases o' with k|k
  ·obtain⟨d,h1,h2⟩:=h
   obtain⟨d',k1,k2⟩:=k
   exact r.dis i j d d' z h1 k1 h2 k2
  ·exact(oc h k).elim
 ·rcases o' with k|k
  ·exact(oc k h).elim
  ·obtain⟨x,vds,f,hs,a,C,dx,fs,h1,_⟩:=h
   obtain⟨x',vds',f',hs',a',C',dx',fs',k1,_⟩:=k
   exact r.cel.one i j x vds f hs _ h1 k1 rfl
end
noncomputable abbrev MC (Hz F:Hp):cA []:=⟨Hz,F,fun _=>none,fun _ _=>False,fun _=>none,fun _=>none⟩
noncomputable def u9 (K:PySem.W.Frag) (Hz F:Hp) (ss:List Slot) (as:List Addr) (H' F':Hp):Prop:=RI K (MC Hz F) (ss.map some) (as.map fun a=>some (.ref a)) H' F'
theorem map_some {α β:Type} {l:List α} {g:α->β} {k:Nat} {b:β} (h:(l.map g)[k]? =some b):∃a,l[k]? =some a/\g a=b:=by
 rw[List.getElem?_map]at h
 cases e:l[k]? with
 |none=>rw[e]at h;cases h
 |some a=>rw[e]at h;exact⟨a,rfl,by simpa using h⟩
theorem gD {α β:Type} {l:List α} {g:α->β} {k:Nat} {a:α} (h:l[k]? =some a):(l.map g)[k]? =some (g a):=by rw[List.getElem?_map,h];rfl
theorem rY {is:List Nat} (nd:is.Nodup) {k k' i:Nat} (h:is[k]? =some i) (h':is[k']? =some i):k=k':=by
 obtain⟨l,e⟩:=List.getElem?_eq_some_iff.mp h
 obtain⟨l',e'⟩:=List.getElem?_eq_some_iff.mp h'
 exact(List.getElem_inj nd).mp (e.trans e'.symm)
section
variable {K:PySem.W.Frag} {c:cA ly} {ρ:ae} {σ:St} {H F H' F':Hp} {is:List Nat} {ss ss':List Slot} {as:List Addr}
theorem RI.split (r:RI K c ρ σ H F) (A:At ρ σ is ss as) (nd:is.Nodup):u9 K (fE H ρ σ is) F ss as H F:=by
 have got:∀{k:Nat} {s:Slot},(ss.map some)[k]? =some (some s)->∃i a,is[k]? =some i/\as[k]? =some a/\ρ[i]? =some (some s)/\s.kind≠0/\σ[i]? =some (some (.ref a)):=fun {k s} h=>by
  obtain⟨s',h1,h2⟩:=map_some h
  cases h2
  exact A.get h1
 have gota:∀{k:Nat} {a:Addr},as[k]? =some a->(as.map fun a=>some (V.ref a))[k]? =some (some (.ref a)):=fun h=>gD h
 have ung:∀{k:Nat} {a a':Addr},as[k]? =some a->(as.map fun a=>some (V.ref a))[k]? =some (some (.ref a'))->a=a':=fun {k a a'} h h'=>by
  rw[gota h]at h';cases h';rfl
 refine⟨⟨r.sub,fun z u e=>kT e,aF.refl _,fun _ h=> .inl h⟩,fun k d h=> ?_,fun k d h=> ?_,fun k d h=> ?_,(fun _ _ e=>by cases e),fun k k' d d' a h h' e e'=> ?_,?_,(fun L h=>by cases h),(fun L h=>by cases h),(fun _ _ e=>by cases e),⟨fun k x vds f hs h=> ?_,fun k k' x vds f hs s h h' hs'=> ?_⟩,(fun L h=>by cases h)⟩
 ·obtain⟨i,a,_,_,_,z,_⟩:=got h;exact absurd rfl z
 ·obtain⟨i,a,h1,h2,h3,h4,h5⟩:=got h
  obtain⟨p,u,k1,k2,k3,k4,k5⟩:=r.own i d h3
  rw[h5]at k1
  cases k1
  exact⟨a,u,gota h2,k2,k3,gk (List.mem_of_getElem? h1) (.inl ⟨d,h3,h5⟩),k5⟩
 ·obtain⟨i,a,_,_,_,z,_⟩:=got h;exact absurd rfl z
 ·obtain⟨i1,a1,h1,h2,h3,h4,h5⟩:=got h
  obtain⟨i2,a2,g1,g2,g3,g4,g5⟩:=got h'
  cases ung h2 e
  cases ung g2 e'
  cases r.dis i1 i2 d d' _ h3 g3 h5 g5
  exact rY nd h1 g1
 ·simp only[List.length_map];rw[A.lens.1,A.lens.2]
 ·obtain⟨i,a,h1,h2,h3,h4,h5⟩:=got h
  obtain⟨a',dx,b,k1,k2,k3⟩:=r.cel.ex i x vds f hs h3
  rw[h5]at k1
  cases k1
  have k2':=k2
  obtain⟨C,fs,vs,us,g1,g2,g3,g4⟩:=k2.ex
  have o:∀z,(z=a\/z=dx\/fs.lookup f=some (.ref z))->fE H ρ σ is z=none:=fun z hz=>gk (List.mem_of_getElem? h1) (.inr ⟨x,vds,f,hs,a,C,dx,fs,h3,h5,g1,hz⟩)
  refine⟨a,dx,b,gota h2,⟨k2.ex,k2.own,k2.fa,k2.fd,k2.fb,o a (.inl rfl),o dx (.inr (.inl rfl)),o b (.inr (.inr g3))⟩,fun k' d h' e=> ?_⟩
  obtain⟨i2,a2,m1,m2,m3,m4,m5⟩:=got h'
  cases ung m2 e
  exact k3 i2 d m3 m5
 ·obtain⟨i1,a1,h1,h2,h3,h4,h5⟩:=got h
  obtain⟨i2,a2,g1,g2,g3,g4,g5⟩:=got h'
  cases r.cel.one i1 i2 x vds f hs s h3 g3 hs'
  exact rY nd h1 g1
theorem rZ {s:Slot} (h:s.kind=2):∃x vds f hs,s= .cel x vds f hs:=by cases s<;>first|exact⟨_,_,_,_,rfl⟩|cases h
theorem RI.join (r:RI K c ρ σ H F) (A:At ρ σ is ss as) (nd:is.Nodup) (m:u9 K (fE H ρ σ is) F ss' as H' F') (hk:ss'.map Slot.kind=ss.map Slot.kind):RI K c (mI ρ is ss') σ H' F':=by
 have hl:ss'.length=is.length:=by rw[<-A.lens.1,<-List.length_map (f:=Slot.kind),hk,List.length_map]
 have kinds:∀{k:Nat} {s:Slot},ss'[k]? =some s->∃s0 i a,is[k]? =some i/\as[k]? =some a/\ρ[i]? =some (some s0)/\s0.kind=s.kind/\s.kind≠0/\σ[i]? =some (some (.ref a)):=fun {k s} h=>by
  have h1:(ss.map Slot.kind)[k]? =some s.kind:=by rw[<-hk];exact gD h
  obtain⟨s0,g1,g2⟩:=map_some h1
  obtain⟨i,a,k1,k2,k3,k4,k5⟩:=A.get g1
  exact⟨s0,i,a,k1,k2,k3,g2,by rw[<-g2];exact k4,k5⟩
 have ms:∀{k:Nat} {s:Slot},ss'[k]? =some s->(ss'.map some)[k]? =some (some s):=fun h=>gD h
 have gota:∀{k:Nat} {a:Addr},as[k]? =some a->(as.map fun a=>some (V.ref a))[k]? =some (some (.ref a)):=fun h=>gD h
 have hz:∀{z:Addr},fE H ρ σ is z=none->c.H0 z=none:=fun {z} e=>by
  unfold fE at e
  split at e
  ·rename_i h
   obtain⟨i,hi,o⟩:=h
   exact(r.owns o).1
  ·exact r.ext.keep.free e
 have kz:∀{z:Addr} {u:HO},H z=some u->(∀i∈is,¬dU H ρ σ i z)->fE H ρ σ is z=some u:=fun h n=>by rw[u8 n];exact h
 have me:=m.ext
 have keepz:∀{z:Addr} {u:HO},H z=some u->(∀i∈is,¬dU H ρ σ i z)->H' z=some u:=fun h n=>me.keep _ _ (kz h n)
 have outz:∀{z:Addr} {u:HO},H z=some u->(∀i∈is,¬dU H ρ σ i z)->F z=none->F' z=none:=fun h n f=>me.out (kz h n) f
 have other:∀{j:Nat} {z:Addr},j∉is->dU H ρ σ j z->∀i∈is,¬dU H ρ σ i z:=fun {j z} hj o i hi o'=>hj (by rw[r.owns_inj o o'];exact hi)
 have putg:∀{j:Nat} {s:Slot},(mI ρ is ss')[j]? =some (some s)->(∃k:Nat,is[k]? =some j/\ss'[k]? =some s)\/(j∉is/\ρ[j]? =some (some s)):=fun h=>mK nd hl h
 have own1:∀{k j:Nat} {d:D},is[k]? =some j->ss'[k]? =some (.own d)->∃a o,σ[j]? =some (some (.ref a))/\as[k]? =some a/\H' a=some o/\F' a=none/\fE H ρ σ is a=none/\gF K F' o d:=fun {k j d} h1 h2=>by
  obtain⟨s0,i,a,k1,k2,k3,k4,k5,k6⟩:=kinds h2
  rw[h1]at k1
  cases k1
  obtain⟨p,u,g1,g2,g3,g4,g5⟩:=m.own k d (ms h2)
  rw[gota k2]at g1
  cases g1
  exact⟨a,u,k6,k2,g2,g3,g4,g5⟩
 have own0:∀{j:Nat} {d:D} {p:Addr} {u:HO},j∉is->ρ[j]? =some (some (.own d))->σ[j]? =some (some (.ref p))->H p=some u->fE H ρ σ is p=some u:=fun hj h1 h2 h3=>kz h3 (other hj (.inl ⟨_,h1,h2⟩))
 refine⟨⟨me.sub,fun z u e=>keepz (r.ext.keep z u e) fun i hi o=>(by rw[(r.owns o).1]at e;cases e),r.ext.grow.trans me.grow,fun z e=>(me.new z e).elim (fun q=>r.ext.new z q) fun q=> .inr (hz q)⟩,fun j d h=> ?_,fun j d h=> ?_,fun j d h=> ?_,r.bh,fun j j' d d' p h h' e e'=> ?_,?_,fun L hL h=> ?_,fun L hL L' hL' h h'=> ?_,r.fm.trans me.grow,⟨fun j x vds f hs h=> ?_,fun j j' x vds f hs s h h' hs'=> ?_⟩,r.pin⟩
 ·rcases putg h with ⟨k,h1,h2⟩|⟨_,h2⟩
  ·obtain⟨_,_,_,_,_,_,_,z,_⟩:=kinds h2;exact absurd rfl z
  ·obtain⟨v,k1,k2⟩:=r.val j d h2;exact⟨v,k1,k2.mono me.grow⟩
 ·rcases putg h with ⟨k,h1,h2⟩|⟨hj,h2⟩
  ·obtain⟨a,o,k1,k2,k3,k4,k5,k6⟩:=own1 h1 h2
   exact⟨a,o,k1,k3,k4,hz k5,k6⟩
  ·obtain⟨p,u,k1,k2,k3,k4,k5⟩:=r.own j d h2
   have n:=other hj (.inl ⟨d,h2,k1⟩)
   exact⟨p,u,k1,keepz k2 n,outz k2 n k3,k4,k5.mono me.grow⟩
 ·rcases putg h with ⟨k,h1,h2⟩|⟨_,h2⟩
  ·obtain⟨_,_,_,_,_,_,_,z,_⟩:=kinds h2;exact absurd rfl z
  ·exact r.bor j d h2
 ·rcases putg h with ⟨k,h1,h2⟩|⟨hj,h2⟩
  ·obtain⟨a,o,k1,k2,k3,k4,k5,k6⟩:=own1 h1 h2
   rw[k1]at e
   cases e
   rcases putg h' with ⟨k',h1',h2'⟩|⟨hj',h2'⟩
   ·obtain⟨a',o',k1',k2',k3',k4',k5',k6'⟩:=own1 h1' h2'
    rw[k1']at e'
    cases e'
    have:=m.dis k k' d d' p (ms h2) (ms h2') (gota k2) (gota k2')
    subst this
    rw[h1]at h1'
    exact Option.some.inj h1'
   ·obtain⟨p',u,g1,g2,g3,g4,g5⟩:=r.own j' d' h2'
    rw[e']at g1
    cases g1
    rw[own0 hj' h2' e' g2]at k5
    cases k5
  ·rcases putg h' with ⟨k',h1',h2'⟩|⟨hj',h2'⟩
   ·obtain⟨a',o',k1',k2',k3',k4',k5',k6'⟩:=own1 h1' h2'
    rw[k1']at e'
    cases e'
    obtain⟨p',u,g1,g2,g3,g4,g5⟩:=r.own j d h2
    rw[e]at g1
    cases g1
    rw[own0 hj h2 e g2]at k5'
    cases k5'
   ·exact r.dis j j' d d' p h2 h2' e e'
 ·rw[mJ];exact r.len
 ·rcases putg h with ⟨k,h1,h2⟩|⟨hj,h2⟩
  ·obtain⟨_,_,_,_,_,_,_,z,_⟩:=kinds h2;exact absurd rfl z
  ·obtain⟨a,dx,fs,k0,k1,k2,k3,k4,k5,k6⟩:=r.obj L hL h2
   have no:∀{z:Addr} {u:HO},H z=some u->(∀d,¬gF K F u d)->∀i∈is,¬dU H ρ σ i z:=fun {z u} hz nr i hi o=>by
    rcases o with ⟨d,g1,g2⟩|⟨x,vds,f,hs,a,C,dx,fs,g1,_⟩
    ·obtain⟨p,u',q1,q2,_,_,q5⟩:=r.own i d g1
     rw[g2]at q1
     cases q1
     rw[hz]at q2
     cases q2
     exact nr d q5
    ·exact hj (by rw[<-r.cel.one i L.x x vds f hs _ g1 h2 rfl];exact hi)
   have na:=no k2 (fun d q=>by cases q)
   have nd:=no k3 (fun d q=>by cases q)
   exact⟨a,dx,fs,k0,k1,keepz k2 na,keepz k3 nd,outz k2 na k4,outz k3 nd k5,k6⟩
 ·refine r.odis L hL L' hL' ?_ ?_
  ·rcases putg h with ⟨k,h1,h2⟩|⟨_,h2⟩
   ·obtain⟨_,_,_,_,_,_,_,z,_⟩:=kinds h2;exact absurd rfl z
   ·exact h2
  ·rcases putg h' with ⟨k,h1,h2⟩|⟨_,h2⟩
   ·obtain⟨_,_,_,_,_,_,_,z,_⟩:=kinds h2;exact absurd rfl z
   ·exact h2
 ·rcases putg h with ⟨k,h1,h2⟩|⟨hj,h2⟩
  ·obtain⟨s0,i,a,k1,k2,k3,k4,k5,k6⟩:=kinds h2
   rw[h1]at k1
   cases k1
   obtain⟨a',dx,b,g1,g2,g3⟩:=m.cel.ex k x vds f hs (ms h2)
   rw[gota k2]at g1
   cases g1
   refine⟨a,dx,b,k6,⟨g2.ex,g2.own,g2.fa,g2.fd,g2.fb,hz g2.za,hz g2.zd,hz g2.zb⟩,fun j' d h' e=> ?_⟩
   rcases putg h' with ⟨k',h1',h2'⟩|⟨hj',h2'⟩
   ·obtain⟨a',o',q1,q2,_⟩:=own1 h1' h2'
    rw[q1]at e
    cases e
    exact g3 k' d (ms h2') (gota q2)
   ·obtain⟨p',u,q1,q2,_⟩:=r.own j' d h2'
    rw[e]at q1
    cases q1
    have:fE H ρ σ is b=none:=g2.zb
    rw[own0 hj' h2' e q2]at this
    cases this
  ·obtain⟨a,dx,b,g1,g2,g3⟩:=r.cel.ex j x vds f hs h2
   have g2':=g2
   obtain⟨C,fs,vs,us,q1,q2,q3,q4,q5,q6,q7⟩:=g2.ex
   have ow:∀z,(z=a\/z=dx\/fs.lookup f=some (.ref z))->∀i∈is,¬dU H ρ σ i z:=fun z hz=>other hj (.inr ⟨x,vds,f,hs,a,C,dx,fs,h2,g1,q1,hz⟩)
   have na:=ow a (.inl rfl)
   have nd:=ow dx (.inr (.inl rfl))
   have nb:=ow b (.inr (.inr q3))
   refine⟨a,dx,b,g1,⟨⟨C,fs,vs,us,keepz q1 na,q2,q3,keepz q4 nb,q5.mono me.grow,q6.mono me.grow,q7⟩,keepz g2.own nd,outz q1 na g2.fa,outz g2.own nd g2.fd,outz q4 nb g2.fb,g2.za,g2.zd,g2.zb⟩,fun j' d h' e=> ?_⟩
   rcases putg h' with ⟨k',h1',h2'⟩|⟨hj',h2'⟩
   ·obtain⟨a',o',w1,w2,w3,w4,w5,w6⟩:=own1 h1' h2'
    rw[w1]at e
    cases e
    rw[kz q4 nb]at w5
    cases w5
   ·exact g3 j' d h2' e
 ·have celk:∀{k:Nat} {s:Slot},ss'[k]? =some s->s.single=true->∃x vds f hs i,is[k]? =some i/\ρ[i]? =some (some (.cel x vds f hs)):=fun {k s} h hs=>by
   obtain⟨s0,i,a,k1,k2,k3,k4,k5,k6⟩:=kinds h
   have:s.kind=2:=by cases s<;>first|rfl|exact absurd rfl k5|cases hs
   rw[this]at k4
   obtain⟨x,vds,f,hs,rfl⟩:=rZ k4
   exact⟨x,vds,f,hs,i,k1,k3⟩
  rcases putg h with ⟨k,h1,h2⟩|⟨hj,h2⟩
  ·rcases putg h' with ⟨k',h1',h2'⟩|⟨hj',h2'⟩
   ·have:=m.cel.one k k' x vds f hs s (ms h2) (ms h2') hs'
    subst this
    rw[h1]at h1'
    exact Option.some.inj h1'
   ·obtain⟨x0,vds0,f0,hs0,i,g1,g2⟩:=celk h2 rfl
    have:=r.cel.one i j' x0 vds0 f0 hs0 s g2 h2' hs'
    subst this
    exact absurd (List.mem_of_getElem? g1) hj'
  ·rcases putg h' with ⟨k',h1',h2'⟩|⟨hj',h2'⟩
   ·obtain⟨x0,vds0,f0,hs0,i,g1,g2⟩:=celk h2' hs'
    have:=r.cel.one j i x vds f hs _ h2 g2 rfl
    subst this
    exact absurd (List.mem_of_getElem? g1) hj
   ·exact r.cel.one j j' x vds f hs s h2 h2' hs'
end
end L2.Pu
namespace L2.Pu
open PySem PySem.Spec PyProof.Rows
variable {ly:List du}
noncomputable def bT:Nat->ae->Option (List Slot)
 |0,_=>some []
 |n+1,some s::ρ=>(bT n ρ).map fun t=>s::t
 |_+1,_=>none
theorem kU:∀{n:Nat} {ρ:ae} {ss:List Slot},bT n ρ=some ss->ss.length=n/\∀(k:Nat) s,ss[k]? =some s->ρ[k]? =some (some s)
 |0,ρ,ss,h=>by cases h;exact⟨rfl,fun k s e=>by simp at e⟩
 |n+1,some s::ρ,ss,h=>by
  unfold bT at h
  cases e:bT n ρ with
  |none=>rw[e]at h;cases h
  |some t=>
   rw[e]at h
   cases h
   obtain⟨h1,h2⟩:=kU e
   refine⟨by simp[h1],fun k s' e'=> ?_⟩
   cases k with
   |zero=>cases e';rfl
   |succ k=>exact h2 k s' e'
 |n+1,none::ρ,ss,h=>by cases h
 |n+1,[],ss,h=>by cases h
noncomputable def eh (n:Nat) (ss:List Slot) (ds:List D):ae:=ss.map some++cf n ds
noncomputable def iq (nm k n:Nat) (g:ae->R br) (ss:List Slot) (ds:List D):R (D×List Slot):=if ss.length=nm/\ds.length=k then (match g (eh n ss ds)with
 | .ok (.retc d ρ)=>(match bT nm ρ with|some ss'=> .ok (d,ss')|none=> .bad)
 | .ok (.nx ρ)=>(match bT nm ρ with|some ss'=> .ok (.non,ss')|none=> .bad)
 | .err z ρ=> .err z ρ
 |_=> .bad)else .bad
noncomputable def xK (K:PySem.W.Frag) (nm n:Nat) (m:List Slot->List D->R (D×List Slot)):Sp:=fun vs H Q E=>∃F as ws ss ds Hz,vs=as.map V.ref++ws/\as.length=nm/\ws.length=n/\u9 K Hz F ss as H F/\(∀s∈ss,s.kind≠0)/\Reps K F ws ds/\match m ss ds with
 | .ok r=>∀v H' F',u9 K Hz F r.2 as H' F'->cI K F' v r.1->Q v H'
 | .err z ρe=>∃ss',bT nm ρe=some ss'/\∀ec q H' F',cX K z ec->u9 K Hz F ss' as H' F'->E ec q H'
 | .bad=>False
theorem RI.restrict {K:PySem.W.Frag} {c:cA ly} {ρ:ae} {σ:St} {H F:Hp} {nm:Nat} {ss:List Slot} {as:List Addr} (r:RI K c ρ σ H F) (hB:c.B=fun _=>none) (ht:bT nm ρ=some ss) (hl:as.length=nm) (hσ:∀(j:Nat) a,as[j]? =some a->σ[j]? =some (some (.ref a))):u9 K c.H0 c.F0 ss as H F:=by
 obtain⟨t1,t2⟩:=kU ht
 have up:∀{k:Nat} {s:Slot},(ss.map some)[k]? =some (some s)->ρ[k]? =some (some s)/\k<as.length:=fun {k s} h=>by
  obtain⟨s',h1,h2⟩:=map_some h
  cases h2
  exact⟨t2 k s h1,by rw[hl,<-t1];exact(List.getElem?_eq_some_iff.mp h1).1⟩
 have at_:∀{k:Nat},k<as.length->(as.map fun a=>some (V.ref a))[k]? =σ[k]? :=fun {k} h=>by
  have:as[k]? =some as[k]:=List.getElem?_eq_getElem h
  rw[hσ k _ this,gD this]
 refine⟨r.ext,fun k d h=> ?_,fun k d h=> ?_,fun k d h=> ?_,(fun _ _ e=>by cases e),fun k k' d d' a h h' e e'=> ?_,?_,(fun L h=>by cases h),(fun L h=>by cases h),(fun _ _ e=>by cases e),⟨fun k x vds f hs h=> ?_,fun k k' x vds f hs s h h' hs'=> ?_⟩,(fun L h=>by cases h)⟩
 ·obtain⟨h1,h2⟩:=up h
  rw[at_ h2];exact r.val k d h1
 ·obtain⟨h1,h2⟩:=up h
  rw[at_ h2];exact r.own k d h1
 ·obtain⟨h1,h2⟩:=up h
  obtain⟨a,o,_,z,_⟩:=r.bor k d h1
  rw[hB]at z
  cases z
 ·obtain⟨h1,h2⟩:=up h
  obtain⟨g1,g2⟩:=up h'
  rw[at_ h2]at e
  rw[at_ g2]at e'
  exact r.dis k k' d d' a h1 g1 e e'
 ·simp only[List.length_map];rw[t1,hl]
 ·obtain⟨h1,h2⟩:=up h
  obtain⟨a,dx,b,k1,k2,k3⟩:=r.cel.ex k x vds f hs h1
  refine⟨a,dx,b,by rw[at_ h2];exact k1,k2,fun j d hj e=> ?_⟩
  obtain⟨g1,g2⟩:=up hj
  rw[at_ g2]at e
  exact k3 j d g1 e
 ·exact r.cel.one k k' x vds f hs s (up h).1 (up h').1 hs'
theorem qd {K:PySem.W.Frag} {N:List Str} {Hz F H:Hp} {ss:List Slot} {as:List Addr} {ws:List V} {ds:List D} {Er:Str->ae->Prop} {nm m:Nat} (mr:u9 K Hz F ss as H F) (hk:∀s∈ss,s.kind≠0) (r:Reps K F ws ds) (hl:as.length=nm) (hN:N.length=nm+m) (hw:ws.length<=m)
  (hly:∀L∈ly,L.x<nm):RI K (⟨Hz,F,fun _=>none,Er,fun j=>as[j]?,fun _=>none⟩:cA ly) (eh m ss ds) (cE N (as.map V.ref++ws)) H F:=by
 have hsl:ss.length=as.length:=by have:=mr.len;simpa using this
 have pre:∀{i:Nat},i<as.length->(cE N (as.map V.ref++ws))[i]? =(as.map fun a=>some (V.ref a))[i]? :=fun {i} h=>by
  unfold cE
  rw[List.map_append,List.append_assoc,List.getElem?_append_left (by simpa using h),List.map_map];rfl
 have hv:∀{i:Nat} {sl:Slot},(eh m ss ds)[i]? =some (some sl)->((ss.map some)[i]? =some (some sl)/\i<as.length/\sl.kind≠0)\/∃(j:Nat) (d:D),i=as.length+j/\ds[j]? =some d/\sl= .val d:=fun {i sl} h=>by
  unfold eh at h
  rw[List.getElem?_append]at h
  split at h
  ·rename_i hi
   obtain⟨s',h1,h2⟩:=map_some h
   cases h2
   exact .inl ⟨h,by rw[<-hsl];simpa using hi,hk _ (List.mem_of_getElem? h1)⟩
  ·rename_i hi
   refine .inr ⟨i - as.length,?_⟩
   have e:(ss.map (some:Slot->Option Slot)).length=as.length:=by simp[hsl]
   rw[e]at h
   unfold cf at h
   rw[List.getElem?_append]at h
   split at h
   ·rw[List.getElem?_map]at h
    cases e2:ds[i - as.length]? with
    |none=>rw[e2]at h;cases h
    |some d=>rw[e2]at h;simp at h;exact⟨d,by simp at hi;omega,rfl,h.symm⟩
   ·rw[List.getElem?_replicate]at h
    split at h<;>simp at h
 have one_:∀{i:Nat} {sl:Slot},(eh m ss ds)[i]? =some (some sl)->(∀d,sl≠ .val d)->(ss.map some)[i]? =some (some sl)/\i<as.length:=fun h n=>by
  rcases hv h with ⟨a,b,_⟩|⟨j,d,_,_,z⟩
  ·exact⟨a,b⟩
  ·exact absurd z (n d)
 refine⟨mr.ext,fun i d h=> ?_,fun i d h=> ?_,fun i d h=> ?_,(fun _ _ e=>by cases e),fun i j d d' a h h' e e'=> ?_,?_,fun L hL h=> ?_,fun L hL L' hL' h _=> ?_,(fun _ _ e=>by cases e),⟨fun i x vds f hs h=> ?_,fun i j x vds f hs s h h' hs'=> ?_⟩,fun L hL a h=> ?_⟩
 ·rcases hv h with ⟨a,b,z⟩|⟨j,d',rfl,e,z⟩
  ·exact absurd rfl z
  ·cases z
   obtain⟨v,h1,h2⟩:=r.get e
   refine⟨v,?_,h2⟩
   unfold cE
   have hj:j<ws.length:=(List.getElem?_eq_some_iff.mp h1).1
   rw[List.map_append,List.append_assoc,List.getElem?_append_right (by simp),List.getElem?_append_left (by simp;omega)]
   simp[h1]
 ·obtain⟨h1,h2⟩:=one_ h (fun d' z=>by cases z)
  rw[pre h2];exact mr.own i d h1
 ·obtain⟨h1,h2⟩:=one_ h (fun d' z=>by cases z)
  obtain⟨a,o,_,z,_⟩:=mr.bor i d h1
  cases z
 ·obtain⟨h1,h2⟩:=one_ h (fun d' z=>by cases z)
  obtain⟨g1,g2⟩:=one_ h' (fun d' z=>by cases z)
  rw[pre h2]at e
  rw[pre g2]at e'
  exact mr.dis i j d d' a h1 g1 e e'
 ·have:=r.length
  simp only[eh,cf,cE,List.length_append,List.length_map,List.length_replicate,hsl]
  omega
 ·rcases hv h with ⟨a,b,z⟩|⟨j,d',_,_,z⟩
  ·exact absurd rfl z
  ·cases z
 ·rcases hv h with ⟨a,b,z⟩|⟨j,d',_,_,z⟩
  ·exact absurd rfl z
  ·cases z
 ·obtain⟨h1,h2⟩:=one_ h (fun d' z=>by cases z)
  obtain⟨a,dx,b,k1,k2,k3⟩:=mr.cel.ex i x vds f hs h1
  refine⟨a,dx,b,by rw[pre h2];exact k1,k2,fun j d hj e=> ?_⟩
  obtain⟨g1,g2⟩:=one_ hj (fun d' z=>by cases z)
  rw[pre g2]at e
  exact k3 j d g1 e
 ·exact mr.cel.one i j x vds f hs s (one_ h (fun d' z=>by cases z)).1 (one_ h' (fun d' z=>by subst z;cases hs')).1 hs'
 ·have:=hly L hL
  rw[pre (by omega)]
  exact gD (show as[L.x]? =some a from h)
theorem xt {P:Program} {w:World} {K:PySem.W.Frag} {mg:Str->Option Value} {base:Heap} {x qual:Str} {st:Stmt} {f:Addr} {fd:FuncData} {N ps:List Str} {k nm n m:Nat} {g:ae->R br} (F:oG K x qual st f fd) (S:aK N ps (ag st))
  (hn:ps.length=nm+n) (hm:N.length=nm+m) (hnm:n<=m) (hly:∀j,j<nm->∃L∈ly,L.x=j) (hly2:∀L∈ly,L.x<nm)
  (hbody:∀(cdv:Value) (A:Around) (outer:List Env) (s:Shared) (H:Hp) (E:XK),bL k (A.deeper (envOfC qual (ag st) s.heap.objs.size f cdv))->
   fq ly (eD (gB P w) P w K mg base N qual (ag st) f cdv A outer s H E) (aH st) g):dc P w K mg base (gB P w) (k+1) f fd ps (xK K nm n (iq nm n m g)):=by
 refine xH F S (fun vs H Q E h=> ?_) (fun cdv A outer s H vs Q E hr h=> ?_)
 ·obtain⟨Fz,as,ws,ss,ds,Hz,rfl,h1,h2,_⟩:=h
  rw[List.length_append,List.length_map,h1,h2,hn]
 ·obtain⟨Fz,as,ws,ss,ds,Hz,rfl,h1,h2,mr,hk,r,w⟩:=h
  let c:cA ly:=⟨Hz,Fz,fun _=>none,fun z ρe=>∃ss',bT nm ρe=some ss'/\∀ec q H' F',cX K z ec->u9 K Hz Fz ss' as H' F'->E ec q H',fun j=>as[j]?,fun _=>none⟩
  have back:∀{ρ σ H' F' ss'},RI K c ρ σ H' F'->bT nm ρ=some ss'->u9 K Hz Fz ss' as H' F':=fun {ρ σ H' F' ss'} ri t=>ri.restrict rfl t h1 fun j a e=>by
   have hj:j<nm:=by rw[<-h1];exact(List.getElem?_eq_some_iff.mp e).1
   obtain⟨L,hL,rfl⟩:=hly j hj
   exact ri.pin L hL a e
  refine⟨_,hbody cdv A outer s H E hr ⟨c,lA fun z ρ er ec a H' F' σ hc ri=> ?_⟩,?_⟩
  ·obtain⟨ss',t,q⟩:=er
   exact q ec a H' F' hc (back ri t)
  refine⟨Fz,eh m ss ds,qd mr hk r h1 hm (by omega) hly2,?_⟩
  have hd:ss.length=nm/\ds.length=n:=⟨by have:=mr.len;simp only[List.length_map]at this;omega,by rw[<-r.length];exact h2⟩
  unfold iq at w
  rw[if_pos hd]at w
  cases e:g (eh m ss ds)with
  |bad=>rw[e]at w;exact w.elim
  |err z ρ=>rw[e]at w;exact w
  |ok o=>
   rw[e]at w
   cases o with
   |retc d ρ=>
    intro v σ' H' F' _ ri' rv
    dsimp only at w
    cases t:bT nm ρ with
    |none=>rw[t]at w;exact w.elim
    |some ss'=>rw[t]at w;exact w v H' F' (back ri' t) rv
   |nx ρ=>
    intro σ' H' F' _ ri'
    dsimp only at w
    cases t:bT nm ρ with
    |none=>rw[t]at w;exact w.elim
    |some ss'=>rw[t]at w;exact w .non H' F' (back ri' t) .non
   |_=>exact w.elim
structure xu (P:Program) (w:World) (K:PySem.W.Frag) (mg:Str->Option Value) (base:Heap) (k:Nat) (x:Str) (nm n:Nat) (m:List Slot->List D->R (D×List Slot)):Prop where
 ex:∃f fd ps,dc P w K mg base (gB P w) k f fd ps (xK K nm n m)/\mg x=some (.ref f)/\PySem.W.keepIn K (.ref f)=true/\cU K fd ps []
structure fM (P:Program) (w:World) (K:PySem.W.Frag) (mg:Str->Option Value) (base:Heap) (k:Nat) (cls mm:Str) (n:Nat) (m:List Slot->List D->R (D×List Slot)):Prop where
 ex:∃C f fd ps,dc P w K mg base (gB P w) k f fd ps (xK K 1 n m)/\gi K cls C/\nu K C mm f/\cU K fd ps []
section
variable {P:Program} {w:World} {K:PySem.W.Frag} {mg:Str->Option Value} {base:Heap}
theorem vS {x:Str} {st:Stmt} {N ps:List Str} {k nm n m:Nat} {g:ae->R br} (ly:List du) (A:cG K mg x st ps) (S:aK N ps (ag st)) (hn:ps.length=nm+n) (hm:N.length=nm+m) (hnm:n<=m) (hly:∀j,j<nm->∃L∈ly,L.x=j) (hly2:∀L∈ly,L.x<nm)
  (hbody:∀(f:Addr) (cdv:Value) (A:Around) (outer:List Env) (s:Shared) (H:Hp) (E:XK),bL k (A.deeper (envOfC x (ag st) s.heap.objs.size f cdv))->
   fq ly (eD (gB P w) P w K mg base N x (ag st) f cdv A outer s H E) (aH st) g):xu P w K mg base (k+1) x nm n (iq nm n m g):=by
 obtain⟨f,fd,F,h1,h2⟩:=A.ex
 exact⟨f,fd,ps,xt F S hn hm hnm hly hly2 fun cdv A outer s H E hr=>hbody f cdv A outer s H E hr,h1,F.kp,h2⟩
theorem jY {cls mm qual:Str} {st:Stmt} {N ps:List Str} {k n m:Nat} {g:ae->R br} (A:d7 K cls mm qual st ps) (S:aK N ps (ag st)) (hn:ps.length=1+n) (hm:N.length=1+m) (hnm:n<=m)
  (hbody:∀(f:Addr) (cdv:Value) (A:Around) (outer:List Env) (s:Shared) (H:Hp) (E:XK),bL k (A.deeper (envOfC qual (ag st) s.heap.objs.size f cdv))->
   fq [⟨0,0,[]⟩] (eD (gB P w) P w K mg base N qual (ag st) f cdv A outer s H E) (aH st) g):fM P w K mg base (k+1) cls mm n (iq 1 n m g):=by
 obtain⟨C,f,fd,F,h1,h2,h3⟩:=A.ex
 exact⟨C,f,fd,ps,xt F S hn hm hnm (fun j hj=>⟨_,List.mem_singleton.mpr rfl,by show (0:Nat)=j;omega⟩) (fun L hL=>by rw[List.mem_singleton.mp hL];exact Nat.zero_lt_one) fun cdv A outer s H E hr=>hbody f cdv A outer s H E hr,h1,h2,h3⟩
end
noncomputable def fQ (is:List Nat) (m:List Slot->List D->R (D×List Slot)) (n:Nat) (fs:ae->R (List D)):ae->R (D×ae):=fun ρ=>match d8 ρ is with
 |some ss=>if (ss.all fun s=>s.kind != 0)=true/\is.Nodup then (fs ρ>>=fun ds=>if ds.length=n then (match m ss ds with
  | .ok r=>if r.2.map Slot.kind=ss.map Slot.kind then .ok (r.1,mI ρ is r.2)else .bad
  | .err z ρe=>(match bT is.length ρe with
   |some ss'=>if ss'.map Slot.kind=ss.map Slot.kind then .err z (mI ρ is ss')else .bad
   |none=> .bad)
  | .bad=> .bad)else .bad)else .bad
 |none=> .bad
noncomputable def tX (K:PySem.W.Frag) (c:cA ly) (fx:ae->R (D×ae)):TE:=fun σ H Q=>∃F ρ,RI K c ρ σ H F/\aD c (fx ρ) fun r=>∀v H' F',aF F F'->RI K c r.2 σ H' F'->cI K F' v r.1->Q v H'
noncomputable def PX (ly:List du) (X:Cx) (e:Expr) (fx:ae->R (D×ae)):Prop:=∀c:fW ly X,PE X e (tX X.K c.1 fx)
theorem At.of {K:PySem.W.Frag} {c:cA ly} {ρ:ae} {σ:St} {H F:Hp} (r:RI K c ρ σ H F):∀{is:List Nat} {ss:List Slot},d8 ρ is=some ss->(ss.all fun s=>s.kind != 0)=true->∃as,At ρ σ is ss as
 |[],ss,h,_=>by cases h;exact⟨[], .nil⟩
 |i::is,ss,h,k=>by
  unfold d8 at h
  split at h
  ·rename_i s hs
   cases e:d8 ρ is with
   |none=>rw[e]at h;cases h
   |some t=>
    rw[e]at h
    cases h
    rw[List.all_cons,Bool.and_eq_true]at k
    obtain⟨as,A⟩:=At.of r e k.2
    have hk:s.kind≠0:=by simpa using k.1
    have:∃a,σ[i]? =some (some (.ref a)):=by
     cases s with
     |own d=>obtain⟨a,o,h1,_⟩:=r.own i d hs;exact⟨a,h1⟩
     |cel x vds f hs'=>obtain⟨a,dx,b,h1,_⟩:=r.cel.ex i x vds f hs' hs;exact⟨a,h1⟩
     |_=>exact absurd rfl hk
    obtain⟨a,ha⟩:=this
    exact⟨a::as, .cons hs hk ha A⟩
  ·cases h
section
variable {X:Cx} {e:Expr} {es:List Expr} {fs:ae->R (List D)} {is:List Nat} {p pos apos:Pos} {x m:Str}
theorem r_ {c:fW ly X} {mf:List Slot->List D->R (D×List Slot)} {n:Nat} {ρ:ae} {σ:St} {H F:Hp} {Q:VK} (ri:RI X.K c.1 ρ σ H F) (w:aD c.1 (fQ is mf n fs ρ) fun r=>∀v H' F',aF F F'->RI X.K c.1 r.2 σ H' F'->cI X.K F' v r.1->Q v H'):
  ∃ss as,At ρ σ is ss as/\we X.K c.1 fs σ H fun vs H1=>xK X.K is.length n mf (as.map V.ref++vs) H1 Q (wd X c.1 σ):=by
 unfold fQ at w
 split at w
 ·rename_i ss hs
  split at w
  ·rename_i hk
   obtain⟨hk,nd⟩:=hk
   obtain⟨as,A⟩:=At.of ri hs hk
   refine⟨ss,as,A,F,ρ,ri,(aD.bind.mp w).imp fun ds _ w1 vs H1 F1 e1 r1=> ?_⟩
   split at w1
   ·rename_i hl
    have r':=ri.step e1
    refine⟨F1,as,vs,ss,ds,fE H1 ρ σ is,rfl,A.lens.2,by rw[r1.length];exact hl,r'.split A nd,fun s hs'=>by have:=List.all_eq_true.mp hk s hs';simpa using this,r1,?_⟩
    split at w1
    ·rename_i r hr
     split at w1
     ·rename_i hk2
      intro v H' F' mr rv
      exact w1 v H' F' (e1.grow.trans mr.ext.grow) (r'.join A nd mr hk2) rv
     ·exact w1.elim
    ·rename_i z ρe hr
     split at w1
     ·rename_i ss' ht
      split at w1
      ·rename_i hk2
       exact⟨ss',ht,fun ec q H' F' hc mr=>⟨z,_,F',hc,r'.join A nd mr hk2,w1⟩⟩
      ·exact w1.elim
     ·exact w1.elim
    ·exact w1.elim
   ·exact w1.elim
  ·exact w.elim
 ·exact w.elim
noncomputable def o1:List Nat->TA->TA
 |[],t=>t
 |i::is,t=>ur (qv i) (o1 is t)
theorem kW {t:TA} {ρ:ae} {σ:St} {H:Hp}:∀{is:List Nat} {ss:List Slot} {as:List Addr} {Q:List V->Hp->Prop},At ρ σ is ss as->t σ H (fun vs H1=>Q (as.map V.ref++vs) H1)->o1 is t σ H Q
 |[],_,_,Q, .nil,h=>h
 |i::is,_,_,Q, .cons h1 h2 h3 A,h=>⟨_,h3,kW A h⟩
noncomputable def xL (ly:List du) (X:Cx) (es:List Expr) (is:List Nat) (fs:ae->R (List D)):Prop:=∀c:fW ly X,PA X es (o1 is (we X.K c.1 fs))
theorem vT (h:ng ly X es fs):xL ly X es [] fs:=fun c=>h c
theorem ua (i:Nat) (h:xL ly X es is fs) (hN:X.N[i]? =some x:=by rfl) (hv:kh X.env.scope x:=by first|exact Or.inl rfl|exact Or.inr (Or.inl rfl)|exact Or.inr (Or.inr rfl)) (hd:(x==("__debug__":Str))=false:=by decide)
  (hcd:(x==("__classdict__":Str))=false:=by decide) (hs:starEach (.Name x p::es) X.env=(false,eval (.Name x p) X.env)::starEach es X.env:=by rfl):xL ly X (.Name x p::es) (i::is) fs:=fun c=>bP (pv i hN hv hd hcd) (h c) hs
theorem yt {k n:Nat} {mf:List Slot->List D->R (D×List Slot)} (G:xu X.prog X.w X.K X.mg X.base k x is.length n mf) (hr:bL k X.A) (ha:xL ly X (e::es) is fs) (hg:Gl X x:=by rfl) (hdb:(x==("__debug__":Str))=false:=by decide)
  (he:starEach (e::es) X.env=(false,eval e X.env)::starEach es X.env:=by rfl) (hpl:(backTo pos (starEach es X.env)).any (·.1)=false:=by rfl):PX ly X (.Call (.Name x p) (e::es) [] pos) (fQ is mf n fs):=fun c=>by
 obtain⟨f,fd,ps,h1,h2,h3,h4⟩:=G.ex
 refine PE.weak (ou h1 hr hg h2 h3 h4 .nil (jK c) (ha c) hdb he hpl) fun σ H Q q=> ?_
 obtain⟨F,ρ,ri,w⟩:=q
 obtain⟨ss,as,A,t⟩:=r_ ri w
 refine kW A ?_
 obtain⟨F0,ρ0,ri0,w0⟩:=t
 exact⟨F0,ρ0,ri0,w0.imp fun ds _ k vs H1 F1 e1 r1=>by dsimp only;rw[List.append_nil];exact k vs H1 F1 e1 r1⟩
noncomputable def iR (i:Nat) (cls m:Str) (fx:ae->R (D×ae)):ae->R (D×ae):=fun ρ=>match ρ[i]? with
 |some (some (.cel y vds f hs))=>if y=cls/\m≠f/\vds.lookup m=none then fx ρ else .bad
 |_=> .bad
theorem ub {c:fW ly X} {i:Nat} {cls:Str} {fx:ae->R (D×ae)} {ρ:ae} {σ:St} {H F:Hp} {C:Addr} {P:D×ae->Prop} (T:gi X.K cls C) (ri:RI X.K c.1 ρ σ H F) (w:aD c.1 (iR i cls m fx ρ) P):
  ∃a dx fs,σ[i]? =some (some (.ref a))/\H a=some (.ins C dx fs)/\fs.lookup m=none/\aD c.1 (fx ρ) P:=by
 unfold iR at w
 split at w
 ·rename_i y vds f hs hi
  split at w
  ·rename_i hc
   obtain⟨rfl,h1,h2⟩:=hc
   obtain⟨a,dx,b,k1,k2,k3⟩:=ri.cel.ex i y vds f hs hi
   obtain⟨C',fs,vs,us,g1,g2,g3,g4,g5,g6,g7,g8,_⟩:=k2.ex
   have:C'=C:=by have:=T.ns;rw[g2]at this;cases this;rfl
   subst this
   refine⟨a,dx,fs,k1,g1,?_,w⟩
   cases q:fs.lookup m with
   |none=>rfl
   |some v=>
    rcases g8 m v q with z|z
    ·exact absurd z h1
    ·rw[g6.names]at z
     exact absurd z (ef h2)
  ·exact w.elim
 ·exact w.elim
theorem lL (i:Nat) {cls y:Str} {py:Pos} {k n:Nat} {mf:List Slot->List D->R (D×List Slot)} {pl:Sem Bool} (G:fM X.prog X.w X.K X.mg X.base k cls m n mf) (hr:bL k X.A) (ha:ng ly X (e::es) fs)
  (hN:X.N[i]? =some y:=by rfl) (hv:kh X.env.scope y:=by first|exact Or.inl rfl|exact Or.inr (Or.inl rfl)|exact Or.inr (Or.inr rfl)) (hd:(y==("__debug__":Str))=false:=by decide) (hcd:(y==("__classdict__":Str))=false:=by decide)
  (hst:starEach (e::es) X.env=(false,eval e X.env)::starEach es X.env:=by rfl) (hpl:(backTo pos (starEach es X.env)).any (·.1)=false:=by rfl)
  (ht:eval (.Call (.Attribute (.Name y py) m apos) (e::es) [] pos) X.env=(do
   let ov<-eval (.Name y py) X.env
   standAt apos.atName
   let (f,first)<-holding [ov] (getMethod ov m pl)
   callWith pos f first (backTo pos (starEach (e::es) X.env)) (backToKw pos (keywordEach [] X.env))):=by rfl):
  PX ly X (.Call (.Attribute (.Name y py) m apos) (e::es) [] pos) (iR i cls m (fQ [i] mf n fs)):=fun c=>by
 obtain⟨C,f,fd,ps,h1,h2,h3,h4⟩:=G.ex
 refine PE.weak (oy (pv i hN hv hd hcd) h2.cl h3 h1 hr h4 .nil (jK c) (ha c) hst hpl ht) fun σ H Q q=> ?_
 obtain⟨F,ρ,ri,w⟩:=q
 obtain⟨a,dx,fs',k1,k2,k3,w⟩:=ub h2 ri w
 obtain⟨ss,as,A,t⟩:=r_ ri w
 cases A with
 |cons q1 q2 q3 A0=>
  cases A0
  rw[k1]at q3
  cases q3
  refine⟨.ref a,k1,a,dx,fs',rfl,k2,k3,?_⟩
  obtain⟨F0,ρ0,ri0,w0⟩:=t
  exact⟨F0,ρ0,ri0,w0.imp fun ds _ k vs H1 F1 e1 r1=>by dsimp only;rw[List.append_nil];exact k vs H1 F1 e1 r1⟩
end
end L2.Pu
namespace L2.Pu
open PySem PySem.Spec PyProof.Rows
variable {ly:List du}
noncomputable def s9 (g:Str) (d:D) (vds:List (Str×D)):List (Str×D):=vds.map fun p=>if p.1=g then (p.1,d)else p
section
variable {K:PySem.W.Frag} {c:cA ly} {ρ:ae} {σ:St} {H F:Hp} {i:Nat} {z:Addr}
theorem RepF.put {vs:List (Str×V)} {vds:List (Str×D)} {g:Str} {v:V} {d:D} (h:RepF K F vs vds) (r:cI K F v d):RepF K F (vs.map fun p=>if p.1=g then (p.1,v)else p) (s9 g d vds):=by
 induction vds generalizing vs with
 |nil=>rw[h.nilI];exact .nil
 |cons p vds ih=>
  obtain⟨k,x⟩:=p
  obtain⟨u,us,rfl,h1,h2⟩:=h.consI
  have:=ih h2
  unfold s9 at this ⊢
  rw[List.map_cons,List.map_cons]
  dsimp only
  by_cases e:k=g
  ·rw[if_pos e,if_pos e];exact .cons r this
  ·rw[if_neg e,if_neg e];exact .cons h1 this
theorem RI.celUpd (r:RI K c ρ σ H F) {x x':Str} {vds vds':List (Str×D)} {f f':Str} {hs hs':List D} {a dx b:Addr} {o':HO} (hi:ρ[i]? =some (some (.cel x vds f hs))) (h1:σ[i]? =some (some (.ref a))) (hz:dU H ρ σ i z)
  (A':fV K (fE H ρ σ [i]) (bn H z o') F a dx b x' vds' f' hs'):RI K c (ρ.set i (some (.cel x' vds' f' hs'))) σ (bn H z o') F:=by
 refine r.join (is:=[i]) (ss:=[.cel x vds f hs]) (ss':=[.cel x' vds' f' hs']) (as:=[a]) (.cons hi (by intro e;cases e) h1 .nil) (by simp) ?_ rfl
 have hcz:fE H ρ σ [i] z=none:=gk (List.mem_singleton.mpr rfl) hz
 have only:∀{k:Nat} {s:Slot},(([Slot.cel x' vds' f' hs']:List Slot).map some)[k]? =some (some s)->k=0/\s= .cel x' vds' f' hs':=fun {k s} h=>by
  cases k with
  |zero=>cases h;exact⟨rfl,rfl⟩
  |succ k=>simp at h
 refine⟨⟨fun y u e=> ?_,fun y u e=> ?_,aF.refl _,fun _ h=> .inl h⟩,fun k d h=> ?_,fun k d h=> ?_,fun k d h=> ?_,(fun _ _ e=>by cases e),fun k k' d d' a h=> ?_,rfl,(fun L h=>by cases h),(fun L h=>by cases h),(fun _ _ e=>by cases e),⟨fun k y vd g hh h=> ?_,fun k k' y vd g hh s h h' _=> ?_⟩,(fun L h=>by cases h)⟩
 ·rw[aj (fun q=>by rw[q,(r.owns hz).2.1]at e;cases e)];exact r.sub y u e
 ·have e':fE H ρ σ [i] y=some u:=e
  rw[aj (fun q=>by rw[q,hcz]at e';cases e')];exact kT e'
 ·obtain⟨_,q⟩:=only h;cases q
 ·obtain⟨_,q⟩:=only h;cases q
 ·obtain⟨_,q⟩:=only h;cases q
 ·obtain⟨_,q⟩:=only h;cases q
 ·obtain⟨rfl,q⟩:=only h
  cases q
  exact⟨a,dx,b,rfl,A',fun j d hj=>by obtain⟨_,q⟩:=only hj;cases q⟩
 ·rw[(only h).1,(only h').1]
end
section
variable {X:Cx} {a b e value:Expr} {es:List Expr} {fa fb f fv:ae->R D} {fs:ae->R (List D)} {pos px apos bpos cpos pos':Pos} {y g cls:Str} {xs:List Str}
noncomputable def d9 (i:Nat) (cls g:Str):ae->R D:=fun ρ=>match ρ[i]? with
 |some (some (.cel x vds _ _))=>if x=cls then R.of (vds.lookup g)else .bad
 |_=> .bad
theorem jq {K:PySem.W.Frag} {c:cA ly} {ρ:ae} {σ:St} {H F:Hp} {i:Nat} {C:Addr} {x:Str} {vds:List (Str×D)} {f:Str} {hs:List D} (ri:RI K c ρ σ H F) (T:gi K x C) (hi:ρ[i]? =some (some (.cel x vds f hs))):
  ∃a dx b fs vs us,σ[i]? =some (some (.ref a))/\H a=some (.ins C dx fs)/\fV K c.H0 H F a dx b x vds f hs/\fs.lookup f=some (.ref b)/\H b=some (.lst us)/\Reps K F us hs/\RepF K F vs vds/\(∀p∈vs,fs.lookup p.1=some p.2)/\
   (∀g v,fs.lookup g=some v->g=f\/g∈vs.map (·.1))/\(fs.map (·.1)).Nodup/\f∉vs.map (·.1):=by
 obtain⟨a,dx,b,k1,k2,k3⟩:=ri.cel.ex i x vds f hs hi
 obtain⟨C',fs,vs,us,g1,g2,g3⟩:=k2.ex
 have:C'=C:=by have:=T.ns;rw[g2]at this;cases this;rfl
 subst this
 exact⟨a,dx,b,fs,vs,us,k1,g1,k2,g3⟩
theorem g_ (i:Nat) (T:dN X.K cls xs) (hx:g∈xs) (hN:X.N[i]? =some y:=by rfl) (hv:kh X.env.scope y:=by first|exact Or.inl rfl|exact Or.inr (Or.inl rfl)|exact Or.inr (Or.inr rfl)) (hd:(y==("__debug__":Str))=false:=by decide)
  (hcd:(y==("__classdict__":Str))=false:=by decide) (hb:attributeBase (.Name y px) g X.env (eval (.Name y px) X.env)=eval (.Name y px) X.env:=by rfl):PQ ly X (.Attribute (.Name y px) g pos) (d9 i cls g):=by
 obtain⟨C,h1,h2⟩:=T.ex
 exact fun c=>PE.weak (ll (pv i hN hv hd hcd) hb) fun σ H Q ⟨F,ρ,ri,w⟩=>by
  unfold d9 at w
  split at w
  ·rename_i x vds f hs hi
   split at w
   ·rename_i hc
    subst hc
    obtain⟨d,hd,k⟩:=w.of
    obtain⟨a,dx,b,fs,vs,us,k1,k2,k3,k4,k5,k6,k7,k8,_⟩:=jq ri h1 hi
    obtain⟨v,m1,m2⟩:=k7.get hd
    exact⟨.ref a,k1,a,C,dx,fs,v,rfl,k2,h1.cl,h2 g hx,k8 _ m1,k v H F (bv.refl ri.sub) m2⟩
   ·exact w.elim
  ·exact w.elim
noncomputable def kX (i:Nat) (cls g:Str):ae->R D:=fun ρ=>match ρ[i]? with
 |some (some (.cel x _ f hs))=>if x=cls/\f=g then .ok (.lst hs)else .bad
 |_=> .bad
theorem vU (i:Nat) (T:dN X.K cls xs) (hx:g∈xs) (hN:X.N[i]? =some y:=by rfl) (hv:kh X.env.scope y:=by first|exact Or.inl rfl|exact Or.inr (Or.inl rfl)|exact Or.inr (Or.inr rfl)) (hd:(y==("__debug__":Str))=false:=by decide)
  (hcd:(y==("__classdict__":Str))=false:=by decide) (hb:attributeBase (.Name y px) g X.env (eval (.Name y px) X.env)=eval (.Name y px) X.env:=by rfl):PB ly X (.Attribute (.Name y px) g pos) (kX i cls g):=by
 obtain⟨C,h1,h2⟩:=T.ex
 exact fun c=>PE.weak (ll (pv i hN hv hd hcd) hb) fun σ H Q ⟨F,ρ,ri,w⟩=>by
  unfold kX at w
  split at w
  ·rename_i x vds f hs hi
   split at w
   ·rename_i hc
    obtain⟨rfl,rfl⟩:=hc
    obtain⟨a,dx,b,fs,vs,us,k1,k2,k3,k4,k5,k6,_⟩:=jq ri h1 hi
    exact⟨.ref a,k1,a,C,dx,fs, .ref b,rfl,k2,h1.cl,h2 _ hx,k4,w (.ref b) H F (bv.refl ri.sub) (.inr ⟨b, .lst us,rfl,k5, .lst k6⟩)⟩
   ·exact w.elim
  ·exact w.elim
noncomputable def lM (i:Nat) (cls g:Str) (fv:ae->R D):ae->R br:=fun ρ=>match ρ[i]? with
 |some (some (.cel x vds f hs))=>fv ρ>>=fun d=>if x=cls/\(vds.lookup g).isSome=true/\vds.length<900 then .ok (.nx (ρ.set i (some (.cel x (s9 g d vds) f hs))))else .bad
 |_=> .bad
theorem mL {α:Type} {g:Str}:∀{l:List (Str×α)},(l.lookup g).isSome=true->g∈l.map (·.1)
 |(k,v)::r,h=>by
  rw[List.lookup_cons]at h
  cases e:g==k with
  |true=>rw[eq_of_beq e];exact List.mem_cons_self
  |false=>rw[e]at h;exact List.mem_cons_of_mem _ (mL h)
theorem sd (i:Nat) (T:dN X.K cls xs) (hx:g∈xs) (hv:PQ ly X value fv) (hN:X.N[i]? =some y:=by rfl) (hvi:kh X.env.scope y:=by first|exact Or.inl rfl|exact Or.inr (Or.inl rfl)|exact Or.inr (Or.inr rfl)) (hd:(y==("__debug__":Str))=false:=by decide)
  (hcd:(y==("__classdict__":Str))=false:=by decide) (hs:swapsWith value (some (.Attribute (.Name y px) g pos')) pos.line X.env=pure false:=by rfl):jk ly X (.Assign [.Attribute (.Name y px) g pos'] value pos) (lM i cls g fv):=by
 obtain⟨C,h1,h2⟩:=T.ex
 exact fun c=>PS.weak (v9 (pv i hN hvi hd hcd) (hv c) hs) fun D σ H ⟨F,ρ,ri,w⟩=>by
  unfold lM at w
  split at w
  ·rename_i x vds f hs hi
   refine⟨F,ρ,ri,(aD.bind.mp w).imp fun d _ w1 v H1 F1 e1 r1=> ?_⟩
   split at w1
   ·rename_i hc
    obtain⟨rfl,hl,hlen⟩:=hc
    have ri1:=ri.step e1
    obtain⟨a,dx,b,fs,vs,us,k1,k2,k3,k4,k5,k6,k7,k8,k9,k10,k11⟩:=jq ri1 h1 hi
    have hkg:g∈vs.map (·.1):=by rw[k7.names];exact mL hl
    have hgf:g≠f:=fun z=>by rw[z]at hkg;exact k11 hkg
    have hlen2:fs.length<1000:=by
     have:(fs.map (·.1)).length<=(f::vs.map (·.1)).length:=dw k10 fun q hq=>by
      obtain⟨u,hu⟩:=fu hq
      rcases k9 q u hu with z|z
      ·rw[z];exact List.mem_cons_self
      ·exact List.mem_cons_of_mem _ z
     rw[List.length_map,List.length_cons,k7.names,List.length_map]at this
     omega
    refine⟨_,k1,a,C,dx,fs,rfl,k2,h1.cl,h2 g hx,hlen2,?_⟩
    have oa:dU H1 ρ σ i a:= .inr ⟨x,vds,f,hs,a,C,dx,fs,hi,k1,k2, .inl rfl⟩
    have cz:∀z,(z=a\/z=dx\/fs.lookup f=some (.ref z))->fE H1 ρ σ [i] z=none:=fun z hz=>gk (List.mem_singleton.mpr rfl) (.inr ⟨x,vds,f,hs,a,C,dx,fs,hi,k1,k2,hz⟩)
    have nda:dx≠a:=fun z=>by have:=k3.own;rw[z,k2]at this;cases this
    have nba:b≠a:=fun z=>by rw[z,k2]at k5;cases k5
    refine w1 σ _ F1 e1.grow (ri1.celUpd (dx:=dx) (b:=b) hi k1 oa ⟨⟨C,dE g v fs,vs.map (fun p=>if p.1=g then (p.1,v)else p),us,ar,h1.ns,?_,?_,k6,k7.put r1,fun p hp=> ?_,fun q u hq=> ?_,lI _ _ k10,?_⟩,?_,k3.fa,k3.fd,k3.fb,cz a (.inl rfl),cz dx (.inr (.inl rfl)),cz b (.inr (.inr k4))⟩)
    ·rw[bK,if_neg (Ne.symm hgf)];exact k4
    ·rw[aj nba];exact k5
    ·obtain⟨q,hq,rfl⟩:=List.mem_map.mp hp
     rw[bK]
     by_cases z:q.1=g
     ·rw[if_pos z,if_pos z]
     ·rw[if_neg z,if_neg z];exact k8 q hq
    ·have hmap:(vs.map (fun p=>if p.1=g then (p.1,v)else p)).map (·.1)=vs.map (·.1):=by
      rw[List.map_map];refine List.map_congr_left fun p _=> ?_
      show (if p.1=g then (p.1,v)else p).1=p.1
      split<;>rfl
     rw[hmap]
     rw[bK]at hq
     by_cases z:q=g
     ·rw[z];exact .inr hkg
     ·rw[if_neg z]at hq;exact k9 q u hq
    ·have hmap:(vs.map (fun p=>if p.1=g then (p.1,v)else p)).map (·.1)=vs.map (·.1):=by
      rw[List.map_map];refine List.map_congr_left fun p _=> ?_
      show (if p.1=g then (p.1,v)else p).1=p.1
      split<;>rfl
     rw[hmap];exact k11
    ·rw[aj nda];exact k3.own
   ·exact w1.elim
  ·exact w.elim
theorem uc {K:PySem.W.Frag} {c:cA ly} {ρ:ae} {σ:St} {H F:Hp} {i:Nat} {C:Addr} {x:Str} {vds:List (Str×D)} {f:Str} {hs hs':List D} {a dx b:Addr} {fs:List (Str×V)} {us us':List V} (ri:RI K c ρ σ H F) (hi:ρ[i]? =some (some (.cel x vds f hs))) (k1:σ[i]? =some (some (.ref a))) (k2:H a=some (.ins C dx fs))
  (k3:fV K c.H0 H F a dx b x vds f hs) (k4:fs.lookup f=some (.ref b)) (k5:H b=some (.lst us)) (q:Reps K F us' hs'):RI K c (ρ.set i (some (.cel x vds f hs'))) σ (bn H b (.lst us')) F:=by
 have cz:∀z,(z=a\/z=dx\/fs.lookup f=some (.ref z))->dU H ρ σ i z:=fun z hz=> .inr ⟨x,vds,f,hs,a,C,dx,fs,hi,k1,k2,hz⟩
 have cy:∀z,dU H ρ σ i z->fE H ρ σ [i] z=none:=fun z o=>gk (List.mem_singleton.mpr rfl) o
 have nab:a≠b:=fun z=>by rw[<-z,k2]at k5;cases k5
 have ndb:dx≠b:=fun z=>by have:=k3.own;rw[z,k5]at this;cases this
 obtain⟨C',fs',vs,us0,g1,g2,g3,g4,g5,g6,g7⟩:=k3.ex
 rw[k2]at g1
 cases g1
 exact ri.celUpd (dx:=dx) (b:=b) hi k1 (cz b (.inr (.inr k4))) ⟨⟨C,fs,vs,us',by rw[aj nab];exact k2,g2,k4,ar,q,g6,g7⟩,by rw[aj ndb];exact k3.own,k3.fa,k3.fd,k3.fb,cy _ (cz a (.inl rfl)),cy _ (cz dx (.inr (.inl rfl))),cy _ (cz b (.inr (.inr k4)))⟩
noncomputable def jr (i:Nat) (cls g:Str) (f:ae->R D):ae->R br:=fun ρ=>match ρ[i]? with
 |some (some (.cel x vds h hs))=>if x=cls/\h=g then (f ρ>>=fun d=>if hs.length<lim then .ok (.nx (ρ.set i (some (.cel x vds h (hs++[d])))))else .bad)else .bad
 |_=> .bad
theorem se (i:Nat) (T:dN X.K cls xs) (hx:g∈xs) (h:PQ ly X e f) (hN:X.N[i]? =some y:=by rfl) (hv:kh X.env.scope y:=by first|exact Or.inl rfl|exact Or.inr (Or.inl rfl)|exact Or.inr (Or.inr rfl)) (hd:(y==("__debug__":Str))=false:=by decide)
  (hcd:(y==("__classdict__":Str))=false:=by decide) (hb:attributeBase (.Name y px) g X.env (eval (.Name y px) X.env)=eval (.Name y px) X.env:=by rfl)
  (hbase:attributeBase (.Attribute (.Name y px) g bpos) "append" X.env (eval (.Attribute (.Name y px) g bpos) X.env)=eval (.Attribute (.Name y px) g bpos) X.env:=by rfl)
  (hfew:((backTo cpos (starEach [e] X.env)).all (fun x=> !x.1)&&(backToKw cpos (keywordEach [] X.env)).all (fun x=>x.1.isSome)
   &&decide (([e]:List Expr).length+([]:List Keyword).length+(if ([]:List Keyword).isEmpty then 0 else 1)<30))=true:=by rfl)
  (hline:(apos.endLine==cpos.line)=true:=by rfl) (hs:starEach [e] X.env=(false,eval e X.env)::starEach [] X.env:=by rfl) (hplain:(backTo cpos (starEach [] X.env)).any (·.1)=false:=by rfl)
  (hsw:swapsWith (.Call (.Attribute (.Attribute (.Name y px) g bpos) "append" apos) [e] [] cpos) none pos.line X.env=pure false:=by rfl):jk ly X (.Expr (.Call (.Attribute (.Attribute (.Name y px) g bpos) "append" apos) [e] [] cpos) pos) (jr i cls g f):=by
 obtain⟨C,h1,h2⟩:=T.ex
 exact fun c=>PS.weak (jh (oB PySem.F.plainAttrs_list PySem.F.slot_list_append PySem.F.type_list_append iC (ll (pv i hN hv hd hcd) hb) (bP (h c) dF hs) hbase hfew hline hs hplain) hsw) fun D σ H ⟨F,ρ,ri,w⟩=>by
  unfold jr at w
  split at w
  ·rename_i x vds f' hs hi
   split at w
   ·rename_i hc
    obtain⟨rfl,rfl⟩:=hc
    obtain⟨a,dx,b,fs,vs,us,k1,k2,k3,k4,k5,k6,_⟩:=jq ri h1 hi
    refine⟨.ref a,k1,a,C,dx,fs, .ref b,rfl,k2,h1.cl,h2 _ hx,k4, .inl ⟨rfl,us,dr.of k5⟩,F,ρ,ri,(aD.bind.mp w).imp fun d _ w1 v H1 F1 e1 r1=> ?_⟩
    split at w1
    ·rename_i hl
     refine⟨b,us,v,rfl,rfl,e1.keep _ _ k5,Nat.lt_of_lt_of_le (by rw[k6.length];exact hl) dX,?_⟩
     exact w1 σ _ F1 e1.grow (uc (ri.step e1) hi k1 (e1.keep _ _ k2) (k3.step e1) k4 (e1.keep _ _ k5) ((k6.mono e1.grow).append (.cons r1 .nil)))
    ·exact w1.elim
   ·exact w.elim
  ·exact w.elim
variable {fx:ae->R (D×ae)}
noncomputable def mM (f:ae->R D):ae->R br:=fun ρ=>f ρ>>=fun d=> .ok (.retc d ρ)
theorem sf (h:PQ ly X e f):jk ly X (.Return (some e) pos) (mM f):=fun c=>PS.weak (nj (h c)) fun D σ H ⟨F,ρ,ri,w⟩=>
 ⟨F,ρ,ri,(aD.bind.mp w).imp fun d _ w1 v H' F' e r=>w1 v σ H' F' e.grow (ri.step e) r⟩
noncomputable def gl (fx:ae->R (D×ae)):ae->R br:=fun ρ=>fx ρ>>=fun r=> .ok (.retc r.1 r.2)
theorem sg (h:PX ly X e fx):jk ly X (.Return (some e) pos) (gl fx):=fun c=>PS.weak (nj (h c)) fun D σ H ⟨F,ρ,ri,w⟩=>
 ⟨F,ρ,ri,(aD.bind.mp w).imp fun r _ w1 v H' F' e ri' rv=>w1 v σ H' F' e ri' rv⟩
noncomputable def hE (fx:ae->R (D×ae)):ae->R br:=fun ρ=>fx ρ>>=fun r=> .ok (.nx r.2)
theorem p3 (h:PX ly X e fx) (hsw:swapsWith e none pos.line X.env=pure false:=by rfl):jk ly X (.Expr e pos) (hE fx):=fun c=>PS.weak (jh (h c) hsw) fun D σ H ⟨F,ρ,ri,w⟩=>
 ⟨F,ρ,ri,(aD.bind.mp w).imp fun r _ w1 v H' F' e ri' rv=>w1 σ H' F' e ri'⟩
noncomputable def p4 (i:Nat) (fx:ae->R (D×ae)):ae->R br:=fun ρ=>fx ρ>>=fun r=> .ok (.nx (r.2.set i (some (.val r.1))))
theorem vV (i:Nat) {x:Str} (hN:X.N.Nodup) (he:PX ly X e fx) (hi:X.N[i]? =some x:=by rfl) (hx:qu X.env.scope x:=by first|exact Or.inl rfl|exact Or.inr rfl) (hs:swapsWith e (some (.Name x pos')) pos.line X.env=pure false:=by rfl)
  (hf:X.fn x=true\/X.env.scope.names.lookup x=some .local:=by first|exact .inl rfl|exact .inr rfl|assumption) (hfr:gG ly i:=by(repeat (first|assumption|exact L2.Pu.dC|refine L2.Pu.cQ ⟨by first|decide|simp,by first|decide|simp⟩ ?_))):jk ly X (.Assign [.Name x pos'] e pos) (p4 i fx):=fun c=>
 PS.weak (jv hN hi hx (he c) hs hf) fun D σ H ⟨F,ρ,ri,w⟩=>⟨F,ρ,ri,(aD.bind.mp w).imp fun r _ w1 v H' F' e ri' rv=>w1 _ H' F' e (ri'.setVal i hfr rv)⟩
noncomputable def ek (f:ae->R D) (fx:ae->R (D×ae)):ae->R (D×ae):=fun ρ=>f ρ>>=fun d=>fx ρ>>=fun r=> .ok (.lst [d,r.1],r.2)
theorem sh (h:PQ ly X a f) (hx:PX ly X b fx) (hs:starEach [a,b] X.env=(false,eval a X.env)::starEach [b] X.env:=by rfl) (hs2:starEach [b] X.env=(false,eval b X.env)::starEach [] X.env:=by rfl):PX ly X (.List [a,b] pos) (ek f fx):=fun c=>
 PE.weak (lm (bP (h c) (bP (hx c) dF hs2) hs)) fun σ H Q ⟨F,ρ,ri,w⟩=>⟨F,ρ,ri,(aD.bind.mp w).imp fun d _ w1 v H1 F1 e1 r1=>⟨F1,ρ,ri.step e1,(aD.bind.mp w1).imp fun r _ w2 u H2 F2 e2 ri2 r2=>by
  refine⟨by show 2<=sizeLine;exact Nat.le_trans (by decide) dX,fun p hp=> ?_⟩
  have e3:=bv.lay (o:= .lst [v,u]) ri2.sub hp
  exact w2 _ _ _ ((e1.grow.trans e2).trans e3.grow) (ri2.step e3) (.lst ar (.cons ((r1.mono e2).mono e3.grow) (.cons (r2.mono e3.grow) .nil)))⟩⟩
end
end L2.Pu
namespace L2.Pu
open PySem PySem.Spec PyProof.Rows
variable {ly:List du}
noncomputable def Slot.frozen:Slot->Slot
 | .own d=> .val d
 | .cel x vds f hs=> .val (.ins x (vds++[(f, .lst hs)]))
 |s=>s
theorem lN (s:Slot):s.frozen.frozen=s.frozen:=by cases s<;>rfl
noncomputable def jZ (i:Nat) (ρ:ae):ae:=match ρ[i]? with
 |some (some s)=>ρ.set i (some s.frozen)
 |_=>ρ
noncomputable def j_ (L:List Nat) (ρ:ae):ae:=L.foldl (fun r i=>jZ i r) ρ
theorem qe (i:Nat) (ρ:ae):(jZ i ρ).length=ρ.length:=by
 unfold jZ
 split
 ·simp
 ·rfl
theorem kY:∀(L:List Nat) (ρ:ae),(j_ L ρ).length=ρ.length
 |[],ρ=>rfl
 |i::L,ρ=>(kY L (jZ i ρ)).trans (qe i ρ)
theorem kZ {i j:Nat} {ρ:ae} {s:Slot} (h:(jZ i ρ)[j]? =some (some s)):(i=j/\∃s0,ρ[j]? =some (some s0)/\s=s0.frozen)\/(i≠j/\ρ[j]? =some (some s)):=by
 unfold jZ at h
 split at h
 ·rename_i s0 hs
  rcases ak h with ⟨rfl,z,_⟩|⟨z,h⟩
  ·cases z;exact .inl ⟨rfl,s0,hs,rfl⟩
  ·exact .inr ⟨z,h⟩
 ·rename_i n
  refine .inr ⟨fun e=> ?_,h⟩
  subst e
  exact n s h
theorem cc:∀{L:List Nat} {j:Nat} {ρ:ae} {s:Slot},(j_ L ρ)[j]? =some (some s)->(j∈L/\∃s0,ρ[j]? =some (some s0)/\s=s0.frozen)\/(j∉L/\ρ[j]? =some (some s))
 |[],j,ρ,s,h=> .inr ⟨by simp,h⟩
 |i::L,j,ρ,s,h=>by
  rcases cc (L:=L) (ρ:=jZ i ρ) h with ⟨h1,s0,h2,h3⟩|⟨h1,h2⟩
  ·refine .inl ⟨List.mem_cons_of_mem _ h1,?_⟩
   rcases kZ h2 with ⟨rfl,s1,g1,g2⟩|⟨_,g1⟩
   ·exact⟨s1,g1,by rw[h3,g2,lN]⟩
   ·exact⟨s0,g1,h3⟩
  ·rcases kZ h2 with ⟨rfl,s1,g1,g2⟩|⟨n,g1⟩
   ·exact .inl ⟨List.mem_cons_self,s1,g1,g2⟩
   ·exact .inr ⟨fun m=>(List.mem_cons.mp m).elim (fun q=>n q.symm) h1,g1⟩
open Classical in
noncomputable def gK (H F:Hp) (ρ:ae) (σ:St) (L:List Nat):Hp:=fun z=>if ∃i∈L,dU H ρ σ i z then H z else F z
section
variable {K:PySem.W.Frag} {c:cA ly} {ρ:ae} {σ:St} {H F H' F':Hp} {L:List Nat}
theorem iS {i:Nat} {z:Addr} (hi:i∈L) (h:dU H ρ σ i z):gK H F ρ σ L z=H z:=if_pos ⟨i,hi,h⟩
theorem gm {z:Addr} (h:¬∃i∈L,dU H ρ σ i z):gK H F ρ σ L z=F z:=if_neg h
theorem RepF.snoc {vs:List (Str×V)} {vds:List (Str×D)} {f:Str} {v:V} {d:D} (h:RepF K F vs vds) (r:cI K F v d):RepF K F (vs++[(f,v)]) (vds++[(f,d)]):=by
 induction vds generalizing vs with
 |nil=>rw[h.nilI];exact .cons r .nil
 |cons p vds ih=>
  obtain⟨k,x⟩:=p
  obtain⟨u,us,rfl,h1,h2⟩:=h.consI
  exact .cons h1 (ih h2)
theorem RI.lend (r:RI K c ρ σ H F) (L:List Nat):aF F (gK H F ρ σ L)/\RI K c (j_ L ρ) σ H (gK H F ρ σ L):=by
 have grow:aF F (gK H F ρ σ L):=fun z u e=>by
  by_cases o:∃i∈L,dU H ρ σ i z
  ·obtain⟨i,hi,o⟩:=o
   rw[(r.owns o).2.1]at e
   cases e
  ·rw[gm o];exact e
 have out:∀{j:Nat} {z:Addr},j∉L->dU H ρ σ j z->gK H F ρ σ L z=none:=fun {j z} hj o=>by
  rw[gm (fun ⟨i,hi,o'⟩=>hj (by rw[r.owns_inj o o'];exact hi))]
  exact(r.owns o).2.1
 refine⟨grow,⟨⟨fun z u e=> ?_,r.ext.keep,r.ext.grow.trans grow,fun z e=> ?_⟩,fun j d h=> ?_,fun j d h=> ?_,fun j d h=> ?_,r.bh,fun j j' d d' a h h'=> ?_,?_,fun M hM h=> ?_,fun M hM M' hM' h h'=> ?_,r.fm.trans grow,⟨fun j x vds f hs h=> ?_,fun j j' x vds f hs s h h' hs'=> ?_⟩,r.pin⟩⟩
 ·by_cases o:∃i∈L,dU H ρ σ i z
  ·obtain⟨i,hi,o⟩:=o
   rw[iS hi o]at e;exact e
  ·rw[gm o]at e;exact r.sub z u e
 ·by_cases o:∃i∈L,dU H ρ σ i z
  ·obtain⟨i,hi,o⟩:=o
   exact .inr (r.owns o).1
  ·rw[gm o]at e;exact r.ext.new z e
 ·rcases cc h with ⟨hj,s0,h1,h2⟩|⟨_,h1⟩
  ·cases s0 with
   |val d'=>cases h2;obtain⟨v,k1,k2⟩:=r.val j d h1;exact⟨v,k1,k2.mono grow⟩
   |own d'=>
    cases h2
    obtain⟨a,o,k1,k2,k3,k4,k5⟩:=r.own j d h1
    have fa:gK H F ρ σ L a=some o:=by rw[iS hj (.inl ⟨d,h1,k1⟩)];exact k2
    refine⟨.ref a,k1,?_⟩
    cases k5 with
    |lst q=>exact .lst fa (q.mono grow)
    |dic q n=>exact .dic fa (q.mono grow) n
   |cel x vds f hs=>
    cases h2
    obtain⟨a,dx,b,k1,k2,k3⟩:=r.cel.ex j x vds f hs h1
    have k2':=k2
    obtain⟨C,fs,vs,us,g1,g2,g3,g4,g5,g6,g7,g8,g9,g10⟩:=k2.ex
    have ow:∀z,(z=a\/z=dx\/fs.lookup f=some (.ref z))->gK H F ρ σ L z=H z:=fun z hz=>iS hj (.inr ⟨x,vds,f,hs,a,C,dx,fs,h1,k1,g1,hz⟩)
    refine⟨.ref a,k1, .ins (by rw[ow a (.inl rfl)];exact g1) (by rw[ow dx (.inr (.inl rfl))];exact k2.own) g2 (vs:=vs++[(f, .ref b)]) (fun p hp=> ?_) (fun g v hg=> ?_) ((g6.mono grow).snoc (.lst (by rw[ow b (.inr (.inr g3))];exact g4) (g5.mono grow)))⟩
    ·rcases List.mem_append.mp hp with q|q
     ·exact g7 p q
     ·rw[List.mem_singleton.mp q];exact g3
    ·rw[List.map_append]
     rcases g8 g v hg with q|q
     ·rw[q];exact List.mem_append_right _ List.mem_cons_self
     ·exact List.mem_append_left _ q
   |bor d'=>cases h2
   |obj=>cases h2
  ·obtain⟨v,k1,k2⟩:=r.val j d h1;exact⟨v,k1,k2.mono grow⟩
 ·rcases cc h with ⟨hj,s0,h1,h2⟩|⟨hj,h1⟩
  ·cases s0<;>cases h2
  ·obtain⟨a,o,k1,k2,k3,k4,k5⟩:=r.own j d h1
   exact⟨a,o,k1,k2,out hj (.inl ⟨d,h1,k1⟩),k4,k5.mono grow⟩
 ·rcases cc h with ⟨hj,s0,h1,h2⟩|⟨hj,h1⟩
  ·cases s0 with
   |bor d'=>cases h2;exact r.bor j d h1
   |_=>cases h2
  ·exact r.bor j d h1
 ·have un:∀{j:Nat} {d:D},(j_ L ρ)[j]? =some (some (.own d))->ρ[j]? =some (some (.own d)):=fun h=>by
   rcases cc h with ⟨hj,s0,h1,h2⟩|⟨hj,h1⟩
   ·cases s0<;>cases h2
   ·exact h1
  exact r.dis j j' d d' a (un h) (un h')
 ·rw[kY];exact r.len
 ·have h1:ρ[M.x]? =some (some .obj):=by
   rcases cc h with ⟨hj,s0,h1,h2⟩|⟨hj,h1⟩
   ·cases s0 with
    |obj=>exact h1
    |_=>cases h2
   ·exact h1
  obtain⟨a,dx,fs,k0,k1,k2,k3,k4,k5,k6⟩:=r.obj M hM h1
  have no:∀{z:Addr} {u:HO},H z=some u->(∀d,¬gF K F u d)->F z=none->gK H F ρ σ L z=none:=fun {z u} hz nr hf=>by
   rw[gm]
   ·exact hf
   ·rintro⟨i,hi,o⟩
    rcases o with ⟨d,g1,g2⟩|⟨x,vds,f,hs,a,C,dx,fs,g1,_⟩
    ·obtain⟨p,u',q1,q2,_,_,q5⟩:=r.own i d g1
     rw[g2]at q1
     cases q1
     rw[hz]at q2
     cases q2
     exact nr d q5
    ·have:=r.cel.one i M.x x vds f hs _ g1 h1 rfl
     subst this
     rw[h1]at g1
     cases g1
  exact⟨a,dx,fs,k0,k1,k2,k3,no k2 (fun d q=>by cases q) k4,no k3 (fun d q=>by cases q) k5,k6⟩
 ·have un:∀{j:Nat},(j_ L ρ)[j]? =some (some .obj)->ρ[j]? =some (some .obj):=fun h=>by
   rcases cc h with ⟨hj,s0,h1,h2⟩|⟨hj,h1⟩
   ·cases s0 with
    |obj=>exact h1
    |_=>cases h2
   ·exact h1
  exact r.odis M hM M' hM' (un h) (un h')
 ·rcases cc h with ⟨hj,s0,h1,h2⟩|⟨hj,h1⟩
  ·cases s0<;>cases h2
  ·obtain⟨a,dx,b,k1,k2,k3⟩:=r.cel.ex j x vds f hs h1
   have k2':=k2
   obtain⟨C,fs,vs,us,g1,g2,g3,g4,g5,g6,g7⟩:=k2.ex
   have ow:∀z,(z=a\/z=dx\/fs.lookup f=some (.ref z))->gK H F ρ σ L z=none:=fun z hz=>out hj (.inr ⟨x,vds,f,hs,a,C,dx,fs,h1,k1,g1,hz⟩)
   refine⟨a,dx,b,k1,⟨⟨C,fs,vs,us,g1,g2,g3,g4,g5.mono grow,g6.mono grow,g7⟩,k2.own,ow a (.inl rfl),ow dx (.inr (.inl rfl)),ow b (.inr (.inr g3)),k2.za,k2.zd,k2.zb⟩,fun j' d h'=> ?_⟩
   rcases cc h' with ⟨hj',s0,h1',h2'⟩|⟨hj',h1'⟩
   ·cases s0<;>cases h2'
   ·exact k3 j' d h1'
 ·have un:∀{j:Nat} {s:Slot},(j_ L ρ)[j]? =some (some s)->s.single=true->ρ[j]? =some (some s):=fun h hs=>by
   rcases cc h with ⟨hj,s0,h1,h2⟩|⟨hj,h1⟩
   ·cases s0 with
    |obj=>rw[h2];exact h1
    |_=>rw[h2]at hs;cases hs
   ·exact h1
  exact r.cel.one j j' x vds f hs s (un h rfl) (un h' hs') hs'
end
section
variable {X:Cx} {e:Expr} {es:List Expr} {f:ae->R D} {g:ae->R Bool} {pos:Pos}
noncomputable def o2 (L:List Nat) (g:ae->R Bool):ae->R Bool:=fun ρ=>g (j_ L ρ)
theorem ud (L:List Nat) (h:mq ly X e g):mq ly X e (o2 L g):=fun c=>PT.weak (h c) fun σ H Q ⟨F,ρ,ri,w⟩=>by
 obtain⟨s,ri'⟩:=ri.lend L
 exact⟨_,_,ri',aD.imp w fun b _ w1 H1 F1 e1=>w1 H1 F (mH ri.sub e1.keep)⟩
end
end L2.Pu
namespace L2.Pu
open PySem PySem.Spec PyProof.Rows
variable {ly:List du}
theorem RI.fldO {K:PySem.W.Frag} {c:cA ly} {ρ:ae} {σ:St} {H F:Hp} (r:RI K c ρ σ H F) {f:Str} {L:du} (hL:L∈ly) (hρ:ρ[L.x]? =some (some .obj)) {a dx p:Addr} {fs:List (Str×V)} {i:Nat} {o:HO} {d:D} (hx:σ[L.x]? =some (some (.ref a))) (ha:H a=some (.ins L.C dx fs)) (hf:(f,i)∈L.fl)
  (hn:∀p∈L.fl,p.1=f<->p.2=i) (hxi:L.x≠i) (hoth:∀M∈ly,M≠L->M.x≠i/\∀p∈M.fl,p.2≠i) (hil:i<σ.length) (hp:H p=some o) (fp:F p=none) (zp:c.H0 p=none) (ro:gF K F o d) (ne:∀(j:Nat) d',ρ[j]? =some (some (.own d'))->σ[j]? ≠some (some (.ref p))):
  RI K c (ρ.set i (some (.own d))) (σ.set i (some (.ref p))) (bn H a (.ins L.C dx (dE f (.ref p) fs))) F:=by
 obtain⟨b,dx',fs',k0,k1,k2,k3,k4,k5,k6,k7,k8,k9,k10⟩:=r.obj L hL hρ
 rw[hx]at k1
 cases k1
 rw[ha]at k2
 cases k2
 have npa:p≠a:=fun z=>by subst z;rw[ha]at hp;cases hp;cases ro
 refine⟨⟨fun x y e=> ?_,fun x y e=> ?_,r.ext.grow,r.ext.new⟩,fun j e q=> ?_,fun j e q=> ?_,fun j e q=> ?_,r.bh,fun j k e e' x q1 q2 q3 q4=> ?_,by simp[r.len],fun M hM hq=> ?_,fun M hM M' hM' q01 q02 x q1 q2=> ?_,r.fm, .no fun j x vds g hs w=> ?_,fun M hM a h=> ?_⟩
 ·rw[aj (fun z=>by rw[z,k4]at e;cases e)];exact r.sub x y e
 ·rw[aj (fun z=>by rw[z,k6]at e;cases e)];exact r.ext.keep x y e
 ·rcases ak q with ⟨rfl,z,l⟩|⟨z,q⟩
  ·cases z
  ·rw[ac z];exact r.val j e q
 ·rcases ak q with ⟨rfl,z,l⟩|⟨z,q⟩
  ·cases z;exact⟨p,o,cW hil,by rw[aj npa];exact hp,fp,zp,ro⟩
  ·obtain⟨x,o,g1,g2,g3,g4,g5⟩:=r.own j e q
   have nx:x≠a:=fun z=>by subst z;rw[ha]at g2;cases g2;cases g5
   exact⟨x,o,by rw[ac z];exact g1,by rw[aj nx];exact g2,g3,g4,g5⟩
 ·rcases ak q with ⟨rfl,z,l⟩|⟨z,q⟩
  ·cases z
  ·rw[ac z];exact r.bor j e q
 ·rcases ak q1 with ⟨rfl,z,l⟩|⟨z,q1⟩
  ·rw[cW hil]at q3
   cases q3
   rcases ak q2 with ⟨rfl,z',l⟩|⟨z',q2⟩
   ·rfl
   ·rw[ac z']at q4;exact absurd q4 (ne k e' q2)
  ·rw[ac z]at q3
   rcases ak q2 with ⟨rfl,z',l⟩|⟨z',q2⟩
   ·rw[cW hil]at q4
    cases q4
    exact absurd q3 (ne j e q1)
   ·rw[ac z']at q4
    exact r.dis j k e e' x q1 q2 q3 q4
 ·by_cases hML:M=L
  ·subst hML
   refine⟨a,dx,dE f (.ref p) fs,k0,by rw[ac hxi.symm];exact hx,ar,?_,k4,k5,k6,k7,fun p hp=> ?_,fun g u hu=> ?_,lI _ _ k10⟩
   ·rw[aj (fun z=>by rw[z,ha]at k3;cases k3)];exact k3
   ·rw[bK]
    by_cases e:p.1=f
    ·rw[if_pos e,(hn p hp).mp e,cW hil];rfl
    ·rw[if_neg e,ac (fun z=>e ((hn p hp).mpr z.symm))];exact k8 p hp
   ·rw[bK]at hu
    by_cases e:g=f
    ·subst e;exact List.mem_map.mpr ⟨_,hf,rfl⟩
    ·rw[if_neg e]at hu;exact k9 g u hu
  ·have ho:=hoth M hM hML
   rw[ac ho.1.symm]at hq
   obtain⟨b,dy,gs,g0,g1,g2,g3,g4,g5,g6,g7,g8,g9⟩:=r.obj M hM hq
   have nb:b≠a:=fun z=>hML (r.odis M hM L hL hq hρ a (by rw[<-z];exact g1) hx)
   have nd:dy≠a:=fun z=>by subst z;rw[ha]at g3;cases g3
   refine⟨b,dy,gs,g0,by rw[ac ho.1.symm];exact g1,by rw[aj nb];exact g2,by rw[aj nd];exact g3,g4,g5,g6,g7,fun p hp=> ?_,g9⟩
   rw[ac (ho.2 p hp).symm];exact g8 p hp
 ·have hxs:∀M∈ly,M.x≠i:=fun M hM=>by
   by_cases hML:M=L
   ·subst hML;exact hxi
   ·exact(hoth M hM hML).1
  rw[ac (hxs M hM).symm]at q1 q01
  rw[ac (hxs M' hM').symm]at q2 q02
  exact r.odis M hM M' hM' q01 q02 x q1 q2
 ·rcases ak w with ⟨rfl,z,l⟩|⟨z,w⟩
  ·cases z
  ·have:=r.cel.one j L.x x vds g hs .obj w hρ rfl
   subst this
   rw[hρ]at w
   cases w
 ·have hxs:M.x≠i:=by
   by_cases hML:M=L
   ·subst hML;exact hxi
   ·exact(hoth M hM hML).1
  rw[ac hxs.symm];exact r.pin M hM a h
section
variable {X:Cx} {pos pos' px pl:Pos} {f y g:Str}
noncomputable def si (x i:Nat):ae->R br:=fun ρ=>match ρ[x]? with
 |some (some .obj)=> .ok (.nx (ρ.set i (some (.own (.lst [])))))
 |_=> .bad
theorem vW {L:du} (i:Nat) (hC:m6 X.K L.C) (n:cF X.K L.C f) (A:rN ly L f i) (hN:X.N[L.x]? =some y:=by rfl) (hvy:kh X.env.scope y:=by first|exact Or.inl rfl|exact Or.inr (Or.inl rfl)|exact Or.inr (Or.inr rfl)) (hd:(y==("__debug__":Str))=false:=by decide)
  (hcd:(y==("__classdict__":Str))=false:=by decide) (hi:X.N[i]? =some g:=by rfl) (hvis:¬kh X.env.scope g:=by decide+kernel) (hs:swapsWith (.List [] pl) (some (.Attribute (.Name y px) f pos')) pos.line X.env=pure false:=by rfl):
  jk ly X (.Assign [.Attribute (.Name y px) f pos'] (.List [] pl) pos) (si L.x i):=by
 intro c pins s σ H D I q
 obtain⟨F,ρ,ri,w⟩:=q
 have hil:i<σ.length:=by rw[I.len];exact(List.getElem?_eq_some_iff.mp hi).1
 unfold si at w
 split at w
 ·rename_i hρ
  refine oY i hi hvis (pv L.x hN hvy hd hcd) (lm dF) hs pins s σ H D I ⟨Nat.zero_le _,fun p hp=> ?_⟩
  have ri1:=ri.step (bv.layOwn ri.sub (o:= .lst []) hp)
  obtain⟨a,dx,fs,h0,h1,h2,h3,h4,h5,h6,h7,h8,h9,h10⟩:=ri1.obj L A.mem hρ
  have hlen:fs.length<1000:=by
   have:(fs.map (·.1)).length<=(L.fl.map (·.1)).length:=dw h10 fun q hq=>by
    obtain⟨u,hu⟩:=fu hq
    exact h9 q u hu
   rw[List.length_map,List.length_map]at this
   exact Nat.lt_of_le_of_lt this A.few
  refine⟨_,h1,a,L.C,dx,fs,rfl,h2,hC,n,hlen,?_⟩
  refine w _ _ F (aF.refl _) (ri1.fldO A.mem hρ h1 h2 A.fl A.un A.x A.oth hil ar (ri.sub.free hp) (ri.ext.keep.free hp) (.lst .nil) fun j d' hj e=> ?_)
  obtain⟨b,o',q1,q2,_⟩:=ri.own j d' hj
  rw[e]at q1
  cases q1
  rw[hp]at q2
  cases q2
 ·exact w.elim
end
noncomputable def kq (fl:List (Str×Nat)) (fo:Str) (io:Nat) (ρ:ae):R (List (Str×D)×Str×List D):=match ρ[0]? with
 |some (some Slot.obj)=>(match ρ[io]? with
  |some (some (.own (.lst hs)))=>(match cp fl ρ with
   |some fds=> .ok (fds,fo,hs)
   |none=> .bad)
  |_=> .bad)
 |_=> .bad
noncomputable def gn (k n:Nat) (fl:List (Str×Nat)) (fo:Str) (io:Nat) (g:ae->R br) (ds:List D):R (List (Str×D)×Str×List D):=if ds.length=k then g (fw n ds)>>=fun o=>match o with
 | .nx ρ=>kq fl fo io ρ
 |_=> .bad else .bad
noncomputable def p5 (K:PySem.W.Frag) (C:Addr) (cls:Str) (k:Nat) (mi:List D->R (List (Str×D)×Str×List D)):Sp:=fun vs H Q E=>∃F x dx us ds Hz,vs= .ref x::us/\us.length=k/\aF F Hz/\Hz x=none/\Hz dx=none/\dx≠x/\H=bn (bn Hz dx (.own x)) x (.ins C dx [])/\Reps K F us ds/\match mi ds with
 | .ok r=>∀H' F' dx' b,bv Hz F H' F'->fV K Hz H' F' x dx' b cls r.1 r.2.1 r.2.2->Q .non H'
 | .err z _=>∀ec a H' F',cX K z ec->bv Hz F H' F'->E ec a H'
 | .bad=>False
theorem ue {K:PySem.W.Frag} {C:Addr} {cls fo:Str} {io:Nat} {fl:List (Str×Nat)} {c:cA [⟨0,C,fl++[(fo,io)]⟩]} {ρ:ae} {σ:St} {H F:Hp} {fds:List (Str×D)} {hs:List D} {x:Addr} (ri:RI K c ρ σ H F) (hρ:ρ[0]? =some (some .obj)) (hoa:c.oa 0=some x) (hns:PySem.W.nsIn K mainGlobals cls=some (some (.ref C)))
  (ho:ρ[io]? =some (some (.own (.lst hs)))) (h:cp fl ρ=some fds) (hfo:fo∉fl.map (·.1)):∃dx b,fV K c.H0 H F x dx b cls fds fo hs:=by
 obtain⟨a,dx,fs,h0,h1,h2,h3,h4,h5,h6,h7,h8,h9,h10⟩:=ri.obj _ (List.mem_singleton.mpr rfl) hρ
 cases h0 x hoa
 obtain⟨vs,g1,g2,g3⟩:=gX ri h fun p hp=>h8 p (List.mem_append_left _ hp)
 obtain⟨b,o,k1,k2,k3,k4,k5⟩:=ri.own io _ ho
 cases k5 with
 |lst q=>
  have lf:fs.lookup fo=some (.ref b):=by
   have:=h8 (fo,io) (List.mem_append_right _ List.mem_cons_self)
   rw[this]
   show (σ[io]?).join=_
   rw[k1];rfl
  refine⟨dx,b,⟨⟨C,fs,vs,_,h2,hns,lf,k2,q,g1,g3,fun g v hg=> ?_,h10,by rw[g2];exact hfo⟩,h3,h4,h5,k3,h6,h7,k4⟩⟩
  have:=h9 g v hg
  rw[List.map_append]at this
  rcases List.mem_append.mp this with z|z
  ·exact .inr (by rw[g2];exact z)
  ·exact .inl (List.mem_singleton.mp z)
theorem sj {P:Program} {w:World} {K:PySem.W.Frag} {mg:Str->Option Value} {base:Heap} {x qual cls fo:Str} {st:Stmt} {f C:Addr} {fd:FuncData} {N ps:List Str} {k n m io:Nat} {fl:List (Str×Nat)} {g:ae->R br} (F:oG K x qual st f fd) (S:aK N ps (ag st))
  (hns:PySem.W.nsIn K mainGlobals cls=some (some (.ref C))) (hn:ps.length=n+1) (hm:N.length=m+1) (hg:∀p∈fl++[(fo,io)],n<p.2) (hnm:n<=m) (hfo:fo∉fl.map (·.1))
  (hbody:∀(cdv:Value) (A:Around) (outer:List Env) (s:Shared) (H:Hp) (E:XK),bL k (A.deeper (envOfC qual (ag st) s.heap.objs.size f cdv))->
   fq [⟨0,C,fl++[(fo,io)]⟩] (eD (gB P w) P w K mg base N qual (ag st) f cdv A outer s H E) (aH st) g):dc P w K mg base (gB P w) (k+1) f fd ps (p5 K C cls n (gn n m fl fo io g)):=by
 refine xH F S (fun vs H Q E h=> ?_) (fun cdv A outer s H vs Q E hr h=> ?_)
 ·obtain⟨Fz,y,dy,us,ds,Hz,rfl,hl,_⟩:=h
  rw[List.length_cons,hl,hn]
 ·obtain⟨Fz,y,dy,us,ds,Hz,rfl,hl,sub,hy,hdy,hne,rfl,r,w⟩:=h
  refine⟨_,hbody cdv A outer s _ E hr ⟨⟨Hz,Fz,fun _=>none,fun z _=>∀ec a H' F',cX K z ec->bv Hz Fz H' F'->E ec a H',fun _=>some y,fun _=>none⟩,lA fun z ρ er ec a H' F' σ hc ri=>er ec a H' F' hc ri.ext⟩,?_⟩
  refine⟨Fz,fw m ds,kQ hm sub hy hdy hne r (by omega) (fun p hp=>by rw[hl];exact hg p hp),?_⟩
  have hd:ds.length=n:=by rw[<-r.length];exact hl
  unfold gn at w
  rw[if_pos hd]at w
  cases e:g (fw m ds)with
  |bad=>rw[e]at w;exact w.elim
  |err c ρ=>rw[e]at w;exact w
  |ok o=>
   rw[e]at w
   cases o with
   |nx ρ=>
    intro σ' H' F' _ ri'
    rw[ah]at w
    cases hρ:ρ[0]? with
    |none=>simp only[kq,hρ]at w
    |some s0=>
     cases s0 with
     |none=>simp only[kq,hρ]at w
     |some s0=>
      cases s0 with
      |obj=>
       cases ho:ρ[io]? with
       |none=>simp only[kq,hρ,ho]at w
       |some s1=>
        cases s1 with
        |none=>simp only[kq,hρ,ho]at w
        |some s1=>
         cases s1 with
         |own d=>
          cases d with
          |lst hs=>
           cases e2:cp fl ρ with
           |none=>simp only[kq,hρ,ho,e2]at w
           |some gds=>
            simp only[kq,hρ,ho,e2]at w
            obtain⟨dx,b,A⟩:=ue ri' hρ rfl hns ho e2 hfo
            exact w H' F' dx b ri'.ext A
          |_=>simp only[kq,hρ,ho]at w
         |_=>simp only[kq,hρ,ho]at w
      |_=>simp only[kq,hρ]at w
   |_=>exact w.elim
structure mO (P:Program) (w:World) (K:PySem.W.Frag) (mg:Str->Option Value) (base:Heap) (k:Nat) (cls:Str) (n:Nat) (mi:List D->R (List (Str×D)×Str×List D)):Prop where
 ex:∃C f fd ps,dc P w K mg base (gB P w) k f fd ps (p5 K C cls n mi)/\mg cls=some (.ref C)/\Mk K C f/\cU K fd ps []
theorem sk {P:Program} {w:World} {K:PySem.W.Frag} {mg:Str->Option Value} {base:Heap} {cls qual fo:Str} {st:Stmt} {N ps fs:List Str} {k n m io:Nat} {fl:List (Str×Nat)} {g:ae->R br} (A:iP K mg cls qual st ps fs) (S:aK N ps (ag st)) (hn:ps.length=n+1) (hm:N.length=m+1) (hg:∀p∈fl++[(fo,io)],n<p.2) (hnm:n<=m) (hfo:fo∉fl.map (·.1))
  (hbody:∀(C f:Addr) (cdv:Value) (A:Around) (outer:List Env) (s:Shared) (H:Hp) (E:XK),m6 K C->(∀x∈fs,cF K C x)->bL k (A.deeper (envOfC qual (ag st) s.heap.objs.size f cdv))->
   fq [⟨0,C,fl++[(fo,io)]⟩] (eD (gB P w) P w K mg base N qual (ag st) f cdv A outer s H E) (aH st) g):mO P w K mg base (k+1) cls n (gn n m fl fo io g):=by
 obtain⟨C,f,fd,F,h1,h2,h3,h4,h5⟩:=A.ex
 exact⟨C,f,fd,ps,sj F S h1.ns hn hm hg hnm hfo fun cdv A outer s H E hr=>hbody C f cdv A outer s H E h1.cl h5 hr,h2,h3,h4⟩
noncomputable def xM (i:Nat) (ρ:ae):Bool:=(List.range ρ.length).all fun j=>j==i||(match ρ[j]? with
 |some (some s)=> !s.single
 |_=>true)
theorem lO {i j:Nat} {ρ:ae} {s:Slot} (h:xM i ρ=true) (hs:ρ[j]? =some (some s)) (hj:j≠i):s.single=false:=by
 have:=List.all_eq_true.mp h j (List.mem_range.mpr (List.getElem?_eq_some_iff.mp hs).1)
 rw[hs]at this
 simpa[hj]using this
theorem RI.setCel {K:PySem.W.Frag} {c:cA ly} {ρ:ae} {σ:St} {H F:Hp} (r:RI K c ρ σ H F) (i:Nat) {a dx b:Addr} {x:Str} {vds:List (Str×D)} {f:Str} {hs:List D} (hf:gG ly i) (hn:xM i ρ=true) (A:fV K c.H0 H F a dx b x vds f hs) (ne:∀(j:Nat) d',ρ[j]? =some (some (.own d'))->σ[j]? ≠some (some (.ref b))):
  RI K c (ρ.set i (some (.cel x vds f hs))) (σ.set i (some (.ref a))) H F where
 obj:=fun L hL hρ=>by
  rw[ac (hf L hL).1.symm]at hρ
  have:=lO hn hρ (hf L hL).1
  cases this
 odis:=fun L hL L' hL' q1 q2 b k1 k2=>by
  rw[ac (hf L hL).1.symm]at k1 q1
  rw[ac (hf L' hL').1.symm]at k2 q2
  exact r.odis L hL L' hL' q1 q2 b k1 k2
 fm:=r.fm
 ext:=r.ext
 val:=fun j e q=>by
  rcases ak q with ⟨rfl,z,l⟩|⟨z,q⟩
  ·cases z
  ·rw[ac z];exact r.val j e q
 own:=fun j e q=>by
  rcases ak q with ⟨rfl,z,l⟩|⟨z,q⟩
  ·cases z
  ·rw[ac z];exact r.own j e q
 bor:=fun j e q=>by
  rcases ak q with ⟨rfl,z,l⟩|⟨z,q⟩
  ·cases z
  ·rw[ac z];exact r.bor j e q
 bh:=r.bh
 dis:=fun j k e e' a q1 q2 q3 q4=>by
  rcases ak q1 with ⟨rfl,z,l⟩|⟨z,q1⟩
  ·cases z
  ·rcases ak q2 with ⟨rfl,z',l⟩|⟨z',q2⟩
   ·cases z'
   ·rw[ac z]at q3;rw[ac z']at q4
    exact r.dis j k e e' a q1 q2 q3 q4
 len:=by simp[r.len]
 pin:=fun L hL b h=>by rw[ac (hf L hL).1.symm];exact r.pin L hL b h
 cel:=by
  refine⟨fun j y vd g hh q=> ?_,fun j k y vd g hh s q1 q2 hs'=> ?_⟩
  ·rcases ak q with ⟨rfl,z,l⟩|⟨z,q⟩
   ·cases z
    refine⟨a,dx,b,cW (by rw[<-r.len];exact l),A,fun k d hk=> ?_⟩
    rcases ak hk with ⟨rfl,z',l'⟩|⟨z',hk⟩
    ·cases z'
    ·rw[ac z'];exact ne k d hk
   ·have:=lO hn q (Ne.symm z)
    cases this
  ·rcases ak q1 with ⟨rfl,z,l⟩|⟨z,q1⟩
   ·rcases ak q2 with ⟨rfl,z',l'⟩|⟨z',q2⟩
    ·rfl
    ·have:=lO hn q2 (Ne.symm z')
     rw[hs']at this
     cases this
   ·have:=lO hn q1 (Ne.symm z)
    cases this
section
variable {X:Cx} {e:Expr} {es:List Expr} {fs:ae->R (List D)} {cls:Str} {p pos spos pos':Pos}
noncomputable def lP (i:Nat) (cls:Str) (n:Nat) (mi:List D->R (List (Str×D)×Str×List D)) (fs:ae->R (List D)):ae->R br:=fun ρ=>if xM i ρ=true then (fs ρ>>=fun ds=>if ds.length=n then (match mi ds with
 | .ok r=> .ok (.nx (ρ.set i (some (.cel cls r.1 r.2.1 r.2.2))))
 | .err x _=> .err x ρ
 | .bad=> .bad)else .bad)else .bad
theorem uf (i:Nat) {x:Str} {k n:Nat} {mi:List D->R (List (Str×D)×Str×List D)} (hNd:X.N.Nodup) (G:mO X.prog X.w X.K X.mg X.base k cls n mi) (hr:bL (k+1) X.A) (ha:ng ly X (e::es) fs) (hi:X.N[i]? =some x:=by rfl) (hx:qu X.env.scope x:=by first|exact Or.inl rfl|exact Or.inr rfl)
  (hs:swapsWith (.Call (.Name cls p) (e::es) [] pos) (some (.Name x pos')) spos.line X.env=pure false:=by rfl) (hf:X.fn x=true\/X.env.scope.names.lookup x=some .local:=by first|exact .inl rfl|exact .inr rfl|assumption)
  (hg:Gl X cls:=by rfl) (hdb:(cls==("__debug__":Str))=false:=by decide) (he:starEach (e::es) X.env=(false,eval e X.env)::starEach es X.env:=by rfl) (hpl:(backTo pos (starEach es X.env)).any (·.1)=false:=by rfl)
  (hfr:gG ly i:=by(repeat (first|assumption|exact L2.Pu.dC|refine L2.Pu.cQ ⟨by first|decide|simp,by first|decide|simp⟩ ?_))):jk ly X (.Assign [.Name x pos'] (.Call (.Name cls p) (e::es) [] pos) spos) (lP i cls n mi fs):=by
 obtain⟨C,f,fd,ps,h1,h2,h3,h4⟩:=G.ex
 refine fun c=>PS.weak (jv hNd hi hx (oz h3 h1 hr hg h2 h4 .nil (jK c) (ha c) hdb he hpl) hs hf) fun D σ H q=> ?_
 obtain⟨F,ρ,ri,w⟩:=q
 unfold lP at w
 split at w
 ·rename_i hn
  refine⟨F,ρ,ri,(aD.bind.mp w).imp fun ds _ w1 vs H1 F1 e1 r1 y dy hy hdy hne=> ?_⟩
  rw[List.append_nil]
  split at w1
  ·rename_i hl
   have ri1:=ri.step e1
   refine⟨F1,y,dy,vs,ds,H1,rfl,by rw[r1.length];exact hl,e1.sub,hy,hdy,hne,rfl,r1,?_⟩
   split at w1
   ·rename_i r hm
    intro H' F' dx' b e' A
    refine⟨rfl,?_⟩
    have kf:∀{z:Addr},H1 z=none->c.1.H0 z=none:=fun h=>ri1.ext.keep.free h
    refine w1 _ H' F' (e1.grow.trans e'.grow) ((ri1.step e').setCel i hfr hn ⟨A.ex,A.own,A.fa,A.fd,A.fb,kf A.za,kf A.zd,kf A.zb⟩ fun j d' hj ej=> ?_)
    obtain⟨q,o,q1,q2,_⟩:=ri1.own j d' hj
    rw[ej]at q1
    cases q1
    have:=A.zb
    rw[q2]at this
    cases this
   ·exact fun ec a H' F' hc e'=>⟨_,ρ,F',hc,ri1.step e',w1⟩
   ·exact w1.elim
  ·exact w1.elim
 ·exact w.elim
end
end L2.Pu
namespace L2.Pu
open PySem PySem.Spec PyProof.Rows
variable {ly:List du}
section
variable {K:PySem.W.Frag} {F:Hp}
noncomputable def gp:List D->Option (List Bool)
 |[]=>some []
 | .bl b::r=>(gp r).map (b::·)
 |_=>none
theorem iT:∀{ds:List D} {bs:List Bool} {vs:List V},gp ds=some bs->Reps K F vs ds->vs=bs.map V.bl:=by
 intro ds
 induction ds with
 |nil=>intro bs vs h r;cases h;rw[r.nilI];rfl
 |cons d r ih=>
  intro bs vs h g
  obtain⟨v,us,rfl,r1,t⟩:=g.consI
  cases d with
  |bl b=>
   cases r1
   replace h:(gp r).map (b::·)=some bs:=h
   cases e:gp r with
   |none=>rw[e]at h;cases h
   |some ms=>rw[e]at h;cases h;rw[ih e t];rfl
  |_=>cases h
noncomputable def qf:List D->Option D
 |[.lst ds]=>(gp ds).map fun bs=> .bl (bs.any id)
 |_=>none
theorem p6:lx K (fun xs H Q=>∃(p:Addr) (bs:List Bool),xs=[.ref p]/\dr K H p (bs.map V.bl)/\Q (.bl (bs.any id)) H) qf:=by
 intro vs ds d H F Q s rv h k
 match ds,h with
 |[.lst xs],h=>
  obtain⟨v,rfl,r⟩:=rv.one
  obtain⟨a,ws,rfl,h1,h2⟩:=r.lst s
  replace h:(gp xs).map (fun bs=>D.bl (bs.any id))=some d:=h
  cases e:gp xs with
  |none=>rw[e]at h;cases h
  |some bs=>
   rw[e]at h
   cases h
   rw[iT e h2]at h1
   exact⟨a,bs,rfl,dr.of h1,k _ H F (bv.refl s) (.bl _)⟩
noncomputable def sm:List D->Option D
 |[.tup [.int i, .int j]]=>some (.int (if j<i then j else i))
 |_=>none
theorem so:lx K (fun xs H Q=>∃(p:Addr) (i j:Int),xs=[.ref p]/\eL K H p [.int i, .int j]/\Q (.int (if j<i then j else i)) H) sm:=by
 intro vs ds d H F Q s rv h k
 match ds,h with
 |[.tup [.int i, .int j]],h=>
  obtain⟨v,rfl,r⟩:=rv.one
  obtain⟨a,ws,rfl,h1,h2⟩:=r.tup s
  cases h
  rw[h2.int2]at h1
  exact⟨a,i,j,rfl,eL.of h1,k _ H F (bv.refl s) (.int _)⟩
noncomputable def sq:List D->Option D
 |[.tup [.int i, .int j]]=>some (.int (if i<j then j else i))
 |_=>none
theorem sr:lx K (fun xs H Q=>∃(p:Addr) (i j:Int),xs=[.ref p]/\eL K H p [.int i, .int j]/\Q (.int (if i<j then j else i)) H) sq:=by
 intro vs ds d H F Q s rv h k
 match ds,h with
 |[.tup [.int i, .int j]],h=>
  obtain⟨v,rfl,r⟩:=rv.one
  obtain⟨a,ws,rfl,h1,h2⟩:=r.tup s
  cases h
  rw[h2.int2]at h1
  exact⟨a,i,j,rfl,eL.of h1,k _ H F (bv.refl s) (.int _)⟩
theorem mP:bootBuiltins "any"=some (.builtin "any"):=by decide+kernel
end
section
variable {X:Cx} {a o e:Expr} {fa fo fk:ae->R D} {apos cpos pos pos2 p1 p2:Pos}
noncomputable def lQ (f:ae->R D):ae->R D:=fun ρ=>f ρ>>=fun d=>match d with
 | .lst ds=>(match f_ ds with|some ns=>if ns.length<4000 then .ok (.int (fU ns))else .bad|none=> .bad)
 | .tup ds=>(match f_ ds with|some ns=>if ns.length<4000 then .ok (.int (fU ns))else .bad|none=> .bad)
 |_=> .bad
theorem su (hc:X.calm=true) (hml:X.mg "len"=none) (hms:X.mg "set"=none) (ha:PB ly X a fa) (hgl:Gl X "len":=by rfl) (hgs:Gl X "set":=by rfl)
  (he1:starEach [a] X.env=(false,eval a X.env)::starEach [] X.env:=by rfl) (hpl1:(backTo pos2 (starEach [] X.env)).any (·.1)=false:=by rfl)
  (he2:starEach [.Call (.Name "set" p2) [a] [] pos2] X.env=(false,eval (.Call (.Name "set" p2) [a] [] pos2) X.env)::starEach [] X.env:=by rfl) (hpl2:(backTo pos (starEach [] X.env)).any (·.1)=false:=by rfl):
  PQ ly X (.Call (.Name "len" p1) [.Call (.Name "set" p2) [a] [] pos2] [] pos) (lQ fa):=fun c=>
 PE.weak (pR hc (ha c) hml hms hgl hgs he1 hpl1 he2 hpl2) fun σ H Q ⟨F,ρ,ri,w⟩=>⟨F,ρ,ri,(aD.bind.mp w).imp fun d _ w1 v H1 F1 e1 r1=>by
  cases d with
  |lst ds=>
   obtain⟨p,vs,rfl,h1,h2⟩:=r1.lst e1.sub
   cases q:f_ ds with
   |none=>simp only[q]at w1;exact w1.elim
   |some ns=>
    simp only[q]at w1
    split at w1
    ·rename_i hl
     rw[jS q h2]at h1
     exact⟨p,ns,rfl, .inl (dr.of h1),hl,w1 _ H1 F1 e1 (.int _)⟩
    ·exact w1.elim
  |tup ds=>
   obtain⟨p,vs,rfl,h1,h2⟩:=r1.tup e1.sub
   cases q:f_ ds with
   |none=>simp only[q]at w1;exact w1.elim
   |some ns=>
    simp only[q]at w1
    split at w1
    ·rename_i hl
     rw[jS q h2]at h1
     exact⟨p,ns,rfl, .inr (eL.of h1),hl,w1 _ H1 F1 e1 (.int _)⟩
    ·exact w1.elim
  |_=>exact w1.elim⟩
noncomputable def uJ (fo fk:ae->R D):ae->R D:=fun ρ=>fo ρ>>=fun d=>match d with
 | .lst ds=>fk ρ>>=fun k=>(match gp ds,k with
  |some bs, .bl b=> .ok (.int (bs.count b))
  |_,_=> .bad)
 |_=> .bad
noncomputable def uK (fo fk:ae->R D):ae->R D:=fun ρ=>fo ρ>>=fun d=>match d with
 | .lst ds=>fk ρ>>=fun k=>(match gp ds,k with
  |some bs, .bl b=>if b∈bs/\bs.length<1000 then .ok (.int (bs.idxOf b))else .bad
  |_,_=> .bad)
 |_=> .bad
theorem vX (ho:PB ly X o fo) (hk:PQ ly X a fk) (hbase:attributeBase o "count" X.env (eval o X.env)=eval o X.env:=by rfl)
  (hfew:((backTo cpos (starEach [a] X.env)).all (fun x=> !x.1)&&(backToKw cpos (keywordEach [] X.env)).all (fun x=>x.1.isSome)
   &&decide (([a]:List Expr).length+([]:List Keyword).length+(if ([]:List Keyword).isEmpty then 0 else 1)<30))=true:=by rfl)
  (hline:(apos.endLine==cpos.line)=true:=by rfl) (hs:starEach [a] X.env=(false,eval a X.env)::starEach [] X.env:=by rfl) (hplain:(backTo cpos (starEach [] X.env)).any (·.1)=false:=by rfl):
  PQ ly X (.Call (.Attribute o "count" apos) [a] [] cpos) (uJ fo fk):=fun c=>
 PE.weak (oB PySem.F.plainAttrs_list PySem.F.slot_list_count PySem.F.type_list_count pN (ho c) (bP (hk c) dF hs) hbase hfew hline hs hplain) fun σ H Q ⟨F,ρ,ri,w⟩=>⟨F,ρ,ri,(aD.bind.mp w).imp fun d _ w1 v H1 F1 e1 r1=>by
  cases d with
  |lst ds=>
   obtain⟨p,vs,rfl,h1,h2⟩:=r1.lst e1.sub
   refine⟨.inl ⟨rfl,vs,dr.of h1⟩,F1,ρ,ri.step e1,(aD.bind.mp w1).imp fun k _ w2 u H2 F2 e2 r2=> ?_⟩
   cases q:gp ds with
   |none=>simp only[q]at w2;exact w2.elim
   |some bs=>
    cases k with
    |bl b=>
     cases r2
     simp only[q]at w2
     rw[iT q h2]at h1
     exact⟨p,b,bs,rfl,rfl,dr.of (e2.keep _ _ h1),w2 _ H2 F2 (e1.trans e2) (.int _)⟩
    |_=>simp only[q]at w2;exact w2.elim
  |_=>exact w1.elim⟩
theorem vY (ho:PB ly X o fo) (hk:PQ ly X a fk) (hbase:attributeBase o "index" X.env (eval o X.env)=eval o X.env:=by rfl)
  (hfew:((backTo cpos (starEach [a] X.env)).all (fun x=> !x.1)&&(backToKw cpos (keywordEach [] X.env)).all (fun x=>x.1.isSome)
   &&decide (([a]:List Expr).length+([]:List Keyword).length+(if ([]:List Keyword).isEmpty then 0 else 1)<30))=true:=by rfl)
  (hline:(apos.endLine==cpos.line)=true:=by rfl) (hs:starEach [a] X.env=(false,eval a X.env)::starEach [] X.env:=by rfl) (hplain:(backTo cpos (starEach [] X.env)).any (·.1)=false:=by rfl):
  PQ ly X (.Call (.Attribute o "index" apos) [a] [] cpos) (uK fo fk):=fun c=>
 PE.weak (oB PySem.F.plainAttrs_list PySem.F.slot_list_index PySem.F.type_list_index pO (ho c) (bP (hk c) dF hs) hbase hfew hline hs hplain) fun σ H Q ⟨F,ρ,ri,w⟩=>⟨F,ρ,ri,(aD.bind.mp w).imp fun d _ w1 v H1 F1 e1 r1=>by
  cases d with
  |lst ds=>
   obtain⟨p,vs,rfl,h1,h2⟩:=r1.lst e1.sub
   refine⟨.inl ⟨rfl,vs,dr.of h1⟩,F1,ρ,ri.step e1,(aD.bind.mp w1).imp fun k _ w2 u H2 F2 e2 r2=> ?_⟩
   cases q:gp ds with
   |none=>simp only[q]at w2;exact w2.elim
   |some bs=>
    cases k with
    |bl b=>
     cases r2
     simp only[q]at w2
     split at w2
     ·rename_i hb
      rw[iT q h2]at h1
      exact⟨p,b,bs,rfl,rfl,dr.of (e2.keep _ _ h1),hb.1,hb.2,w2 _ H2 F2 (e1.trans e2) (.int _)⟩
     ·exact w2.elim
    |_=>simp only[q]at w2;exact w2.elim
  |_=>exact w1.elim⟩
end
end L2.Pu
namespace My
open PySem PySem.Spec PyProof.Rows L2 L2.Pu
noncomputable def mQ (i:Nat):Stmt:=PySem.Challenge.pw_tankbalance_k20_streams_come_and_go.main.body.getD i (.Pass ⟨0,0,0,0⟩)
noncomputable abbrev bw:List Str:=["came","streams","meters","passed"]
noncomputable abbrev cC:List Str:=["tanks","now","history"]
noncomputable abbrev aZ:Stmt:=eF (mQ 15) 0
noncomputable def je:ae->R br:=
 aN (lJ 0 (ck (aA 1) (gN 5)))
  (aN (lJ 0 (ck (aA 2) (gN 6)))
  (aN (lJ 0 (ck (aA 3) (gN 7)))
  (lJ 0 (ck (aA 4) (gN 8)))))
noncomputable def iU:List (Str×Nat):=[("came",5),("streams",6),("meters",7),("passed",8)]
noncomputable def aT:List D->R (List (Str×D)):=jp 4 8 iU je
noncomputable abbrev aL:Stmt:=eF (mQ 15) 1
noncomputable def bZ:ae->R br:=
 aN (ck (f2 dG (cS "Standing" "came" (ai 0)) (fC (.int 1))) (gN 3))
  (cj (kR "Standing" 4 aT (aa (aA 3) (aa (f2 dG (cS "Standing" "streams" (ai 0)) (cY (aa (cY (aa (aA 3) (aa (aA 1) (aa (aA 2) (am))))) (am)))) (aa (cS "Standing" "meters" (ai 0)) (aa (cS "Standing" "passed" (ai 0)) (am)))))))
noncomputable def aV:List D->R D:=bE 3 4 bZ
noncomputable abbrev aG:Stmt:=eF (mQ 15) 2
noncomputable def bF:ae->R br:=
 aN (ck (dZ fZ (aa (fL (c_ ["self","number","streams","meters"] [(".0", .local),("stream", .local),("number", .free)] (dP (cS "Standing" "streams" (ai 0))) (gN 1) (fT (f2 q0 (f2 dh (ai 1) (fC (.int 0))) (ai 2))) (aA 1))) (am))) (gN 2))
  (aN (ck (dZ fZ (aa (fL (c_ ["self","number","streams","meters"] [(".0", .local),("meter", .local),("number", .free)] (dP (cS "Standing" "meters" (ai 0))) (gN 1) (fT (f2 q0 (ai 1) (ai 2))) (aA 1))) (am))) (gN 3))
  (cj (kR "Standing" 4 aT (aa (cS "Standing" "came" (ai 0)) (aa (aA 2) (aa (aA 3) (aa (cS "Standing" "passed" (ai 0)) (am))))))))
noncomputable def aJ:List D->R D:=bE 2 4 bF
noncomputable abbrev bp:Stmt:=mQ 17
noncomputable def bH:ae->R br:=
 aN (eM (eR (dZ qf (aa (fL (c_ ["tanks","places"] [(".0", .local),("place", .local),("OUTSIDE", .globalImplicit),("tanks", .free)] (dP (aA 1)) (gN 1) (jb) (qY (f2 sC (ai 1) (fC (.int 0))) (f2 vC (ai 1) (ai 3))))) (am))))
  (dk "UnknownPlace" (aa (fC (.str "a place is neither the outside nor one of the tanks")) (am)))
  (bi))
  (eM (fT (f2 il (f2 dh (ai 1) (fC (.int 0))) (f2 dh (ai 1) (fC (.int 1)))))
  (dk "SamePlace" (aa (fC (.str "a stream leads from one place to another one")) (am)))
  (bi))
noncomputable def a_:List D->R D:=bE 2 2 bH
noncomputable abbrev bd:Stmt:=mQ 18
noncomputable def bU:ae->R br:=
 aN (mx 2 (c_ ["standing","numbers","there"] [(".0", .local),("stream", .local)] (dP (cS "Standing" "streams" (ai 0))) (gN 1) (jb) (f2 dh (ai 1) (fC (.int 0)))))
  (aN (eM (eR (dZ qf (aa (fL (c_ ["standing","numbers","there"] [(".0", .local),("number", .local),("there", .free)] (dP (aA 1)) (gN 1) (jb) (f2 (jR true) (ai 1) (ai 2)))) (am))))
  (dk "UnknownStream" (aa (fC (.str "a stream that is named is not there")) (am)))
  (bi))
  (eM (fT (f2 sC (lQ (ai 1)) (dZ dH (aa (ai 1) (am)))))
  (dk "Twice" (aa (fC (.str "a stream is named twice")) (am)))
  (bi)))
noncomputable def bz:List D->R D:=bE 2 3 bU
noncomputable abbrev bx:Stmt:=eF (mQ 19) 0
noncomputable def eN:ae->R br:=
 aN (eM (tK (fT (f2 sC (ai 1) (fC (.int 0)))) (fT (f2 vC (ai 1) (fC (.int 7)))))
  (dk "BadTanks" (aa (fC (.str "a cellar can't have that many tanks")) (am)))
  (bi))
  (aN (lJ 0 (ck (aA 1) (gN 2)))
  (aN (lJ 0 (ck (kR "Standing" 4 aT (aa (fC (.int 0)) (aa (cY (am)) (aa (cY (am)) (aa (cY (am)) (am)))))) (gN 3)))
  (si 0 4)))
noncomputable def ka:List (Str×Nat):=[("tanks",2),("now",3)]
noncomputable def ce:List D->R (List (Str×D)×Str×List D):=gn 1 4 ka "history" 4 eN
noncomputable abbrev aX:Stmt:=eF (mQ 19) 1
noncomputable def b_:ae->R br:=
 aN (eM (fT (f2 rf (dZ dH (aa (kX 0 "Cellar" "history") (am))) (fC (.int 60))))
  (dk "TooManyDeeds" (aa (fC (.str "no more deeds can be kept")) (am)))
  (bi))
  (aN (jr 0 "Cellar" "history" (cY (aa (aA 1) (aa (d9 0 "Cellar" "now") (am)))))
  (lM 0 "Cellar" "now" (aA 2)))
noncomputable def aQ:List Slot->List D->R (D×List Slot):=iq 1 2 2 b_
noncomputable abbrev aO:Stmt:=eF (mQ 19) 2
noncomputable def aP:ae->R br:=
 aN (jX (bC a_ 2 (aa (d9 0 "Cellar" "tanks") (aa (cY (aa (aA 1) (aa (aA 2) (am)))) (am)))))
  (aN (eM (fT (f2 rf (dZ dH (aa (cS "Standing" "streams" (d9 0 "Cellar" "now")) (am))) (fC (.int 12))))
  (dk "TooManyStreams" (aa (fC (.str "no more streams can be there")) (am)))
  (bi))
  (aN (hE (iR 0 "Cellar" "keep_deed" (fQ [0] aQ 2 (aa (cY (aa (fC (.str "stream comes")) (aa (aA 1) (aa (aA 2) (am))))) (aa (gj "Standing" "with_stream" 3 aV (d9 0 "Cellar" "now") (aa (aA 1) (aa (aA 2) (am)))) (am))))))
  (mM (cS "Standing" "came" (d9 0 "Cellar" "now")))))
noncomputable def ap:List Slot->List D->R (D×List Slot):=iq 1 2 2 aP
noncomputable abbrev aR:Stmt:=eF (mQ 19) 3
noncomputable def bj:ae->R br:=
 aN (jX (bC bz 2 (aa (d9 0 "Cellar" "now") (aa (cY (aa (aA 1) (am))) (am)))))
  (hE (iR 0 "Cellar" "keep_deed" (fQ [0] aQ 2 (aa (cY (aa (fC (.str "stream goes")) (aa (aA 1) (am)))) (aa (gj "Standing" "without_stream" 2 aJ (d9 0 "Cellar" "now") (aa (aA 1) (am))) (am))))))
noncomputable def aB:List Slot->List D->R (D×List Slot):=iq 1 1 1 bj
noncomputable abbrev bq:Stmt:=eF (mQ 19) 8
noncomputable def dL:ae->R br:=
 aN (ck (cS "Standing" "meters" (cS "Cellar" "now" (ai 0))) (gN 1))
  (cj (dZ fZ (aa (fL (c_ ["self","meters"] [(".0", .local),("stream", .local),("meters", .free)] (dP (cS "Standing" "streams" (cS "Cellar" "now" (ai 0)))) (gN 1) (jb) (f2 dG (ai 1) (cY (aa (f2 (jR false) (f2 dh (ai 1) (fC (.int 0))) (ai 2)) (am)))))) (am))))
noncomputable def bI:List D->R D:=bE 1 2 dL
noncomputable abbrev eo:Stmt:=mQ 21
noncomputable def mS:ae->R br:=
 aN (eM (fT (f2 sC (ai 1) (dZ dH (aa (ai 0) (am)))))
  (cj (f2 dh (ai 0) (ai 1)))
  (bi))
  (cj (fC (.int 0)))
noncomputable def cH:List D->R D:=bE 2 2 mS
noncomputable abbrev cM:Stmt:=mQ 22
noncomputable def hG:ae->R br:=
 aN (eM (fT (f2 il (f2 gW (bC cH 2 (aa (aA 0) (aa (fC (.int 0)) (am)))) (fC (.int 2))) (fC (.int 0))))
  (cj (bC cH 2 (aa (aA 0) (aa (aA 1) (am)))))
  (bi))
  (aN (ck (f2 gW (f2 nQ (f2 dG (f2 dG (f2 dG (bC cH 2 (aa (aA 0) (aa (aA 1) (am)))) (f2 eS (bC cH 2 (aa (aA 0) (aa (fC (.int 0)) (am)))) (fC (.int 2)))) (f2 nQ (fC (.int 7919)) (ai 1))) (fC (.int 1))) (fC (.int 48271))) (fC (.int 2147483647))) (gN 2))
  (cj (f2 gW (f2 nQ (f2 dG (ai 2) (ai 1)) (fC (.int 69621))) (fC (.int 2147483647)))))
noncomputable def cq:List D->R D:=bE 2 3 hG
noncomputable abbrev cr:Stmt:=mQ 23
noncomputable def eI (rec_:List D->R D):ae->R br:=
 eM (kl (eR (bC rec_ 2 (aa (f2 dh (ai 0) (ai 2)) (aa (f2 dh (ai 1) (ai 2)) (am))))))
  (cj (fC (.bl false)))
  (bi)
noncomputable def cN (rec_:List D->R D):ae->R br:=
 aN (eM (eR (kn "tuple" (ai 1)))
  (aN (eM (tK (kl (eR (kn "tuple" (ai 0)))) (fT (f2 q0 (dZ dH (aa (ai 0) (am))) (dZ dH (aa (ai 1) (am))))))
  (cj (fC (.bl false)))
  (bi))
  (aN (mw (jl (aa (dZ dH (aa (ai 1) (am))) (am))) (gN 2) (eI rec_))
  (cj (fC (.bl true)))))
  (bi))
  (aN (eM (eR (kn "bool" (ai 1)))
  (cj (jM (kn "bool" (ai 0)) (f2 il (ai 0) (ai 1))))
  (bi))
  (cj (jM (kn "int" (ai 0)) (jM (kI (kn "bool" (ai 0))) (f2 il (ai 0) (ai 1))))))
noncomputable def bM:Nat->List D->R D
 |0=>fun _=> .bad
 |n+1=>bE 2 3 (cN (bM n))
noncomputable def c0:List D->R D:=bM 8
noncomputable abbrev cO:Stmt:=mQ 24
noncomputable def et:ae->R br:=
 aN (ck (bC cq 2 (aa (aA 0) (aa (aA 1) (am)))) (gN 4))
  (aN (eM (fT (f2 il (f2 gW (ai 4) (fC (.int 3))) (fC (.int 2))))
  (cj (cY (aa (f2 gW (f2 eS (ai 4) (fC (.int 3))) (f2 dG (ai 3) (fC (.int 2)))) (am))))
  (bi))
  (aN (ck (f2 p_ (f2 gW (f2 eS (ai 4) (fC (.int 3))) (f2 dG (ai 2) (fC (.int 3)))) (fC (.int 1))) (gN 5))
  (aN (ck (f2 p_ (f2 gW (f2 eS (f2 eS (ai 4) (fC (.int 3))) (f2 dG (ai 2) (fC (.int 3)))) (f2 dG (ai 2) (fC (.int 3)))) (fC (.int 1))) (gN 6))
  (aN (eM (fT (f2 il (f2 gW (f2 eS (ai 4) (fC (.int 3))) (fC (.int 31))) (fC (.int 30))))
  (ck (f2 tN (fC (.int 10)) (fC (.int 20))) (gN 6))
  (bi))
  (cj (cY (aa (aA 5) (aa (aA 6) (am)))))))))
noncomputable def bN:List D->R D:=bE 4 7 et
noncomputable abbrev cP:Stmt:=mQ 25
noncomputable def eu:ae->R br:=
 aN (kJ 2 (am))
  (aN (lK 3 (rU ["BadTanks","UnknownPlace","SamePlace","UnknownStream","Twice","TooManyStreams","TooManyDeeds"])
  (aN (eM (fT (f2 il (dZ dH (aa (ai 1) (am))) (fC (.int 2))))
  (gl (ek (fC (.str "")) (iR 0 "Cellar" "stream_comes" (fQ [0] ap 2 (aa (f2 dh (ai 1) (fC (.int 0))) (aa (f2 dh (ai 1) (fC (.int 1))) (am)))))))
  (bi))
  (gl (ek (fC (.str "")) (iR 0 "Cellar" "stream_goes" (fQ [0] aB 1 (aa (f2 dh (ai 1) (fC (.int 0))) (am)))))))
  (aN (kJ 2 (aa (ko (fD [("BadTanks",false),("UnknownPlace",true),("SamePlace",false),("UnknownStream",false),("Twice",false),("TooManyStreams",false),("TooManyDeeds",false)]) (ai 3)) (aa (ko (fD [("BadTanks",false),("UnknownPlace",false),("SamePlace",true),("UnknownStream",false),("Twice",false),("TooManyStreams",false),("TooManyDeeds",false)]) (ai 3)) (aa (ko (fD [("BadTanks",false),("UnknownPlace",false),("SamePlace",false),("UnknownStream",false),("Twice",false),("TooManyStreams",true),("TooManyDeeds",false)]) (ai 3)) (am)))))
  (ck (f2 dG (ai 2) (mv (aa (ko (fD [("BadTanks",false),("UnknownPlace",false),("SamePlace",false),("UnknownStream",true),("Twice",false),("TooManyStreams",false),("TooManyDeeds",false)]) (ai 3)) (aa (ko (fD [("BadTanks",false),("UnknownPlace",false),("SamePlace",false),("UnknownStream",false),("Twice",false),("TooManyStreams",false),("TooManyDeeds",true)]) (ai 3)) (aa (kI (ko (fD [("BadTanks",true),("UnknownPlace",true),("SamePlace",true),("UnknownStream",true),("Twice",true),("TooManyStreams",true),("TooManyDeeds",true)]) (ai 3))) (am)))))) (gN 2))))
  (aN (ck (fC (.str "another")) (gN 4))
  (aN (eM (fT (f2 il (uJ (ai 2) (fC (.bl true))) (fC (.int 1))))
  (aN (kJ 5 (aa (fC (.str "UnknownPlace")) (aa (fC (.str "SamePlace")) (aa (fC (.str "TooManyStreams")) (aa (fC (.str "UnknownStream")) (aa (fC (.str "TooManyDeeds")) (aa (fC (.str "another")) (am))))))))
  (ck (f2 dh (ai 5) (uK (ai 2) (fC (.bl true)))) (gN 4)))
  (bi))
  (mM (mv (aa (aA 4) (aa (fC .non) (am))))))))
noncomputable def aY:List Slot->List D->R (D×List Slot):=iq 1 1 5 eu
noncomputable abbrev bB:Stmt:=mQ 26
noncomputable def cu:ae->R br:=
 aN (eM (fT (f2 il (dZ dH (aa (ai 3) (am))) (fC (.int 1))))
  (eM (fT (f2 (jR true) (f2 dh (ai 3) (fC (.int 0))) (fL (c_ ["_law_n","_law_streams","_law_good","_law_deed_here"] [(".0", .local),("_law_stream", .local)] (dP (aA 1)) (gN 1) (jb) (f2 dh (ai 1) (fC (.int 0)))))))
  (cj (fC (.str "UnknownStream")))
  (bi))
  (eM (tK (fT (f2 sC (dZ sm (aa (ai 3) (am))) (fC (.int 0)))) (fT (f2 vC (dZ sq (aa (ai 3) (am))) (ai 0))))
  (cj (fC (.str "UnknownPlace")))
  (eM (fT (f2 il (f2 dh (ai 3) (fC (.int 0))) (f2 dh (ai 3) (fC (.int 1)))))
  (cj (fC (.str "SamePlace")))
  (eM (fT (f2 rf (dZ dH (aa (ai 1) (am))) (fC (.int 12))))
  (cj (fC (.str "TooManyStreams")))
  (bi)))))
  (cj (f2 dh (mv (aa (fC (.str "")) (aa (fC (.str "TooManyDeeds")) (am)))) (dZ rl (aa (f2 rf (ai 2) (fC (.int 60))) (am)))))
noncomputable def aS:List D->R D:=bE 4 4 cu
noncomputable abbrev gL:Stmt:=mQ 27
noncomputable def hJ:ae->R br:=
 aN (ck (bC bN 4 (aa (aA 0) (aa (aA 6) (aa (aA 1) (aa (aA 4) (am)))))) (gN 7))
  (aN (ck (p0 [3] (bC aS 4 (aa (aA 1) (aa (aA 3) (aa (aA 5) (aa (aA 7) (am))))))) (gN 8))
  (aN (p4 9 (fQ [2] aY 1 (aa (aA 7) (am))))
  (aN (eM (fT (f2 q0 (f2 dh (ai 9) (fC (.int 0))) (ai 8)))
  (cj (fC (.bl false)))
  (bi))
  (aN (ck (f2 dG (ai 5) (dZ rl (aa (f2 il (ai 8) (fC (.str ""))) (am)))) (gN 5))
  (aN (eM (pW (fT (f2 il (ai 8) (fC (.str "")))) (fT (f2 il (dZ dH (aa (ai 7) (am))) (fC (.int 2)))))
  (aN (eM (kl (eR (bC c0 2 (aa (f2 dh (ai 9) (fC (.int 1))) (aa (aA 4) (am))))))
  (cj (fC (.bl false)))
  (bi))
  (aN (tL 3 (cY (aa (aA 4) (aa (f2 dh (ai 7) (fC (.int 0))) (aa (f2 dh (ai 7) (fC (.int 1))) (am))))))
  (ck (f2 dG (ai 4) (fC (.int 1))) (gN 4))))
  (eM (fT (f2 il (ai 8) (fC (.str ""))))
  (aN (eM (fT (f2 oR (f2 dh (ai 9) (fC (.int 1))) (fC .non)))
  (cj (fC (.bl false)))
  (bi))
  (vx [3] (mx 3 (c_ ["_law_script","_law_n","_law_cellar","_law_streams","_law_following","_law_good","_law_k","_law_deed_here","_law_word","_law_found"] [(".0", .local),("_law_stream", .local),("_law_deed_here", .free)] (dP (aA 3)) (gN 1) (fT (f2 q0 (f2 dh (ai 1) (fC (.int 0))) (f2 dh (ai 2) (fC (.int 0))))) (aA 1)))))
  (bi)))
  (eM (o2 [2,3] (kl (eR (bC c0 2 (aa (gj "Cellar" "layout" 1 bI (aA 2) am) (aa (dZ fZ (aa (fL (c_ ["_law_script","_law_n","_law_cellar","_law_streams","_law_following","_law_good","_law_k","_law_deed_here","_law_word","_law_found"] [(".0", .local),("_law_stream", .local)] (dP (aA 3)) (gN 1) (jb) (f2 dG (ai 1) (cY (aa (fC (.bl false)) (am)))))) (am))) (am)))))))
  (cj (fC (.bl false)))
  (bi)))))))
noncomputable def sv:ae->R br:=
 aN (ck (f2 gW (bC cq 2 (aa (aA 0) (aa (fC (.int 1)) (am)))) (fC (.int 8))) (gN 1))
  (aN (lP 2 "Cellar" 1 ce (aa (aA 1) (am)))
  (aN (kJ 3 (am))
  (aN (ck (fC (.int 1)) (gN 4))
  (aN (ck (fC (.int 0)) (gN 5))
  (aN (mw (jm (aa (fC (.int 2)) (aa (dZ dH (aa (ai 0) (am))) (am)))) (gN 6) (hJ))
  (cj (fC (.bl true))))))))
noncomputable def k_:List D->R D:=bE 1 10 sv
end My
namespace My
open PySem PySem.Spec PyProof.Rows L2 L2.Pu
section
variable {P:Program} {w:World} {K:PySem.W.Frag} {mg:Str->Option Value} {base:Heap}
noncomputable abbrev BN:List Str:=["ValueError","any","bool","int","isinstance","len","max","min","range","set","tuple"]
theorem eV:aK ["self","came","streams","meters","passed","self.came","self.streams","self.meters","self.passed"] ["self","came","streams","meters","passed"] (ag aZ):=⟨rfl,rfl,rfl,by decide+kernel,rfl,by decide+kernel,by decide+kernel⟩
theorem cD:∀g∈(["self.came","self.streams","self.meters","self.passed"]:List Str),¬kh (ag aZ) g:=by unfold kh;decide+kernel
theorem iV (A:iP K mg "Standing" "Standing.__init__" aZ ["self","came","streams","meters","passed"] bw) (B:Bl mg BN):gY P w K mg base 1 "Standing" 4 aT:=by
 refine qc A eV rfl rfl (by decide) (by decide) fun C f cdv A outer s H E hC hno hr=> ?_
 have hu:=dz hr
 have S:=eV
 exact ao (iO 5 hC (hno "came" (by decide)) (gZ (by decide) (by decide) (by decide) (by decide)) (aI 1) (hvis:=cD "self.came" (by decide)))
     (ao (iO 6 hC (hno "streams" (by decide)) (gZ (by decide) (by decide) (by decide) (by decide)) (aI 2) (hvis:=cD "self.streams" (by decide)))
     (ao (iO 7 hC (hno "meters" (by decide)) (gZ (by decide) (by decide) (by decide) (by decide)) (aI 3) (hvis:=cD "self.meters" (by decide)))
     (ay (iO 8 hC (hno "passed" (by decide)) (gZ (by decide) (by decide) (by decide) (by decide)) (aI 4) (hvis:=cD "self.passed" (by decide))))))
theorem cR:aK ["self","source","target","number"] ["self","source","target"] (ag aL):=⟨rfl,rfl,rfl,by decide+kernel,rfl,by decide+kernel,by decide+kernel⟩
theorem eW (A:d7 K "Standing" "with_stream" "Standing.with_stream" aL ["self","source","target"]) (B:Bl mg BN) (G_Standing_init:gY P w K mg base 1 "Standing" 4 aT) (T_Standing:dN K "Standing" bw):dJ P w K mg base 3 "Standing" "with_stream" 3 aV:=by
 refine iQ A cR rfl rfl fun f cdv A outer s H E hr=> ?_
 have hu:=dz hr
 have S:=cR
 exact ao (cZ 3 S.nd (bf bX bY (PQ.bo (cL T_Standing (by decide) (al 0))) (PQ.bo (aC))))
     (ay (ci (nZ G_Standing_init (hr.mono (by decide)) (af (aI 3) (af (bf bX bY (PQ.bo (cL T_Standing (by decide) (al 0))) (PQ.bo (dY (af (dY (af (aI 3) (af (aI 1) (af (aI 2) (av))))) (av))))) (af (cL T_Standing (by decide) (al 0)) (af (cL T_Standing (by decide) (al 0)) (av))))))))
theorem cw:aK ["self","number","streams","meters"] ["self","number"] (ag aG):=⟨rfl,rfl,rfl,by decide+kernel,rfl,by decide+kernel,by decide+kernel⟩
theorem eA (A:d7 K "Standing" "without_stream" "Standing.without_stream" aG ["self","number"]) (B:Bl mg BN) (G_Standing_init:gY P w K mg base 1 "Standing" 4 aT) (T_Standing:dN K "Standing" bw):dJ P w K mg base 3 "Standing" "without_stream" 2 aJ:=by
 refine iQ A cw rfl rfl fun f cdv A outer s H E hr=> ?_
 have hu:=dz hr
 have S:=cw
 exact ao (cZ 2 S.nd (eQ dt gC (B.no "tuple" (by decide)) L2.Pu.di (bc (PQ.bo (gU (ba.of rfl (by first|decide+kernel|rfl)) rfl (ij (cL T_Standing (by decide) (al 0))) (fun _ _ _=>d_ 1 (show ([".0","stream","number"]:List Str).Nodup by decide+kernel)) (fun _ _ _=>nM (bS lZ jQ (PQ.bo (dR hu (al 1) (PQ.bo (aC)))) (al 2))) (fun _ _ _=>aI 1))) (bD))))
     (ao (cZ 3 S.nd (eQ dt gC (B.no "tuple" (by decide)) L2.Pu.di (bc (PQ.bo (gU (ba.of rfl (by first|decide+kernel|rfl)) rfl (ij (cL T_Standing (by decide) (al 0))) (fun _ _ _=>d_ 1 (show ([".0","meter","number"]:List Str).Nodup by decide+kernel)) (fun _ _ _=>nM (bS lZ jQ (al 1) (al 2))) (fun _ _ _=>aI 1))) (bD))))
     (ay (ci (nZ G_Standing_init (hr.mono (by decide)) (af (cL T_Standing (by decide) (al 0)) (af (aI 2) (af (aI 3) (af (cL T_Standing (by decide) (al 0)) (av)))))))))
theorem eX:aK ["tanks","places"] ["tanks","places"] (ag bp):=⟨rfl,rfl,rfl,by decide+kernel,rfl,by decide+kernel,by decide+kernel⟩
theorem iW (A:cG K mg "refuse_places" bp ["tanks","places"]) (B:Bl mg BN) {t_OUTSIDE:Tok} (gl_OUTSIDE:mg "OUTSIDE"=some (.int 0 t_OUTSIDE)) (E_SamePlace:eg K mg "SamePlace") (E_UnknownPlace:eg K mg "UnknownPlace"):d5 P w K mg base 1 "refuse_places" 2 a_:=by
 refine ft A eX rfl rfl fun f cdv A outer s H E hr=> ?_
 have hu:=dz hr
 have S:=eX
 exact ao (de (j4 (PQ.bo (bQ (kH rfl) p6 (B.no "any" (by decide)) L2.Pu.mP (bc (PQ.bo (gU (ba.of rfl (by first|decide+kernel|rfl)) rfl (ij (aI 1)) (fun _ _ _=>d_ 1 (show ([".0","place","OUTSIDE","tanks"]:List Str).Nodup by decide+kernel)) (fun _ _ _=>iH) (fun _ _ _=>yi (j3 l_ jP (al 1) (PQ.bo (jj rfl gl_OUTSIDE))) (qZ (j3 qB nP (al 1) (al 3)))))) (bD)))))
     (ay (fz E_UnknownPlace rfl (af (bR) (av))))
     (bt))
     (ay (de (bS eE d0 (PQ.bo (dR hu (al 1) (PQ.bo (aC)))) (PQ.bo (dR hu (al 1) (PQ.bo (aC)))))
     (ay (fz E_SamePlace rfl (af (bR) (av))))
     (bt)))
theorem eJ:aK ["standing","numbers","there"] ["standing","numbers"] (ag bd):=⟨rfl,rfl,rfl,by decide+kernel,rfl,by decide+kernel,by decide+kernel⟩
theorem ir (A:cG K mg "refuse_numbers" bd ["standing","numbers"]) (B:Bl mg BN) (E_Twice:eg K mg "Twice") (E_UnknownStream:eg K mg "UnknownStream") (T_Standing:dN K "Standing" bw):d5 P w K mg base 1 "refuse_numbers" 2 bz:=by
 refine ft A eJ rfl rfl fun f cdv A outer s H E hr=> ?_
 have hu:=dz hr
 have S:=eJ
 exact ao (u3 2 (ba.of rfl (by first|decide+kernel|rfl)) rfl S.nd (ij (cL T_Standing (by decide) (al 0))) (fun _ _ _=>d_ 1 (show ([".0","stream"]:List Str).Nodup by decide+kernel)) (fun _ _ _=>iH) (fun _ _ _=>dR hu (al 1) (PQ.bo (aC))))
     (ao (de (j4 (PQ.bo (bQ (kH rfl) p6 (B.no "any" (by decide)) L2.Pu.mP (bc (PQ.bo (gU (ba.of rfl (by first|decide+kernel|rfl)) rfl (ij (aI 1)) (fun _ _ _=>d_ 1 (show ([".0","number","there"]:List Str).Nodup by decide+kernel)) (fun _ _ _=>iH) (fun _ _ _=>tP hu (al 1) (al 2)))) (bD)))))
     (ay (fz E_UnknownStream rfl (af (bR) (av))))
     (bt))
     (ay (de (bS l_ jP (PQ.bo (su rfl (B.no "len" (by decide)) (B.no "set" (by decide)) (al 1))) (PQ.bo (bQ bG cK (B.no "len" (by decide)) PySem.boot_len (bc (al 1) (bD)))))
     (ay (fz E_Twice rfl (af (bR) (av))))
     (bt))))
theorem gq:aK ["self","tanks","self.tanks","self.now","self.history"] ["self","tanks"] (ag bx):=⟨rfl,rfl,rfl,by decide+kernel,rfl,by decide+kernel,by decide+kernel⟩
theorem eB:∀g∈(["self.tanks","self.now","self.history"]:List Str),¬kh (ag bx) g:=by unfold kh;decide+kernel
theorem kb (A:iP K mg "Cellar" "Cellar.__init__" bx ["self","tanks"] cC) (B:Bl mg BN) (G_Standing_init:gY P w K mg base 1 "Standing" 4 aT) {t_MOST_TANKS:Tok} (gl_MOST_TANKS:mg "MOST_TANKS"=some (.int 7 t_MOST_TANKS)) (E_BadTanks:eg K mg "BadTanks"):mO P w K mg base 3 "Cellar" 1 ce:=by
 refine sk A gq rfl rfl (by decide) (by decide) (by decide) fun C f cdv A outer s H E hC hno hr=> ?_
 have hu:=dz hr
 have S:=gq
 exact ao (de (qr.t (vw (bS l_ jP (al 1) (PQ.bo (aC))) (qX (bS qB nP (al 1) (PQ.bo (jj rfl gl_MOST_TANKS))))))
     (ay (fz E_BadTanks rfl (af (bR) (av))))
     (bt))
     (ao (iO 2 hC (hno "tanks" (by decide)) (gZ (by decide) (by decide) (by decide) (by decide)) (aI 1) (hvis:=eB "self.tanks" (by decide)))
     (ao (iO 3 hC (hno "now" (by decide)) (gZ (by decide) (by decide) (by decide) (by decide)) (nZ G_Standing_init (hr.mono (by decide)) (af (aC) (af (dY (av)) (af (dY (av)) (af (dY (av)) (av)))))) (hvis:=eB "self.now" (by decide)))
     (ay (vW 4 hC (hno "history" (by decide)) (gZ (by decide) (by decide) (by decide) (by decide)) (hvis:=eB "self.history" (by decide))))))
theorem dO:aK ["self","deed","after"] ["self","deed","after"] (ag aX):=⟨rfl,rfl,rfl,by decide+kernel,rfl,by decide+kernel,by decide+kernel⟩
theorem gH (A:d7 K "Cellar" "keep_deed" "Cellar.keep_deed" aX ["self","deed","after"]) (B:Bl mg BN) {t_MOST_DEEDS:Tok} (gl_MOST_DEEDS:mg "MOST_DEEDS"=some (.int 60 t_MOST_DEEDS)) (E_TooManyDeeds:eg K mg "TooManyDeeds") (T_Cellar:dN K "Cellar" cC):fM P w K mg base 1 "Cellar" "keep_deed" 2 aQ:=by
 refine jY A dO rfl rfl (by decide) fun f cdv A outer s H E hr=> ?_
 have hu:=dz hr
 have S:=dO
 exact ao (de (bS oo lC (PQ.bo (bQ bG cK (B.no "len" (by decide)) PySem.boot_len (bc (vU 0 T_Cellar (by decide)) (bD)))) (PQ.bo (jj rfl gl_MOST_DEEDS)))
     (ay (fz E_TooManyDeeds rfl (af (bR) (av))))
     (bt))
     (ao (se 0 T_Cellar (by decide) (dY (af (aI 1) (af (g_ 0 T_Cellar (by decide)) (av)))))
     (ay (sd 0 T_Cellar (by decide) (aI 2))))
theorem da:aK ["self","source","target"] ["self","source","target"] (ag aO):=⟨rfl,rfl,rfl,by decide+kernel,rfl,by decide+kernel,by decide+kernel⟩
theorem fF (A:d7 K "Cellar" "stream_comes" "Cellar.stream_comes" aO ["self","source","target"]) (B:Bl mg BN) (G_refuse_places:d5 P w K mg base 1 "refuse_places" 2 a_) (G_Cellar_keep_deed:fM P w K mg base 1 "Cellar" "keep_deed" 2 aQ) (G_Standing_with_stream:dJ P w K mg base 3 "Standing" "with_stream" 3 aV) {t_MOST_STREAMS:Tok} (gl_MOST_STREAMS:mg "MOST_STREAMS"=some (.int 12 t_MOST_STREAMS)) (E_TooManyStreams:eg K mg "TooManyStreams") (T_Cellar:dN K "Cellar" cC) (T_Standing:dN K "Standing" bw):fM P w K mg base 4 "Cellar" "stream_comes" 2 ap:=by
 refine jY A da rfl rfl (by decide) fun f cdv A outer s H E hr=> ?_
 have hu:=dz hr
 have S:=da
 exact ao (rW (iK G_refuse_places (hr.mono (by decide)) (af (g_ 0 T_Cellar (by decide)) (af (dY (af (aI 1) (af (aI 2) (av)))) (av)))))
     (ao (de (bS oo lC (PQ.bo (bQ bG cK (B.no "len" (by decide)) PySem.boot_len (bc (PQ.bo (cL T_Standing (by decide) (PQ.bo (g_ 0 T_Cellar (by decide))))) (bD)))) (PQ.bo (jj rfl gl_MOST_STREAMS)))
     (ay (fz E_TooManyStreams rfl (af (bR) (av))))
     (bt))
     (ao (p3 (lL 0 G_Cellar_keep_deed (hr.mono (by decide)) (af (dY (af (bR) (af (aI 1) (af (aI 2) (av))))) (af (rM G_Standing_with_stream (hr.mono (by decide)) (g_ 0 T_Cellar (by decide)) (af (aI 1) (af (aI 2) (av)))) (av)))))
     (ay (sf (cL T_Standing (by decide) (PQ.bo (g_ 0 T_Cellar (by decide))))))))
theorem df:aK ["self","number"] ["self","number"] (ag aR):=⟨rfl,rfl,rfl,by decide+kernel,rfl,by decide+kernel,by decide+kernel⟩
theorem fR (A:d7 K "Cellar" "stream_goes" "Cellar.stream_goes" aR ["self","number"]) (B:Bl mg BN) (G_refuse_numbers:d5 P w K mg base 1 "refuse_numbers" 2 bz) (G_Cellar_keep_deed:fM P w K mg base 1 "Cellar" "keep_deed" 2 aQ) (G_Standing_without_stream:dJ P w K mg base 3 "Standing" "without_stream" 2 aJ) (T_Cellar:dN K "Cellar" cC):fM P w K mg base 4 "Cellar" "stream_goes" 1 aB:=by
 refine jY A df rfl rfl (by decide) fun f cdv A outer s H E hr=> ?_
 have hu:=dz hr
 have S:=df
 exact ao (rW (iK G_refuse_numbers (hr.mono (by decide)) (af (g_ 0 T_Cellar (by decide)) (af (dY (af (aI 1) (av))) (av)))))
     (ay (p3 (lL 0 G_Cellar_keep_deed (hr.mono (by decide)) (af (dY (af (bR) (af (aI 1) (av)))) (af (rM G_Standing_without_stream (hr.mono (by decide)) (g_ 0 T_Cellar (by decide)) (af (aI 1) (av))) (av))))))
theorem eY:aK ["self","meters"] ["self"] (ag bq):=⟨rfl,rfl,rfl,by decide+kernel,rfl,by decide+kernel,by decide+kernel⟩
theorem iX (A:d7 K "Cellar" "layout" "Cellar.layout" bq ["self"]) (B:Bl mg BN) (T_Cellar:dN K "Cellar" cC) (T_Standing:dN K "Standing" bw):dJ P w K mg base 1 "Cellar" "layout" 1 bI:=by
 refine iQ A eY rfl rfl fun f cdv A outer s H E hr=> ?_
 have hu:=dz hr
 have S:=eY
 exact ao (cZ 1 S.nd (cL T_Standing (by decide) (PQ.bo (cL T_Cellar (by decide) (al 0)))))
     (ay (ci (eQ dt gC (B.no "tuple" (by decide)) L2.Pu.di (bc (PQ.bo (gU (ba.of rfl (by first|decide+kernel|rfl)) rfl (ij (cL T_Standing (by decide) (PQ.bo (cL T_Cellar (by decide) (al 0))))) (fun _ _ _=>d_ 1 (show ([".0","stream","meters"]:List Str).Nodup by decide+kernel)) (fun _ _ _=>iH) (fun _ _ _=>bf bX bY (al 1) (PQ.bo (dY (af (yo hu (PQ.bo (dR hu (al 1) (PQ.bo (aC)))) (al 2)) (av))))))) (bD)))))
theorem l0:aK ["_law_script","_law_k"] ["_law_script","_law_k"] (ag eo):=⟨rfl,rfl,rfl,by decide+kernel,rfl,by decide+kernel,by decide+kernel⟩
theorem qg (A:cG K mg "_law_at" eo ["_law_script","_law_k"]) (B:Bl mg BN):d5 P w K mg base 1 "_law_at" 2 cH:=by
 refine ft A l0 rfl rfl fun f cdv A outer s H E hr=> ?_
 have hu:=dz hr
 have S:=l0
 exact ao (de (bS l_ jP (al 1) (PQ.bo (bQ bG cK (B.no "len" (by decide)) PySem.boot_len (bc (al 0) (bD)))))
     (ay (ci (dR hu (al 0) (al 1))))
     (bt))
     (ay (ci (aC)))
theorem j6:aK ["_law_script","_law_k","_law_mixed"] ["_law_script","_law_k"] (ag cM):=⟨rfl,rfl,rfl,by decide+kernel,rfl,by decide+kernel,by decide+kernel⟩
theorem mT (A:cG K mg "_law_cell" cM ["_law_script","_law_k"]) (B:Bl mg BN) (G_law_at:d5 P w K mg base 1 "_law_at" 2 cH):d5 P w K mg base 2 "_law_cell" 2 cq:=by
 refine ft A j6 rfl rfl fun f cdv A outer s H E hr=> ?_
 have hu:=dz hr
 have S:=j6
 exact ao (de (bS eE d0 (PQ.bo (bf fg dQ (PQ.bo (iK G_law_at (hr.mono (by decide)) (af (aI 0) (af (aC) (av))))) (PQ.bo (aC)))) (PQ.bo (aC)))
     (ay (ci (iK G_law_at (hr.mono (by decide)) (af (aI 0) (af (aI 1) (av))))))
     (bt))
     (ao (cZ 2 S.nd (bf fg dQ (PQ.bo (bf lD lE (PQ.bo (bf bX bY (PQ.bo (bf bX bY (PQ.bo (bf bX bY (PQ.bo (iK G_law_at (hr.mono (by decide)) (af (aI 0) (af (aI 1) (av))))) (PQ.bo (bf gA eT (PQ.bo (iK G_law_at (hr.mono (by decide)) (af (aI 0) (af (aC) (av))))) (PQ.bo (aC)))))) (PQ.bo (bf lD lE (PQ.bo (aC)) (al 1))))) (PQ.bo (aC)))) (PQ.bo (aC)))) (PQ.bo (aC))))
     (ay (ci (bf fg dQ (PQ.bo (bf lD lE (PQ.bo (bf bX bY (al 2) (al 1))) (PQ.bo (aC)))) (PQ.bo (aC))))))
theorem j7:aK ["_law_found","_law_due","_law_k"] ["_law_found","_law_due"] (ag cr):=⟨rfl,rfl,rfl,by decide+kernel,rfl,by decide+kernel,by decide+kernel⟩
theorem iu (A:cG K mg "_law_same" cr ["_law_found","_law_due"]) (B:Bl mg BN):∀n:Nat,d5 P w K mg base n "_law_same" 2 (bM n)
 |0=>rn A rfl
 |n+1=>by
  have Grec:=iu A B n
  refine ft A j7 rfl rfl fun f cdv A outer s H E hr=> ?_
  have hu:=dz hr
  have S:=j7
  exact ao (de (j4 (PQ.bo (kM (.inr (.inr (.inr (.inl rfl)))) (B.no "isinstance" (by decide)) (B.no "tuple" (by decide)) L2.Pu.di (al 1))))
     (ao (de (qr.t (vw (oP (j4 (PQ.bo (kM (.inr (.inr (.inr (.inl rfl)))) (B.no "isinstance" (by decide)) (B.no "tuple" (by decide)) L2.Pu.di (al 0))))) (qX (bS lZ jQ (PQ.bo (bQ bG cK (B.no "len" (by decide)) PySem.boot_len (bc (al 0) (bD)))) (PQ.bo (bQ bG cK (B.no "len" (by decide)) PySem.boot_len (bc (al 1) (bD))))))))
     (ay (ci (jL)))
     (bt))
     (ao (uD PassesOwn.leaving rfl (r9 (B.no "range" (by decide)) (af (bQ bG cK (B.no "len" (by decide)) PySem.boot_len (bc (al 1) (bD))) (av))) (d_ 2 S.nd)
     (ay (de (oP (j4 (PQ.bo (iK Grec (hr.mono (by omega)) (af (dR hu (al 0) (al 2)) (af (dR hu (al 1) (al 2)) (av)))))))
     (ay (ci (jL)))
     (bt))))
     (ay (ci (jL)))))
     (bt))
     (ao (de (j4 (PQ.bo (kM (.inl rfl) (B.no "isinstance" (by decide)) (B.no "bool" (by decide)) L2.Pu.iL (al 1))))
     (ay (ci (q_ (kM (.inl rfl) (B.no "isinstance" (by decide)) (B.no "bool" (by decide)) L2.Pu.iL (al 0)) (qZ (j3 eE d0 (al 0) (al 1))))))
     (bt))
     (ay (ci (q_ (kM (.inr (.inl rfl)) (B.no "isinstance" (by decide)) (B.no "int" (by decide)) L2.Pu.jT (al 0)) (q_ (uC (kM (.inl rfl) (B.no "isinstance" (by decide)) (B.no "bool" (by decide)) L2.Pu.iL (al 0))) (qZ (j3 eE d0 (al 0) (al 1))))))))
theorem mU (A:cG K mg "_law_same" cr ["_law_found","_law_due"]) (B:Bl mg BN):d5 P w K mg base 8 "_law_same" 2 c0:=(iu A B 8).mono (by decide)
theorem j8:aK ["_law_script","_law_k","_law_n","_law_following","_law_cell_here","_law_source","_law_target"] ["_law_script","_law_k","_law_n","_law_following"] (ag cO):=⟨rfl,rfl,rfl,by decide+kernel,rfl,by decide+kernel,by decide+kernel⟩
theorem mV (A:cG K mg "_law_deed" cO ["_law_script","_law_k","_law_n","_law_following"]) (B:Bl mg BN) (G_law_cell:d5 P w K mg base 2 "_law_cell" 2 cq):d5 P w K mg base 3 "_law_deed" 4 bN:=by
 refine ft A j8 rfl rfl fun f cdv A outer s H E hr=> ?_
 have hu:=dz hr
 have S:=j8
 exact ao (cZ 4 S.nd (iK G_law_cell (hr.mono (by decide)) (af (aI 0) (af (aI 1) (av)))))
     (ao (de (bS eE d0 (PQ.bo (bf fg dQ (al 4) (PQ.bo (aC)))) (PQ.bo (aC)))
     (ay (ci (dY (af (bf fg dQ (PQ.bo (bf gA eT (al 4) (PQ.bo (aC)))) (PQ.bo (bf bX bY (al 3) (PQ.bo (aC))))) (av)))))
     (bt))
     (ao (cZ 5 S.nd (bf qz oQ (PQ.bo (bf fg dQ (PQ.bo (bf gA eT (al 4) (PQ.bo (aC)))) (PQ.bo (bf bX bY (al 2) (PQ.bo (aC)))))) (PQ.bo (aC))))
     (ao (cZ 6 S.nd (bf qz oQ (PQ.bo (bf fg dQ (PQ.bo (bf gA eT (PQ.bo (bf gA eT (al 4) (PQ.bo (aC)))) (PQ.bo (bf bX bY (al 2) (PQ.bo (aC)))))) (PQ.bo (bf bX bY (al 2) (PQ.bo (aC)))))) (PQ.bo (aC))))
     (ao (de (bS eE d0 (PQ.bo (bf fg dQ (PQ.bo (bf gA eT (al 4) (PQ.bo (aC)))) (PQ.bo (aC)))) (PQ.bo (aC)))
     (ay (cZ 6 S.nd (bf v6 tO (PQ.bo (aC)) (PQ.bo (aC)))))
     (bt))
     (ay (ci (dY (af (aI 5) (af (aI 6) (av))))))))))
theorem j9:aK ["_law_cellar","_law_deed_here","_law_kinds","e","_law_word","_law_words"] ["_law_cellar","_law_deed_here"] (ag cP):=⟨rfl,rfl,rfl,by decide+kernel,rfl,by decide+kernel,by decide+kernel⟩
theorem mW (A:cG K mg "_law_done" cP ["_law_cellar","_law_deed_here"]) (B:Bl mg BN) (G_Cellar_stream_comes:fM P w K mg base 4 "Cellar" "stream_comes" 2 ap) (G_Cellar_stream_goes:fM P w K mg base 4 "Cellar" "stream_goes" 1 aB) (I_SamePlace:jV K mg "SamePlace" (fD [("BadTanks",false),("UnknownPlace",false),("SamePlace",true),("UnknownStream",false),("Twice",false),("TooManyStreams",false),("TooManyDeeds",false)])) (I_TooManyDeeds:jV K mg "TooManyDeeds" (fD [("BadTanks",false),("UnknownPlace",false),("SamePlace",false),("UnknownStream",false),("Twice",false),("TooManyStreams",false),("TooManyDeeds",true)])) (I_TooManyStreams:jV K mg "TooManyStreams" (fD [("BadTanks",false),("UnknownPlace",false),("SamePlace",false),("UnknownStream",false),("Twice",false),("TooManyStreams",true),("TooManyDeeds",false)])) (I_UnknownPlace:jV K mg "UnknownPlace" (fD [("BadTanks",false),("UnknownPlace",true),("SamePlace",false),("UnknownStream",false),("Twice",false),("TooManyStreams",false),("TooManyDeeds",false)])) (I_UnknownStream:jV K mg "UnknownStream" (fD [("BadTanks",false),("UnknownPlace",false),("SamePlace",false),("UnknownStream",true),("Twice",false),("TooManyStreams",false),("TooManyDeeds",false)])) (I_ValueError:jU K (.type "ValueError") (fD [("BadTanks",true),("UnknownPlace",true),("SamePlace",true),("UnknownStream",true),("Twice",true),("TooManyStreams",true),("TooManyDeeds",true)])) (U_CellarError:o_ K mg "CellarError" (rU ["BadTanks","UnknownPlace","SamePlace","UnknownStream","Twice","TooManyStreams","TooManyDeeds"])):xu P w K mg base 5 "_law_done" 1 1 aY:=by
 refine vS [⟨0,0,[]⟩] A j9 rfl rfl (by decide) (by decide) (by decide) fun f cdv A outer s H E hr=> ?_
 have hu:=dz hr
 have S:=j9
 exact ao (lz 2 S.nd (av))
     (ao (xo 3 jH S.nd U_CellarError (fun _ _=>ao (de (bS eE d0 (PQ.bo (bQ bG cK (B.no "len" (by decide)) PySem.boot_len (bc (al 1) (bD)))) (PQ.bo (aC)))
     (ay (sg (sh (bR) (lL 0 G_Cellar_stream_comes (hr.mono (by decide)) (af (dR hu (al 1) (PQ.bo (aC))) (af (dR hu (al 1) (PQ.bo (aC))) (av)))))))
     (bt))
     (ay (sg (sh (bR) (lL 0 G_Cellar_stream_goes (hr.mono (by decide)) (af (dR hu (al 1) (PQ.bo (aC))) (av)))))))
     (fun _=>ao (lz 2 S.nd (af (jW I_UnknownPlace (B.no "isinstance" (by decide)) (al 3)) (af (jW I_SamePlace (B.no "isinstance" (by decide)) (al 3)) (af (jW I_TooManyStreams (B.no "isinstance" (by decide)) (al 3)) (av)))))
     (ay (cZ 2 S.nd (bf bX bY (al 2) (PQ.bo (qW (af (jW I_UnknownStream (B.no "isinstance" (by decide)) (al 3)) (af (jW I_TooManyDeeds (B.no "isinstance" (by decide)) (al 3)) (af (uC (vP I_ValueError L2.Pu.jd (B.no "ValueError" (by decide)) (B.no "isinstance" (by decide)) (al 3))) (av)))))))))))
     (ao (cZ 4 S.nd (bR))
     (ao (de (bS eE d0 (PQ.bo (vX (al 2) (jL))) (PQ.bo (aC)))
     (ao (lz 5 S.nd (af (bR) (af (bR) (af (bR) (af (bR) (af (bR) (af (bR) (av))))))))
     (ay (cZ 4 S.nd (dR hu (al 5) (PQ.bo (vY (al 2) (jL)))))))
     (bt))
     (ay (sf (qW (af (aI 4) (af (uB) (av)))))))))
theorem fN:aK ["_law_n","_law_streams","_law_good","_law_deed_here"] ["_law_n","_law_streams","_law_good","_law_deed_here"] (ag bB):=⟨rfl,rfl,rfl,by decide+kernel,rfl,by decide+kernel,by decide+kernel⟩
theorem jf (A:cG K mg "_law_due_word" bB ["_law_n","_law_streams","_law_good","_law_deed_here"]) (B:Bl mg BN):d5 P w K mg base 1 "_law_due_word" 4 aS:=by
 refine ft A fN rfl rfl fun f cdv A outer s H E hr=> ?_
 have hu:=dz hr
 have S:=fN
 exact ao (de (bS eE d0 (PQ.bo (bQ bG cK (B.no "len" (by decide)) PySem.boot_len (bc (al 3) (bD)))) (PQ.bo (aC)))
     (ay (de (tU hu (PQ.bo (dR hu (al 3) (PQ.bo (aC)))) (PQ.bo (gU (ba.of rfl (by first|decide+kernel|rfl)) rfl (ij (aI 1)) (fun _ _ _=>d_ 1 (show ([".0","_law_stream"]:List Str).Nodup by decide+kernel)) (fun _ _ _=>iH) (fun _ _ _=>dR hu (al 1) (PQ.bo (aC))))))
     (ay (ci (bR)))
     (bt)))
     (ay (de (qr.t (vw (bS l_ jP (PQ.bo (bQ (pL rfl) so (B.no "min" (by decide)) L2.Pu.rq (bc (al 3) (bD)))) (PQ.bo (aC))) (qX (bS qB nP (PQ.bo (bQ (pM rfl) sr (B.no "max" (by decide)) L2.Pu.rs (bc (al 3) (bD)))) (al 0)))))
     (ay (ci (bR)))
     (ay (de (bS eE d0 (PQ.bo (dR hu (al 3) (PQ.bo (aC)))) (PQ.bo (dR hu (al 3) (PQ.bo (aC)))))
     (ay (ci (bR)))
     (ay (de (bS oo lC (PQ.bo (bQ bG cK (B.no "len" (by decide)) PySem.boot_len (bc (al 1) (bD)))) (PQ.bo (aC)))
     (ay (ci (bR)))
     (bt))))))))
     (ay (ci (dR hu (PQ.bo (qW (af (bR) (af (bR) (av))))) (PQ.bo (eQ ku oS (B.no "int" (by decide)) L2.Pu.jT (bc (PQ.bo (j3 oo lC (al 2) (PQ.bo (aC)))) (bD)))))))
theorem sx:aK ["_law_script","_law_n","_law_cellar","_law_streams","_law_following","_law_good","_law_k","_law_deed_here","_law_word","_law_found"] ["_law_script"] (ag gL):=⟨rfl,rfl,rfl,by decide+kernel,rfl,by decide+kernel,by decide+kernel⟩
theorem vZ {f:Addr} {fd:FuncData} (F:oG K "law" "law" gL f fd) (B:Bl mg BN) (G_law_cell:d5 P w K mg base 2 "_law_cell" 2 cq) (G_Cellar_init:mO P w K mg base 3 "Cellar" 1 ce) (G_law_deed:d5 P w K mg base 3 "_law_deed" 4 bN) (G_law_due_word:d5 P w K mg base 1 "_law_due_word" 4 aS) (G_law_done:xu P w K mg base 5 "_law_done" 1 1 aY) (G_law_same:d5 P w K mg base 8 "_law_same" 2 c0) (G_Cellar_layout:dJ P w K mg base 1 "Cellar" "layout" 1 bI):dc P w K mg base (gB P w) 9 f fd ["_law_script"] (pV K 1 k_):=by
 refine vA F sx rfl rfl fun cdv A outer s H E hr=> ?_
 have hu:=dz hr
 have S:=sx
 exact ao (cZ 1 S.nd (bf fg dQ (PQ.bo (iK G_law_cell (hr.mono (by decide)) (af (aI 0) (af (aC) (av))))) (PQ.bo (aC))))
     (ao (uf 2 S.nd G_Cellar_init (hr.mono (by decide)) (af (aI 1) (av)))
     (ao (lz 3 S.nd (av))
     (ao (cZ 4 S.nd (aC))
     (ao (cZ 5 S.nd (aC))
     (ao (uD PassesOwn.leaving rfl (ra (B.no "range" (by decide)) (af (aC) (af (bQ bG cK (B.no "len" (by decide)) PySem.boot_len (bc (al 0) (bD))) (av)))) (d_ 6 S.nd)
     (ao (cZ 7 S.nd (iK G_law_deed (hr.mono (by decide)) (af (aI 0) (af (aI 6) (af (aI 1) (af (aI 4) (av)))))))
     (ao (cZ 8 S.nd (vR [3] (iK G_law_due_word (hr.mono (by decide)) (af (aI 1) (af (aI 3) (af (aI 5) (af (aI 7) (av))))))))
     (ao (vV 9 S.nd (yt G_law_done (hr.mono (by decide)) (ua 2 (vT (af (aI 7) (av))))))
     (ao (de (bS lZ jQ (PQ.bo (dR hu (al 9) (PQ.bo (aC)))) (al 8))
     (ay (ci (jL)))
     (bt))
     (ao (cZ 5 S.nd (bf bX bY (al 5) (PQ.bo (eQ ku oS (B.no "int" (by decide)) L2.Pu.jT (bc (PQ.bo (j3 eE d0 (al 8) (PQ.bo (bR)))) (bD))))))
     (ao (de (qr.t (xa (bS eE d0 (al 8) (PQ.bo (bR))) (vv (bS eE d0 (PQ.bo (bQ bG cK (B.no "len" (by decide)) PySem.boot_len (bc (al 7) (bD)))) (PQ.bo (aC))))))
     (ao (de (oP (j4 (PQ.bo (iK G_law_same (hr.mono (by decide)) (af (dR hu (al 9) (PQ.bo (aC))) (af (aI 4) (av)))))))
     (ay (ci (jL)))
     (bt))
     (ao (re 3 (dY (af (aI 4) (af (dR hu (al 7) (PQ.bo (aC))) (af (dR hu (al 7) (PQ.bo (aC))) (av))))))
     (ay (cZ 4 S.nd (bf bX bY (al 4) (PQ.bo (aC)))))))
     (ay (de (bS eE d0 (al 8) (PQ.bo (bR)))
     (ao (de (bS sN nS (PQ.bo (dR hu (al 9) (PQ.bo (aC)))) (PQ.bo (uB)))
     (ay (ci (jL)))
     (bt))
     (ay (xb [3] (vB 3 (ba.of rfl (by first|decide+kernel|rfl)) rfl S.nd (ij (aI 3)) (fun _ _ _=>d_ 1 (show ([".0","_law_stream","_law_deed_here"]:List Str).Nodup by decide+kernel)) (fun _ _ _=>nM (bS lZ jQ (PQ.bo (dR hu (al 1) (PQ.bo (aC)))) (PQ.bo (dR hu (al 2) (PQ.bo (aC)))))) (fun _ _ _=>aI 1)))))
     (bt))))
     (ay (de (ud [2,3] (oP (j4 (PQ.bo (iK G_law_same (hr.mono (by decide)) (af (u4 G_Cellar_layout (hr.mono (by decide)) (aI 2)) (af (eQ dt gC (B.no "tuple" (by decide)) L2.Pu.di (bc (PQ.bo (gU (ba.of rfl (by first|decide+kernel|rfl)) rfl (ij (aI 3)) (fun _ _ _=>d_ 1 (show ([".0","_law_stream"]:List Str).Nodup by decide+kernel)) (fun _ _ _=>iH) (fun _ _ _=>bf bX bY (al 1) (PQ.bo (dY (af (jL) (av))))))) (bD))) (av))))))))
     (ay (ci (jL)))
     (bt))))))))))
     (ay (ci (jL))))))))
theorem v_ {l:PySem.W.OpenLaw} {h:Heap} {fa f1 f2 f3 f4 f5 f6 f7 f8 f9 f10 f11 f12 f13 f14 f15 f16 f17 C_Standing C_Cellar C_BadTanks C_CellarError C_SamePlace C_TooManyDeeds C_TooManyStreams C_Twice C_UnknownPlace C_UnknownStream:Addr} (X:K.In h) (G:h.Ns mainGlobals mg) (hfa:mg "law"=some (.ref fa))
  {od1 an1 od2 an2 od3 an3 od4 an4 od5 an5 od6 an6 od7 an7 od8 an8 od9 an9 od10 an10 od11 an11 od12 an12 od13 an13 od14 an14 od15 an15 od16 an16 od17 an17:Option Addr} {sl1 sl2 sl3 sl4 sl5 sl6 sl7 sl8 sl9 sl10 sl11 sl12 sl13 sl14 sl15 sl16 sl17:Array (Option Value)} {oc1 kV1 dc1 pm1 cd1 ct1 oc2 kV2 dc2 pm2 cd2 ct2 oc3 kV3 dc3 pm3 cd3 ct3 oc4 kV4 dc4 pm4 cd4 ct4 oc5 kV5 dc5 pm5 cd5 ct5 oc6 kV6 dc6 pm6 cd6 ct6 oc7 kV7 dc7 pm7 cd7 ct7 oc8 kV8 dc8 pm8 cd8 ct8 oc9 kV9 dc9 pm9 cd9 ct9 oc10 kV10 dc10 pm10 cd10 ct10 oc11 kV11 dc11 pm11 cd11 ct11 oc12 kV12 dc12 pm12 cd12 ct12 oc13 kV13 dc13 pm13 cd13 ct13 oc14 kV14 dc14 pm14 cd14 ct14 oc15 kV15 dc15 pm15 cd15 ct15 oc16 kV16 dc16 pm16 cd16 ct16 oc17 kV17 dc17 pm17 cd17 ct17:Value}
  (n_Standing:PySem.W.nsIn K mainGlobals "Standing"=some (some (.ref C_Standing)))
  (n_Cellar:PySem.W.nsIn K mainGlobals "Cellar"=some (some (.ref C_Cellar)))
  (n_BadTanks:PySem.W.nsIn K mainGlobals "BadTanks"=some (some (.ref C_BadTanks)))
  (n_CellarError:PySem.W.nsIn K mainGlobals "CellarError"=some (some (.ref C_CellarError)))
  (n_SamePlace:PySem.W.nsIn K mainGlobals "SamePlace"=some (some (.ref C_SamePlace)))
  (n_TooManyDeeds:PySem.W.nsIn K mainGlobals "TooManyDeeds"=some (some (.ref C_TooManyDeeds)))
  (n_TooManyStreams:PySem.W.nsIn K mainGlobals "TooManyStreams"=some (some (.ref C_TooManyStreams)))
  (n_Twice:PySem.W.nsIn K mainGlobals "Twice"=some (some (.ref C_Twice)))
  (n_UnknownPlace:PySem.W.nsIn K mainGlobals "UnknownPlace"=some (some (.ref C_UnknownPlace)))
  (n_UnknownStream:PySem.W.nsIn K mainGlobals "UnknownStream"=some (some (.ref C_UnknownStream)))
  (p1_Standing:PySem.W.plainGet K C_Standing Str.empty=true)
  (p2_Standing:PySem.W.hasDictIn K C_Standing=true)
  (p3_Standing:PySem.W.plainOver K C_Standing=true)
  (p4_Standing:PySem.W.findIn K (.ref C_Standing) "__setattr__"=some (some (.builtin "object.__setattr__")))
  (q_Standing_came:PySem.W.findIn K (.ref C_Standing) "came"=some none)
  (q_Standing_streams:PySem.W.findIn K (.ref C_Standing) "streams"=some none)
  (q_Standing_meters:PySem.W.findIn K (.ref C_Standing) "meters"=some none)
  (q_Standing_passed:PySem.W.findIn K (.ref C_Standing) "passed"=some none)
  (p5_Standing:PySem.W.makesIn K C_Standing=true)
  (p6_Standing:PySem.W.keepIn K (.ref C_Standing)=true)
  (p1_Cellar:PySem.W.plainGet K C_Cellar Str.empty=true)
  (p2_Cellar:PySem.W.hasDictIn K C_Cellar=true)
  (p3_Cellar:PySem.W.plainOver K C_Cellar=true)
  (p4_Cellar:PySem.W.findIn K (.ref C_Cellar) "__setattr__"=some (some (.builtin "object.__setattr__")))
  (q_Cellar_tanks:PySem.W.findIn K (.ref C_Cellar) "tanks"=some none)
  (q_Cellar_now:PySem.W.findIn K (.ref C_Cellar) "now"=some none)
  (q_Cellar_history:PySem.W.findIn K (.ref C_Cellar) "history"=some none)
  (p5_Cellar:PySem.W.makesIn K C_Cellar=true)
  (p6_Cellar:PySem.W.keepIn K (.ref C_Cellar)=true)
  (a1:PySem.W.findIn K (.ref C_Standing) "__init__"=some (some (.ref f1)))
  (l1:K.lookup f1=some ⟨oc1,od1, .func (PySem.W.fnOf "__init__" "Standing.__init__" (b0 aZ) (aH aZ) (ag aZ) .none kV1 dc1 pm1 an1 cd1 ct1),sl1⟩)
  (c1:PySem.W.codeIn K cd1 "Standing.__init__"=true)
  (k1:PySem.W.keepIn K (.ref f1)=true)
  (i1:PySem.W.isFn K (.ref f1)=true)
  (a2:PySem.W.findIn K (.ref C_Standing) "with_stream"=some (some (.ref f2)))
  (l2:K.lookup f2=some ⟨oc2,od2, .func (PySem.W.fnOf "with_stream" "Standing.with_stream" (b0 aL) (aH aL) (ag aL) .none kV2 dc2 pm2 an2 cd2 ct2),sl2⟩)
  (c2:PySem.W.codeIn K cd2 "Standing.with_stream"=true)
  (k2:PySem.W.keepIn K (.ref f2)=true)
  (i2:PySem.W.isFn K (.ref f2)=true)
  (a3:PySem.W.findIn K (.ref C_Standing) "without_stream"=some (some (.ref f3)))
  (l3:K.lookup f3=some ⟨oc3,od3, .func (PySem.W.fnOf "without_stream" "Standing.without_stream" (b0 aG) (aH aG) (ag aG) .none kV3 dc3 pm3 an3 cd3 ct3),sl3⟩)
  (c3:PySem.W.codeIn K cd3 "Standing.without_stream"=true)
  (k3:PySem.W.keepIn K (.ref f3)=true)
  (i3:PySem.W.isFn K (.ref f3)=true)
  (a4:PySem.W.nsIn K mainGlobals "refuse_places"=some (some (.ref f4)))
  (l4:K.lookup f4=some ⟨oc4,od4, .func (PySem.W.fnOf "refuse_places" "refuse_places" (b0 bp) (aH bp) (ag bp) .none kV4 dc4 pm4 an4 cd4 ct4),sl4⟩)
  (c4:PySem.W.codeIn K cd4 "refuse_places"=true)
  (k4:PySem.W.keepIn K (.ref f4)=true)
  (a5:PySem.W.nsIn K mainGlobals "refuse_numbers"=some (some (.ref f5)))
  (l5:K.lookup f5=some ⟨oc5,od5, .func (PySem.W.fnOf "refuse_numbers" "refuse_numbers" (b0 bd) (aH bd) (ag bd) .none kV5 dc5 pm5 an5 cd5 ct5),sl5⟩)
  (c5:PySem.W.codeIn K cd5 "refuse_numbers"=true)
  (k5:PySem.W.keepIn K (.ref f5)=true)
  (a6:PySem.W.findIn K (.ref C_Cellar) "__init__"=some (some (.ref f6)))
  (l6:K.lookup f6=some ⟨oc6,od6, .func (PySem.W.fnOf "__init__" "Cellar.__init__" (b0 bx) (aH bx) (ag bx) .none kV6 dc6 pm6 an6 cd6 ct6),sl6⟩)
  (c6:PySem.W.codeIn K cd6 "Cellar.__init__"=true)
  (k6:PySem.W.keepIn K (.ref f6)=true)
  (i6:PySem.W.isFn K (.ref f6)=true)
  (a7:PySem.W.findIn K (.ref C_Cellar) "keep_deed"=some (some (.ref f7)))
  (l7:K.lookup f7=some ⟨oc7,od7, .func (PySem.W.fnOf "keep_deed" "Cellar.keep_deed" (b0 aX) (aH aX) (ag aX) .none kV7 dc7 pm7 an7 cd7 ct7),sl7⟩)
  (c7:PySem.W.codeIn K cd7 "Cellar.keep_deed"=true)
  (k7:PySem.W.keepIn K (.ref f7)=true)
  (i7:PySem.W.isFn K (.ref f7)=true)
  (a8:PySem.W.findIn K (.ref C_Cellar) "stream_comes"=some (some (.ref f8)))
  (l8:K.lookup f8=some ⟨oc8,od8, .func (PySem.W.fnOf "stream_comes" "Cellar.stream_comes" (b0 aO) (aH aO) (ag aO) .none kV8 dc8 pm8 an8 cd8 ct8),sl8⟩)
  (c8:PySem.W.codeIn K cd8 "Cellar.stream_comes"=true)
  (k8:PySem.W.keepIn K (.ref f8)=true)
  (i8:PySem.W.isFn K (.ref f8)=true)
  (a9:PySem.W.findIn K (.ref C_Cellar) "stream_goes"=some (some (.ref f9)))
  (l9:K.lookup f9=some ⟨oc9,od9, .func (PySem.W.fnOf "stream_goes" "Cellar.stream_goes" (b0 aR) (aH aR) (ag aR) .none kV9 dc9 pm9 an9 cd9 ct9),sl9⟩)
  (c9:PySem.W.codeIn K cd9 "Cellar.stream_goes"=true)
  (k9:PySem.W.keepIn K (.ref f9)=true)
  (i9:PySem.W.isFn K (.ref f9)=true)
  (a10:PySem.W.findIn K (.ref C_Cellar) "layout"=some (some (.ref f10)))
  (l10:K.lookup f10=some ⟨oc10,od10, .func (PySem.W.fnOf "layout" "Cellar.layout" (b0 bq) (aH bq) (ag bq) .none kV10 dc10 pm10 an10 cd10 ct10),sl10⟩)
  (c10:PySem.W.codeIn K cd10 "Cellar.layout"=true)
  (k10:PySem.W.keepIn K (.ref f10)=true)
  (i10:PySem.W.isFn K (.ref f10)=true)
  (a11:PySem.W.nsIn K mainGlobals "_law_at"=some (some (.ref f11)))
  (l11:K.lookup f11=some ⟨oc11,od11, .func (PySem.W.fnOf "_law_at" "_law_at" (b0 eo) (aH eo) (ag eo) .none kV11 dc11 pm11 an11 cd11 ct11),sl11⟩)
  (c11:PySem.W.codeIn K cd11 "_law_at"=true)
  (k11:PySem.W.keepIn K (.ref f11)=true)
  (a12:PySem.W.nsIn K mainGlobals "_law_cell"=some (some (.ref f12)))
  (l12:K.lookup f12=some ⟨oc12,od12, .func (PySem.W.fnOf "_law_cell" "_law_cell" (b0 cM) (aH cM) (ag cM) .none kV12 dc12 pm12 an12 cd12 ct12),sl12⟩)
  (c12:PySem.W.codeIn K cd12 "_law_cell"=true)
  (k12:PySem.W.keepIn K (.ref f12)=true)
  (a13:PySem.W.nsIn K mainGlobals "_law_same"=some (some (.ref f13)))
  (l13:K.lookup f13=some ⟨oc13,od13, .func (PySem.W.fnOf "_law_same" "_law_same" (b0 cr) (aH cr) (ag cr) .none kV13 dc13 pm13 an13 cd13 ct13),sl13⟩)
  (c13:PySem.W.codeIn K cd13 "_law_same"=true)
  (k13:PySem.W.keepIn K (.ref f13)=true)
  (a14:PySem.W.nsIn K mainGlobals "_law_deed"=some (some (.ref f14)))
  (l14:K.lookup f14=some ⟨oc14,od14, .func (PySem.W.fnOf "_law_deed" "_law_deed" (b0 cO) (aH cO) (ag cO) .none kV14 dc14 pm14 an14 cd14 ct14),sl14⟩)
  (c14:PySem.W.codeIn K cd14 "_law_deed"=true)
  (k14:PySem.W.keepIn K (.ref f14)=true)
  (a15:PySem.W.nsIn K mainGlobals "_law_done"=some (some (.ref f15)))
  (l15:K.lookup f15=some ⟨oc15,od15, .func (PySem.W.fnOf "_law_done" "_law_done" (b0 cP) (aH cP) (ag cP) .none kV15 dc15 pm15 an15 cd15 ct15),sl15⟩)
  (c15:PySem.W.codeIn K cd15 "_law_done"=true)
  (k15:PySem.W.keepIn K (.ref f15)=true)
  (a16:PySem.W.nsIn K mainGlobals "_law_due_word"=some (some (.ref f16)))
  (l16:K.lookup f16=some ⟨oc16,od16, .func (PySem.W.fnOf "_law_due_word" "_law_due_word" (b0 bB) (aH bB) (ag bB) .none kV16 dc16 pm16 an16 cd16 ct16),sl16⟩)
  (c16:PySem.W.codeIn K cd16 "_law_due_word"=true)
  (k16:PySem.W.keepIn K (.ref f16)=true)
  (a17:PySem.W.nsIn K mainGlobals "law"=some (some (.ref f17)))
  (l17:K.lookup f17=some ⟨oc17,od17, .func (PySem.W.fnOf "law" "law" (b0 gL) (aH gL) (ag gL) .none kV17 dc17 pm17 an17 cd17 ct17),sl17⟩)
  (c17:PySem.W.codeIn K cd17 "law"=true)
  (k17:PySem.W.keepIn K (.ref f17)=true)
  (s1:PySem.W.specialIn K (.builtin "object.__class__") "__get__"=some (some (.builtin "getset_descriptor.__get__")))
  (s2:PySem.W.takesIn K (.builtin "object.__class__")=some true)
  (e1_BadTanks:PySem.W.excIn K C_BadTanks jI "ValueError.__new__"=true)
  (e2_BadTanks:PySem.W.findIn K (.ref C_BadTanks) "__getattribute__"=some (some (.builtin "BaseException.__getattribute__")))
  (e3_BadTanks:PySem.W.findIn K (.ref C_BadTanks) "__getattr__"=some none)
  (e4_BadTanks:PySem.W.findIn K (.ref C_BadTanks) "__class__"=some (some (.builtin "object.__class__")))
  (e5_BadTanks:PySem.W.mroIn K C_BadTanks (.type "object")=some true)
  (e6_BadTanks:PySem.W.mroIn K C_BadTanks (.type "BaseException")=some true)
  (e7_BadTanks:PySem.W.mroIn K C_BadTanks (.ref C_BadTanks)=some true)
  (e1_UnknownPlace:PySem.W.excIn K C_UnknownPlace jI "ValueError.__new__"=true)
  (e2_UnknownPlace:PySem.W.findIn K (.ref C_UnknownPlace) "__getattribute__"=some (some (.builtin "BaseException.__getattribute__")))
  (e3_UnknownPlace:PySem.W.findIn K (.ref C_UnknownPlace) "__getattr__"=some none)
  (e4_UnknownPlace:PySem.W.findIn K (.ref C_UnknownPlace) "__class__"=some (some (.builtin "object.__class__")))
  (e5_UnknownPlace:PySem.W.mroIn K C_UnknownPlace (.type "object")=some true)
  (e6_UnknownPlace:PySem.W.mroIn K C_UnknownPlace (.type "BaseException")=some true)
  (e7_UnknownPlace:PySem.W.mroIn K C_UnknownPlace (.ref C_UnknownPlace)=some true)
  (e1_SamePlace:PySem.W.excIn K C_SamePlace jI "ValueError.__new__"=true)
  (e2_SamePlace:PySem.W.findIn K (.ref C_SamePlace) "__getattribute__"=some (some (.builtin "BaseException.__getattribute__")))
  (e3_SamePlace:PySem.W.findIn K (.ref C_SamePlace) "__getattr__"=some none)
  (e4_SamePlace:PySem.W.findIn K (.ref C_SamePlace) "__class__"=some (some (.builtin "object.__class__")))
  (e5_SamePlace:PySem.W.mroIn K C_SamePlace (.type "object")=some true)
  (e6_SamePlace:PySem.W.mroIn K C_SamePlace (.type "BaseException")=some true)
  (e7_SamePlace:PySem.W.mroIn K C_SamePlace (.ref C_SamePlace)=some true)
  (e1_UnknownStream:PySem.W.excIn K C_UnknownStream jI "ValueError.__new__"=true)
  (e2_UnknownStream:PySem.W.findIn K (.ref C_UnknownStream) "__getattribute__"=some (some (.builtin "BaseException.__getattribute__")))
  (e3_UnknownStream:PySem.W.findIn K (.ref C_UnknownStream) "__getattr__"=some none)
  (e4_UnknownStream:PySem.W.findIn K (.ref C_UnknownStream) "__class__"=some (some (.builtin "object.__class__")))
  (e5_UnknownStream:PySem.W.mroIn K C_UnknownStream (.type "object")=some true)
  (e6_UnknownStream:PySem.W.mroIn K C_UnknownStream (.type "BaseException")=some true)
  (e7_UnknownStream:PySem.W.mroIn K C_UnknownStream (.ref C_UnknownStream)=some true)
  (e1_Twice:PySem.W.excIn K C_Twice jI "ValueError.__new__"=true)
  (e2_Twice:PySem.W.findIn K (.ref C_Twice) "__getattribute__"=some (some (.builtin "BaseException.__getattribute__")))
  (e3_Twice:PySem.W.findIn K (.ref C_Twice) "__getattr__"=some none)
  (e4_Twice:PySem.W.findIn K (.ref C_Twice) "__class__"=some (some (.builtin "object.__class__")))
  (e5_Twice:PySem.W.mroIn K C_Twice (.type "object")=some true)
  (e6_Twice:PySem.W.mroIn K C_Twice (.type "BaseException")=some true)
  (e7_Twice:PySem.W.mroIn K C_Twice (.ref C_Twice)=some true)
  (e1_TooManyStreams:PySem.W.excIn K C_TooManyStreams jI "ValueError.__new__"=true)
  (e2_TooManyStreams:PySem.W.findIn K (.ref C_TooManyStreams) "__getattribute__"=some (some (.builtin "BaseException.__getattribute__")))
  (e3_TooManyStreams:PySem.W.findIn K (.ref C_TooManyStreams) "__getattr__"=some none)
  (e4_TooManyStreams:PySem.W.findIn K (.ref C_TooManyStreams) "__class__"=some (some (.builtin "object.__class__")))
  (e5_TooManyStreams:PySem.W.mroIn K C_TooManyStreams (.type "object")=some true)
  (e6_TooManyStreams:PySem.W.mroIn K C_TooManyStreams (.type "BaseException")=some true)
  (e7_TooManyStreams:PySem.W.mroIn K C_TooManyStreams (.ref C_TooManyStreams)=some true)
  (e1_TooManyDeeds:PySem.W.excIn K C_TooManyDeeds jI "ValueError.__new__"=true)
  (e2_TooManyDeeds:PySem.W.findIn K (.ref C_TooManyDeeds) "__getattribute__"=some (some (.builtin "BaseException.__getattribute__")))
  (e3_TooManyDeeds:PySem.W.findIn K (.ref C_TooManyDeeds) "__getattr__"=some none)
  (e4_TooManyDeeds:PySem.W.findIn K (.ref C_TooManyDeeds) "__class__"=some (some (.builtin "object.__class__")))
  (e5_TooManyDeeds:PySem.W.mroIn K C_TooManyDeeds (.type "object")=some true)
  (e6_TooManyDeeds:PySem.W.mroIn K C_TooManyDeeds (.type "BaseException")=some true)
  (e7_TooManyDeeds:PySem.W.mroIn K C_TooManyDeeds (.ref C_TooManyDeeds)=some true)
  (e1_CellarError:PySem.W.excIn K C_CellarError jI "ValueError.__new__"=true)
  (e6_CellarError:PySem.W.mroIn K C_CellarError (.type "BaseException")=some true)
  (m_CellarError_BadTanks:PySem.W.mroIn K C_BadTanks (.ref C_CellarError)=some true)
  (m_CellarError_SamePlace:PySem.W.mroIn K C_SamePlace (.ref C_CellarError)=some true)
  (m_CellarError_TooManyDeeds:PySem.W.mroIn K C_TooManyDeeds (.ref C_CellarError)=some true)
  (m_CellarError_TooManyStreams:PySem.W.mroIn K C_TooManyStreams (.ref C_CellarError)=some true)
  (m_CellarError_Twice:PySem.W.mroIn K C_Twice (.ref C_CellarError)=some true)
  (m_CellarError_UnknownPlace:PySem.W.mroIn K C_UnknownPlace (.ref C_CellarError)=some true)
  (m_CellarError_UnknownStream:PySem.W.mroIn K C_UnknownStream (.ref C_CellarError)=some true)
  (m_SamePlace_BadTanks:PySem.W.mroIn K C_BadTanks (.ref C_SamePlace)=some false)
  (m_SamePlace_SamePlace:PySem.W.mroIn K C_SamePlace (.ref C_SamePlace)=some true)
  (m_SamePlace_TooManyDeeds:PySem.W.mroIn K C_TooManyDeeds (.ref C_SamePlace)=some false)
  (m_SamePlace_TooManyStreams:PySem.W.mroIn K C_TooManyStreams (.ref C_SamePlace)=some false)
  (m_SamePlace_Twice:PySem.W.mroIn K C_Twice (.ref C_SamePlace)=some false)
  (m_SamePlace_UnknownPlace:PySem.W.mroIn K C_UnknownPlace (.ref C_SamePlace)=some false)
  (m_SamePlace_UnknownStream:PySem.W.mroIn K C_UnknownStream (.ref C_SamePlace)=some false)
  (m_TooManyDeeds_BadTanks:PySem.W.mroIn K C_BadTanks (.ref C_TooManyDeeds)=some false)
  (m_TooManyDeeds_SamePlace:PySem.W.mroIn K C_SamePlace (.ref C_TooManyDeeds)=some false)
  (m_TooManyDeeds_TooManyDeeds:PySem.W.mroIn K C_TooManyDeeds (.ref C_TooManyDeeds)=some true)
  (m_TooManyDeeds_TooManyStreams:PySem.W.mroIn K C_TooManyStreams (.ref C_TooManyDeeds)=some false)
  (m_TooManyDeeds_Twice:PySem.W.mroIn K C_Twice (.ref C_TooManyDeeds)=some false)
  (m_TooManyDeeds_UnknownPlace:PySem.W.mroIn K C_UnknownPlace (.ref C_TooManyDeeds)=some false)
  (m_TooManyDeeds_UnknownStream:PySem.W.mroIn K C_UnknownStream (.ref C_TooManyDeeds)=some false)
  (m_TooManyStreams_BadTanks:PySem.W.mroIn K C_BadTanks (.ref C_TooManyStreams)=some false)
  (m_TooManyStreams_SamePlace:PySem.W.mroIn K C_SamePlace (.ref C_TooManyStreams)=some false)
  (m_TooManyStreams_TooManyDeeds:PySem.W.mroIn K C_TooManyDeeds (.ref C_TooManyStreams)=some false)
  (m_TooManyStreams_TooManyStreams:PySem.W.mroIn K C_TooManyStreams (.ref C_TooManyStreams)=some true)
  (m_TooManyStreams_Twice:PySem.W.mroIn K C_Twice (.ref C_TooManyStreams)=some false)
  (m_TooManyStreams_UnknownPlace:PySem.W.mroIn K C_UnknownPlace (.ref C_TooManyStreams)=some false)
  (m_TooManyStreams_UnknownStream:PySem.W.mroIn K C_UnknownStream (.ref C_TooManyStreams)=some false)
  (m_UnknownPlace_BadTanks:PySem.W.mroIn K C_BadTanks (.ref C_UnknownPlace)=some false)
  (m_UnknownPlace_SamePlace:PySem.W.mroIn K C_SamePlace (.ref C_UnknownPlace)=some false)
  (m_UnknownPlace_TooManyDeeds:PySem.W.mroIn K C_TooManyDeeds (.ref C_UnknownPlace)=some false)
  (m_UnknownPlace_TooManyStreams:PySem.W.mroIn K C_TooManyStreams (.ref C_UnknownPlace)=some false)
  (m_UnknownPlace_Twice:PySem.W.mroIn K C_Twice (.ref C_UnknownPlace)=some false)
  (m_UnknownPlace_UnknownPlace:PySem.W.mroIn K C_UnknownPlace (.ref C_UnknownPlace)=some true)
  (m_UnknownPlace_UnknownStream:PySem.W.mroIn K C_UnknownStream (.ref C_UnknownPlace)=some false)
  (m_UnknownStream_BadTanks:PySem.W.mroIn K C_BadTanks (.ref C_UnknownStream)=some false)
  (m_UnknownStream_SamePlace:PySem.W.mroIn K C_SamePlace (.ref C_UnknownStream)=some false)
  (m_UnknownStream_TooManyDeeds:PySem.W.mroIn K C_TooManyDeeds (.ref C_UnknownStream)=some false)
  (m_UnknownStream_TooManyStreams:PySem.W.mroIn K C_TooManyStreams (.ref C_UnknownStream)=some false)
  (m_UnknownStream_Twice:PySem.W.mroIn K C_Twice (.ref C_UnknownStream)=some false)
  (m_UnknownStream_UnknownPlace:PySem.W.mroIn K C_UnknownPlace (.ref C_UnknownStream)=some false)
  (m_UnknownStream_UnknownStream:PySem.W.mroIn K C_UnknownStream (.ref C_UnknownStream)=some true)
  (m_ValueError_BadTanks:PySem.W.mroIn K C_BadTanks (.type "ValueError")=some true)
  (m_ValueError_SamePlace:PySem.W.mroIn K C_SamePlace (.type "ValueError")=some true)
  (m_ValueError_TooManyDeeds:PySem.W.mroIn K C_TooManyDeeds (.type "ValueError")=some true)
  (m_ValueError_TooManyStreams:PySem.W.mroIn K C_TooManyStreams (.type "ValueError")=some true)
  (m_ValueError_Twice:PySem.W.mroIn K C_Twice (.type "ValueError")=some true)
  (m_ValueError_UnknownPlace:PySem.W.mroIn K C_UnknownPlace (.type "ValueError")=some true)
  (m_ValueError_UnknownStream:PySem.W.mroIn K C_UnknownStream (.type "ValueError")=some true)
  {t_MOST_DEEDS:Tok}
  (v_MOST_DEEDS:PySem.W.nsIn K mainGlobals "MOST_DEEDS"=some (some (.int 60 t_MOST_DEEDS)))
  {t_MOST_STREAMS:Tok}
  (v_MOST_STREAMS:PySem.W.nsIn K mainGlobals "MOST_STREAMS"=some (some (.int 12 t_MOST_STREAMS)))
  {t_MOST_TANKS:Tok}
  (v_MOST_TANKS:PySem.W.nsIn K mainGlobals "MOST_TANKS"=some (some (.int 7 t_MOST_TANKS)))
  {t_OUTSIDE:Tok}
  (v_OUTSIDE:PySem.W.nsIn K mainGlobals "OUTSIDE"=some (some (.int 0 t_OUTSIDE)))
  (z0:PySem.W.nsIn K mainGlobals "ValueError"=some none)
  (z1:PySem.W.nsIn K mainGlobals "any"=some none)
  (z2:PySem.W.nsIn K mainGlobals "bool"=some none)
  (z3:PySem.W.nsIn K mainGlobals "int"=some none)
  (z4:PySem.W.nsIn K mainGlobals "isinstance"=some none)
  (z5:PySem.W.nsIn K mainGlobals "len"=some none)
  (z6:PySem.W.nsIn K mainGlobals "max"=some none)
  (z7:PySem.W.nsIn K mainGlobals "min"=some none)
  (z8:PySem.W.nsIn K mainGlobals "range"=some none)
  (z9:PySem.W.nsIn K mainGlobals "set"=some none)
  (z10:PySem.W.nsIn K mainGlobals "tuple"=some none)
  :∃fd:FuncData,(∀(s:Shared) (v:Value),BindsTo s fd ⟨[v],[]⟩ [("_law_script",v)])/\∀base:Heap,K.In base->base.Ns mainGlobals mg->dc l.prog w K mg base (gB l.prog w) 9 fa fd ["_law_script"] (pV K 1 k_):=by
 have e:=hfa.symm.trans (PySem.W.mg_of X G a17)
 cases e
 have B:Bl mg BN:=⟨fun x hx=>by
  simp only[BN,List.mem_cons,List.not_mem_nil,or_false]at hx
  rcases hx with rfl|rfl|rfl|rfl|rfl|rfl|rfl|rfl|rfl|rfl|rfl
  ·exact PySem.W.mg_none_of X G z0
  ·exact PySem.W.mg_none_of X G z1
  ·exact PySem.W.mg_none_of X G z2
  ·exact PySem.W.mg_none_of X G z3
  ·exact PySem.W.mg_none_of X G z4
  ·exact PySem.W.mg_none_of X G z5
  ·exact PySem.W.mg_none_of X G z6
  ·exact PySem.W.mg_none_of X G z7
  ·exact PySem.W.mg_none_of X G z8
  ·exact PySem.W.mg_none_of X G z9
  ·exact PySem.W.mg_none_of X G z10⟩
 have cl_Standing:gi K "Standing" C_Standing:=⟨n_Standing,p1_Standing,p2_Standing,p3_Standing,p4_Standing⟩
 have no_Standing:∀x∈bw,cF K C_Standing x:=fun x hx=>by
  simp only[bw,List.mem_cons,List.not_mem_nil,or_false]at hx
  rcases hx with rfl|rfl|rfl|rfl
  ·exact q_Standing_came
  ·exact q_Standing_streams
  ·exact q_Standing_meters
  ·exact q_Standing_passed
 have T_Standing:dN K "Standing" bw:=⟨_,cl_Standing,no_Standing⟩
 have cl_Cellar:gi K "Cellar" C_Cellar:=⟨n_Cellar,p1_Cellar,p2_Cellar,p3_Cellar,p4_Cellar⟩
 have no_Cellar:∀x∈cC,cF K C_Cellar x:=fun x hx=>by
  simp only[cC,List.mem_cons,List.not_mem_nil,or_false]at hx
  rcases hx with rfl|rfl|rfl
  ·exact q_Cellar_tanks
  ·exact q_Cellar_now
  ·exact q_Cellar_history
 have T_Cellar:dN K "Cellar" cC:=⟨_,cl_Cellar,no_Cellar⟩
 have F1:=cm (st:=aZ) l1 c1 k1
 have b1:=F1.binds (ps:=["self","came","streams","meters","passed"]) fun _ _ _ _ _ _ us hl=>yW (P:=fun us=>bindArgs _ ⟨us,[]⟩=pure (List.zip _ us)) (fun _ _ _ _ _=>rfl) us hl
 have A1:iP K mg "Standing" "Standing.__init__" aZ ["self","came","streams","meters","passed"] bw:=⟨_,_,_,F1,cl_Standing,PySem.W.mg_of X G n_Standing,⟨p5_Standing,a1,i1,p6_Standing⟩,b1,no_Standing⟩
 have F2:=cm (st:=aL) l2 c2 k2
 have b2:=F2.binds (ps:=["self","source","target"]) fun _ _ _ _ _ _ us hl=>xJ (P:=fun us=>bindArgs _ ⟨us,[]⟩=pure (List.zip _ us)) (fun _ _ _=>rfl) us hl
 have A2:d7 K "Standing" "with_stream" "Standing.with_stream" aL ["self","source","target"]:=⟨_,_,_,F2,cl_Standing,⟨a2,i2,k2⟩,b2⟩
 have F3:=cm (st:=aG) l3 c3 k3
 have b3:=F3.binds (ps:=["self","number"]) fun _ _ _ _ _ _ us hl=>sD (P:=fun us=>bindArgs _ ⟨us,[]⟩=pure (List.zip _ us)) (fun _ _=>rfl) us hl
 have A3:d7 K "Standing" "without_stream" "Standing.without_stream" aG ["self","number"]:=⟨_,_,_,F3,cl_Standing,⟨a3,i3,k3⟩,b3⟩
 have F4:=cm (st:=bp) l4 c4 k4
 have b4:=F4.binds (ps:=["tanks","places"]) fun _ _ _ _ _ _ us hl=>sD (P:=fun us=>bindArgs _ ⟨us,[]⟩=pure (List.zip _ us)) (fun _ _=>rfl) us hl
 have A4:cG K mg "refuse_places" bp ["tanks","places"]:=⟨_,_,F4,PySem.W.mg_of X G a4,b4⟩
 have F5:=cm (st:=bd) l5 c5 k5
 have b5:=F5.binds (ps:=["standing","numbers"]) fun _ _ _ _ _ _ us hl=>sD (P:=fun us=>bindArgs _ ⟨us,[]⟩=pure (List.zip _ us)) (fun _ _=>rfl) us hl
 have A5:cG K mg "refuse_numbers" bd ["standing","numbers"]:=⟨_,_,F5,PySem.W.mg_of X G a5,b5⟩
 have F6:=cm (st:=bx) l6 c6 k6
 have b6:=F6.binds (ps:=["self","tanks"]) fun _ _ _ _ _ _ us hl=>sD (P:=fun us=>bindArgs _ ⟨us,[]⟩=pure (List.zip _ us)) (fun _ _=>rfl) us hl
 have A6:iP K mg "Cellar" "Cellar.__init__" bx ["self","tanks"] cC:=⟨_,_,_,F6,cl_Cellar,PySem.W.mg_of X G n_Cellar,⟨p5_Cellar,a6,i6,p6_Cellar⟩,b6,no_Cellar⟩
 have F7:=cm (st:=aX) l7 c7 k7
 have b7:=F7.binds (ps:=["self","deed","after"]) fun _ _ _ _ _ _ us hl=>xJ (P:=fun us=>bindArgs _ ⟨us,[]⟩=pure (List.zip _ us)) (fun _ _ _=>rfl) us hl
 have A7:d7 K "Cellar" "keep_deed" "Cellar.keep_deed" aX ["self","deed","after"]:=⟨_,_,_,F7,cl_Cellar,⟨a7,i7,k7⟩,b7⟩
 have F8:=cm (st:=aO) l8 c8 k8
 have b8:=F8.binds (ps:=["self","source","target"]) fun _ _ _ _ _ _ us hl=>xJ (P:=fun us=>bindArgs _ ⟨us,[]⟩=pure (List.zip _ us)) (fun _ _ _=>rfl) us hl
 have A8:d7 K "Cellar" "stream_comes" "Cellar.stream_comes" aO ["self","source","target"]:=⟨_,_,_,F8,cl_Cellar,⟨a8,i8,k8⟩,b8⟩
 have F9:=cm (st:=aR) l9 c9 k9
 have b9:=F9.binds (ps:=["self","number"]) fun _ _ _ _ _ _ us hl=>sD (P:=fun us=>bindArgs _ ⟨us,[]⟩=pure (List.zip _ us)) (fun _ _=>rfl) us hl
 have A9:d7 K "Cellar" "stream_goes" "Cellar.stream_goes" aR ["self","number"]:=⟨_,_,_,F9,cl_Cellar,⟨a9,i9,k9⟩,b9⟩
 have F10:=cm (st:=bq) l10 c10 k10
 have b10:=F10.binds (ps:=["self"]) fun _ _ _ _ _ _ us hl=>yq (P:=fun us=>bindArgs _ ⟨us,[]⟩=pure (List.zip _ us)) (fun _=>rfl) us hl
 have A10:d7 K "Cellar" "layout" "Cellar.layout" bq ["self"]:=⟨_,_,_,F10,cl_Cellar,⟨a10,i10,k10⟩,b10⟩
 have F11:=cm (st:=eo) l11 c11 k11
 have b11:=F11.binds (ps:=["_law_script","_law_k"]) fun _ _ _ _ _ _ us hl=>sD (P:=fun us=>bindArgs _ ⟨us,[]⟩=pure (List.zip _ us)) (fun _ _=>rfl) us hl
 have A11:cG K mg "_law_at" eo ["_law_script","_law_k"]:=⟨_,_,F11,PySem.W.mg_of X G a11,b11⟩
 have F12:=cm (st:=cM) l12 c12 k12
 have b12:=F12.binds (ps:=["_law_script","_law_k"]) fun _ _ _ _ _ _ us hl=>sD (P:=fun us=>bindArgs _ ⟨us,[]⟩=pure (List.zip _ us)) (fun _ _=>rfl) us hl
 have A12:cG K mg "_law_cell" cM ["_law_script","_law_k"]:=⟨_,_,F12,PySem.W.mg_of X G a12,b12⟩
 have F13:=cm (st:=cr) l13 c13 k13
 have b13:=F13.binds (ps:=["_law_found","_law_due"]) fun _ _ _ _ _ _ us hl=>sD (P:=fun us=>bindArgs _ ⟨us,[]⟩=pure (List.zip _ us)) (fun _ _=>rfl) us hl
 have A13:cG K mg "_law_same" cr ["_law_found","_law_due"]:=⟨_,_,F13,PySem.W.mg_of X G a13,b13⟩
 have F14:=cm (st:=cO) l14 c14 k14
 have b14:=F14.binds (ps:=["_law_script","_law_k","_law_n","_law_following"]) fun _ _ _ _ _ _ us hl=>yr (P:=fun us=>bindArgs _ ⟨us,[]⟩=pure (List.zip _ us)) (fun _ _ _ _=>rfl) us hl
 have A14:cG K mg "_law_deed" cO ["_law_script","_law_k","_law_n","_law_following"]:=⟨_,_,F14,PySem.W.mg_of X G a14,b14⟩
 have F15:=cm (st:=cP) l15 c15 k15
 have b15:=F15.binds (ps:=["_law_cellar","_law_deed_here"]) fun _ _ _ _ _ _ us hl=>sD (P:=fun us=>bindArgs _ ⟨us,[]⟩=pure (List.zip _ us)) (fun _ _=>rfl) us hl
 have A15:cG K mg "_law_done" cP ["_law_cellar","_law_deed_here"]:=⟨_,_,F15,PySem.W.mg_of X G a15,b15⟩
 have F16:=cm (st:=bB) l16 c16 k16
 have b16:=F16.binds (ps:=["_law_n","_law_streams","_law_good","_law_deed_here"]) fun _ _ _ _ _ _ us hl=>yr (P:=fun us=>bindArgs _ ⟨us,[]⟩=pure (List.zip _ us)) (fun _ _ _ _=>rfl) us hl
 have A16:cG K mg "_law_due_word" bB ["_law_n","_law_streams","_law_good","_law_deed_here"]:=⟨_,_,F16,PySem.W.mg_of X G a16,b16⟩
 have F17:=cm (st:=gL) l17 c17 k17
 have b17:=F17.binds (ps:=["_law_script"]) fun _ _ _ _ _ _ us hl=>yq (P:=fun us=>bindArgs _ ⟨us,[]⟩=pure (List.zip _ us)) (fun _=>rfl) us hl
 have A17:cG K mg "law" gL ["_law_script"]:=⟨_,_,F17,PySem.W.mg_of X G a17,b17⟩
 have gl_MOST_DEEDS:=PySem.W.mg_of X G v_MOST_DEEDS
 have gl_MOST_STREAMS:=PySem.W.mg_of X G v_MOST_STREAMS
 have gl_MOST_TANKS:=PySem.W.mg_of X G v_MOST_TANKS
 have gl_OUTSIDE:=PySem.W.mg_of X G v_OUTSIDE
 have ek_BadTanks:ie K C_BadTanks:=fA e1_BadTanks e2_BadTanks e3_BadTanks e4_BadTanks e5_BadTanks e6_BadTanks (cB e1_BadTanks e7_BadTanks) s1 s2
 have ek_UnknownPlace:ie K C_UnknownPlace:=fA e1_UnknownPlace e2_UnknownPlace e3_UnknownPlace e4_UnknownPlace e5_UnknownPlace e6_UnknownPlace (cB e1_UnknownPlace e7_UnknownPlace) s1 s2
 have ek_SamePlace:ie K C_SamePlace:=fA e1_SamePlace e2_SamePlace e3_SamePlace e4_SamePlace e5_SamePlace e6_SamePlace (cB e1_SamePlace e7_SamePlace) s1 s2
 have ek_UnknownStream:ie K C_UnknownStream:=fA e1_UnknownStream e2_UnknownStream e3_UnknownStream e4_UnknownStream e5_UnknownStream e6_UnknownStream (cB e1_UnknownStream e7_UnknownStream) s1 s2
 have ek_Twice:ie K C_Twice:=fA e1_Twice e2_Twice e3_Twice e4_Twice e5_Twice e6_Twice (cB e1_Twice e7_Twice) s1 s2
 have ek_TooManyStreams:ie K C_TooManyStreams:=fA e1_TooManyStreams e2_TooManyStreams e3_TooManyStreams e4_TooManyStreams e5_TooManyStreams e6_TooManyStreams (cB e1_TooManyStreams e7_TooManyStreams) s1 s2
 have ek_TooManyDeeds:ie K C_TooManyDeeds:=fA e1_TooManyDeeds e2_TooManyDeeds e3_TooManyDeeds e4_TooManyDeeds e5_TooManyDeeds e6_TooManyDeeds (cB e1_TooManyDeeds e7_TooManyDeeds) s1 s2
 have E_BadTanks:eg K mg "BadTanks":=⟨_,n_BadTanks,PySem.W.mg_of X G n_BadTanks,ek_BadTanks⟩
 have E_SamePlace:eg K mg "SamePlace":=⟨_,n_SamePlace,PySem.W.mg_of X G n_SamePlace,ek_SamePlace⟩
 have E_TooManyDeeds:eg K mg "TooManyDeeds":=⟨_,n_TooManyDeeds,PySem.W.mg_of X G n_TooManyDeeds,ek_TooManyDeeds⟩
 have E_TooManyStreams:eg K mg "TooManyStreams":=⟨_,n_TooManyStreams,PySem.W.mg_of X G n_TooManyStreams,ek_TooManyStreams⟩
 have E_Twice:eg K mg "Twice":=⟨_,n_Twice,PySem.W.mg_of X G n_Twice,ek_Twice⟩
 have E_UnknownPlace:eg K mg "UnknownPlace":=⟨_,n_UnknownPlace,PySem.W.mg_of X G n_UnknownPlace,ek_UnknownPlace⟩
 have E_UnknownStream:eg K mg "UnknownStream":=⟨_,n_UnknownStream,PySem.W.mg_of X G n_UnknownStream,ek_UnknownStream⟩
 have I_SamePlace:jV K mg "SamePlace" (fD [("BadTanks",false),("UnknownPlace",false),("SamePlace",true),("UnknownStream",false),("Twice",false),("TooManyStreams",false),("TooManyDeeds",false)]):=⟨_,PySem.W.mg_of X G n_SamePlace,eU (fun x hx=>by
  simp only[List.mem_cons,List.not_mem_nil,or_false]at hx
  rcases hx with rfl|rfl|rfl|rfl|rfl|rfl|rfl
  ·exact⟨_,n_BadTanks,aq e1_SamePlace m_SamePlace_BadTanks e7_BadTanks,ek_BadTanks⟩
  ·exact⟨_,n_UnknownPlace,aq e1_SamePlace m_SamePlace_UnknownPlace e7_UnknownPlace,ek_UnknownPlace⟩
  ·exact⟨_,n_SamePlace,aq e1_SamePlace m_SamePlace_SamePlace e7_SamePlace,ek_SamePlace⟩
  ·exact⟨_,n_UnknownStream,aq e1_SamePlace m_SamePlace_UnknownStream e7_UnknownStream,ek_UnknownStream⟩
  ·exact⟨_,n_Twice,aq e1_SamePlace m_SamePlace_Twice e7_Twice,ek_Twice⟩
  ·exact⟨_,n_TooManyStreams,aq e1_SamePlace m_SamePlace_TooManyStreams e7_TooManyStreams,ek_TooManyStreams⟩
  ·exact⟨_,n_TooManyDeeds,aq e1_SamePlace m_SamePlace_TooManyDeeds e7_TooManyDeeds,ek_TooManyDeeds⟩)⟩
 have I_TooManyDeeds:jV K mg "TooManyDeeds" (fD [("BadTanks",false),("UnknownPlace",false),("SamePlace",false),("UnknownStream",false),("Twice",false),("TooManyStreams",false),("TooManyDeeds",true)]):=⟨_,PySem.W.mg_of X G n_TooManyDeeds,eU (fun x hx=>by
  simp only[List.mem_cons,List.not_mem_nil,or_false]at hx
  rcases hx with rfl|rfl|rfl|rfl|rfl|rfl|rfl
  ·exact⟨_,n_BadTanks,aq e1_TooManyDeeds m_TooManyDeeds_BadTanks e7_BadTanks,ek_BadTanks⟩
  ·exact⟨_,n_UnknownPlace,aq e1_TooManyDeeds m_TooManyDeeds_UnknownPlace e7_UnknownPlace,ek_UnknownPlace⟩
  ·exact⟨_,n_SamePlace,aq e1_TooManyDeeds m_TooManyDeeds_SamePlace e7_SamePlace,ek_SamePlace⟩
  ·exact⟨_,n_UnknownStream,aq e1_TooManyDeeds m_TooManyDeeds_UnknownStream e7_UnknownStream,ek_UnknownStream⟩
  ·exact⟨_,n_Twice,aq e1_TooManyDeeds m_TooManyDeeds_Twice e7_Twice,ek_Twice⟩
  ·exact⟨_,n_TooManyStreams,aq e1_TooManyDeeds m_TooManyDeeds_TooManyStreams e7_TooManyStreams,ek_TooManyStreams⟩
  ·exact⟨_,n_TooManyDeeds,aq e1_TooManyDeeds m_TooManyDeeds_TooManyDeeds e7_TooManyDeeds,ek_TooManyDeeds⟩)⟩
 have I_TooManyStreams:jV K mg "TooManyStreams" (fD [("BadTanks",false),("UnknownPlace",false),("SamePlace",false),("UnknownStream",false),("Twice",false),("TooManyStreams",true),("TooManyDeeds",false)]):=⟨_,PySem.W.mg_of X G n_TooManyStreams,eU (fun x hx=>by
  simp only[List.mem_cons,List.not_mem_nil,or_false]at hx
  rcases hx with rfl|rfl|rfl|rfl|rfl|rfl|rfl
  ·exact⟨_,n_BadTanks,aq e1_TooManyStreams m_TooManyStreams_BadTanks e7_BadTanks,ek_BadTanks⟩
  ·exact⟨_,n_UnknownPlace,aq e1_TooManyStreams m_TooManyStreams_UnknownPlace e7_UnknownPlace,ek_UnknownPlace⟩
  ·exact⟨_,n_SamePlace,aq e1_TooManyStreams m_TooManyStreams_SamePlace e7_SamePlace,ek_SamePlace⟩
  ·exact⟨_,n_UnknownStream,aq e1_TooManyStreams m_TooManyStreams_UnknownStream e7_UnknownStream,ek_UnknownStream⟩
  ·exact⟨_,n_Twice,aq e1_TooManyStreams m_TooManyStreams_Twice e7_Twice,ek_Twice⟩
  ·exact⟨_,n_TooManyStreams,aq e1_TooManyStreams m_TooManyStreams_TooManyStreams e7_TooManyStreams,ek_TooManyStreams⟩
  ·exact⟨_,n_TooManyDeeds,aq e1_TooManyStreams m_TooManyStreams_TooManyDeeds e7_TooManyDeeds,ek_TooManyDeeds⟩)⟩
 have I_UnknownPlace:jV K mg "UnknownPlace" (fD [("BadTanks",false),("UnknownPlace",true),("SamePlace",false),("UnknownStream",false),("Twice",false),("TooManyStreams",false),("TooManyDeeds",false)]):=⟨_,PySem.W.mg_of X G n_UnknownPlace,eU (fun x hx=>by
  simp only[List.mem_cons,List.not_mem_nil,or_false]at hx
  rcases hx with rfl|rfl|rfl|rfl|rfl|rfl|rfl
  ·exact⟨_,n_BadTanks,aq e1_UnknownPlace m_UnknownPlace_BadTanks e7_BadTanks,ek_BadTanks⟩
  ·exact⟨_,n_UnknownPlace,aq e1_UnknownPlace m_UnknownPlace_UnknownPlace e7_UnknownPlace,ek_UnknownPlace⟩
  ·exact⟨_,n_SamePlace,aq e1_UnknownPlace m_UnknownPlace_SamePlace e7_SamePlace,ek_SamePlace⟩
  ·exact⟨_,n_UnknownStream,aq e1_UnknownPlace m_UnknownPlace_UnknownStream e7_UnknownStream,ek_UnknownStream⟩
  ·exact⟨_,n_Twice,aq e1_UnknownPlace m_UnknownPlace_Twice e7_Twice,ek_Twice⟩
  ·exact⟨_,n_TooManyStreams,aq e1_UnknownPlace m_UnknownPlace_TooManyStreams e7_TooManyStreams,ek_TooManyStreams⟩
  ·exact⟨_,n_TooManyDeeds,aq e1_UnknownPlace m_UnknownPlace_TooManyDeeds e7_TooManyDeeds,ek_TooManyDeeds⟩)⟩
 have I_UnknownStream:jV K mg "UnknownStream" (fD [("BadTanks",false),("UnknownPlace",false),("SamePlace",false),("UnknownStream",true),("Twice",false),("TooManyStreams",false),("TooManyDeeds",false)]):=⟨_,PySem.W.mg_of X G n_UnknownStream,eU (fun x hx=>by
  simp only[List.mem_cons,List.not_mem_nil,or_false]at hx
  rcases hx with rfl|rfl|rfl|rfl|rfl|rfl|rfl
  ·exact⟨_,n_BadTanks,aq e1_UnknownStream m_UnknownStream_BadTanks e7_BadTanks,ek_BadTanks⟩
  ·exact⟨_,n_UnknownPlace,aq e1_UnknownStream m_UnknownStream_UnknownPlace e7_UnknownPlace,ek_UnknownPlace⟩
  ·exact⟨_,n_SamePlace,aq e1_UnknownStream m_UnknownStream_SamePlace e7_SamePlace,ek_SamePlace⟩
  ·exact⟨_,n_UnknownStream,aq e1_UnknownStream m_UnknownStream_UnknownStream e7_UnknownStream,ek_UnknownStream⟩
  ·exact⟨_,n_Twice,aq e1_UnknownStream m_UnknownStream_Twice e7_Twice,ek_Twice⟩
  ·exact⟨_,n_TooManyStreams,aq e1_UnknownStream m_UnknownStream_TooManyStreams e7_TooManyStreams,ek_TooManyStreams⟩
  ·exact⟨_,n_TooManyDeeds,aq e1_UnknownStream m_UnknownStream_TooManyDeeds e7_TooManyDeeds,ek_TooManyDeeds⟩)⟩
 have I_ValueError:jU K (.type "ValueError") (fD [("BadTanks",true),("UnknownPlace",true),("SamePlace",true),("UnknownStream",true),("Twice",true),("TooManyStreams",true),("TooManyDeeds",true)]):=eU (fun x hx=>by
  simp only[List.mem_cons,List.not_mem_nil,or_false]at hx
  rcases hx with rfl|rfl|rfl|rfl|rfl|rfl|rfl
  ·exact⟨_,n_BadTanks,dm m_ValueError_BadTanks,ek_BadTanks⟩
  ·exact⟨_,n_UnknownPlace,dm m_ValueError_UnknownPlace,ek_UnknownPlace⟩
  ·exact⟨_,n_SamePlace,dm m_ValueError_SamePlace,ek_SamePlace⟩
  ·exact⟨_,n_UnknownStream,dm m_ValueError_UnknownStream,ek_UnknownStream⟩
  ·exact⟨_,n_Twice,dm m_ValueError_Twice,ek_Twice⟩
  ·exact⟨_,n_TooManyStreams,dm m_ValueError_TooManyStreams,ek_TooManyStreams⟩
  ·exact⟨_,n_TooManyDeeds,dm m_ValueError_TooManyDeeds,ek_TooManyDeeds⟩)
 have U_CellarError:o_ K mg "CellarError" (rU ["BadTanks","UnknownPlace","SamePlace","UnknownStream","Twice","TooManyStreams","TooManyDeeds"]):=rV (PySem.W.mg_of X G n_CellarError) (fun x hx=>by
  simp only[List.mem_cons,List.not_mem_nil,or_false]at hx
  rcases hx with rfl|rfl|rfl|rfl|rfl|rfl|rfl
  ·exact⟨_,n_BadTanks,dn e1_CellarError m_CellarError_BadTanks e6_CellarError⟩
  ·exact⟨_,n_UnknownPlace,dn e1_CellarError m_CellarError_UnknownPlace e6_CellarError⟩
  ·exact⟨_,n_SamePlace,dn e1_CellarError m_CellarError_SamePlace e6_CellarError⟩
  ·exact⟨_,n_UnknownStream,dn e1_CellarError m_CellarError_UnknownStream e6_CellarError⟩
  ·exact⟨_,n_Twice,dn e1_CellarError m_CellarError_Twice e6_CellarError⟩
  ·exact⟨_,n_TooManyStreams,dn e1_CellarError m_CellarError_TooManyStreams e6_CellarError⟩
  ·exact⟨_,n_TooManyDeeds,dn e1_CellarError m_CellarError_TooManyDeeds e6_CellarError⟩)
 refine⟨PySem.W.fnOf "law" "law" (b0 gL) (aH gL) (ag gL) .none kV17 dc17 pm17 an17 cd17 ct17,fun s v=> .of_eq rfl,fun base _ _=> ?_⟩
 have G_Standing_init:gY l.prog w K mg base 1 "Standing" 4 aT:=iV A1 B
 have G_Standing_with_stream:dJ l.prog w K mg base 3 "Standing" "with_stream" 3 aV:=eW A2 B G_Standing_init T_Standing
 have G_Standing_without_stream:dJ l.prog w K mg base 3 "Standing" "without_stream" 2 aJ:=eA A3 B G_Standing_init T_Standing
 have G_refuse_places:d5 l.prog w K mg base 1 "refuse_places" 2 a_:=iW A4 B gl_OUTSIDE E_SamePlace E_UnknownPlace
 have G_refuse_numbers:d5 l.prog w K mg base 1 "refuse_numbers" 2 bz:=ir A5 B E_Twice E_UnknownStream T_Standing
 have G_Cellar_init:mO l.prog w K mg base 3 "Cellar" 1 ce:=kb A6 B G_Standing_init gl_MOST_TANKS E_BadTanks
 have G_Cellar_keep_deed:fM l.prog w K mg base 1 "Cellar" "keep_deed" 2 aQ:=gH A7 B gl_MOST_DEEDS E_TooManyDeeds T_Cellar
 have G_Cellar_stream_comes:fM l.prog w K mg base 4 "Cellar" "stream_comes" 2 ap:=fF A8 B G_refuse_places G_Cellar_keep_deed G_Standing_with_stream gl_MOST_STREAMS E_TooManyStreams T_Cellar T_Standing
 have G_Cellar_stream_goes:fM l.prog w K mg base 4 "Cellar" "stream_goes" 1 aB:=fR A9 B G_refuse_numbers G_Cellar_keep_deed G_Standing_without_stream T_Cellar
 have G_Cellar_layout:dJ l.prog w K mg base 1 "Cellar" "layout" 1 bI:=iX A10 B T_Cellar T_Standing
 have G_law_at:d5 l.prog w K mg base 1 "_law_at" 2 cH:=qg A11 B
 have G_law_cell:d5 l.prog w K mg base 2 "_law_cell" 2 cq:=mT A12 B G_law_at
 have G_law_same:d5 l.prog w K mg base 8 "_law_same" 2 c0:=mU A13 B
 have G_law_deed:d5 l.prog w K mg base 3 "_law_deed" 4 bN:=mV A14 B G_law_cell
 have G_law_done:xu l.prog w K mg base 5 "_law_done" 1 1 aY:=mW A15 B G_Cellar_stream_comes G_Cellar_stream_goes I_SamePlace I_TooManyDeeds I_TooManyStreams I_UnknownPlace I_UnknownStream I_ValueError U_CellarError
 have G_law_due_word:d5 l.prog w K mg base 1 "_law_due_word" 4 aS:=jf A16 B
 exact vZ F17 B G_law_cell G_Cellar_init G_law_deed G_law_due_word G_law_done G_law_same G_Cellar_layout
end
theorem walk {l:PySem.W.OpenLaw} {q:Program} {loose:List Str} {XP:(Str->Option Value)->Heap->Prop} {YP:World->Heap->Prop} {d:DefRec} {K:Params->PySem.W.Frag} (hn:l.most=some 63) (hdf:d.params.defaults=[])
  (hY:∀(w:World) (h:Heap),YP w h->(K w.params).In h) (main:∀ns:List Int,ns.length<=63->k_ [.scr ns]= .ok (.bl true))
  (F:∀(w:World) (mg:Str->Option Value) (fa:Addr) (h:Heap),(K w.params).In h->h.Ns mainGlobals mg->mg d.name=some (.ref fa)->
   ∃fd:FuncData,(∀(s:Shared) (u:Value),BindsTo s fd ⟨[u],[]⟩ [("_law_script",u)])/\∀base:Heap,(K w.params).In base->base.Ns mainGlobals mg->dc l.prog w (K w.params) mg base (gB l.prog w) 9 fa fd ["_law_script"] (pV (K w.params) 1 k_)):
  PySem.W.WalkO q loose XP YP l.row.toRowW d [] (fun f vs=>PySem.call f vs):=
 L2.tj (n:=63) (k:=9) (x:="_law_script") (CX:=fun w=>gB l.prog w) (sp:=fun w=>pV (K w.params) 1 k_) hn (by decide) hdf ⟨rfl,by decide,by decide⟩ hY F (fun _ _ a ns hl _ hS=>vH (main ns hl) hS) fun _ _ _ _ _ z=>L2.Pu.vQ z
end My
namespace My
open PySem PySem.Spec PyProof.Rows L2 L2.Pu
local macro_rules|`(tactic|simp! [$xs,*])=>`(tactic|simp only[aN,ck,gN,eM,cj,bi,vx,mw,kJ,mx,tL,frz,frz1,List.foldl,dP,f2,f1,dZ,mv,cY,fL,bC,jM,qY,kI,yP,fT,eR,pW,tK,kl,aa,am,aA,ai,fC,yp,ah,cJ,List.getElem?_cons_zero,List.getElem?_cons_succ,List.set_cons_zero,List.set_cons_succ,rJ,rK,rL,List.length_cons,List.length_nil,Nat.zero_add,Nat.reduceAdd,if_true,if_false,Bool.false_eq_true,Bool.not_true,Bool.not_false,iG,decide_true,decide_false,rA,nV,kO,rB,kN,xj,oU,mE,vJ,uI,nW,lH,tW,tY,rE,rF,rC,oV,List.nil_append,Option.map_some,Nat.zero_le,$xs,*])
noncomputable def cel (ns:List Int) (k:Nat):Int:=ns.getD k 0
theorem p7 (ns:List Int) (k:Nat):cH [.scr ns, .int (k:Int)]= .ok (.int (cel ns k)):=by
 unfold cH bE
 simp only[cf,mS,aN,eM,cj,bi,f2,dZ,ai,fC,fT,aa,am,rD,kN,xk,List.length_cons,List.length_nil,if_true,List.map_cons,List.map_nil,List.replicate,Nat.sub_self,List.append_nil,List.getElem?_cons_zero,List.getElem?_cons_succ,Slot.data,ah,cJ]
 by_cases h:k<ns.length
 ·have h':(k:Int)<(ns.length:Int):=by omega
  simp only[h',decide_true,if_true,iN h,Option.map_some,cJ,ah]
  simp[cel,h]
 ·have h':¬(k:Int)<(ns.length:Int):=by omega
  simp only[h',decide_false,if_false,Bool.false_eq_true,ah]
  simp[cel,Nat.le_of_not_lt h]
theorem yX (ns:List Int):cH [.scr ns, .int 0]= .ok (.int (cel ns 0)):=p7 ns 0
noncomputable def cl (ns:List Int) (k:Nat):Int:=if cel ns 0%2=0 then cel ns k else ((cel ns k+cel ns 0 / 2+7919*(k:Int)+1)*48271%2147483647+(k:Int))*69621%2147483647
theorem la (ns:List Int) (k:Nat):cq [.scr ns, .int (k:Int)]= .ok (.int (cl ns k)):=by
 refine dv rfl ?_
 show hG [some (.val (.scr ns)),some (.val (.int (k:Int))),none]=_
 by_cases h:cel ns 0%2=0<;>simp! [hG,yX,p7,h,dD (show (0:Int)<2 by decide),iM (show (0:Int)<2/\(2:Int)<1073741824 by decide),rz (show Int.natAbs 48271<18446744073709551616 by decide),rz (show Int.natAbs 69621<18446744073709551616 by decide),vI (show Int.natAbs 7919<18446744073709551616 by decide),dD (show (0:Int)<2147483647 by decide),cl]
inductive Wf:Nat->D->Prop
 |int (n:Nat) (i:Int):Wf n (.int i)
 |bl (n:Nat) (b:Bool):Wf n (.bl b)
 |tup {n:Nat} {ds:List D}:ds.length<=1000->(∀d∈ds,Wf n d)->Wf (n+1) (.tup ds)
theorem Wf.up {n:Nat} {d:D} (h:Wf n d):∀k,Wf (n+k) d:=by
 induction h with
 |int n i=>exact fun k=> .int _ i
 |bl n b=>exact fun k=> .bl _ b
 | @tup n ds h1 h2 ih=>exact fun k=>by rw[Nat.add_right_comm];exact .tup h1 fun d hd=>ih d hd k
theorem qh {rec_:List D->R D} {ds:List D} (h:∀d∈ds,rec_ [d,d]= .ok (.bl true)) {k:Nat} (hk:k<ds.length):
  eI rec_ [some (.val (.tup ds)),some (.val (.tup ds)),some (.val (.int (k:Int)))]= .ok (.nx [some (.val (.tup ds)),some (.val (.tup ds)),some (.val (.int (k:Int)))]):=by
 have hr:=h ds[k] (List.getElem_mem hk)
 simp only[eI,eM,kl,eR,bC,aa,am,f2,ai,cj,bi,fC,ah,cJ,List.getElem?_cons_zero,List.getElem?_cons_succ,Slot.data,oV,iN hk,List.length_cons,List.length_nil,if_true,hr,iG,Bool.not_true,Bool.false_eq_true,if_false]
theorem lb {rec_:List D->R D} {ds:List D} (h:∀d∈ds,rec_ [d,d]= .ok (.bl true)):∀(ks:List Nat) (x:Option Slot),(∀k∈ks,k<ds.length)->
  ∃y,eG (gN 2) (eI rec_) (ks.map fun k:Nat=>D.int (k:Int)) [some (.val (.tup ds)),some (.val (.tup ds)),x]= .ok (.nx [some (.val (.tup ds)),some (.val (.tup ds)),y])
 |[],x,_=>⟨x,rfl⟩
 |k::ks,x,hk=>by
  obtain⟨y,e⟩:=lb h ks (some (.val (.int (k:Int)))) fun j hj=>hk j (List.mem_cons_of_mem _ hj)
  exact⟨y,by rw[List.map_cons,oW rfl (qh h (hk k List.mem_cons_self)),e]⟩
theorem w8 {b:Bool}:mC "tuple" (.bl b)=some (.bl false):=rfl
theorem w9 {b:Bool}:mC "bool" (.bl b)=some (.bl true):=rfl
theorem ug (n:Nat) (b:Bool):bM (n+1) [.bl b, .bl b]= .ok (.bl true):=by
 refine dv rfl ?_
 show cN (bM n) [some (.val (.bl b)),some (.val (.bl b)),none]=_
 simp only[cN,aN,eM,cj,bi,eR,kn,ai,jM,kI,f2,fT,fC,ah,cJ,List.getElem?_cons_zero,List.getElem?_cons_succ,Slot.data,w8,w9,uI,iG,if_true,Bool.false_eq_true,if_false,Bool.not_false,decide_true]
theorem sy (n:Nat) (i:Int):bM (n+1) [.int i, .int i]= .ok (.bl true):=by
 refine dv rfl ?_
 show cN (bM n) [some (.val (.int i)),some (.val (.int i)),none]=_
 simp only[cN,aN,eM,cj,bi,eR,kn,ai,jM,kI,f2,ah,cJ,List.getElem?_cons_zero,List.getElem?_cons_succ,Slot.data,vL,vM,vN,iG,Bool.false_eq_true,if_false,Bool.not_false,kO,decide_true]
theorem qi {n:Nat} {d:D} (h:Wf n d):bM (n+1) [d,d]= .ok (.bl true):=by
 induction h with
 |int n i=>exact sy n i
 |bl n b=>exact ug n b
 | @tup n ds h1 h2 ih=>
  obtain⟨y,e⟩:=lb ih (List.range ds.length) none fun k hk=>List.mem_range.mp hk
  refine dv rfl ?_
  show cN (bM (n+1)) [some (.val (.tup ds)),some (.val (.tup ds)),none]=_
  simp only[cN,aN,eM,cj,bi,tK,kl,fT,eR,kn,ai,fC,f2,dZ,aa,am,ah,cJ,List.getElem?_cons_zero,List.getElem?_cons_succ,Slot.data,vK,iG,if_true,Bool.not_true,Bool.false_eq_true,if_false,lH,rB,decide_true,mw]
  rw[qb (n:=ds.length) (by simp only[aa,am,dZ,ai,ah,cJ,List.getElem?_cons_zero,List.getElem?_cons_succ,Slot.data,lH]) (by unfold lim;omega),ah,e]
  simp only[ah]
theorem mX {n:Nat} (hn:n<=7) {d:D} (h:Wf n d):c0 [d,d]= .ok (.bl true):=by
 have:=qi (h.up (7 - n))
 rw[show n+(7 - n)+1=8 by omega]at this
 exact this
theorem qj (i:Int):c0 [.int i, .int i]= .ok (.bl true):=mX (Nat.zero_le _) (.int 0 i)
noncomputable abbrev gr:=Int×Int×Int
noncomputable def bu (r:gr):D:= .tup [.int r.1, .int r.2.1, .int r.2.2]
noncomputable def sE (c:Int) (ss:List gr):List (Str×D):=[("came", .int c),("streams", .tup (ss.map bu)),("meters", .tup []),("passed", .tup [])]
noncomputable def aU (c:Int) (ss:List gr):D:= .ins "Standing" (sE c ss)
noncomputable def iw (n:Int) (now:D):List (Str×D):=[("tanks", .int n),("now",now)]
noncomputable def az (n:Int) (now:D) (hs:List D):Slot:= .cel "Cellar" (iw n now) "history" hs
theorem sA (n:Int) (now:D):(iw n now).lookup ("tanks":Str)=some (D.int n):=rfl
theorem hU (n:Int) (now:D):(iw n now).lookup ("now":Str)=some now:=rfl
theorem uh (n:Int) (now d:D):s9 "now" d (iw n now)=iw n d:=rfl
theorem lS (c:Int) (ss:List gr):(sE c ss).lookup ("came":Str)=some (D.int c):=rfl
theorem eC (c:Int) (ss:List gr):(sE c ss).lookup ("streams":Str)=some (D.tup (ss.map bu)):=rfl
theorem iY (c:Int) (ss:List gr):(sE c ss).lookup ("meters":Str)=some (D.tup []):=rfl
theorem lc (c:Int) (ss:List gr):(sE c ss).lookup ("passed":Str)=some (D.tup []):=rfl
theorem gu {cls g:Str} {f:ae->R D} {ρ:ae} {fds:List (Str×D)} {d:D} (h:f ρ= .ok (.ins cls fds)) (h2:fds.lookup g=some d):cS cls g f ρ= .ok d:=by
 unfold cS
 rw[h,ah]
 dsimp only
 rw[if_pos rfl,h2,cJ]
theorem fG {i:Nat} {g:Str} {ρ:ae} {n:Int} {now d:D} {hs:List D} (h:ρ[i]? =some (some (az n now hs))) (h2:(iw n now).lookup g=some d):d9 i "Cellar" g ρ= .ok d:=by
 unfold d9
 rw[h]
 show (if ("Cellar":Str)="Cellar" then R.of ((iw n now).lookup g)else .bad)=_
 rw[if_pos rfl,h2,cJ]
theorem ui {i:Nat} {ρ:ae} {n:Int} {now:D} {hs:List D} (h:ρ[i]? =some (some (az n now hs))):kX i "Cellar" "history" ρ= .ok (.lst hs):=by
 unfold kX
 rw[h]
 exact if_pos ⟨rfl,rfl⟩
theorem eK {g g':ae->R br} {ρ ρ':ae} {x:Str} (h:g ρ= .err x ρ'):aN g g' ρ= .err x ρ':=by
 unfold aN
 rw[h];rfl
theorem mY {g g':ae->R br} {ρ ρ':ae} {d:D} (h:g ρ= .ok (.retc d ρ')):aN g g' ρ= .ok (.retc d ρ'):=by
 unfold aN
 rw[h,ah]
theorem gw {gc:ae->R Bool} {g g':ae->R br} {ρ:ae} (h:gc ρ= .ok true):eM gc g g' ρ=g ρ:=by unfold eM;rw[h,ah];rfl
theorem db {gc:ae->R Bool} {g g':ae->R br} {ρ:ae} (h:gc ρ= .ok false):eM gc g g' ρ=g' ρ:=by unfold eM;rw[h,ah];rfl
theorem dg {f:ae->R D} {ρ:ae} {b:Bool} (h:f ρ= .ok (.bl b)):fT f ρ= .ok b:=by unfold fT;rw[h,ah]
theorem lT {f:ae->R D} {ρ:ae} {b:Bool} (h:f ρ= .ok (.bl b)):eR f ρ= .ok b:=by unfold eR;rw[h,ah];rfl
theorem gx {x:Str} {s:Str} {ρ:ae}:dk x (aa (fC (.str s)) am) ρ= .err x ρ:=by
 unfold dk aa fC am
 simp only[ah]
 exact if_pos (show 1<=lim by decide)
theorem dq {fs:ae->R (List D)} {ρ:ae} {ds:List D} (h:fs ρ= .ok ds) (hl:ds.length<=lim):cY fs ρ= .ok (.tup ds):=by unfold cY;rw[h,ah,if_pos hl]
theorem ix {f:ae->R D} {ρ:ae} {d:D} (h:f ρ= .ok d):jX f ρ= .ok (.nx ρ):=by unfold jX;rw[h,ah]
theorem mZ {f:ae->R D} {ρ ρ':ae} {x:Str} (h:f ρ= .err x ρ'):jX f ρ= .err x ρ':=by unfold jX;rw[h];rfl
theorem m_ {m:List D->R D} {n:Nat} {fs:ae->R (List D)} {ρ ρ':ae} {ds:List D} {x:Str} (h:fs ρ= .ok ds) (hl:ds.length=n) (hm:m ds= .err x ρ'):bC m n fs ρ= .err x ρ:=by
 unfold bC
 rw[h,ah,if_pos hl,hm]
theorem lU {cls m:Str} {n:Nat} {r:List D->R D} {fo:ae->R D} {fs:ae->R (List D)} {ρ:ae} {fds:List (Str×D)} {ds:List D} {z:D} (h1:fo ρ= .ok (.ins cls fds)) (h2:fs ρ= .ok ds) (hl:ds.length+1=n) (e:r (.ins cls fds::ds)= .ok z) (hm:fds.lookup m=none):gj cls m n r fo fs ρ= .ok z:=by
 unfold gj
 rw[h1,ah]
 dsimp only
 rw[if_pos ⟨rfl,hm⟩,h2,ah,if_pos hl,e]
theorem kd {i:Nat} {mf:List Slot->List D->R (D×List Slot)} {k:Nat} {fs:ae->R (List D)} {ρ:ae} {ds:List D} {n n':Int} {now now' d:D} {hs hs':List D} (h:ρ[i]? =some (some (az n now hs))) (h2:fs ρ= .ok ds) (hl:ds.length=k) (e:mf [az n now hs] ds= .ok (d,[az n' now' hs'])):
  fQ [i] mf k fs ρ= .ok (d,ρ.set i (some (az n' now' hs'))):=by
 unfold fQ
 have hs1:d8 ρ [i]=some [az n now hs]:=by unfold d8 d8;rw[h];rfl
 rw[hs1]
 dsimp only
 rw[if_pos ⟨rfl,by simp⟩,h2,ah,if_pos hl,e]
 dsimp only
 rw[if_pos (show List.map Slot.kind [az n' now' hs']=List.map Slot.kind [az n now hs]from rfl)]
 rfl
theorem js {i:Nat} {mf:List Slot->List D->R (D×List Slot)} {k:Nat} {fs:ae->R (List D)} {ρ ρe:ae} {ds:List D} {n:Int} {now:D} {hs:List D} {x:Str} (h:ρ[i]? =some (some (az n now hs))) (h2:fs ρ= .ok ds) (hl:ds.length=k) (e:mf [az n now hs] ds= .err x ρe) (ht:bT 1 ρe=some [az n now hs]) (hi:ρ.set i (some (az n now hs))=ρ):
  fQ [i] mf k fs ρ= .err x ρ:=by
 unfold fQ
 have hs':d8 ρ [i]=some [az n now hs]:=by unfold d8 d8;rw[h];rfl
 rw[hs']
 dsimp only
 rw[if_pos ⟨rfl,by simp⟩,h2,ah,if_pos hl,e]
 dsimp only
 rw[show bT [i].length ρe=some [az n now hs]from ht]
 dsimp only
 rw[if_pos rfl]
 show R.err x (ρ.set i (some (az n now hs)))=_
 rw[hi]
theorem gz {i:Nat} {m:Str} {fx:ae->R (D×ae)} {ρ:ae} {n:Int} {now:D} {hs:List D} (h:ρ[i]? =some (some (az n now hs))) (h1:m≠"history":=by decide) (h2:(iw n now).lookup m=none:=by rfl):iR i "Cellar" m fx ρ=fx ρ:=by
 unfold iR
 rw[h]
 exact if_pos ⟨rfl,h1,h2⟩
theorem n0 {fx:ae->R (D×ae)} {ρ ρ':ae} {d:D} (h:fx ρ= .ok (d,ρ')):hE fx ρ= .ok (.nx ρ'):=by unfold hE;rw[h,ah]
theorem lg {fx:ae->R (D×ae)} {ρ ρ':ae} {x:Str} (h:fx ρ= .err x ρ'):hE fx ρ= .err x ρ':=by unfold hE;rw[h];rfl
theorem iZ {nm k n:Nat} {g:ae->R br} {ss ss':List Slot} {ds:List D} {d:D} {ρ:ae} (h:ss.length=nm/\ds.length=k) (e:g (eh n ss ds)= .ok (.retc d ρ)) (ht:bT nm ρ=some ss'):iq nm k n g ss ds= .ok (d,ss'):=by
 unfold iq
 rw[if_pos h,e]
 dsimp only
 rw[ht]
theorem p8 {nm k n:Nat} {g:ae->R br} {ss ss':List Slot} {ds:List D} {ρ:ae} (h:ss.length=nm/\ds.length=k) (e:g (eh n ss ds)= .ok (.nx ρ)) (ht:bT nm ρ=some ss'):iq nm k n g ss ds= .ok (.non,ss'):=by
 unfold iq
 rw[if_pos h,e]
 dsimp only
 rw[ht]
theorem eZ {nm k n:Nat} {g:ae->R br} {ss:List Slot} {ds:List D} {x:Str} {ρ:ae} (h:ss.length=nm/\ds.length=k) (e:g (eh n ss ds)= .err x ρ):iq nm k n g ss ds= .err x ρ:=by
 unfold iq
 rw[if_pos h,e]
theorem ke {k n:Nat} {g:ae->R br} {ds:List D} {x:Str} {ρ:ae} (h:ds.length=k) (e:g (cf n ds)= .err x ρ):bE k n g ds= .err x ρ:=by
 unfold bE
 rw[if_pos h,e];rfl
theorem uj {f:ae->R D} {ρ:ae} {d:D} (h:f ρ= .ok d):mM f ρ= .ok (.retc d ρ):=by unfold mM;rw[h,ah]
theorem iy {α:Type} {gt:ae->R Bool} {fe:ae->R D} {enc out:α->D} {p:α->Bool} {a0:Option Slot} {rest:ae}:∀(xs:List α) (v:Option Slot),(∀x∈xs,gt (a0::some (.val (enc x))::rest)= .ok (p x))->(∀x∈xs,p x=true->fe (a0::some (.val (enc x))::rest)= .ok (out x))->
  fX (gN 1) gt fe (xs.map enc) (a0::v::rest)= .ok ((xs.filter p).map out)
 |[],v,h1,h2=>rfl
 |x::xs,v,h1,h2=>by
  have e1:=h1 x List.mem_cons_self
  have ih:=iy (gt:=gt) (fe:=fe) (enc:=enc) (out:=out) (p:=p) (a0:=a0) (rest:=rest) xs (some (.val (enc x))) (fun y hy=>h1 y (List.mem_cons_of_mem _ hy)) (fun y hy=>h2 y (List.mem_cons_of_mem _ hy))
  rw[List.map_cons,fX]
  show (gt (a0::some (.val (enc x))::rest)>>=fun b=>if b=true then (fe (a0::some (.val (enc x))::rest)>>=fun y=>fX (gN 1) gt fe (xs.map enc) (a0::some (.val (enc x))::rest)>>=fun ys=> .ok (y::ys))else fX (gN 1) gt fe (xs.map enc) (a0::some (.val (enc x))::rest))=_
  rw[e1,ah,ih]
  cases q:p x with
  |true=>rw[if_pos rfl,h2 x List.mem_cons_self q,ah,ah,List.filter_cons,if_pos q];rfl
  |false=>rw[if_neg (by simp),List.filter_cons,if_neg (by rw[q];simp)]
theorem fH {α:Type} (xs:List α):xs.filter (fun _=>true)=xs:=by simp
theorem uL {x:D} {r:List D}:dh (.tup (x::r)) (.int 0)=some x:=by
 rw[oV]
 have:=iN (xs:=x::r) (k:=0) (by simp)
 simpa using this
theorem xN {x y:D} {r:List D}:dh (.tup (x::y::r)) (.int 1)=some y:=by
 rw[oV]
 have:=iN (xs:=x::y::r) (k:=1) (by simp)
 simpa using this
theorem yI {x:D} {r:List D}:dh (.lst (x::r)) (.int 0)=some x:=by
 rw[rC]
 have:=iN (xs:=x::r) (k:=0) (by simp)
 simpa using this
theorem yu {x y:D} {r:List D}:dh (.lst (x::y::r)) (.int 1)=some y:=by
 rw[rC]
 have:=iN (xs:=x::y::r) (k:=1) (by simp)
 simpa using this
theorem iz {r:gr}:dh (bu r) (.int 0)=some (.int r.1):=uL
theorem uk {d1 d2 d3 d4:D}:aT [d1,d2,d3,d4]= .ok [("came",d1),("streams",d2),("meters",d3),("passed",d4)]:=rfl
theorem p9 {fs:ae->R (List D)} {ρ:ae} {c:Int} {ss:List gr} (h:fs ρ= .ok [.int c, .tup (ss.map bu), .tup [], .tup []]):kR "Standing" 4 aT fs ρ= .ok (aU c ss):=by
 unfold kR
 rw[h,ah,if_pos (show [D.int c,D.tup (ss.map bu),D.tup [],D.tup []].length=4 from rfl),uk]
 rfl
theorem i_ {c a b:Int} {ss:List gr} (hl:ss.length<=1000):aV [aU c ss, .int a, .int b]= .ok (aU (c+1) (ss++[(c+1,a,b)])):=by
 refine dv rfl ?_
 show bZ [some (.val (aU c ss)),some (.val (.int a)),some (.val (.int b)),none]=_
 unfold bZ
 have f1:∀{x:Option Slot} {g:Str} {d:D},(sE c ss).lookup g=some d->cS "Standing" g (ai 0) [some (.val (aU c ss)),some (.val (.int a)),some (.val (.int b)),x]= .ok d:=fun h=>gu rfl h
 rw[aw (ρ':=[some (.val (aU c ss)),some (.val (.int a)),some (.val (.int b)),some (.val (.int (c+1)))]) (dI (aE (f1 (lS c ss)) rfl rfl) rfl)]
 refine gf (p9 (ax rfl (ax (aE (f1 (eC c ss)) (dq (ax (dq rfl (show 3<=lim by decide)) rfl) (show 1<=lim by decide)) (d:= .tup ((ss++[(c+1,a,b)]).map bu)) ?_) (ax (f1 (iY c ss)) (ax (f1 (lc c ss)) rfl)))))
 show (if (ss.map bu).length+1<=lim then some (D.tup (ss.map bu++[bu (c+1,a,b)]))else none)=_
 rw[if_pos (by unfold lim;simp;omega)]
 simp
theorem sB {a b:Int}:q0 (.int a) (.int b)=some (.bl (decide (a≠b))):=by rw[rB];first|rfl|simp
theorem gI {c a:Int} {ss:List gr} (hl:ss.length<=1000):aJ [aU c ss, .int a]= .ok (aU c (ss.filter fun r=>decide (r.1≠a))):=by
 refine dv rfl ?_
 show bF [some (.val (aU c ss)),some (.val (.int a)),none,none]=_
 unfold bF
 have f1:∀{x y:Option Slot} {g:Str} {d:D},(sE c ss).lookup g=some d->cS "Standing" g (ai 0) [some (.val (aU c ss)),some (.val (.int a)),x,y]= .ok d:=fun h=>gu rfl h
 have q1:∀{x y:Option Slot},dP (cS "Standing" "streams" (ai 0)) [some (.val (aU c ss)),some (.val (.int a)),x,y]= .ok (ss.map bu):=by
  intro x y
  unfold dP
  rw[f1 (eC c ss),ah]
 have q2:∀{x y:Option Slot},dP (cS "Standing" "meters" (ai 0)) [some (.val (aU c ss)),some (.val (.int a)),x,y]= .ok []:=by
  intro x y
  unfold dP
  rw[f1 (iY c ss),ah]
 rw[aw (ρ':=[some (.val (aU c ss)),some (.val (.int a)),some (.val (.tup ((ss.filter fun r=>decide (r.1≠a)).map bu))),none]) (dI (dj (ax (nY (dS q1 (by simp;unfold lim;omega) (τ:=[none,none,some (.val (.int a))]) rfl (iy (p:=fun r:gr=>decide (r.1≠a)) (out:=bu) ss none (fun r _=>dg (aE (aE rfl rfl iz) rfl sB)) (fun r _ _=>rfl)))) rfl) rfl) rfl)]
 rw[aw (ρ':=[some (.val (aU c ss)),some (.val (.int a)),some (.val (.tup ((ss.filter fun r=>decide (r.1≠a)).map bu))),some (.val (.tup []))]) (dI (dj (ax (nY (dS q2 (Nat.zero_le _) rfl rfl)) rfl) rfl) rfl)]
 exact gf (p9 (ax (f1 (lS c ss)) (ax rfl (ax rfl (ax (f1 (lc c ss)) rfl)))))
noncomputable def fI (n a:Int):Bool:=decide (a<0)||decide (a>n)
theorem hV (n a b:Int):(fI n a=true\/fI n b=true->∃ρ,a_ [.int n, .tup [.int a, .int b]]= .err "UnknownPlace" ρ)/\(fI n a=false->fI n b=false->a=b->∃ρ,a_ [.int n, .tup [.int a, .int b]]= .err "SamePlace" ρ)/\
  (fI n a=false->fI n b=false->a≠b->a_ [.int n, .tup [.int a, .int b]]= .ok .non):=by
 have hc:eR (dZ qf (aa (fL (c_ ["tanks","places"] [(".0", .local),("place", .local),("OUTSIDE", .globalImplicit),("tanks", .free)] (dP (aA 1)) (gN 1) (jb) (qY (f2 sC (ai 1) (fC (.int 0))) (f2 vC (ai 1) (ai 3))))) (am))) [some (.val (.int n)),some (.val (.tup [.int a, .int b]))]= .ok (fI n a||fI n b):=by
  refine lT (dj (ax (nY (dS (ds:=[a,b].map D.int) rfl (show 2<=lim by decide) (τ:=[none,none,none,some (.val (.int n))]) rfl (iy (p:=fun _=>true) (out:=fun x=> .bl (fI n x)) [a,b] none (fun r _=>rfl) (fun r _ _=> ?_)))) rfl) ?_)
  ·unfold qY
   rw[aE (a:= .int r) (b:= .int 0) rfl rfl kN,ah]
   by_cases h:r<0
   ·simp only[h,decide_true,fI,Bool.true_or]
   ·simp only[h,decide_false,fI,Bool.false_or]
    exact aE (a:= .int r) (b:= .int n) rfl rfl oU
  ·show qf [.lst (([a,b].filter fun _=>true).map fun x=>D.bl (fI n x))]=_
   show some (D.bl ([fI n a,fI n b].any id))=_
   simp
 have e2:fT (f2 il (f2 dh (ai 1) (fC (.int 0))) (f2 dh (ai 1) (fC (.int 1)))) [some (.val (.int n)),some (.val (.tup [.int a, .int b]))]= .ok (decide (a=b)):=
  dg (aE (aE rfl rfl uL) (aE rfl rfl xN) kO)
 refine⟨fun h=>⟨[some (.val (.int n)),some (.val (.tup [.int a, .int b]))],ke rfl ?_⟩,fun h1 h2 h3=>⟨[some (.val (.int n)),some (.val (.tup [.int a, .int b]))],ke rfl ?_⟩,fun h1 h2 h3=>rH (ρ:=[some (.val (.int n)),some (.val (.tup [.int a, .int b]))]) rfl ?_⟩
 ·show bH [some (.val (.int n)),some (.val (.tup [.int a, .int b]))]=_
  refine eK ?_
  rw[gw (by rw[hc];rcases h with h|h<;>rw[h]<;>simp)]
  exact gx
 ·show bH [some (.val (.int n)),some (.val (.tup [.int a, .int b]))]=_
  unfold bH
  rw[aw (by rw[db (by rw[hc,h1,h2];rfl)];rfl),gw (by rw[e2];simp[h3])]
  exact gx
 ·show bH [some (.val (.int n)),some (.val (.tup [.int a, .int b]))]=_
  unfold bH
  rw[aw (by rw[db (by rw[hc,h1,h2];rfl)];rfl),db (by rw[e2];simp[h3])]
  rfl
theorem gJ (c a:Int) (ss:List gr) (hl:ss.length<=1000):(a∉ss.map (·.1)->∃ρ,bz [aU c ss, .tup [.int a]]= .err "UnknownStream" ρ)/\(a∈ss.map (·.1)->bz [aU c ss, .tup [.int a]]= .ok .non):=by
 have f1:∀{x:Option Slot} {g:Str} {d:D},(sE c ss).lookup g=some d->cS "Standing" g (ai 0) [some (.val (aU c ss)),some (.val (.tup [.int a])),x]= .ok d:=fun h=>gu rfl h
 have q1:∀{x:Option Slot},dP (cS "Standing" "streams" (ai 0)) [some (.val (aU c ss)),some (.val (.tup [.int a])),x]= .ok (ss.map bu):=by
  intro x
  unfold dP
  rw[f1 (eC c ss),ah]
 have e1:mx 2 (c_ ["standing","numbers","there"] [(".0", .local),("stream", .local)] (dP (cS "Standing" "streams" (ai 0))) (gN 1) (jb) (f2 dh (ai 1) (fC (.int 0)))) [some (.val (aU c ss)),some (.val (.tup [.int a])),none]
   = .ok (.nx [some (.val (aU c ss)),some (.val (.tup [.int a])),some (.own (.lst ((ss.map (·.1)).map .int)))]):=by
  refine own_of (ρ:=[some (.val (aU c ss)),some (.val (.tup [.int a])),none]) (dS q1 (by simp;unfold lim;omega) (τ:=[none,none]) rfl ?_)
  rw[iy (p:=fun _=>true) (out:=fun r:gr=>D.int r.1) ss none (fun r _=>rfl) (fun r _ _=>aE rfl rfl iz),fH,List.map_map]
  rfl
 have e2:eR (dZ qf (aa (fL (c_ ["standing","numbers","there"] [(".0", .local),("number", .local),("there", .free)] (dP (aA 1)) (gN 1) (jb) (f2 (jR true) (ai 1) (ai 2)))) (am))) [some (.val (aU c ss)),some (.val (.tup [.int a])),some (.own (.lst ((ss.map (·.1)).map .int)))]= .ok (!decide (a∈ss.map (·.1))):=by
  refine lT (dj (ax (nY (dS (ds:=[a].map D.int) rfl (show 1<=lim by decide) (τ:=[none,none,some (.bor (.lst ((ss.map (·.1)).map .int)))]) rfl (iy (p:=fun _=>true) (out:=fun x:Int=>D.bl (!decide (x∈ss.map fun r:gr=>r.1))) [a] none (fun r _=>rfl) (fun r _ _=>aE (a:= .int r) (b:= .lst ((ss.map fun r:gr=>r.1).map .int)) rfl rfl mF)))) rfl) ?_)
  show some (D.bl ([!decide (a∈ss.map (·.1))].any id))=_
  simp
 have e3:fT (f2 sC (lQ (ai 1)) (dZ dH (aa (ai 1) (am)))) [some (.val (aU c ss)),some (.val (.tup [.int a])),some (.own (.lst ((ss.map (·.1)).map .int)))]= .ok false:=by
  refine dg (aE (a:= .int (L2.fU [a])) (b:= .int 1) ?_ rfl (by rw[kN];rfl))
  rfl
 refine⟨fun h=>⟨_,ke (ρ:=[some (.val (aU c ss)),some (.val (.tup [.int a])),some (.own (.lst ((ss.map (·.1)).map .int)))]) rfl ?_⟩,fun h=>rH (ρ:=[some (.val (aU c ss)),some (.val (.tup [.int a])),some (.own (.lst ((ss.map (·.1)).map .int)))]) rfl ?_⟩
 ·show bU [some (.val (aU c ss)),some (.val (.tup [.int a])),none]=_
  unfold bU
  rw[aw e1]
  refine eK ?_
  rw[gw (by rw[e2,decide_eq_false h];rfl)]
  exact gx
 ·show bU [some (.val (aU c ss)),some (.val (.tup [.int a])),none]=_
  unfold bU
  rw[aw e1,aw (by rw[db (by rw[e2,decide_eq_true h];rfl)];rfl),db e3]
  rfl
theorem lh {n:Int} {now deed after:D} {hs:List D}:(60<=hs.length->∃ρ,aQ [az n now hs] [deed,after]= .err "TooManyDeeds" ρ/\bT 1 ρ=some [az n now hs])/\
  (hs.length<60->aQ [az n now hs] [deed,after]= .ok (.non,[az n after (hs++[.tup [deed,now]])])):=by
 have e1:fT (f2 rf (dZ dH (aa (kX 0 "Cellar" "history") (am))) (fC (.int 60))) [some (az n now hs),some (.val deed),some (.val after)]= .ok (decide ((60:Int)<=hs.length)):=by
  refine dg (aE (dj (ax (ui rfl) rfl) nW) rfl (by rw[mE]))
 refine⟨fun h=>⟨_,eZ ⟨rfl,rfl⟩ (ρ:=[some (az n now hs),some (.val deed),some (.val after)]) ?_,rfl⟩,fun h=>p8 ⟨rfl,rfl⟩ (ρ:=[some (az n after (hs++[.tup [deed,now]])),some (.val deed),some (.val after)]) ?_ rfl⟩
 ·show b_ [some (az n now hs),some (.val deed),some (.val after)]=_
  refine eK ?_
  rw[gw (by rw[e1,decide_eq_true (by omega)])]
  exact gx
 ·show b_ [some (az n now hs),some (.val deed),some (.val after)]=_
  unfold b_
  rw[aw (by rw[db (by rw[e1,decide_eq_false (by omega)])];rfl)]
  have e2:jr 0 "Cellar" "history" (cY (aa (aA 1) (aa (d9 0 "Cellar" "now") (am)))) [some (az n now hs),some (.val deed),some (.val after)]= .ok (.nx [some (az n now (hs++[.tup [deed,now]])),some (.val deed),some (.val after)]):=by
   have hf:cY (aa (aA 1) (aa (d9 0 "Cellar" "now") (am))) [some (az n now hs),some (.val deed),some (.val after)]= .ok (.tup [deed,now]):=dq (ax rfl (ax (fG (n:=n) (now:=now) (hs:=hs) rfl (hU n now)) rfl)) (show 2<=lim by decide)
   show (if ("Cellar":Str)="Cellar"/\("history":Str)="history" then (cY (aa (aA 1) (aa (d9 0 "Cellar" "now") (am))) [some (az n now hs),some (.val deed),some (.val after)]>>=fun d=>if hs.length<lim then R.ok (br.nx ([some (az n now hs),some (.val deed),some (.val after)].set 0 (some (.cel "Cellar" (iw n now) "history" (hs++[d])))))else .bad)else .bad)=_
   rw[if_pos ⟨rfl,rfl⟩,hf,ah,if_pos (by unfold lim;omega)]
   rfl
  rw[aw e2]
  show ((aA 2:ae->R D) [some (az n now (hs++[.tup [deed,now]])),some (.val deed),some (.val after)]>>=fun d=>if ("Cellar":Str)="Cellar"/\((iw n now).lookup ("now":Str)).isSome=true/\(iw n now).length<900 then R.ok (br.nx ([some (az n now (hs++[.tup [deed,now]])),some (.val deed),some (.val after)].set 0 (some (.cel "Cellar" (s9 "now" d (iw n now)) "history" (hs++[.tup [deed,now]])))))else .bad)=_
  rw[show (aA 2:ae->R D) [some (az n now (hs++[.tup [deed,now]])),some (.val deed),some (.val after)]= .ok after from rfl,ah,if_pos ⟨rfl,by rw[hU];rfl,show 2<900 by decide⟩,uh]
  rfl
theorem o3 {n a b c:Int} {ss:List gr} {hs:List D} (hl:ss.length<=12):
  (fI n a=true\/fI n b=true->∃ρ,ap [az n (aU c ss) hs] [.int a, .int b]= .err "UnknownPlace" ρ/\bT 1 ρ=some [az n (aU c ss) hs])/\
  (fI n a=false->fI n b=false->a=b->∃ρ,ap [az n (aU c ss) hs] [.int a, .int b]= .err "SamePlace" ρ/\bT 1 ρ=some [az n (aU c ss) hs])/\
  (fI n a=false->fI n b=false->a≠b->12<=ss.length->∃ρ,ap [az n (aU c ss) hs] [.int a, .int b]= .err "TooManyStreams" ρ/\bT 1 ρ=some [az n (aU c ss) hs])/\
  (fI n a=false->fI n b=false->a≠b->ss.length<12->60<=hs.length->∃ρ,ap [az n (aU c ss) hs] [.int a, .int b]= .err "TooManyDeeds" ρ/\bT 1 ρ=some [az n (aU c ss) hs])/\
  (fI n a=false->fI n b=false->a≠b->ss.length<12->hs.length<60->∃hs',ap [az n (aU c ss) hs] [.int a, .int b]= .ok (.int (c+1),[az n (aU (c+1) (ss++[(c+1,a,b)])) hs'])/\hs'.length=hs.length+1):=by
 obtain⟨P1,P2,P3⟩:=hV n a b
 have args:aa (d9 0 "Cellar" "tanks") (aa (cY (aa (aA 1) (aa (aA 2) (am)))) (am)) [some (az n (aU c ss) hs),some (.val (.int a)),some (.val (.int b))]= .ok [.int n, .tup [.int a, .int b]]:=
  ax (fG (n:=n) (now:=aU c ss) (hs:=hs) rfl (sA n _)) (ax (dq rfl (show 2<=lim by decide)) rfl)
 have first_err:∀{x:Str} {ρ:ae},a_ [.int n, .tup [.int a, .int b]]= .err x ρ->∃ρ,ap [az n (aU c ss) hs] [.int a, .int b]= .err x ρ/\bT 1 ρ=some [az n (aU c ss) hs]:=fun {x ρ} h=>
  ⟨[some (az n (aU c ss) hs),some (.val (.int a)),some (.val (.int b))],eZ ⟨rfl,rfl⟩ (eK (mZ (m_ (n:=2) args rfl h))),rfl⟩
 have tst:fT (f2 rf (dZ dH (aa (cS "Standing" "streams" (d9 0 "Cellar" "now")) (am))) (fC (.int 12))) [some (az n (aU c ss) hs),some (.val (.int a)),some (.val (.int b))]= .ok (decide ((12:Int)<=ss.length)):=by
  refine dg (aE (dj (ax (gu (fG (n:=n) (now:=aU c ss) (hs:=hs) rfl (hU n _)) (eC c ss)) rfl) lH) rfl (by rw[mE,List.length_map]))
 have kargs:aa (cY (aa (fC (.str "stream comes")) (aa (aA 1) (aa (aA 2) (am))))) (aa (gj "Standing" "with_stream" 3 aV (d9 0 "Cellar" "now") (aa (aA 1) (aa (aA 2) (am)))) (am)) [some (az n (aU c ss) hs),some (.val (.int a)),some (.val (.int b))]
   = .ok [.tup [.str "stream comes", .int a, .int b],aU (c+1) (ss++[(c+1,a,b)])]:=
  ax (dq rfl (show 3<=lim by decide)) (ax (lU (fds:=sE c ss) (ds:=[.int a, .int b]) (fG (n:=n) (now:=aU c ss) (hs:=hs) rfl (hU n _)) rfl rfl (i_ (by omega)) rfl) rfl)
 obtain⟨K1,K2⟩:=lh (n:=n) (now:=aU c ss) (deed:= .tup [.str "stream comes", .int a, .int b]) (after:=aU (c+1) (ss++[(c+1,a,b)])) (hs:=hs)
 refine⟨fun h=> ?_,fun h1 h2 h3=> ?_,fun h1 h2 h3 h4=> ?_,fun h1 h2 h3 h4 h5=> ?_,fun h1 h2 h3 h4 h5=> ?_⟩
 ·obtain⟨ρ,e⟩:=P1 h;exact first_err e
 ·obtain⟨ρ,e⟩:=P2 h1 h2 h3;exact first_err e
 ·refine⟨[some (az n (aU c ss) hs),some (.val (.int a)),some (.val (.int b))],eZ ⟨rfl,rfl⟩ ?_,rfl⟩
  show aP [some (az n (aU c ss) hs),some (.val (.int a)),some (.val (.int b))]=_
  unfold aP
  rw[aw (ix (d6 (n:=2) args rfl (P3 h1 h2 h3)))]
  refine eK ?_
  rw[gw (by rw[tst,decide_eq_true (by omega)])]
  exact gx
 ·obtain⟨ρe,e,t⟩:=K1 h5
  refine⟨[some (az n (aU c ss) hs),some (.val (.int a)),some (.val (.int b))],eZ ⟨rfl,rfl⟩ ?_,rfl⟩
  show aP [some (az n (aU c ss) hs),some (.val (.int a)),some (.val (.int b))]=_
  unfold aP
  rw[aw (ix (d6 (n:=2) args rfl (P3 h1 h2 h3))),aw (by rw[db (by rw[tst,decide_eq_false (by omega)])];rfl)]
  exact eK (lg (by rw[gz (n:=n) (now:=aU c ss) (hs:=hs) rfl];exact js (k:=2) (n:=n) (now:=aU c ss) (hs:=hs) rfl kargs rfl e t rfl))
 ·refine⟨hs++[.tup [.tup [.str "stream comes", .int a, .int b],aU c ss]],iZ ⟨rfl,rfl⟩ (ρ:=[some (az n (aU (c+1) (ss++[(c+1,a,b)])) (hs++[.tup [.tup [.str "stream comes", .int a, .int b],aU c ss]])),some (.val (.int a)),some (.val (.int b))]) ?_ rfl,by simp⟩
  show aP [some (az n (aU c ss) hs),some (.val (.int a)),some (.val (.int b))]=_
  unfold aP
  rw[aw (ix (d6 (n:=2) args rfl (P3 h1 h2 h3))),aw (by rw[db (by rw[tst,decide_eq_false (by omega)])];rfl)]
  rw[aw (n0 (by rw[gz (n:=n) (now:=aU c ss) (hs:=hs) rfl];exact kd (k:=2) (n:=n) (now:=aU c ss) (hs:=hs) rfl kargs rfl (K2 h5)))]
  exact uj (gu (fG (n:=n) (now:=aU (c+1) (ss++[(c+1,a,b)])) (hs:=hs++[.tup [.tup [.str "stream comes", .int a, .int b],aU c ss]]) rfl (hU n _)) (lS _ _))
theorem qk {n a c:Int} {ss:List gr} {hs:List D} (hl:ss.length<=12):
  (a∉ss.map (·.1)->∃ρ,aB [az n (aU c ss) hs] [.int a]= .err "UnknownStream" ρ/\bT 1 ρ=some [az n (aU c ss) hs])/\
  (a∈ss.map (·.1)->60<=hs.length->∃ρ,aB [az n (aU c ss) hs] [.int a]= .err "TooManyDeeds" ρ/\bT 1 ρ=some [az n (aU c ss) hs])/\
  (a∈ss.map (·.1)->hs.length<60->∃hs',aB [az n (aU c ss) hs] [.int a]= .ok (.non,[az n (aU c (ss.filter fun r=>decide (r.1≠a))) hs'])/\hs'.length=hs.length+1):=by
 obtain⟨P1,P2⟩:=gJ c a ss (by omega)
 have args:aa (d9 0 "Cellar" "now") (aa (cY (aa (aA 1) (am))) (am)) [some (az n (aU c ss) hs),some (.val (.int a))]= .ok [aU c ss, .tup [.int a]]:=
  ax (fG (n:=n) (now:=aU c ss) (hs:=hs) rfl (hU n _)) (ax (dq rfl (show 1<=lim by decide)) rfl)
 have kargs:aa (cY (aa (fC (.str "stream goes")) (aa (aA 1) (am)))) (aa (gj "Standing" "without_stream" 2 aJ (d9 0 "Cellar" "now") (aa (aA 1) (am))) (am)) [some (az n (aU c ss) hs),some (.val (.int a))]
   = .ok [.tup [.str "stream goes", .int a],aU c (ss.filter fun r=>decide (r.1≠a))]:=
  ax (dq rfl (show 2<=lim by decide)) (ax (lU (fds:=sE c ss) (ds:=[.int a]) (fG (n:=n) (now:=aU c ss) (hs:=hs) rfl (hU n _)) rfl rfl (gI (by omega)) rfl) rfl)
 obtain⟨K1,K2⟩:=lh (n:=n) (now:=aU c ss) (deed:= .tup [.str "stream goes", .int a]) (after:=aU c (ss.filter fun r=>decide (r.1≠a))) (hs:=hs)
 refine⟨fun h=> ?_,fun h1 h5=> ?_,fun h1 h5=> ?_⟩
 ·obtain⟨ρ,e⟩:=P1 h
  exact⟨[some (az n (aU c ss) hs),some (.val (.int a))],eZ ⟨rfl,rfl⟩ (eK (mZ (m_ (n:=2) args rfl e))),rfl⟩
 ·obtain⟨ρe,e,t⟩:=K1 h5
  refine⟨[some (az n (aU c ss) hs),some (.val (.int a))],eZ ⟨rfl,rfl⟩ ?_,rfl⟩
  show bj [some (az n (aU c ss) hs),some (.val (.int a))]=_
  unfold bj
  rw[aw (ix (d6 (n:=2) args rfl (P2 h1)))]
  exact lg (by rw[gz (n:=n) (now:=aU c ss) (hs:=hs) rfl];exact js (k:=2) (n:=n) (now:=aU c ss) (hs:=hs) rfl kargs rfl e t rfl)
 ·refine⟨hs++[.tup [.tup [.str "stream goes", .int a],aU c ss]],p8 ⟨rfl,rfl⟩ (ρ:=[some (az n (aU c (ss.filter fun r=>decide (r.1≠a))) (hs++[.tup [.tup [.str "stream goes", .int a],aU c ss]])),some (.val (.int a))]) ?_ rfl,by simp⟩
  show bj [some (az n (aU c ss) hs),some (.val (.int a))]=_
  unfold bj
  rw[aw (ix (d6 (n:=2) args rfl (P2 h1)))]
  exact n0 (by rw[gz (n:=n) (now:=aU c ss) (hs:=hs) rfl];exact kd (k:=2) (n:=n) (now:=aU c ss) (hs:=hs) rfl kargs rfl (K2 h5))
noncomputable def o4 (r:gr):D:= .tup [.int r.1, .int r.2.1, .int r.2.2, .bl false]
noncomputable def n4 (n:Int) (now:D) (hs:List D):List (Str×D):=iw n now++[(("history":Str),D.lst hs)]
theorem n5 {n c:Int} {ss:List gr} {hs:List D} (hl:ss.length<=12):bI [.ins "Cellar" (n4 n (aU c ss) hs)]= .ok (.tup (ss.map o4)):=by
 refine dv rfl ?_
 show dL [some (.val (.ins "Cellar" (n4 n (aU c ss) hs))),none]=_
 unfold dL
 have nw:∀{x:Option Slot},cS "Cellar" "now" (ai 0) [some (.val (.ins "Cellar" (n4 n (aU c ss) hs))),x]= .ok (aU c ss):=fun {x}=>gu (fds:=n4 n (aU c ss) hs) rfl rfl
 have q1:∀{x:Option Slot},dP (cS "Standing" "streams" (cS "Cellar" "now" (ai 0))) [some (.val (.ins "Cellar" (n4 n (aU c ss) hs))),x]= .ok (ss.map bu):=by
  intro x
  unfold dP
  rw[gu nw (eC c ss),ah]
 rw[aw (ρ':=[some (.val (.ins "Cellar" (n4 n (aU c ss) hs))),some (.val (.tup []))]) (dI (gu nw (iY c ss)) rfl)]
 refine gf (dj (ax (nY (dS q1 (by simp;unfold lim;omega) (τ:=[none,none,some (.val (.tup []))]) rfl (iy (p:=fun _=>true) (out:=o4) ss none (fun r _=>rfl) (fun r _ _=> ?_)))) rfl) (by rw[fH];rfl))
 exact aE (a:=bu r) (b:= .tup [.bl false]) rfl (dq (ax (aE (aE rfl rfl iz) rfl rfl) rfl) (show 1<=lim by decide)) rfl
theorem ql {n:Int} (h0:0<=n) (h7:n<=7):ce [.int n]= .ok (iw n (aU 0 []),"history",[]):=by
 unfold ce gn
 rw[if_pos (show [D.int n].length=1 from rfl)]
 show (eN [some .obj,some (.val (.int n)),none,none,none]>>=_)=_
 unfold eN
 rw[aw (ρ':=[some .obj,some (.val (.int n)),none,none,none]) (by
  rw[db]
  ·rfl
  ·unfold tK
   rw[dg (aE (a:= .int n) (b:= .int 0) rfl rfl kN),ah,decide_eq_false (by omega),if_neg (by simp)]
   rw[dg (aE (a:= .int n) (b:= .int 7) rfl rfl oU),decide_eq_false (by omega)])]
 rfl
theorem xv:tN (.int 10) (.int 20)=some (.int (10 ^20)):=tV (by unfold my;decide)
theorem qm (ns:List Int) (k:Nat) {n fo:Int} (h0:0<=n) (h7:n<=7) (hf:0<=fo):(∃a,bN [.scr ns, .int (k:Int), .int n, .int fo]= .ok (.tup [.int a]))\/∃a b,bN [.scr ns, .int (k:Int), .int n, .int fo]= .ok (.tup [.int a, .int b]):=by
 have st:∀{o:R br},et [some (.val (.scr ns)),some (.val (.int (k:Int))),some (.val (.int n)),some (.val (.int fo)),none,none,none]=o->bN [.scr ns, .int (k:Int), .int n, .int fo]=(o>>=fun o=>match o with| .ret d=> .ok d| .nx _=> .ok .non|_=> .bad):=fun h=>by rw[<-h];rfl
 let c:=cl ns k
 let R0:Option Slot->Option Slot->Option Slot->ae:=fun x y z=>[some (.val (.scr ns)),some (.val (.int (k:Int))),some (.val (.int n)),some (.val (.int fo)),x,y,z]
 have e1:ck (bC cq 2 (aa (aA 0) (aa (aA 1) (am)))) (gN 4) (R0 none none none)= .ok (.nx (R0 (some (.val (.int c))) none none)):=dI (d6 (n:=2) rfl rfl (la ns k)) rfl
 have d3:∀{x y:Option Slot},f2 eS (ai 4) (fC (.int 3)) (R0 (some (.val (.int c))) x y)= .ok (.int (c / 3)):=fun {x y}=>aE (a:= .int c) (b:= .int 3) rfl rfl (iM (by decide))
 have n3:∀{x y:Option Slot},f2 dG (ai 2) (fC (.int 3)) (R0 (some (.val (.int c))) x y)= .ok (.int (n+3)):=fun {x y}=>rfl
 have t1:fT (f2 il (f2 gW (ai 4) (fC (.int 3))) (fC (.int 2))) (R0 (some (.val (.int c))) none none)= .ok (decide (c%3=2)):=dg (aE (aE (a:= .int c) (b:= .int 3) rfl rfl (dD (by decide))) rfl kO)
 by_cases h:c%3=2
 ·refine .inl ⟨c / 3%(fo+2),?_⟩
  rw[st (o:= .ok (.ret (.tup [.int (c / 3%(fo+2))]))) ?_]
  ·rfl
  ·unfold et
   rw[show ([some (.val (.scr ns)),some (.val (.int (k:Int))),some (.val (.int n)),some (.val (.int fo)),none,none,none]:ae)=R0 none none none from rfl,aw e1]
   refine ip ?_
   rw[gw (by rw[t1,decide_eq_true h])]
   exact gf (dq (ax (aE d3 (show f2 dG (ai 3) (fC (.int 2)) (R0 (some (.val (.int c))) none none)= .ok (.int (fo+2))from rfl) (dD (by omega))) rfl) (show 1<=lim by decide))
 ·have e2:∀{x y:Option Slot},ck (f2 p_ (f2 gW (f2 eS (ai 4) (fC (.int 3))) (f2 dG (ai 2) (fC (.int 3)))) (fC (.int 1))) (gN 5) (R0 (some (.val (.int c))) x y)= .ok (.nx (R0 (some (.val (.int c))) (some (.val (.int (c / 3%(n+3) - 1)))) y)):=fun {x y}=>dI (aE (aE d3 n3 (dD (by omega))) rfl nV) rfl
  have e3:∀{x y:Option Slot},ck (f2 p_ (f2 gW (f2 eS (f2 eS (ai 4) (fC (.int 3))) (f2 dG (ai 2) (fC (.int 3)))) (f2 dG (ai 2) (fC (.int 3)))) (fC (.int 1))) (gN 6) (R0 (some (.val (.int c))) x y)= .ok (.nx (R0 (some (.val (.int c))) x (some (.val (.int (c / 3 / (n+3)%(n+3) - 1)))))):=fun {x y}=>dI (aE (aE (aE d3 n3 (iM (by omega))) n3 (dD (by omega))) rfl nV) rfl
  have t2:∀{x y:Option Slot},fT (f2 il (f2 gW (f2 eS (ai 4) (fC (.int 3))) (fC (.int 31))) (fC (.int 30))) (R0 (some (.val (.int c))) x y)= .ok (decide (c / 3%31=30)):=fun {x y}=>dg (aE (aE d3 rfl (dD (by decide))) rfl kO)
  have go:∃b:Int,et [some (.val (.scr ns)),some (.val (.int (k:Int))),some (.val (.int n)),some (.val (.int fo)),none,none,none]= .ok (.ret (.tup [.int (c / 3%(n+3) - 1), .int b])):=by
   unfold et
   rw[show ([some (.val (.scr ns)),some (.val (.int (k:Int))),some (.val (.int n)),some (.val (.int fo)),none,none,none]:ae)=R0 none none none from rfl,aw e1,aw (by rw[db (by rw[t1,decide_eq_false h])];rfl),aw e2,aw e3]
   by_cases h2:c / 3%31=30
   ·refine⟨10 ^20,?_⟩
    rw[aw (by rw[gw (by rw[t2,decide_eq_true h2])];exact dI (aE rfl rfl xv) rfl)]
    exact gf (dq rfl (show 2<=lim by decide))
   ·refine⟨c / 3 / (n+3)%(n+3) - 1,?_⟩
    rw[aw (by rw[db (by rw[t2,decide_eq_false h2])];rfl)]
    exact gf (dq rfl (show 2<=lim by decide))
  obtain⟨b,e⟩:=go
  exact .inr ⟨_,b,by rw[st e];rfl⟩
noncomputable def o5 (g:Nat):Str:=if 60<=g then "TooManyDeeds" else ""
noncomputable def qo (ss:List gr) (g:Nat) (a:Int):Str:=if a∈ss.map (·.1)then o5 g else "UnknownStream"
noncomputable def qp (n:Int) (ss:List gr) (g:Nat) (a b:Int):Str:=if (fI n a||fI n b)=true then "UnknownPlace" else if a=b then "SamePlace" else if 12<=ss.length then "TooManyStreams" else o5 g
theorem pb {n:Int} {ss:List gr} {g:Nat} {d:D}:cj (f2 dh (mv (aa (fC (.str "")) (aa (fC (.str "TooManyDeeds")) (am)))) (dZ rl (aa (f2 rf (ai 2) (fC (.int 60))) (am)))) [some (.val (.int n)),some (.val (.lst (ss.map bu))),some (.val (.int (g:Int))),some (.val d)]= .ok (.ret (.str (o5 g))):=by
 have hl:mv (aa (fC (.str "")) (aa (fC (.str "TooManyDeeds")) (am))) [some (.val (.int n)),some (.val (.lst (ss.map bu))),some (.val (.int (g:Int))),some (.val d)]= .ok (.lst [.str "", .str "TooManyDeeds"]):=by
  unfold mv
  rw[show aa (fC (.str "")) (aa (fC (.str "TooManyDeeds")) (am)) [some (.val (.int n)),some (.val (.lst (ss.map bu))),some (.val (.int (g:Int))),some (.val d)]= .ok [.str "", .str "TooManyDeeds"]from rfl,ah]
  exact if_pos (show 2<=lim by decide)
 have hg:f2 rf (ai 2) (fC (.int 60)) [some (.val (.int n)),some (.val (.lst (ss.map bu))),some (.val (.int (g:Int))),some (.val d)]= .ok (.bl (decide ((60:Int)<=g))):=aE (a:= .int g) (b:= .int 60) rfl rfl mE
 unfold o5
 by_cases h:60<=g
 ·rw[if_pos h]
  refine gf (aE hl (dj (d:= .int 1) (ax hg rfl) ?_) yu)
  rw[decide_eq_true (by omega)];rfl
 ·rw[if_neg h]
  refine gf (aE hl (dj (d:= .int 0) (ax hg rfl) ?_) yI)
  rw[decide_eq_false (by omega)];rfl
theorem o6 {n:Int} {ss:List gr} {g:Nat} {a:Int} (hl:ss.length<=12):aS [.int n, .lst (ss.map bu), .int (g:Int), .tup [.int a]]= .ok (.str (qo ss g a)):=by
 refine dv rfl ?_
 show cu [some (.val (.int n)),some (.val (.lst (ss.map bu))),some (.val (.int (g:Int))),some (.val (.tup [.int a]))]=_
 have t1:fT (f2 il (dZ dH (aa (ai 3) (am))) (fC (.int 1))) [some (.val (.int n)),some (.val (.lst (ss.map bu))),some (.val (.int (g:Int))),some (.val (.tup [.int a]))]= .ok true:=rfl
 have t2:fT (f2 (jR true) (f2 dh (ai 3) (fC (.int 0))) (fL (c_ ["_law_n","_law_streams","_law_good","_law_deed_here"] [(".0", .local),("_law_stream", .local)] (dP (aA 1)) (gN 1) (jb) (f2 dh (ai 1) (fC (.int 0)))))) [some (.val (.int n)),some (.val (.lst (ss.map bu))),some (.val (.int (g:Int))),some (.val (.tup [.int a]))]= .ok (!decide (a∈ss.map (·.1))):=by
  refine dg (aE (a:= .int a) (b:= .lst ((ss.map (·.1)).map .int)) (aE rfl rfl uL) (nY (dS (ds:=ss.map bu) rfl (by simp;unfold lim;omega) (τ:=[none,none]) rfl ?_)) mF)
  rw[iy (p:=fun _=>true) (out:=fun r:gr=>D.int r.1) ss none (fun r _=>rfl) (fun r _ _=>aE rfl rfl iz),fH,List.map_map]
  rfl
 unfold cu qo
 by_cases h:a∈ss.map (·.1)
 ·rw[if_pos h,aw (by rw[gw t1,db (by rw[t2,decide_eq_true h];rfl)];rfl)]
  exact pb
 ·rw[if_neg h]
  refine ip ?_
  rw[gw t1,gw (by rw[t2,decide_eq_false h];rfl)]
  rfl
theorem o7 {n:Int} {ss:List gr} {g:Nat} {a b:Int} (hl:ss.length<=12):aS [.int n, .lst (ss.map bu), .int (g:Int), .tup [.int a, .int b]]= .ok (.str (qp n ss g a b)):=by
 refine dv rfl ?_
 show cu [some (.val (.int n)),some (.val (.lst (ss.map bu))),some (.val (.int (g:Int))),some (.val (.tup [.int a, .int b]))]=_
 have t1:fT (f2 il (dZ dH (aa (ai 3) (am))) (fC (.int 1))) [some (.val (.int n)),some (.val (.lst (ss.map bu))),some (.val (.int (g:Int))),some (.val (.tup [.int a, .int b]))]= .ok false:=rfl
 have t2:tK (fT (f2 sC (dZ sm (aa (ai 3) (am))) (fC (.int 0)))) (fT (f2 vC (dZ sq (aa (ai 3) (am))) (ai 0))) [some (.val (.int n)),some (.val (.lst (ss.map bu))),some (.val (.int (g:Int))),some (.val (.tup [.int a, .int b]))]= .ok (fI n a||fI n b):=by
  unfold tK
  rw[dg (aE (a:= .int (if b<a then b else a)) (b:= .int 0) rfl rfl kN),ah,dg (aE (a:= .int (if a<b then b else a)) (b:= .int n) rfl rfl oU)]
  unfold fI
  by_cases h:(if b<a then b else a)<0
  ·rw[decide_eq_true h,if_pos rfl]
   congr 1
   symm
   simp only[Bool.or_eq_true,decide_eq_true_eq]
   split at h<;>omega
  ·rw[decide_eq_false h,if_neg (by simp)]
   congr 1
   rw[Bool.eq_iff_iff]
   simp only[Bool.or_eq_true,decide_eq_true_eq]
   split at h<;>split<;>omega
 have t3:fT (f2 il (f2 dh (ai 3) (fC (.int 0))) (f2 dh (ai 3) (fC (.int 1)))) [some (.val (.int n)),some (.val (.lst (ss.map bu))),some (.val (.int (g:Int))),some (.val (.tup [.int a, .int b]))]= .ok (decide (a=b)):=dg (aE (aE rfl rfl uL) (aE rfl rfl xN) kO)
 have t4:fT (f2 rf (dZ dH (aa (ai 1) (am))) (fC (.int 12))) [some (.val (.int n)),some (.val (.lst (ss.map bu))),some (.val (.int (g:Int))),some (.val (.tup [.int a, .int b]))]= .ok (decide ((12:Int)<=ss.length)):=dg (aE (dj rfl nW) rfl (by rw[mE,List.length_map]))
 unfold cu qp
 by_cases h1:(fI n a||fI n b)=true
 ·rw[if_pos h1]
  exact ip (by rw[db t1,gw (by rw[t2,h1])];rfl)
 ·rw[if_neg h1]
  have h1':(fI n a||fI n b)=false:=by simpa using h1
  by_cases h2:a=b
  ·rw[if_pos h2]
   exact ip (by rw[db t1,db (by rw[t2,h1']),gw (by rw[t3,decide_eq_true h2])];rfl)
  ·rw[if_neg h2]
   by_cases h3:12<=ss.length
   ·rw[if_pos h3]
    exact ip (by rw[db t1,db (by rw[t2,h1']),db (by rw[t3,decide_eq_false h2]),gw (by rw[t4,decide_eq_true (by omega)])];rfl)
   ·rw[if_neg h3,aw (by rw[db t1,db (by rw[t2,h1']),db (by rw[t3,decide_eq_false h2]),db (by rw[t4,decide_eq_false (by omega)])];rfl)]
    exact pb
noncomputable abbrev tR (s:Slot) (d:D) (k e w ws:Option Slot):ae:=[some s,some (.val d),k,e,w,ws]
theorem pc {s s':Slot} {d v:D} (h:aN (eM (fT (f2 il (dZ dH (aa (ai 1) (am))) (fC (.int 2)))) (gl (ek (fC (.str "")) (iR 0 "Cellar" "stream_comes" (fQ [0] ap 2 (aa (f2 dh (ai 1) (fC (.int 0))) (aa (f2 dh (ai 1) (fC (.int 1))) (am))))))) (bi)) (gl (ek (fC (.str "")) (iR 0 "Cellar" "stream_goes" (fQ [0] aB 1 (aa (f2 dh (ai 1) (fC (.int 0))) (am)))))) (tR s d (some (.own (.lst []))) none none none)= .ok (.retc v (tR s' d (some (.own (.lst []))) none none none))):aY [s] [d]= .ok (v,[s']):=by
 refine iZ ⟨rfl,rfl⟩ (ρ:=tR s' d (some (.own (.lst []))) none none none) ?_ rfl
 show eu (tR s d none none none none)=_
 unfold eu
 rw[aw (ρ':=tR s d (some (.own (.lst []))) none none none) rfl]
 refine mY ?_
 unfold lK
 rw[h]
theorem n6 {s:Slot} {d:D} {x:Str} (hx:x="UnknownPlace"\/x="SamePlace"\/x="TooManyStreams"\/x="UnknownStream"\/x="TooManyDeeds") (h:aN (eM (fT (f2 il (dZ dH (aa (ai 1) (am))) (fC (.int 2)))) (gl (ek (fC (.str "")) (iR 0 "Cellar" "stream_comes" (fQ [0] ap 2 (aa (f2 dh (ai 1) (fC (.int 0))) (aa (f2 dh (ai 1) (fC (.int 1))) (am))))))) (bi)) (gl (ek (fC (.str "")) (iR 0 "Cellar" "stream_goes" (fQ [0] aB 1 (aa (f2 dh (ai 1) (fC (.int 0))) (am)))))) (tR s d (some (.own (.lst []))) none none none)= .err x (tR s d (some (.own (.lst []))) none none none)):aY [s] [d]= .ok (.lst [.str x, .non],[s]):=by
 have go:∃bs ws,eu (tR s d none none none none)= .ok (.retc (.lst [.str x, .non]) (tR s d bs none (some (.val (.str x))) ws)):=by
  unfold eu
  rw[aw (ρ':=tR s d (some (.own (.lst []))) none none none) rfl]
  rcases hx with rfl|rfl|rfl|rfl|rfl
  ·rw[aw (ρ':=tR s d (some (.val (.lst [.bl true, .bl false, .bl false, .bl false, .bl false, .bl false]))) none none none) (by unfold lK;rw[h];rfl)]
   exact⟨_,_,rfl⟩
  ·rw[aw (ρ':=tR s d (some (.val (.lst [.bl false, .bl true, .bl false, .bl false, .bl false, .bl false]))) none none none) (by unfold lK;rw[h];rfl)]
   exact⟨_,_,rfl⟩
  ·rw[aw (ρ':=tR s d (some (.val (.lst [.bl false, .bl false, .bl true, .bl false, .bl false, .bl false]))) none none none) (by unfold lK;rw[h];rfl)]
   exact⟨_,_,rfl⟩
  ·rw[aw (ρ':=tR s d (some (.val (.lst [.bl false, .bl false, .bl false, .bl true, .bl false, .bl false]))) none none none) (by unfold lK;rw[h];rfl)]
   exact⟨_,_,rfl⟩
  ·rw[aw (ρ':=tR s d (some (.val (.lst [.bl false, .bl false, .bl false, .bl false, .bl true, .bl false]))) none none none) (by unfold lK;rw[h];rfl)]
   exact⟨_,_,rfl⟩
 obtain⟨bs,ws,e⟩:=go
 exact iZ ⟨rfl,rfl⟩ e rfl
theorem pd {fx:ae->R (D×ae)} {ρ ρ':ae} {d:D} (h:fx ρ= .ok (d,ρ')):gl fx ρ= .ok (.retc d ρ'):=by unfold gl;rw[h,ah]
theorem n8 {fx:ae->R (D×ae)} {ρ ρ':ae} {x:Str} (h:fx ρ= .err x ρ'):gl fx ρ= .err x ρ':=by unfold gl;rw[h];rfl
theorem pe {f:ae->R D} {fx:ae->R (D×ae)} {ρ ρ':ae} {d e:D} (h:f ρ= .ok d) (h2:fx ρ= .ok (e,ρ')):ek f fx ρ= .ok (.lst [d,e],ρ'):=by unfold ek;rw[h,ah,h2,ah]
theorem n9 {f:ae->R D} {fx:ae->R (D×ae)} {ρ ρ':ae} {d:D} {x:Str} (h:f ρ= .ok d) (h2:fx ρ= .err x ρ'):ek f fx ρ= .err x ρ':=by unfold ek;rw[h,ah,h2];rfl
theorem kg (g:Nat):(60<=g/\o5 g="TooManyDeeds")\/(g<60/\o5 g=""):=by
 unfold o5
 by_cases h:60<=g
 ·exact .inl ⟨h,if_pos h⟩
 ·exact .inr ⟨by omega,if_neg h⟩
theorem o8 {n a b c:Int} {ss:List gr} {hs:List D} (hl:ss.length<=12):
  (qp n ss hs.length a b≠""/\aY [az n (aU c ss) hs] [.tup [.int a, .int b]]= .ok (.lst [.str (qp n ss hs.length a b), .non],[az n (aU c ss) hs]))\/
  (qp n ss hs.length a b=""/\ss.length<12/\hs.length<60/\∃hs',hs'.length=hs.length+1/\aY [az n (aU c ss) hs] [.tup [.int a, .int b]]= .ok (.lst [.str "", .int (c+1)],[az n (aU (c+1) (ss++[(c+1,a,b)])) hs'])):=by
 obtain⟨C1,C2,C3,C4,C5⟩:=o3 (n:=n) (a:=a) (b:=b) (c:=c) (ss:=ss) (hs:=hs) hl
 have args:aa (f2 dh (ai 1) (fC (.int 0))) (aa (f2 dh (ai 1) (fC (.int 1))) (am)) (tR (az n (aU c ss) hs) (.tup [.int a, .int b]) (some (.own (.lst []))) none none none)= .ok [.int a, .int b]:=ax (aE rfl rfl uL) (ax (aE rfl rfl xN) rfl)
 have err:∀{x:Str} {ρ:ae},x≠""->(x="UnknownPlace"\/x="SamePlace"\/x="TooManyStreams"\/x="UnknownStream"\/x="TooManyDeeds")->ap [az n (aU c ss) hs] [.int a, .int b]= .err x ρ->bT 1 ρ=some [az n (aU c ss) hs]->x≠""/\aY [az n (aU c ss) hs] [.tup [.int a, .int b]]= .ok (.lst [.str x, .non],[az n (aU c ss) hs]):=fun {x ρ} nx hx e t=>⟨nx,by
  refine n6 hx (eK ?_)
  rw[gw rfl]
  exact n8 (n9 rfl (by rw[gz (n:=n) (now:=aU c ss) (hs:=hs) rfl];exact js (k:=2) (n:=n) (now:=aU c ss) (hs:=hs) rfl args rfl e t rfl))⟩
 unfold qp
 by_cases h1:(fI n a||fI n b)=true
 ·rw[if_pos h1]
  obtain⟨ρ,e,t⟩:=C1 (by simpa using h1)
  exact .inl (err (by decide) (.inl rfl) e t)
 ·rw[if_neg h1]
  have ha:fI n a=false:=by cases q:fI n a<;>simp_all
  have hb:fI n b=false:=by cases q:fI n b<;>simp_all
  by_cases h2:a=b
  ·rw[if_pos h2]
   obtain⟨ρ,e,t⟩:=C2 ha hb h2
   exact .inl (err (by decide) (.inr (.inl rfl)) e t)
  ·rw[if_neg h2]
   by_cases h3:12<=ss.length
   ·rw[if_pos h3]
    obtain⟨ρ,e,t⟩:=C3 ha hb h2 h3
    exact .inl (err (by decide) (.inr (.inr (.inl rfl))) e t)
   ·rw[if_neg h3]
    rcases kg hs.length with ⟨h4,q⟩|⟨h4,q⟩
    ·rw[q]
     obtain⟨ρ,e,t⟩:=C4 ha hb h2 (by omega) h4
     exact .inl (err (by decide) (.inr (.inr (.inr (.inr rfl)))) e t)
    ·rw[q]
     obtain⟨hs',e,hl'⟩:=C5 ha hb h2 (by omega) h4
     refine .inr ⟨rfl,by omega,h4,hs',hl',pc (mY ?_)⟩
     rw[gw rfl]
     exact pd (pe rfl (by rw[gz (n:=n) (now:=aU c ss) (hs:=hs) rfl];exact kd (k:=2) (n:=n) (now:=aU c ss) (hs:=hs) rfl args rfl e))
theorem o9 {n a c:Int} {ss:List gr} {hs:List D} (hl:ss.length<=12):
  (qo ss hs.length a≠""/\aY [az n (aU c ss) hs] [.tup [.int a]]= .ok (.lst [.str (qo ss hs.length a), .non],[az n (aU c ss) hs]))\/
  (qo ss hs.length a=""/\hs.length<60/\∃hs',hs'.length=hs.length+1/\aY [az n (aU c ss) hs] [.tup [.int a]]= .ok (.lst [.str "", .non],[az n (aU c (ss.filter fun r=>decide (r.1≠a))) hs'])):=by
 obtain⟨C1,C2,C3⟩:=qk (n:=n) (a:=a) (c:=c) (ss:=ss) (hs:=hs) hl
 have args:aa (f2 dh (ai 1) (fC (.int 0))) (am) (tR (az n (aU c ss) hs) (.tup [.int a]) (some (.own (.lst []))) none none none)= .ok [.int a]:=ax (aE rfl rfl uL) rfl
 have err:∀{x:Str} {ρ:ae},x≠""->(x="UnknownPlace"\/x="SamePlace"\/x="TooManyStreams"\/x="UnknownStream"\/x="TooManyDeeds")->aB [az n (aU c ss) hs] [.int a]= .err x ρ->bT 1 ρ=some [az n (aU c ss) hs]->x≠""/\aY [az n (aU c ss) hs] [.tup [.int a]]= .ok (.lst [.str x, .non],[az n (aU c ss) hs]):=fun {x ρ} nx hx e t=>⟨nx,by
  refine n6 hx ?_
  rw[aw (ρ':=tR (az n (aU c ss) hs) (.tup [.int a]) (some (.own (.lst []))) none none none) rfl]
  exact n8 (n9 rfl (by rw[gz (n:=n) (now:=aU c ss) (hs:=hs) rfl];exact js (k:=1) (n:=n) (now:=aU c ss) (hs:=hs) rfl args rfl e t rfl))⟩
 unfold qo
 by_cases h:a∈ss.map (·.1)
 ·rw[if_pos h]
  rcases kg hs.length with ⟨h4,q⟩|⟨h4,q⟩
  ·rw[q]
   obtain⟨ρ,e,t⟩:=C2 h h4
   exact .inl (err (by decide) (.inr (.inr (.inr (.inr rfl)))) e t)
  ·rw[q]
   obtain⟨hs',e,hl'⟩:=C3 h h4
   refine .inr ⟨rfl,h4,hs',hl',pc ?_⟩
   rw[aw (ρ':=tR (az n (aU c ss) hs) (.tup [.int a]) (some (.own (.lst []))) none none none) rfl]
   exact pd (pe rfl (by rw[gz (n:=n) (now:=aU c ss) (hs:=hs) rfl];exact kd (k:=1) (n:=n) (now:=aU c ss) (hs:=hs) rfl args rfl e))
 ·rw[if_neg h]
  obtain⟨ρ,e,t⟩:=C1 h
  exact .inl (err (by decide) (.inr (.inr (.inr (.inl rfl)))) e t)
theorem wa (ss:List gr) (h:ss.length<=12):Wf 2 (.tup (ss.map o4)):= .tup (by simp;omega) fun d hd=>by
 obtain⟨r,_,rfl⟩:=List.mem_map.mp hd
 refine .tup (by simp) fun d hd=> ?_
 simp at hd
 rcases hd with rfl|rfl|rfl|rfl
 ·exact .int _ _
 ·exact .int _ _
 ·exact .int _ _
 ·exact .bl _ _
noncomputable abbrev lR (ns:List Int) (n c:Int) (ss:List gr) (hs:List D) (x6 x7 x8 x9:Option Slot):ae:=[some (.val (.scr ns)),some (.val (.int n)),some (az n (aU c ss) hs),some (.own (.lst (ss.map bu))),some (.val (.int (c+1))),some (.val (.int (hs.length:Int))),x6,x7,x8,x9]
theorem j0 {ns:List Int} {n c:Int} {ss:List gr} {hs:List D} {x6 x7 x8 x9:Option Slot} (hl:ss.length<=12):
  eM (o2 [2,3] (kl (eR (bC c0 2 (aa (gj "Cellar" "layout" 1 bI (aA 2) am) (aa (dZ fZ (aa (fL (c_ ["_law_script","_law_n","_law_cellar","_law_streams","_law_following","_law_good","_law_k","_law_deed_here","_law_word","_law_found"] [(".0", .local),("_law_stream", .local)] (dP (aA 3)) (gN 1) (jb) (f2 dG (ai 1) (cY (aa (fC (.bl false)) (am)))))) (am))) (am))))))) (cj (fC (.bl false))) (bi) (lR ns n c ss hs x6 x7 x8 x9)= .ok (.nx (lR ns n c ss hs x6 x7 x8 x9)):=by
 rw[db]
 ·rfl
 ·show kl (eR (bC c0 2 _)) [some (.val (.scr ns)),some (.val (.int n)),some (.val (.ins "Cellar" (n4 n (aU c ss) hs))),some (.val (.lst (ss.map bu))),some (.val (.int (c+1))),some (.val (.int (hs.length:Int))),x6,x7,x8,x9]=_
  refine Eq.trans (congrArg (fun z:R Bool=>z>>=fun b=>R.ok (!b)) (a₂:=R.ok true) ?_) rfl
  refine lT (d6 (n:=2) (ds:=[.tup (ss.map o4), .tup (ss.map o4)]) (ax (lU (fds:=n4 n (aU c ss) hs) (ds:=[]) rfl rfl rfl (n5 hl) rfl) (ax (dj (ds:=[.lst (ss.map o4)]) (ax (nY (dS (ds:=ss.map bu) rfl (by simp;unfold lim;omega) (τ:=[none,none]) rfl ?_)) rfl) rfl) rfl)) rfl (mX (by omega) (wa ss hl)))
  rw[iy (p:=fun _=>true) (out:=o4) ss none (fun r _=>rfl) (fun r _ _=>aE (a:=bu r) (b:= .tup [.bl false]) rfl (dq rfl (show 1<=lim by decide)) rfl),fH]
theorem xw (x y:Str):il (.str x) (.str y)=some (.bl (decide (x=y))):=rfl
theorem yv (x:Str):q0 (.str x) (.str x)=some (.bl false):=by
 have:q0 (.str x) (.str x)=some (.bl (!decide (x=x))):=by first|rfl|simp[q0]
 rw[this];simp
noncomputable abbrev mR (ns:List Int) (n:Int) (s:Slot) (ss:List gr) (fo g:Int) (k:Option Slot) (dd w fd:D):ae:=[some (.val (.scr ns)),some (.val (.int n)),some s,some (.own (.lst (ss.map bu))),some (.val (.int fo)),some (.val (.int g)),k,some (.val dd),some (.val w),some (.val fd)]
section
variable {ns:List Int} {n c:Int} {ss:List gr} {hs:List D} {x7 x8 x9:Option Slot}
theorem j1 {k:Nat} {dd v:D} {w:Str} {s':Slot} {n':Int} {now':D} {hs':List D} (hs'e:s'=az n' now' hs') (hd:bN [.scr ns, .int (k:Int), .int n, .int (c+1)]= .ok dd) (hw:aS [.int n, .lst (ss.map bu), .int (hs.length:Int),dd]= .ok (.str w)) (hf:aY [az n (aU c ss) hs] [dd]= .ok (.lst [.str w,v],[s'])) {g:ae->R br}:
  aN (ck (bC bN 4 (aa (aA 0) (aa (aA 6) (aa (aA 1) (aa (aA 4) (am)))))) (gN 7))
  (aN (ck (p0 [3] (bC aS 4 (aa (aA 1) (aa (aA 3) (aa (aA 5) (aa (aA 7) (am))))))) (gN 8))
  (aN (p4 9 (fQ [2] aY 1 (aa (aA 7) (am))))
  (aN (eM (fT (f2 q0 (f2 dh (ai 9) (fC (.int 0))) (ai 8))) (cj (fC (.bl false))) (bi)) g))) (lR ns n c ss hs (some (.val (.int (k:Int)))) x7 x8 x9)=g (mR ns n s' ss (c+1) hs.length (some (.val (.int (k:Int)))) dd (.str w) (.lst [.str w,v])):=by
 subst hs'e
 rw[aw (ρ':=lR ns n c ss hs (some (.val (.int (k:Int)))) (some (.val dd)) x8 x9) (dI (d6 (n:=4) rfl rfl hd) rfl)]
 have e2:p0 [3] (bC aS 4 (aa (aA 1) (aa (aA 3) (aa (aA 5) (aa (aA 7) (am)))))) (lR ns n c ss hs (some (.val (.int (k:Int)))) (some (.val dd)) x8 x9)= .ok (.str w):=by
  show (bC aS 4 (aa (aA 1) (aa (aA 3) (aa (aA 5) (aa (aA 7) (am))))) [some (.val (.scr ns)),some (.val (.int n)),some (az n (aU c ss) hs),some (.val (.lst (ss.map bu))),some (.val (.int (c+1))),some (.val (.int (hs.length:Int))),some (.val (.int (k:Int))),some (.val dd),x8,x9]>>=fun d=>if o0 d=true then R.ok d else .bad)=_
  rw[d6 (n:=4) (ds:=[.int n, .lst (ss.map bu), .int (hs.length:Int),dd]) rfl rfl hw,ah]
  rfl
 rw[aw (ρ':=lR ns n c ss hs (some (.val (.int (k:Int)))) (some (.val dd)) (some (.val (.str w))) x9) (dI e2 rfl)]
 rw[aw (ρ':=mR ns n (az n' now' hs') ss (c+1) hs.length (some (.val (.int (k:Int)))) dd (.str w) (.lst [.str w,v])) (by
  unfold p4
  rw[kd (k:=1) (n:=n) (now:=aU c ss) (hs:=hs) (ds:=[dd]) rfl rfl rfl hf,ah]
  rfl)]
 rw[aw (by rw[db (dg (aE (aE rfl rfl yI) rfl (yv w)))];rfl)]
theorem lV {s:Slot} {fo g:Int} {k:Option Slot} {dd fd:D} {w:Str} {gg:ae->R br}:aN (ck (f2 dG (ai 5) (dZ rl (aa (f2 il (ai 8) (fC (.str ""))) (am)))) (gN 5)) gg (mR ns n s ss fo g k dd (.str w) fd)=gg (mR ns n s ss fo (g+if w="" then 1 else 0) k dd (.str w) fd):=by
 rw[aw]
 refine dI (aE (b:= .int (if w="" then 1 else 0)) rfl (dj (ax (aE rfl rfl (xw w "")) rfl) ?_) rA) rfl
 by_cases h:w=""
 ·rw[decide_eq_true h,if_pos h];rfl
 ·rw[decide_eq_false h,if_neg h];rfl
theorem xx {s:Slot} {fo g:Int} {k:Option Slot} {dd fd:D} {w:Str}:fT (f2 il (ai 8) (fC (.str ""))) (mR ns n s ss fo g k dd (.str w) fd)= .ok (decide (w="")):=dg (aE rfl rfl (xw w ""))
theorem qq (k:Nat) (h0:0<=n) (h7:n<=7) (hc:0<=c) (hl:ss.length<=12):∃c' ss' hs' y7 y8 y9,0<=c'/\ss'.length<=12/\hJ (lR ns n c ss hs (some (.val (.int (k:Int)))) x7 x8 x9)= .ok (.nx (lR ns n c' ss' hs' (some (.val (.int (k:Int)))) y7 y8 y9)):=by
 have refused:∀{dd:D} {w:Str},w≠""->bN [.scr ns, .int (k:Int), .int n, .int (c+1)]= .ok dd->aS [.int n, .lst (ss.map bu), .int (hs.length:Int),dd]= .ok (.str w)->aY [az n (aU c ss) hs] [dd]= .ok (.lst [.str w, .non],[az n (aU c ss) hs])->
   hJ (lR ns n c ss hs (some (.val (.int (k:Int)))) x7 x8 x9)= .ok (.nx (lR ns n c ss hs (some (.val (.int (k:Int)))) (some (.val dd)) (some (.val (.str w))) (some (.val (.lst [.str w, .non]))))):=fun {dd w} nw h1 h2 h3=>by
  unfold hJ
  rw[j1 rfl h1 h2 h3,lV,if_neg nw,Int.add_zero]
  rw[aw (ρ':=mR ns n (az n (aU c ss) hs) ss (c+1) hs.length (some (.val (.int (k:Int)))) dd (.str w) (.lst [.str w, .non])) (by
   rw[db (by unfold pW;rw[xx,ah,decide_eq_false nw];rfl),db (by rw[xx,decide_eq_false nw])];rfl)]
  exact j0 hl
 rcases qm ns k h0 h7 (fo:=c+1) (by omega)with ⟨a,hd⟩|⟨a,b,hd⟩
 ·have hw:=o6 (n:=n) (ss:=ss) (g:=hs.length) (a:=a) hl
  rcases o9 (n:=n) (a:=a) (c:=c) (ss:=ss) (hs:=hs) hl with ⟨nw,e⟩|⟨q,h4,hs',hl',e⟩
  ·exact⟨c,ss,hs,_,_,_,hc,hl,refused nw hd hw e⟩
  ·rw[q]at hw
   refine⟨c,ss.filter fun r=>decide (r.1≠a),hs',some (.val (.tup [.int a])),some (.val (.str "")),some (.val (.lst [.str "", .non])),hc,Nat.le_trans (List.length_filter_le _ _) hl,?_⟩
   unfold hJ
   rw[j1 rfl hd hw e,lV,if_pos rfl]
   rw[aw (ρ':=mR ns n (az n (aU c (ss.filter fun r=>decide (r.1≠a))) hs') (ss.filter fun r=>decide (r.1≠a)) (c+1) (hs.length+1) (some (.val (.int (k:Int)))) (.tup [.int a]) (.str "") (.lst [.str "", .non])) (by
    rw[db (by unfold pW;rw[xx,ah];rfl),gw (by rw[xx];rfl)]
    rw[aw (by rw[db (dg (aE (aE rfl rfl yu) rfl rfl))];rfl)]
    refine own_of (ρ:=[some (.val (.scr ns)),some (.val (.int n)),some (az n (aU c (ss.filter fun r=>decide (r.1≠a))) hs'),some (.val (.lst (ss.map bu))),some (.val (.int (c+1))),some (.val (.int ((hs.length:Int)+1))),some (.val (.int (k:Int))),some (.val (.tup [.int a])),some (.val (.str "")),some (.val (.lst [.str "", .non]))]) (dS (ds:=ss.map bu) rfl (by simp;unfold lim;omega) (τ:=[none,none,some (.val (.tup [.int a]))]) rfl ?_)
    exact iy (p:=fun r:gr=>decide (r.1≠a)) (out:=bu) ss none (fun r _=>dg (aE (aE rfl rfl iz) (aE rfl rfl uL) sB)) (fun r _ _=>rfl))]
   rw[show ((hs.length:Int)+1)=(hs'.length:Int) by rw[hl'];rfl]
   exact j0 (Nat.le_trans (List.length_filter_le _ _) hl)
 ·have hw:=o7 (n:=n) (ss:=ss) (g:=hs.length) (a:=a) (b:=b) hl
  rcases o8 (n:=n) (a:=a) (b:=b) (c:=c) (ss:=ss) (hs:=hs) hl with ⟨nw,e⟩|⟨q,h3,h4,hs',hl',e⟩
  ·exact⟨c,ss,hs,_,_,_,hc,hl,refused nw hd hw e⟩
  ·rw[q]at hw
   have hl2:(ss++[(c+1,a,b)]).length<=12:=by rw[List.length_append];show ss.length+1<=12;omega
   refine⟨c+1,ss++[(c+1,a,b)],hs',some (.val (.tup [.int a, .int b])),some (.val (.str "")),some (.val (.lst [.str "", .int (c+1)])),by omega,hl2,?_⟩
   unfold hJ
   rw[j1 rfl hd hw e,lV,if_pos rfl]
   rw[aw (ρ':=mR ns n (az n (aU (c+1) (ss++[(c+1,a,b)])) hs') (ss++[(c+1,a,b)]) (c+1+1) (hs.length+1) (some (.val (.int (k:Int)))) (.tup [.int a, .int b]) (.str "") (.lst [.str "", .int (c+1)])) (by
    rw[gw (by unfold pW;rw[xx,ah];rfl)]
    rw[aw (by
     rw[db]
     ·rfl
     ·refine Eq.trans (congrArg (fun z:R Bool=>z>>=fun b=>R.ok (!b)) (a₂:=R.ok true) ?_) rfl
      exact lT (d6 (n:=2) (ax (aE rfl rfl yu) rfl) rfl (qj (c+1))))]
    rw[aw (ρ':=mR ns n (az n (aU (c+1) (ss++[(c+1,a,b)])) hs') (ss++[(c+1,a,b)]) (c+1) (hs.length+1) (some (.val (.int (k:Int)))) (.tup [.int a, .int b]) (.str "") (.lst [.str "", .int (c+1)])) (by
     show (cY _ _>>=fun d=>if (ss.map bu).length<lim then R.ok (br.nx ((mR ns n (az n (aU (c+1) (ss++[(c+1,a,b)])) hs') ss (c+1) (hs.length+1) (some (.val (.int (k:Int)))) (.tup [.int a, .int b]) (.str "") (.lst [.str "", .int (c+1)])).set 3 (some (.own (.lst (ss.map bu++[d]))))))else .bad)=_
     have hT:cY (aa (aA 4) (aa (f2 dh (ai 7) (fC (.int 0))) (aa (f2 dh (ai 7) (fC (.int 1))) am))) (mR ns n (az n (aU (c+1) (ss++[(c+1,a,b)])) hs') ss (c+1) (hs.length+1) (some (.val (.int (k:Int)))) (.tup [.int a, .int b]) (.str "") (.lst [.str "", .int (c+1)]))= .ok (bu (c+1,a,b)):=dq (ds:=[.int (c+1), .int a, .int b]) (ax rfl (ax (aE rfl rfl uL) (ax (aE rfl rfl xN) rfl))) (show 3<=lim by decide)
     rw[hT,ah,if_pos (by simp;unfold lim;omega)]
     show R.ok (br.nx [_,_,_,some (.own (.lst (ss.map bu++[bu (c+1,a,b)]))),_,_,_,_,_,_])=_
     rw[<-List.map_singleton (f:=bu),<-List.map_append])]
    rfl)]
   rw[show ((hs.length:Int)+1)=(hs'.length:Int) by rw[hl'];rfl]
   exact j0 hl2
end
theorem nc {ns:List Int} {n:Int} (h0:0<=n) (h7:n<=7):∀(ks:List Nat) (c:Int) (ss:List gr) (hs:List D) (x6 x7 x8 x9:Option Slot),0<=c->ss.length<=12->∃ρ,eG (gN 6) hJ (ks.map fun k:Nat=>D.int (k:Int)) (lR ns n c ss hs x6 x7 x8 x9)= .ok (.nx ρ)
 |[],c,ss,hs,x6,x7,x8,x9,_,_=>⟨_,rfl⟩
 |k::ks,c,ss,hs,x6,x7,x8,x9,hc,hl=>by
  obtain⟨c',ss',hs',y7,y8,y9,hc',hl',e⟩:=qq (ns:=ns) (n:=n) (c:=c) (ss:=ss) (hs:=hs) (x7:=x7) (x8:=x8) (x9:=x9) k h0 h7 hc hl
  obtain⟨ρ,er⟩:=nc h0 h7 ks c' ss' hs' (some (.val (.int (k:Int)))) y7 y8 y9 hc' hl'
  exact⟨ρ,by rw[List.map_cons,oW rfl e,er]⟩
theorem main (ns:List Int) (hl:ns.length<=63):k_ [.scr ns]= .ok (.bl true):=by
 refine dv rfl ?_
 show sv [some (.val (.scr ns)),none,none,none,none,none,none,none,none,none]=_
 unfold sv
 have h0:0<=cl ns 1%8:=by omega
 have h7:cl ns 1%8<=7:=by omega
 rw[aw (ρ':=[some (.val (.scr ns)),some (.val (.int (cl ns 1%8))),none,none,none,none,none,none,none,none]) (dI (aE (d6 (n:=2) rfl rfl (la ns 1)) rfl (dD (by decide))) rfl)]
 rw[aw (ρ':=[some (.val (.scr ns)),some (.val (.int (cl ns 1%8))),some (az (cl ns 1%8) (aU 0 []) []),none,none,none,none,none,none,none]) (by
  unfold lP
  rw[if_pos (show xM 2 [some (.val (.scr ns)),some (.val (.int (cl ns 1%8))),none,none,none,none,none,none,none,none]=true from rfl),show aa (aA 1) am [some (.val (.scr ns)),some (.val (.int (cl ns 1%8))),none,none,none,none,none,none,none,none]= .ok [.int (cl ns 1%8)]from rfl,ah,if_pos (show [D.int (cl ns 1%8)].length=1 from rfl),ql h0 h7]
  rfl)]
 rw[aw (ρ':=[some (.val (.scr ns)),some (.val (.int (cl ns 1%8))),some (az (cl ns 1%8) (aU 0 []) []),some (.own (.lst [])),none,none,none,none,none,none]) rfl]
 rw[aw (ρ':=[some (.val (.scr ns)),some (.val (.int (cl ns 1%8))),some (az (cl ns 1%8) (aU 0 []) []),some (.own (.lst [])),some (.val (.int 1)),none,none,none,none,none]) rfl]
 rw[aw (ρ':=lR ns (cl ns 1%8) 0 [] [] none none none none) rfl]
 have er:jm (aa (fC (.int 2)) (aa (dZ dH (aa (ai 0) (am))) (am))) (lR ns (cl ns 1%8) 0 [] [] none none none none)= .ok (((List.range ((ns.length:Int) - 2).toNat).map fun k:Nat=>k+2).map fun k:Nat=>D.int (k:Int)):=by
  unfold jm
  rw[ax rfl (ax (dj rfl rD) rfl),ah]
  show (if (2:Int).natAbs<=lim/\(ns.length:Int).natAbs<=lim then R.ok (ee 2 (ns.length:Int))else .bad)=_
  rw[if_pos ⟨by decide,by unfold lim;omega⟩]
  unfold ee
  rw[List.map_map]
  congr 1
  refine List.map_congr_left fun k _=> ?_
  show D.int (2+(k:Int))=D.int ((k+2:Nat):Int)
  congr 1
  omega
 obtain⟨ρ,e⟩:=nc (ns:=ns) h0 h7 ((List.range ((ns.length:Int) - 2).toNat).map fun k:Nat=>k+2) 0 [] [] none none none none (by omega) (by simp)
 rw[aw ((vO er).trans e)]
 rfl
end My
namespace PySem.W.Fast
theorem tw10016364417968123801:True:=.intro
theorem tw10040365338886739343:True:=.intro
theorem tw10114990178135028227:True:=.intro
theorem tw1025997708613314168:True:=.intro
theorem tw10490631211426805174:True:=.intro
theorem tw10692243842951716755:True:=.intro
theorem tw10859093620495012319:True:=.intro
theorem tw11035603752319544524:True:=.intro
theorem tw11106249766391409782:True:=.intro
theorem tw1134649165755310742:True:=.intro
theorem tw11377809279211656870:True:=.intro
theorem tw11537691607744033051:True:=.intro
theorem tw11720452379754067086:True:=.intro
theorem tw12715984264798510730:True:=.intro
theorem tw12811757788318254209:True:=.intro
theorem tw12906985434244339554:True:=.intro
theorem tw12985135845966264716:True:=.intro
theorem tw12988526653321695939:True:=.intro
theorem tw13056661544439418749:True:=.intro
theorem tw13409333912080438792:True:=.intro
theorem tw13411105113259956495:True:=.intro
theorem tw13807546586573755803:True:=.intro
theorem tw139691393461929600:True:=.intro
theorem tw14087152531072340857:True:=.intro
theorem tw14134734305528912922:True:=.intro
theorem tw14160713528755031488:True:=.intro
theorem tw14341778124072544252:True:=.intro
theorem tw14356382376288324665:True:=.intro
theorem tw14538192708615492171:True:=.intro
theorem tw14784250847961262609:True:=.intro
theorem tw14789106931236045021:True:=.intro
theorem tw15204551641094526157:True:=.intro
theorem tw153270937550053994:True:=.intro
theorem tw15407741411576961014:True:=.intro
theorem tw15937579552620001945:True:=.intro
theorem tw16226656356511861393:True:=.intro
theorem tw16455279551562151280:True:=.intro
theorem tw16505801511905585907:True:=.intro
theorem tw16627616228109145351:True:=.intro
theorem tw17383522645795325070:True:=.intro
theorem tw18008092295876818358:True:=.intro
theorem tw18365812314849504220:True:=.intro
theorem tw1871165136659873701:True:=.intro
theorem tw2135661689907516626:True:=.intro
theorem tw2162702317971655017:True:=.intro
theorem tw2258692330894113179:True:=.intro
theorem tw2992950652146763858:True:=.intro
theorem tw3214737658375809224:True:=.intro
theorem tw3228936897470687810:True:=.intro
theorem tw3516790257837163153:True:=.intro
theorem tw3969113367715325288:True:=.intro
theorem tw4276632007381438111:True:=.intro
theorem tw4463588865127754882:True:=.intro
theorem tw4817801464824825220:True:=.intro
theorem tw4924507952398917784:True:=.intro
theorem tw5188284810249934476:True:=.intro
theorem tw5194956584569829006:True:=.intro
theorem tw5331241169504284301:True:=.intro
theorem tw5429420440125867370:True:=.intro
theorem tw6425451534121314330:True:=.intro
theorem tw6854626814174497539:True:=.intro
theorem tw688620552855488662:True:=.intro
theorem tw6890698305318640124:True:=.intro
theorem tw7221291073581072445:True:=.intro
theorem tw7457653912893292413:True:=.intro
theorem tw7473938729388798430:True:=.intro
theorem tw8182256300145561720:True:=.intro
theorem tw8792087353594302236:True:=.intro
theorem tw8856676303165073367:True:=.intro
theorem tw9161324703884936913:True:=.intro
theorem tw9267112539565103109:True:=.intro
theorem tw9343105582267449328:True:=.intro
theorem tw9514203658643524597:True:=.intro
theorem tw9551662422430850485:True:=.intro
theorem tw9761187016469482484:True:=.intro
theorem tw9769163771839621472:True:=.intro
end PySem.W.Fast
open PySem PySem.W PyProof.Rows
set_option maxRecDepth 100000 in
set_option maxHeartbeats 0 in
theorem PySem.Challenge.cw_tankbalance_k20_streams_come_and_go_holds : PySem.Challenge.rw_tankbalance_k20_streams_come_and_go.Holds := by
  w_on; o_law; k_head; (case hw => w_witness2)
  k_fill
  refine My.walk (l := PySem.Challenge.rw_tankbalance_k20_streams_come_and_go) rfl rfl (fun w h Y => PySem.W.kIn_of Y) My.main ?F
  case F =>
    intro w mg fa h KX G hmg
    refine' My.v_ KX G hmg ?_ ?_ ?_ ?_ ?_ ?_ ?_ ?_ ?_ ?_ ?_ ?_ ?_ ?_ ?_ ?_ ?_ ?_ ?_ ?_ ?_ ?_ ?_ ?_ ?_ ?_ ?_ ?_ ?_ ?_ ?_ ?_ ?_ ?_ ?_ ?_ ?_ ?_ ?_ ?_ ?_ ?_ ?_ ?_ ?_ ?_ ?_ ?_ ?_ ?_ ?_ ?_ ?_ ?_ ?_ ?_ ?_ ?_ ?_ ?_ ?_ ?_ ?_ ?_ ?_ ?_ ?_ ?_ ?_ ?_ ?_ ?_ ?_ ?_ ?_ ?_ ?_ ?_ ?_ ?_ ?_ ?_ ?_ ?_ ?_ ?_ ?_ ?_ ?_ ?_ ?_ ?_ ?_ ?_ ?_ ?_ ?_ ?_ ?_ ?_ ?_ ?_ ?_ ?_ ?_ ?_ ?_ ?_ ?_ ?_ ?_ ?_ ?_ ?_ ?_ ?_ ?_ ?_ ?_ ?_ ?_ ?_ ?_ ?_ ?_ ?_ ?_ ?_ ?_ ?_ ?_ ?_ ?_ ?_ ?_ ?_ ?_ ?_ ?_ ?_ ?_ ?_ ?_ ?_ ?_ ?_ ?_ ?_ ?_ ?_ ?_ ?_ ?_ ?_ ?_ ?_ ?_ ?_ ?_ ?_ ?_ ?_ ?_ ?_ ?_ ?_ ?_ ?_ ?_ ?_ ?_ ?_ ?_ ?_ ?_ ?_ ?_ ?_ ?_ ?_ ?_ ?_ ?_ ?_ ?_ ?_ ?_ ?_ ?_ ?_ ?_ ?_ ?_ ?_ ?_ ?_ ?_ ?_ ?_ ?_ ?_ ?_ ?_ ?_ ?_ ?_ ?_ ?_ ?_ ?_ ?_ ?_ ?_ ?_ ?_ ?_ ?_ ?_ ?_ ?_ ?_ ?_
    all_goals try first | k_is | k_exc
