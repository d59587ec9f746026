import PyProof.Rows.All
import Wide.All
import OpenK.AllK
import Wide.FinOn
import Lean
import PyProof.EqAt
import PyProof.EqKinds
import PyProof.TupleCall
import PyProof.NeKinds
import PySem.Challenge.RW_tankbalance_k10_setting
set_option Elab.async false
set_option linter.all false
set_option maxRecDepth 100000
set_option maxHeartbeats 4000000
local macro_rules | `(tactic| omega) => `(tactic| lia)
noncomputable section
namespace L2
open PySem PySem.Spec PyProof.Rows
abbrev a_:=Sum Int Str
def o3:a_->Value->Bool
 | .inl k,v=>Value.isInt k v
 | .inr x,v=>Value.isStrOf x v
def Hi (w:World):a_->Int
 | .inl k=>hashInt k
 | .inr x=>hashStr w x
theorem b_:∀{k:a_} {v:Value},o3 k v=true->(∃i t,k=Sum.inl i/\v=Value.int i t)\/(∃x t,k=Sum.inr x/\v=Value.str x t)
 | .inl i,v,h=>by
  obtain⟨t,e⟩:=Value.isInt_shape (k:=i) (v:=v) h
  exact .inl ⟨i,t,rfl,e⟩
 | .inr x,v,h=>by
  obtain⟨t,e⟩:=Value.isStrOf_shape (x:=x) (v:=v) h
  exact .inr ⟨x,t,rfl,e⟩
theorem x0 (i:Int) (t:Tok):o3 (.inl i) (.int i t)=true:=by simp[o3,Value.isInt]
theorem xa (x:Str) (t:Tok):o3 (.inr x) (.str x t)=true:=by simp[o3,Value.isStrOf]
theorem DK (a b:Int):decide ((Sum.inl a:a_)=Sum.inl b)=(a==b):=by
 by_cases e:a=b
 ·subst e;simp
 ·have h:¬(Sum.inl a:a_)=Sum.inl b:=fun q=>e (Sum.inl.inj q)
  rw[decide_eq_false h]
  exact(beq_eq_false_iff_ne.mpr e).symm
theorem DL (a b:Str):decide ((Sum.inr a:a_)=Sum.inr b)=decide (a=b):=by
 by_cases e:a=b
 ·subst e;simp
 ·have h:¬(Sum.inr a:a_)=Sum.inr b:=fun q=>e (Sum.inr.inj q)
  rw[decide_eq_false h,decide_eq_false e]
theorem DM (a:Int) (b:Str):decide ((Sum.inl a:a_)=Sum.inr b)=false:=decide_eq_false (fun q=>nomatch q)
theorem DN (a:Str) (b:Int):decide ((Sum.inr a:a_)=Sum.inl b)=false:=decide_eq_false (fun q=>nomatch q)
def bg (prog:Program) (w:World):PySem.KeyKind prog w a_ where
 is:=o3
 hash:=Hi w
 inj:=fun v a b ha hb=>by
  rcases b_ ha with ⟨i,t,rfl,rfl⟩|⟨x,t,rfl,rfl⟩
  ·rcases b_ hb with ⟨j,u,rfl,e⟩|⟨y,u,rfl,e⟩
   ·injection e with e1 _;rw[e1]
   ·exact nomatch e
  ·rcases b_ hb with ⟨j,u,rfl,e⟩|⟨y,u,rfl,e⟩
   ·exact nomatch e
   ·injection e with e1 _;rw[e1]
 byValue:=fun k v h=>by
  rcases b_ h with ⟨i,t,rfl,rfl⟩|⟨x,t,rfl,rfl⟩<;>rfl
 pyHash:=fun hv h=>by
  rcases b_ hv with ⟨i,t,rfl,rfl⟩|⟨x,t,rfl,rfl⟩
  ·exact wpAny_pyHash_int h
  ·exact wpAny_pyHash_str h
 eqBool:=fun hu hv h=>by
  rcases b_ hu with ⟨i,t,rfl,rfl⟩|⟨x,t,rfl,rfl⟩
  ·rcases b_ hv with ⟨j,u,rfl,rfl⟩|⟨y,u,rfl,rfl⟩
   ·rw[DK]at h;exact wpAny_eqBool_int h
   ·rw[DM]at h;exact SeqAt.EqAt.int_str i t y u _ _ _ _ h
  ·rcases b_ hv with ⟨j,u,rfl,rfl⟩|⟨y,u,rfl,rfl⟩
   ·rw[DN]at h;exact SeqAt.EqAt.str_int x t j u _ _ _ _ h
   ·rw[DL]at h;exact wpAny_eqBool_str h
 «strs»:=fun k x t v h=>by
  rcases b_ h with ⟨i,u,rfl,e⟩|⟨y,u,rfl,e⟩
  ·exact nomatch e
  ·injection e with e1 _
   subst e1
   cases v<;>rfl
theorem sB (prog:Program) (w:World) (i:Int) (t:Tok):(bg prog w).is (.inl i) (.int i t)=true:=x0 i t
theorem sC (prog:Program) (w:World) (x:Str) (t:Tok):(bg prog w).is (.inr x) (.str x t)=true:=xa x t
end L2
namespace L2
open PySem PySem.Spec PyProof.Rows
inductive V where
 |non|bl (b:Bool)|int (i:Int)|str (x:Str)|byt (b:Array UInt8)|flt (b:UInt64)|ref (a:Addr)|ty (n:String)
 deriving DecidableEq
def bx:V->Value->Prop
 | .non,u=>u=Value.none
 | .bl b,u=>u=Value.bool b
 | .int i,u=>∃t,u=Value.int i t
 | .str x,u=>∃t,u=Value.str x t
 | .byt b,u=>∃t,u=Value.bytes b t
 | .flt b,u=>∃t,u=Value.float b t
 | .ref a,u=>u=Value.ref a
 | .ty n,u=>u=Value.type n
abbrev aS:List V->List Value->Prop:=Paired bx
theorem aS.length {xs:List V} {us:List Value} (r:aS xs us):xs.length=us.length:=Paired.length r
theorem aS.get:∀{xs:List V} {us:List Value} {i:Nat} {x:V},aS xs us->xs[i]? =some x->∃u,us[i]? =some u/\bx x u
 |_,_,_,_, .nil,e=>by simp at e
 |_,_,0,_, .cons r _,e=>by simp at e;subst e;exact⟨_,rfl,r⟩
 |_,_,i+1,x, .cons _ t,e=>by
  obtain⟨u,h1,h2⟩:=aS.get (i:=i) (x:=x) t (by simpa using e)
  exact⟨u,by simpa using h1,h2⟩
theorem aS.set {x:V} {u:Value} (r:bx x u):∀{xs:List V} {us:List Value} (i:Nat),aS xs us->aS (xs.set i x) (us.set i u)
 |_,_,_, .nil=> .nil
 |_,_,0, .cons _ t=> .cons r t
 |_,_,i+1, .cons q t=> .cons q (aS.set r i t)
theorem aS.append:∀{xs ys:List V} {us ws:List Value},aS xs us->aS ys ws->aS (xs++ys) (us++ws)
 |_,_,_,_, .nil,s=>s
 |_,_,_,_, .cons r t,s=> .cons r (aS.append t s)
theorem aS.take:∀{xs:List V} {us:List Value} (n:Nat),aS xs us->aS (xs.take n) (us.take n)
 |_,_,0,_=> .nil
 |_,_,_+1, .nil=> .nil
 |_,_,n+1, .cons r t=> .cons r (aS.take n t)
theorem aS.drop:∀{xs:List V} {us:List Value} (n:Nat),aS xs us->aS (xs.drop n) (us.drop n)
 |_,_,0,r=>r
 |_,_,_+1, .nil=> .nil
 |_,_,n+1, .cons _ t=>aS.drop n t
def jz:Option V->Option Value->Prop
 |some v,some u=>bx v u
 |none,none=>True
 |_,_=>False
def KV {κ:Type}:List (κ×V)->List (κ×Value)->Prop:=Paired fun (p:κ×V) (q:κ×Value)=>p.1=q.1/\bx p.2 q.2
def kV:a_->V
 | .inl i=> .int i
 | .inr x=> .str x
inductive HO where
 |lst (xs:List V)
 |tup (xs:List V)
 |dK (kvs:List (a_×V))|dT (kvs:List (List a_×V))
 |set (S:Int->Bool) (n:Nat)
 |ins (C dx:Addr) (fs:List (Str×V))
 |own (x:Addr)
 |xd (fs:List (Str×V))
 |met (f x:Addr)
 |rng (lo hi:Int)
 |frz (o:Obj) (u:HO)
 |tbl (ps:Array Value)
 |ext (φ:Heap->Prop)
abbrev Hp:=Addr->Option HO
def bK (H:Hp) (a:Addr) (o:HO):Hp:=fun b=>if b=a then some o else H b
theorem az {H:Hp} {a:Addr} {o:HO}:bK H a o a=some o:=by unfold bK;rw[if_pos rfl]
theorem av {H:Hp} {a b:Addr} {o:HO} (h:b≠a):bK H a o b=H b:=by unfold bK;rw[if_neg h]
theorem Fy {H:Hp} {a b:Addr} {o u:HO} (h:H a=some o) (h':H b=some u) (d:o≠u):a≠b:=by
 intro e;subst e;rw[h]at h';exact d (Option.some.inj h')
theorem cN {H:Hp} {a b:Addr} {o:HO} (h:H a=some o) (h':H b=none):a≠b:=by
 intro e;subst e;rw[h]at h';cases h'
def gU (h:Heap) (a:Addr) (items:Array Value):Prop:=∃o,h.get? a=some o/\o.cls= .type "tuple"/\∃n,o.data= .seq items n/\o.dict=none
theorem gU.tup {h:Heap} {a:Addr} {items:Array Value} (x:gU h a items):IsTup h a items:=let ⟨o,ho,hc,n,hd,_⟩:=x;⟨o,ho,hc,n,hd⟩
theorem gU.lt {h:Heap} {a:Addr} {items:Array Value} (x:gU h a items):a<h.objs.size:=x.tup.lt
theorem gU.new (h:Heap) (items:Array Value):gU (h.push {cls:= .type "tuple",data:= .seq items}) h.objs.size items:=⟨_,Heap.get?_push_size _ rfl,rfl,_,rfl,rfl⟩
section
variable (P:Program) (w:World)
def bS (H:Hp) (h:Heap) (a:Addr):HO->Prop
 | .lst xs=>xs.length<=sizeLine/\∃(its:List Value) (n:Nat),aS xs its/\h.get? a=some {cls:= .type "list",data:= .seq its.toArray n}
 | .tup xs=>xs.length<=sizeLine/\∃its:List Value,aS xs its/\gU h a its.toArray
 | .dK kvs=>kvs.length<=sizeLine/\(a==sysModules)=false/\∃vs,KV kvs vs/\h.DictOf (bg P w) a vs
 | .dT kvs=>kvs.length<=sizeLine/\(a==sysModules)=false/\∃xs:List (List a_×Addr×Value),
   Paired (fun (p:List a_×V) (q:List a_×Addr×Value)=>p.1=q.1/\H q.2.1=some (.tup (p.1.map kV))/\bx p.2 q.2.2) kvs xs/\
   ∃o es ep,h.get? a=some o/\o.ExactDict/\o.data= .dict es ep/\es.toList=xs.map (entryOfKey (tupleKind (bg P w)))/\(xs.map (·.1)).Nodup
 | .set S n=>h.SetOf (intKind P w) a S n
 | .ins C dx fs=>H dx=some (.own a)/\fs.length<=1000/\dx≠a/\h.get? a=some (PySem.W.instObj C dx)/\
   ∃mA,h.Ns1 dx mA/\(∀f,jz (fs.lookup f) (mA f))/\PySem.Within mA (fs.map (·.1))
 | .own _=>∃o,h.get? a=some o
 | .xd fs=>∃mA,h.Ns1 a mA/\∀f,jz (fs.lookup f) (mA f)
 | .rng lo hi=>∃t u v,h.get? a=some {cls:= .type "range",data:= .fields #[.int lo t, .int hi u, .int 1 v]}
 | .frz o u=>h.get? a=some o/\bS H h a u
 | .tbl ps=>h.get? a=some {cls:= .none,data:= .fields ps}
 | .met f x=>h.get? a=some (PySem.W.methodObj (.ref f) (.ref x))
 | .ext φ=>φ h/\(∃o,h.get? a=some o)/\∀h1 h2:Heap,φ h1->(∀o,h1.get? a=some o->h2.get? a=some o)->φ h2
def jA (H:Hp) (h:Heap):Prop:=∀a o,H a=some o->bS P w H h a o
end
section
variable {P:Program} {w:World} {H H':Hp} {h h':Heap} {a:Addr} {o:HO}
theorem bS.lt (x:bS P w H h a o):a<h.objs.size:=by
 cases o with
 |lst xs=>obtain⟨_,_,_,_,e⟩:=x;exact Heap.lt_size e
 |tup xs=>obtain⟨_,_,_,p⟩:=x;exact p.lt
 |dK kvs=>obtain⟨_,_,_,_,o,_,_,e,_⟩:=x;exact Heap.lt_size e
 |dT kvs=>obtain⟨_,_,_,_,o,_,_,e,_⟩:=x;exact Heap.lt_size e
 |set S n=>obtain⟨o,_,_,_,e,_⟩:=x;exact Heap.lt_size e
 |ins C dx fs=>obtain⟨_,_,_,e,_⟩:=x;exact Heap.lt_size e
 |own y=>obtain⟨_,e⟩:=x;exact Heap.lt_size e
 |xd fs=>obtain⟨_,⟨_,_,_,e,_⟩,_⟩:=x;exact Heap.lt_size e
 |rng lo hi=>obtain⟨_,_,_,e⟩:=x;exact Heap.lt_size e
 |frz ob u=>obtain⟨e,_⟩:=x;exact Heap.lt_size e
 |tbl ps=>exact Heap.lt_size (show h.get? a=some _ from x)
 |met f y=>exact Heap.lt_size (show h.get? a=some _ from x)
 |ext φ=>obtain⟨_,⟨_,e⟩,_⟩:=x;exact Heap.lt_size e
theorem Paired.mapP {α β:Type} {F G:α->β->Prop}:∀{l₁:List α} {l₂:List β},Paired F l₁ l₂->(∀a b,F a b->G a b)->Paired G l₁ l₂
 |_,_, .nil,_=> .nil
 |_,_, .cons r t,f=> .cons (f _ _ r) (Paired.mapP t f)
theorem bS.stay (x:bS P w H h a o) (k:∀b u,(b=a\/H b=some (.own a))->h.get? b=some u->h'.get? b=some u)
  (ho:∀b,H b=some (.own a)->H' b=some (.own a)) (ht:∀b xs,H b=some (.tup xs)->H' b=some (.tup xs)):bS P w H' h' a o:=by
 induction o with
 |lst xs=>obtain⟨z,its,n,r,e⟩:=x;exact⟨z,its,n,r,k _ _ (.inl rfl) e⟩
 |tup xs=>obtain⟨z,its,r,ob,e,c⟩:=x;exact⟨z,its,r,ob,k _ _ (.inl rfl) e,c⟩
 |dK kvs=>obtain⟨z,y,vs,r,ob,es,ep,e,c⟩:=x;exact⟨z,y,vs,r,ob,es,ep,k _ _ (.inl rfl) e,c⟩
 |dT kvs=>
  obtain⟨z,y,xs,r,ob,es,ep,e,c⟩:=x
  exact⟨z,y,xs,Paired.mapP r fun p q z=>⟨z.1,ht _ _ z.2.1,z.2.2⟩,ob,es,ep,k _ _ (.inl rfl) e,c⟩
 |set S n=>obtain⟨ob,es,ep,t,e,c⟩:=x;exact⟨ob,es,ep,t,k _ _ (.inl rfl) e,c⟩
 |ins C dx fs=>
  obtain⟨d,z,ne,e,mA,⟨od,es,ep,e2,c⟩,r⟩:=x
  exact⟨ho _ d,z,ne,k _ _ (.inl rfl) e,mA,⟨od,es,ep,k _ _ (.inr d) e2,c⟩,r⟩
 |own y=>obtain⟨ob,e⟩:=x;exact⟨ob,k _ _ (.inl rfl) e⟩
 |xd fs=>obtain⟨mA,⟨od,es,ep,e,c⟩,r⟩:=x;exact⟨mA,⟨od,es,ep,k _ _ (.inl rfl) e,c⟩,r⟩
 |rng lo hi=>obtain⟨t,u,v,e⟩:=x;exact⟨t,u,v,k _ _ (.inl rfl) e⟩
 |frz ob u ih=>obtain⟨e,q⟩:=x;exact⟨k _ _ (.inl rfl) e,ih q⟩
 |tbl ps=>
  have e:h.get? a=some {cls:= .none,data:= .fields ps}:=x
  show h'.get? a=some {cls:= .none,data:= .fields ps}
  exact k a _ (.inl rfl) e
 |met f y=>
  have e:h.get? a=some (PySem.W.methodObj (.ref f) (.ref y)):=x
  show h'.get? a=some (PySem.W.methodObj (.ref f) (.ref y))
  exact k a _ (.inl rfl) e
 |ext φ=>obtain⟨p,⟨o,e⟩,st⟩:=x;exact⟨st _ _ p fun o q=>k _ _ (.inl rfl) q,⟨o,k _ _ (.inl rfl) e⟩,st⟩
theorem jA.lt (x:jA P w H h) (e:H a=some o):a<h.objs.size:=(x a o e).lt
theorem jA.fresh (x:jA P w H h) (e:h.objs.size<=a):H a=none:=by
 cases q:H a with
 |none=>rfl
 |some u=>exact absurd (Nat.lt_of_lt_of_le (x.lt q) e) (Nat.lt_irrefl _)
theorem jA.kept (x:jA P w H h) (k:∀b u,h.get? b=some u->h'.get? b=some u):jA P w H h':=fun a o e=>
 (x a o e).stay (fun b u _ q=>k b u q) (fun _ q=>q) fun _ _ q=>q
theorem jA.laid (x:jA P w H h) (k:∀b u,h.get? b=some u->h'.get? b=some u) (hp:h.objs.size<=a) (new:bS P w (bK H a o) h' a o):jA P w (bK H a o) h':=fun b u e=>by
 have hn:=x.fresh hp
 by_cases hb:b=a
 ·subst hb;rw[az]at e;cases e;exact new
 ·rw[av hb]at e
  exact(x b u e).stay (fun c v _ q=>k c v q) (fun c q=>by rw[av (cN q hn)];exact q) fun c xs q=>by rw[av (cN q hn)];exact q
end
def Rd (H:Hp) (a:Addr) (u:HO):Prop:=H a=some u\/∃o,H a=some (.frz o u)
theorem Rd.ok {P:Program} {w:World} {H:Hp} {h:Heap} {a:Addr} {u:HO} (r:Rd H a u) (x:jA P w H h):bS P w H h a u:=by
 rcases r with r|⟨o,r⟩
 ·exact x a u r
 ·obtain⟨_,q⟩:=x a _ r
  exact q
def FA:Option HO->Prop
 |some (.lst _)=>True
 |some (.dK _)=>True
 |some (.dT _)=>True
 |some (.set _ _)=>True
 |some (.ins _ _ _)=>True
 |some (.ext _)=>True
 |_=>False
section
variable {P:Program} {w:World} {H:Hp} {h h':Heap} {x e:Addr} {o':HO}
theorem jA.write (ok:jA P w H h) (mu:FA (H x)) (he:e=x\/H e=some (.own x)) (k:∀b u,b≠e->h.get? b=some u->h'.get? b=some u) (heo:∃u,h'.get? e=some u)
  (new:bS P w (bK H x o') h' x o'):jA P w (bK H x o') h':=fun b u q=>by
 have nown:∀c y,H c=some (.own y)->c≠x:=fun c y r z=>by subst z;rw[r]at mu;exact mu
 have ntup:∀c xs,H c=some (.tup xs)->c≠x:=fun c xs r z=>by subst z;rw[r]at mu;exact mu
 by_cases hb:b=x
 ·subst hb;rw[az]at q;cases q;exact new
 ·rw[av hb]at q
  by_cases hbe:b=e
  ·have q':H b=some (.own x):=by
    rcases he with z|z
    ·exact absurd (hbe.trans z) hb
    ·rw[hbe];exact z
   rw[q]at q';cases q'
   obtain⟨v,hv⟩:=heo
   exact⟨v,by rw[hbe];exact hv⟩
  ·refine(ok b u q).stay (fun c v hc r=>k c v ?_ r) (fun c r=>by rw[av (nown c b r)];exact r) fun c xs r=>by rw[av (ntup c xs r)];exact r
   rcases hc with rfl|hc
   ·exact hbe
   ·rintro rfl
    rcases he with z|z
    ·exact nown c b hc z
    ·rw[hc]at z;cases z;exact hb rfl
end
structure Un (fs ex:List Addr) (H H':Hp) (h h':Heap):Prop where
 keep:∀b o,h.get? b=some o->H b=none->b∉fs->b∉ex->h'.get? b=some o
 slot:∀b o,h.get? b=some o->H b=none->b∈fs->b∉ex->∃sl,h'.get? b=some {o with slots:=sl}
 free:∀b o,h.get? b=some o->H b=none->b∉ex->H' b=none
 there:∀b o,h.get? b=some o->b∉ex->∃o',h'.get? b=some o'
 tups:∀b xs,H b=some (.tup xs)->H' b=some (.tup xs)
 frzs:∀b o u,H b=some (.frz o u)->H' b=some (.frz o u)
 tbls:∀b ps,H b=some (.tbl ps)->∃more,H' b=some (.tbl (ps++more))
section
variable {fs fs' ex ex':List Addr} {H H1 H2:Hp} {h h1 h2 h':Heap} {a x e:Addr} {o:HO}
theorem Un.any (u:Un fs ex H H1 h h1) {b:Addr} {ob:Obj} (q:h.get? b=some ob) (n:H b=none) (hx:b∉ex):∃sl,h1.get? b=some {ob with slots:=sl}:=by
 by_cases hb:b∈fs
 ·exact u.slot b ob q n hb hx
 ·exact⟨ob.slots,u.keep b ob q n hb hx⟩
theorem Un.trans (a:Un fs ex H H1 h h1) (b:Un fs ex H1 H2 h1 h2):Un fs ex H H2 h h2 where
 keep:=fun c ob q n hc hx=>b.keep c ob (a.keep c ob q n hc hx) (a.free c ob q n hx) hc hx
 slot:=fun c ob q n hc hx=>by
  obtain⟨sl,e1⟩:=a.slot c ob q n hc hx
  obtain⟨sl',e2⟩:=b.slot c _ e1 (a.free c ob q n hx) hc hx
  exact⟨sl',e2⟩
 free:=fun c ob q n hx=>by
  obtain⟨o',e1⟩:=a.there c ob q hx
  exact b.free c o' e1 (a.free c ob q n hx) hx
 there:=fun c ob q hx=>by
  obtain⟨o',e1⟩:=a.there c ob q hx
  exact b.there c o' e1 hx
 tups:=fun c xs q=>b.tups c xs (a.tups c xs q)
 frzs:=fun c ob xs q=>b.frzs c ob xs (a.frzs c ob xs q)
 tbls:=fun c ps q=>by
  obtain⟨m1,e1⟩:=a.tbls c ps q
  obtain⟨m2,e2⟩:=b.tbls c _ e1
  exact⟨m1++m2,by rw[e2,Array.append_assoc]⟩
theorem Un.kept (k:∀b u,h.get? b=some u->h'.get? b=some u):Un fs ex H H h h':=
 ⟨fun b ob q _ _ _=>k b ob q,fun b ob q _ _ _=>⟨ob.slots,k b ob q⟩,fun _ _ _ n _=>n,fun b ob q _=>⟨ob,k b ob q⟩,fun _ _ q=>q,fun _ _ _ q=>q,fun _ ps q=>⟨#[],by rw[q];simp⟩⟩
theorem Un.refl:Un fs ex H H h h:=Un.kept fun _ _ q=>q
theorem Un.laid (k:∀b u,h.get? b=some u->h'.get? b=some u) (hp:h.objs.size<=a) (hn:H a=none):Un fs ex H (bK H a o) h h' where
 keep:=fun b u q _ _ _=>k b u q
 slot:=fun b u q _ _ _=>⟨u.slots,k b u q⟩
 free:=fun b u q n _=>by rw[av (Nat.ne_of_lt (Nat.lt_of_lt_of_le (Heap.lt_size q) hp))];exact n
 there:=fun b u q _=>⟨u,k b u q⟩
 tups:=fun b xs q=>by rw[av (cN q hn)];exact q
 frzs:=fun b u xs q=>by rw[av (cN q hn)];exact q
 tbls:=fun b ps q=>⟨#[],by rw[av (cN q hn),q];simp⟩
theorem Un.write (mu:FA (H x)) (he:e=x\/H e=some (.own x)) (k:∀b u,b≠e->h.get? b=some u->h'.get? b=some u) (heo:∃u,h'.get? e=some u):Un fs ex H (bK H x o) h h':=by
 have hx:∀b,H b=none->b≠x:=fun b n z=>by subst z;rw[n]at mu;exact mu
 have hb:∀b,H b=none->b≠e:=fun b n z=>by
  subst z
  rcases he with r|r
  ·exact hx b n r
  ·rw[n]at r;cases r
 have hm:∀b u,H b=some u->¬FA (some u)->b≠x:=fun b u q nm z=>by subst z;rw[q]at mu;exact nm mu
 refine⟨fun b u q n _ _=>k b u (hb b n) q,fun b u q n _ _=>⟨u.slots,k b u (hb b n) q⟩,fun b u q n _=>by rw[av (hx b n)];exact n,fun b u q _=> ?_,
  fun b xs q=>by rw[av (hm b _ q fun z=>z)];exact q,fun b u xs q=>by rw[av (hm b _ q fun z=>z)];exact q,fun b ps q=>⟨#[],by rw[av (hm b _ q fun z=>z),q];simp⟩⟩
 by_cases hbe:b=e
 ·subst hbe;exact heo
 ·exact⟨u,k b u hbe q⟩
end
def GV (h:Heap) (H:Hp):List Addr:=(List.range h.objs.size).filter fun a=>(H a).isSome
def r8 (h:Heap) (H:Hp):Heap:=PySem.W.hideAll h (GV h H)
theorem xb (h:Heap) (H:Hp):(r8 h H).objs.size=h.objs.size:=PySem.W.hideAll_size _ _
theorem yA {h:Heap} {H:Hp} {b:Addr} {o:Obj} (e:h.get? b=some o) (n:H b=none):(r8 h H).get? b=some o:=
 PySem.W.hideAll_get _ e fun hm=>by
  have q:(H b).isSome=true:=(List.mem_filter.mp hm).2
  rw[n]at q;simp at q
theorem Bp {h:Heap} {H:Hp} {b:Addr} {o:Obj} (e:(r8 h H).get? b=some o):h.get? b=some o/\H b=none:=by
 have e':h.get? b=some o:=PySem.W.of_hideAll (GV h H) e
 refine⟨e',?_⟩
 cases q:H b with
 |none=>rfl
 |some x=>
  have hm:b∈GV h H:=List.mem_filter.mpr ⟨List.mem_range.mpr (Heap.lt_size e'),by simp[q]⟩
  have z:(r8 h H).get? b=none:=PySem.W.hideAll_none (GV h H) hm
  rw[z]at e;cases e
def Bq (g h:Heap) (L:Addr):List (Addr×Obj):=(List.range h.objs.size).filterMap fun a=>if a=L\/(g.get? a).isSome=true then none else (h.get? a).map fun o=>(a,o)
def rest (g h:Heap) (L d:Addr):List (Addr×Obj):=(Bq g h L).filter fun p=>decide (p.1≠d)
end L2
namespace L2
open PySem PySem.Spec PyProof.Rows
structure Mod (K:PySem.W.Frag) (mg:Str->Option Value) (base:Heap):Prop where
 kin:K.In base
 glob:base.Ns mainGlobals mg
 blt:∃mb,base.Ns builtinsNs mb/\∀x:Str,x≠"__name__"->mb x=bootBuiltins x
 nolimit:base.NoLimit
structure Cx where
 prog:Program
 w:World
 K:PySem.W.Frag
 mg:Str->Option Value
 base:Heap
 A:Around
 N:List Str
 s₀:Shared
 H₀:Hp
 env:Env
 outer:List Env
 stack:List Env
 ex:List Addr
 fn:Str->Bool
 calm:Bool
 pn:List (Addr×Obj)
 xe:Value->Shared->Prop
def nT (l:List Env):List Addr:=l.filterMap (·.frame)
abbrev Cx.fs (X:Cx):List Addr:=nT X.outer
def uo (sc:Scope) (x:Str):Prop:=sc.names.lookup x=some .local\/sc.names.lookup x=some .cell\/sc.names.lookup x=some .free
def xc (sc:Scope) (x:Str):Prop:=sc.names.lookup x=some .local\/sc.names.lookup x=some .cell
def Hj (env:Env) (h:Heap) (m:Str->Option Value) (x:Str) (u:Value):Prop:=
 (env.kindOf x=some .local/\m x=some u)\/((env.kindOf x=some .cell\/env.kindOf x=some .free)/\∃c,env.cells.lookup x=some c/\h.IsCell c (some u))
structure Cx.Ok (X:Cx):Prop where
 mod:Mod X.K X.mg X.base
 kind:X.env.scope.kind= .function
 glob:X.env.globals=mainGlobals
 blt:X.env.builtins=builtinsNs
 above:X.s₀.heap.objs.size<=X.env.locals
 inj:∀x y c,X.env.cells.lookup x=some c->X.env.cells.lookup y=some c->x=y
 has:∀x,(X.env.kindOf x=some .cell\/X.env.kindOf x=some .free)->∃c,X.env.cells.lookup x=some c
 cab:∀x c,X.fn x=true->X.env.cells.lookup x=some c->X.s₀.heap.objs.size<=c
 hd:X.calm=true->X.A.handled=none
 frames:X.A.frames=some X.stack
 stk:X.stack=X.outer\/(X.stack=X.env::X.outer/\X.env.frame=some X.env.locals)
 exf:∀b∈X.ex,b≠X.env.locals/\∀x c,X.env.cells.lookup x=some c->c≠b
 bs:∀b o,X.base.get? b=some o->X.s₀.heap.get? b=some o/\X.H₀ b=none
 bsz:X.base.objs.size<=X.s₀.heap.objs.size
 noex:∀b o,X.base.get? b=some o->b∉X.ex
 exfs:∀b∈X.ex,b∉X.fs
 funs:X.s₀.heap.FunFrames X.base X.outer
 frf:∀b∈X.fs,X.H₀ b=none
structure aF (X:Cx) (pins:List (Addr×Obj)) (σ:List (Option V)) (H:Hp) (s:Shared):Prop where
 ok:X.Ok
 os:s.os=X.s₀.os
 bare:AllBare s.gens
 base:Un X.fs X.ex X.H₀ H X.s₀.heap s.heap
 loc:∃m,s.heap.Ns X.env.locals m/\∀(i:Nat) (x:Str) (v:V),X.N[i]? =some x->σ[i]? =some (some v)->uo X.env.scope x->∃u,bx v u/\Hj X.env s.heap m x u
 cell:∀x c,X.env.cells.lookup x=some c->∃v,s.heap.IsCell c v
 free:H X.env.locals=none
 freeC:∀x c,X.env.cells.lookup x=some c->H c=none
 pin:∀p∈X.pn++pins,s.heap.get? p.1=some p.2/\H p.1=none/\p.1≠X.env.locals/\p.1∉X.fs/\∀v,p.2.data≠ .cell v
 hok:jA X.prog X.w H s.heap
 len:σ.length=X.N.length
section
variable {X:Cx} {pins:List (Addr×Obj)} {σ:List (Option V)} {H H':Hp} {s:Shared} {h':Heap}
theorem Cx.Ok.nofr (ok:X.Ok) {b:Addr} {o:Obj} (e:X.base.get? b=some o):b∉X.fs:=fun hb=>by
 have:=(ok.funs.mem hb).1
 rw[e]at this;cases this
theorem aF.bs (I:aF X pins σ H s):∀b o,X.base.get? b=some o->s.heap.get? b=some o/\H b=none:=fun b o e=>
 ⟨I.base.keep b o (I.ok.bs b o e).1 (I.ok.bs b o e).2 (I.ok.nofr e) (I.ok.noex b o e),I.base.free b o (I.ok.bs b o e).1 (I.ok.bs b o e).2 (I.ok.noex b o e)⟩
theorem aF.bk (I:aF X pins σ H s):∀b o,X.base.get? b=some o->s.heap.get? b=some o:=fun b o e=>(I.bs b o e).1
theorem aF.mod (I:aF X pins σ H s):Mod X.K X.mg X.base:=I.ok.mod
theorem aF.kIn (I:aF X pins σ H s):X.K.In s.heap:=I.ok.mod.kin.keeps I.bk
theorem aF.lt (I:aF X pins σ H s):X.env.locals<s.heap.objs.size:=let ⟨_,hn,_⟩:=I.loc;hn.lt
theorem aF.sz (I:aF X pins σ H s):X.s₀.heap.objs.size<=s.heap.objs.size:=Nat.le_trans I.ok.above (Nat.le_of_lt I.lt)
theorem aF.nofs (I:aF X pins σ H s) {a:Addr} (h:s.heap.objs.size<=a):a∉X.fs:=fun hb=>by
 obtain⟨_,o,ho,_⟩:=I.ok.funs.mem hb
 exact absurd (Nat.lt_of_lt_of_le (Heap.lt_size ho) (Nat.le_trans I.sz h)) (Nat.lt_irrefl _)
theorem aF.cne (I:aF X pins σ H s):∀x c,X.env.cells.lookup x=some c->c≠X.env.locals:=fun x c e z=>by
 obtain⟨v,o,ho,hd⟩:=I.cell x c e
 obtain⟨m,⟨o',es,ep,ho',hd',_⟩,_⟩:=I.loc
 rw[z,ho']at ho;cases ho;rw[hd']at hd;cases hd
theorem aF.funs (I:aF X pins σ H s):s.heap.FunFrames X.base X.outer:=by
 have all:∀(l:List Env),(∀b∈nT l,b∈X.fs)->X.s₀.heap.FunFrames X.base l->s.heap.FunFrames X.base l:=by
  intro l
  induction l with
  |nil=>intro _ _;trivial
  |cons env r ih=>
   intro hs hl
   obtain⟨hk,⟨L,o,hf,hn,ho,hd⟩,hr⟩:=hl
   have hL:L∈X.fs:=hs L (by unfold nT;rw[List.filterMap_cons,hf];exact List.mem_cons_self)
   obtain⟨sl,e⟩:=I.base.slot L o ho (I.ok.frf L hL) hL fun z=>I.ok.exfs L z hL
   exact⟨hk,⟨L,_,hf,hn,e,hd⟩,ih (fun b hb=>hs b (by unfold nT;rw[List.filterMap_cons,hf];exact List.mem_cons_of_mem _ hb)) hr⟩
 exact all X.outer (fun _ hb=>hb) I.ok.funs
theorem aF.stack (I:aF X pins σ H s):s.heap.FunFrames X.base X.stack:=by
 rcases I.ok.stk with e|⟨e,hf⟩
 ·rw[e];exact I.funs
 ·rw[e]
  obtain⟨m,hn,_⟩:=I.loc
  refine .cons (by rw[I.ok.kind];decide) hf hn ?_ I.funs
  exact Heap.get?_none_of_le (Nat.le_trans I.ok.bsz I.ok.above)
theorem aF.stkSub (I:aF X pins σ H s):∀b∈nT X.stack,b∈X.env.locals::X.fs:=fun b hb=>by
 rcases I.ok.stk with e|⟨e,hf⟩
 ·rw[e]at hb;exact List.mem_cons_of_mem _ hb
 ·rw[e]at hb
  unfold nT at hb
  rw[List.filterMap_cons,hf]at hb
  exact hb
theorem aF.stkFree (I:aF X pins σ H s):∀b∈nT X.stack,H b=none:=fun b hb=>by
 rcases List.mem_cons.mp (I.stkSub b hb)with e|hb
 ·rw[e];exact I.free
 ·obtain⟨_,o,ho,_⟩:=I.ok.funs.mem hb
  exact I.base.free b o ho (I.ok.frf b hb) fun z=>I.ok.exfs b z hb
theorem aF.step {g':Array GenState} {t':Nat} {d':Drawn} {ch:List Addr} (I:aF X pins σ H s)
  (hch:∀b∈ch,(b∈X.ex\/X.s₀.heap.get? b=none)/\b≠X.env.locals/\(∀x c,X.env.cells.lookup x=some c->c≠b)/\∀p∈X.pn++pins,p.1≠b)
  (keep:∀b o,b≠X.env.locals->b∉X.fs->b∉ch->s.heap.get? b=some o->H b=none->h'.get? b=some o)
  (slot:∀b o,b≠X.env.locals->b∈X.fs->b∉ch->s.heap.get? b=some o->H b=none->∃sl,h'.get? b=some {o with slots:=sl}) (free:∀b o,b∉ch->s.heap.get? b=some o->H b=none->H' b=none)
  (there:∀b o,b∉ch->s.heap.get? b=some o->∃o',h'.get? b=some o')
  (tups:∀b xs,H b=some (.tup xs)->H' b=some (.tup xs)) (frzs:∀b o u,H b=some (.frz o u)->H' b=some (.frz o u)) (tbls:∀b ps,H b=some (.tbl ps)->∃more,H' b=some (.tbl (ps++more)))
  (ns:∀m,s.heap.Ns X.env.locals m->h'.Ns X.env.locals m) (hok:jA X.prog X.w H' h') (hg:AllBare g'):
  aF X pins σ H' {s with heap:=h',gens:=g',drawn:=d',toks:=t'}:=by
 have neL:∀b o,X.s₀.heap.get? b=some o->b≠X.env.locals:=fun b o e=>Nat.ne_of_lt (Nat.lt_of_lt_of_le (Heap.lt_size e) I.ok.above)
 have neC:∀b o,X.s₀.heap.get? b=some o->b∉X.ex->b∉ch:=fun b o e hx hb=>by
  rcases(hch b hb).1 with z|z
  ·exact hx z
  ·rw[e]at z;cases z
 have cellK:∀x c,X.env.cells.lookup x=some c->∀v,s.heap.IsCell c v->h'.IsCell c v:=fun x c e v ⟨o,ho,hd⟩=>by
  have nch:c∉ch:=fun z=>(hch c z).2.2.1 x c e rfl
  by_cases hc:c∈X.fs
  ·obtain⟨sl,q⟩:=slot c o (I.cne x c e) hc nch ho (I.freeC x c e)
   exact⟨_,q,hd⟩
  ·exact⟨o,keep c o (I.cne x c e) hc nch ho (I.freeC x c e),hd⟩
 refine⟨I.ok,I.os,hg,⟨fun b o e n hb hx=> ?_,fun b o e n hb hx=> ?_,fun b o e n hx=> ?_,fun b o e hx=> ?_,fun b xs e=>tups b xs (I.base.tups b xs e),fun b o xs e=>frzs b o xs (I.base.frzs b o xs e),fun b ps e=> ?_⟩,?_,fun x c e=> ?_,?_,fun x c e=> ?_,fun p hp=> ?_,hok,I.len⟩
 ·exact keep b o (neL b o e) hb (neC b o e hx) (I.base.keep b o e n hb hx) (I.base.free b o e n hx)
 ·obtain⟨sl,e1⟩:=I.base.slot b o e n hb hx
  obtain⟨sl',e2⟩:=slot b _ (neL b o e) hb (neC b o e hx) e1 (I.base.free b o e n hx)
  exact⟨sl',e2⟩
 ·obtain⟨o',e1⟩:=I.base.there b o e hx
  exact free b o' (neC b o e hx) e1 (I.base.free b o e n hx)
 ·obtain⟨o',e1⟩:=I.base.there b o e hx
  exact there b o' (neC b o e hx) e1
 ·obtain⟨m1,e1⟩:=I.base.tbls b ps e
  obtain⟨m2,e2⟩:=tbls b _ e1
  exact⟨m1++m2,by rw[e2,Array.append_assoc]⟩
 ·obtain⟨m,hn,hl⟩:=I.loc
  refine⟨m,ns m hn,fun i x v e1 e2 e3=> ?_⟩
  obtain⟨u,r,l⟩:=hl i x v e1 e2 e3
  refine⟨u,r,?_⟩
  rcases l with l|⟨k,c,e,z⟩
  ·exact .inl l
  ·exact .inr ⟨k,c,e,cellK x c e _ z⟩
 ·obtain⟨v,z⟩:=I.cell x c e
  exact⟨v,cellK x c e v z⟩
 ·obtain⟨m,⟨o,_,_,ho,_⟩,_⟩:=I.loc
  exact free _ o (fun z=>(hch _ z).2.1 rfl) ho I.free
 ·obtain⟨v,o,ho,hd⟩:=I.cell x c e
  exact free c o (fun z=>(hch c z).2.2.1 x c e rfl) ho (I.freeC x c e)
 ·obtain⟨e,n,ne,nf,d⟩:=I.pin p hp
  have nch:p.1∉ch:=fun z=>(hch p.1 z).2.2.2 p hp rfl
  exact⟨keep p.1 p.2 ne nf nch e n,free p.1 p.2 nch e n,ne,nf,d⟩
theorem aF.un {t':Nat} (I:aF X pins σ H s) (u:Un X.fs [] H H' s.heap h') (hok:jA X.prog X.w H' h'):aF X pins σ H' {s with heap:=h',toks:=t'}:=by
 obtain⟨m,⟨o,es,ep,ho,r⟩,_⟩:=id I.loc
 obtain⟨sl,hL⟩:=u.any ho I.free (by simp)
 exact I.step (g':=s.gens) (d':=s.drawn) (ch:=[]) (fun _ z=>nomatch z) (fun b o _ hb _ e n=>u.keep b o e n hb (by simp)) (fun b o _ hb _ e n=>u.slot b o e n hb (by simp)) (fun b o _ e n=>u.free b o e n (by simp)) (fun b o _ e=>u.there b o e (by simp)) u.tups u.frzs u.tbls (fun m' hm=>by
  obtain⟨o',es',ep',ho',r'⟩:=hm
  rw[ho]at ho';cases ho'
  exact⟨_,es',ep',hL,r'⟩) hok I.bare
theorem aF.call {g':Array GenState} {t':Nat} {d':Drawn} {ch:List Addr} (I:aF X pins σ H s) (u:Un (nT X.stack) ch H H' s.heap h') (hok:jA X.prog X.w H' h') (hg:AllBare g')
  (hch:∀b∈ch,(b∈X.ex\/X.s₀.heap.objs.size<=b)/\b≠X.env.locals/\(∀x c,X.env.cells.lookup x=some c->c≠b)/\∀p∈X.pn++pins,p.1≠b):
  aF X pins σ H' {s with heap:=h',gens:=g',drawn:=d',toks:=t'}:=by
 obtain⟨m,⟨o,es,ep,ho,r⟩,_⟩:=id I.loc
 obtain⟨sl,hL⟩:=u.any ho I.free fun z=>(hch _ z).2.1 rfl
 exact I.step (ch:=ch) (fun b hb=>⟨(hch b hb).1.imp id Heap.get?_none_of_le,(hch b hb).2⟩) (fun b o hL hb hc e n=>u.keep b o e n (fun z=>(List.mem_cons.mp (I.stkSub b z)).elim hL hb) hc) (fun b o _ _ hc e n=>u.any e n hc) (fun b o hc e n=>u.free b o e n hc) (fun b o hc e=>u.there b o e hc) u.tups u.frzs u.tbls (fun m' hm=>by
  obtain⟨o',es',ep',ho',r'⟩:=hm
  rw[ho]at ho';cases ho'
  exact⟨_,es',ep',hL,r'⟩) hok hg
theorem aF.turned {t':Nat} {it:Addr} (I:aF X pins σ H s) (k:∀b o,b≠it->s.heap.get? b=some o->h'.get? b=some o) (hn:H it=none) (hL:it≠X.env.locals)
  (h1:it∈X.ex\/X.s₀.heap.objs.size<=it) (h2:∀x c,X.env.cells.lookup x=some c->c≠it) (h3:∀p∈X.pn++pins,p.1≠it):aF X pins σ H {s with heap:=h',toks:=t'}:=by
 have nit:∀b u,H b=some u->b≠it:=fun b u e z=>by rw[z,hn]at e;cases e
 refine I.step (g':=s.gens) (d':=s.drawn) (ch:=[it]) (fun b hb=> ?_) (fun b o _ _ hc e _=>k b o (fun z=>hc (by simp[z])) e) (fun b o _ _ hc e _=>⟨o.slots,k b o (fun z=>hc (by simp[z])) e⟩) (fun _ _ _ _ n=>n)
  (fun b o hc e=>⟨o,k b o (fun z=>hc (by simp[z])) e⟩) (fun _ _ e=>e) (fun _ _ _ e=>e) (fun b ps e=>⟨#[],by rw[e];simp⟩) (fun m hm=> ?_) (fun b u e=> ?_) I.bare
 ·have e:b=it:=by simpa using hb
  subst e
  exact⟨h1.imp id Heap.get?_none_of_le,hL,h2,h3⟩
 ·obtain⟨o,es,ep,ho,r⟩:=hm
  exact⟨o,es,ep,k _ o (Ne.symm hL) ho,r⟩
 ·refine(I.hok b u e).stay (fun c v hc q=>k c v ?_ q) (fun _ q=>q) fun _ _ q=>q
  rcases hc with z|z
  ·rw[z];exact nit b u e
  ·exact nit c _ z
theorem aF.tok (I:aF X pins σ H s) (t:Nat):aF X pins σ H {s with toks:=t}:=I.un (h':=s.heap) (t':=t) Un.refl I.hok
theorem aF.kept {t':Nat} (I:aF X pins σ H s) (k:∀b u,s.heap.get? b=some u->h'.get? b=some u):aF X pins σ H {s with heap:=h',toks:=t'}:=I.un (Un.kept k) (I.hok.kept k)
theorem aF.laid {a:Addr} {o:HO} {t':Nat} (I:aF X pins σ H s) (k:∀b u,s.heap.get? b=some u->h'.get? b=some u) (hp:s.heap.objs.size<=a) (new:bS X.prog X.w (bK H a o) h' a o):
  aF X pins σ (bK H a o) {s with heap:=h',toks:=t'}:=I.un (Un.laid k hp (I.hok.fresh hp)) (I.hok.laid k hp new)
theorem aF.write {x e:Addr} {o:HO} {t':Nat} (I:aF X pins σ H s) (mu:FA (H x)) (he:e=x\/H e=some (.own x)) (k:∀b u,b≠e->s.heap.get? b=some u->h'.get? b=some u) (heo:∃u,h'.get? e=some u)
  (new:bS X.prog X.w (bK H x o) h' x o):aF X pins σ (bK H x o) {s with heap:=h',toks:=t'}:=I.un (Un.write mu he k heo) (I.hok.write mu he k heo new)
theorem aF.pins_of {pins':List (Addr×Obj)} (I:aF X pins σ H s) (h:∀p∈pins',s.heap.get? p.1=some p.2/\H p.1=none/\p.1≠X.env.locals/\p.1∉X.fs/\∀v,p.2.data≠ .cell v):aF X pins' σ H s:=
 ⟨I.ok,I.os,I.bare,I.base,I.loc,I.cell,I.free,I.freeC,fun p hp=>(List.mem_append.mp hp).elim (fun z=>I.pin p (List.mem_append_left _ z)) (h p),I.hok,I.len⟩
theorem o4 {N:List Str} (hN:N.Nodup) {i j:Nat} {x:Str} (a:N[i]? =some x) (b:N[j]? =some x):i=j:=by
 obtain⟨h1,e1⟩:=List.getElem?_eq_some_iff.mp a
 obtain⟨h2,e2⟩:=List.getElem?_eq_some_iff.mp b
 exact(List.getElem_inj hN).mp (e1.trans e2.symm)
theorem xf {M:Model} {A:Around} {E:Value->Shared->Prop} {i:Nat} {x:Str} {v:V} {u:Value} {Q:Unit->Shared->Prop} (I:aF X pins σ H s) (hN:X.N.Nodup) (hi:X.N[i]? =some x) (hx:xc X.env.scope x) (r:bx v u)
  (h:∀s',aF X pins (σ.set i (some v)) H s'->(∃a,Heap.SameBut a s.heap s'.heap/\(a=X.env.locals\/X.env.cells.lookup x=some a))->Q () s') (hf:X.fn x=true\/X.env.scope.names.lookup x=some .local:=by first|exact .inl rfl|exact .inr rfl|assumption):wpAny M A (storeName X.env x u) Q E s:=by
 obtain⟨m,hn,hl⟩:=id I.loc
 have hcls:(X.env.scope.kind== .class||(X.env.scope.kind== .module&&X.env.locals != X.env.globals))=false:=by rw[I.ok.kind];rfl
 have hiσ:i<σ.length:=by rw[I.len];exact(List.getElem?_eq_some_iff.mp hi).1
 have cne:=I.cne
 have tracked:∀{a:Addr} {h':Heap},(∃o,s.heap.get? a=some o/\H a=none)->Heap.SameBut a s.heap h'->jA X.prog X.w H h':=fun {a h'} ha hs b ob e=>by
  obtain⟨_,_,hfree⟩:=ha
  refine(I.hok b ob e).stay (fun c w' hc q=>(hs.2 c ?_).trans q) (fun _ q=>q) fun _ _ q=>q
  rintro rfl
  rcases hc with rfl|hc
  ·rw[hfree]at e;cases e
  ·rw[hfree]at hc;cases hc
 rcases hx with hk|hk
 ·refine wpAny_storeName_local hk hn (fun h' hn' hs=> ?_) hcls
  obtain⟨oL,_,_,hoL,_⟩:=id hn
  refine h _ ⟨I.ok,I.os,I.bare,⟨fun b o e n hb hx=> ?_,fun b o e n hb hx=> ?_,I.base.free,fun b o e hx=> ?_,I.base.tups,I.base.frzs,I.base.tbls⟩,⟨_,hn',fun j y v' e1 e2 e3=> ?_⟩,fun y c e=> ?_,I.free,I.freeC,fun p hp=> ?_,tracked ⟨oL,hoL,I.free⟩ hs,by simpa using I.len⟩ ⟨_,hs, .inl rfl⟩
  ·exact(hs.2 b (Nat.ne_of_lt (Nat.lt_of_lt_of_le (Heap.lt_size e) I.ok.above))).trans (I.base.keep b o e n hb hx)
  ·obtain⟨sl,e1⟩:=I.base.slot b o e n hb hx
   exact⟨sl,(hs.2 b (Nat.ne_of_lt (Nat.lt_of_lt_of_le (Heap.lt_size e) I.ok.above))).trans e1⟩
  ·obtain⟨o',e1⟩:=I.base.there b o e hx
   exact⟨o',(hs.2 b (Nat.ne_of_lt (Nat.lt_of_lt_of_le (Heap.lt_size e) I.ok.above))).trans e1⟩
  ·by_cases hj:j=i
   ·subst hj
    rw[hi]at e1;cases e1
    rw[List.getElem?_set_self hiσ]at e2
    cases e2
    exact⟨u,r, .inl ⟨hk,by simp⟩⟩
   ·rw[List.getElem?_set_ne (Ne.symm hj)]at e2
    obtain⟨u',r',q⟩:=hl j y v' e1 e2 e3
    refine⟨u',r',?_⟩
    rcases q with ⟨k,e⟩|⟨k,c,e,z⟩
    ·refine .inl ⟨k,?_⟩
     have:y≠x:=fun e=>hj (o4 hN e1 (e▸hi))
     simp[this,e]
    ·exact .inr ⟨k,c,e,z.sameBut hs (cne y c e)⟩
  ·obtain⟨w',z⟩:=I.cell y c e
   exact⟨w',z.sameBut hs (cne y c e)⟩
  ·obtain⟨e,n,ne,nf,d⟩:=I.pin p hp
   exact⟨(hs.2 p.1 ne).trans e,n,ne,nf,d⟩
 ·have hfn:X.fn x=true:=by
   rcases hf with z|z
   ·exact z
   ·rw[z]at hk;cases hk
  obtain⟨c,hc⟩:=I.ok.has x (.inl hk)
  obtain⟨w',z⟩:=I.cell x c hc
  refine wpAny_storeName_cell I.ok.kind hk hc z (fun h' hc' hs=> ?_)
  obtain⟨oc,hoc,hocd⟩:=id z
  refine h {s with heap:=h'} ⟨I.ok,I.os,I.bare,⟨fun b o e n hb hx=> ?_,fun b o e n hb hx=> ?_,I.base.free,fun b o e hx=> ?_,I.base.tups,I.base.frzs,I.base.tbls⟩,⟨m,hn.sameBut hs (Ne.symm (cne x c hc)),fun j y v' e1 e2 e3=> ?_⟩,fun y c' e=> ?_,I.free,I.freeC,fun p hp=> ?_,tracked ⟨oc,hoc,I.freeC x c hc⟩ hs,by simpa using I.len⟩ ⟨c,hs, .inr hc⟩
  ·exact(hs.2 b (Nat.ne_of_lt (Nat.lt_of_lt_of_le (Heap.lt_size e) (I.ok.cab x c hfn hc)))).trans (I.base.keep b o e n hb hx)
  ·obtain⟨sl,e1⟩:=I.base.slot b o e n hb hx
   exact⟨sl,(hs.2 b (Nat.ne_of_lt (Nat.lt_of_lt_of_le (Heap.lt_size e) (I.ok.cab x c hfn hc)))).trans e1⟩
  ·obtain⟨o',e1⟩:=I.base.there b o e hx
   exact⟨o',(hs.2 b (Nat.ne_of_lt (Nat.lt_of_lt_of_le (Heap.lt_size e) (I.ok.cab x c hfn hc)))).trans e1⟩
  ·by_cases hj:j=i
   ·subst hj
    rw[hi]at e1;cases e1
    rw[List.getElem?_set_self hiσ]at e2
    cases e2
    exact⟨u,r, .inr ⟨.inl hk,c,hc,hc'⟩⟩
   ·rw[List.getElem?_set_ne (Ne.symm hj)]at e2
    obtain⟨u',r',q⟩:=hl j y v' e1 e2 e3
    refine⟨u',r',?_⟩
    rcases q with q|⟨k,c',e,z'⟩
    ·exact .inl q
    ·refine .inr ⟨k,c',e,z'.sameBut hs ?_⟩
     rintro rfl
     exact hj (o4 hN e1 (I.ok.inj _ _ _ e hc▸hi))
  ·by_cases hcc:c'=c
   ·subst hcc;exact⟨_,hc'⟩
   ·obtain⟨w2,z2⟩:=I.cell y c' e
    exact⟨w2,z2.sameBut hs hcc⟩
  ·obtain⟨e,n,ne,nf,d⟩:=I.pin p hp
   refine⟨(hs.2 p.1 ?_).trans e,n,ne,nf,d⟩
   intro q
   rw[q,hoc]at e
   have q':oc=p.2:=Option.some.inj e
   exact d w' (by rw[<-q'];exact hocd)
theorem o5 {M:Model} {A:Around} {E:Value->Shared->Prop} {i:Nat} {x:Str} {v:V} {u:Value} {Q:Unit->Shared->Prop} (I:aF X pins σ H s) (hN:X.N.Nodup) (hi:X.N[i]? =some x) (hx:xc X.env.scope x) (r:bx v u)
  (h:∀s',aF X pins (σ.set i (some v)) H s'->Q () s') (hf:X.fn x=true\/X.env.scope.names.lookup x=some .local:=by first|exact .inl rfl|exact .inr rfl|assumption):wpAny M A (storeName X.env x u) Q E s:=
 xf I hN hi hx r (fun s' I' _=>h s' I') hf
theorem aF.call' {s':Shared} {ch:List Addr} (I:aF X pins σ H s) (ho:s'.os=s.os) (u:Un (nT X.stack) ch H H' s.heap s'.heap) (hok:jA X.prog X.w H' s'.heap) (hg:AllBare s'.gens)
  (hch:∀b∈ch,(b∈X.ex\/X.s₀.heap.objs.size<=b)/\b≠X.env.locals/\(∀x c,X.env.cells.lookup x=some c->c≠b)/\∀p∈X.pn++pins,p.1≠b):aF X pins σ H' s':=by
 obtain⟨h',g',d',t',o'⟩:=s'
 have e:o'=s.os:=ho
 subst e
 exact I.call (g':=g') (t':=t') (d':=d') u hok hg hch
end
abbrev XK:=Value->Option Addr->Hp->Prop
abbrev St:=List (Option V)
abbrev VK:=V->Hp->Prop
abbrev TE:=St->Hp->VK->Prop
abbrev TT:=St->Hp->(Bool->Hp->Prop)->Prop
abbrev TA:=St->Hp->(List V->Hp->Prop)->Prop
structure kS where
 nx:St->Hp->Prop
 rt:VK
 bk:St->Hp->Prop:=fun _ _=>False
 ct:St->Hp->Prop:=fun _ _=>False
abbrev TS:=kS->St->Hp->Prop
def EP (X:Cx) (pins:List (Addr×Obj)) (σ:St) (Q:VK) (u:Value) (s':Shared):Prop:=∃v H',aF X pins σ H' s'/\bx v u/\Q v H'
def TP (X:Cx) (pins:List (Addr×Obj)) (σ:St) (Q:Bool->Hp->Prop) (b:Bool) (s':Shared):Prop:=∃H',aF X pins σ H' s'/\Q b H'
def AP (X:Cx) (pins:List (Addr×Obj)) (σ:St) (Q:List V->Hp->Prop) (us:List Value) (s':Shared):Prop:=∃vs H',aF X pins σ H' s'/\aS vs us/\Q vs H'
def SP (X:Cx) (pins:List (Addr×Obj)) (D:kS) (f:Flow) (s':Shared):Prop:=
 match f with
 | .next=>∃σ' H',aF X pins σ' H' s'/\D.nx σ' H'
 | .brk=>∃σ' H',aF X pins σ' H' s'/\D.bk σ' H'
 | .cont=>∃σ' H',aF X pins σ' H' s'/\D.ct σ' H'
 | .ret u=>∃v σ' H',aF X pins σ' H' s'/\bx v u/\D.rt v H'
def PE (X:Cx) (e:Expr) (t:TE):Prop:=
 ∀(pins:List (Addr×Obj)) (s:Shared) (σ:St) (H:Hp) (Q:VK),aF X pins σ H s->t σ H Q->wpAny (model X.prog X.w) X.A (eval e X.env) (EP X pins σ Q) X.xe s
def PT (X:Cx) (e:Expr) (t:TT):Prop:=
 ∀(pins:List (Addr×Obj)) (s:Shared) (σ:St) (H:Hp) (Q:Bool->Hp->Prop),aF X pins σ H s->t σ H Q->wpAny (model X.prog X.w) X.A (isTrue e X.env (eval e X.env)) (TP X pins σ Q) X.xe s
def PW (X:Cx) (e:Expr) (t:TT):Prop:=
 ∀(whole:Sem Value) (pins:List (Addr×Obj)) (s:Shared) (σ:St) (H:Hp) (Q:Bool->Hp->Prop),aF X pins σ H s->t σ H Q->wpAny (model X.prog X.w) X.A (isTrue e X.env whole) (TP X pins σ Q) X.xe s
theorem PW.pt {X:Cx} {e:Expr} {t:TT} (h:PW X e t):PT X e t:=h _
def PA (X:Cx) (es:List Expr) (t:TA):Prop:=
 ∀(pos:Pos) (pins:List (Addr×Obj)) (s:Shared) (σ:St) (H:Hp) (Q:List V->Hp->Prop),aF X pins σ H s->t σ H Q->wpAny (model X.prog X.w) X.A (spliced (backTo pos (starEach es X.env))) (AP X pins σ Q) X.xe s
def PS (X:Cx) (st:Stmt) (t:TS):Prop:=
 ∀(pins:List (Addr×Obj)) (s:Shared) (σ:St) (H:Hp) (D:kS),aF X pins σ H s->t D σ H->wpAny (model X.prog X.w) X.A (exec st X.env) (SP X pins D) X.xe s
def pQ (X:Cx) (st:List Stmt) (t:TS):Prop:=
 ∀(pins:List (Addr×Obj)) (s:Shared) (σ:St) (H:Hp) (D:kS),aF X pins σ H s->t D σ H->wpAny (model X.prog X.w) X.A (execs st X.env) (SP X pins D) X.xe s
theorem cp {α:Type} {t:Sem α} {Q Q':α->Shared->Prop} {M:Model} {A:Around} {E:Value->Shared->Prop} {s:Shared} (h:wpAny M A t Q E s) (hQ:∀a s,Q a s->Q' a s):wpAny M A t Q' E s:=wpAny_mono h hQ fun _ _ x=>x
end L2
namespace L2
open PySem PySem.Spec PyProof.Rows
section
variable {X:Cx}
def Br (i:Nat):TE:=fun σ H Q=>∃v,σ[i]? =some (some v)/\Q v H
def tC (v:V):TE:=fun _ H Q=>Q v H
theorem DO {i:Nat} {x:Str} {pos:Pos} (hN:X.N[i]? =some x) (hv:uo X.env.scope x) (hd:(x==("__debug__":Str))=false:=by decide) (hcd:(x==("__classdict__":Str))=false:=by decide):PE X (.Name x pos) (Br i):=by
 intro pins s σ H Q I h
 obtain⟨v,e,h⟩:=h
 obtain⟨m,hn,hl⟩:=I.loc
 obtain⟨u,r,l⟩:=hl i x v hN e hv
 have fin:EP X pins σ Q u s:=⟨v,H,I,r,h⟩
 rcases l with ⟨hk,hm⟩|⟨hk,c,hc,hcell⟩
 ·exact wpAny_Name (wpAny_loadName_local I.ok.kind hk hn hm fin) hd
 ·rcases hk with hk|hk
  ·exact wpAny_Name (wpAny_loadName_cell I.ok.kind hk hc hcell fin) hd
  ·exact wpAny_Name (wpAny_loadName_free I.ok.kind hk hc hcell fin hcd) hd
theorem yB {i j pos}:PE X (.Constant (.int i) j pos) (tC (.int i)):=fun _ _ _ H _ I h=>wpAny_Constant_int ⟨.int i,H,I.tok _,⟨_,rfl⟩,h⟩
theorem FC {b j pos}:PE X (.Constant (.bool b) j pos) (tC (.bl b)):=fun _ _ _ H _ I h=>Constant_bool ⟨.bl b,H,I,rfl,h⟩
theorem DP {j pos}:PE X (.Constant .none j pos) (tC .non):=fun _ _ _ H _ I h=>Constant_none ⟨.non,H,I,rfl,h⟩
theorem DQ {x j pos}:PE X (.Constant (.str x) j pos) (tC (.str x)):=fun _ _ _ H _ I h=>Calls.Constant_str ⟨.str x,H,I.tok _,⟨_,rfl⟩,h⟩
def Gl (X:Cx) (x:Str):Prop:=X.env.kindOf x=some .globalImplicit
theorem lC {E:Value->Shared->Prop} {pins:List (Addr×Obj)} {s:Shared} {σ:St} {H:Hp} {x:Str} {u:Value} {pos:Pos} {Q:Value->Shared->Prop} (I:aF X pins σ H s) (hg:Gl X x) (hm:X.mg x=some u) (h:Q u s)
  (hd:(x==("__debug__":Str))=false:=by decide):wpAny (model X.prog X.w) X.A (eval (.Name x pos) X.env) Q E s:=
 Calls.Name_function_global I.ok.kind hg (Calls.loadGlobal_global (by rw[I.ok.glob];exact I.mod.glob.keeps I.bk) hm h) hd
theorem jF {E:Value->Shared->Prop} {pins:List (Addr×Obj)} {s:Shared} {σ:St} {H:Hp} {x:Str} {u:Value} {pos:Pos} {Q:Value->Shared->Prop} (I:aF X pins σ H s) (hg:Gl X x) (hm:X.mg x=none) (hv:bootBuiltins x=some u) (h:Q u s)
  (hn:x≠"__name__":=by decide) (hd:(x==("__debug__":Str))=false:=by decide):wpAny (model X.prog X.w) X.A (eval (.Name x pos) X.env) Q E s:=by
 obtain⟨mb,h1,h2⟩:=I.mod.blt
 exact Calls.Name_function_global I.ok.kind hg (Calls.loadGlobal_builtin (by rw[I.ok.glob];exact I.mod.glob.keeps I.bk) hm (by rw[I.ok.blt];exact h1.keeps I.bk) ((h2 x hn).trans hv) h) hd
theorem vK {x:Str} {v:V} {u:Value} {pos:Pos} (hg:Gl X x) (hm:X.mg x=some u) (r:bx v u) (hd:(x==("__debug__":Str))=false:=by decide):PE X (.Name x pos) (tC v):=
 fun _ _ _ H _ I h=>lC I hg hm ⟨v,H,I,r,h⟩ hd
theorem vL {x:Str} {v:V} {u:Value} {pos:Pos} (hg:Gl X x) (hm:X.mg x=none) (hv:bootBuiltins x=some u) (r:bx v u) (hn:x≠"__name__":=by decide) (hd:(x==("__debug__":Str))=false:=by decide):PE X (.Name x pos) (tC v):=
 fun _ _ _ H _ I h=>jF I hg hm hv ⟨v,H,I,r,h⟩ hn hd
variable {a b:Expr} {ta tb:TE} {pos:Pos}
def PC (X:Cx) (op:CmpOp) (a b:Expr) (t:TE):Prop:=
 ∀(pins:List (Addr×Obj)) (s:Shared) (σ:St) (H:Hp) (Q:VK),aF X pins σ H s->t σ H Q->
  wpAny (model X.prog X.w) X.A (eval a X.env) (fun v s₁=>wpAny (model X.prog X.w) X.A (eval b X.env) (fun u s₂=>wpAny (model X.prog X.w) X.A (compareOp op v u) (EP X pins σ Q) X.xe s₂) X.xe s₁) X.xe s
def tB (t:TE):TT:=fun σ H Q=>t σ H fun x H1=>∃c,x= .bl c/\Q c H1
theorem DR {op:CmpOp} {t:TE} (h:PC X op a b t) (h1:behindInMarks op b=false:=by first|exact nobehind _ (by decide) (by decide)|rfl):PE X (.Compare a [op] [b] pos) t:=fun pins s σ H Q I hw=>wpAny_Compare1 (h pins s σ H Q I hw) h1
theorem yC {op:CmpOp} {t:TE} (h:PC X op a b t) (h1:behindInMarks op b=false:=by first|exact nobehind _ (by decide) (by decide)|rfl):PT X (.Compare a [op] [b] pos) (tB t):=by
 intro pins s σ H Q I hw
 refine wpAny_isTrue_Compare1 (cp (h pins s σ H _ I hw) fun v s1 h1=>cp h1 fun u s2 h2=>cp h2 fun c s3 z_=> ?_) h1
 obtain⟨x,H1,I1,r1,q1⟩:=z_
 obtain⟨d,rfl,q⟩:=q1
 cases r1
 exact wpAny_truthy_bool ⟨H1,I1,q⟩
variable {tA tB':TT} {rest:List Expr}
def Hk (t u:TT):TT:=fun σ H Q=>t σ H fun c H1=>if c=true then u σ H1 Q else Q false H1
def Ir (t u:TT):TT:=fun σ H Q=>t σ H fun c H1=>if c=true then Q true H1 else u σ H1 Q
def Hl (t:TT):TT:=fun σ H Q=>t σ H fun c H1=>Q (!c) H1
theorem Bs (ha:PT X a tA):PW X (.BoolOp .And [a] pos) tA:=by
 intro wh pins s σ H Q I h
 refine isTrue_and (cp (ha pins s σ H Q I h) fun c s1 e=> ?_)
 cases c with
 |true=>exact isTrue_and_nil e
 |false=>exact e
theorem DS (ha:PT X a tA):PW X (.BoolOp .Or [a] pos) tA:=by
 intro wh pins s σ H Q I h
 refine isTrue_or (cp (ha pins s σ H Q I h) fun c s1 e=> ?_)
 cases c with
 |false=>exact isTrue_or_nil e
 |true=>exact e
theorem DT (ha:PT X a tA) (hb:PW X (.BoolOp .And (b::rest) pos) tB'):PW X (.BoolOp .And (a::b::rest) pos) (Hk tA tB'):=by
 intro wh pins s σ H Q I h
 refine isTrue_and (cp (ha pins s σ H _ I h) fun c s1 z_=> ?_)
 obtain⟨H1,I1,q1⟩:=z_
 cases c with
 |true=>exact hb wh pins s1 σ H1 Q I1 q1
 |false=>exact⟨H1,I1,q1⟩
theorem FD (ha:PT X a tA) (hb:PW X (.BoolOp .Or (b::rest) pos) tB'):PW X (.BoolOp .Or (a::b::rest) pos) (Ir tA tB'):=by
 intro wh pins s σ H Q I h
 refine isTrue_or (cp (ha pins s σ H _ I h) fun c s1 z_=> ?_)
 obtain⟨H1,I1,q1⟩:=z_
 cases c with
 |true=>exact⟨H1,I1,q1⟩
 |false=>exact hb wh pins s1 σ H1 Q I1 q1
theorem DU (ha:PT X a tA):PT X (.UnaryOp .Not a pos) (Hl tA):=by
 intro pins s σ H Q I h
 exact isTrue_not (ha pins s σ H (fun c H1=>Q (!c) H1) I h)
def FE (ta tb:TE):TE:=fun σ H Q=>ta σ H fun x H1=>∃c,x= .bl c/\if c=true then tb σ H1 Q else Q (.bl false) H1
def FF (ta:TE):TE:=fun σ H Q=>ta σ H fun x H1=>∃c,x= .bl c/\Q (.bl (!c)) H1
theorem DV {op} {t:TE} (h:PE X a t):PE X (.BoolOp op [a] pos) t:=fun pins s σ H Q I hw=>BoolOp_one (h pins s σ H Q I hw)
theorem DW (ha:PE X a ta) (hb:PE X (.BoolOp .And (b::rest) pos) tb):PE X (.BoolOp .And (a::b::rest) pos) (FE ta tb):=by
 intro pins s σ H Q I h
 refine BoolOp_and (cp (ha pins s σ H _ I h) fun v s1 z_=> ?_)
 obtain⟨x,H1,I1,r1,q1⟩:=z_
 obtain⟨c,rfl,q1⟩:=q1
 cases r1
 refine wpAny_truthy_bool ?_
 cases c with
 |true=>exact hb pins s1 σ H1 Q I1 q1
 |false=>exact⟨.bl false,H1,I1,rfl,q1⟩
theorem DX (ha:PE X a ta):PE X (.UnaryOp .Not a pos) (FF ta):=by
 intro pins s σ H Q I h
 refine UnaryOp_ (cp (ha pins s σ H _ I h) fun v s1 z_=> ?_)
 obtain⟨x,H1,I1,r1,q1⟩:=z_
 obtain⟨c,rfl,q1⟩:=q1
 cases r1
 exact not_of (wpAny_truthy_bool ⟨.bl (!c),H1,I1,rfl,q1⟩)
def Iu (t:TT) (ta tb:TE):TE:=fun σ H Q=>t σ H fun c H1=>if c=true then ta σ H1 Q else tb σ H1 Q
theorem yD {c:Expr} (hc:PT X c tA) (ha:PE X a ta) (hb:PE X b tb):PE X (.IfExp c a b pos) (Iu tA ta tb):=by
 intro pins s σ H Q I h
 refine wpAny_IfExp (cp (hc pins s σ H _ I h) fun d s1 z_=> ?_)
 obtain⟨H1,I1,q1⟩:=z_
 cases d with
 |true=>exact ha pins s1 σ H1 Q I1 q1
 |false=>exact hb pins s1 σ H1 Q I1 q1
end
end L2
namespace L2
open PySem PySem.Spec PyProof.Rows
def eC (K:PySem.W.Frag) (H:Hp) (a:Addr) (xs:List V):Prop:=
 Rd H a (.lst xs)\/
  ∃(o:Obj) (its:Array Value) (n:Nat),K.lookup a=some o/\o.cls= .type "list"/\o.dict=none/\o.data= .seq its n/\its.size<=sizeLine/\aS xs its.toList
def h_ (K:PySem.W.Frag) (H:Hp) (a:Addr) (xs:List V):Prop:=
 Rd H a (.tup xs)\/
  ∃(o:Obj) (its:Array Value) (n:Nat),K.lookup a=some o/\o.cls= .type "tuple"/\o.data= .seq its n/\its.size<=sizeLine/\aS xs its.toList
def Hm:Value->Option V
 | .none=>some .non
 | .bool b=>some (.bl b)
 | .int i _=>some (.int i)
 | .str x _=>some (.str x)
 | .bytes b _=>some (.byt b)
 | .float b _=>some (.flt b)
 | .ref a=>some (.ref a)
 | .type n=>some (.ty n)
 |_=>none
theorem bx.abs {x:V} {u:Value} (r:bx x u):Hm u=some x:=by
 cases x with
 |non=>cases r;rfl
 |bl _=>cases r;rfl
 |int _=>obtain⟨t,rfl⟩:=r;rfl
 |str _=>obtain⟨t,rfl⟩:=r;rfl
 |byt _=>obtain⟨t,rfl⟩:=r;rfl
 |flt _=>obtain⟨t,rfl⟩:=r;rfl
 |ref _=>cases r;rfl
 |ty _=>cases r;rfl
theorem bx.inj {x y:V} {u:Value} (r:bx x u) (q:bx y u):x=y:=Option.some.inj (r.abs.symm.trans q.abs)
theorem aS.inj:∀{xs ys:List V} {us:List Value},aS xs us->aS ys us->xs=ys
 |_,_,_, .nil, .nil=>rfl
 |_,_,_, .cons r t, .cons r' t'=>by rw[r.inj r',aS.inj t t']
section
variable {X:Cx} {pins:List (Addr×Obj)} {σ:St} {H:Hp} {s:Shared} {a:Addr} {xs ys:List V}
theorem eC.of {K:PySem.W.Frag} (h:H a=some (.lst xs)):eC K H a xs:= .inl (.inl h)
theorem h_.of {K:PySem.W.Frag} (h:H a=some (.tup xs)):h_ K H a xs:= .inl (.inl h)
theorem aF.list (I:aF X pins σ H s) (h:eC X.K H a xs):∃its:List Value,aS xs its/\PlainL s.heap a its.toArray/\xs.length<=sizeLine:=by
 rcases h with h|⟨o,its,n,hk,hc,hd,hs,hz,r⟩
 ·obtain⟨z,its,n,r,e⟩:=h.ok I.hok
  exact⟨its,r,⟨_,n,e,rfl,rfl,rfl⟩,z⟩
 ·refine⟨its.toList,r,⟨o,n,I.kIn a o hk,hc,hd,by simpa using hs⟩,?_⟩
  have e:=r.length
  simp only[Array.length_toList]at e
  omega
theorem aF.tuple (I:aF X pins σ H s) (h:h_ X.K H a xs):∃its:List Value,aS xs its/\IsTup s.heap a its.toArray/\xs.length<=sizeLine:=by
 rcases h with h|⟨o,its,n,hk,hc,hs,hz,r⟩
 ·obtain⟨z,its,r,p⟩:=h.ok I.hok
  exact⟨its,r,p.tup,z⟩
 ·refine⟨its.toList,r,⟨o,I.kIn a o hk,hc,n,by simpa using hs⟩,?_⟩
  have e:=r.length
  simp only[Array.length_toList]at e
  omega
theorem aF.list_inj (I:aF X pins σ H s) (h:eC X.K H a xs) (h':eC X.K H a ys):xs=ys:=by
 obtain⟨its,r,⟨o,n,e,_,_,d⟩,_⟩:=I.list h
 obtain⟨its',r',⟨o',n',e',_,_,d'⟩,_⟩:=I.list h'
 rw[e]at e';cases e'
 rw[d]at d'
 injection d' with d1 _
 have:its=its':=by simpa using congrArg Array.toList d1
 subst this
 exact r.inj r'
theorem aF.tuple_inj (I:aF X pins σ H s) (h:h_ X.K H a xs) (h':h_ X.K H a ys):xs=ys:=by
 obtain⟨its,r,⟨o,e,_,n,d⟩,_⟩:=I.tuple h
 obtain⟨its',r',⟨o',e',_,n',d'⟩,_⟩:=I.tuple h'
 rw[e]at e';cases e'
 rw[d]at d'
 injection d' with d1 _
 have:its=its':=by simpa using congrArg Array.toList d1
 subst this
 exact r.inj r'
end
abbrev Cx.wish (X:Cx) (E:Value->Shared->Prop):Cx:={X with xe:=E}
abbrev Cx.nox (X:Cx):Cx:=X.wish fun _ _=>False
theorem Cx.Ok.wish {X:Cx} (ok:X.Ok) (E:Value->Shared->Prop):(X.wish E).Ok:=
 ⟨ok.mod,ok.kind,ok.glob,ok.blt,ok.above,ok.inj,ok.has,ok.cab,ok.hd,ok.frames,ok.stk,ok.exf,ok.bs,ok.bsz,ok.noex,ok.exfs,ok.funs,ok.frf⟩
theorem Cx.Ok.unwish {X:Cx} {E:Value->Shared->Prop} (ok:(X.wish E).Ok):X.Ok:=
 ⟨ok.mod,ok.kind,ok.glob,ok.blt,ok.above,ok.inj,ok.has,ok.cab,ok.hd,ok.frames,ok.stk,ok.exf,ok.bs,ok.bsz,ok.noex,ok.exfs,ok.funs,ok.frf⟩
section
variable {X:Cx} {pins:List (Addr×Obj)} {σ:St} {H:Hp} {s:Shared} {E:Value->Shared->Prop}
theorem aF.wish (I:aF X pins σ H s) (E:Value->Shared->Prop):aF (X.wish E) pins σ H s:=⟨I.ok.wish E,I.os,I.bare,I.base,I.loc,I.cell,I.free,I.freeC,I.pin,I.hok,I.len⟩
theorem aF.unwish (I:aF (X.wish E) pins σ H s):aF X pins σ H s:=⟨I.ok.unwish,I.os,I.bare,I.base,I.loc,I.cell,I.free,I.freeC,I.pin,I.hok,I.len⟩
theorem SP.unwish {D:kS} {f:Flow} {s':Shared} (h:SP (X.wish E) pins D f s'):SP X pins D f s':=by
 cases f with
 |next=>obtain⟨σ',H',I,q⟩:=h;exact⟨σ',H',I.unwish,q⟩
 |brk=>obtain⟨σ',H',I,q⟩:=h;exact⟨σ',H',I.unwish,q⟩
 |cont=>obtain⟨σ',H',I,q⟩:=h;exact⟨σ',H',I.unwish,q⟩
 |ret u=>obtain⟨v,σ',H',I,r,q⟩:=h;exact⟨v,σ',H',I.unwish,r,q⟩
theorem PE.nox {e:Expr} {t:TE} (h:PE X.nox e t):PE X e t:=fun pins s σ H Q I hw=>
 wpAny_mono (h pins s σ H Q (I.wish _) hw) (fun _ _ ⟨v,H',I',r,q⟩=>⟨v,H',I'.unwish,r,q⟩) fun _ _ z=>False.elim z
theorem PT.nox {e:Expr} {t:TT} (h:PT X.nox e t):PT X e t:=fun pins s σ H Q I hw=>
 wpAny_mono (h pins s σ H Q (I.wish _) hw) (fun _ _ ⟨H',I',q⟩=>⟨H',I'.unwish,q⟩) fun _ _ z=>False.elim z
theorem pQ.nox {st:List Stmt} {t:TS} (h:pQ X.nox st t):pQ X st t:=fun pins s σ H D I hw=>
 wpAny_mono (h pins s σ H D (I.wish _) hw) (fun _ _ q=>q.unwish) fun _ _ z=>False.elim z
end
section
variable {X:Cx} {st:Stmt} {rest:List Stmt} {t u:TS} {e:Expr} {te:TE} {pos:Pos}
def FG:TS:=fun D σ H=>D.nx σ H
def Hn (t u:TS):TS:=fun D σ H=>t {D with nx:=u D} σ H
theorem Bt:pQ X [] FG:=fun _ _ σ H _ I h=>wpAny_execs_nil ⟨σ,H,I,h⟩
theorem yE (h1:PS X st t) (h2:pQ X rest u):pQ X (st::rest) (Hn t u):=by
 intro pins s σ H D I h
 refine wpAny_execs_cons (cp (h1 pins s σ H {D with nx:=u D} I h) fun f s1 q=> ?_)
 cases f with
 |next=>
  obtain⟨σ',H',I',q⟩:=q
  exact h2 pins s1 σ' H' D I' q
 |ret v=>exact q
 |brk=>exact q
 |cont=>exact q
theorem Bu (h1:PS X st t):pQ X [st] t:=by
 intro pins s σ H D I h
 refine wpAny_execs_cons (cp (h1 pins s σ H D I h) fun f s1 q=> ?_)
 cases f with
 |next=>exact wpAny_execs_nil q
 |ret v=>exact q
 |brk=>exact q
 |cont=>exact q
def FH:TS:=fun D σ H=>D.ct σ H
theorem sD:PS X (.Continue pos) FH:=fun _ _ σ H _ I h=>wpAny_Continue ⟨σ,H,I,h⟩
theorem aF.quiet {pins:List (Addr×Obj)} {σ:St} {H:Hp} {s:Shared} (I:aF X pins σ H s):interactive X.env=false:=by simp[interactive,I.ok.kind]
def FI (te:TE):TS:=fun D σ H=>te σ H fun _ H1=>D.nx σ H1
theorem r9 (he:PE X e te) (hs:swapsWith e none pos.line X.env=pure false:=by rfl):PS X (.Expr e pos) (FI te):=by
 intro pins s σ H D I h
 exact wpAny_Expr_any (cp (he pins s σ H _ I h) fun v s1 ⟨x,H1,I1,r1,q1⟩=>⟨σ,H1,I1,q1⟩) I.quiet hs
def Ho (te:TE):TS:=fun D σ H=>te σ H D.rt
theorem DY (he:PE X e te):PS X (.Return (some e) pos) (Ho te):=by
 intro pins s σ H D I h
 exact wpAny_Return_some (cp (he pins s σ H _ I h) fun v s1 ⟨x,H1,I1,r1,q1⟩=>⟨x,σ,H1,I1,r1,q1⟩)
def Hq (c:TT) (t u:TS):TS:=fun D σ H=>c σ H fun b H1=>if b=true then t D σ H1 else u D σ H1
theorem FJ {c:Expr} {a b:List Stmt} {tc:TT} (hc:PT X c tc) (ha:pQ X a t) (hb:pQ X b u):PS X (.If c a b pos) (Hq tc t u):=by
 intro pins s σ H D I h
 refine wpAny_If (cp (hc pins s σ H _ I h) fun d s1 z_=> ?_)
 obtain⟨H1,I1,q1⟩:=z_
 cases d with
 |true=>exact ha pins s1 σ H1 D I1 q1
 |false=>exact hb pins s1 σ H1 D I1 q1
end
abbrev TG:=V->St->Hp->(St->Hp->Prop)->Prop
abbrev yF:=List V->St->Hp->(St->Hp->Prop)->Prop
def PG (X:Cx) (target:Expr) (t:TG):Prop:=
 ∀(pins:List (Addr×Obj)) (s:Shared) (σ:St) (H:Hp) (v:V) (u:Value) (Q:St->Hp->Prop),aF X pins σ H s->bx v u->t v σ H Q->
  wpAny (model X.prog X.w) X.A (assign target X.env u) (fun _ s'=>∃σ' H',aF X pins σ' H' s'/\Q σ' H') X.xe s
def yG (X:Cx) (ts:List Expr) (t:yF):Prop:=
 ∀(pins:List (Addr×Obj)) (s:Shared) (σ:St) (H:Hp) (vs:List V) (us:List Value) (Q:St->Hp->Prop),aF X pins σ H s->aS vs us->t vs σ H Q->
  wpAny (model X.prog X.w) X.A (assignInOrder ((assignEach ts X.env).map (·.2)) us) (fun _ s'=>∃σ' H',aF X pins σ' H' s'/\Q σ' H') X.xe s
abbrev DZ:=V->V->V->Hp->(Hp->Prop)->Prop
def FK (X:Cx) (t:DZ):Prop:=
 ∀(pins:List (Addr×Obj)) (s:Shared) (σ:St) (H:Hp) (o i v:V) (ov iv u:Value) (Q:Hp->Prop),aF X pins σ H s->bx o ov->bx i iv->bx v u->t o i v H Q->
  wpAny (model X.prog X.w) X.A (setItem ov iv u) (fun _ s'=>∃H',aF X pins σ H' s'/\Q H') X.xe s
section
variable {X:Cx} {pos:Pos}
def Dd (i:Nat):TG:=fun v σ H Q=>Q (σ.set i (some v)) H
theorem vM {i:Nat} {x:Str} (hN:X.N.Nodup) (hi:X.N[i]? =some x) (hx:xc X.env.scope x) (hf:X.fn x=true\/X.env.scope.names.lookup x=some .local:=by first|exact .inl rfl|exact .inr rfl|assumption):PG X (.Name x pos) (Dd i):=by
 intro pins s σ H v u Q I r h
 exact wpAny_assign_Name (o5 I hN hi hx r (fun s' I'=>⟨_,H,I',h⟩) hf)
def Hr:yF:=fun vs σ H Q=>vs=[]/\Q σ H
def FL (t:TG) (u:yF):yF:=fun vs σ H Q=>∃v r,vs=v::r/\t v σ H fun σ' H'=>u r σ' H' Q
theorem Bv:yG X [] Hr:=by
 intro pins s σ H vs us Q I r h
 obtain⟨e,h⟩:=h
 subst e
 cases r
 exact assignInOrder_nil ⟨σ,H,I,h⟩
theorem yH {e:Expr} {es:List Expr} {t:TG} {u:yF} (h1:PG X e t) (h2:yG X es u)
  (hs:(assignEach (e::es) X.env).map (·.2)=assign e X.env::(assignEach es X.env).map (·.2):=by rfl):yG X (e::es) (FL t u):=by
 intro pins s σ H vs us Q I r h
 obtain⟨v,vr,e1,h⟩:=h
 subst e1
 cases r with
 |cons r rr=>
  rw[hs]
  refine assignInOrder_cons (cp (h1 pins s σ H _ _ _ I r h) fun _ s1 z_=> ?_)
  obtain⟨σ1,H1,I1,q1⟩:=z_
  exact h2 pins s1 σ1 H1 _ _ Q I1 rr q1
def Hs (K:PySem.W.Frag) (n:Nat) (t:yF):TG:=fun v σ H Q=>∃a xs,v= .ref a/\h_ K H a xs/\xs.length=n/\t xs σ H Q
theorem yI {es:List Expr} {k:Nat} {t:yF} {n:Nat} (hc:X.calm=true) (h:yG X es t)
  (hn:(assignEach es X.env).length=n:=by rfl) (hst:(assignEach es X.env).findIdx? (·.1)=none:=by rfl):PG X (.Tuple es k pos) (Hs X.K n t):=by
 intro pins s σ H v u Q I r hw
 obtain⟨a,xs,e1,hq,hl,hw⟩:=hw
 subst e1
 cases r
 obtain⟨its,rv,ht,hz⟩:=I.tuple hq
 refine assign_Tuple_tuple (I.ok.hd hc) ht (by simp[hn,<-hl,rv.length]) hst fun h' hx=> ?_
 have I1:aF X pins σ H {s with heap:=h'}:=I.kept (t':=s.toks) fun b o e=>hx b o (Nat.ne_of_lt (Heap.lt_size e)) e
 exact h pins _ σ H xs _ Q I1 (by simpa using rv) hw
def Ht (to ti:TE) (t:DZ):TG:=fun v σ H Q=>to σ H fun o H1=>ti σ H1 fun i H2=>t o i v H2 fun H3=>Q σ H3
theorem D_ {o i:Expr} {to ti:TE} {t:DZ} (ho:PE X o to) (hi:PE X i ti) (hs:FK X t)
  (ha:∀v,assign (.Subscript o i pos) X.env v=(do
   let ov<-holding [v] (eval o X.env)
   let iv<-holding [v,ov] (eval i X.env)
   standAt pos
   holding [v,ov,iv] (setItem ov iv v)
   release [v,ov,iv] []):=by intro _;rfl):PG X (.Subscript o i pos) (Ht to ti t):=by
 intro pins s σ H v u Q I r h
 rw[ha]
 refine wpAny_bind (wpAny_holding (cp (ho pins s σ H _ I h) fun ov s1 z_=> ?_))
 obtain⟨x,H1,I1,r1,q1⟩:=z_
 refine wpAny_bind (wpAny_holding (cp (hi pins s1 σ H1 _ I1 q1) fun iv s2 z_=> ?_))
 obtain⟨y,H2,I2,r2,q2⟩:=z_
 refine wpAny_bind (wpAny_standAt (wpAny_bind (wpAny_holding (cp (hs pins s2 σ H2 x y v ov iv u _ I2 r1 r2 r q2) fun _ s3 z_=> ?_))))
 obtain⟨H3,I3,q3⟩:=z_
 exact wpAny_release ⟨σ,H3,I3,q3⟩
def E0 (te:TE) (g:TG):TS:=fun D σ H=>te σ H fun x H1=>g x σ H1 D.nx
theorem uu {tg e:Expr} {te:TE} {g:TG} (he:PE X e te) (hg:PG X tg g) (hs:swapsWithSole [tg] e pos.line X.env=pure false:=by rfl) (hw:swappedStores [tg] e X.env=pure none:=by rfl)
  (h1:(assignEach [tg] X.env).map (·.2)=[assign tg X.env]:=by rfl):PS X (.Assign [tg] e pos) (E0 te g):=by
 intro pins s σ H D I h
 refine wpAny_Assign_stores (cp (he pins s σ H _ I h) fun v s1 z_=> ?_) hs hw
 obtain⟨x,H1,I1,r1,q1⟩:=z_
 rw[h1]
 exact cp (hg pins s1 σ H1 x v _ I1 r1 q1) fun _ s2 q=>q
theorem kT {i:Nat} {x:Str} {e:Expr} {te:TE} {pos':Pos} (hN:X.N.Nodup) (hi:X.N[i]? =some x) (hx:xc X.env.scope x) (he:PE X e te) (hs:swapsWith e (some (.Name x pos')) pos.line X.env=pure false:=by rfl) (hf:X.fn x=true\/X.env.scope.names.lookup x=some .local:=by first|exact .inl rfl|exact .inr rfl|assumption):
  PS X (.Assign [.Name x pos'] e pos) (E0 te (Dd i)):=by
 intro pins s σ H D I h
 refine wpAny_Assign_Name (cp (he pins s σ H _ I h) fun v s1 z_=> ?_) hs
 obtain⟨y,H1,I1,r1,q1⟩:=z_
 exact o5 I1 hN hi hx r1 (fun s2 I2=>⟨_,H1,I2,q1⟩) hf
end
section
variable {X:Cx} {pos:Pos}
def yJ (c:TT) (tb:TS):TS:=fun D σ H=>∃W:Nat->St->Hp->Prop,(∃m,W m σ H)/\∀m σ H,W m σ H->
 c σ H fun b H1=>if b=true then ∃N:St->Hp->Prop,(∀σ' H',N σ' H'->∃m',m'<m/\W m' σ' H')/\tb {D with nx:=N,ct:=N,bk:=D.nx} σ H1 else D.nx σ H1
theorem yK {c:Expr} {body:List Stmt} {tc:TT} {tb:TS} (hp:PassesOwn (model X.prog X.w) X.A X.env X.xe) (hc:PT X c tc) (hb:pQ X body tb):PS X (.While c body [] pos) (yJ tc tb):=by
 intro pins s σ H D I h
 obtain⟨W,⟨m0,w0⟩,turn⟩:=h
 refine wpAny_While (codeAny_whileLoop (fun n s'=>∃σ' H',aF X pins σ' H' s'/\W n σ' H') ?_ m0 ⟨σ,H,I,w0⟩)
 rintro n s1 ⟨σ1,H1,I1,w1⟩
 refine wpAny_passesOwn hp (cp (hc pins s1 σ1 H1 _ I1 (turn n σ1 H1 w1)) fun b s2 z_=> ?_)
 obtain⟨H2,I2,q2⟩:=z_
 cases b with
 |true=>
  obtain⟨N,hN,q2⟩:=q2
  rw[if_pos rfl]
  refine wpAny_passesOwn hp (cp (hb pins s2 σ1 H2 _ I2 q2) fun f s3 q3=> ?_)
  cases f with
  |next=>
   obtain⟨σ3,H3,I3,n3⟩:=q3
   obtain⟨m',hm,w3⟩:=hN σ3 H3 n3
   exact⟨m',hm,σ3,H3,I3,w3⟩
  |cont=>
   obtain⟨σ3,H3,I3,n3⟩:=q3
   obtain⟨m',hm,w3⟩:=hN σ3 H3 n3
   exact⟨m',hm,σ3,H3,I3,w3⟩
  |brk=>exact q3
  |ret v=>exact q3
 |false=>
  rw[if_neg Bool.false_ne_true]
  exact wpAny_execs_nil ⟨σ1,H2,I2,q2⟩
end
structure It where
 go:Nat->Hp->Prop
 yld:Nat->Hp->V->Hp->Prop
 stop:Nat->Hp->Prop
def lD (X:Cx) (pins:List (Addr×Obj)) (H:Hp) (b:Addr):Prop:=
 H b=none/\b≠X.env.locals/\b∉X.fs/\(b∈X.ex\/X.s₀.heap.objs.size<=b)/\(∀x c,X.env.cells.lookup x=some c->c≠b)/\∀p∈X.pn++pins,p.1≠b
theorem aF.fpOk {X:Cx} {pins:List (Addr×Obj)} {σ:St} {H H':Hp} {s:Shared} {b:Addr} (I:aF X pins σ H s) (hb:s.heap.objs.size<=b) (hn:H' b=none):lD X pins H' b:=by
 refine⟨hn,Nat.ne_of_gt (Nat.lt_of_lt_of_le I.lt hb),I.nofs hb, .inr (Nat.le_trans I.sz hb),fun x c e z=> ?_,fun p hp z=> ?_⟩
 ·obtain⟨v,q⟩:=I.cell x c e
  exact absurd (Nat.lt_of_lt_of_le q.lt (by rw[z];exact hb)) (Nat.lt_irrefl _)
 ·exact absurd (Nat.lt_of_lt_of_le (Heap.lt_size (I.pin p hp).1) (by rw[z];exact hb)) (Nat.lt_irrefl _)
structure xg (P:Program) (w:World) (K:PySem.W.Frag) (tg:Expr) (J:It) (fp:List Addr) (it:Addr) (tn:Nat->Heap->Prop):Prop where
 mem:it∈fp
 obj:∀i h,tn i h->∀b∈fp,∃o,h.get? b=some o/\∀v,o.data≠ .cell v
 keep:∀i h h',tn i h->(∀b∈fp,∀o,h.get? b=some o->h'.get? b=some o)->tn i h'
 item:∀(X:Cx),X.prog=P->X.w=w->X.K=K->X.calm=true->∀(i:Nat) (pins:List (Addr×Obj)) (s:Shared) (σ:St) (H:Hp) (E:Value->Shared->Prop),aF X pins σ H s->(∀b∈fp,lD X pins H b)->tn i s.heap->J.go i H->
  wpAny (model P w) X.A (pyNext (.ref it)) (fun r s1=>∃u,r=some u/\
   wpAny (model P w) X.A (letOwnedTupleGo tg (.ref it) u) (fun _ s2=>∃x H',aF X pins σ H' s2/\bx x u/\J.yld i H x H'/\tn (i+1) s2.heap/\∀b∈fp,H' b=none) E s1) E s
 done:∀(X:Cx),X.prog=P->X.w=w->X.K=K->X.calm=true->∀(i:Nat) (pins:List (Addr×Obj)) (s:Shared) (σ:St) (H:Hp) (E:Value->Shared->Prop),aF X pins σ H s->(∀b∈fp,lD X pins H b)->tn i s.heap->J.stop i H->
  wpAny (model P w) X.A (pyNext (.ref it)) (fun r s1=>r=none/\aF X pins σ H s1) E s
 self:∀(A:Around) (i:Nat) (s:Shared) (Q:Value->Shared->Prop) (E:Value->Shared->Prop),tn i s.heap->Q (.ref it) s->wpAny (model P w) A (pyIter (.ref it)) Q E s
abbrev TI:=St->Hp->(It->Hp->Prop)->Prop
def I9 (X:Cx) (pins:List (Addr×Obj)) (σ:St) (tg:Expr) (R:It->Hp->Prop) (itv:Value) (s2:Shared):Prop:=
 ∃(it:Addr) (fp:List Addr) (tn:Nat->Heap->Prop) (J:It) (H':Hp),itv= .ref it/\aF X pins σ H' s2/\xg X.prog X.w X.K tg J fp it tn/\tn 0 s2.heap/\(∀b∈fp,lD X pins H' b)/\R J H'
def PI (X:Cx) (tg iter:Expr) (wi:TI):Prop:=
 ∀(pins:List (Addr×Obj)) (s:Shared) (σ:St) (H:Hp) (R:It->Hp->Prop),aF X pins σ H s->wi σ H R->
  wpAny (model X.prog X.w) X.A (eval iter X.env) (fun v s1=>wpAny (model X.prog X.w) X.A (pyIter v) (I9 X pins σ tg R) X.xe s1) X.xe s
theorem yL {M:Model} {A:Around} {E:Value->Shared->Prop} {s:Shared} {tg:Expr} {it:Addr} {u:Value} {o:Obj} {n:String} {vs:Array Value} {Q:Unit->Shared->Prop} (ho:s.heap.get? it=some o) (hc:o.cls= .type n) (hd:o.data= .fields vs)
  (hn:["enumerate","zip","dict_itemiterator","dict_reverseitemiterator","odict_iterator","itertools.zip_longest","itertools.pairwise"].contains n=false) (hQ:Q () s):wpAny M A (letOwnedTupleGo tg (.ref it) u) Q E s:=by
 unfold letOwnedTupleGo
 cases tg<;>first
  |exact wpAny_pure hQ
  |(cases u<;>first
    |exact wpAny_pure hQ
    |(refine wpAny_bind (wpAny_load ho ?_)
      rw[hc,hd]
      show wpAny M A (if (["enumerate","zip","dict_itemiterator","dict_reverseitemiterator","odict_iterator","itertools.zip_longest","itertools.pairwise"].contains n&&vs[0]? ==some (rawInt _))=true then _ else _) Q E s
      rw[if_neg (by intro h;rw[hn,Bool.false_and]at h;cases h)]
      exact wpAny_pure hQ))
def GW (K:PySem.W.Frag) (a:Addr):It:=
 ⟨fun i H=>∃xs x,eC K H a xs/\xs[i]? =some x,fun i H x H'=>H'=H/\∀xs,eC K H a xs->xs[i]? =some x,fun i H=>∃xs,eC K H a xs/\xs.length<=i⟩
def Hu (K:PySem.W.Frag) (a:Addr):It:=
 ⟨fun i H=>∃xs x,h_ K H a xs/\xs[i]? =some x,fun i H x H'=>H'=H/\∀xs,h_ K H a xs->xs[i]? =some x,fun i H=>∃xs,h_ K H a xs/\xs.length<=i⟩
def FN (lo:Int) (n:Nat):It:=⟨fun i _=>i<n,fun i H x H'=>H'=H/\x= .int (lo+i),fun i _=>n<=i⟩
theorem xh {P:Program} {w:World} {K:PySem.W.Frag} {tg:Expr} (a it:Addr):xg P w K tg (GW K a) [it] it (fun i h=>h.IsListIter it a i)where
 mem:=by simp
 obj:=fun i h st b hb=>by
  have e:b=it:=by simpa using hb
  subst e
  obtain⟨o,e,c,d⟩:=st
  exact⟨o,e,fun v z=>by rw[d]at z;cases z⟩
 keep:=fun i h h' st k=>st.at fun o e=>k it (by simp) o e
 item:=by
  intro X hP hw hK hc i pins s σ H E I hf st hg
  subst hP hw hK
  obtain⟨xs,x,hq,hx⟩:=hg
  obtain⟨its,rv,p,hz⟩:=I.list hq
  obtain⟨u,hu,ru⟩:=rv.get hx
  obtain⟨f0,f1,f2,f3,f4,f5⟩:=hf it (by simp)
  refine wpAny_pyNext_list_item st p.isList (x:=u) (by simpa using hu) fun h' st' sb=> ?_
  have I1:aF X pins σ H {s with heap:=h'}:=I.turned (t':=s.toks) (fun b o hb e=>(sb.2 b hb).trans e) f0 f1 f3 f4 f5
  obtain⟨o,e,c,d⟩:=id st'
  exact⟨u,rfl,yL (s:={s with heap:=h'}) e c d (by decide) ⟨x,H,I1,ru,⟨rfl,fun ys hy=>by rw[I.list_inj hy hq];exact hx⟩,st',fun b hb=>(hf b hb).1⟩⟩
 done:=by
  intro X hP hw hK hc i pins s σ H E I hf st hg
  subst hP hw hK
  obtain⟨xs,hq,hx⟩:=hg
  obtain⟨its,rv,p,hz⟩:=I.list hq
  obtain⟨f0,f1,f2,f3,f4,f5⟩:=hf it (by simp)
  have hl:=rv.length
  exact wpAny_pyNext_list_end (I.ok.hd hc) st p.isList (by simp;omega) fun h' eb=>⟨rfl,I.turned (t':=s.toks) (fun b o hb e=>eb b o hb e) f0 f1 f3 f4 f5⟩
 self:=fun _ _ _ _ _ st h=>wpAny_pyIter_listiter st h
theorem uv {P:Program} {w:World} {K:PySem.W.Frag} {tg:Expr} (a it:Addr):xg P w K tg (Hu K a) [it] it (fun i h=>h.IsTupleIter it a i)where
 mem:=by simp
 obj:=fun i h st b hb=>by
  have e:b=it:=by simpa using hb
  subst e
  obtain⟨o,e,c,d⟩:=st
  exact⟨o,e,fun v z=>by rw[d]at z;cases z⟩
 keep:=fun i h h' st k=>st.at fun o e=>k it (by simp) o e
 item:=by
  intro X hP hw hK hc i pins s σ H E I hf st hg
  subst hP hw hK
  obtain⟨xs,x,hq,hx⟩:=hg
  obtain⟨its,rv,p,hz⟩:=I.tuple hq
  obtain⟨u,hu,ru⟩:=rv.get hx
  obtain⟨f0,f1,f2,f3,f4,f5⟩:=hf it (by simp)
  refine wpAny_pyNext_tuple_item st (show s.heap.IsTuple a its.toArray from p) (x:=u) (by simpa using hu) fun h' st' sb=> ?_
  have I1:aF X pins σ H {s with heap:=h'}:=I.turned (t':=s.toks) (fun b o hb e=>(sb.2 b hb).trans e) f0 f1 f3 f4 f5
  obtain⟨o,e,c,d⟩:=id st'
  exact⟨u,rfl,yL (s:={s with heap:=h'}) e c d (by decide) ⟨x,H,I1,ru,⟨rfl,fun ys hy=>by rw[I.tuple_inj hy hq];exact hx⟩,st',fun b hb=>(hf b hb).1⟩⟩
 done:=by
  intro X hP hw hK hc i pins s σ H E I hf st hg
  subst hP hw hK
  obtain⟨xs,hq,hx⟩:=hg
  obtain⟨its,rv,p,hz⟩:=I.tuple hq
  obtain⟨f0,f1,f2,f3,f4,f5⟩:=hf it (by simp)
  have hl:=rv.length
  exact wpAny_pyNext_tuple_end (I.ok.hd hc) st (show s.heap.IsTuple a its.toArray from p) (by simp;omega) fun h' eb=>⟨rfl,I.turned (t':=s.toks) (fun b o hb e=>eb b o hb e) f0 f1 f3 f4 f5⟩
 self:=fun _ _ _ _ _ st h=>wpAny_pyIter_tupleiter st h
theorem uw {P:Program} {w:World} {K:PySem.W.Frag} {tg:Expr} (it:Addr) (lo:Int) (n:Nat):xg P w K tg (FN lo n) [it] it (fun i h=>IsRangeIter h it (lo+(i:Nat)*1) ((n:Int) - (i:Nat)) 1)where
 mem:=by simp
 obj:=fun i h st b hb=>by
  have e:b=it:=by simpa using hb
  subst e
  exact⟨_,st,fun v z=>by
   have z':Data.fields _=Data.cell v:=z
   cases z'⟩
 keep:=fun i h h' st k=>k it (by simp) _ st
 item:=by
  intro X hP hw hK hc i pins s σ H E I hf st hg
  subst hP hw hK
  obtain⟨f0,f1,f2,f3,f4,f5⟩:=hf it (by simp)
  have W:=Walks.range (prog:=X.prog) (w:=X.w) (I.ok.hd hc) it lo 1 n
  refine W.item i s _ _ hg st fun v h' tk hv st' kk=> ?_
  obtain⟨t,rfl⟩:=hv
  have I1:aF X pins σ H {s with heap:=h',toks:=tk}:=I.turned (fun b o hb e=>kk b o (by simpa using hb) e) f0 f1 f3 f4 f5
  refine⟨_,rfl,yL (s:={s with heap:=h',toks:=tk}) (n:="range_iterator") st' rfl rfl (by decide) ⟨.int (lo+i),H,I1,⟨t,?_⟩,⟨rfl,rfl⟩,st',fun b hb=>(hf b hb).1⟩⟩
  rw[Int.mul_one]
 done:=by
  intro X hP hw hK hc i pins s σ H E I hf st hg
  subst hP hw hK
  obtain⟨f0,f1,f2,f3,f4,f5⟩:=hf it (by simp)
  exact wpAny_pyNext_range_end (I.ok.hd hc) st (by have:n<=i:=hg;omega) fun h' eb=>⟨rfl,I.turned (t':=s.toks) (fun b o hb e=>eb b o hb e) f0 f1 f3 f4 f5⟩
 self:=fun _ _ _ _ _ st h=>wpAny_pyIter_rangeiter st h
end L2
namespace L2
open PySem PySem.Spec PyProof.Rows
section
variable {X:Cx} {tg:Expr}
def FO (K:PySem.W.Frag) (tl:TE):TI:=fun σ H R=>tl σ H fun x H1=>∃a,x= .ref a/\(∃xs,eC K H1 a xs)/\R (GW K a) H1
def Hv (K:PySem.W.Frag) (tl:TE):TI:=fun σ H R=>tl σ H fun x H1=>∃a,x= .ref a/\(∃xs,h_ K H1 a xs)/\R (Hu K a) H1
theorem rb {l:Expr} {tl:TE} (hl:PE X l tl):PI X tg l (FO X.K tl):=by
 intro pins s σ H R I h
 refine cp (hl pins s σ H _ I h) fun v s1 z_=> ?_
 obtain⟨x,H1,I1,r1,q1⟩:=z_
 obtain⟨a,e,⟨xs,hq⟩,q⟩:=q1
 subst e
 cases r1
 obtain⟨its,rv,p,hz⟩:=I1.list hq
 refine wpAny_pyIter_list p.isList ?_
 refine⟨s1.heap.objs.size,[s1.heap.objs.size],_,_,H1,rfl,I1.kept (t':=s1.toks) fun b o e=>Heap.get?_push_of_some _ e,xh a _,⟨_,Heap.get?_push_size _ rfl,rfl,rfl⟩,fun b hb=> ?_,q⟩
 have e:b=s1.heap.objs.size:=by simpa using hb
 subst e
 exact I1.fpOk (Nat.le_refl _) (I1.hok.fresh (Nat.le_refl _))
theorem E1 {l:Expr} {tl:TE} (hl:PE X l tl):PI X tg l (Hv X.K tl):=by
 intro pins s σ H R I h
 refine cp (hl pins s σ H _ I h) fun v s1 z_=> ?_
 obtain⟨x,H1,I1,r1,q1⟩:=z_
 obtain⟨a,e,⟨xs,hq⟩,q⟩:=q1
 subst e
 cases r1
 obtain⟨its,rv,p,hz⟩:=I1.tuple hq
 refine wpAny_pyIter_tuple (show s1.heap.IsTuple a its.toArray from p) ?_
 refine⟨s1.heap.objs.size,[s1.heap.objs.size],_,_,H1,rfl,I1.kept (t':=s1.toks) fun b o e=>Heap.get?_push_of_some _ e,uv a _,⟨_,Heap.get?_push_size _ rfl,rfl,rfl⟩,fun b hb=> ?_,q⟩
 have e:b=s1.heap.objs.size:=by simpa using hb
 subst e
 exact I1.fpOk (Nat.le_refl _) (I1.hok.fresh (Nat.le_refl _))
theorem sE {pins:List (Addr×Obj)} {σ:St} {H:Hp} {s:Shared} {R:It->Hp->Prop} {E:Value->Shared->Prop} {lo hi:Int} {t u v:Tok} {tk:Nat} (I:aF X pins σ H s) (h1: -(2 ^62)<=lo) (h2:lo<2 ^62) (h3: -(2 ^62)<=hi) (h4:hi<2 ^62)
  (q:R (FN lo (hi - lo).toNat) H):wpAny (model X.prog X.w) X.A (pyIter (.ref s.heap.objs.size)) (I9 X pins σ tg R) E {s with heap:=s.heap.push {cls:= .type "range",data:= .fields #[.int lo t, .int hi u, .int 1 v]},toks:=tk}:=by
 refine wpAny_pyIter_range (IsRange.new ..) (small_one h1 h2 h3 h4) ?_
 have I1:aF X pins σ H {s with heap:=s.heap.push {cls:= .type "range",data:= .fields #[.int lo t, .int hi u, .int 1 v]},toks:=tk}:=I.kept fun b o e=>Heap.get?_push_of_some _ e
 refine⟨(s.heap.push {cls:= .type "range",data:= .fields #[.int lo t, .int hi u, .int 1 v]}).objs.size,[(s.heap.push {cls:= .type "range",data:= .fields #[.int lo t, .int hi u, .int 1 v]}).objs.size],_,_,H,rfl,
  I1.kept (t':=tk) fun b o e=>Heap.get?_push_of_some _ e,uw _ lo (hi - lo).toNat,?_,fun b hb=> ?_,q⟩
 ·have e1:lo+((0:Nat):Int)*1=lo:=by simp
  have e2:(((hi - lo).toNat:Nat):Int) - ((0:Nat):Int)=Builtin.Range.rangeSize lo hi 1:=by rw[rangeSize_one];split<;>omega
  show IsRangeIter _ _ (lo+((0:Nat):Int)*1) ((((hi - lo).toNat:Nat):Int) - ((0:Nat):Int)) 1
  rw[e1,e2]
  exact Heap.get?_push_size _ rfl
 ·have e:b=(s.heap.push {cls:= .type "range",data:= .fields #[.int lo t, .int hi u, .int 1 v]}).objs.size:=by simpa using hb
  subst e
  exact I1.fpOk (Nat.le_refl _) (I1.hok.fresh (Nat.le_refl _))
def FP (ta:TA):TI:=fun σ H R=>ta σ H fun vs H1=>∃j:Int,vs=[.int j]/\ -(2 ^62)<=j/\j<2 ^62/\R (FN 0 j.toNat) H1
def FQ (ta:TA):TI:=fun σ H R=>ta σ H fun vs H1=>∃i j:Int,vs=[.int i, .int j]/\(-(2 ^62)<=i/\i<2 ^62/\ -(2 ^62)<=j/\j<2 ^62)/\R (FN i (j - i).toNat) H1
theorem xi {a:Expr} {ta:TA} {p pos:Pos} (hg:Gl X "range") (hm:X.mg "range"=none) (ha:PA X [a] ta) (hs:starEach [a] X.env=[(false,eval a X.env)]:=by rfl):PI X tg (.Call (.Name "range" p) [a] [] pos) (FP ta):=by
 intro pins s σ H R I h
 refine Call_ (jF I hg hm boot_range (PyProof.Rows.callWith_type1 (cp (ha pos pins s σ H _ I h) fun us s1 z_=> ?_) hs rfl))
 obtain⟨vs,H1,I1,r1,q1⟩:=z_
 obtain⟨j,e,q1,q2,q⟩:=q1
 subst e
 cases r1 with
 |cons r rr=>
  cases rr
  obtain⟨t,rfl⟩:=r
  exact call_range_1 (sE I1 (by omega) (by omega) q1 q2 (by simpa using q))
theorem xj {a b:Expr} {ta:TA} {p pos:Pos} (hg:Gl X "range") (hm:X.mg "range"=none) (ha:PA X [a,b] ta) (hs:starEach [a,b] X.env=[(false,eval a X.env),(false,eval b X.env)]:=by rfl) (hs2:starEach [b] X.env=[(false,eval b X.env)]:=by rfl):
  PI X tg (.Call (.Name "range" p) [a,b] [] pos) (FQ ta):=by
 intro pins s σ H R I h
 refine Call_ (jF I hg hm boot_range (PyProof.Rows.callWith_type1 (cp (ha pos pins s σ H _ I h) fun us s1 z_=> ?_) (by rw[hs,hs2]) (by rw[hs2];rfl)))
 obtain⟨vs,H1,I1,r1,q1⟩:=z_
 obtain⟨i,j,e,⟨q1,q2,q3,q4⟩,q⟩:=q1
 subst e
 cases r1 with
 |cons r rr=>
  cases rr with
  |cons r' rr=>
   cases rr
   obtain⟨t,rfl⟩:=r
   obtain⟨t',rfl⟩:=r'
   exact call_range_2 (sE I1 q1 q2 q3 q4 q)
def FR (wi:TI) (g:TG) (tb:TS):TS:=fun D σ H=>wi σ H fun J H1=>∃W:Nat->Nat->St->Hp->Prop,(∃m,W 0 m σ H1)/\∀i m σ H,W i m σ H->
 (J.stop i H/\D.nx σ H)\/(J.go i H/\∃N:St->Hp->Prop,(∀σ' H',N σ' H'->∃m',m'<m/\W (i+1) m' σ' H')/\∀x H',J.yld i H x H'->g x σ H' fun σ2 H2=>tb {D with nx:=N,ct:=N,bk:=D.nx} σ2 H2)
def o6 (fp:List Addr) (h:Heap):List (Addr×Obj):=fp.filterMap fun b=>(h.get? b).map fun o=>(b,o)
theorem jc {fp:List Addr} {h:Heap} {b:Addr} {o:Obj} (hb:b∈fp) (e:h.get? b=some o):(b,o)∈o6 fp h:=List.mem_filterMap.mpr ⟨b,hb,by rw[e];rfl⟩
theorem xk {fp:List Addr} {h:Heap} {p:Addr×Obj} (hp:p∈o6 fp h):p.1∈fp/\h.get? p.1=some p.2:=by
 obtain⟨b,hb,e⟩:=List.mem_filterMap.mp hp
 cases q:h.get? b with
 |none=>rw[q]at e;cases e
 |some o=>
  rw[q]at e
  have e':(b,o)=p:=Option.some.inj e
  subst e'
  exact⟨hb,q⟩
theorem aF.pinned {pins:List (Addr×Obj)} {σ:St} {H:Hp} {s:Shared} {fp:List Addr} (I:aF X pins σ H s) (hf:∀b∈fp,lD X pins H b) (ho:∀b∈fp,∃o,s.heap.get? b=some o/\∀v,o.data≠ .cell v):aF X (pins++o6 fp s.heap) σ H s:=
 I.pins_of fun p hp=>(List.mem_append.mp hp).elim (fun z=>I.pin p (List.mem_append_right _ z)) fun z=>by
  obtain⟨hb,e⟩:=xk z
  obtain⟨f0,f1,f2,_⟩:=hf p.1 hb
  obtain⟨o,e',d⟩:=ho p.1 hb
  rw[e]at e';cases e'
  exact⟨e,f0,f1,f2,d⟩
theorem aF.unpinned {pins pl:List (Addr×Obj)} {σ:St} {H:Hp} {s:Shared} (I:aF X (pins++pl) σ H s):aF X pins σ H s:=I.pins_of fun p hp=>I.pin p (List.mem_append_right _ (List.mem_append_left _ hp))
theorem E2 {iter:Expr} {body:List Stmt} {wi:TI} {g:TG} {tb:TS} {pos:Pos} (hp:PassesOwn (model X.prog X.w) X.A X.env X.xe) (hc:X.calm=true) (hi:PI X tg iter wi) (hg:PG X tg g) (hb:pQ X body tb)
  (hs:∀x,foldedSetIterable iter X.env x=pure x:=by intro _;rfl):PS X (.For tg iter body [] pos) (FR wi g tb):=by
 intro pins s σ H D I h
 refine wpAny_For (cp (hi pins s σ H _ I h) fun v s1 h1=>cp h1 fun itv s2 h2=> ?_) hs
 obtain⟨it,fp,tn,J,H2,e,I2,T,st2,f2,W,⟨m0,w0⟩,turn⟩:=h2
 subst e
 have stat:∀{H':Hp},(∀b∈fp,H' b=none)->∀b∈fp,lD X pins H' b:=fun hn b hb=>⟨hn b hb,(f2 b hb).2⟩
 refine codeAny_forLoop_any (fun n s'=>∃i σ' H',aF X pins σ' H' s'/\tn i s'.heap/\(∀b∈fp,H' b=none)/\W i n σ' H') ?_ m0 ⟨0,σ,H2,I2,st2,fun b hb=>(f2 b hb).1,w0⟩
 rintro n s3 ⟨i,σ3,H3,I3,st3,fr3,w3⟩
 rcases turn i n σ3 H3 w3 with ⟨stop,qn⟩|⟨go,N,hN,step⟩
 ·refine wpAny_passesOwn hp (cp (T.done X rfl rfl rfl hc i pins s3 σ3 H3 X.xe I3 (stat fr3) st3 stop) fun r s4 z_=> ?_)
  obtain⟨hr,I4⟩:=z_
  subst hr
  exact wpAny_execs_nil ⟨σ3,H3,I4,qn⟩
 ·refine wpAny_passesOwn hp (cp (T.item X rfl rfl rfl hc i pins s3 σ3 H3 X.xe I3 (stat fr3) st3 go) fun r s4 z_=> ?_)
  obtain⟨u,hr,h4⟩:=z_
  subst hr
  refine wpAny_passesOwn hp (cp h4 fun _ s5 z_=> ?_)
  obtain⟨x,H5,I5,r5,y5,st5,fr5⟩:=z_
  have I5':=I5.pinned (stat fr5) (T.obj _ _ st5)
  refine wpAny_passesOwn hp (cp (hg _ s5 σ3 H5 x u _ I5' r5 (step x H5 y5)) fun _ s6 z_=> ?_)
  obtain⟨σ6,H6,I6,q6⟩:=z_
  refine wpAny_passesOwn hp (cp (hb _ s6 σ6 H6 _ I6 q6) fun f s7 q7=> ?_)
  have again:∀{σ7:St} {H7:Hp},aF X (pins++o6 fp s5.heap) σ7 H7 s7->N σ7 H7->∃m,m<n/\∃i σ' H',aF X pins σ' H' s7/\tn i s7.heap/\(∀b∈fp,H' b=none)/\W i m σ' H':=fun {σ7 H7} I7 n7=>by
   obtain⟨m',hm,w7⟩:=hN σ7 H7 n7
   refine⟨m',hm,i+1,σ7,H7,I7.unpinned,T.keep _ _ _ st5 fun b hb o e=>(I7.pin (b,o) (List.mem_append_right _ (List.mem_append_right _ (jc hb e)))).1,fun b hb=> ?_,w7⟩
   obtain⟨o,e,d⟩:=T.obj _ _ st5 b hb
   exact(I7.pin (b,o) (List.mem_append_right _ (List.mem_append_right _ (jc hb e)))).2.1
  cases f with
  |next=>obtain⟨σ7,H7,I7,n7⟩:=q7;exact again I7 n7
  |cont=>obtain⟨σ7,H7,I7,n7⟩:=q7;exact again I7 n7
  |brk=>obtain⟨σ7,H7,I7,q7⟩:=q7;exact⟨σ7,H7,I7.unpinned,q7⟩
  |ret v=>obtain⟨x7,σ7,H7,I7,r7,q7⟩:=q7;exact⟨x7,σ7,H7,I7.unpinned,r7,q7⟩
end
end L2
namespace L2
open PySem PySem.Spec PyProof.Rows
abbrev R2:=V->V->Hp->VK->Prop
def kh (X:Cx) (f:Value->Value->Sem Value) (r:R2):Prop:=
 ∀(pins:List (Addr×Obj)) (s:Shared) (σ:St) (H:Hp) (x y:V) (v u:Value) (Q:VK),aF X pins σ H s->bx x v->bx y u->r x y H Q->
  wpAny (model X.prog X.w) X.A (f v u) (EP X pins σ Q) X.xe s
def GX (X:Cx) (f:Value->Sem Value) (r:V->Hp->VK->Prop):Prop:=
 ∀(pins:List (Addr×Obj)) (s:Shared) (σ:St) (H:Hp) (x:V) (v:Value) (Q:VK),aF X pins σ H s->bx x v->r x H Q->
  wpAny (model X.prog X.w) X.A (f v) (EP X pins σ Q) X.xe s
def cT (X:Cx) (f:Value) (r:List V->Hp->VK->Prop):Prop:=
 ∀(pins:List (Addr×Obj)) (s:Shared) (σ:St) (H:Hp) (xs:List V) (us:List Value) (Q:VK),aF X pins σ H s->aS xs us->r xs H Q->
  wpAny (model X.prog X.w) X.A (call f us) (EP X pins σ Q) X.xe s
def Hw (X:Cx) (r:V->Hp->(Bool->Hp->Prop)->Prop):Prop:=
 ∀(pins:List (Addr×Obj)) (s:Shared) (σ:St) (H:Hp) (x:V) (v:Value) (Q:Bool->Hp->Prop),aF X pins σ H s->bx x v->r x H Q->
  wpAny (model X.prog X.w) X.A (truthy v) (TP X pins σ Q) X.xe s
def GY (r:R2) (ta tb:TE):TE:=fun σ H Q=>ta σ H fun x H1=>tb σ H1 fun y H2=>r x y H2 Q
def Iv (r:V->Hp->VK->Prop) (ta:TE):TE:=fun σ H Q=>ta σ H fun x H1=>r x H1 Q
def rI (C:Int->Int->Prop) (g:Int->Int->V):R2:=fun x y H Q=>∃i j,x= .int i/\y= .int j/\C i j/\Q (g i j) H
def yM (g:Int->Int->V):R2:=fun x y H Q=>∃i j,x= .int i/\y= .int j/\Q (g i j) H
def rU (g:Int->V):V->Hp->VK->Prop:=fun x H Q=>∃i,x= .int i/\Q (g i) H
section
variable {X:Cx} {a b c:Expr} {ta tb tc:TE} {pos:Pos}
theorem E3 (ha:PE X a ta) (hb:PE X b tb) {pins:List (Addr×Obj)} {s:Shared} {σ:St} {H:Hp} {R:V->V->Hp->Prop} (I:aF X pins σ H s)
  (h:ta σ H fun x H1=>tb σ H1 fun y H2=>R x y H2) {Q:Value->Shared->Prop} {f:Value->Value->Sem Value}
  (hf:∀v u s2 x y H2,aF X pins σ H2 s2->bx x v->bx y u->R x y H2->wpAny (model X.prog X.w) X.A (f v u) Q X.xe s2):
  wpAny (model X.prog X.w) X.A (eval a X.env) (fun v s₁=>wpAny (model X.prog X.w) X.A (eval b X.env) (fun u s₂=>wpAny (model X.prog X.w) X.A (f v u) Q X.xe s₂) X.xe s₁) X.xe s:=by
 refine cp (ha pins s σ H _ I h) fun v s1 z_=> ?_
 obtain⟨x,H1,I1,r1,q1⟩:=z_
 refine cp (hb pins s1 σ H1 _ I1 q1) fun u s2 z_=> ?_
 obtain⟨y,H2,I2,r2,q2⟩:=z_
 exact hf v u s2 x y H2 I2 r1 r2 q2
theorem De {op:Operator} {r:R2} (ho:kh X (binaryOp op) r) (ha:PE X a ta) (hb:PE X b tb):PE X (.BinOp a op b pos) (GY r ta tb):=by
 intro pins s σ H Q I h
 exact wpAny_BinOp (E3 ha hb I h fun v u s2 x y H2 I2 rx ry q=>ho pins s2 σ H2 x y v u Q I2 rx ry q)
theorem Df {op:UnaryOp} {r:V->Hp->VK->Prop} (ho:GX X (unaryOp op) r) (ha:PE X a ta):PE X (.UnaryOp op a pos) (Iv r ta):=by
 intro pins s σ H Q I h
 exact UnaryOp_ (cp (ha pins s σ H _ I h) fun v s1 ⟨x,H1,I1,r1,q1⟩=>ho pins s1 σ H1 x v Q I1 r1 q1)
theorem Hx {f:Value->Value->Sem Value} {C:Int->Int->Prop} {g:Int->Int->Int}
  (rule:∀(i j:Int) (t u:Tok) (s:Shared) (Q:Value->Shared->Prop) (E:Value->Shared->Prop),C i j->Q (.int (g i j) s.toks) {s with toks:=s.toks+1}->wpAny (model X.prog X.w) X.A (f (.int i t) (.int j u)) Q E s):
  kh X f (rI C fun i j=> .int (g i j)):=by
 intro pins s σ H x y v u Q I rx ry h
 obtain⟨i,j,rfl,rfl,hc,q⟩:=h
 obtain⟨t,rfl⟩:=rx
 obtain⟨t',rfl⟩:=ry
 exact rule i j t t' s _ _ hc ⟨.int (g i j),H,I.tok _,⟨_,rfl⟩,q⟩
theorem FT {f:Value->Value->Sem Value} {g:Int->Int->Int}
  (rule:∀(i j:Int) (t u:Tok) (s:Shared) (Q:Value->Shared->Prop) (E:Value->Shared->Prop),Q (.int (g i j) s.toks) {s with toks:=s.toks+1}->wpAny (model X.prog X.w) X.A (f (.int i t) (.int j u)) Q E s):
  kh X f (yM fun i j=> .int (g i j)):=by
 intro pins s σ H x y v u Q I rx ry h
 obtain⟨i,j,rfl,rfl,q⟩:=h
 obtain⟨t,rfl⟩:=rx
 obtain⟨t',rfl⟩:=ry
 exact rule i j t t' s _ _ ⟨.int (g i j),H,I.tok _,⟨_,rfl⟩,q⟩
theorem FU {f:Value->Value->Sem Value} {g:Int->Int->Bool}
  (rule:∀(i j:Int) (t u:Tok) (s:Shared) (Q:Value->Shared->Prop) (E:Value->Shared->Prop),Q (.bool (g i j)) s->wpAny (model X.prog X.w) X.A (f (.int i t) (.int j u)) Q E s):
  kh X f (yM fun i j=> .bl (g i j)):=by
 intro pins s σ H x y v u Q I rx ry h
 obtain⟨i,j,rfl,rfl,q⟩:=h
 obtain⟨t,rfl⟩:=rx
 obtain⟨t',rfl⟩:=ry
 exact rule i j t t' s _ _ ⟨.bl (g i j),H,I,rfl,q⟩
def Bw (i j:Int):Prop:=0<j/\j<1073741824
def FV (i j:Int):Prop:=0<=j/\j<=1000000/\i.natAbs<2 ^64
def xl (i j:Int):Prop:=(-(2 ^64)<i/\i<2 ^64)\/(-(2 ^64)<j/\j<2 ^64)
theorem xl.ok {i j:Int} (h:xl i j):IntMulOk i j:=by
 rcases h with ⟨h1,h2⟩|⟨h1,h2⟩
 ·exact .of_left (intBits_le_64 h1 h2)
 ·exact .of_right (intBits_le_64 h1 h2)
theorem E4:kh X (binaryOp .Add) (yM fun i j=> .int (i+j)):=FT fun _ _ _ _ _ _ _ q=>add_int q
theorem eD:kh X (binaryOp .Sub) (yM fun i j=> .int (i - j)):=FT fun _ _ _ _ _ _ _ q=>sub_int q
theorem E5:kh X (binaryOp .Mult) (rI xl fun i j=> .int (i*j)):=Hx fun _ _ _ _ _ _ _ hc q=>mul_int q hc.ok
theorem dX:kh X (binaryOp .FloorDiv) (rI Bw fun i j=> .int (i / j)):=Hx fun i j _ _ _ _ _ hc q=>by
 have h1:(0:Int)<j:=hc.1
 have h2:j<1073741824:=hc.2
 exact floordiv_int (by omega) (by rw[Int.fdiv_eq_ediv_of_nonneg i (by omega)];exact q) (.inl (PyProof.noPylong_small (by omega)))
theorem cw:kh X (binaryOp .Mod) (rI (fun _ j=>0<j) fun i j=> .int (i%j)):=Hx fun i j _ _ _ _ _ hc q=>by
 have h1:(0:Int)<j:=hc
 exact mod_int' (by omega) (by rw[Int.fmod_eq_emod_of_nonneg i (by omega)];exact q)
theorem Iw {f:Value->Sem Value} {g:Int->Int}
  (rule:∀(i:Int) (t:Tok) (s:Shared) (Q:Value->Shared->Prop) (E:Value->Shared->Prop),Q (.int (g i) s.toks) {s with toks:=s.toks+1}->wpAny (model X.prog X.w) X.A (f (.int i t)) Q E s):
  GX X f (rU fun i=> .int (g i)):=by
 intro pins s σ H x v Q I rx h
 obtain⟨i,rfl,q⟩:=h
 obtain⟨t,rfl⟩:=rx
 exact rule i t s _ _ ⟨.int (g i),H,I.tok _,⟨_,rfl⟩,q⟩
theorem o7:GX X (unaryOp .USub) (rU fun i=> .int (-i)):=Iw fun _ _ _ _ _ q=>neg_int q
end
def E6:V->V->Bool
 | .non, .non=>true| .non, .int _=>true| .int _, .non=>true| .non, .bl _=>true| .bl _, .non=>true| .non, .str _=>true| .str _, .non=>true
 | .int _, .int _=>true| .bl _, .bl _=>true| .str _, .str _=>true| .byt _, .byt _=>true
 | .int _, .str _=>true| .str _, .int _=>true| .bl _, .str _=>true| .str _, .bl _=>true
 |_,_=>false
def GZ:R2:=fun x y H Q=>E6 x y=true/\Q (.bl (decide (x=y))) H
def Ia:R2:=fun x y H Q=>E6 x y=true/\Q (.bl (!decide (x=y))) H
theorem vN {i j:Int}:decide (V.int i=V.int j)=(i==j):=by
 rw[Bool.eq_iff_iff]
 simp
theorem yN {i j:Bool}:decide (V.bl i=V.bl j)=(i==j):=by
 rw[Bool.eq_iff_iff]
 simp
theorem vO {i j:Str}:decide (V.str i=V.str j)=(i==j):=by
 rw[Bool.eq_iff_iff]
 simp
theorem vP {i j:Array UInt8}:decide (V.byt i=V.byt j)=(i.toList==j.toList):=by
 rw[Bool.eq_iff_iff]
 cases i
 cases j
 simp
section
variable {X:Cx} {a b c:Expr} {ta tb tc:TE} {pos:Pos}
theorem bR {pins:List (Addr×Obj)} {σ:St} {H:Hp} {s:Shared} {Q:VK} {k k':Bool} (I:aF X pins σ H s) (q:Q (.bl k) H) (e:k=k'):EP X pins σ Q (.bool k') s:=by
 subst e
 exact⟨.bl k,H,I,rfl,q⟩
theorem eK:kh X (compareOp .Eq) GZ:=by
 intro pins s σ H x y v u Q I rx ry h
 obtain⟨hs,q⟩:=h
 cases x with
 |non=>
  cases rx
  cases y with
  |non=>cases ry;exact PySem.EqNone.eq_none_none (bR I q (by simp))
  |bl j=>cases ry;exact PySem.EqNone.eq_none_bool (bR I q (by simp))
  |int j=>obtain⟨t',rfl⟩:=ry;exact PySem.EqNone.eq_none_int (bR I q (by simp))
  |str j=>obtain⟨t',rfl⟩:=ry;exact PySem.EqNone.eq_none_str (bR I q (by simp))
  |_=>exact absurd (show false=true from hs) Bool.false_ne_true
 |bl i=>
  cases rx
  cases y with
  |non=>cases ry;exact PySem.EqNone.eq_bool_none (bR I q (by simp))
  |bl j=>cases ry;exact eq_bool (bR I q yN)
  |str j=>obtain⟨t',rfl⟩:=ry;exact PySem.EqMixed.eq_bool_str (bR I q (by simp))
  |_=>exact absurd (show false=true from hs) Bool.false_ne_true
 |int i=>
  obtain⟨t,rfl⟩:=rx
  cases y with
  |non=>cases ry;exact PySem.EqNone.eq_int_none (bR I q (by simp))
  |int j=>obtain⟨t',rfl⟩:=ry;exact eq_int (bR I q vN)
  |str j=>obtain⟨t',rfl⟩:=ry;exact PySem.EqMixed.eq_int_str (bR I q (by simp))
  |_=>exact absurd (show false=true from hs) Bool.false_ne_true
 |str i=>
  obtain⟨t,rfl⟩:=rx
  cases y with
  |non=>cases ry;exact PySem.EqNone.eq_str_none (bR I q (by simp))
  |bl j=>cases ry;exact PySem.EqMixed.eq_str_bool (bR I q (by simp))
  |int j=>obtain⟨t',rfl⟩:=ry;exact PySem.EqMixed.eq_str_int (bR I q (by simp))
  |str j=>obtain⟨t',rfl⟩:=ry;exact eq_str (bR I q vO)
  |_=>exact absurd (show false=true from hs) Bool.false_ne_true
 |byt i=>
  obtain⟨t,rfl⟩:=rx
  cases y with
  |byt j=>obtain⟨t',rfl⟩:=ry;exact PySem.W.eq_bytes (bR I q vP)
  |_=>exact absurd (show false=true from hs) Bool.false_ne_true
 |_=>cases y<;>exact absurd (show false=true from hs) Bool.false_ne_true
theorem lE:kh X (compareOp .NotEq) Ia:=by
 intro pins s σ H x y v u Q I rx ry h
 obtain⟨hs,q⟩:=h
 cases x with
 |non=>
  cases rx
  cases y with
  |non=>cases ry;exact PySem.EqNone.ne_none_none (bR I q (by simp))
  |bl j=>cases ry;exact PySem.EqNone.ne_none_bool (bR I q (by simp))
  |int j=>obtain⟨t',rfl⟩:=ry;exact PySem.EqNone.ne_none_int (bR I q (by simp))
  |str j=>obtain⟨t',rfl⟩:=ry;exact PySem.EqNone.ne_none_str (bR I q (by simp))
  |_=>exact absurd (show false=true from hs) Bool.false_ne_true
 |bl i=>
  cases rx
  cases y with
  |non=>cases ry;exact PySem.EqNone.ne_bool_none (bR I q (by simp))
  |bl j=>cases ry;exact ne_bool (bR I q (congrArg not yN))
  |str j=>obtain⟨t',rfl⟩:=ry;exact PySem.EqMixed.ne_bool_str (bR I q (by simp))
  |_=>exact absurd (show false=true from hs) Bool.false_ne_true
 |int i=>
  obtain⟨t,rfl⟩:=rx
  cases y with
  |non=>cases ry;exact PySem.EqNone.ne_int_none (bR I q (by simp))
  |int j=>obtain⟨t',rfl⟩:=ry;exact ne_int (bR I q (congrArg not vN))
  |str j=>obtain⟨t',rfl⟩:=ry;exact PySem.EqMixed.ne_int_str (bR I q (by simp))
  |_=>exact absurd (show false=true from hs) Bool.false_ne_true
 |str i=>
  obtain⟨t,rfl⟩:=rx
  cases y with
  |non=>cases ry;exact PySem.EqNone.ne_str_none (bR I q (by simp))
  |bl j=>cases ry;exact PySem.EqMixed.ne_str_bool (bR I q (by simp))
  |int j=>obtain⟨t',rfl⟩:=ry;exact PySem.EqMixed.ne_str_int (bR I q (by simp))
  |str j=>obtain⟨t',rfl⟩:=ry;exact ne_str (bR I q (congrArg not vO))
  |_=>exact absurd (show false=true from hs) Bool.false_ne_true
 |byt i=>
  obtain⟨t,rfl⟩:=rx
  cases y with
  |byt j=>obtain⟨t',rfl⟩:=ry;exact PySem.W.ne_bytes (bR I q (congrArg not vP))
  |_=>exact absurd (show false=true from hs) Bool.false_ne_true
 |_=>cases y<;>exact absurd (show false=true from hs) Bool.false_ne_true
theorem yO:kh X (compareOp .Lt) (yM fun i j=> .bl (decide (i<j))):=FU fun _ _ _ _ _ _ _ q=>lt_int q
theorem sG:kh X (compareOp .Gt) (yM fun i j=> .bl (decide (j<i))):=FU fun _ _ _ _ _ _ _ q=>gt_int q
theorem kh.or {f:Value->Value->Sem Value} {r r':R2} (h:kh X f r) (h':kh X f r'):kh X f (fun x y H Q=>r x y H Q\/r' x y H Q):=by
 intro pins s σ H x y v u Q I rx ry q
 rcases q with q|q
 ·exact h pins s σ H x y v u Q I rx ry q
 ·exact h' pins s σ H x y v u Q I rx ry q
theorem yP (b:Expr) {op:CmpOp} (h:op≠ .In:=by decide) (h2:op≠ .NotIn:=by decide):behindInMarks op b=false:=by
 have e1:(op==CmpOp.In)=false:=by cases op<;>first|rfl|exact absurd rfl h
 have e2:(op==CmpOp.NotIn)=false:=by cases op<;>first|rfl|exact absurd rfl h2
 cases b<;>simp[behindInMarks,e1,e2]
theorem Bx {op:CmpOp} {r:R2} (ho:kh X (compareOp op) r) (ha:PE X a ta) (hb:PE X b tb) (hm:behindInMarks op b=false):PE X (.Compare a [op] [b] pos) (GY r ta tb):=by
 intro pins s σ H Q I h
 exact wpAny_Compare1 (E3 ha hb I h fun v u s2 x y H2 I2 rx ry q=>ho pins s2 σ H2 x y v u Q I2 rx ry q) hm
def Dg (t:TE):TT:=fun σ H Q=>t σ H fun x H'=>∃k,x= .bl k/\Q k H'
theorem By {op:CmpOp} {r:R2} (ho:kh X (compareOp op) r) (ha:PE X a ta) (hb:PE X b tb) (hm:behindInMarks op b=false):PT X (.Compare a [op] [b] pos) (Dg (GY r ta tb)):=by
 intro pins s σ H Q I h
 refine wpAny_isTrue_Compare1 (cp (ha pins s σ H _ I h) fun v s1 ⟨x,H1,I1,r1,q1⟩=>cp (hb pins s1 σ H1 _ I1 q1) fun u s2 ⟨y,H2,I2,r2,q2⟩=>
  cp (ho pins s2 σ H2 x y v u _ I2 r1 r2 q2) fun c s3 ⟨z,H3,I3,r3,k,e,q3⟩=> ?_) hm
 subst e
 cases r3
 exact wpAny_truthy_bool ⟨H3,I3,q3⟩
def FW (K:PySem.W.Frag) (x:V) (H:Hp) (k:Bool):Prop:=
 match x with
 | .non=>k=false
 | .bl b=>k=b
 | .int i=>k=(i != 0)
 | .str y=>y.length<=sizeLine/\k=((y.length:Int) != 0)
 | .byt y=>y.size<=sizeLine/\k=((y.size:Int) != 0)
 | .ref p=>(∃xs,eC K H p xs/\k= !xs.isEmpty)\/(∃xs,h_ K H p xs/\k= !xs.isEmpty)\/∃kvs,H p=some (.dK kvs)/\k= !kvs.isEmpty
 |_=>False
theorem ux {κ:Type} {kvs:List (κ×V)} {vs:List (κ×Value)} (r:KV kvs vs):(!vs.isEmpty)= !kvs.isEmpty:=by
 cases r<;>rfl
theorem o8 {xs:List V} {its:List Value} (r:aS xs its):(!its.toArray.isEmpty)= !xs.isEmpty:=by
 cases r<;>simp
theorem mB:(sizeLine:Nat)<2 ^63:=by rw[sizeLine_eq];decide
theorem E7:Hw X (fun x H Q=>∃k,FW X.K x H k/\Q k H):=by
 intro pins s σ H x v Q I rx h
 obtain⟨k,e,q⟩:=h
 have hl:=mB
 have hs:sizeLine=16777216:=sizeLine_eq
 cases x with
 |non=>
  cases rx
  have e':k=false:=e
  subst e'
  exact truthy_none ⟨H,I,q⟩
 |bl b=>
  cases rx
  have e':k=b:=e
  subst e'
  exact wpAny_truthy_bool ⟨H,I,q⟩
 |int i=>
  obtain⟨t,rfl⟩:=rx
  have e':k=(i != 0):=e
  subst e'
  exact PySem.P.truthy_int ⟨H,I,q⟩
 |str y=>
  obtain⟨t,rfl⟩:=rx
  obtain⟨hy,e'⟩:y.length<=sizeLine/\k=((y.length:Int) != 0):=e
  subst e'
  exact PySem.P.truthy_str (by omega) ⟨H,I.tok _,q⟩
 |byt y=>
  obtain⟨t,rfl⟩:=rx
  obtain⟨hy,e'⟩:y.size<=sizeLine/\k=((y.size:Int) != 0):=e
  subst e'
  exact PySem.W.truthy_bytes (by omega) ⟨H,I.tok _,q⟩
 |ref p=>
  cases rx
  have e':(∃xs,eC X.K H p xs/\k= !xs.isEmpty)\/(∃xs,h_ X.K H p xs/\k= !xs.isEmpty)\/∃kvs,H p=some (.dK kvs)/\k= !kvs.isEmpty:=e
  rcases e' with ⟨xs,hx,e'⟩|⟨xs,hx,e'⟩|⟨kvs,hx,e'⟩
  ·subst e'
   obtain⟨its,r,pl,hz⟩:=I.list hx
   have hlen:=r.length
   exact wpAny_truthy_list pl.isList (by simp only[List.size_toArray];omega) ⟨H,I.tok _,by rw[o8 r];exact q⟩
  ·subst e'
   obtain⟨its,r,pl,hz⟩:=I.tuple hx
   have hlen:=r.length
   exact truthy_tuple pl (by simp only[List.size_toArray];omega) ⟨H,I.tok _,by rw[o8 r];exact q⟩
  ·subst e'
   obtain⟨hz,hS,vs,r,m⟩:kvs.length<=sizeLine/\(p==sysModules)=false/\∃vs,KV kvs vs/\s.heap.DictOf (bg X.prog X.w) p vs:=I.hok p _ hx
   have hlen:kvs.length=vs.length:=Paired.length r
   exact wpAny_truthy_dict hS m (by omega) ⟨H,I.tok _,by rw[ux r];exact q⟩
 |_=>exact(show False from e).elim
theorem yQ (ha:PE X a ta) (he:∀whole,isTrue a X.env whole=(do let v<-whole;standAt a.pos;holding [v] (truthy v))):
  PT X a (fun σ H Q=>ta σ H fun x H'=>∃k,FW X.K x H' k/\Q k H'):=by
 intro pins s σ H Q I h
 exact isTrue_plain (cp (ha pins s σ H _ I h) fun v s1 ⟨x,H1,I1,r1,q1⟩=>E7 pins s1 σ H1 x v Q I1 r1 q1) (he _)
theorem iR {x:V} {us:List Value} (r:aS [x] us):∃u,us=[u]/\bx x u:=by
 cases r with
 |cons r1 r2=>cases r2;exact⟨_,rfl,r1⟩
theorem sH {x y:V} {us:List Value} (r:aS [x,y] us):∃u w',us=[u,w']/\bx x u/\bx y w':=by
 cases r with
 |cons r1 r2=>
  cases r2 with
  |cons r3 r4=>cases r4;exact⟨_,_,rfl,r1,r3⟩
theorem qg (hc:X.calm=true):cT X (.builtin "max") (fun xs H Q=>∃i j,xs=[.int i, .int j]/\Q (.int (if j>i then j else i)) H):=by
 intro pins s σ H xs us Q I r h
 obtain⟨i,j,rfl,q⟩:=h
 obtain⟨u,w',rfl,⟨t,rfl⟩,⟨t',rfl⟩⟩:=sH r
 refine max_two_ints (I.ok.hd hc) fun h' tk k=>⟨_,H,I.kept k,?_,q⟩
 by_cases hj:j>i
 ·rw[if_pos hj,if_pos hj];exact⟨_,rfl⟩
 ·rw[if_neg hj,if_neg hj];exact⟨_,rfl⟩
theorem qh (hc:X.calm=true):cT X (.builtin "min") (fun xs H Q=>∃i j,xs=[.int i, .int j]/\Q (.int (if j<i then j else i)) H):=by
 intro pins s σ H xs us Q I r h
 obtain⟨i,j,rfl,q⟩:=h
 obtain⟨u,w',rfl,⟨t,rfl⟩,⟨t',rfl⟩⟩:=sH r
 refine min_two_ints (I.ok.hd hc) fun h' tk k=>⟨_,H,I.kept k,?_,q⟩
 by_cases hj:j<i
 ·rw[if_pos hj,if_pos hj];exact⟨_,rfl⟩
 ·rw[if_neg hj,if_neg hj];exact⟨_,rfl⟩
theorem xm:cT X (.type "int") (fun xs H Q=>(∃i,xs=[.int i]/\Q (.int i) H)\/∃k,xs=[.bl k]/\Q (.int (if k then 1 else 0)) H):=by
 intro pins s σ H xs us Q I r h
 rcases h with ⟨i,rfl,q⟩|⟨k,rfl,q⟩
 ·obtain⟨u,rfl,t,rfl⟩:=iR r
  exact call_int_int ⟨.int i,H,I,⟨_,rfl⟩,q⟩
 ·obtain⟨u,rfl,r1⟩:=iR r
  cases r1
  exact call_int_bool ⟨.int (if k then 1 else 0),H,I.tok _,⟨_,rfl⟩,q⟩
end
end L2
namespace L2
open PySem PySem.Spec PyProof.Rows
structure uy (h:Heap) (x dx C:Addr) (mA:Str->Option Value):Prop where
 obj:h.get? x=some (PySem.W.instObj C dx)
 ns:h.Ns1 dx mA
 ne:dx≠x
theorem xn {h:Heap} {dx:Addr} {mA:Str->Option Value} (n:h.Ns1 dx mA):∃od,h.get? dx=some od/\∀name,PySem.W.lookIn name od=some (mA name):=by
 obtain⟨o,es,ep,ho,hd,hk,_,hm⟩:=n
 refine⟨o,ho,fun name=> ?_⟩
 have e:=hm name
 unfold nsFind findBy at e
 rw[<-Array.find?_toList]at e
 unfold PySem.W.lookIn
 rw[hd]
 dsimp only
 split
 ·rename_i y q
  rw[q]at e
  exact congrArg some e
 ·rename_i q
  rw[q]at e
  have a:es.toList.any (·.refKey)=false:=by
   rw[List.any_eq_false]
   intro y hy
   obtain⟨z,t,hkey⟩:=hk y (Array.mem_toList_iff.mp hy)
   simp[DictEntry.refKey,hkey]
  have a':¬es.toList.any (·.refKey)=true:=by rw[a];exact Bool.false_ne_true
  rw[if_neg a']
  exact congrArg some e
theorem uy.look {h:Heap} {x dx C:Addr} {mA:Str->Option Value} (I:uy h x dx C mA):∃od,PySem.W.InstAt h x (PySem.W.instObj C dx) C (some od)/\∀name,PySem.W.lookIn name od=some (mA name):=
 let ⟨od,ho,hl⟩:=xn I.ns
 ⟨od,⟨I.obj,rfl,rfl,ho⟩,hl⟩
section
variable {prog:Program} {w:World} {A:Around} {E:Value->Shared->Prop} {s:Shared} {K:PySem.W.Frag} {x dx C f:Addr} {mA:Str->Option Value} {name:Str} {v:Value}
theorem Bz {expr:Bool} {Q:Value->Shared->Prop} (X:K.In s.heap) (I:uy s.heap x dx C mA) (hg:PySem.W.plainGet K C name=true) (hh:PySem.W.hasDictIn K C=true)
  (ha:PySem.W.findIn K (.ref C) name=some none) (hv:mA name=some v) (hv':PySem.W.handedIn v=true) (h:Q v {s with toks:=s.toks+1}):
  wpAny (model prog w) A (getAttr (.ref x) name expr) Q E s:=by
 obtain⟨od,J,hl⟩:=I.look
 exact PySem.W.get_value X J (PySem.W.plainGet_of hg).1 (PySem.W.findObj_own hh ha rfl (by rw[hl,hv])) hv' h
theorem yR {pl:Sem Bool} {Q:Value×List Value->Shared->Prop} (X:K.In s.heap) (I:uy s.heap x dx C mA) (hg:PySem.W.plainGet K C name=true)
  (hf:PySem.W.findIn K (.ref C) name=some (some (.ref f))) (ht:PySem.W.isFn K (.ref f)=true) (hv:mA name=none) (h:Q (.ref f,[.ref x]) s):
  wpAny (model prog w) A (getMethod (.ref x) name pl) Q E s:=by
 obtain⟨od,J,hl⟩:=I.look
 exact PySem.W.method_fn X J (PySem.W.plainGet_of hg).1 (PySem.W.plainGet_of hg).2 hf (beq_iff_eq.mp ht) (by show (PySem.W.lookIn name od).map (·.isSome)=some false;rw[hl,hv];rfl) h
theorem BA {ns:List Str} {Q:Unit->Shared->Prop} (X:K.In s.heap) (I:uy s.heap x dx C mA)
  (hs:PySem.W.findIn K (.ref C) "__setattr__"=some (some (.builtin "object.__setattr__"))) (hp:PySem.W.plainOver K C=true) (ht:PySem.W.takerIn K C name=some none) (hh:PySem.W.hasDictIn K C=true)
  (hw:PySem.Within mA ns) (hsz:ns.length<=sizeLine)
  (h:∀h',uy h' x dx C (fun y=>if y=name then some v else mA y)->Heap.SameBut dx s.heap h'->Q () {s with heap:=h',toks:=s.toks+2}):
  wpAny (model prog w) A (setAttr (.ref x) name v) Q E s:=by
 obtain⟨od,J,hl⟩:=I.look
 refine PySem.W.set_plain X J hs (PySem.W.osa_open (s:={s with toks:=s.toks+1}) (r:=none) X J hp ht fun b=> ?_)
 obtain⟨cd,hc,hd'⟩:=PySem.W.any_some hh
 have hx:s.heap.get? x=some ⟨.ref C,some dx, .plain,#[]⟩:=I.obj
 refine wpAny_bind (wpAny_pure (wpAny_bind (wpAny_bind (wpAny_loadPart hx (wpAny_bind (PySem.W.Looks.here (s:={s with toks:=s.toks+1}) (PySem.W.looks_clsIn X hc) ?_))))))
 rw[hd']
 refine wpAny_pure (a:=some dx) (wpAny_bind (wpAny_pure (wpAny_bind ?_)))
 refine wpAny_nsSet1 (s:={s with toks:=s.toks+1}) I.ns fun h' hn2 hs2=> ?_
 obtain⟨oD,esD,epD,hoD,hdD,hcD⟩:=hn2.count (PySem.Within.cons name v hw)
 refine wpAny_bind (wpAny_lookBehind hoD (by rw[hdD];exact pastItsLine_dict (Nat.le_trans hcD (by rw[List.length_cons];omega))) ?_)
 exact wpAny_pure (h _ ⟨(hs2.2 _ (Ne.symm I.ne)).trans I.obj,hn2,I.ne⟩ hs2)
theorem yS {R:Result->Shared->Prop} {vs:List Value} {kw:List (Str×Value)} (X:K.In s.heap) (hm:PySem.W.makesIn K C=true)
  (hi:PySem.W.findIn K (.ref C) "__init__"=some (some (.ref f))) (hf:PySem.W.typeIn K (.ref f)=some (.type "function"))
  (h:codeAny (model prog w) (A.under (.builtin "type.__call__" ⟨.ref C::vs,kw⟩)) (.call (.ref f) ⟨.ref (s.heap.objs.size+1)::vs,kw⟩) (PySem.W.InitBack (s.heap.objs.size+1) R)
   {s with heap:=(s.heap.push PySem.W.emptyDict).push (PySem.W.instObj C s.heap.objs.size)}):
  codeAny (model prog w) A (.call (.ref C) ⟨vs,kw⟩) R s:=by
 obtain⟨hh,g,d,t,os⟩:=s
 exact PySem.W.make_core (PySem.W.makes_of X hm) (PySem.W.looks_findIn X hi) (fun self=>PySem.W.bind_fn X self hf) (.inl rfl) h
end
def iJ (f:Str) (v:V):List (Str×V)->List (Str×V)
 |[]=>[(f,v)]
 |(g,x)::r=>if g=f then (g,v)::r else (g,x)::iJ f v r
theorem iz (f g:Str) (v:V):∀fs:List (Str×V),(iJ f v fs).lookup g=if g=f then some v else fs.lookup g
 |[]=>by
  show List.lookup g [(f,v)]=_
  by_cases h:g=f
  ·have hb:(g==f)=true:=beq_iff_eq.mpr h
   simp only[List.lookup,hb,if_pos h]
  ·have hb:(g==f)=false:=beq_eq_false_iff_ne.mpr h
   simp only[List.lookup,hb,if_neg h]
 |(k,x)::r=>by
  have ih:=iz f g v r
  rw[show iJ f v ((k,x)::r)=(if k=f then (k,v)::r else (k,x)::iJ f v r)from rfl]
  by_cases hk:k=f
  ·rw[if_pos hk]
   by_cases h:g=k
   ·have hb:(g==k)=true:=beq_iff_eq.mpr h
    simp only[List.lookup,hb,if_pos (h.trans hk)]
   ·have hb:(g==k)=false:=beq_eq_false_iff_ne.mpr h
    simp only[List.lookup,hb,if_neg (fun e:g=f=>h (e.trans hk.symm))]
  ·rw[if_neg hk]
   by_cases h:g=k
   ·have hb:(g==k)=true:=beq_iff_eq.mpr h
    simp only[List.lookup,hb,if_neg (fun e:g=f=>hk (h.symm.trans e))]
   ·have hb:(g==k)=false:=beq_eq_false_iff_ne.mpr h
    simp only[List.lookup,hb]
    exact ih
theorem mC (f:Str) (v:V):∀fs:List (Str×V),f∈(iJ f v fs).map (·.1)/\∀g,g∈fs.map (·.1)->g∈(iJ f v fs).map (·.1)
 |[]=>⟨by simp[iJ],fun g h=>by simp at h⟩
 |(k,x)::r=>by
  obtain⟨i1,i2⟩:=mC f v r
  rw[show iJ f v ((k,x)::r)=(if k=f then (k,v)::r else (k,x)::iJ f v r)from rfl]
  by_cases hk:k=f
  ·rw[if_pos hk]
   subst hk
   exact⟨by simp,fun g h=>by simpa using h⟩
  ·rw[if_neg hk]
   refine⟨?_,fun g h=> ?_⟩
   ·rw[List.map_cons]
    exact List.mem_cons_of_mem _ i1
   ·rw[List.map_cons]at h ⊢
    rcases List.mem_cons.mp h with e|e
    ·exact List.mem_cons.mpr (.inl e)
    ·exact List.mem_cons_of_mem _ (i2 g e)
theorem n5 (f:Str) (v:V):∀fs:List (Str×V),(iJ f v fs).length<=fs.length+1
 |[]=>by simp[iJ]
 |(k,x)::r=>by
  have ih:=n5 f v r
  rw[show iJ f v ((k,x)::r)=(if k=f then (k,v)::r else (k,x)::iJ f v r)from rfl]
  by_cases hk:k=f
  ·rw[if_pos hk,List.length_cons,List.length_cons];omega
  ·rw[if_neg hk,List.length_cons,List.length_cons];omega
theorem jz.some_of {v:V} {o:Option Value} (r:jz (some v) o):∃u,o=some u/\bx v u:=by
 cases o with
 |none=>exact(show False from r).elim
 |some u=>exact⟨u,rfl,r⟩
theorem jz.none_of {o:Option Value} (r:jz none o):o=none:=by
 cases o with
 |none=>rfl
 |some u=>exact(show False from r).elim
theorem xo {v:V} {u:Value} (r:bx v u):PySem.W.handedIn u=true:=by
 cases v with
 |non=>cases (show u=Value.none from r);rfl
 |bl b=>cases (show u=Value.bool b from r);rfl
 |int i=>obtain⟨t,e⟩:=(show ∃t,u=Value.int i t from r);cases e;rfl
 |str x=>obtain⟨t,e⟩:=(show ∃t,u=Value.str x t from r);cases e;rfl
 |byt b=>obtain⟨t,e⟩:=(show ∃t,u=Value.bytes b t from r);cases e;rfl
 |flt b=>obtain⟨t,e⟩:=(show ∃t,u=Value.float b t from r);cases e;rfl
 |ref a=>cases (show u=Value.ref a from r);rfl
 |ty n=>cases (show u=Value.type n from r);rfl
section
variable {P:Program} {w:World} {H H':Hp} {h h':Heap} {a C dx:Addr} {fs fs':List (Str×V)}
theorem nU (hok:jA P w H h) (e:H a=some (.ins C dx fs)):∃mA,uy h a dx C mA/\(∀f,jz (fs.lookup f) (mA f))/\PySem.Within mA (fs.map (·.1))/\fs.length<=1000/\H dx=some (.own a):=by
 obtain⟨d,z,ne,ob,mA,n,r,q⟩:=(show bS P w H h a (.ins C dx fs)from hok a _ e)
 exact⟨mA,⟨ob,n,ne⟩,r,q,z,d⟩
end
structure vQ (K:PySem.W.Frag) (C:Addr):Prop where
 pg:PySem.W.plainGet K C Str.empty=true
 hd:PySem.W.hasDictIn K C=true
 po:PySem.W.plainOver K C=true
 sa:PySem.W.findIn K (.ref C) "__setattr__"=some (some (.builtin "object.__setattr__"))
theorem vQ.get {K:PySem.W.Frag} {C:Addr} (c:vQ K C) (f:Str):PySem.W.plainGet K C f=true:=c.pg
def gW (K:PySem.W.Frag) (C:Addr) (f:Str):Prop:=PySem.W.findIn K (.ref C) f=some none
theorem gW.taker {K:PySem.W.Frag} {C:Addr} {f:Str} (n:gW K C f):PySem.W.takerIn K C f=some none:=by
 unfold PySem.W.takerIn
 rw[show PySem.W.findIn K (.ref C) f=some none from n]
 rfl
structure xp (K:PySem.W.Frag) (C:Addr) (m:Str) (f:Addr):Prop where
 at_:PySem.W.findIn K (.ref C) m=some (some (.ref f))
 fn:PySem.W.isFn K (.ref f)=true
 kp:PySem.W.keepIn K (.ref f)=true
section
variable {X:Cx} {pins:List (Addr×Obj)} {σ:St} {H:Hp} {s:Shared} {a C dx:Addr} {fs:List (Str×V)} {f:Str} {v:V} {A:Around} {E:Value->Shared->Prop}
theorem uz {b:Bool} {Q:Value->Shared->Prop} (I:aF X pins σ H s) (e:H a=some (.ins C dx fs)) (c:vQ X.K C) (n:gW X.K C f) (l:fs.lookup f=some v)
  (h:∀u s',aF X pins σ H s'->bx v u->Q u s'):wpAny (model X.prog X.w) A (getAttr (.ref a) f b) Q E s:=by
 obtain⟨mA,O,r,_,_,_⟩:=nU I.hok e
 obtain⟨u,hu,ru⟩:=jz.some_of (v:=v) (o:=mA f) (by rw[<-l];exact r f)
 exact Bz I.kIn O (c.get f) c.hd n hu (xo ru) (h u _ (I.tok _) ru)
theorem kU {m:Str} {g:Addr} {pl:Sem Bool} {Q:Value×List Value->Shared->Prop} (I:aF X pins σ H s) (e:H a=some (.ins C dx fs)) (c:vQ X.K C) (k:xp X.K C m g) (l:fs.lookup m=none)
  (h:Q (.ref g,[.ref a]) s):wpAny (model X.prog X.w) A (getMethod (.ref a) m pl) Q E s:=by
 obtain⟨mA,O,r,_,_,_⟩:=nU I.hok e
 have hn:mA m=none:=jz.none_of (by rw[<-l];exact r m)
 exact yR I.kIn O (c.get m) k.at_ k.fn hn h
theorem uA {y:V} {u:Value} {Q:Unit->Shared->Prop} (I:aF X pins σ H s) (e:H a=some (.ins C dx fs)) (c:vQ X.K C) (n:gW X.K C f) (hl:fs.length<1000) (ry:bx y u)
  (h:∀s',aF X pins σ (bK H a (.ins C dx (iJ f y fs))) s'->Q () s'):wpAny (model X.prog X.w) A (setAttr (.ref a) f u) Q E s:=by
 obtain⟨mA,O,r,wi,_,ho⟩:=nU I.hok e
 have hz:(fs.map (·.1)).length<=sizeLine:=by rw[List.length_map,sizeLine_eq];omega
 refine BA I.kIn O c.sa c.po n.taker c.hd wi hz fun h' O' sb=>h _ ?_
 have hd:∃o,h'.get? dx=some o:=let ⟨o,_,_,e',_⟩:=O'.ns;⟨o,e'⟩
 refine I.write (x:=a) (e:=dx) (by rw[e];exact True.intro) (.inr ho) (fun b q hb z=>(sb.2 b hb).trans z) hd ?_
 refine⟨by rw[av O.ne];exact ho,?_,O.ne,O'.obj,_,O'.ns,fun g=> ?_,fun g hg=> ?_⟩
 ·have:=n5 f y fs;omega
 ·show jz ((iJ f y fs).lookup g) (if g=f then some u else mA g)
  rw[iz]
  by_cases q:g=f
  ·rw[if_pos q,if_pos q];exact ry
  ·rw[if_neg q,if_neg q];exact r g
 ·by_cases q:g=f
  ·rw[q];exact(mC f y fs).1
  ·refine(mC f y fs).2 g (wi g fun z=>hg ?_)
   show (if g=f then some u else mA g)=none
   rw[if_neg q];exact z
theorem aF.made (I:aF X pins σ H s):aF X pins σ (bK (bK H s.heap.objs.size (.own (s.heap.objs.size+1))) (s.heap.objs.size+1) (.ins C s.heap.objs.size []))
  {s with heap:=(s.heap.push PySem.W.emptyDict).push (PySem.W.instObj C s.heap.objs.size)}:=by
 have e1:(s.heap.push PySem.W.emptyDict).get? s.heap.objs.size=some PySem.W.emptyDict:=Heap.get?_push_size s.heap rfl
 have e2:((s.heap.push PySem.W.emptyDict).push (PySem.W.instObj C s.heap.objs.size)).get? (s.heap.objs.size+1)=some (PySem.W.instObj C s.heap.objs.size):=by
  have:=Heap.get?_push_size (s.heap.push PySem.W.emptyDict) (o:=PySem.W.instObj C s.heap.objs.size) rfl
  rwa [Heap.size_push]at this
 have e3:(s.heap.push PySem.W.emptyDict).Ns s.heap.objs.size (fun _=>none):=⟨PySem.W.emptyDict,#[],_,e1,rfl,(fun e he=>absurd he (by simp)),fun _=>rfl⟩
 have I1:=I.laid (a:=s.heap.objs.size) (o:= .own (s.heap.objs.size+1)) (h':=s.heap.push PySem.W.emptyDict) (t':=s.toks) (fun b u q=>Heap.get?_push_of_some _ q) (Nat.le_refl _) ⟨_,e1⟩
 refine I1.laid (a:=s.heap.objs.size+1) (o:= .ins C s.heap.objs.size []) (t':=s.toks) (fun b u q=>Heap.get?_push_of_some _ q) (Nat.le_of_eq (Heap.size_push _ _)) ?_
 have ne:s.heap.objs.size≠s.heap.objs.size+1:=Nat.ne_of_lt (Nat.lt_succ_self _)
 refine⟨by rw[av ne,az],Nat.zero_le _,ne,e2,fun _=>none,(Heap.Ns1.of_empty e3).at fun o q=>Heap.get?_push_of_some _ q,fun _=>True.intro,fun y hy=>absurd rfl hy⟩
theorem BB {prog:Program} {w:World} {env:Env} {e:Expr} {f:Str} {pos:Pos} {s:Shared} {Q:Value->Shared->Prop} (hb:attributeBase e f env (eval e env)=eval e env)
  (h:wpAny (model prog w) A (eval e env) (fun o s₁=>wpAny (model prog w) A (getAttr o f true) Q E s₁) E s):wpAny (model prog w) A (eval (.Attribute e f pos) env) Q E s:=
 Attribute_any_ h (by rw[arm_eval_Attribute,hb])
end
def Hy (K:PySem.W.Frag) (ta:TE) (f:Str):TE:=fun σ H Q=>ta σ H fun x H1=>∃a C dx fs v,x= .ref a/\H1 a=some (.ins C dx fs)/\vQ K C/\gW K C f/\fs.lookup f=some v/\Q v H1
def FX (X:Cx) (op:Operator) (rd:V->V->Hp->VK->Prop):Prop:=
 ∀(pins:List (Addr×Obj)) (s:Shared) (σ:St) (H:Hp) (x y:V) (u v:Value) (Q:VK),aF X pins σ H s->bx x u->bx y v->rd x y H Q->wpAny (model X.prog X.w) X.A (inplaceOp op u v) (EP X pins σ Q) X.xe s
section
variable {X:Cx} {o e value:Expr} {f:Str} {pos pos' tpos:Pos} {ta tv:TE}
theorem E8 (he:PE X e ta) (hb:attributeBase e f X.env (eval e X.env)=eval e X.env):PE X (.Attribute e f pos) (Hy X.K ta f):=by
 intro pins s σ H Q I h
 refine BB hb (cp (he pins s σ H _ I h) fun u s1 z_=> ?_)
 obtain⟨x,H1,I1,rx,a,C,dx,fs,v,ex,ea,c,n,l,q⟩:=z_
 subst ex
 obtain rfl:u=Value.ref a:=rx
 exact uz I1 ea c n l fun u' s2 I2 ru=>⟨v,H1,I2,ru,q⟩
def HA:V->V->Hp->VK->Prop:=fun x y H Q=>∃i j,x= .int i/\y= .int j/\Q (.int (i+j)) H
theorem E9:FX X .Add HA:=by
 rintro pins s σ H x y u v Q I rx ry ⟨i,j,rfl,rfl,q⟩
 obtain⟨t,rfl⟩:=(show ∃t,u=Value.int i t from rx)
 obtain⟨t',rfl⟩:=(show ∃t',v=Value.int j t' from ry)
 exact PyProof.Rows.iadd_int ⟨.int (i+j),H,I.tok _,⟨_,rfl⟩,q⟩
theorem Dh {pl:Sem Bool} {m:Str} {apos:Pos} {args:List Expr} {pins:List (Addr×Obj)} {s:Shared} {σ:St} {H:Hp} {Q:Value->Shared->Prop} {te:TE} (he:PE X e te) (I:aF X pins σ H s)
  (h:te σ H fun x H1=>∃a C dx fs g,x= .ref a/\H1 a=some (.ins C dx fs)/\vQ X.K C/\xp X.K C m g/\fs.lookup m=none/\
   ∀s1,aF X pins σ H1 s1->wpAny (model X.prog X.w) X.A (callWith pos (.ref g) [.ref a] (backTo pos (starEach args X.env)) (backToKw pos (keywordEach [] X.env))) Q X.xe s1)
  (ht:eval (.Call (.Attribute e m apos) args [] pos) X.env=(do
   let ov<-eval e X.env
   standAt apos.atName
   let (f,first)<-holding [ov] (getMethod ov m pl)
   callWith pos f first (backTo pos (starEach args X.env)) (backToKw pos (keywordEach [] X.env)))):
  wpAny (model X.prog X.w) X.A (eval (.Call (.Attribute e m apos) args [] pos) X.env) Q X.xe s:=by
 refine PySem.W.methodCall_KW (pl:=pl) (cp (he pins s σ H _ I h) fun u s1 z_=> ?_) ht
 obtain⟨x,H1,I1,rx,a,C,dx,fs,g,ex,ea,c,k,l,q⟩:=z_
 subst ex
 obtain rfl:u=Value.ref a:=rx
 exact kU I1 ea c k l (q s1 I1)
end
section
variable {X:Cx} {pins:List (Addr×Obj)} {σ:St} {H:Hp} {s:Shared} {A:Around} {E:Value->Shared->Prop} {Q:Value->Shared->Prop} {c:Value} {b:Bool}
inductive lF (K:PySem.W.Frag) (H:Hp):V->Value->Prop where
 |non:lF K H .non (.type "NoneType")
 |bl (x:Bool):lF K H (.bl x) (.type "bool")
 |int (i:Int):lF K H (.int i) (.type "int")
 |str (x:Str):lF K H (.str x) (.type "str")
 |flt (x:UInt64):lF K H (.flt x) (.type "float")
 |lst {a:Addr} {xs:List V} (e:H a=some (.lst xs)):lF K H (.ref a) (.type "list")
 |frz {a:Addr} {o:Obj} {xs:List V} (e:H a=some (.frz o (.lst xs))):lF K H (.ref a) (.type "list")
 |tup {a:Addr} {xs:List V} (e:H a=some (.tup xs)):lF K H (.ref a) (.type "tuple")
 |dK {a:Addr} {kvs:List (a_×V)} (e:H a=some (.dK kvs)):lF K H (.ref a) (.type "dict")
 |dT {a:Addr} {kvs:List (List a_×V)} (e:H a=some (.dT kvs)):lF K H (.ref a) (.type "dict")
 |ins {a C dx:Addr} {fs:List (Str×V)} (e:H a=some (.ins C dx fs)) (cl:vQ K C) (ha:PySem.W.findIn K (.ref C) "__class__"=some (some (.builtin "object.__class__")))
   (hn:PySem.W.specialIn K (.builtin "object.__class__") "__get__"=some (some (.builtin "getset_descriptor.__get__"))) (htk:PySem.W.takesIn K (.builtin "object.__class__")=some true)
   (hm:PySem.W.mroIn K C (.type "object")=some true):lF K H (.ref a) (.ref C)
theorem xq {x:V} {u t:Value} (I:aF X pins σ H s) (rx:bx x u) (ty:lF X.K H x t) (e:PySem.W.kitOne X.K t c=some b) (h:∀tk,Q (.bool b) {s with toks:=tk}):
  wpAny (model X.prog X.w) A (call (.builtin "isinstance") [u,c]) Q E s:=by
 cases ty with
 |non=>cases (show u=Value.none from rx);exact PySem.W.kia_one PySem.W.kitx_none I.kIn True.intro e (fun z=>nomatch z) h
 |bl y=>cases (show u=Value.bool y from rx);exact PySem.W.kia_one PySem.W.kitx_bool I.kIn True.intro e (fun z=>nomatch z) h
 |int i=>obtain⟨t,q⟩:=(show ∃t,u=Value.int i t from rx);cases q;exact PySem.W.kia_one PySem.W.kitx_int I.kIn True.intro e (fun z=>nomatch z) h
 |str y=>obtain⟨t,q⟩:=(show ∃t,u=Value.str y t from rx);cases q;exact PySem.W.kia_one PySem.W.kitx_str I.kIn True.intro e (fun z=>nomatch z) h
 |flt y=>obtain⟨t,q⟩:=(show ∃t,u=Value.float y t from rx);cases q;exact PySem.W.kia_one PySem.W.kitx_float I.kIn True.intro e (fun z=>nomatch z) h
 | @lst a xs ea=>
  cases (show u=Value.ref a from rx)
  obtain⟨_,_,n,_,h1⟩:=(show bS X.prog X.w H s.heap a (.lst xs)from I.hok a _ ea)
  exact PySem.W.kia_one PySem.W.kitx_list I.kIn ⟨_,h1,rfl⟩ e (fun z=>nomatch z) h
 | @frz a ob xs ea=>
  cases (show u=Value.ref a from rx)
  obtain⟨_,_,_,n,_,h1⟩:=(show bS X.prog X.w H s.heap a (.frz ob (.lst xs))from I.hok a _ ea)
  exact PySem.W.kia_one PySem.W.kitx_list I.kIn ⟨_,h1,rfl⟩ e (fun z=>nomatch z) h
 | @tup a xs ea=>
  cases (show u=Value.ref a from rx)
  obtain⟨_,_,_,p⟩:=(show bS X.prog X.w H s.heap a (.tup xs)from I.hok a _ ea)
  obtain⟨o,h1,h2,_⟩:=p
  exact PySem.W.kia_one PySem.W.kitx_tuple I.kIn ⟨o,h1,h2⟩ e (fun z=>nomatch z) h
 | @dK a kvs ea=>
  cases (show u=Value.ref a from rx)
  obtain⟨_,_,vs,_,p⟩:=(show bS X.prog X.w H s.heap a (.dK kvs)from I.hok a _ ea)
  obtain⟨o,es,ep,h1,h2,_⟩:=p
  exact PySem.W.kia_one PySem.W.kitx_dict I.kIn ⟨o,h1,h2.1⟩ e (fun z=>nomatch z) h
 | @dT a kvs ea=>
  cases (show u=Value.ref a from rx)
  obtain⟨_,_,xs,_,o,es,ep,h1,h2,_⟩:=(show bS X.prog X.w H s.heap a (.dT kvs)from I.hok a _ ea)
  exact PySem.W.kia_one PySem.W.kitx_dict I.kIn ⟨o,h1,h2.1⟩ e (fun z=>nomatch z) h
 | @ins a C dx fs ea cl ha hn htk hm=>
  cases (show u=Value.ref a from rx)
  obtain⟨mA,O,_⟩:=nU I.hok ea
  obtain⟨od,J,_⟩:=O.look
  exact PySem.W.kia_one (PySem.W.kitx_own (cl.get _) cl.hd ha hn htk hm) I.kIn J e (fun z=>nomatch z) h
end
end L2
namespace L2
open PySem PySem.Spec PyProof.Rows
structure dD (k:Nat) (A:Around):Prop where
 hd:A.handled=none
 dp:A.depth+3*k+5<recursionLimit
 un:A.units+16*k+200<cLine
theorem dD.mono {j k:Nat} {A:Around} (r:dD k A) (h:j<=k):dD j A:=⟨r.hd,by have:=r.dp;omega,by have:=r.un;omega⟩
theorem dD.deeper {k:Nat} {A:Around} (r:dD (k+1) A) (env:Env):dD k (A.deeper env):=
 ⟨r.hd,by have:=r.dp;show A.depth+1+3*k+5<_;omega,by have:=r.un;show A.units+3+16*k+200<_;omega⟩
theorem uB {A:Around} {C:Addr} {us:List Value} {kw:List (Str×Value)}:(A.under (.builtin "type.__call__" ⟨.ref C::us,kw⟩)).depth=A.depth+1:=by
 first|rfl|simp[Around.under,Code.weight,Code.isCreation,Code.isGuard,Code.isCaller,Code.frames,Code.isFrame,guardIds]
theorem uC {A:Around} {C:Addr} {us:List Value} {kw:List (Str×Value)}:(A.under (.builtin "type.__call__" ⟨.ref C::us,kw⟩)).units=A.units+1:=by
 first|rfl|simp[Around.under,Code.cUnits,Code.frames,Code.isFrame]
theorem dD.make {k:Nat} {A:Around} (r:dD (k+1) A) (C:Addr) (us:List Value) (kw:List (Str×Value)):dD k (A.under (.builtin "type.__call__" ⟨.ref C::us,kw⟩)):=
 ⟨r.hd,by have:=r.dp;rw[uB];omega,by have:=r.un;rw[uC];omega⟩
theorem dD.depth {k:Nat} {A:Around} (r:dD k A):A.depth<recursionLimit:=by have:=r.dp;omega
theorem dD.units {k:Nat} {A:Around} (r:dD k A):A.units+64<cLine:=by have:=r.un;omega
def FY:TA:=fun _ H Q=>Q [] H
def FZ (ta:TE) (tr:TA):TA:=fun σ H Q=>ta σ H fun x H1=>tr σ H1 fun xs H2=>Q (x::xs) H2
section
variable {X:Cx} {e:Expr} {es:List Expr} {te:TE} {t:TA} {pos:Pos}
theorem iK:PA X [] FY:=fun _ _ _ _ H Q I h=>Calls.spliced_nil ⟨[],H,I, .nil,h⟩
theorem dY (ha:PE X e te) (hr:PA X es t) (hs:starEach (e::es) X.env=(false,eval e X.env)::starEach es X.env:=by rfl):PA X (e::es) (FZ te t):=by
 intro pos pins s σ H Q I h
 rw[hs]
 show wpAny _ _ (spliced ((false,eval e X.env)::backTo pos (starEach es X.env))) _ _ s
 refine Calls.spliced_cons (cp (ha pins s σ H _ I h) fun u s1 z_=> ?_)
 obtain⟨x,H1,I1,r1,q1⟩:=z_
 exact cp (hr pos pins s1 σ H1 _ I1 q1) fun us s2 ⟨xs,H2,I2,r2,q2⟩=>⟨x::xs,H2,I2, .cons r1 r2,q2⟩
def HB (t:TA):TE:=fun σ H Q=>t σ H fun xs H1=>xs.length<=sizeLine/\∀p,H1 p=none->Q (.ref p) (bK H1 p (.tup xs))
def HC (t:TA):TE:=fun σ H Q=>t σ H fun xs H1=>xs.length<=sizeLine/\∀p,H1 p=none->Q (.ref p) (bK H1 p (.lst xs))
theorem Ea {x1} (h:PA X es t):PE X (.Tuple es x1 pos) (HB t):=by
 intro pins s σ H Q I hq
 refine wpAny_Tuple_spliced (cp (h pos pins s σ H _ I hq) fun us s1 ⟨xs,H1,I1,r,z,q⟩=>⟨by rw[<-r.length];exact z,?_⟩)
 have hf:H1 s1.heap.objs.size=none:=I1.hok.fresh (Nat.le_refl _)
 refine⟨.ref s1.heap.objs.size,bK H1 s1.heap.objs.size (.tup xs),I1.laid (t':=s1.toks) (fun b u e=>Heap.get?_push_of_some _ e) (Nat.le_refl _) ?_,rfl,q _ hf⟩
 exact⟨z,us,r,⟨_,Heap.get?_push_size _ rfl,rfl,_,rfl,rfl⟩⟩
theorem yT (h:PA X es t):PE X (.List es pos) (HC t):=by
 intro pins s σ H Q I hq
 refine wpAny_List_spliced (cp (h pos pins s σ H _ I hq) fun us s1 ⟨xs,H1,I1,r,z,q⟩=>⟨by rw[<-r.length];exact z,?_⟩)
 have hf:H1 s1.heap.objs.size=none:=I1.hok.fresh (Nat.le_refl _)
 refine⟨.ref s1.heap.objs.size,bK H1 s1.heap.objs.size (.lst xs),I1.laid (t':=s1.toks) (fun b u e=>Heap.get?_push_of_some _ e) (Nat.le_refl _) ?_,rfl,q _ hf⟩
 exact⟨z,us,0,r,Heap.get?_push_size _ rfl⟩
end
abbrev Sp:=List V->Hp->VK->XK->Prop
abbrev uD:=List Env->Hp->Shared->XK->Value->Shared->Prop
structure uE (P:Program) (w:World) (K:PySem.W.Frag) (mg:Str->Option Value) (base:Heap) (A:Around) (outer:List Env) (s:Shared) (H:Hp):Prop where
 frames:A.frames=some outer
 mod:Mod K mg base
 bs:∀b o,base.get? b=some o->s.heap.get? b=some o/\H b=none
 bsz:base.objs.size<=s.heap.objs.size
 funs:s.heap.FunFrames base outer
 frf:∀b∈nT outer,H b=none
 hok:jA P w H s.heap
 bare:AllBare s.gens
def CE (outer:List Env) (P:Program) (w:World) (H:Hp) (s:Shared) (Q:VK) (u:Value) (s':Shared):Prop:=
 ∃v H',s'.os=s.os/\AllBare s'.gens/\Un (nT outer) [] H H' s.heap s'.heap/\jA P w H' s'.heap/\bx v u/\Q v H'
def CR (CX:uD) (outer:List Env) (P:Program) (w:World) (H:Hp) (s:Shared) (Q:VK) (E:XK) (r:Result) (s':Shared):Prop:=
 match r with
 | .ok (.ret u)=>CE outer P w H s Q u s'
 | .ok _=>False
 | .error e=>CX outer H s E e s'
structure gE (P:Program) (w:World) (K:PySem.W.Frag) (mg:Str->Option Value) (base:Heap) (CX:uD) (k:Nat) (f:Addr) (fd:FuncData) (ps:List Str) (sp:Sp):Prop where
 len:∀vs H Q E,sp vs H Q E->vs.length=ps.length
 run:∀(A:Around) (outer:List Env) (s:Shared) (H:Hp) (args:Args) (us:List Value) (vs:List V) (Q:VK) (E:XK),dD k A->uE P w K mg base A outer s H->BindsTo s fd args (ps.zip us)->aS vs us->sp vs H Q E->
  codeAny (model P w) A (.call (.ref f) args) (CR CX outer P w H s Q E) s
theorem gE.mono {P:Program} {w:World} {K:PySem.W.Frag} {mg:Str->Option Value} {base:Heap} {CX:uD} {j k:Nat} {f:Addr} {fd:FuncData} {ps:List Str} {sp:Sp} (F:gE P w K mg base CX j f fd ps sp) (h:j<=k):
  gE P w K mg base CX k f fd ps sp:=⟨F.len,fun A outer s H args us vs Q E hr=>F.run A outer s H args us vs Q E (hr.mono h)⟩
theorem gE.imp {P:Program} {w:World} {K:PySem.W.Frag} {mg:Str->Option Value} {base:Heap} {CX:uD} {k:Nat} {f:Addr} {fd:FuncData} {ps:List Str} {sp sp':Sp} (F:gE P w K mg base CX k f fd ps sp)
  (h:∀vs H Q E,sp' vs H Q E->sp vs H Q E):gE P w K mg base CX k f fd ps sp':=
 ⟨fun vs H Q E q=>F.len vs H Q E (h _ _ _ _ q),fun A outer s H args us vs Q E hr he hb hv hs=>F.run A outer s H args us vs Q E hr he hb hv (h _ _ _ _ hs)⟩
theorem uE.make {P:Program} {w:World} {K:PySem.W.Frag} {mg:Str->Option Value} {base:Heap} {A:Around} {outer:List Env} {s:Shared} {H:Hp} (e:uE P w K mg base A outer s H) (C:Addr) (us:List Value) (kw:List (Str×Value)):
  uE P w K mg base (A.under (.builtin "type.__call__" ⟨.ref C::us,kw⟩)) outer s H:=⟨by first|exact e.frames|(simpa[Around.under,Code.envs,Code.isFrame,pushEnvs]using e.frames),e.mod,e.bs,e.bsz,e.funs,e.frf,e.hok,e.bare⟩
section
variable {X:Cx} {pins:List (Addr×Obj)} {σ:St} {H:Hp} {s s':Shared}
theorem aF.env0 (I:aF X pins σ H s):uE X.prog X.w X.K X.mg X.base X.A X.stack s H:=
 ⟨I.ok.frames,I.ok.mod,I.bs,Nat.le_trans I.ok.bsz I.sz,I.stack,I.stkFree,I.hok,I.bare⟩
theorem aF.after {Q:VK} {u:Value} (I:aF X pins σ H s) (h:CE X.stack X.prog X.w H s Q u s'):EP X pins σ Q u s':=by
 obtain⟨v,H',os,bare,un,hok,r,q⟩:=h
 obtain⟨hh,g,d,t,os'⟩:=s'
 obtain rfl:os'=s.os:=os
 exact⟨v,H',I.call (h':=hh) (g':=g) (d':=d) (t':=t) (ch:=[]) un hok bare (fun b z=>absurd z (by simp)),r,q⟩
end
def Di (sp:Sp) (dvs:List V) (E:St->XK) (t:TA):TE:=fun σ H Q=>t σ H fun vs H1=>sp (vs++dvs) H1 Q (E σ)
def yU (C:Addr) (m:Str) (sp:Sp) (dvs:List V) (E:St->XK) (ta:TE) (t:TA):TE:=fun σ H Q=>ta σ H fun x H1=>∃a dx fs,x= .ref a/\H1 a=some (.ins C dx fs)/\fs.lookup m=none/\
 t σ H1 fun vs H2=>sp (x::(vs++dvs)) H2 Q (E σ)
def F_ (C:Addr) (sp:Sp) (dvs:List V) (E:St->XK) (t:TA):TE:=fun σ H Q=>t σ H fun vs H1=>∀x dx,H1 x=none->H1 dx=none->dx≠x->
 sp (.ref x::(vs++dvs)) (bK (bK H1 dx (.own x)) x (.ins C dx [])) (fun v H2=>v= .non/\Q (.ref x) H2) (E σ)
def g_ (K:PySem.W.Frag) (fd:FuncData) (ps:List Str) (ds:List Value):Prop:=
 ∀(s:Shared) (us:List Value),K.In s.heap->(us++ds).length=ps.length->BindsTo s fd ⟨us,[]⟩ (ps.zip (us++ds))
theorem g_.all {K:PySem.W.Frag} {fd:FuncData} {ps:List Str} (h:∀us:List Value,us.length=ps.length->bindArgs fd ⟨us,[]⟩=pure (ps.zip us)):g_ K fd ps []:=fun s us _ hl=>by
 rw[List.append_nil]at hl ⊢
 exact .of_eq (h us hl)
def jG (CX:uD) (X:Cx) (E:St->XK):Prop:=∀(pins:List (Addr×Obj)) (σ:St) (H:Hp) (s:Shared) (e:Value) (s':Shared),aF X pins σ H s->CX X.stack H s (E σ) e s'->X.xe e s'
section
variable {X:Cx} {CX:uD} {k:Nat} {f C:Addr} {fd:FuncData} {ps:List Str} {sp:Sp} {dvs:List V} {ds:List Value} {E:St->XK} {x m:Str} {p pos apos:Pos} {e o:Expr} {es:List Expr} {ta:TE} {t:TA}
theorem uF {pins:List (Addr×Obj)} {σ:St} {H:Hp} {s:Shared} {Q:VK} {us:List Value} {vs:List V} (F:gE X.prog X.w X.K X.mg X.base CX k f fd ps sp) (hr:dD k X.A) (hb:g_ X.K fd ps ds) (hd:aS dvs ds) (hx:jG CX X E)
  (I:aF X pins σ H s) (r:aS vs us) (h:sp (vs++dvs) H Q (E σ)):wpAny (model X.prog X.w) X.A (call (.ref f) us) (EP X pins σ Q) X.xe s:=by
 have r2:aS (vs++dvs) (us++ds):=r.append hd
 have hl:(us++ds).length=ps.length:=by rw[<-r2.length];exact F.len _ _ _ _ h
 refine wpAny_call (codeAny_mono (F.run X.A X.stack s H ⟨us,[]⟩ (us++ds) (vs++dvs) Q (E σ) hr I.env0 (hb s us I.kIn hl) r2 h) fun r s' hq=> ?_)
 cases r with
 |error e=>exact hx pins σ H s e s' I hq
 |ok fl=>
  cases fl with
  |ret u=>exact I.after hq
  |next=>exact False.elim hq
  |brk=>exact False.elim hq
  |cont=>exact False.elim hq
theorem BC (F:gE X.prog X.w X.K X.mg X.base CX k f fd ps sp) (hr:dD k X.A) (hg:Gl X x) (hm:X.mg x=some (.ref f)) (hk:PySem.W.keepIn X.K (.ref f)=true) (hb:g_ X.K fd ps ds) (hd:aS dvs ds) (hx:jG CX X E)
  (ha:PA X (e::es) t) (hdb:(x==("__debug__":Str))=false:=by decide) (he:starEach (e::es) X.env=(false,eval e X.env)::starEach es X.env:=by rfl) (hpl:(backTo pos (starEach es X.env)).any (·.1)=false:=by rfl):
  PE X (.Call (.Name x p) (e::es) [] pos) (Di sp dvs E t):=by
 intro pins s σ H Q I h
 refine wpAny_Call_Name_kw (lC I hg hm ?_ hdb)
 refine PySem.W.callWith_K (h₀:=X.base) I.ok.mod.kin hk (cp (ha pos pins s σ H _ I h) fun us s1 ⟨vs,H1,I1,r,q⟩=>⟨I1.kIn,?_⟩) he hpl
 exact uF F hr hb hd hx I1 r q
theorem BD {pl:Sem Bool} (he:PE X o ta) (c:vQ X.K C) (hm:xp X.K C m f) (F:gE X.prog X.w X.K X.mg X.base CX k f fd ps sp) (hr:dD k X.A) (hb:g_ X.K fd ps ds) (hd:aS dvs ds) (hx:jG CX X E) (ha:PA X (e::es) t)
  (hst:starEach (e::es) X.env=(false,eval e X.env)::starEach es X.env:=by rfl) (hpl:(backTo pos (starEach es X.env)).any (·.1)=false:=by rfl)
  (ht:eval (.Call (.Attribute o m apos) (e::es) [] pos) X.env=(do
   let ov<-eval o X.env
   standAt apos.atName
   let (f,first)<-holding [ov] (getMethod ov m pl)
   callWith pos f first (backTo pos (starEach (e::es) X.env)) (backToKw pos (keywordEach [] X.env))):=by rfl):
  PE X (.Call (.Attribute o m apos) (e::es) [] pos) (yU C m sp dvs E ta t):=by
 intro pins s σ H Q I h
 refine PySem.W.methodCall_KW (pl:=pl) (cp (he pins s σ H _ I h) fun u s1 z_=> ?_) ht
 obtain⟨x,H1,I1,rx,a,dx,fs,ex,ea,l,q⟩:=z_
 subst ex
 obtain rfl:u=Value.ref a:=rx
 refine kU I1 ea c hm l ?_
 refine PySem.W.callWith_K (first:=[.ref a]) (h₀:=X.base) I.ok.mod.kin hm.kp (cp (ha pos pins s1 σ H1 _ I1 q) fun us s2 ⟨vs,H2,I2,r,q2⟩=>⟨I2.kIn,?_⟩) hst hpl
 exact uF (us:= .ref a::us) (vs:= .ref a::vs) F hr hb hd hx I2 (.cons rfl r) q2
theorem yV {pl:Sem Bool} (he:PE X o ta) (c:vQ X.K C) (hm:xp X.K C m f) (F:gE X.prog X.w X.K X.mg X.base CX k f fd ps sp) (hr:dD k X.A) (hb:g_ X.K fd ps ds) (hd:aS dvs ds) (hx:jG CX X E)
  (ht:eval (.Call (.Attribute o m apos) [] [] pos) X.env=(do
   let ov<-eval o X.env
   standAt apos.atName
   let (f,first)<-holding [ov] (getMethod ov m pl)
   callWith pos f first (backTo pos (starEach [] X.env)) (backToKw pos (keywordEach [] X.env))):=by rfl):
  PE X (.Call (.Attribute o m apos) [] [] pos) (yU C m sp dvs E ta FY):=by
 intro pins s σ H Q I h
 refine PySem.W.methodCall_KW (pl:=pl) (cp (he pins s σ H _ I h) fun u s1 z_=> ?_) ht
 obtain⟨x,H1,I1,rx,a,dx,fs,ex,ea,l,q⟩:=z_
 subst ex
 obtain rfl:u=Value.ref a:=rx
 refine kU I1 ea c hm l ?_
 exact PySem.W.callWith_K0 (first:=[.ref a]) I1.kIn hm.kp (uF (us:=[.ref a]) (vs:=[.ref a]) F hr hb hd hx I1 (.cons rfl .nil) q)
structure Mk (K:PySem.W.Frag) (C f:Addr):Prop where
 makes:PySem.W.makesIn K C=true
 init:PySem.W.findIn K (.ref C) "__init__"=some (some (.ref f))
 fn:PySem.W.isFn K (.ref f)=true
 kp:PySem.W.keepIn K (.ref C)=true
theorem yW {pins:List (Addr×Obj)} {σ:St} {H:Hp} {s:Shared} {Q:VK} {us:List Value} {vs:List V} (M:Mk X.K C f) (F:gE X.prog X.w X.K X.mg X.base CX k f fd ps sp) (hr:dD (k+1) X.A) (hb:g_ X.K fd ps ds) (hd:aS dvs ds)
  (hx:jG CX X E) (I:aF X pins σ H s) (r:aS vs us)
  (h:∀x dx,H x=none->H dx=none->dx≠x->sp (.ref x::(vs++dvs)) (bK (bK H dx (.own x)) x (.ins C dx [])) (fun v H2=>v= .non/\Q (.ref x) H2) (E σ)):
  wpAny (model X.prog X.w) X.A (call (.ref C) us) (EP X pins σ Q) X.xe s:=by
 have hq:=h (s.heap.objs.size+1) s.heap.objs.size (I.hok.fresh (Nat.le_succ _)) (I.hok.fresh (Nat.le_refl _)) (Nat.ne_of_lt (Nat.lt_succ_self _))
 have I2:=aF.made (C:=C) I
 have r2:aS (V.ref (s.heap.objs.size+1)::(vs++dvs)) (Value.ref (s.heap.objs.size+1)::(us++ds)):= .cons rfl (r.append hd)
 have hl:(Value.ref (s.heap.objs.size+1)::us++ds).length=ps.length:=by
  have e:=r2.length
  rw[F.len _ _ _ _ hq]at e
  exact e.symm
 refine wpAny_call (yS (f:=f) I.kIn M.makes M.init (beq_iff_eq.mp M.fn) (codeAny_mono (F.run _ X.stack _ _ ⟨Value.ref (s.heap.objs.size+1)::us,[]⟩ (Value.ref (s.heap.objs.size+1)::(us++ds)) _ _ (E σ) (hr.make C us [])
  (I2.env0.make C us []) (hb _ (Value.ref (s.heap.objs.size+1)::us) I2.kIn hl) r2 hq) fun r s' hq'=> ?_))
 cases r with
 |error e=>exact hx pins σ _ _ e s' I2 hq'
 |ok fl=>
  cases fl with
  |ret u=>
   obtain⟨v,H',I3,rv,ev,q3⟩:=I2.after hq'
   subst ev
   exact⟨rv,⟨V.ref (s.heap.objs.size+1),H',I3,rfl,q3⟩⟩
  |next=>exact False.elim hq'
  |brk=>exact False.elim hq'
  |cont=>exact False.elim hq'
theorem BE (M:Mk X.K C f) (F:gE X.prog X.w X.K X.mg X.base CX k f fd ps sp) (hr:dD (k+1) X.A) (hg:Gl X x) (hm:X.mg x=some (.ref C)) (hb:g_ X.K fd ps ds) (hd:aS dvs ds) (hx:jG CX X E)
  (ha:PA X (e::es) t) (hdb:(x==("__debug__":Str))=false:=by decide) (he:starEach (e::es) X.env=(false,eval e X.env)::starEach es X.env:=by rfl) (hpl:(backTo pos (starEach es X.env)).any (·.1)=false:=by rfl):
  PE X (.Call (.Name x p) (e::es) [] pos) (F_ C sp dvs E t):=by
 intro pins s σ H Q I h
 refine wpAny_Call_Name_kw (lC I hg hm ?_ hdb)
 refine PySem.W.callWith_K (h₀:=X.base) I.ok.mod.kin M.kp (cp (ha pos pins s σ H _ I h) fun us s1 ⟨vs,H1,I1,r,q⟩=>⟨I1.kIn,?_⟩) he hpl
 exact yW M F hr hb hd hx I1 r q
end
section
variable {X:Cx} {CX:uD} {k:Nat} {f C:Addr} {fd:FuncData} {ps ks:List Str} {sp:Sp} {E:St->XK} {x m:Str} {p pos apos kpos:Pos} {e o:Expr} {es:List Expr} {kws:List Keyword} {te ta:TE} {t tk:TA} {nm:Option Str}
variable {g:List Value->List Value->List Value} {gV:List V->List V->List V}
end
structure aK (N P:List Str) (sc:Scope):Prop where
 kind:sc.kind= .function
 co:sc.isCoroutine=false
 gen:sc.isGenerator=false
 nd:N.Nodup
 pre:N.take P.length=P
 par:∀x∈P,sc.names.lookup x=some .local\/sc.names.lookup x=some .cell
 nofree:∀y∈sc.names,y.2≠ .free
theorem qi {kindOf:Str->Option NameKind} {x:Str}:∀{binds:List (Str×Value)} {m:Str->Option Value},(∀v,(x,v)∉binds)->bindL kindOf binds m x=m x
 |[],_,_=>rfl
 |(n,v)::r,m,h=>by
  unfold bindL
  rw[qi fun w hw=>h w (List.mem_cons_of_mem _ hw)]
  split
  ·have:x≠n:=by rintro rfl;exact h v List.mem_cons_self
   simp[this]
  ·rfl
theorem qj {kindOf:Str->Option NameKind} {x:Str}:∀{binds:List (Str×Value)} {m:Str->Option Value},(∀v,(x,v)∉binds)->bindC kindOf binds m x=m x
 |[],_,_=>rfl
 |(n,v)::r,m,h=>by
  unfold bindC
  rw[qj fun w hw=>h w (List.mem_cons_of_mem _ hw)]
  split
  ·rfl
  ·have:x≠n:=by rintro rfl;exact h v List.mem_cons_self
   simp[this]
theorem qk {kindOf:Str->Option NameKind} {x:Str} {v:Value}:∀{P:List Str} {vs:List Value} {i:Nat} {m:Str->Option Value},P.Nodup->P[i]? =some x->vs[i]? =some v->kindOf x=some .local->
  bindL kindOf (P.zip vs) m x=some v
 |[],_,_,_,_,h,_,_=>by simp at h
 |_::_,[],_,_,_,_,h,_=>by simp at h
 |p::P,w::vs,0,m,nd,h1,h2,hk=>by
  simp at h1 h2;subst h1;subst h2
  show bindL kindOf ((p,w)::P.zip vs) m p=_
  unfold bindL
  rw[qi fun v hv=>(List.nodup_cons.mp nd).1 (List.of_mem_zip hv).1,if_pos hk]
  simp
 |p::P,w::vs,i+1,m,nd,h1,h2,hk=>by
  show bindL kindOf ((p,w)::P.zip vs) m x=_
  unfold bindL
  exact qk (i:=i) (List.nodup_cons.mp nd).2 (by simpa using h1) (by simpa using h2) hk
theorem ql {kindOf:Str->Option NameKind} {x:Str} {v:Value}:∀{P:List Str} {vs:List Value} {i:Nat} {m:Str->Option Value},P.Nodup->P[i]? =some x->vs[i]? =some v->kindOf x≠some .local->
  bindC kindOf (P.zip vs) m x=some v
 |[],_,_,_,_,h,_,_=>by simp at h
 |_::_,[],_,_,_,_,h,_=>by simp at h
 |p::P,w::vs,0,m,nd,h1,h2,hk=>by
  simp at h1 h2;subst h1;subst h2
  show bindC kindOf ((p,w)::P.zip vs) m p=_
  unfold bindC
  rw[qj fun v hv=>(List.nodup_cons.mp nd).1 (List.of_mem_zip hv).1,if_neg hk]
  simp
 |p::P,w::vs,i+1,m,nd,h1,h2,hk=>by
  show bindC kindOf ((p,w)::P.zip vs) m x=_
  unfold bindC
  exact ql (i:=i) (List.nodup_cons.mp nd).2 (by simpa using h1) (by simpa using h2) hk
def gF (N:List Str) (vs:List V):St:=vs.map some++List.replicate (N.length - vs.length) none
def jH (CX:uD) (P:Program) (w:World) (K:PySem.W.Frag) (mg:Str->Option Value) (base:Heap) (N:List Str) (qual:Str) (scope:Scope) (f:Addr) (cd:Value) (A:Around) (outer:List Env) (s:Shared) (H:Hp) (E:XK):Cx where
 prog:=P
 w:=w
 K:=K
 mg:=mg
 base:=base
 A:=A.deeper (envOfC qual scope s.heap.objs.size f cd)
 N:=N
 s₀:=s
 H₀:=H
 env:=envOfC qual scope s.heap.objs.size f cd
 outer:=outer
 stack:=envOfC qual scope s.heap.objs.size f cd::outer
 ex:=[]
 calm:=true
 fn:=fun _=>true
 pn:=[]
 xe:=fun e s'=>wpAny (model P w) (A.deeper (envOfC qual scope s.heap.objs.size f cd)) (leaving (envOfC qual scope s.heap.objs.size f cd) e) (fun _ s''=>CX outer H s E e s'') (fun e' s''=>CX outer H s E e' s'') s'
theorem sI {sc:Scope} {n:Nat} {x:Str} (h:sc.names.lookup x=some .cell):∃c,(cellsFrom n sc.names []).lookup x=some c:=by
 have q:=PySem.W.cellsFrom_some sc.names n [] (.inl h)
 exact Option.isSome_iff_exists.mp q
theorem xr {CX:uD} {P:Program} {w:World} {K:PySem.W.Frag} {mg:Str->Option Value} {base:Heap} {N ps:List Str} {qual:Str} {scope:Scope} {f:Addr} {cd:Value} {A:Around} {outer:List Env} {s s1:Shared} {H:Hp} {E:XK} {us:List Value} {vs:List V}
  (S:aK N ps scope) (hd:A.handled=none) (e0:uE P w K mg base A outer s H) (hl:vs.length=ps.length) (r:aS vs us)
  (x:InCallC s s.heap.objs.size (bindL (envOfC qual scope s.heap.objs.size f cd).kindOf (ps.zip us) fun _=>none) (cellsFrom (s.heap.objs.size+1) scope.names []) (bindC (envOfC qual scope s.heap.objs.size f cd).kindOf (ps.zip us) fun _=>none) s1):
  aF (jH CX P w K mg base N qual scope f cd A outer s H E) [] (gF N vs) H s1:=by
 have hpl:ps.length<=N.length:=by have:=congrArg List.length S.pre;rw[List.length_take]at this;omega
 obtain⟨h1,tk,rfl,hk⟩:=x.done
 have noA:∀b:Addr,b∉(jH CX P w K mg base N qual scope f cd A outer s H E).ex:=fun b z=>absurd (show b∈([]:List Addr)from z) (by simp)
 refine⟨⟨e0.mod,S.kind,rfl,rfl,Nat.le_refl _,fun y z c h1 h2=> ?_,fun y hy=> ?_,fun y c _ h=> ?_,fun _=>hd,Around.frames_deeper e0.frames, .inr ⟨rfl,rfl⟩,fun b z=>absurd z (noA b),e0.bs,e0.bsz,fun b _ _=>noA b,fun b z=>absurd z (noA b),e0.funs,e0.frf⟩,
  rfl,e0.bare,Un.kept hk,⟨_,x.toInCall.ns,fun i y v h1 h2 h3=> ?_⟩,fun y c h=>⟨_,x.cell y c h⟩,e0.hok.fresh (Nat.le_refl _),fun y c h=> ?_,fun p hp=>absurd (show p∈([]:List (Addr×Obj))from hp) (by simp),e0.hok.kept hk,?_⟩
 ·exact name_of_addr x.apart (PySem.mem_of_lookup h1) (PySem.mem_of_lookup h2)
 ·have hy:scope.names.lookup y=some .cell\/scope.names.lookup y=some .free:=hy
  rcases hy with hy|hy
  ·exact sI hy
  ·exact absurd rfl (S.nofree _ (PySem.mem_of_lookup hy))
 ·exact Nat.le_of_lt (x.above y c (PySem.mem_of_lookup h))
 ·have hi:i<vs.length:=by
   unfold gF at h2
   by_cases hi:i<vs.length
   ·exact hi
   ·rw[List.getElem?_append_right (by simpa using hi)]at h2
    rw[List.getElem?_replicate]at h2
    split at h2<;>cases h2
  have ha:vs[i]? =some v:=by
   unfold gF at h2
   rw[List.getElem?_append_left (by simpa using hi),List.getElem?_map]at h2
   cases e:vs[i]? with
   |none=>rw[e]at h2;cases h2
   |some a=>rw[e]at h2;cases h2;rfl
  obtain⟨u,hu,rv⟩:=r.get ha
  have hp:ps[i]? =some y:=by
   rw[<-S.pre,List.getElem?_take_of_lt (by omega)];exact h1
  have ndP:ps.Nodup:=by rw[<-S.pre];exact S.nd.sublist (List.take_sublist _ _)
  refine⟨u,rv,?_⟩
  rcases S.par y (List.mem_of_getElem? hp)with k|k
  ·exact .inl ⟨k,qk ndP hp hu k⟩
  ·obtain⟨c,e⟩:=sI (n:=s.heap.objs.size+1) k
   refine .inr ⟨.inl k,c,e,?_⟩
   have q:=x.cell y c e
   rw[ql ndP hp hu (by show scope.names.lookup y≠_;rw[k];decide)]at q
   exact q
 ·exact e0.hok.fresh (Nat.le_of_lt (x.above y c (PySem.mem_of_lookup h)))
 ·unfold gF
  show _=N.length
  rw[List.length_append,List.length_map,List.length_replicate]
  omega
theorem Dj {CX:uD} {P:Program} {w:World} {K:PySem.W.Frag} {mg:Str->Option Value} {base:Heap} {k:Nat} {f:Addr} {name qual:Str} {params:Arguments} {body:List Stmt} {scope:Scope} {dV kV doc pm cdv ct oc:Value} {an od:Option Addr}
  {osl:Array (Option Value)} {N ps:List Str} {sp:Sp} (lk:K.lookup f=some ⟨oc,od, .func (PySem.W.fnOf name qual params body scope dV kV doc pm an cdv ct),osl⟩) (hcd:PySem.W.codeIn K cdv qual=true) (S:aK N ps scope)
  (len:∀vs H Q E,sp vs H Q E->vs.length=ps.length)
  (hbody:∀(A:Around) (outer:List Env) (s:Shared) (H:Hp) (vs:List V) (Q:VK) (E:XK),dD k (A.deeper (envOfC qual scope s.heap.objs.size f cdv))->sp vs H Q E->
   ∃t,pQ (jH CX P w K mg base N qual scope f cdv A outer s H E) body t/\t {nx:=fun _ H'=>Q .non H',rt:=Q} (gF N vs) H):
  gE P w K mg base CX (k+1) f (PySem.W.fnOf name qual params body scope dV kV doc pm an cdv ct) ps sp:=by
 refine⟨len,fun A outer s H args us vs Q E hr e0 hb r hsp=> ?_⟩
 have hl:=len _ _ _ _ hsp
 have KX:K.In s.heap:=e0.mod.kin.keeps fun b o e=>(e0.bs b o e).1
 have lim:s.heap.NoLimit:=e0.mod.nolimit.keeps fun b o e=>(e0.bs b o e).1
 have hkind:∀y∈ps.zip us,scope.names.lookup y.1=some .local\/(scope.names.lookup y.1=some .cell/\((cellsFrom (s.heap.objs.size+1) scope.names []).lookup y.1).isSome=true):=fun ⟨n,v⟩ hy=>by
  rcases S.par n (List.of_mem_zip hy).1 with q|q
  ·exact .inl q
  ·exact .inr ⟨q,PySem.W.cellsFrom_some _ _ _ (.inl q)⟩
 refine codeAny_call_function hr.depth (KX _ _ lk) rfl S.co S.gen rfl (PySem.W.codeRec_of KX hcd) (hb _ _ _ _ ?_)
 refine wpAny_newFunctionEnv_cells S.kind hkind fun env he s1 x=> ?_
 subst he
 refine⟨lim.keeps x.toInCall.keep,codeAny_func ?_⟩
 obtain⟨t,ht,hq⟩:=hbody A outer s H vs Q E (hr.deeper _) hsp
 have I:aF (jH CX P w K mg base N qual scope f cdv A outer s H E) [] (gF N vs) H s1:=xr S hr.hd e0 hl r x
 refine wpAny_mono (ht [] s1 (gF N vs) H _ I hq) (fun fl s' hs=> ?_) fun e s' hs=>hs
 have fin:∀{σ':St} {H':Hp} {v:V} {u:Value},aF (jH CX P w K mg base N qual scope f cdv A outer s H E) [] σ' H' s'->bx v u->Q v H'->CE outer P w H s Q u s':=
  fun {σ' H' v u} J rv q=>⟨v,H',J.os,J.bare,J.base,J.hok,rv,q⟩
 cases fl with
 |ret u=>
  obtain⟨v,σ',H',J,rv,q⟩:=hs
  exact fin J rv q
 |next=>
  obtain⟨σ',H',J,q⟩:=hs
  exact fin (v:=V.non) (u:=Value.none) J rfl q
 |brk=>
  obtain⟨_,_,_,q⟩:=hs
  exact False.elim q
 |cont=>
  obtain⟨_,_,_,q⟩:=hs
  exact False.elim q
end L2
namespace L2
open PySem PySem.Spec PyProof.Rows
section
variable {X:Cx} {x:Str} {p pos:Pos} {e:Expr} {es:List Expr} {t:TA} {id T:String} {r:List V->Hp->VK->Prop}
def HD (r:List V->Hp->VK->Prop) (t:TA):TE:=fun σ H Q=>t σ H fun vs H1=>r vs H1 Q
theorem jI (hc:cT X (.builtin id) r) (hg:Gl X x) (hm:X.mg x=none) (hv:bootBuiltins x=some (.builtin id)) (ha:PA X (e::es) t) (hn:x≠"__name__":=by decide) (hdb:(x==("__debug__":Str))=false:=by decide)
  (he:starEach (e::es) X.env=(false,eval e X.env)::starEach es X.env:=by rfl) (hpl:(backTo pos (starEach es X.env)).any (·.1)=false:=by rfl):PE X (.Call (.Name x p) (e::es) [] pos) (HD r t):=by
 intro pins s σ H Q I h
 refine wpAny_Call_Name_kw (jF I hg hm hv ?_ hn hdb)
 exact PyProof.Rows.callWith_builtin1 (cp (ha pos pins s σ H _ I h) fun us s1 ⟨vs,H1,I1,r1,q1⟩=>hc pins s1 σ H1 vs us Q I1 r1 q1) he hpl
theorem ki (hc:cT X (.type T) r) (hg:Gl X x) (hm:X.mg x=none) (hv:bootBuiltins x=some (.type T)) (ha:PA X (e::es) t) (hn:x≠"__name__":=by decide) (hdb:(x==("__debug__":Str))=false:=by decide)
  (he:starEach (e::es) X.env=(false,eval e X.env)::starEach es X.env:=by rfl) (hpl:(backTo pos (starEach es X.env)).any (·.1)=false:=by rfl):PE X (.Call (.Name x p) (e::es) [] pos) (HD r t):=by
 intro pins s σ H Q I h
 refine wpAny_Call_Name_kw (jF I hg hm hv ?_ hn hdb)
 exact PyProof.Rows.callWith_type1 (cp (ha pos pins s σ H _ I h) fun us s1 ⟨vs,H1,I1,r1,q1⟩=>hc pins s1 σ H1 vs us Q I1 r1 q1) he hpl
end
end L2
namespace HT
open PySem PyProof.Rows
section
open PySem.SeqAt
open PySem.AutoSeq1 (wpAny_loadPart')
open PySem.MeetsSeq PySem.MeetsSeq2 PySem.MeetsSeq3
end
section
variable {prog:Program} {w:World} {A:Around} {E:Value->Shared->Prop} {s:Shared}
theorem BF {t b:Addr} {vs ws:List Value} {Q:Value->Shared->Prop} (ht:IsTup s.heap t vs.toArray) (hb:IsTup s.heap b ws.toArray) (hv:vs≠[])
  (h1:ws=[]->Q (.ref t) s) (h2:ws≠[]->Q (.ref s.heap.objs.size) {s with heap:=s.heap.push {cls:= .type "tuple",data:= .seq (vs++ws).toArray}})
  (hsz:vs.length+ws.length<=sizeLine):wpAny (model prog w) A (binaryOp .Add (.ref t) (.ref b)) Q E s:=by
 obtain⟨⟨cls,dd,data,sl⟩,ho,hc,n,hd⟩:=id ht
 obtain⟨⟨cls2,dd2,data2,sl2⟩,ho2,hc2,n2,hd2⟩:=id hb
 simp only at hc hd hc2 hd2
 subst hc hd hc2 hd2
 have e:vs.toArray++ws.toArray=(vs++ws).toArray:=by simp
 by_cases hw:ws=[]
 ·exact concat_meets ⟨_,ho,rfl⟩ ⟨_,ho2,rfl⟩ noFill_tuple_add seq_tuple_add PySem.F.slot_tuple_add PySem.F.entry_tuple_add (PySem.F.args_tuple_add_2 _ _)
   (tuple_addW1 t b vs.toArray ws.toArray n n2 dd dd2 sl sl2 (by simpa using hv) (by simp[hw])) ⟨ho,ho2,h1 hw⟩
 ·refine concat_meets ⟨_,ho,rfl⟩ ⟨_,ho2,rfl⟩ noFill_tuple_add seq_tuple_add PySem.F.slot_tuple_add PySem.F.entry_tuple_add (PySem.F.args_tuple_add_2 _ _)
   (tuple_addW2 t b vs.toArray ws.toArray n n2 dd dd2 sl sl2 (by simpa using hv) (by simpa using hw) (by rw[List.size_toArray,List.size_toArray];exact hsz)) ⟨ho,ho2,?_⟩
  rw[e]
  exact h2 hw
def dE (n d:Nat):Option Int->Nat
 |none=>d
 |some v=>if v<0 then (v+(n:Int)).toNat else min v.toNat n
theorem Eb (n d:Nat) (hd:d<=n) (o:Option Int):dE n d o<=n:=by
 cases o with
 |none=>exact hd
 |some v=>
  show (if v<0 then (v+(n:Int)).toNat else min v.toNat n)<=n
  by_cases hv:v<0
  ·rw[if_pos hv];omega
  ·rw[if_neg hv];exact Nat.min_le_right _ _
theorem vR (v:Int) (n d:Nat):(if v<0 then max (v+(n:Int)) 0 else min v (n:Int))=((dE n d (some v):Nat):Int):=by
 show (if v<0 then max (v+(n:Int)) 0 else min v (n:Int))=(((if v<0 then (v+(n:Int)).toNat else min v.toNat n):Nat):Int)
 by_cases hv:v<0
 ·simp only[if_pos hv];omega
 ·simp only[if_neg hv];omega
theorem uG (lo hi:Option Int) (n:Nat):Builtin.Slice.sliceAdjust lo hi 1 (n:Int)=(((dE n 0 lo:Nat):Int),((dE n n hi:Nat):Int)):=by
 have h1:¬((1:Int)<0):=by omega
 unfold Builtin.Slice.sliceAdjust
 simp only[h1,if_false]
 refine Prod.ext ?_ ?_
 ·cases lo with
  |none=>rfl
  |some v=>exact vR v n 0
 ·cases hi with
  |none=>rfl
  |some v=>exact vR v n n
theorem uH (i j:Nat):Builtin.Slice.slicePlaces (i:Int) (j:Int) 1=j - i:=by
 unfold Builtin.Slice.slicePlaces
 have h1:(1:Int)>0:=by omega
 simp only[h1,if_true,Int.ediv_one]
 split<;>omega
theorem o9 {v:Value} {o:Option Int} {Q:Option Int->Shared->Prop} (p:IsPart v o) (h:Q o s):wpAny (model prog w) A (Builtin.Slice.slicePartIndex v) Q E s:=by
 cases p with
 |none=>exact slicePart_none h
 |int i t=>exact slicePart_int h
theorem iS {sl:Addr} {vl vu:Value} {lo hi:Option Int} {n:Nat} {Q:Int×Int×Nat->Shared->Prop} (hs:s.heap.IsSliceOf sl vl vu .none) (pl:IsPart vl lo) (pu:IsPart vu hi)
  (h:Q (((dE n 0 lo:Nat):Int),1,dE n n hi - dE n 0 lo) s):wpAny (model prog w) A (Builtin.Slice.sliceApplied (.ref sl) (pure (n:Int))) Q E s:=by
 obtain⟨os,hos,hcs,hds⟩:=id hs
 unfold Builtin.Slice.sliceApplied Builtin.Slice.sliceFields
 refine wpAny_bind (wpAny_bind (wpAny_field hos hds (x:=vl) rfl (wpAny_bind (wpAny_field hos hds (x:=vu) rfl (wpAny_bind (wpAny_field hos hds (x:= .none) rfl (wpAny_pure ?_)))))))
 refine wpAny_bind (slicePart_none ?_)
 show wpAny _ _ (if ((1:Int)==0)=true then _ else _) _ _ s
 rw[if_neg (by decide)]
 refine wpAny_bind (o9 pl (wpAny_bind (o9 pu (wpAny_bind (wpAny_pure ?_)))))
 show wpAny _ _ (match Builtin.Slice.sliceAdjust lo hi 1 (n:Int)with|(lo,hi)=>pure (lo,(1:Int),Builtin.Slice.slicePlaces lo hi 1)) _ _ s
 rw[uG lo hi n]
 show wpAny _ _ (pure (((dE n 0 lo:Nat):Int),(1:Int),Builtin.Slice.slicePlaces ((dE n 0 lo:Nat):Int) ((dE n n hi:Nat):Int) 1)) _ _ s
 rw[uH]
 exact wpAny_pure h
theorem yX (xs:Array Value) (i k:Nat):((List.range k).filterMap fun (m:Nat)=>xs[((i:Int)+(m:Int)*1).toNat]?).toArray=((xs.toList.drop i).take k).toArray:=by
 have e:(fun (m:Nat)=>xs[((i:Int)+(m:Int)*1).toNat]?)=fun m=>xs[i+m]? :=by
  funext m
  have:((i:Int)+(m:Int)*1).toNat=i+m:=by omega
  rw[this]
 rw[e]
 have:=pick_run xs i k
 rw[List.filterMap_map]at this
 have e2:((fun x=>xs[x]?)∘fun x=>i+x)=fun m=>xs[i+m]? :=rfl
 rw[e2]at this
 rw[this]
theorem lG {t sl:Addr} {items:Array Value} {vl vu:Value} {lo hi:Option Int} {Q:Value->Shared->Prop} (ht:IsTup s.heap t items) (hs:s.heap.IsSliceOf sl vl vu .none) (pl:IsPart vl lo) (pu:IsPart vu hi)
  (hw:¬(dE items.size 0 lo=0/\dE items.size items.size hi=items.size))
  (h:Q (.ref s.heap.objs.size) {s with heap:=s.heap.push {cls:= .type "tuple",data:= .seq ((items.toList.drop (dE items.size 0 lo)).take (dE items.size items.size hi - dE items.size 0 lo)).toArray}})
  (hsz:items.size<=sizeLine):wpAny (model prog w) A (getItem (.ref t) (.ref sl)) Q E s:=by
 have htake:sizeOk (.seq ((items.toList.drop (dE items.size 0 lo)).take (dE items.size items.size hi - dE items.size 0 lo)).toArray):=by
  show ((items.toList.drop (dE items.size 0 lo)).take (dE items.size items.size hi - dE items.size 0 lo)).toArray.size<=sizeLine
  rw[List.size_toArray,List.length_take,List.length_drop,Array.length_toList]
  omega
 have hj:dE items.size items.size hi<=items.size:=Eb _ _ (Nat.le_refl _) hi
 obtain⟨os,hos,hcs,hds⟩:=id hs
 have hTs:s.TypeIs (.ref sl) "slice":=⟨os,hos,hcs⟩
 unfold getItem
 try with_reducible refine wpAny_holding ?_
 first|refine wpAny_bind (wpAny_pure ?_)|skip
 refine wpAny_bind (wpAny_sequenceKey ht.typeIs (by decide) ?_)
 refine wpAny_bind (wpAny_callSpecial?_slot (name:=Str.ofString "__getitem__") ht.typeIs PyProof.Rows.slot_tuple_getitem
  (wpAny_call_entry PyProof.Rows.slot_tuple_getitem ht.typeIs entry_tuple_getitem ?_ (args_tuple_getitem _ _)))
 show wpAny _ _ (Builtin.Tuple.tupleItemsOf (.ref t)>>=_) _ _ s
 refine wpAny_bind (tupleItemsOf_ ht ?_)
 refine wpAny_bind (wpAny_typeOf hTs ?_)
 rw[if_pos (by decide)]
 refine wpAny_bind (iS hs pl pu ?_)
 have hno:¬((((dE items.size 0 lo:Nat):Int)==0&&(1:Int)==1&&(dE items.size items.size hi - dE items.size 0 lo)==items.size)=true):=by
  intro q
  rw[Bool.and_eq_true,Bool.and_eq_true]at q
  have q1:((dE items.size 0 lo:Nat):Int)=0:=eq_of_beq q.1.1
  have q2:dE items.size items.size hi - dE items.size 0 lo=items.size:=eq_of_beq q.2
  exact hw ⟨by omega,by omega⟩
 show wpAny _ _ (if (((dE items.size 0 lo:Nat):Int)==0&&(1:Int)==1&&(dE items.size items.size hi - dE items.size 0 lo)==items.size)=true then _ else _) _ _ s
 rw[if_neg hno,yX]
 first
  |exact wpAny_bind (m:=Builtin.Tuple.tupleExact _) (wpAny_newObj_type (wpAny_pure ⟨_,rfl,wpAny_pure h⟩) htake)
  |exact wpAny_bind (m:=Builtin.Tuple.tupleExact _) (wpAny_newObj_type (wpAny_bind (wpAny_pure (wpAny_pure ⟨_,rfl,wpAny_pure h⟩))) htake)
  |exact wpAny_bind (wpAny_bind (m:=Builtin.Tuple.tupleExact _) (wpAny_newObj_type (wpAny_pure (wpAny_pure ⟨_,rfl,wpAny_pure h⟩)) htake))
  |exact wpAny_bind (wpAny_bind (m:=Builtin.Tuple.tupleExact _) (wpAny_newObj_type (wpAny_pure ⟨_,rfl,wpAny_pure h⟩) htake))
end
end HT
namespace L2
open PySem PySem.Spec PyProof.Rows
abbrev TO:=St->Hp->(Option Int->Hp->Prop)->Prop
def PO (X:Cx) (e:Option Expr) (t:TO):Prop:=
 ∀(pins:List (Addr×Obj)) (s:Shared) (σ:St) (H:Hp) (Q:Option Int->Hp->Prop),aF X pins σ H s->t σ H Q->
  wpAny (model X.prog X.w) X.A (evalPart e X.env) (fun u s'=>∃o H',aF X pins σ H' s'/\IsPart u o/\Q o H') X.xe s
def BG:TO:=fun _ H Q=>Q none H
def G0 (t:TE):TO:=fun σ H Q=>t σ H fun x H1=>∃i,x= .int i/\Q (some i) H1
theorem kW {ns:List Int}:∀{us:List Value},aS (ns.map V.int) us->IntsAre us ns:=by
 induction ns with
 |nil=>intro us r;rw[List.map_nil]at r;cases r;exact .nil
 |cons n ns ih=>
  intro us r
  rw[List.map_cons]at r
  cases r with
  |cons r1 r2=>
   obtain⟨t,e⟩:=r1
   subst e
   exact .cons n t (ih r2)
section
variable {X:Cx} {e:Expr} {te:TE} {lo hi:Option Expr} {tl th:TO} {pos p2:Pos}
theorem BH:PO X none BG:=by
 intro pins s σ H Q I h
 rw[evalPart_none]
 exact wpAny_pure ⟨none,H,I, .none,h⟩
theorem vS (h:PE X e te):PO X (some e) (G0 te):=by
 intro pins s σ H Q I hw
 rw[evalPart_some]
 refine cp (h pins s σ H _ I hw) fun u s1 z_=> ?_
 obtain⟨x,H1,I1,r1,q1⟩:=z_
 obtain⟨i,rfl,q⟩:=q1
 obtain⟨t,rfl⟩:=r1
 exact⟨some i,H1,I1, .int i t,q⟩
def Dk (X:Cx) (r:V->Option Int->Option Int->Hp->VK->Prop):Prop:=
 ∀(pins:List (Addr×Obj)) (s:Shared) (σ:St) (H:Hp) (x:V) (v vl vu:Value) (lo hi:Option Int) (sl:Addr) (Q:VK),aF X pins σ H s->bx x v->s.heap.IsSliceOf sl vl vu .none->IsPart vl lo->IsPart vu hi->r x lo hi H Q->
  ∃T id,typeLookup (.type T) "__getitem__"=pure (some (.builtin id))/\s.TypeIs v T/\wpAny (model X.prog X.w) X.A (getItem v (.ref sl)) (EP X pins σ Q) X.xe s
theorem Dk.or {r r':V->Option Int->Option Int->Hp->VK->Prop} (h:Dk X r) (h':Dk X r'):Dk X (fun x lo hi H Q=>r x lo hi H Q\/r' x lo hi H Q):=by
 intro pins s σ H x v vl vu lo hi sl Q I rx hs pl pu q
 rcases q with q|q
 ·exact h pins s σ H x v vl vu lo hi sl Q I rx hs pl pu q
 ·exact h' pins s σ H x v vl vu lo hi sl Q I rx hs pl pu q
def Iy (r:V->Option Int->Option Int->Hp->VK->Prop) (te:TE) (tl th:TO):TE:=fun σ H Q=>te σ H fun x H1=>tl σ H1 fun l H2=>th σ H2 fun u H3=>r x l u H3 Q
theorem yY {r:V->Option Int->Option Int->Hp->VK->Prop} (hr:Dk X r) (he:PE X e te) (hl:PO X lo tl) (hu:PO X hi th):PE X (.Subscript e (.Slice lo hi none p2) pos) (Iy r te tl th):=by
 intro pins s σ H Q I h
 refine Subscript_ (cp (he pins s σ H _ I h) fun v s1 z_=> ?_)
 obtain⟨x,H1,I1,r1,q1⟩:=z_
 refine wpAny_Slice (cp (hl pins s1 σ H1 _ I1 q1) fun vl s2 ⟨l,H2,I2,pl,q2⟩=>cp (hu pins s2 σ H2 _ I2 q2) fun vu s3 z_=> ?_)
 obtain⟨u,H3,I3,pu,q3⟩:=z_
 rw[evalPart_none]
 refine wpAny_pure ?_
 have I4:aF X pins σ H3 {s3 with heap:=s3.heap.push {cls:= .type "slice",data:= .fields #[vl,vu, .none]}}:=I3.kept (t':=s3.toks) fun b ob q=>Heap.get?_push_of_some _ q
 obtain⟨T,id,hT,ht,hg⟩:=hr pins {s3 with heap:=s3.heap.push {cls:= .type "slice",data:= .fields #[vl,vu, .none]}} σ H3 x v vl vu l u s3.heap.objs.size Q I4 r1 (Heap.IsSliceOf.new ..) pl pu q3
 show wpAny (model X.prog X.w) X.A (subscriptTail e (.Slice lo hi none p2) v (.ref s3.heap.objs.size)) (EP X pins σ Q) X.xe {s3 with heap:=s3.heap.push {cls:= .type "slice",data:= .fields #[vl,vu, .none]}}
 exact tail_any (ops:=[.ref s3.heap.objs.size,v]) ht hT hg (by with_unfolding_all rfl)
def pR (xs:List V) (lo hi:Option Int):List V:=(xs.drop (HT.dE xs.length 0 lo)).take (HT.dE xs.length xs.length hi - HT.dE xs.length 0 lo)
theorem n6 (xs:List V) (lo hi:Option Int):(pR xs lo hi).length<=xs.length:=by
 unfold pR
 rw[List.length_take,List.length_drop]
 omega
def HE (K:PySem.W.Frag):V->Option Int->Option Int->Hp->VK->Prop:=fun x lo hi H Q=>∃a xs,x= .ref a/\h_ K H a xs/\
 ¬(HT.dE xs.length 0 lo=0/\HT.dE xs.length xs.length hi=xs.length)/\∀p,H p=none->Q (.ref p) (bK H p (.tup (pR xs lo hi)))
theorem Ec:Dk X (HE X.K):=by
 intro pins s σ H x v vl vu lo hi sl Q I rx hs pl pu h
 obtain⟨a,xs,rfl,hx,hw,q⟩:=h
 cases rx
 obtain⟨its,r,ht,hz⟩:=I.tuple hx
 have hlen:its.toArray.size=xs.length:=by rw[List.size_toArray];exact r.length.symm
 refine⟨"tuple",_,PyProof.Rows.slot_tuple_getitem.lookup,ht.typeIs,?_⟩
 refine HT.lG ht hs pl pu (by rw[hlen];exact hw) ?_ (by rw[hlen];exact hz)
 rw[hlen]
 refine⟨.ref s.heap.objs.size,_,I.laid (t':=s.toks) (o:= .tup (pR xs lo hi)) (fun b ob q=>Heap.get?_push_of_some _ q) (Nat.le_refl _) ?_,rfl,q _ (I.hok.fresh (Nat.le_refl _))⟩
 exact⟨Nat.le_trans (n6 xs lo hi) hz,_,(r.drop (HT.dE xs.length 0 lo)).take (HT.dE xs.length xs.length hi - HT.dE xs.length 0 lo),gU.new _ _⟩
def Dl (K:PySem.W.Frag):R2:=fun x y H Q=>∃a b xs ys,x= .ref a/\y= .ref b/\h_ K H a xs/\h_ K H b ys/\xs≠[]/\xs.length+ys.length<=sizeLine/\
 (ys=[]->Q (.ref a) H)/\(ys≠[]->∀p,H p=none->Q (.ref p) (bK H p (.tup (xs++ys))))
theorem aS.nil_iff {xs:List V} {us:List Value} (r:aS xs us):us=[]<->xs=[]:=by
 cases r with
 |nil=>simp
 |cons _ _=>simp
theorem BI:kh X (binaryOp .Add) (Dl X.K):=by
 intro pins s σ H x y v u Q I rx ry h
 obtain⟨a,b,xs,ys,rfl,rfl,ha,hb,hx,hz,q1,q2⟩:=h
 cases rx
 cases ry
 obtain⟨its,r1,p1,_⟩:=I.tuple ha
 obtain⟨its2,r2,p2,_⟩:=I.tuple hb
 refine HT.BF p1 p2 (fun z=>hx (r1.nil_iff.mp z)) (fun z=>⟨.ref a,H,I,rfl,q1 (r2.nil_iff.mp z)⟩) (fun z=> ?_) (by rw[<-r1.length,<-r2.length];exact hz)
 refine⟨.ref s.heap.objs.size,_,I.laid (t':=s.toks) (o:= .tup (xs++ys)) (fun b ob q=>Heap.get?_push_of_some _ q) (Nat.le_refl _) ?_,rfl,q2 (fun w=>z (r2.nil_iff.mpr w)) _ (I.hok.fresh (Nat.le_refl _))⟩
 exact⟨by rw[List.length_append];exact hz,_,r1.append r2,gU.new _ _⟩
end
end L2
namespace L2
open PySem PySem.Spec PyProof.Rows
def uI (n:Nat) (i:Int):Option Nat:=if 0<=i then (if i<n then some i.toNat else none)else if -(n:Int)<=i then some (i+n).toNat else none
def atI {α:Type} (xs:List α) (i:Int):Option α:=(uI xs.length i).bind fun j=>xs[j]?
theorem vT {n:Nat} {i:Int} {j:Nat} (h:uI n i=some j):seqIndex? i n=some j/\j<n/\ -(n:Int)<=i/\i<n:=by
 unfold uI at h
 by_cases h0:0<=i
 ·rw[if_pos h0]at h
  by_cases h1:i<n
  ·rw[if_pos h1]at h
   have e:i.toNat=j:=Option.some.inj h
   exact⟨by rw[seqIndex_of h0 h1,e],by omega,by omega,h1⟩
  ·rw[if_neg h1]at h;cases h
 ·rw[if_neg h0]at h
  by_cases h1: -(n:Int)<=i
  ·rw[if_pos h1]at h
   have e:(i+n).toNat=j:=Option.some.inj h
   exact⟨by rw[seqIndex_neg (by omega) h1,e],by omega,h1,by omega⟩
  ·rw[if_neg h1]at h;cases h
theorem re {α:Type} {xs:List α} {i:Int} {v:α} (h:atI xs i=some v):∃j,seqIndex? i xs.length=some j/\xs[j]? =some v/\j<xs.length/\ -(xs.length:Int)<=i/\i<xs.length:=by
 unfold atI at h
 cases e:uI xs.length i with
 |none=>rw[e]at h;cases h
 |some j=>
  rw[e]at h
  obtain⟨h1,h2,h3,h4⟩:=vT e
  exact⟨j,h1,h,h2,h3,h4⟩
theorem nV {α:Type} {xs:List α} {j:Nat} {v:α} (h:xs[j]? =some v):atI xs (j:Int)=some v:=by
 have hj:j<xs.length:=(List.getElem?_eq_some_iff.mp h).1
 have e:uI xs.length (j:Int)=some j:=by
  unfold uI
  rw[if_pos (by omega),if_pos (by omega)];simp
 unfold atI;rw[e];exact h
def vU (b:Expr):Prop:=∀o i,subscripted b false o i=operate [o,i] (getItem o i)
def BJ (X:Cx) (r:R2):Prop:=
 ∀(value slice:Expr) (pins:List (Addr×Obj)) (s:Shared) (σ:St) (H:Hp) (x y:V) (v u:Value) (Q:VK),aF X pins σ H s->bx x v->bx y u->r x y H Q->
  subscripted slice false v u=operate [v,u] (getItem v u)->wpAny (model X.prog X.w) X.A (subscriptTail value slice v u) (EP X pins σ Q) X.xe s
def Iz (X:Cx) (id:String) (r:V->List V->Hp->VK->Prop):Prop:=
 ∀(pins:List (Addr×Obj)) (s:Shared) (σ:St) (H:Hp) (x:V) (xs:List V) (v:Value) (us:List Value) (Q:VK),aF X pins σ H s->bx x v->aS xs us->r x xs H Q->
  wpAny (model X.prog X.w) X.A (call (.builtin id) (v::us)) (EP X pins σ Q) X.xe s
section
variable {X:Cx} {a b:Expr} {ta tb:TE} {pos:Pos}
theorem BJ.or {r r':R2} (h:BJ X r) (h':BJ X r'):BJ X (fun x y H Q=>r x y H Q\/r' x y H Q):=by
 intro value slice pins s σ H x y v u Q I rx ry q hs
 rcases q with q|q
 ·exact h value slice pins s σ H x y v u Q I rx ry q hs
 ·exact h' value slice pins s σ H x y v u Q I rx ry q hs
theorem G1 {r:R2} (hr:BJ X r) (ha:PE X a ta) (hb:PE X b tb) (hs:vU b):PE X (.Subscript a b pos) (GY r ta tb):=by
 intro pins s σ H Q I h
 exact Subscript_ (E3 ha hb I h fun v u s2 x y H2 I2 rx ry q=>hr a b pins s2 σ H2 x y v u Q I2 rx ry q (hs _ _))
def G2 (K:PySem.W.Frag):R2:=fun x y H Q=>∃p xs i v,x= .ref p/\y= .int i/\eC K H p xs/\atI xs i=some v/\Q v H
def G3 (K:PySem.W.Frag):R2:=fun x y H Q=>∃p xs i v,x= .ref p/\y= .int i/\h_ K H p xs/\atI xs i=some v/\Q v H
def G4:R2:=fun x y H Q=>∃z i c,x= .str z/\y= .int i/\z.length<=sizeLine/\atI z.cps.toList i=some c/\Q (.str ⟨#[c]⟩) H
theorem BK:BJ X (G2 X.K):=by
 intro value slice pins s σ H x y v u Q I rx ry h hs
 obtain⟨p,xs,i,z,rfl,rfl,hq,he,q⟩:=h
 cases rx
 obtain⟨t,rfl⟩:=ry
 obtain⟨its,r,pl,hz⟩:=I.list hq
 obtain⟨j,h1,h2,h3,h4,h5⟩:=re he
 obtain⟨w,ew,rw'⟩:=r.get h2
 have hl:=r.length
 have hn:=mB
 have fin:EP X pins σ Q w s:=⟨z,H,I,rw',q⟩
 by_cases h0:0<=i
 ·have hj:i.toNat=j:=by
   rw[seqIndex_of h0 h5]at h1
   exact Option.some.inj h1
  exact item_listR pl.isList h0 (by omega) (by rw[hj];simpa using ew) fin hs
 ·have hj:(i+(its.toArray.size:Int)).toNat=j:=by
   rw[seqIndex_neg (by omega) h4]at h1
   rw[List.size_toArray,<-hl]
   exact Option.some.inj h1
  exact subscriptTail_builtinR (x:=w) pl.isList.typeIs slot_list_getitem.lookup
   (wpAny_getItem_list_neg (Q:=fun r s'=>r=w/\EP X pins σ Q r s') pl.isList (by omega) (by rw[List.size_toArray]<;>omega) (by omega) (by rw[hj];simpa using ew) ⟨rfl,fin⟩) hs
theorem Ed:BJ X (G3 X.K):=by
 intro value slice pins s σ H x y v u Q I rx ry h hs
 obtain⟨p,xs,i,z,rfl,rfl,hq,he,q⟩:=h
 cases rx
 obtain⟨t,rfl⟩:=ry
 obtain⟨its,r,pl,hz⟩:=I.tuple hq
 obtain⟨j,h1,h2,h3,h4,h5⟩:=re he
 obtain⟨w,ew,rw'⟩:=r.get h2
 have hl:=r.length
 have hn:=mB
 have fin:EP X pins σ Q w s:=⟨z,H,I,rw',q⟩
 exact subscriptTail_builtinR (x:=w) pl.typeIs slot_tuple_getitem.lookup
  (getItem_tuple (j:=j) (Q:=fun r s'=>r=w/\EP X pins σ Q r s') pl (by omega) (by omega) (by rw[List.size_toArray,<-hl];exact h1) (by simpa using ew) ⟨rfl,fin⟩) hs
theorem Ee:BJ X G4:=by
 intro value slice pins s σ H x y v u Q I rx ry h hs
 obtain⟨z,i,c,rfl,rfl,hz,he,q⟩:=h
 obtain⟨t,rfl⟩:=rx
 obtain⟨t',rfl⟩:=ry
 obtain⟨j,h1,h2,h3,h4,h5⟩:=re he
 have hl:z.cps.toList.length=z.length:=by simp[Str.length]
 rw[hl]at h1 h4 h5
 have hn:=mB
 exact tail_any (typeIs_str s z t) slot_str_getitem.lookup (getItem_str (c:=c) (by
  have e1:decide (i< -(2 ^63:Int))=false:=decide_eq_false (by omega)
  have e2:decide (i>=2 ^63)=false:=decide_eq_false (by omega)
  rw[e1,e2,Bool.or_false]) (by rw[h1];simpa using h2) ⟨.str ⟨#[c]⟩,H,I.tok _,⟨_,rfl⟩,q⟩) hs
def Ib (K:PySem.W.Frag):R2:=fun x y H Q=>G2 K x y H Q\/G3 K x y H Q\/G4 x y H Q
theorem Ef:BJ X (Ib X.K):=BK.or (Ed.or Ee)
theorem uJ (its:List Value) (n j:Nat) (u:Value):Obj.mapSeq (·.setIfInBounds j u) {cls:= .type "list",data:= .seq its.toArray n}={cls:= .type "list",data:= .seq (its.set j u).toArray n}:=by
 simp[Obj.mapSeq]
theorem aF.lst {pins:List (Addr×Obj)} {σ:St} {H:Hp} {s:Shared} {p:Addr} {xs:List V} (I:aF X pins σ H s) (h:H p=some (.lst xs)):
  ∃(its:List Value) (n:Nat),aS xs its/\s.heap.get? p=some {cls:= .type "list",data:= .seq its.toArray n}/\xs.length<=sizeLine:=by
 obtain⟨z,its,n,r,e⟩:=I.hok p _ h
 exact⟨its,n,r,e,z⟩
theorem aF.lstUpd {pins:List (Addr×Obj)} {σ:St} {H:Hp} {s:Shared} {p:Addr} {xs ys:List V} {its its':List Value} {n n':Nat} {f:Obj->Obj} (I:aF X pins σ H s) (h:H p=some (.lst xs))
  (ho:s.heap.get? p=some {cls:= .type "list",data:= .seq its.toArray n}) (hf:f {cls:= .type "list",data:= .seq its.toArray n}={cls:= .type "list",data:= .seq its'.toArray n'}) (r:aS ys its') (hz:ys.length<=sizeLine) (t:Nat):
  aF X pins σ (bK H p (.lst ys)) {s with heap:=s.heap.update p f,toks:=t}:=by
 have e:(s.heap.update p f).get? p=some {cls:= .type "list",data:= .seq its'.toArray n'}:=by
  rw[Heap.get?_update_self f ho (by rw[hf]<;>rfl),hf]
 refine I.write (x:=p) (e:=p) (by rw[h];trivial) (.inl rfl) (fun b u hb q=>(Heap.get?_update_other _ _ (Ne.symm hb)).trans q) ⟨_,e⟩ ?_
 exact⟨hz,its',n',r,e⟩
def G5:V->V->V->Hp->(Hp->Prop)->Prop:=fun o i v H Q=>∃p xs k j,o= .ref p/\i= .int k/\H p=some (.lst xs)/\uI xs.length k=some j/\Q (bK H p (.lst (xs.set j v)))
theorem yZ:FK X G5:=by
 intro pins s σ H o i v ov iv u Q I ro ri rv h
 obtain⟨p,xs,k,j,rfl,rfl,hp,hj,q⟩:=h
 cases ro
 obtain⟨t,rfl⟩:=ri
 obtain⟨its,n,r,ho,hz⟩:=I.lst hp
 obtain⟨h1,h2,h3,h4⟩:=vT hj
 have hl:=r.length
 have hn:=mB
 have I':aF X pins σ (bK H p (.lst (xs.set j v))) {s with heap:=s.heap.update p (Obj.mapSeq (·.setIfInBounds j u))}:=
  I.lstUpd hp ho (uJ its n j u) (r.set rv j) (by rw[List.length_set];exact hz) s.toks
 by_cases h0:0<=k
 ·have hk:k.toNat=j:=by
   rw[seqIndex_of h0 h4]at h1
   exact Option.some.inj h1
  exact PySem.W.ki_setAt ho h0 (by omega) (by rw[List.size_toArray,<-hl];exact h4) (by rw[hk];exact⟨_,I',q⟩)
 ·have hk:(k+(its.toArray.size:Int)).toNat=j:=by
   rw[seqIndex_neg (by omega) h3]at h1
   rw[List.size_toArray,<-hl]
   exact Option.some.inj h1
  exact PySem.W.ki_setBack ho (by omega) (by rw[List.size_toArray,<-hl];exact h3) (by omega) (by rw[hk];exact⟨_,I',q⟩)
theorem rf (lo hi:Option Int) (n:Nat):(sliceBounds lo hi none n).1=((HT.dE n 0 lo:Nat):Int)/\(sliceBounds lo hi none n).2.1=((HT.dE n n hi:Nat):Int)/\(sliceBounds lo hi none n).2.2=1:=by
 refine⟨?_,?_,rfl⟩
 ·cases lo with
  |none=>simp[sliceBounds,HT.dE]
  |some i=>
   simp only[sliceBounds,HT.dE,Option.getD_none,show (1:Int)>0 by decide,if_true]
   by_cases h:i<0
   ·simp only[h,if_true]<;>omega
   ·simp only[h,if_false]<;>omega
 ·cases hi with
  |none=>simp[sliceBounds,HT.dE]
  |some i=>
   simp only[sliceBounds,HT.dE,Option.getD_none,show (1:Int)>0 by decide,if_true]
   by_cases h:i<0
   ·simp only[h,if_true]<;>omega
   ·simp only[h,if_false]<;>omega
theorem pS (its:List Value) (lo hi:Option Int):slicePick its.toArray lo hi none=((its.drop (HT.dE its.length 0 lo)).take (HT.dE its.length its.length hi - HT.dE its.length 0 lo)).toArray:=by
 obtain⟨h1,h2,h3⟩:=rf lo hi its.toArray.size
 unfold slicePick
 rw[h1,h2,h3]
 simp only[sliceRange_one,pick_run,List.size_toArray]<;>rfl
def HF (K:PySem.W.Frag):V->Option Int->Option Int->Hp->VK->Prop:=fun x lo hi H Q=>∃a xs,x= .ref a/\eC K H a xs/\∀p,H p=none->Q (.ref p) (bK H p (.lst (pR xs lo hi)))
theorem BL:Dk X (HF X.K):=by
 intro pins s σ H x v vl vu lo hi sl Q I rx hs pl pu h
 obtain⟨a,xs,rfl,hx,q⟩:=h
 cases rx
 obtain⟨its,r,ht,hz⟩:=I.list hx
 have hlen:=r.length
 refine⟨"list",_,slot_list_getitem.lookup,ht.isList.typeIs,?_⟩
 refine wpAny_getItem_list_slice ht.isList hs pl pu .none (by simp) ?_ (by rw[List.size_toArray]<;>omega)
 rw[pS,<-hlen]
 refine⟨.ref s.heap.objs.size,_,I.laid (t':=s.toks) (o:= .lst (pR xs lo hi)) (fun b ob q=>Heap.get?_push_of_some _ q) (Nat.le_refl _) ?_,rfl,q _ (I.hok.fresh (Nat.le_refl _))⟩
 exact⟨Nat.le_trans (n6 xs lo hi) hz,_,0,(r.drop (HT.dE xs.length 0 lo)).take (HT.dE xs.length xs.length hi - HT.dE xs.length 0 lo),Heap.get?_push_size _ rfl⟩
def hE:V->Bool
 | .non=>true
 | .bl _=>true
 | .int _=>true
 | .str _=>true
 |_=>false
def yv:V->V->Bool
 | .non, .non=>true
 | .bl a, .bl b=>a==b
 | .bl a, .int b=>(if a then 1 else 0)==b
 | .int a, .bl b=>a==(if b then 1 else 0)
 | .int a, .int b=>a==b
 | .str a, .str b=>a==b
 |_,_=>false
theorem y_ {A:Around} {s:Shared} {y x:V} {u v:Value} (ry:bx y u) (rx:bx x v) (fy:hE y=true) (fx:hE x=true):SeqAt.EqAt A s u v (yv y x):=by
 cases y with
 |non=>
  cases ry
  cases x with
  |non=>cases rx;exact SeqAt.EqAt.same _
  |bl b=>cases rx;exact SeqAt.EqAt.none_bool b
  |int b=>obtain⟨t,rfl⟩:=rx;exact SeqAt.EqAt.none_int b t
  |str b=>obtain⟨t,rfl⟩:=rx;exact SeqAt.EqAt.none_str b t
  |_=>exact absurd (show false=true from fx) Bool.false_ne_true
 |bl a=>
  cases ry
  cases x with
  |non=>cases rx;exact SeqAt.EqAt.bool_none a
  |bl b=>cases rx;exact SeqAt.EqAt.bool_bool a b
  |int b=>obtain⟨t,rfl⟩:=rx;exact SeqAt.EqAt.bool_int a b t
  |str b=>obtain⟨t,rfl⟩:=rx;exact SeqAt.EqAt.bool_str a b t
  |_=>exact absurd (show false=true from fx) Bool.false_ne_true
 |int a=>
  obtain⟨t',rfl⟩:=ry
  cases x with
  |non=>cases rx;exact SeqAt.EqAt.int_none a t'
  |bl b=>cases rx;exact SeqAt.EqAt.int_bool a t' b
  |int b=>obtain⟨t,rfl⟩:=rx;exact SeqAt.EqAt.int_int a t' b t
  |str b=>obtain⟨t,rfl⟩:=rx;exact SeqAt.EqAt.int_str a t' b t
  |_=>exact absurd (show false=true from fx) Bool.false_ne_true
 |str a=>
  obtain⟨t',rfl⟩:=ry
  cases x with
  |non=>cases rx;exact SeqAt.EqAt.str_none a t'
  |bl b=>cases rx;exact SeqAt.EqAt.str_bool a t' b
  |int b=>obtain⟨t,rfl⟩:=rx;exact SeqAt.EqAt.str_int a t' b t
  |str b=>obtain⟨t,rfl⟩:=rx;exact SeqAt.EqAt.str_str a t' b t
  |_=>exact absurd (show false=true from fx) Bool.false_ne_true
 |_=>exact absurd (show false=true from fy) Bool.false_ne_true
def uK (x:V) (u:Value):Bool:=match u with
 | .none=>yv .non x
 | .bool b=>yv (.bl b) x
 | .int i _=>yv (.int i) x
 | .str z _=>yv (.str z) x
 |_=>false
theorem zc {x y:V} {u:Value} (r:bx y u) (f:hE y=true):uK x u=yv y x:=by
 cases y with
 |non=>cases r;rfl
 |bl b=>cases r;rfl
 |int i=>obtain⟨t,rfl⟩:=r;rfl
 |str z=>obtain⟨t,rfl⟩:=r;rfl
 |_=>exact absurd (show false=true from f) Bool.false_ne_true
theorem lH {x:V}:∀{xs:List V} {us:List Value},aS xs us->xs.all hE=true->us.any (uK x)=xs.any fun y=>yv y x
 |_,_, .nil,_=>rfl
 |y::xs,u::us, .cons r t,f=>by
  rw[List.all_cons,Bool.and_eq_true]at f
  rw[List.any_cons,List.any_cons,zc r f.1,lH t f.2]
theorem jJ {A:Around} {s:Shared} {x:V} {v:Value} (rx:bx x v) (fx:hE x=true):∀{xs:List V} {us:List Value},aS xs us->xs.all hE=true->∀u∈us,SeqAt.EqAt A s u v (uK x u)
 |_,_, .nil,_=>fun u hu=>by cases hu
 |y::xs,u::us, .cons r t,f=>fun u' hu=>by
  rw[List.all_cons,Bool.and_eq_true]at f
  rcases List.mem_cons.mp hu with rfl|hu
  ·rw[zc r f.1];exact y_ r rx f.1 fx
  ·exact jJ rx fx t f.2 u' hu
def inV (x:V) (xs:List V):Bool:=xs.any fun y=>yv y x
def HG (K:PySem.W.Frag) (neg:Bool):R2:=fun x y H Q=>∃p xs,y= .ref p/\(eC K H p xs\/h_ K H p xs)/\hE x=true/\xs.all hE=true/\Q (.bl (if neg then !inV x xs else inV x xs)) H
theorem qm:kh X (compareOp .In) (HG X.K false):=by
 intro pins s σ H x y v u Q I rx ry h
 obtain⟨p,xs,rfl,hq,fx,fs,q⟩:=h
 cases ry
 rcases hq with hq|hq
 ·obtain⟨its,r,pl,hz⟩:=I.list hq
  refine SeqAt.in_listAt (uK x) pl.isList (fun w hw=>jJ rx fx r fs w (by simpa using hw)) ⟨.bl _,H,I,rfl,?_⟩
  rw[show its.toArray.any (uK x)=its.any (uK x) by simp,lH r fs]
  exact q
 ·obtain⟨its,r,pl,hz⟩:=I.tuple hq
  refine SeqAt.in_tupleAt (uK x) pl (fun w hw=>jJ rx fx r fs w (by simpa using hw)) ⟨.bl _,H,I,rfl,?_⟩
  rw[show its.toArray.any (uK x)=its.any (uK x) by simp,lH r fs]
  exact q
theorem rg:kh X (compareOp .NotIn) (HG X.K true):=by
 intro pins s σ H x y v u Q I rx ry h
 obtain⟨p,xs,rfl,hq,fx,fs,q⟩:=h
 cases ry
 rcases hq with hq|hq
 ·obtain⟨its,r,pl,hz⟩:=I.list hq
  refine SeqAt.notIn_listAt (uK x) pl.isList (fun w hw=>jJ rx fx r fs w (by simpa using hw)) ⟨.bl _,H,I,rfl,?_⟩
  rw[show its.toArray.any (uK x)=its.any (uK x) by simp,lH r fs]
  exact q
 ·obtain⟨its,r,pl,hz⟩:=I.tuple hq
  refine SeqAt.notIn_tupleAt (uK x) pl (fun w hw=>jJ rx fx r fs w (by simpa using hw)) ⟨.bl _,H,I,rfl,?_⟩
  rw[show its.toArray.any (uK x)=its.any (uK x) by simp,lH r fs]
  exact q
theorem rh:cT X (.builtin "len") (fun xs H Q=>∃p ys,xs=[.ref p]/\(eC X.K H p ys\/h_ X.K H p ys)/\Q (.int ys.length) H):=by
 intro pins s σ H xs us Q I r h
 obtain⟨p,ys,rfl,hq,q⟩:=h
 obtain⟨u,rfl,rx⟩:=iR r
 cases rx
 have hn:=mB
 rcases hq with hq|hq
 ·obtain⟨its,r',pl,hz⟩:=I.list hq
  have hlen:=r'.length
  exact Calls.call_len_list pl.isList (by simp only[List.size_toArray]<;>omega) ⟨.int ys.length,H,I.tok _,⟨s.toks+1,by rw[List.size_toArray,hlen]⟩,q⟩
 ·obtain⟨its,r',pl,hz⟩:=I.tuple hq
  have hlen:=r'.length
  exact len_tuple pl (by simp only[List.size_toArray]<;>omega) ⟨.int ys.length,H,I.tok _,⟨s.toks+1,by rw[List.size_toArray,hlen]⟩,q⟩
theorem cT.or {f:Value} {r r':List V->Hp->VK->Prop} (h:cT X f r) (h':cT X f r'):cT X f (fun xs H Q=>r xs H Q\/r' xs H Q):=by
 intro pins s σ H xs us Q I rs q
 rcases q with q|q
 ·exact h pins s σ H xs us Q I rs q
 ·exact h' pins s σ H xs us Q I rs q
theorem dZ:cT X (.type "list") (fun xs H Q=>∃p ys,xs=[.ref p]/\(eC X.K H p ys\/h_ X.K H p ys)/\∀l,H l=none->Q (.ref l) (bK H l (.lst ys))):=by
 intro pins s σ H xs us Q I r h
 obtain⟨p,ys,rfl,hq,q⟩:=h
 obtain⟨u,rfl,rx⟩:=iR r
 cases rx
 have fin:∀(its:List Value),aS ys its->ys.length<=sizeLine->∀(h':Heap) (c':Nat),(∀b o',s.heap.get? b=some o'->h'.get? b=some o')->
   h'.get? s.heap.objs.size=some {cls:= .type "list",dict:=none,data:= .seq its.toArray c',slots:= #[]}->EP X pins σ Q (.ref s.heap.objs.size) {s with heap:=h'}:=fun its r' hz h' c' kp e=>
  ⟨.ref s.heap.objs.size,_,I.laid (t':=s.toks) kp (Nat.le_refl _) (show bS X.prog X.w _ h' _ (.lst ys)from ⟨hz,its,c',r',e⟩),rfl,q _ (I.hok.fresh (Nat.le_refl _))⟩
 rcases hq with hq|hq
 ·obtain⟨its,r',pl,hz⟩:=I.list hq
  have hlen:=r'.length
  obtain⟨o,ho,hc,n,hd⟩:=pl.isList
  exact call_list_seq p (.inl rfl) ho hc hd (fun h' c' kp e=>fin its r' hz h' c' kp e) (by simp only[List.size_toArray]<;>omega)
 ·obtain⟨its,r',pl,hz⟩:=I.tuple hq
  have hlen:=r'.length
  obtain⟨o,ho,hc,n,hd⟩:=pl
  exact call_list_seq p (.inr rfl) ho hc hd (fun h' c' kp e=>fin its r' hz h' c' kp e) (by simp only[List.size_toArray]<;>omega)
theorem ba:cT X (.type "tuple") (fun xs H Q=>∃p ys,xs=[.ref p]/\((eC X.K H p ys/\∀l,H l=none->Q (.ref l) (bK H l (.tup ys)))\/(h_ X.K H p ys/\Q (.ref p) H))):=by
 intro pins s σ H xs us Q I r h
 obtain⟨p,ys,rfl,h⟩:=h
 obtain⟨u,rfl,rx⟩:=iR r
 cases rx
 rcases h with ⟨hq,q⟩|⟨hq,q⟩
 ·obtain⟨its,r',pl,hz⟩:=I.list hq
  have hlen:=r'.length
  refine call_tuple_list pl.isList (fun h' kp=> ?_) (by simp only[List.size_toArray]<;>omega)
  have I1:aF X pins σ H {s with heap:=h'}:=I.kept (t':=s.toks) kp
  have I2:aF X pins σ (bK H h'.objs.size (.tup ys)) {s with heap:=h'.push {cls:= .type "tuple",data:= .seq its.toArray}}:=
   I1.laid (t':=s.toks) (fun b o e=>Heap.get?_push_of_some _ e) (Nat.le_refl _) (show bS X.prog X.w _ _ _ (.tup ys)from ⟨hz,its,r',gU.new _ _⟩)
  exact⟨.ref h'.objs.size,_,I2,rfl,q _ (I1.hok.fresh (Nat.le_refl _))⟩
 ·obtain⟨its,r',pl,hz⟩:=I.tuple hq
  exact call_tuple_same pl ⟨.ref p,H,I,rfl,q⟩
def HH (K:PySem.W.Frag) (T:String) (x:V) (H:Hp):Prop:=match x with
 | .str _=>T="str"
 | .int _=>T="int"
 | .ref p=>(T="list"/\∃xs,eC K H p xs)\/(T="tuple"/\∃o,K.lookup p=some o/\o.cls= .type "tuple"/\o.dict=none)\/
   (T="dict"/\((∃kvs,H p=some (.dK kvs))\/∃kvs,H p=some (.dT kvs)))\/(T="set"/\∃S n,H p=some (.set S n))
 |_=>False
theorem ze {pins:List (Addr×Obj)} {σ:St} {H:Hp} {s:Shared} {T:String} {x:V} {v:Value} (I:aF X pins σ H s) (r:bx x v) (ty:HH X.K T x H):
  s.TypeIs v T/\∀a,v= .ref a->∃ob,s.heap.get? a=some ob/\ob.dict=none:=by
 cases x with
 |str z=>
  obtain⟨t,rfl⟩:=r
  cases (show T="str" from ty)
  exact⟨typeIs_str s z t,fun _ e=>nomatch e⟩
 |int i=>
  obtain⟨t,rfl⟩:=r
  cases (show T="int" from ty)
  exact⟨typeIs_int s i t,fun _ e=>nomatch e⟩
 |ref p=>
  cases r
  rcases ty with ⟨rfl,xs,hq⟩|⟨rfl,o,hk,hc,hd⟩|⟨rfl,hk⟩|⟨rfl,S,n,hk⟩
  ·obtain⟨its,_,pl,_⟩:=I.list hq
   refine⟨pl.isList.typeIs,fun a e=> ?_⟩
   cases e
   obtain⟨o,n,e,c,hd,_⟩:=pl
   exact⟨o,e,hd⟩
  ·refine⟨⟨o,I.kIn p o hk,hc⟩,fun a e=> ?_⟩
   cases e
   exact⟨o,I.kIn _ o hk,hd⟩
  ·have z:∃o,s.heap.get? p=some o/\o.ExactDict:=by
    rcases hk with ⟨kvs,hk⟩|⟨kvs,hk⟩
    ·obtain⟨_,_,_,_,o,_,_,e,ex,_⟩:=I.hok p _ hk
     exact⟨o,e,ex⟩
    ·obtain⟨_,_,_,_,o,_,_,e,ex,_⟩:=I.hok p _ hk
     exact⟨o,e,ex⟩
   obtain⟨o,e,ex⟩:=z
   refine⟨⟨o,e,ex.1⟩,fun a e2=> ?_⟩
   cases e2
   exact⟨o,e,ex.2.1⟩
  ·obtain⟨o,_,_,_,e,ex,_⟩:=I.hok p _ hk
   refine⟨⟨o,e,ex.1⟩,fun a e2=> ?_⟩
   cases e2
   exact⟨o,e,ex.2.1⟩
 |_=>exact False.elim ty
def IA (K:PySem.W.Frag) (T:String) (r:V->List V->Hp->VK->Prop) (to:TE) (t:TA):TE:=fun σ H Q=>to σ H fun x H1=>HH K T x H1/\t σ H1 fun xs H2=>r x xs H2 Q
variable {o e:Expr} {es:List Expr} {to:TE} {t:TA} {name:Str} {apos cpos:Pos} {T id:String} {r:V->List V->Hp->VK->Prop}
theorem zf (pa:PlainAttrs T) (slot:Slot T name id) (hty:typeOf (.builtin id)=pure (.type "method_descriptor")) (hm:Iz X id r) (ho:PE X o to) (ha:PA X (e::es) t)
  (hbase:attributeBase o name X.env (eval o X.env)=eval o X.env:=by rfl)
  (hfew:((backTo cpos (starEach (e::es) X.env)).all (fun x=> !x.1)&&(backToKw cpos (keywordEach [] X.env)).all (fun x=>x.1.isSome)
   &&decide ((e::es).length+([]:List Keyword).length+(if ([]:List Keyword).isEmpty then 0 else 1)<30))=true:=by rfl)
  (hline:(apos.endLine==cpos.line)=true:=by rfl) (hs:starEach (e::es) X.env=(false,eval e X.env)::starEach es X.env:=by rfl) (hplain:(backTo cpos (starEach es X.env)).any (·.1)=false:=by rfl):
  PE X (.Call (.Attribute o name apos) (e::es) [] cpos) (IA X.K T r to t):=by
 intro pins s σ H Q I h
 refine wpAny_Call_method_late hbase hfew hline rfl (cp (ho pins s σ H _ I h) fun v s1 z_=> ?_)
 obtain⟨x,H1,I1,r1,ty,q1⟩:=z_
 obtain⟨h1,h2⟩:=ze I1 r1 ty
 refine⟨T,id,pa,slot,hty,h1,h2,?_⟩
 have hA:=ha cpos pins s1 σ H1 _ I1 q1
 rw[hs]at hA ⊢
 refine Calls.callWith_builtin (by show (false||(backTo cpos (starEach es X.env)).any (·.1))=false;rw[hplain]<;>rfl) (Calls.evalArgs_plain ?_)
 exact cp hA fun us s2 ⟨vs,H2,I2,r2,q2⟩=>hm pins s2 σ H2 x vs v us Q I2 r1 r2 q2
end
end L2
namespace L2
open PySem PySem.Spec PyProof.Rows
def G_ (X:Cx) (id:String) (r:V->List V->Hp->VK->Prop):Prop:=
 ∀(pins:List (Addr×Obj)) (s:Shared) (σ:St) (H:Hp) (x:V) (xs:List V) (v:Value) (us:List Value) (Q:VK),aF X pins σ H s->bx x v->aS xs us->r x xs H Q->
  wpAny (model X.prog X.w) X.A (call (.builtin id) (v::us)) (EP X pins σ Q) X.xe s
theorem aS.one:∀{x:V} {us:List Value},aS [x] us->∃u,us=[u]/\bx x u:=fun h=>by
 cases h with
 |cons r t=>cases t;exact⟨_,rfl,r⟩
theorem aS.two:∀{x y:V} {us:List Value},aS [x,y] us->∃u v,us=[u,v]/\bx x u/\bx y v:=fun h=>by
 cases h with
 |cons r t=>
  obtain⟨v,e,q⟩:=aS.one t
  exact⟨_,v,by rw[e],r,q⟩
theorem aS.zero:∀{us:List Value},aS [] us->us=[]
 |_, .nil=>rfl
theorem aS.eraseIdx:∀{xs:List V} {us:List Value} (i:Nat),aS xs us->aS (xs.eraseIdx i) (us.eraseIdx i)
 |_,_,_, .nil=> .nil
 |_,_,0, .cons _ t=>t
 |_,_,i+1, .cons r t=> .cons r (aS.eraseIdx i t)
theorem aS.reverse {xs:List V} {us:List Value} (h:aS xs us):aS xs.reverse us.reverse:=by
 induction h with
 |nil=>exact .nil
 |cons r t ih=>rw[List.reverse_cons,List.reverse_cons];exact aS.append ih (.cons r .nil)
theorem aS.rep {xs:List V} {us:List Value} (h:aS xs us):∀k:Nat,aS (List.replicate k xs).flatten (List.replicate k us).flatten
 |0=> .nil
 |k+1=>by
  rw[List.replicate_succ,List.replicate_succ,List.flatten_cons,List.flatten_cons]
  exact aS.append h (aS.rep h k)
theorem qo {α:Type}:∀(l:List α) (i:Nat),(l.eraseIdx i).length<=l.length
 |[],_=>Nat.le_refl _
 |_::_,0=>Nat.le_succ _
 |_::r,i+1=>Nat.succ_le_succ (qo r i)
theorem qp (its:List Value):∀(k:Nat) (acc:List Value),
  List.foldl (fun x1 x2=>x1++x2) acc.toArray (List.replicate k its.toArray)=(acc++(List.replicate k its).flatten).toArray
 |0,acc=>by simp
 |k+1,acc=>by
  have e:acc.toArray++its.toArray=(acc++its).toArray:=by simp
  have e2:(acc++its)++(List.replicate k its).flatten=acc++(List.replicate (k+1) its).flatten:=by
   rw[List.replicate_succ,List.flatten_cons,List.append_assoc]
  rw[<-e2,<-qp its k (acc++its),<-e,List.replicate_succ,List.foldl_cons]
section
variable {X:Cx} {pins:List (Addr×Obj)} {σ:St} {H:Hp} {s:Shared} {l b:Addr} {xs ys zs:List V}
theorem aF.lset {its its':List Value} {n:Nat} {f:Array Value->Array Value} {t':Nat} (I:aF X pins σ H s) (hH:H l=some (.lst xs))
  (e:s.heap.get? l=some {cls:= .type "list",data:= .seq its.toArray n}) (hf:f its.toArray=its'.toArray) (hv:aS ys its') (hz:ys.length<=sizeLine):
  aF X pins σ (bK H l (.lst ys)) {s with heap:=s.heap.update l (Obj.mapSeq f),toks:=t'}:=by
 have q:=PySem.IsL.update e f
 rw[hf]at q
 refine I.write (x:=l) (e:=l) (by rw[hH];exact trivial) (.inl rfl) (fun b' u hb hu=>(Heap.get?_update_other s.heap (Obj.mapSeq f) (Ne.symm hb)).trans hu) ⟨_,q⟩ ?_
 exact⟨hz,its',_,hv,q⟩
theorem aF.lnew {its:List Value} {t':Nat} (I:aF X pins σ H s) (hv:aS ys its) (hz:ys.length<=sizeLine):
  aF X pins σ (bK H s.heap.objs.size (.lst ys)) {s with heap:=s.heap.push {cls:= .type "list",data:= .seq its.toArray},toks:=t'}:=
 I.laid (fun _ _ q=>Heap.get?_push_of_some _ q) (Nat.le_refl _) ⟨hz,its,0,hv,Heap.get?_push_size _ rfl⟩
theorem aF.fresh (I:aF X pins σ H s):H s.heap.objs.size=none:=I.hok.fresh (Nat.le_refl _)
theorem aF.lstM (I:aF X pins σ H s) (hH:H l=some (.lst xs)):xs.length<=sizeLine/\∃(its:List Value) (n:Nat),aS xs its/\xs.length=its.length/\s.heap.get? l=some {cls:= .type "list",data:= .seq its.toArray n}:=by
 obtain⟨z,its,n,r,e⟩:=I.hok l _ hH
 exact⟨z,its,n,r,r.length,e⟩
theorem sJ {n:Nat} (h:n<=sizeLine):Builtin.List.listTooLong n=false:=by
 unfold Builtin.List.listTooLong
 exact decide_eq_false (by omega)
end
section
variable {X:Cx}
def BM:V->List V->Hp->VK->Prop:=fun x vs H Q=>∃l xs y,x= .ref l/\vs=[y]/\H l=some (.lst xs)/\xs.length<sizeLine/\Q .non (bK H l (.lst (xs++[y])))
theorem qq:G_ X "list.append" BM:=by
 intro pins s σ H x vs v us Q I rx rv h
 obtain⟨l,xs,y,rfl,rfl,hH,hz,q⟩:=h
 cases rx
 obtain⟨u,rfl,ru⟩:=rv.one
 obtain⟨z,its,n,r,hl,e⟩:=I.lstM hH
 refine call_meets F.slot_list_append ⟨_,e,rfl⟩ F.entry_list_append (F.args_list_append_2 _ _) (PySem.list_append l its.toArray n u (by rw[List.size_toArray];omega)) ⟨e,?_⟩
 refine⟨.non,_,I.lset (its':=its++[u]) hH e (by simp) (r.append (.cons ru .nil)) ?_,rfl,q⟩
 rw[List.length_append,List.length_singleton]
 omega
def BO:V->List V->Hp->VK->Prop:=fun x vs H Q=>∃l b xs zs,x= .ref l/\vs=[.ref b]/\H l=some (.lst xs)/\H b=some (.lst zs)/\xs.length+zs.length<=sizeLine/\Q .non (bK H l (.lst (xs++zs)))
theorem Fs:G_ X "list.extend" BO:=by
 intro pins s σ H x vs v us Q I rx rv h
 obtain⟨l,b,xs,zs,rfl,rfl,hH,hB,hz,q⟩:=h
 cases rx
 obtain⟨u,rfl,ru⟩:=rv.one
 cases ru
 obtain⟨z,its,n,r,hl,e⟩:=I.lstM hH
 obtain⟨z2,its2,n2,r2,hl2,e2⟩:=I.lstM hB
 have hsz:its.toArray.size+its2.toArray.size<=sizeLine:=by rw[List.size_toArray,List.size_toArray];omega
 have hlong:¬(!its.toArray.isEmpty&&Builtin.List.listTooLong (its.toArray.size+its2.toArray.size))=true:=by
  rw[sJ hsz,Bool.and_false]
  exact Bool.false_ne_true
 refine call_meets F.slot_list_extend ⟨_,e,rfl⟩ F.entry_list_extend (F.args_list_extend_2 _ _)
  (AutoSeq1.list_extend_list_list_0 l its.toArray n b its2.toArray n2 hlong (by rw[List.size_toArray];omega) (by omega)) ⟨e,e2,?_⟩
 refine⟨.non,_,I.lset (its':=its++its2) hH e (by simp) (r.append r2) ?_,rfl,q⟩
 rw[List.length_append]
 omega
def Eg:V->List V->Hp->VK->Prop:=fun x vs H Q=>∃l xs i k y,x= .ref l/\vs=[.int i]/\H l=some (.lst xs)/\ -(2 ^63)<=i/\i<2 ^63/\seqIndex? i xs.length=some k/\xs[k]? =some y/\Q y (bK H l (.lst (xs.eraseIdx k)))
theorem zg:G_ X "list.pop" Eg:=by
 intro pins s σ H x vs v us Q I rx rv h
 obtain⟨l,xs,i,k,y,rfl,rfl,hH,h1,h2,hk,hy,q⟩:=h
 cases rx
 obtain⟨u,rfl,ru⟩:=rv.one
 obtain⟨t,rfl⟩:=ru
 obtain⟨z,its,n,r,hl,e⟩:=I.lstM hH
 obtain⟨w,hw,rw'⟩:=r.get hy
 refine call_meets F.slot_list_pop ⟨_,e,rfl⟩ F.entry_list_pop (F.args_list_pop_2 _ _)
  (MeetsSeq.list_pop_at l its.toArray n i t k w (fitsIndex_both h1 h2) (by rw[List.size_toArray,<-hl];exact hk) (by rw[<-Array.getElem?_toList];exact hw) (by rw[List.size_toArray];omega)) ⟨e,?_⟩
 refine⟨y,_,I.lset (its':=its.eraseIdx k) hH e ?_ (r.eraseIdx k) ?_,rw',q⟩
 ·show its.toArray.eraseIdxIfInBounds k=(its.eraseIdx k).toArray
  rw[List.eraseIdxIfInBounds_toArray]
 ·have:=qo xs k
  omega
def G6:R2:=fun x y H Q=>∃l b xs zs,x= .ref l/\y= .ref b/\H l=some (.lst xs)/\H b=some (.lst zs)/\xs.length+zs.length<=sizeLine/\∀p,H p=none->Q (.ref p) (bK H p (.lst (xs++zs)))
theorem Eh:kh X (binaryOp .Add) G6:=by
 intro pins s σ H x y v u Q I rx ry h
 obtain⟨l,b,xs,zs,rfl,rfl,hH,hB,hz,q⟩:=h
 cases rx
 cases ry
 obtain⟨z,its,n,r,hl,e⟩:=I.lstM hH
 obtain⟨z2,its2,n2,r2,hl2,e2⟩:=I.lstM hB
 refine PySem.P.add_list e e2 ?_ (by rw[List.size_toArray,List.size_toArray];omega)
 have ea:its.toArray++its2.toArray=(its++its2).toArray:=by simp
 rw[ea]
 exact⟨.ref _,_,I.lnew (t':=s.toks) (r.append r2) (by rw[List.length_append];omega),rfl,q _ I.fresh⟩
def G7:R2:=fun x y H Q=>∃l k xs,x= .ref l/\y= .int k/\H l=some (.lst xs)/\ -(2 ^63)<=k/\k<2 ^63/\xs.length*k.toNat<=sizeLine/\
 ∀p,H p=none->Q (.ref p) (bK H p (.lst (List.replicate k.toNat xs).flatten))
theorem BP {α:Type} (xs:List α) (k:Nat):(List.replicate k xs).flatten.length=k*xs.length:=by
 induction k with
 |zero=>simp
 |succ k ih=>rw[List.replicate_succ,List.flatten_cons,List.length_append,ih,Nat.succ_mul,Nat.add_comm]
theorem Ei:kh X (binaryOp .Mult) G7:=by
 intro pins s σ H x y v u Q I rx ry h
 obtain⟨l,k,xs,rfl,rfl,hH,h1,h2,hz,q⟩:=h
 cases rx
 obtain⟨t,rfl⟩:=ry
 obtain⟨z,its,n,r,hl,e⟩:=I.lstM hH
 have hlen:its.toArray.size*k.toNat<=sizeLine:=by rw[List.size_toArray,<-hl];exact hz
 have hcap:¬its.toArray.size*k.toNat>(2 ^63 - 1) / 8:=by
  have:(sizeLine:Nat)<=(2 ^63 - 1) / 8:=by decide
  omega
 have hfit:¬(!Builtin.List.listFitsIndex k)=true:=by
  rw[fitsIndex_both h1 h2]
  exact Bool.false_ne_true
 have hlong:¬Builtin.List.listTooLong (its.toArray.size*k.toNat)=true:=by
  rw[sJ hlen]
  exact Bool.false_ne_true
 have hnew:List.foldl (fun x1 x2=>x1++x2) #[] (List.replicate (if its.toArray.isEmpty=true then 0 else k.toNat) its.toArray)=(List.replicate k.toNat its).flatten.toArray:=by
  have f0:∀m:Nat,List.foldl (fun x1 x2=>x1++x2) #[] (List.replicate m its.toArray)=(List.replicate m its).flatten.toArray:=fun m=>by
   have:=qp its m []
   rw[List.nil_append]at this
   exact this
  rw[f0]
  cases its with
  |nil=>simp
  |cons a r'=>rw[if_neg (by simp)]
 refine wpAny_binaryOp_repeat_ref (T:="list") (U:="int") (by decide) ⟨_,e,rfl⟩ (fun s'=>typeIs_int s' k t) noFill_list_mul F.fills_int_mul F.slot_int_rmul repeat_list F.slot_int_index.lookup
  (call_meets F.slot_int_rmul (typeIs_int s k t) F.entry_int_rmul (F.args_int_rmul_2 _ _) (int___rmul___int_list k t l its.toArray n)
   ⟨e,rfl,⟨_,e,rfl⟩,call_meets F.slot_list_mul ⟨_,e,rfl⟩ F.entry_list_mul (F.args_list_mul_2 _ _) (AutoListH.list___mul___list_int_3 l its.toArray n k t hfit hcap hlong) ⟨e,?_⟩⟩)
 rw[hnew]
 exact⟨.ref _,_,I.lnew (t':=s.toks) (r.rep k.toNat) (by rw[BP,Nat.mul_comm];exact hz),rfl,q _ I.fresh⟩
end
section
variable {prog:Program} {w:World} {A:Around} {E:Value->Shared->Prop} {s:Shared}
end
section
variable {X:Cx}
end
end L2
namespace L2
open PySem PySem.Spec PyProof.Rows
section
variable {κ:Type} [DecidableEq κ]
def jd (kvs:List (κ×V)) (k:κ):Option V:=(kvs.find? fun kv=>decide (kv.1=k)).map (·.2)
def iT (kvs:List (κ×V)) (k:κ) (v:V):List (κ×V):=
 if (kvs.any fun kv=>decide (kv.1=k))=true then kvs.map (fun kv=>if kv.1=k then (kv.1,v)else kv)else kvs++[(k,v)]
def Dm (kvs:List (κ×V)) (k:κ):List (κ×V):=kvs.filter fun kv=>decide (kv.1≠k)
theorem og {p:κ×V} {r:List (κ×V)} {k:κ} (e:p.1=k):jd (p::r) k=some p.2:=by simp[jd,List.find?_cons,e]
theorem oh {p:κ×V} {r:List (κ×V)} {k:κ} (e:¬p.1=k):jd (p::r) k=jd r k:=by simp[jd,List.find?_cons,e]
theorem sK (k:κ):∀kvs:List (κ×V),(kvs.any fun kv=>decide (kv.1=k))=(jd kvs k).isSome
 |[]=>rfl
 |p::r=>by
  rw[List.any_cons]
  by_cases e:p.1=k
  ·simp only[og e,decide_eq_true e,Bool.true_or,Option.isSome_some]
  ·rw[oh e,decide_eq_false e,Bool.false_or];exact sK k r
theorem jK (kvs:List (κ×V)) (k:κ) (v:V):(iT kvs k v).length<=kvs.length+1:=by
 unfold iT
 split
 ·rw[List.length_map];omega
 ·rw[List.length_append,List.length_cons,List.length_nil];omega
theorem jz.isSome_eq {o:Option V} {u:Option Value} (r:jz o u):o.isSome=u.isSome:=by
 cases o with
 |none=>cases u with
  |none=>rfl
  |some _=>exact(show False from r).elim
 |some _=>cases u with
  |none=>exact(show False from r).elim
  |some _=>rfl
theorem jz.getD {o:Option V} {u:Option Value} {d:V} {d':Value} (r:jz o u) (rd:bx d d'):bx (o.getD d) (u.getD d'):=by
 cases o with
 |none=>cases u with
  |none=>exact rd
  |some _=>exact(show False from r).elim
 |some _=>cases u with
  |none=>exact(show False from r).elim
  |some _=>exact r
theorem KV.val {kvs:List (κ×V)} {vs:List (κ×Value)} (r:KV kvs vs) (k:κ):jz (jd kvs k) (valueAt vs k):=by
 unfold KV at r
 induction r with
 |nil=>exact True.intro
 | @cons p q ps qs h t ih=>
  obtain⟨h1,h2⟩:=h
  by_cases e:p.1=k
  ·have e':q.1=k:=h1.symm.trans e
   have b:valueAt (q::qs) k=some q.2:=by simp[valueAt,List.find?_cons,e']
   rw[og e,b];exact h2
  ·have e':¬q.1=k:=fun z=>e (h1.trans z)
   have b:valueAt (q::qs) k=valueAt qs k:=by simp[valueAt,List.find?_cons,e']
   rw[oh e,b];exact ih
theorem KV.any {kvs:List (κ×V)} {vs:List (κ×Value)} (r:KV kvs vs) (k:κ):(kvs.any fun kv=>decide (kv.1=k))=vs.any fun kv=>decide (kv.1=k):=by
 unfold KV at r
 induction r with
 |nil=>rfl
 |cons h t ih=>rw[List.any_cons,List.any_cons,ih,h.1]
theorem KV.repl {kvs:List (κ×V)} {vs:List (κ×Value)} (r:KV kvs vs) (k:κ) {y:V} {u:Value} (ry:bx y u):
  KV (kvs.map fun kv=>if kv.1=k then (kv.1,y)else kv) (vs.map fun kv=>if kv.1=k then (kv.1,u)else kv):=by
 unfold KV at r ⊢
 induction r with
 |nil=>exact .nil
 | @cons p q ps qs h t ih=>
  rw[List.map_cons,List.map_cons]
  refine .cons ?_ ih
  obtain⟨h1,h2⟩:=h
  by_cases e:p.1=k
  ·rw[if_pos e,if_pos (h1.symm.trans e)];exact⟨h1,ry⟩
  ·rw[if_neg e,if_neg (fun z=>e (h1.trans z))];exact⟨h1,h2⟩
theorem KV.put {kvs:List (κ×V)} {vs:List (κ×Value)} (r:KV kvs vs) (k:κ) {y:V} {u:Value} (ry:bx y u):KV (iT kvs k y) (stored vs k u):=by
 unfold iT stored
 rw[r.any k]
 by_cases e:(vs.any fun kv=>decide (kv.1=k))=true
 ·rw[if_pos e,if_pos e];exact r.repl k ry
 ·rw[if_neg e,if_neg e];exact Paired.snoc r ⟨rfl,ry⟩
theorem KV.drop {kvs:List (κ×V)} {vs:List (κ×Value)} (r:KV kvs vs) (k:κ):KV (Dm kvs k) (without vs k):=by
 unfold KV at r ⊢
 unfold Dm without
 induction r with
 |nil=>exact .nil
 | @cons p q ps qs h t ih=>
  obtain⟨h1,h2⟩:=h
  rw[List.filter_cons,List.filter_cons]
  by_cases e:p.1=k
  ·have a:¬decide (p.1≠k)=true:=by simp[e]
   have b:¬decide (q.1≠k)=true:=by simp[h1.symm.trans e]
   rw[if_neg a,if_neg b];exact ih
  ·have e':¬q.1=k:=fun z=>e (h1.trans z)
   have a:decide (p.1≠k)=true:=by simp[e]
   have b:decide (q.1≠k)=true:=by simp[e']
   rw[if_pos a,if_pos b];exact .cons ⟨h1,h2⟩ ih
theorem KV.keys {kvs:List (κ×V)} {vs:List (κ×Value)} (r:KV kvs vs):kvs.map (·.1)=vs.map (·.1):=by
 unfold KV at r
 induction r with
 |nil=>rfl
 |cons h t ih=>rw[List.map_cons,List.map_cons,ih,h.1]
theorem KV.length {kvs:List (κ×V)} {vs:List (κ×Value)} (r:KV kvs vs):kvs.length=vs.length:=Paired.length r
end
theorem n8 {P:Program} {w:World} {k:a_} {u:Value} (r:bx (kV k) u):(bg P w).is k u=true:=by
 cases k with
 |inl i=>obtain⟨t,e⟩:=(show ∃t,u=Value.int i t from r);subst e;exact sB P w i t
 |inr x=>obtain⟨t,e⟩:=(show ∃t,u=Value.str x t from r);subst e;exact sC P w x t
theorem qr {P:Program} {w:World}:∀{ks:List a_} {us:List Value},aS (ks.map kV) us->ItemsAre (bg P w) ks us
 |[],_,r=>by rw[List.map_nil]at r;cases r;exact .nil
 |k::ks,_,r=>by
  rw[List.map_cons]at r
  cases r with
  |cons h t=>exact .cons (n8 h) (qr t)
abbrev KT (H:Hp):List (List a_×V)->List (List a_×Addr×Value)->Prop:=Paired fun p q=>p.1=q.1/\H q.2.1=some (.tup (p.1.map kV))/\bx p.2 q.2.2
theorem KT.val {H:Hp} {kvs:List (List a_×V)} {xs:List (List a_×Addr×Value)} (r:KT H kvs xs) (k:List a_):jz (jd kvs k) ((atKey xs k).map (·.2)):=by
 induction r with
 |nil=>exact True.intro
 | @cons p q ps qs h t ih=>
  obtain⟨h1,_,h2⟩:=h
  by_cases e:p.1=k
  ·have e':q.1=k:=h1.symm.trans e
   have b:atKey (q::qs) k=some q.2:=by simp[atKey,List.find?_cons,e']
   rw[og e,b];exact h2
  ·have e':¬q.1=k:=fun z=>e (h1.trans z)
   have b:atKey (q::qs) k=atKey qs k:=by simp[atKey,List.find?_cons,e']
   rw[oh e,b];exact ih
theorem KT.repl {H:Hp} {kvs:List (List a_×V)} {xs:List (List a_×Addr×Value)} (r:KT H kvs xs) (k:List a_) {y:V} {u:Value} (ry:bx y u):
  KT H (kvs.map fun kv=>if kv.1=k then (kv.1,y)else kv) (xs.map (putAt k u)):=by
 induction r with
 |nil=>exact .nil
 | @cons p q ps qs h t ih=>
  rw[List.map_cons,List.map_cons]
  refine .cons ?_ ih
  obtain⟨h1,h2,h3⟩:=h
  unfold putAt
  by_cases e:p.1=k
  ·rw[if_pos e,if_pos (h1.symm.trans e)];exact⟨h1,h2,ry⟩
  ·rw[if_neg e,if_neg (fun z=>e (h1.trans z))];exact⟨h1,h2,h3⟩
theorem KT.put {H:Hp} {kvs:List (List a_×V)} {xs:List (List a_×Addr×Value)} (r:KT H kvs xs) (k:List a_) {b:Addr} {y:V} {u:Value} (hb:H b=some (.tup (k.map kV))) (ry:bx y u):
  KT H (iT kvs k y) (storedH xs k b u):=by
 have e:(kvs.any fun kv=>decide (kv.1=k))=(atKey xs k).isSome:=by
  rw[sK,(r.val k).isSome_eq,Option.isSome_map]
 unfold iT storedH
 rw[e]
 by_cases q:(atKey xs k).isSome=true
 ·rw[if_pos q,if_pos q];exact r.repl k ry
 ·rw[if_neg q,if_neg q];exact Paired.snoc r ⟨rfl,hb,ry⟩
theorem KT.keeps {H H':Hp} {kvs:List (List a_×V)} {xs:List (List a_×Addr×Value)} (r:KT H kvs xs) (ht:∀b ys,H b=some (.tup ys)->H' b=some (.tup ys)):KT H' kvs xs:=
 Paired.mapP r fun _ _ z=>⟨z.1,ht _ _ z.2.1,z.2.2⟩
section
variable {P:Program} {w:World} {H:Hp} {h:Heap} {a:Addr}
theorem Dn {u:HO} (ok:jA P w H h) (e:Rd H a u):bS P w H h a u:=e.ok ok
theorem n9 {kvs:List (a_×V)} (ok:jA P w H h) (e:Rd H a (.dK kvs)):kvs.length<=sizeLine/\(a==sysModules)=false/\∃vs,KV kvs vs/\h.DictOf (bg P w) a vs:=
 show bS P w H h a (.dK kvs)from Dn ok e
theorem oi {kvs:List (a_×V)} (ok:jA P w H h) (e:H a=some (.dK kvs)):kvs.length<=sizeLine/\(a==sysModules)=false/\∃vs,KV kvs vs/\h.DictOf (bg P w) a vs:=n9 ok (.inl e)
theorem mD {ks:List a_} (ok:jA P w H h) (e:H a=some (.tup (ks.map kV))):(tupleKind (bg P w)).is h ks a:=by
 obtain⟨_,its,r,o,h1,h2,n,h3,_⟩:=(show bS P w H h a (.tup (ks.map kV))from ok a _ e)
 exact⟨o,its.toArray,n,h1,h2,h3,by simpa using qr r⟩
theorem oj {kvs:List (List a_×V)} (ok:jA P w H h) (e:Rd H a (.dT kvs)):kvs.length<=sizeLine/\(a==sysModules)=false/\
  ∃xs,KT H kvs xs/\h.DictOfH (tupleKind (bg P w)) a xs:=by
 obtain⟨z,y,xs,r,o,es,ep,h1,h2,h3,h4,h5⟩:=(show bS P w H h a (.dT kvs)from Dn ok e)
 refine⟨z,y,xs,r,o,es,ep,h1,h2,h3,h4,fun x hx=> ?_,h5⟩
 have all:∀{l:List (List a_×V)} {m:List (List a_×Addr×Value)},KT H l m->∀x∈m,(tupleKind (bg P w)).is h x.1 x.2.1:=by
  intro l m q
  induction q with
  |nil=>intro x hx;exact nomatch hx
  | @cons p q ps qs hq t ih=>
   intro x hx
   rcases List.mem_cons.mp hx with e|hx
   ·subst e
    exact mD ok (by rw[<-hq.1];exact hq.2.1)
   ·exact ih x hx
 exact all r x hx
theorem G8 {kvs:List (List a_×V)} (ok:jA P w H h) (e:H a=some (.dT kvs)):kvs.length<=sizeLine/\(a==sysModules)=false/\
  ∃xs,KT H kvs xs/\h.DictOfH (tupleKind (bg P w)) a xs:=oj ok (.inl e)
end
def je (H:Hp) (a:Addr) (y:V) (r:Option V):Prop:=
 (∃kvs k,Rd H a (.dK kvs)/\y=kV k/\r=jd kvs k)\/∃kvs k b,Rd H a (.dT kvs)/\y= .ref b/\H b=some (.tup (k.map kV))/\r=jd kvs k
def rj (H:Hp) (a:Addr) (y v:V) (H':Hp):Prop:=
 (∃kvs k,H a=some (.dK kvs)/\y=kV k/\kvs.length<sizeLine/\H'=bK H a (.dK (iT kvs k v)))\/
 ∃kvs k b,H a=some (.dT kvs)/\y= .ref b/\H b=some (.tup (k.map kV))/\kvs.length<sizeLine/\H'=bK H a (.dT (iT kvs k v))
theorem je.k {H:Hp} {a:Addr} {kvs:List (a_×V)} {k:a_} (e:H a=some (.dK kvs)):je H a (kV k) (jd kvs k):= .inl ⟨kvs,k, .inl e,rfl,rfl⟩
theorem je.t {H:Hp} {a b:Addr} {kvs:List (List a_×V)} {k:List a_} (e:H a=some (.dT kvs)) (eb:H b=some (.tup (k.map kV))):je H a (.ref b) (jd kvs k):= .inr ⟨kvs,k,b, .inl e,rfl,eb,rfl⟩
theorem rj.k {H:Hp} {a:Addr} {kvs:List (a_×V)} {k:a_} {v:V} (e:H a=some (.dK kvs)) (hl:kvs.length<sizeLine):rj H a (kV k) v (bK H a (.dK (iT kvs k v))):= .inl ⟨kvs,k,e,rfl,hl,rfl⟩
theorem rj.t {H:Hp} {a b:Addr} {kvs:List (List a_×V)} {k:List a_} {v:V} (e:H a=some (.dT kvs)) (eb:H b=some (.tup (k.map kV))) (hl:kvs.length<sizeLine):
  rj H a (.ref b) v (bK H a (.dT (iT kvs k v))):= .inr ⟨kvs,k,b,e,rfl,eb,hl,rfl⟩
section
variable {X:Cx} {pins:List (Addr×Obj)} {σ:St} {H:Hp} {s:Shared} {a:Addr} {y v:V} {u r:Value} {o:Option V} {A:Around} {E:Value->Shared->Prop}
theorem aF.big (I:aF X pins σ H s):sysModules<s.heap.objs.size:=by
 have h:mainGlobals<s.heap.objs.size:=(I.mod.glob.keeps I.bk).lt
 exact Nat.lt_trans (by decide) h
theorem qt {Q:Value->Shared->Prop} (hu:A.units+1<cLine) (I:aF X pins σ H s) (g:je H a y (some v)) (ry:bx y u) (h:∀w' s',aF X pins σ H s'->bx v w'->Q w' s'):
  wpAny (model X.prog X.w) A (getItem (.ref a) u) Q E s:=by
 rcases g with ⟨kvs,k,e,ey,l⟩|⟨kvs,k,b,e,ey,eb,l⟩
 ·subst ey
  obtain⟨z,hd,vs,rel,dd⟩:=n9 I.hok e
  obtain⟨w',hw,rw'⟩:=jz.some_of (v:=v) (o:=valueAt vs k) (by rw[l];exact rel.val k)
  exact wpAny_getItem_of (n8 ry) dd.mapOf hw (h w' _ (I.tok _) rw')
 ·subst ey
  cases (show u=Value.ref b from ry)
  obtain⟨z,hd,xs,rel,dd⟩:=oj I.hok e
  obtain⟨w',hw,rw'⟩:=jz.some_of (v:=v) (o:=(atKey xs k).map (·.2)) (by rw[l];exact rel.val k)
  obtain⟨p,hp,hp2⟩:=Option.map_eq_some_iff.mp hw
  refine wpAny_getItem_heap (tupleKind_room_in1 hu) (mD I.hok eb) dd hp ?_
  rw[hp2]
  exact h w' _ (I.tok _) rw'
theorem HI {Q:Value->Shared->Prop} (hu:A.units+1<cLine) (I:aF X pins σ H s) (g:je H a y o) (ry:bx y u) (h:∀s',aF X pins σ H s'->Q (.bool o.isSome) s'):
  wpAny (model X.prog X.w) A (compareOp .In u (.ref a)) Q E s:=by
 rcases g with ⟨kvs,k,e,ey,l⟩|⟨kvs,k,b,e,ey,eb,l⟩
 ·subst ey
  obtain⟨z,hd,vs,rel,dd⟩:=n9 I.hok e
  refine wpAny_in_of (n8 ry) hd dd.mapOf ?_
  rw[<-(rel.val k).isSome_eq,<-l]
  exact h _ (I.tok _)
 ·subst ey
  cases (show u=Value.ref b from ry)
  obtain⟨z,hd,xs,rel,dd⟩:=oj I.hok e
  refine wpAny_in_heap (tupleKind_room_in1 hu) (mD I.hok eb) hd dd ?_
  have q:=(rel.val k).isSome_eq
  rw[Option.isSome_map]at q
  rw[<-q,<-l]
  exact h _ (I.tok _)
theorem BQ {Q:Value->Shared->Prop} (hu:A.units+1<cLine) (I:aF X pins σ H s) (g:je H a y o) (ry:bx y u) (h:∀s',aF X pins σ H s'->Q (.bool (!o.isSome)) s'):
  wpAny (model X.prog X.w) A (compareOp .NotIn u (.ref a)) Q E s:=by
 rcases g with ⟨kvs,k,e,ey,l⟩|⟨kvs,k,b,e,ey,eb,l⟩
 ·subst ey
  obtain⟨z,hd,vs,rel,dd⟩:=n9 I.hok e
  refine wpAny_notIn_of (n8 ry) hd dd.mapOf ?_
  rw[<-(rel.val k).isSome_eq,<-l]
  exact h _ (I.tok _)
 ·subst ey
  cases (show u=Value.ref b from ry)
  obtain⟨z,hd,xs,rel,dd⟩:=oj I.hok e
  refine wpAny_notIn_heap (tupleKind_room_in1 hu) (mD I.hok eb) hd dd ?_
  have q:=(rel.val k).isSome_eq
  rw[Option.isSome_map]at q
  rw[<-q,<-l]
  exact h _ (I.tok _)
theorem nW {h':Heap} {t':Nat} {ob:HO} (I:aF X pins σ H s) (mu:FA (H a)) (hs:Heap.SameBut a s.heap h') (he:∃q,h'.get? a=some q) (new:bS X.prog X.w (bK H a ob) h' a ob):
  aF X pins σ (bK H a ob) {s with heap:=h',toks:=t'}:=
 I.write (x:=a) (e:=a) mu (.inl rfl) (fun b q hb z=>(hs.2 b hb).trans z) he new
theorem rm {P:Program} {w:World} {H':Hp} {h':Heap} {kvs:List (a_×V)} {vs:List (a_×Value)} (z:kvs.length<=sizeLine) (hd:(a==sysModules)=false) (rel:KV kvs vs) (dd:h'.DictOf (bg P w) a vs):
  bS P w H' h' a (.dK kvs):=⟨z,hd,vs,rel,dd⟩
theorem qu {H':Hp} {Q:Unit->Shared->Prop} (hu:A.units+1<cLine) (I:aF X pins σ H s) (g:rj H a y v H') (ry:bx y u) (rv:bx v r) (h:∀s',aF X pins σ H' s'->Q () s'):
  wpAny (model X.prog X.w) A (setItem (.ref a) u r) Q E s:=by
 rcases g with ⟨kvs,k,e,ey,l,eH⟩|⟨kvs,k,b,e,ey,eb,l,eH⟩
 ·subst ey eH
  obtain⟨z,hd,vs,rel,dd⟩:=oi I.hok e
  have hz:vs.length<=sizeLine:=by rw[<-rel.length];exact z
  have hl:(iT kvs k v).length<=sizeLine:=by have:=jK kvs k v;omega
  refine wpAny_setItem_pairs (hsz:=hz) (n8 ry) dd fun h' dd' hs=>h _ ?_
  have he:∃q,h'.get? a=some q:=let ⟨q,_,_,hq,_⟩:=dd';⟨q,hq⟩
  exact nW I (by rw[e];exact True.intro) hs he (rm hl hd (rel.put k rv) dd')
 ·subst ey eH
  cases (show u=Value.ref b from ry)
  obtain⟨z,hd,xs,rel,dd⟩:=G8 I.hok e
  have hz:xs.length<=sizeLine:=by rw[<-Paired.length rel];exact z
  have hl:(iT kvs k v).length<=sizeLine:=by have:=jK kvs k v;omega
  refine wpAny_setItem_heap (hsz:=hz) (tupleKind_room_in1 hu) (mD I.hok eb) dd fun h' dd' hs=>h _ ?_
  obtain⟨q,es,ep,hq,h2,h3,h4,_,h5⟩:=dd'
  refine nW I (by rw[e];exact True.intro) hs ⟨q,hq⟩ ⟨hl,hd,_,(rel.put k eb rv).keeps fun c ys ec=> ?_,q,es,ep,hq,h2,h3,h4,h5⟩
  rw[av (Fy ec e (fun z=>nomatch z))]
  exact ec
end
section
variable {X:Cx} {pins:List (Addr×Obj)} {σ:St} {H:Hp} {s:Shared} {a:Addr} {kvs:List (a_×V)} {k:a_} {u:Value} {A:Around} {E:Value->Shared->Prop}
theorem G9 {Q:Value->Shared->Prop} (I:aF X pins σ H s) (e:Rd H a (.dK kvs)) (h:∀t s',aF X pins σ H s'->Q (.int kvs.length t) s'):wpAny (model X.prog X.w) A (call (.builtin "len") [.ref a]) Q E s:=by
 obtain⟨z,hd,vs,rel,dd⟩:=n9 I.hok e
 refine call_len_dict hd dd (by rw[<-rel.length];rw[sizeLine_eq]at z;omega) ?_
 rw[<-rel.length]
 exact h _ _ (I.tok _)
end
def Ga (i:Expr):Prop:=∀ov iv,subscripted i false ov iv=operate [ov,iv] (getItem ov iv)
theorem BR {prog:Program} {w:World} {A:Around} {E:Value->Shared->Prop} {s:Shared} {env:Env} {value slice:Expr} {pos:Pos} {T id:String} {Q:Value->Shared->Prop}
  (hl:typeLookup (.type T) "__getitem__"=pure (some (.builtin id))) (hs:Ga slice)
  (h:wpAny (model prog w) A (eval value env) (fun o s₁=>wpAny (model prog w) A (eval slice env) (fun i s₂=>s₂.TypeIs o T/\wpAny (model prog w) A (getItem o i) Q E s₂) E s₁) E s):
  wpAny (model prog w) A (eval (.Subscript value slice pos) env) Q E s:=by
 refine Subscript_ (wpAny_mono h (fun o s₁ h₁=>wpAny_mono h₁ (fun i s₂ h₂=> ?_) fun _ _ x=>x) fun _ _ x=>x)
 obtain⟨hT,h₂⟩:=h₂
 unfold subscriptTail
 refine wpAny_bind ?_
 rw[getitemInPython_of_ne hT.not_modules]
 refine wpAny_bind (wpAny_specialOf hT hl ?_)
 have fin:wpAny (model prog w) A (subscripted slice false o i) (fun r s₃=>wpAny (model prog w) A (letTemporaryGo value o r>>=fun _=>pure r) Q E s₃) E s₂:=by
  rw[hs o i]
  exact wpAny_operating (wpAny_mono h₂ (fun r s₃ h₃=>wpAny_bind (wpAny_letTemporaryGo (wpAny_pure h₃))) fun _ _ x=>x)
 first
  |exact wpAny_pure (wpAny_bind fin)
  |exact wpAny_bind (wpAny_pure (wpAny_bind fin))
  |exact wpAny_bind fin
theorem sL {X:Cx} {pins:List (Addr×Obj)} {σ:St} {H:Hp} {s:Shared} {a:Addr} {y:V} {o:Option V} (I:aF X pins σ H s) (g:je H a y o):s.TypeIs (.ref a) "dict":=by
 rcases g with ⟨kvs,k,e,_,_⟩|⟨kvs,k,b,e,_,_,_⟩
 ·obtain⟨_,_,vs,_,dd⟩:=n9 I.hok e
  exact dd.typeIs
 ·obtain⟨_,_,xs,_,dd⟩:=oj I.hok e
  exact dd.typeIs
def Gb (td ty:TE):TE:=fun σ H Q=>td σ H fun x H1=>ty σ H1 fun y H2=>∃a v,x= .ref a/\je H2 a y (some v)/\Q v H2
def Ej (ty td:TE):TE:=fun σ H Q=>ty σ H fun y H1=>td σ H1 fun x H2=>∃a o,x= .ref a/\je H2 a y o/\Q (.bl o.isSome) H2
def rn (ty td:TE):TE:=fun σ H Q=>ty σ H fun y H1=>td σ H1 fun x H2=>∃a o,x= .ref a/\je H2 a y o/\Q (.bl (!o.isSome)) H2
def Gc (td ty tv:TE):TS:=fun D σ H=>tv σ H fun v H1=>td σ H1 fun x H2=>ty σ H2 fun y H3=>∃a H4,x= .ref a/\rj H3 a y v H4/\D.nx σ H4
def Gd (td ty tv:TE) (rd:V->V->Hp->VK->Prop):TS:=fun D σ H=>td σ H fun x H1=>ty σ H1 fun y H2=>∃a v,x= .ref a/\je H2 a y (some v)/\
 tv σ H2 fun y2 H3=>rd v y2 H3 fun z H4=>∃H5,rj H4 a y z H5/\D.nx σ H5
section
variable {X:Cx} {o i e value:Expr} {pos pos' tpos:Pos} {td ty tv:TE}
theorem BS (hu:X.A.units+1<cLine) (ho:PE X o td) (hi:PE X i ty) (hs:Ga i):PE X (.Subscript o i pos) (Gb td ty):=by
 intro pins s σ H Q I h
 refine BR PySem.F.slot_dict_getitem.lookup hs (cp (ho pins s σ H _ I h) fun u s1 ⟨x,H1,I1,rx,q1⟩=>cp (hi pins s1 σ H1 _ I1 q1) fun iv s2 z_=> ?_)
 obtain⟨y,H2,I2,ry,a,v,ex,g,q2⟩:=z_
 subst ex
 obtain rfl:u=Value.ref a:=rx
 exact⟨sL I2 g,qt hu I2 g ry fun w' s3 I3 rw'=>⟨v,H2,I3,rw',q2⟩⟩
theorem zh (hu:X.A.units+1<cLine) (hi:PE X i ty) (ho:PE X o td):PC X .In i o (Ej ty td):=by
 intro pins s σ H Q I h
 refine cp (hi pins s σ H _ I h) fun iv s1 ⟨y,H1,I1,ry,q1⟩=>cp (ho pins s1 σ H1 _ I1 q1) fun u s2 z_=> ?_
 obtain⟨x,H2,I2,rx,a,ov,ex,g,q2⟩:=z_
 subst ex
 obtain rfl:u=Value.ref a:=rx
 exact HI hu I2 g ry fun s3 I3=>⟨.bl ov.isSome,H2,I3,rfl,q2⟩
theorem xt (hu:X.A.units+1<cLine) (hi:PE X i ty) (ho:PE X o td):PC X .NotIn i o (rn ty td):=by
 intro pins s σ H Q I h
 refine cp (hi pins s σ H _ I h) fun iv s1 ⟨y,H1,I1,ry,q1⟩=>cp (ho pins s1 σ H1 _ I1 q1) fun u s2 z_=> ?_
 obtain⟨x,H2,I2,rx,a,ov,ex,g,q2⟩:=z_
 subst ex
 obtain rfl:u=Value.ref a:=rx
 exact BQ hu I2 g ry fun s3 I3=>⟨.bl (!ov.isSome),H2,I3,rfl,q2⟩
theorem BU (hu:X.A.units+1<cLine) (ho:PE X o td) (hi:PE X i ty) (hv:PE X value tv) (hs:swapsWith value (some (.Subscript o i pos')) pos.line X.env=pure false):
  PS X (.Assign [.Subscript o i pos'] value pos) (Gc td ty tv):=by
 intro pins s σ H D I h
 refine wpAny_Assign_Subscript (cp (hv pins s σ H _ I h) fun r s1 ⟨v,H1,I1,rv,q1⟩=>cp (ho pins s1 σ H1 _ I1 q1) fun u s2 ⟨x,H2,I2,rx,q2⟩=>cp (hi pins s2 σ H2 _ I2 q2) fun iv s3 z_=> ?_) hs
 obtain⟨y,H3,I3,ry,a,H4,ex,g,q3⟩:=z_
 subst ex
 obtain rfl:u=Value.ref a:=rx
 exact qu hu I3 g ry rv fun s4 I4=>⟨σ,H4,I4,q3⟩
theorem BV {op:Operator} {rd:V->V->Hp->VK->Prop} (hu:X.A.units+1<cLine) (ho:PE X o td) (hi:PE X i ty) (hv:PE X value tv) (hop:FX X op rd)
  (ha:∀ov iv new,augStore i ov iv new=(do holding [new,ov,iv] (setItem ov iv new);release [new,ov,iv] [];pure .next)):PS X (.AugAssign (.Subscript o i tpos) op value pos) (Gd td ty tv rd):=by
 intro pins s σ H D I h
 refine wpAny_AugAssign_SubscriptAny (cp (ho pins s σ H _ I h) fun u s1 ⟨x,H1,I1,rx,q1⟩=>cp (hi pins s1 σ H1 _ I1 q1) fun iv s2 z_=> ?_) ha
 obtain⟨y,H2,I2,ry,a,v,ex,g,q2⟩:=z_
 subst ex
 obtain rfl:u=Value.ref a:=rx
 refine qt hu I2 g ry fun w' s3 I3 rw'=>cp (hv pins s3 σ H2 _ I3 q2) fun w2 s4 ⟨y2,H3,I4,ry2,q3⟩=>cp (hop pins s4 σ H3 v y2 w' w2 _ I4 rw' ry2 q3) fun w3 s5 z_=> ?_
 obtain⟨z,H4,I5,rz,H5,g5,q4⟩:=z_
 exact qu hu I5 g5 ry rz fun s6 I6=>⟨σ,H5,I6,q4⟩
end
theorem sM {P:Program} {w:World} {H:Hp} (h:Heap) (hb:sysModules<h.objs.size):bS P w H (h.push {cls:= .type "dict",data:= .dict #[]}) h.objs.size (.dK []):=
 ⟨Nat.zero_le _,beq_eq_false_iff_ne.mpr (Ne.symm (Nat.ne_of_lt hb)),[], .nil,Heap.DictOf.new h⟩
def Ek:TE:=fun _ H Q=>∀p,H p=none->Q (.ref p) (bK H p (.dK []))
section
variable {X:Cx} {pos:Pos}
theorem zi:PE X (.Dict [] [] pos) Ek:=fun pins s σ H Q I h=>
 wpAny_Dict_empty ⟨.ref s.heap.objs.size,_,I.laid (a:=s.heap.objs.size) (o:= .dK []) (t':=s.toks) (fun _ _ q=>Heap.get?_push_of_some _ q) (Nat.le_refl _) (sM s.heap I.big),rfl,h _ (I.hok.fresh (Nat.le_refl _))⟩
end
def rq:List (TE×TE)->St->Hp->(List (V×V)->Hp->Prop)->Prop
 |[],_,H,Q=>Q [] H
 |(tk,tv)::r,σ,H,Q=>tk σ H fun x H1=>tv σ H1 fun y H2=>rq r σ H2 fun ps H3=>Q ((x,y)::ps) H3
abbrev VV:List (V×V)->List (Value×Value)->Prop:=Paired fun p q=>bx p.1 q.1/\bx p.2 q.2
def Ge (X:Cx) (pos:Pos) (keys:List (Option Expr)) (values:List Expr) (trs:List (TE×TE)):Prop:=
 ∀(pins:List (Addr×Obj)) (s:Shared) (σ:St) (H:Hp) (Q:List (V×V)->Hp->Prop),aF X pins σ H s->rq trs σ H Q->
  wpAny (model X.prog X.w) X.A (evalPairs (pairTrees keys values X.env pos)) (fun vs s'=>∃ps H',aF X pins σ H' s'/\VV ps vs/\Q ps H') X.xe s
theorem BW {X:Cx} {pos:Pos}:Ge X pos [] [] []:=fun pins s σ H Q I h=>pairTrees_nil_walk ⟨[],H,I, .nil,h⟩
theorem zj {X:Cx} {pos:Pos} {k v:Expr} {ks:List (Option Expr)} {vs:List Expr} {tk tv:TE} {trs:List (TE×TE)} (hk:PE X k tk) (hv:PE X v tv) (hr:Ge X pos ks vs trs):
  Ge X pos (some k::ks) (v::vs) ((tk,tv)::trs):=fun pins s σ H Q I h=>
 pairTrees_cons_walk (cp (hk pins s σ H _ I h) fun u s1 ⟨x,H1,I1,rx,q1⟩=>cp (hv pins s1 σ H1 _ I1 q1) fun w2 s2 ⟨y,H2,I2,ry,q2⟩=>
  cp (hr pins s2 σ H2 _ I2 q2) fun ws s3 ⟨ps,H3,I3,rel,q3⟩=>⟨(x,y)::ps,H3,I3, .cons ⟨rx,ry⟩ rel,q3⟩)
def eE (kvs more:List (a_×V)):List (a_×V):=more.foldl (fun acc kv=>iT acc kv.1 kv.2) kvs
theorem KV.merge:∀{more:List (a_×V)} {rs:List (a_×Value)} {kvs:List (a_×V)} {vs:List (a_×Value)},KV more rs->KV kvs vs->KV (eE kvs more) (merged vs rs):=by
 intro more rs kvs vs r
 unfold KV at r
 induction r generalizing kvs vs with
 |nil=>intro q;exact q
 | @cons p q ps qs h t ih=>
  intro r0
  have e:KV (iT kvs p.1 p.2) (stored vs q.1 q.2):=by
   have:=r0.put p.1 h.2
   rw[<-h.1];exact this
  exact ih e
theorem iL:∀(more kvs:List (a_×V)),(eE kvs more).length<=kvs.length+more.length
 |[],kvs=>by show kvs.length<=kvs.length+0;omega
 |p::r,kvs=>by
  have h1:=iL r (iT kvs p.1 p.2)
  have h2:=jK kvs p.1 p.2
  show (eE (iT kvs p.1 p.2) r).length<=_
  rw[List.length_cons];omega
theorem ol {P:Program} {w:World}:∀{kvs:List (a_×V)} {ws:List (Value×Value)},VV (kvs.map fun kv=>(kV kv.1,kv.2)) ws->∃rs,Carries (bg P w) ws rs/\KV kvs rs
 |[],_,r=>by rw[List.map_nil]at r;cases r;exact⟨[],True.intro, .nil⟩
 |p::kvs,_,r=>by
  rw[List.map_cons]at r
  cases r with
  | @cons a b as bs h t=>
   obtain⟨rs,c,q⟩:=ol (P:=P) (w:=w) t
   obtain⟨b1,b2⟩:=b
   exact⟨(p.1,b2)::rs,⟨n8 h.1,rfl,c⟩, .cons ⟨rfl,h.2⟩ q⟩
def Dp (trs:List (TE×TE)):TE:=fun σ H Q=>∀p,H p=none->rq trs σ (bK H p (.dK [])) fun ps H2=>H2 p=some (.dK [])/\∃kvs:List (a_×V),ps=kvs.map (fun kv=>(kV kv.1,kv.2))/\kvs.length<=15/\Q (.ref p) (bK H2 p (.dK (eE [] kvs)))
theorem BX {X:Cx} {pos:Pos} {keys:List (Option Expr)} {values:List Expr} {trs:List (TE×TE)} (h:Ge X pos keys values trs) (hall:keys.all (·.isSome)=true) (hl:keys.length=values.length) (h0:keys≠[])
  (h15:keys.length<=15):PE X (.Dict keys values pos) (Dp trs):=by
 intro pins s σ H Q I q
 have hn:=I.hok.fresh (Nat.le_refl s.heap.objs.size)
 have I1:=I.laid (a:=s.heap.objs.size) (o:= .dK []) (h':=s.heap.push {cls:= .type "dict",data:= .dict #[]}) (t':=s.toks) (fun _ _ q=>Heap.get?_push_of_some _ q) (Nat.le_refl _) (sM s.heap I.big)
 refine wpAny_Dict_walk (knd:=bg X.prog X.w) hall hl h0 h15 (cp (h pins _ σ _ _ I1 (q _ hn)) fun ws s2 z_=> ?_)
 obtain⟨ps,H2,I2,rel,e,kvs,ep,lk,q2⟩:=z_
 subst ep
 obtain⟨rs,c,rk⟩:=ol (P:=X.prog) (w:=X.w) rel
 obtain⟨z,hd,vs0,r0,dd⟩:=oi I2.hok e
 cases r0
 refine⟨rs,c,dd,fun h' dd' hs=>⟨.ref s.heap.objs.size,_,?_,rfl,q2⟩⟩
 have hz:(eE [] kvs).length<=sizeLine:=by
  have h1:=iL kvs []
  rw[List.length_nil]at h1
  rw[sizeLine_eq];omega
 have he:∃q,h'.get? s.heap.objs.size=some q:=let ⟨q,_,_,hq,_⟩:=dd';⟨q,hq⟩
 exact nW I2 (by rw[e];exact True.intro) hs he (rm hz hd (rk.merge .nil) dd')
structure M2 (X:Cx) (o:Expr) (m:Str) (apos:Pos) (e f:Expr) (cpos:Pos):Prop where
 base:attributeBase o m X.env (eval o X.env)=eval o X.env
 few:((backTo cpos (starEach [e,f] X.env)).all (fun x=> !x.1)&&(backToKw cpos (keywordEach [] X.env)).all (fun x=>x.1.isSome)
  &&decide (([e,f]:List Expr).length+([]:List Keyword).length+(if ([]:List Keyword).isEmpty then 0 else 1)<30))=true
 line:(apos.endLine==cpos.line)=true
 trees:backTo cpos (starEach [e,f] X.env)=[(false,eval e X.env),(false,eval f X.env)]
def Ic (H:Hp) (a:Addr):Prop:=(∃kvs,Rd H a (.dK kvs))\/∃kvs,Rd H a (.dT kvs)
theorem El {X:Cx} {pins:List (Addr×Obj)} {σ:St} {H:Hp} {s:Shared} {a:Addr} (I:aF X pins σ H s) (d:Ic H a):
  s.TypeIs (.ref a) "dict"/\(∀b,Value.ref a= .ref b->∃ob,s.heap.get? b=some ob/\ob.dict=none)/\(a==sysModules)=false:=by
 rcases d with ⟨kvs,e⟩|⟨kvs,e⟩
 ·obtain⟨_,hd,vs,_,dd⟩:=n9 I.hok e
  refine⟨dd.typeIs,fun b q=> ?_,hd⟩
  cases q
  obtain⟨ob,_,_,h1,h2,_⟩:=dd
  exact⟨ob,h1,h2.2.1⟩
 ·obtain⟨_,hd,xs,_,dd⟩:=oj I.hok e
  refine⟨dd.typeIs,fun b q=> ?_,hd⟩
  cases q
  obtain⟨ob,_,_,h1,h2,_⟩:=dd
  exact⟨ob,h1,h2.2.1⟩
section
variable {X:Cx} {pins:List (Addr×Obj)} {σ:St} {H:Hp} {s:Shared} {a:Addr} {y d:V} {u r:Value} {o:Option V} {A:Around} {E:Value->Shared->Prop}
theorem Em {Q:Value->Shared->Prop} (hu:A.units+1<cLine) (I:aF X pins σ H s) (g:je H a y o) (ry:bx y u) (rd:bx d r) (h:∀w' s',aF X pins σ H s'->bx (o.getD d) w'->Q w' s'):
  wpAny (model X.prog X.w) A (call (.builtin "dict.get") [.ref a,u,r]) Q E s:=by
 rcases g with ⟨kvs,k,e,ey,l⟩|⟨kvs,k,b,e,ey,eb,l⟩
 ·subst ey
  obtain⟨z,hd,vs,rel,dd⟩:=n9 I.hok e
  refine call_meetsIn PySem.F.slot_dict_get dd.typeIs PySem.F.entry_dict_get (PySem.F.args_dict_get_3 _ _ _) (meets_dict_get_default (bg X.prog X.w) a (n8 ry) hd r) ⟨_,dd.mapOf,h _ _ (I.tok _) ?_⟩
  rw[l]
  exact(rel.val k).getD rd
 ·subst ey
  cases (show u=Value.ref b from ry)
  obtain⟨z,hd,xs,rel,dd⟩:=oj I.hok e
  refine call_meetsIn PySem.F.slot_dict_get dd.typeIs PySem.F.entry_dict_get (PySem.F.args_dict_get_3 _ _ _) (meetsH_dict_get_default (tupleKind (bg X.prog X.w)) a b hd r) ⟨tupleKind_room_in1 hu,k,xs,mD I.hok eb,dd,h _ _ (I.tok _) ?_⟩
  rw[l]
  exact(rel.val k).getD rd
end
def En (td ty tx:TE):TE:=fun σ H Q=>td σ H fun x H1=>∃a,x= .ref a/\Ic H1 a/\ty σ H1 fun y H2=>tx σ H2 fun z H3=>∃o,je H3 a y o/\Q (o.getD z) H3
section
variable {X:Cx} {o e f:Expr} {apos cpos:Pos} {td ty tx:TE}
theorem zk (hu:X.A.units+1<cLine) (ho:PE X o td) (he:PE X e ty) (hf:PE X f tx) (m:M2 X o "get" apos e f cpos):PE X (.Call (.Attribute o "get" apos) [e,f] [] cpos) (En td ty tx):=by
 intro pins s σ H Q I h
 refine wpAny_Call_method m.base m.few m.line PySem.F.plainAttrs_dict PySem.F.slot_dict_get PySem.F.type_dict_get (cp (ho pins s σ H _ I h) fun u s1 z_=> ?_)
 obtain⟨x,H1,I1,rx,a,ex,d,q1⟩:=z_
 subst ex
 obtain rfl:u=Value.ref a:=rx
 obtain⟨t1,t2,_⟩:=El I1 d
 refine⟨t1,t2,?_⟩
 rw[m.trees]
 refine Calls.callWith_builtin rfl (Calls.evalArgs_plain (Calls.spliced_cons (cp (he pins s1 σ H1 _ I1 q1) fun iv s2 ⟨y,H2,I2,ry,q2⟩=>
  Calls.spliced_cons (cp (hf pins s2 σ H2 _ I2 q2) fun fv s3 ⟨z,H3,I3,rz,ov,g,q3⟩=>Calls.spliced_nil ?_))))
 exact Em hu I3 g ry rz fun w' s4 I4 rw'=>⟨_,H3,I4,rw',q3⟩
end
section
variable {X:Cx} {pins:List (Addr×Obj)} {σ:St} {H:Hp} {s:Shared} {a:Addr} {kvs:List (a_×V)} {A:Around} {E:Value->Shared->Prop}
end
section
variable {X:Cx} {pins:List (Addr×Obj)} {σ:St} {H:Hp} {s:Shared} {a:Addr} {y:V} {u:Value} {A:Around} {E:Value->Shared->Prop}
end
end L2
namespace Att
open PySem PySem.W PySem.Calls PyProof.Rows
theorem nL {P:Params} {h:Heap}:∀(ns:List Int) (vs:List Value),WellAll P h vs (ns.map WData.int)->IntsAre vs ns:=by
 intro ns
 induction ns with
 |nil=>
  intro vs w
  rw[List.map_nil]at w
  cases w
  exact .nil
 |cons n ns ih=>
  intro vs w
  rw[List.map_cons]at w
  cases w with
  |cons a b=>
   cases a
   exact .cons _ _ (ih _ b)
theorem xu {l:OpenLaw} {n:Nat} (hn:l.most=some n) {P:Params} {h:Heap} {args:List WData} {vals:List Value}
  (hpre:l.row.toRowW.claim.pre args=true) (hwl:WellAll P h vals args):
  ∃a vs ns,vals=[Value.ref a]/\args=[WData.list (ns.map WData.int)]/\h.get? a=some {cls:= .type "list",data:= .seq vs.toArray}/\IntsAre vs ns/\ns.length<=n:=by
 have hsh:WShape.hasAll [] args [.list .int]=true:=(pre_splitW hpre).1
 have hc:l.pre.holds [] {args:=args}=true:=(pre_splitW hpre).2
 obtain⟨d,r,rfl,h1,h2⟩:=hasAllW_cons hsh
 obtain rfl:=hasAllW_nil h2
 obtain⟨xs,rfl,h3⟩:=hasW_list h1
 obtain⟨ns,rfl⟩:=items_int h3
 have hlen:ns.length<=n:=by
  unfold OpenLaw.pre at hc
  have h4:(WTm.not (.lt (.lit (.int (n:Int))) (.len (.arg 0)))).holds [] {args:=[.list (ns.map .int)]}=true:=by
   have h4:=(holds_andW hc).1
   rw[hn]at h4
   exact h4
  have h5:=condW_of h4 (w_not (w_lt w_lit (w_len_list (w_arg rfl))))
  rw[List.length_map]at h5
  refine Nat.le_of_not_lt fun q=> ?_
  have q':(n:Int)<((ns.length:Nat):Int):=by omega
  first
   |(rw[decide_eq_true q']at h5;exact absurd h5 (by decide))
   |(simp at h5;omega)
 cases hwl with
 |cons w1 w2=>
  cases w2
  cases w1 with
  |list ho hall=>exact⟨_,_,ns,rfl,rfl,ho,nL ns _ hall,hlen⟩
theorem xv (l:OpenLaw) (args:List WData):l.row.toRowW.claim.post args (.bool true) args=true:=
 postW_of (r:=l.row.toRowW) (X:=(true==true))
  (show WShape.has [] (.bool true) .bool=true by first|rfl|decide|simp[WShape.has,WShape.arms,WShape.armsAll])
  (show (WTm.eq .res (.lit (.bool true))).value [] {args:=args,res:=some (.bool true),after:=args}=some (.bool (true==true))from w_eq_bool (w_res rfl) w_lit) rfl
theorem attach_call {l:OpenLaw} {n:Nat} {q:Program} {loose:List Str} {XP:(Str->Option Value)->Heap->Prop} {YP:World->Heap->Prop} {d:DefRec}
  (hn:l.most=some n) (hdf:d.params.defaults=[])
  (call:∀(w:World) (s₀ s₁:Shared) (mg mb:Str->Option Value) (fa:Addr) (o:Obj) (pm cd doc:Value) (a:Addr) (vs:List Value) (ns:List Int),
   Ground q loose [] XP w s₀ mg mb s₁.heap->YP w s₁.heap->
   s₁.heap.get? fa=some o->o.data= .func (docDef d.name d.params d.body d.scope pm cd doc)->s₁.heap.CodeRec cd d.name->mg d.name=some (.ref fa)->
   s₁.heap.get? a=some {cls:= .type "list",data:= .seq vs.toArray}->IntsAre vs ns->ns.length<=n->s₁.gens= #[]->
   codeAny (model l.prog w) callerA (.call (.ref fa) ⟨[.ref a],[]⟩) (fun r s'=>r= .ok (.ret (.bool true))/\OldK s₁.heap s'.heap/\s'.os=s₁.os/\AllBare s'.gens) s₁):
  WalkO q loose XP YP l.row.toRowW d [] (fun f vs=>PySem.call f vs):=by
 intro w s₀ s₁ mg mb G Y fa o pm cd doc dV kV ho hd hcd hD hmg hg args vals as hpre hlay hrd hwl hlo
 obtain rfl:dV= .none:=Dflts.none hD hdf
 obtain rfl:kV= .none:=Dflts.noKw hD
 obtain⟨a,vs,ns,rfl,rfl,hobj,hints,hlen⟩:=xu hn hpre hwl
 refine enter_call (codeAny_mono (call w s₀ s₁ mg mb fa o pm cd doc a vs ns G Y ho (fd_plain hd) hcd hmg hobj hints hlen hg) fun r s' hq=> ?_)
 obtain⟨rfl,h2,h3,h4⟩:=hq
 exact⟨.inl ⟨.bool true, .bool true,[],rfl,fun _=>rfl, .bool true,xv l _,fun _=>⟨List.Pairwise.nil,fun _ hm=>(nomatch hm)⟩⟩,h2,h3,h4⟩
section
variable {prog:Program} {w:World} {A:Around} {E:Value->Shared->Prop} {s:Shared} {K:Frag}
end
end Att
namespace L2
open PySem PySem.Spec PyProof.Rows
theorem kj:∀{vs:List Value} {ns:List Int},IntsAre vs ns->aS (ns.map V.int) vs
 |_,_, .nil=> .nil
 |_,_, .cons n t h=> .cons ⟨t,rfl⟩ (kj h)
def Eo (H:Hp):Prop:=∀b,H b=none\/∃o xs,H b=some (.frz o (.lst xs))
theorem zl {P:Program} {w:World} {K:PySem.W.Frag} {mg mb:Str->Option Value} {CX:uD} {k:Nat} {fa a:Addr} {fd:FuncData} {x:Str} {sp:Sp} {s₁:Shared} {vs:List Value} {ns:List Int}
  (KX:K.In s₁.heap) (hns:s₁.heap.Ns mainGlobals mg) (hb:s₁.heap.Ns builtinsNs mb) (hbb:∀x:Str,x≠"__name__"->mb x=bootBuiltins x) (hlim:s₁.heap.NoLimit) (hg:s₁.gens= #[])
  (ha:s₁.heap.get? a=some {cls:= .type "list",data:= .seq vs.toArray}) (hi:IntsAre vs ns) (hl:ns.length<=sizeLine) (hr:dD k callerA)
  (F:∀base:Heap,K.In base->base.Ns mainGlobals mg->gE P w K mg base CX k fa fd [x] sp) (hbind:∀(s:Shared) (u:Value),BindsTo s fd ⟨[u],[]⟩ [(x,u)])
  (hsp:∀H:Hp,Eo H->eC K H a (ns.map V.int)->sp [.ref a] H (fun v _=>v= .bl true) fun _ _ _=>False)
  (hCX:∀H e s',CX [] H s₁ (fun _ _ _=>False) e s'->False):
  codeAny (model P w) callerA (.call (.ref fa) ⟨[.ref a],[]⟩) (fun r s'=>r= .ok (.ret (.bool true))/\OldK s₁.heap s'.heap/\s'.os=s₁.os/\AllBare s'.gens) s₁:=by
 have rv:=kj hi
 have lenV:=hi.length
 have core:∀H:Hp,Eo H->eC K H a (ns.map V.int)->jA P w H s₁.heap->(∀b,H b≠none->b=a)->(H a≠none->K.lookup a=none)->
   codeAny (model P w) callerA (.call (.ref fa) ⟨[.ref a],[]⟩) (fun r s'=>r= .ok (.ret (.bool true))/\OldK s₁.heap s'.heap/\s'.os=s₁.os/\AllBare s'.gens) s₁:=by
  intro H hO hS hok hA hK
  have base_of:∀{b:Addr} {o:Obj},s₁.heap.get? b=some o->H b=none->(r8 s₁.heap H).get? b=some o:=fun e n=>yA e n
  have noA:∀{b:Addr} {o:Obj} {es:Array DictEntry} {ep:Nat},s₁.heap.get? b=some o->o.data= .dict es ep->H b=none:=fun {b o es ep} e d=>by
   cases q:H b with
   |none=>rfl
   |some u=>
    have e':b=a:=hA b (by rw[q];simp)
    subst e'
    rw[ha]at e;cases e
    have d':Data.seq vs.toArray _=Data.dict es ep:=d
    cases d'
  have nsK:∀{b:Addr} {m:Str->Option Value},s₁.heap.Ns b m->(r8 s₁.heap H).Ns b m:=fun {b m} ⟨o,es,ep,e,d,r⟩=>⟨o,es,ep,base_of e (noA e d),d,r⟩
  have hKb:K.In (r8 s₁.heap H):=fun b o e=>base_of (KX b o e) (by
   cases q:H b with
   |none=>rfl
   |some u=>
    have e':b=a:=hA b (by rw[q];simp)
    subst e'
    rw[hK (by rw[q];simp)]at e;cases e)
  have hM:Mod K mg (r8 s₁.heap H):=⟨hKb,nsK hns,⟨mb,nsK hb,hbb⟩,let ⟨mc,h1,h2⟩:=hlim;⟨mc,nsK h1,h2⟩⟩
  have e0:uE P w K mg (r8 s₁.heap H) callerA [] s₁ H:=⟨rfl,hM,fun b o e=>Bp e,Nat.le_of_eq (xb _ _),trivial,fun b hb=>absurd (show b∈([]:List Addr)from hb) (by simp),hok, .of_eq hg⟩
  refine codeAny_mono ((F _ hKb (nsK hns)).run callerA [] s₁ H ⟨[.ref a],[]⟩ [.ref a] [.ref a] _ _ hr e0 (hbind s₁ (.ref a)) (.cons rfl .nil) (hsp H hO hS)) fun r s' h=> ?_
  cases r with
  |error e=>exact(hCX H e s' h).elim
  |ok fl=>
   cases fl with
   |next=>exact False.elim h
   |brk=>exact False.elim h
   |cont=>exact False.elim h
   |ret u=>
    obtain⟨v,H',os,bare,un,hok',r',q⟩:=h
    have q':v= .bl true:=q
    subst q'
    obtain rfl:u=Value.bool true:=r'
    refine⟨rfl,OldK.of_keep fun b o e=> ?_,os,bare⟩
    cases q:H b with
    |none=>exact un.keep b o e q (by intro z;exact absurd (show b∈([]:List Addr)from z) (by simp)) (by simp)
    |some u=>
     rcases hO b with z|⟨ob,xs,z⟩
     ·rw[q]at z;cases z
     ·have z2:=un.frzs b ob _ z
      obtain⟨e1,_⟩:=hok b _ z
      obtain⟨e2,_⟩:=hok' b _ z2
      rw[e]at e1;cases e1
      exact e2
 cases hk:K.lookup a with
 |some o=>
  have e:=KX a o hk
  rw[ha]at e
  cases e
  refine core (fun _=>none) (fun _=> .inl rfl) (.inr ⟨_,vs.toArray,_,hk,rfl,rfl,rfl,by rw[List.size_toArray,lenV];exact hl,by simpa using rv⟩) (fun b u z=>by have z':(none:Option HO)=some u:=z;cases z') (fun b z=>absurd rfl z) fun z=>absurd rfl z
 |none=>
  refine core (fun b=>if b=a then some (.frz {cls:= .type "list",data:= .seq vs.toArray} (.lst (ns.map V.int)))else none) (fun b=> ?_) (.inl (.inr ⟨{cls:= .type "list",data:= .seq vs.toArray},if_pos rfl⟩)) (fun b u z=> ?_) (fun b z=> ?_) fun _=>hk
  ·by_cases hb:b=a
   ·exact .inr ⟨_,_,if_pos hb⟩
   ·exact .inl (if_neg hb)
  ·by_cases hb:b=a
   ·have z':=(if_pos hb).symm.trans z
    cases z'
    subst hb
    exact⟨ha,by rw[List.length_map];exact hl,vs,_,rv,ha⟩
   ·have z':=(if_neg hb).symm.trans z
    cases z'
  ·by_cases hb:b=a
   ·exact hb
   ·exact absurd (if_neg hb) z
end L2
namespace L2
open PySem PySem.Spec PyProof.Rows
theorem BY {l:PySem.W.OpenLaw} {n k:Nat} {q:Program} {loose:List Str} {XP:(Str->Option Value)->Heap->Prop} {YP:World->Heap->Prop} {d:DefRec} {K:Params->PySem.W.Frag} {CX:World->uD} {sp:World->Sp} {x:Str}
  (hn:l.most=some n) (hn2:n<=sizeLine) (hdf:d.params.defaults=[]) (hr:dD k callerA)
  (hY:∀(w:World) (h:Heap),YP w h->(K w.params).In h)
  (F:∀(w:World) (mg:Str->Option Value) (fa:Addr) (h:Heap),(K w.params).In h->h.Ns mainGlobals mg->mg d.name=some (.ref fa)->
   ∃fd:FuncData,(∀(s:Shared) (u:Value),BindsTo s fd ⟨[u],[]⟩ [(x,u)])/\
    ∀base:Heap,(K w.params).In base->base.Ns mainGlobals mg->gE l.prog w (K w.params) mg base (CX w) k fa fd [x] (sp w))
  (hsp:∀(w:World) (H:Hp) (a:Addr) (ns:List Int),ns.length<=n->Eo H->eC (K w.params) H a (ns.map V.int)->sp w [.ref a] H (fun v _=>v= .bl true) fun _ _ _=>False)
  (hCX:∀(w:World) (H:Hp) (s:Shared) (e:Value) (s':Shared),CX w [] H s (fun _ _ _=>False) e s'->False):
  PySem.W.WalkO q loose XP YP l.row.toRowW d [] (fun f vs=>PySem.call f vs):=by
 refine Att.attach_call hn hdf fun w s₀ s₁ mg mb fa o pm cd doc a vs ns G Y ho hd hcd hmg hobj hints hlen hg=> ?_
 have KX:=hY w _ Y
 obtain⟨fd,hb,hF⟩:=F w mg fa _ KX G.T.g hmg
 exact zl KX G.T.g G.T.b G.T.builtins G.T.nolimit hg hobj hints (Nat.le_trans hlen hn2) hr hF hb (fun H hO hS=>hsp w H a ns hlen hO hS) fun H e s'=>hCX w H s₁ e s'
end L2
namespace L2
open PySem PySem.Spec PyProof.Rows
def nX (s:Stmt) (j:Nat):Stmt:=match s with
 | .ClassDef _ _ _ body _ _ _ _ _ _ _=>body.getD j (.Pass ⟨0,0,0,0⟩)
 |_=> .Pass ⟨0,0,0,0⟩
def aP (s:Stmt):Arguments:=match s with
 | .FunctionDef _ a _ _ _ _ _ _ _ _=>a
 |_=>{posonlyargs:=[],args:=[],vararg:=none,kwonlyargs:=[],kw_defaults:=[],kwarg:=none,defaults:=[]}
def aI (s:Stmt):List Stmt:=match s with
 | .FunctionDef _ _ b _ _ _ _ _ _ _=>b
 |_=>[]
def ah (s:Stmt):Scope:=match s with
 | .FunctionDef _ _ _ _ _ _ sc _ _ _=>sc
 |_=>{kind:= .function,names:=[],isGenerator:=false,isCoroutine:=false}
abbrev Ie:uD:=fun _ _ _ _ _ _=>False
structure yw (K:PySem.W.Frag) (x qual:Str) (st:Stmt) (f:Addr) (fd:FuncData):Prop where
 ex:∃(oc:Value) (od:Option Addr) (kV doc pm:Value) (an:Option Addr) (cdv ct:Value) (osl:Array (Option Value)),
  fd=PySem.W.fnOf x qual (aP st) (aI st) (ah st) .none kV doc pm an cdv ct/\K.lookup f=some ⟨oc,od, .func fd,osl⟩/\PySem.W.codeIn K cdv qual=true
 kp:PySem.W.keepIn K (.ref f)=true
section
variable {P:Program} {w:World} {K:PySem.W.Frag} {mg:Str->Option Value} {base:Heap}
theorem yw.ok {x qual:Str} {st:Stmt} {f:Addr} {fd:FuncData} {N ps:List Str} {k:Nat} {sp:Sp} (F:yw K x qual st f fd) (S:aK N ps (ah st)) (len:∀vs H Q E,sp vs H Q E->vs.length=ps.length)
  (hbody:∀(cdv:Value) (A:Around) (outer:List Env) (s:Shared) (H:Hp) (vs:List V) (Q:VK) (E:XK),dD k (A.deeper (envOfC qual (ah st) s.heap.objs.size f cdv))->sp vs H Q E->
   ∃t,pQ (jH Ie P w K mg base N qual (ah st) f cdv A outer s H E).nox (aI st) t/\t {nx:=fun _ H'=>Q .non H',rt:=Q} (gF N vs) H):gE P w K mg base Ie (k+1) f fd ps sp:=by
 obtain⟨oc,od,kV,doc,pm,an,cdv,ct,osl,rfl,lk,hcd⟩:=F.ex
 refine Dj lk hcd S len fun A outer s H vs Q E hr hsp=> ?_
 obtain⟨t,h,q⟩:=hbody cdv A outer s H vs Q E hr hsp
 exact⟨t,h.nox,q⟩
theorem yw.binds {x qual:Str} {st:Stmt} {f:Addr} {fd:FuncData} {ps:List Str} (F:yw K x qual st f fd)
  (h:∀(kV doc pm:Value) (an:Option Addr) (cdv ct:Value) (us:List Value),us.length=ps.length->bindArgs (PySem.W.fnOf x qual (aP st) (aI st) (ah st) .none kV doc pm an cdv ct) ⟨us,[]⟩=pure (ps.zip us)):g_ K fd ps []:=by
 obtain⟨oc,od,kV,doc,pm,an,cdv,ct,osl,rfl,lk,hcd⟩:=F.ex
 exact .all (h kV doc pm an cdv ct)
theorem bC {x qual:Str} {st:Stmt} {f:Addr} {oc:Value} {od an:Option Addr} {osl:Array (Option Value)} {kV doc pm cdv ct:Value} (l:K.lookup f=some ⟨oc,od, .func (PySem.W.fnOf x qual (aP st) (aI st) (ah st) .none kV doc pm an cdv ct),osl⟩)
  (c:PySem.W.codeIn K cdv qual=true) (k:PySem.W.keepIn K (.ref f)=true):yw K x qual st f (PySem.W.fnOf x qual (aP st) (aI st) (ah st) .none kV doc pm an cdv ct):=⟨⟨oc,od,kV,doc,pm,an,cdv,ct,osl,rfl,l,c⟩,k⟩
end
theorem cg {A:Around} {k:Nat} (hr:dD k A):A.units+1<cLine:=Nat.lt_of_le_of_lt (Nat.add_le_add_left (by decide:1<=64) _) hr.units
section
variable {X:Cx}
theorem pv (i:Nat) {x:Str} {pos:Pos} (hN:X.N[i]? =some x:=by rfl) (hv:uo X.env.scope x:=by first|exact Or.inl rfl|exact Or.inr (Or.inl rfl)|exact Or.inr (Or.inr rfl)) (hd:(x==("__debug__":Str))=false:=by decide)
  (hcd:(x==("__classdict__":Str))=false:=by decide):PE X (.Name x pos) (Br i):=DO hN hv hd hcd
end
def aY (H H':Hp):Prop:=∀b o,H b=some o->H' b=some o
theorem aY.refl (H:Hp):aY H H:=fun _ _ h=>h
theorem aY.trans {H H1 H2:Hp} (a:aY H H1) (b:aY H1 H2):aY H H2:=fun c o h=>b c o (a c o h)
theorem aY.free {H H':Hp} (e:aY H H') {l:Addr} (h:H' l=Option.none):H l=Option.none:=by
 cases q:H l with
 |none=>rfl
 |some o=>
  rw[e l o q]at h
  cases h
theorem aY.seq {K:PySem.W.Frag} {H H':Hp} {a:Addr} {xs:List V} (e:aY H H') (h:eC K H a xs):eC K H' a xs:=by
 rcases h with (h|⟨o,h⟩)|h
 ·exact .inl (.inl (e _ _ h))
 ·exact .inl (.inr ⟨o,e _ _ h⟩)
 ·exact .inr h
section
variable {κ:Type} [DecidableEq κ]
end
end L2
namespace L2
open PySem PySem.Spec PyProof.Rows
def mE (env:Env):List (Str×NameKind)->List (Str×Addr)->List (Str×Addr)
 |[],cs=>cs
 |(n,k)::r,cs=>mE env r (if k= .free then (match env.cells.lookup n with|some c=>(n,c)::cs|none=>cs)else cs)
theorem om (env:Env):∀(names:List (Str×NameKind)) (cs:List (Str×Addr)),(∀y∈names,y.2= .free->∃c,env.cells.lookup y.1=some c)->
  (forIn names cs fun (x:Str×NameKind) (r:List (Str×Addr))=>(if (x.2==NameKind.free)=true then do
    let a<-cellOf env x.1
    pure (ForInStep.yield ((x.1,a)::r))else pure (ForInStep.yield r):Sem (ForInStep (List (Str×Addr)))))=pure (mE env names cs)
 |[],cs,_=>rfl
 |(n,k)::r,cs,h=>by
  rw[List.forIn_cons]
  by_cases hk:k= .free
  ·subst hk
   obtain⟨c,hc⟩:=h (n, .free) List.mem_cons_self rfl
   have e:cellOf env n=pure c:=by unfold cellOf;rw[hc]
   simp only[beq_self_eq_true,if_true,e]
   unfold mE
   simp only[if_true,hc]
   exact om env r ((n,c)::cs) fun y hy=>h y (List.mem_cons_of_mem _ hy)
  ·have hb:(k==NameKind.free)=false:=by simpa using hk
   simp only[hb,Bool.false_eq_true,if_false]
   unfold mE
   rw[if_neg hk]
   exact om env r cs fun y hy=>h y (List.mem_cons_of_mem _ hy)
theorem vV {scope:Scope} {env:Env} (h:∀y∈scope.names,y.2= .free->∃c,env.cells.lookup y.1=some c):closureFor scope env=pure (mE env scope.names []):=by
 have:=om env scope.names [] h
 unfold closureFor
 simp only[bind_pure]
 exact this
theorem gG {env:Env} {x:Str} {c:Addr}:∀{names:List (Str×NameKind)} {cs:List (Str×Addr)},(∀c,cs.lookup x=some c->env.cells.lookup x=some c)->(mE env names cs).lookup x=some c->env.cells.lookup x=some c
 |[],cs,h,e=>h c e
 |(n,k)::r,cs,h,e=>by
  unfold mE at e
  refine gG (names:=r) (fun d hd=> ?_) e
  split at hd
  ·split at hd
   ·rename_i c' hc
    rw[List.lookup_cons]at hd
    cases hx:x==n with
    |true=>rw[hx]at hd;have:=eq_of_beq hx;subst this;rw[hc];exact hd
    |false=>rw[hx]at hd;exact h d hd
   ·exact h d hd
  ·exact h d hd
theorem qv {env:Env} {x:Str}:∀{names:List (Str×NameKind)} {cs:List (Str×Addr)},(∃c,cs.lookup x=some c)->∃c,(mE env names cs).lookup x=some c
 |[],cs,h=>h
 |(n,k)::r,cs,h=>by
  unfold mE
  refine qv (names:=r) ?_
  split
  ·split
   ·rename_i c' hc
    rw[List.lookup_cons]
    cases x==n with
    |true=>exact⟨_,rfl⟩
    |false=>exact h
   ·exact h
  ·exact h
theorem oo {env:Env} {x:Str}:∀{names:List (Str×NameKind)} {cs:List (Str×Addr)},(x,NameKind.free)∈names->(∃c,env.cells.lookup x=some c)->∃c,(mE env names cs).lookup x=some c
 |(n,k)::r,cs,h,hc=>by
  unfold mE
  rcases List.mem_cons.mp h with h|h
  ·cases h
   obtain⟨c,hc⟩:=hc
   refine qv (names:=r) ?_
   rw[if_pos rfl,hc]
   exact⟨c,by simp⟩
  ·exact oo h hc
def oq (N:List Str) (names:List (Str×NameKind)) (σ:St):St:=
 names.map fun x=>if x.2= .free then ((N.findIdx? (·==x.1)).bind fun i=>(σ[i]?).join)else none
def da (X:Cx) (scope:Scope) (s:Shared) (H:Hp) (ex:List Addr):Cx:=
 {X with N:=scope.names.map (·.1),s₀:=s,H₀:=H,env:=compEnvC scope (mE X.env scope.names []) s.heap.objs.size X.env,outer:=X.stack,ex:=ex,fn:=fun _=>false,pn:=[],xe:=fun _ _=>False}
structure cj (X:Cx) (scope:Scope):Prop where
 kind:scope.kind= .function
 nocell:∀y∈scope.names,y.2≠ .cell
 loc:∀y∈scope.names,y.2= .local->scope.names.lookup y.1=some .local
 free:∀y∈scope.names,y.2= .free->X.env.kindOf y.1=some .cell\/X.env.kindOf y.1=some .free
 nd:(scope.names.map (·.1)).Nodup
theorem fH {env:Env} {x:Str}:∀{names:List (Str×NameKind)} {k:NameKind},
  (names.map fun (n,k)=>if (k==NameKind.free&&env.scope.kind== .function&&env.kindOf n==some .cell)then (n,NameKind.cell)else (n,k)).lookup x=some k->
  names.lookup x=some k\/(names.lookup x=some .free/\k= .cell)
 |[],k,h=>by simp at h
 |(n,j)::r,k,h=>by
  have ih:= @fH env x r k
  rw[List.map_cons,List.lookup_cons]at h
  rw[List.lookup_cons]
  by_cases hc:(j==NameKind.free&&env.scope.kind== .function&&env.kindOf n==some .cell)=true
  ·rw[if_pos hc]at h
   have hj:j= .free:=by
    simp only[Bool.and_eq_true]at hc
    exact eq_of_beq hc.1.1
   cases hx:x==n with
   |true=>rw[hx]at h;simp at h;exact .inr ⟨by rw[hj],h.symm⟩
   |false=>rw[hx]at h;exact ih h
  ·rw[if_neg hc]at h
   cases hx:x==n with
   |true=>rw[hx]at h;exact .inl h
   |false=>rw[hx]at h;exact ih h
theorem gH {α β:Type} [BEq α] [LawfulBEq α] {x:α} {b:β}:∀{l:List (α×β)},l.lookup x=some b->(x,b)∈l
 |[],h=>by simp at h
 |(a,c)::r,h=>by
  rw[List.lookup_cons]at h
  cases hx:x==a with
  |true=>rw[hx]at h;have:=eq_of_beq hx;subst this;cases h;exact List.mem_cons_self
  |false=>rw[hx]at h;exact List.mem_cons_of_mem _ (gH h)
section
variable {X:Cx} {pins:List (Addr×Obj)} {σ:St} {H:Hp} {s:Shared} {scope:Scope}
theorem cj.cellOf (S:cj X scope) (ok:X.Ok):∀y∈scope.names,y.2= .free->∃c,X.env.cells.lookup y.1=some c:=fun y hy hf=>ok.has y.1 (S.free y hy hf)
theorem vW (S:cj X scope) (I:aF X pins σ H s) {fp:List Addr} (hfp:∀b∈fp,lD X pins H b/\b<s.heap.objs.size):(da X scope s H fp).Ok where
 mod:=I.mod
 kind:=S.kind
 glob:=I.ok.glob
 blt:=I.ok.blt
 above:=Nat.le_refl _
 inj:=fun x y c hx hy=>I.ok.inj x y c (gG (by intro c h;simp at h) hx) (gG (by intro c h;simp at h) hy)
 has:=fun x hx=>by
  have hm:(x,NameKind.free)∈scope.names:=by
   rcases hx with hx|hx
   ·rcases fH hx with h|⟨h,_⟩
    ·exact absurd rfl (S.nocell _ (gH h))
    ·exact gH h
   ·rcases fH hx with h|⟨h,_⟩<;>exact gH h
  exact oo hm (S.cellOf I.ok _ hm rfl)
 cab:=fun x c h=>by cases h
 hd:=I.ok.hd
 frames:=I.ok.frames
 stk:= .inl rfl
 exf:=fun b hb=>⟨Nat.ne_of_lt (hfp b hb).2,fun x c hx=>(hfp b hb).1.2.2.2.2.1 x c (gG (by intro c h;simp at h) hx)⟩
 bs:=I.bs
 bsz:=Nat.le_trans I.ok.bsz I.sz
 noex:=fun b o e hb=>by
  rcases(hfp b hb).1.2.2.2.1 with h|h
  ·exact I.ok.noex b o e h
  ·have h1:b<X.base.objs.size:=Heap.lt_size e
   exact Nat.lt_irrefl _ (Nat.lt_of_lt_of_le h1 (Nat.le_trans I.ok.bsz h))
 exfs:=fun b hb hc=>by
  have:=I.stkSub b hc
  rcases List.mem_cons.mp this with h|h
  ·exact(hfp b hb).1.2.1 h
  ·exact(hfp b hb).1.2.2.1 h
 funs:=I.stack
 frf:=I.stkFree
theorem Ep (S:cj X scope) (I:aF X pins σ H s) {fp:List Addr} (hfp:∀b∈fp,lD X pins H b/\b<s.heap.objs.size) {h':Heap} {t':Nat}
  (hn:h'.Ns s.heap.objs.size fun _=>none) (k:∀b o,s.heap.get? b=some o->h'.get? b=some o):
  aF (da X scope s H fp) [] (oq X.N scope.names σ) H {s with heap:=h',toks:=t'}where
 ok:=vW S I hfp
 os:=rfl
 bare:=I.bare
 base:=Un.kept k
 loc:=by
  refine⟨_,hn,fun i x v hi hv _=> ?_⟩
  have hi':(scope.names.map (·.1))[i]? =some x:=hi
  rw[List.getElem?_map]at hi'
  unfold oq at hv
  rw[List.getElem?_map]at hv
  cases e:scope.names[i]? with
  |none=>rw[e]at hi';cases hi'
  |some y=>
   rw[e]at hi' hv
   have hx:y.1=x:=by simpa using hi'
   have hy:y∈scope.names:=List.mem_of_getElem? e
   simp only[Option.map_some,Option.some.injEq]at hv
   by_cases hf:y.2= .free
   ·rw[if_pos hf]at hv
    cases ei:X.N.findIdx? (·==y.1)with
    |none=>rw[ei]at hv;cases hv
    |some j=>
     rw[ei]at hv
     have hj:σ[j]? =some (some v):=by
      cases e2:σ[j]? with
      |none=>simp[e2]at hv
      |some o=>simp only[Option.bind_some,e2,Option.join_some]at hv;rw[hv]
     obtain⟨hl,hp,_⟩:=List.findIdx?_eq_some_iff_getElem.mp ei
     have hN:X.N[j]? =some x:=by
      rw[List.getElem?_eq_getElem hl]
      have:=eq_of_beq hp
      rw[this,hx]
     have hk:=S.free y hy hf
     rw[hx]at hk
     obtain⟨m,_,hm⟩:=I.loc
     obtain⟨u,ru,lu⟩:=hm j x v hN hj (by
      rcases hk with q|q
      ·exact .inr (.inl q)
      ·exact .inr (.inr q))
     refine⟨u,ru,?_⟩
     rcases lu with ⟨q,_⟩|⟨_,c,hc,hcell⟩
     ·rcases hk with z|z<;>rw[z]at q<;>cases q
     ·have hmem:(x,NameKind.free)∈scope.names:=by
       have:y=(x,NameKind.free):=by cases y;simp at hx hf;rw[hx,hf]
       rw[<-this];exact hy
      obtain⟨d,hd⟩:=oo (cs:=[]) hmem (S.cellOf I.ok _ hmem rfl)
      have hdc:d=c:=by
       have:=gG (cs:=[]) (by intro c h;simp at h) hd
       rw[this]at hc
       exact Option.some.inj hc
      refine .inr ⟨?_,d,hd,?_⟩
      ·show (relabel scope X.env).names.lookup x=some .cell\/(relabel scope X.env).names.lookup x=some .free
       have hlk:∃k,(relabel scope X.env).names.lookup x=some k:=by
        unfold relabel
        cases el:(scope.names.map fun (n,k)=>if (k==NameKind.free&&X.env.scope.kind== .function&&X.env.kindOf n==some .cell)then (n,NameKind.cell)else (n,k)).lookup x with
        |some k=>exact⟨k,rfl⟩
        |none=>
         exfalso
         rw[List.lookup_eq_none_iff]at el
         have:=el (if (NameKind.free==NameKind.free&&X.env.scope.kind== .function&&X.env.kindOf x==some .cell)then (x,NameKind.cell)else (x,NameKind.free)) (List.mem_map.mpr ⟨_,hmem,rfl⟩)
         split at this<;>simp at this
       obtain⟨k,hk2⟩:=hlk
       rcases fH hk2 with h|⟨_,h⟩
       ·have hm2:=gH h
        have:k= .free:=by
         have nd:=S.nd
         obtain⟨a,ha,e1⟩:=List.mem_iff_getElem.mp hmem
         obtain⟨b,hb,e2⟩:=List.mem_iff_getElem.mp hm2
         have:a=b:=by
          refine(List.getElem_inj (h₀:=by simpa using ha) (h₁:=by simpa using hb) nd).mp ?_
          rw[List.getElem_map,List.getElem_map,e1,e2]
         subst this
         rw[e1]at e2
         cases e2;rfl
        subst this
        exact .inr hk2
       ·subst h;exact .inl hk2
      ·rw[hdc];exact hcell.keeps k
   ·rw[if_neg hf]at hv;cases hv
 cell:=fun x c hx=>by
  obtain⟨v,hv⟩:=I.cell x c (gG (cs:=[]) (by intro c h;simp at h) hx)
  exact⟨v,hv.keeps k⟩
 free:=I.hok.fresh (Nat.le_refl _)
 freeC:=fun x c hx=>I.freeC x c (gG (cs:=[]) (by intro c h;simp at h) hx)
 pin:=fun p hp=>by cases hp
 hok:=I.hok.kept k
 len:=by simp[da,oq]
theorem vX (I:aF X pins σ H s) {fp:List Addr} (hfp:∀b∈fp,lD X pins H b/\b<s.heap.objs.size) {τ:St} {H':Hp} {s':Shared} (I':aF (da X scope s H fp) [] τ H' s') {h':Heap} {t':Nat}
  (hs:∀b o,b≠s.heap.objs.size->s'.heap.get? b=some o->h'.get? b=some o):aF X pins σ H' {s' with heap:=h',toks:=t'}:=by
 have u:Un (nT X.stack) fp H H' s.heap s'.heap:=I'.base
 have hC:H' s.heap.objs.size=none:=I'.free
 have nC:∀b o,s.heap.get? b=some o->b≠s.heap.objs.size:=fun b o e=>Nat.ne_of_lt (Heap.lt_size e)
 refine I.call' (ch:=fp) I'.os ⟨?_,?_,u.free,?_,u.tups,u.frzs,u.tbls⟩ (fun b o e=> ?_) I'.bare fun b hb=> ?_
 ·exact fun b o e n a c=>hs b o (nC b o e) (u.keep b o e n a c)
 ·intro b o e n a c
  obtain⟨sl,q⟩:=u.slot b o e n a c
  exact⟨sl,hs b _ (nC b o e) q⟩
 ·intro b o e a
  obtain⟨o',q⟩:=u.there b o e a
  exact⟨o',hs b _ (nC b o e) q⟩
 ·refine(I'.hok b o e).stay (fun c v hc q=>hs c v ?_ q) (fun _ q=>q) fun _ _ q=>q
  intro z
  subst z
  rcases hc with z|z
  ·rw[z]at hC;rw[hC]at e;cases e
  ·rw[hC]at z;cases z
 ·obtain⟨h1,h2,h3,h4,h5,h6⟩:=(hfp b hb).1
  exact⟨h4,h2,h5,h6⟩
end
def Dq (X:Cx) (ifs:List Expr) (t:TT):Prop:=
 ∀(pins:List (Addr×Obj)) (s:Shared) (σ:St) (H:Hp) (Q:Bool->Hp->Prop),aF X pins σ H s->t σ H Q->
  wpAny (model X.prog X.w) X.A (forIn ifs true fun c r=>if r=true then do let ok<-isTrue c X.env (eval c X.env);pure (ForInStep.yield ok)else pure (ForInStep.yield r)) (TP X pins σ Q) X.xe s
theorem BZ {X:Cx}:Dq X [] (fun _ H Q=>Q true H):=fun _ _ _ H _ I h=>wpAny_tests_nil ⟨H,I,h⟩
theorem B_ {X:Cx} {c:Expr} {t:TT} (h:PT X c t):Dq X [c] t:=fun pins s σ H Q I q=>wpAny_tests_one (h pins s σ H Q I q)
def ot (J:It) (g:TG) (tt:TT) (te:TE) (D:Addr) (τ0:St) (Q:Hp->Prop) (H1:Hp):Prop:=
 ∃W:Nat->Nat->List V->St->Hp->Prop,(∃m,W 0 m [] τ0 H1)/\∀i m ys τ H,W i m ys τ H->H D=some (.lst ys)/\
  ((J.stop i H/\Q H)\/(J.go i H/\ys.length<sizeLine/\∀x H',J.yld i H x H'->g x τ H' fun τ2 H2=>tt τ2 H2 fun b H3=>
   if b=true then te τ2 H3 fun y H4=>H4 D=some (.lst ys)/\∃m',m'<m/\W (i+1) m' (ys++[y]) τ2 (bK H4 D (.lst (ys++[y])))else ∃m',m'<m/\W (i+1) m' ys τ2 H3))
def Gf (N:List Str) (names:List (Str×NameKind)) (wi:TI) (g:TG) (tt:TT) (te:TE):TE:=fun σ H Q=>
 wi σ H fun J H1=>∀D,H1 D=none->ot J g tt te D (oq N names σ) (fun H2=>Q (.ref D) H2) (bK H1 D (.lst []))
section
variable {X:Cx} {elt tg iter:Expr} {ifs:List Expr} {scope:Scope} {pos:Pos} {wi:TI} {g:TG} {tt:TT} {te:TE}
theorem C1 (S:cj X scope) (hc:X.calm=true) (hg:∀s H ex,PG (da X scope s H ex) tg g) (hif:∀s H ex,Dq (da X scope s H ex) ifs tt) (hel:∀s H ex,PE (da X scope s H ex) elt te)
  {pins:List (Addr×Obj)} {σ:St} {H:Hp} {s:Shared} (I:aF X pins σ H s) {fp:List Addr} {it D:Addr} {tn:Nat->Heap->Prop} {J:It} (T:xg X.prog X.w X.K tg J fp it tn)
  (hfp:∀b∈fp,lD X pins H b/\b<s.heap.objs.size) {Q:Hp->Prop} {R:Result->Shared->Prop}
  (hR:∀τ H' s',aF (da X scope s H fp) [] τ H' s'->Q H'->R (.ok .next) s')
  {s1:Shared} {τ0:St} (I1:aF (da X scope s H fp) [] τ0 H s1) (ht:tn 0 s1.heap) (q:ot J g tt te D τ0 Q H):
  codeAny (model X.prog X.w) X.A (.compLoop (.ListComp elt [⟨tg,iter,ifs,0⟩] scope pos) 0 (.ref it) (.ref D) (da X scope s H fp).env) R s1:=by
 obtain⟨W,⟨m0,w0⟩,turn⟩:=q
 have stat:∀{H':Hp},(∀b∈fp,H' b=none)->∀b∈fp,lD (da X scope s H fp) [] H' b:=fun {H'} hn b hb=>
  ⟨hn b hb,Nat.ne_of_lt (hfp b hb).2,(vW S I hfp).exfs b hb, .inl hb,fun x c hx=>(hfp b hb).1.2.2.2.2.1 x c (gG (cs:=[]) (by intro c h;simp at h) hx),fun p hp=>by cases hp⟩
 refine codeAny_loop rfl (fun n s'=>∃i ys τ H',aF (da X scope s H fp) [] τ H' s'/\tn i s'.heap/\(∀b∈fp,H' b=none)/\W i n ys τ H') (fun n s2 hI=> ?_) m0 ⟨0,[],τ0,H,I1,ht,fun b hb=>(hfp b hb).1.1,w0⟩
 obtain⟨i,ys,τ,H2,I2,st2,fr2,w2⟩:=hI
 show wpAny _ X.A ((compTurn (.ListComp elt [⟨tg,iter,ifs,0⟩] scope pos) 0 (.ref it) (.ref D) (da X scope s H fp).env).onRaise (fun x=>do noteFrame x (da X scope s H fp).env;theTreesLotGoes x)) _ _ s2
 refine wpAny_noted ?_
 rw[compTurn_list]
 have up:∀{α:Type} {t:Sem α} {Q:α->Shared->Prop} {E:Value->Shared->Prop} {s:Shared},wpAny (model X.prog X.w) X.A t Q (fun _ _=>False) s->wpAny (model X.prog X.w) X.A t Q E s:=fun h=>wpAny_mono h (fun _ _ q=>q) fun _ _ f=>f.elim
 obtain⟨hD,alt⟩:=turn i n ys τ H2 w2
 rcases alt with ⟨stop,qn⟩|⟨go,hz,step⟩
 ·refine wpAny_bind (wpAny_standAt (wpAny_bind (up (cp (T.done (da X scope s H fp) rfl rfl rfl hc i [] s2 τ H2 (fun _ _=>False) I2 (stat fr2) st2 stop) fun r s3 z_=> ?_))))
  obtain⟨hr,I3⟩:=z_
  subst hr
  exact wpAny_pure (hR _ _ _ I3 qn)
 ·refine wpAny_bind (wpAny_standAt (wpAny_bind (up (cp (T.item (da X scope s H fp) rfl rfl rfl hc i [] s2 τ H2 (fun _ _=>False) I2 (stat fr2) st2 go) fun r s3 z_=> ?_))))
  obtain⟨u,hr,h3⟩:=z_
  subst hr
  refine wpAny_bind (up (cp h3 fun _ s4 z_=> ?_))
  obtain⟨x,H4,I4,r4,y4,st4,fr4⟩:=z_
  have I4':=I4.pinned (stat fr4) (T.obj _ _ st4)
  have back:∀{τ7:St} {H7:Hp} {s7:Shared},aF (da X scope s H fp) ([]++o6 fp s4.heap) τ7 H7 s7->aF (da X scope s H fp) [] τ7 H7 s7/\tn (i+1) s7.heap/\∀b∈fp,H7 b=none:=fun I7=>
   ⟨I7.unpinned,T.keep _ _ _ st4 fun b hb o e=>(I7.pin (b,o) (List.mem_append_right _ (List.mem_append_right _ (jc hb e)))).1,fun b hb=>by
    obtain⟨o,e,d⟩:=T.obj _ _ st4 b hb
    exact(I7.pin (b,o) (List.mem_append_right _ (List.mem_append_right _ (jc hb e)))).2.1⟩
  refine wpAny_bind (up (cp (hg s H fp _ s4 τ H4 x u _ I4' r4 (step x H4 y4)) fun _ s5 z_=> ?_))
  obtain⟨τ5,H5,I5,q5⟩:=z_
  refine wpAny_bind (up (cp (hif s H fp _ s5 τ5 H5 _ I5 q5) fun ok s6 z_=> ?_))
  obtain⟨H6,I6,q6⟩:=z_
  cases ok with
  |false=>
   obtain⟨m',hm,w'⟩:=q6
   obtain⟨a,b,c⟩:=back I6
   exact wpAny_pure ⟨rfl,m',hm,i+1,ys,τ5,H6,a,b,c,w'⟩
  |true=>
   rw[if_pos rfl]at q6
   refine wpAny_bind (wpAny_bind (up (cp (hel s H fp _ s6 τ5 H6 _ I6 q6) fun v s7 z_=> ?_)))
   obtain⟨y,H7,I7,r7,hD7,m',hm,w'⟩:=z_
   refine wpAny_bind (up (cp (qq (X:=da X scope s H fp) _ s7 τ5 H7 (.ref D) [y] (.ref D) [v] (fun _ H8=>H8=bK H7 D (.lst (ys++[y]))) I7 rfl (.cons r7 .nil) ⟨D,ys,y,rfl,rfl,hD7,hz,rfl⟩) fun _ s8 z_=> ?_))
   obtain⟨_,H8,I8,_,e8⟩:=z_
   subst e8
   obtain⟨a,b,c⟩:=back I8
   exact wpAny_pure (wpAny_pure ⟨rfl,m',hm,i+1,ys++[y],τ5,_,a,b,c,w'⟩)
theorem sN (S:cj X scope) (hc:X.calm=true) (hg:∀s H ex,PG (da X scope s H ex) tg g) (hif:∀s H ex,Dq (da X scope s H ex) ifs tt) (hel:∀s H ex,PE (da X scope s H ex) elt te)
  {pins:List (Addr×Obj)} {σ:St} {H:Hp} {s:Shared} {E:Value->Shared->Prop} (I:aF X pins σ H s) {fp:List Addr} {it:Addr} {tn:Nat->Heap->Prop} {J:It} (T:xg X.prog X.w X.K tg J fp it tn)
  (hfp:∀b∈fp,lD X pins H b) (ht:tn 0 s.heap) {Q:Addr->Hp->Prop} {RR:Value->Addr->Result->Shared->Prop}
  (hR:∀(D:Addr) (H3:Hp) (s3:Shared) (τ:St) (H':Hp) (s':Shared),aF X pins σ H3 s3->(∀b∈fp,lD X pins H3 b/\b<s3.heap.objs.size)->aF (da X scope s3 H3 fp) [] τ H' s'->Q D H'->RR (.ref D) s3.heap.objs.size (.ok .next) s')
  (q:∀D,H D=none->ot J g tt te D (oq X.N scope.names σ) (Q D) (bK H D (.lst []))):
  wpAny (model X.prog X.w) X.A (newList []) (fun acc s₃=>wpAny (model X.prog X.w) X.A (newFunctionEnv scope X.env.globals (mE X.env scope.names []) [] X.env.qual none .none (some X.env)) (fun cenv s₄=>
   codeAny (model X.prog X.w) X.A (.compStart (.ListComp elt [⟨tg,iter,ifs,0⟩] scope pos) 0 (.ref it) acc {cenv with scope:=relabel scope X.env}) (RR acc cenv.locals) s₄) E s₃) E s:=by
 have hlt:∀b∈fp,b<s.heap.objs.size:=fun b hb=>by
  obtain⟨o,e,_⟩:=T.obj _ _ ht b hb
  exact Heap.lt_size e
 refine wpAny_newList ?_
 have I3:=I.lnew (ys:=[]) (its:=[]) (t':=s.toks) .nil (Nat.zero_le _)
 have hD:H s.heap.objs.size=none:=I.hok.fresh (Nat.le_refl _)
 have hsz3:(s.heap.push {cls:= .type "list",data:= .seq ([]:List Value).toArray}).objs.size=s.heap.objs.size+1:=Heap.size_push ..
 have hfp3:∀b∈fp,lD X pins (bK H s.heap.objs.size (.lst [])) b/\b<({s with heap:=s.heap.push {cls:= .type "list",data:= .seq ([]:List Value).toArray},toks:=s.toks}:Shared).heap.objs.size:=fun b hb=>by
  refine⟨⟨?_,(hfp b hb).2⟩,?_⟩
  ·rw[av (Nat.ne_of_lt (hlt b hb))];exact(hfp b hb).1
  ·show b<(s.heap.push _).objs.size
   rw[hsz3]
   exact Nat.lt_succ_of_lt (hlt b hb)
 refine wpAny_newFunctionEnv S.nocell (by intro y hy;simp at hy) (fun h₁ hns₁ hsb₁=> ?_) S.kind
 dsimp only at hns₁ hsb₁ ⊢
 have k1:∀b o,(s.heap.push {cls:= .type "list",data:= .seq ([]:List Value).toArray}).get? b=some o->h₁.get? b=some o:=fun b o e=>hsb₁.extBut b o (Nat.ne_of_lt (Heap.lt_size e)) (Heap.get?_push_of_some _ e)
 have I4:=Ep (t':=s.toks) S I3 hfp3 (h':=h₁) hns₁ k1
 have ht1:tn 0 h₁:=T.keep _ _ _ ht fun b hb o e=>k1 b o (Heap.get?_push_of_some _ e)
 have loop:codeAny (model X.prog X.w) X.A (.compLoop (.ListComp elt [⟨tg,iter,ifs,0⟩] scope pos) 0 (.ref it) (.ref s.heap.objs.size) (da X scope {s with heap:=s.heap.push {cls:= .type "list",data:= .seq ([]:List Value).toArray},toks:=s.toks} (bK H s.heap.objs.size (.lst [])) fp).env)
   (RR (.ref s.heap.objs.size) (s.heap.push {cls:= .type "list",data:= .seq ([]:List Value).toArray}).objs.size) {s with heap:=h₁,toks:=s.toks}:=
  C1 S hc hg hif hel I3 T hfp3 (fun τ H' s' I' q'=>hR _ _ _ τ H' s' I3 hfp3 I' q') I4 ht1 (q _ hD)
 exact codeAny_compStart_list loop (T.self _ 0 _ _ _ ht1 loop)
theorem vY (S:cj X scope) (hc:X.calm=true) (hi:PI X tg iter wi) (hg:∀s H ex,PG (da X scope s H ex) tg g) (hif:∀s H ex,Dq (da X scope s H ex) ifs tt) (hel:∀s H ex,PE (da X scope s H ex) elt te)
  (hs:∀x,foldedSetIterable iter X.env x=pure x:=by intro _;rfl):PE X (.ListComp elt [⟨tg,iter,ifs,0⟩] scope pos) (Gf X.N scope.names wi g tt te):=by
 intro pins s σ H Q I h
 rw[eval_ListComp]
 refine wpAny_comprehension_free (use:=none) rfl hs (vV (S.cellOf I.ok)) S.kind S.loc (cp (hi pins s σ H _ I h) fun v s1 h1=>cp h1 fun itv s2 h2=> ?_)
 obtain⟨it,fp,tn,J,H2,e,I2,T,st2,f2,q⟩:=h2
 subst e
 refine sN (Q:=fun D H2=>Q (.ref D) H2) (RR:=fun acc C=>compPost (model X.prog X.w) X.A X.xe none (EP X pins σ Q) acc C) S hc hg hif hel I2 T f2 st2 ?_ q
 intro D H3 s3 τ H' s' I3 f3 I' q'
 obtain⟨m,hm,_⟩:=I'.loc
 refine⟨m,hm,fun h' hs'=> ?_⟩
 exact⟨.ref D,H',vX (t':=s'.toks) I3 f3 I' fun b o hb e=>hs'.extBut b o hb e,rfl,q'⟩
def Gg (N:List Str) (names:List (Str×NameKind)) (wi:TI) (g:TG) (tt:TT) (te:TE) (gy:TG):TS:=fun D σ H=>
 wi σ H fun J H1=>∀p,H1 p=none->ot J g tt te p (oq N names σ) (fun H2=>gy (.ref p) σ H2 D.nx) (bK H1 p (.lst []))
theorem C3 {y:Str} {py spos:Pos} {gy:TG} (S:cj X scope) (hc:X.calm=true) (hi:PI X tg iter wi) (hg:∀s H ex,PG (da X scope s H ex) tg g) (hif:∀s H ex,Dq (da X scope s H ex) ifs tt)
  (hel:∀s H ex,PE (da X scope s H ex) elt te) (hy:PG X (.Name y py) gy) (hsw:swapsWith (.ListComp elt [⟨tg,iter,ifs,0⟩] scope pos) (some (.Name y py)) spos.line X.env=pure true:=by rfl)
  (hs:∀x,foldedSetIterable iter X.env x=pure x:=by intro _;rfl):PS X (.Assign [.Name y py] (.ListComp elt [⟨tg,iter,ifs,0⟩] scope pos) spos) (Gg X.N scope.names wi g tt te gy):=by
 intro pins s σ H D I h
 rw[exec_Assign_Name_used _ _ _ _ hsw]
 refine wpAny_bind (wpAny_standAt (wpAny_bind ?_))
 show wpAny _ X.A (do let _<-comprehension (.ListComp elt [⟨tg,iter,ifs,0⟩] scope pos) scope X.env _ (newList []) false (eval iter X.env) (some (assign (.Name y py) X.env))) _ _ s
 refine wpAny_bind (wpAny_mono (wpAny_comprehension_free (use:=some (assign (.Name y py) X.env)) (Q:=fun _ s'=>SP X pins D .next s') rfl hs (vV (S.cellOf I.ok)) S.kind S.loc
  (cp (hi pins s σ H _ I h) fun v s1 h1=>cp h1 fun itv s2 h2=> ?_)) (fun _ s' hq=>wpAny_pure (wpAny_pure hq)) fun _ _ e=>e)
 obtain⟨it,fp,tn,J,H2,e,I2,T,st2,f2,q⟩:=h2
 subst e
 refine sN (Q:=fun p H2=>gy (.ref p) σ H2 D.nx) (RR:=fun acc C=>compPost (model X.prog X.w) X.A X.xe (some (assign (.Name y py) X.env)) (fun _ s'=>SP X pins D .next s') acc C) S hc hg hif hel I2 T f2 st2 ?_ q
 intro p H3 s3 τ H' s' I3 f3 I' q'
 obtain⟨m,hm,_⟩:=I'.loc
 obtain⟨oC,es,ep,hoC,hdC,hkC,hmC⟩:=hm
 have J1:aF X pins σ H' s':=vX (t':=s'.toks) (h':=s'.heap) I3 f3 I' fun b o _ e=>e
 have hC0:H' s3.heap.objs.size=none:=I'.free
 have hCl:s3.heap.objs.size≠X.env.locals:=fun z=>by have:=I3.lt;rw[<-z]at this;exact Nat.lt_irrefl _ this
 have J2:aF X (pins++[(s3.heap.objs.size,oC)]) σ H' s':=J1.pins_of fun q hq=>by
  rcases List.mem_append.mp hq with hq|hq
  ·exact J1.pin q (List.mem_append_right _ hq)
  ·have e:q=(s3.heap.objs.size,oC):=by simpa using hq
   subst e
   exact⟨hoC,hC0,hCl,I3.nofs (Nat.le_refl _),fun v z=>by rw[hdC]at z;cases z⟩
 refine cp (hy _ s' σ H' (.ref p) (.ref p) D.nx J2 rfl q') fun _ s'' z_=> ?_
 obtain⟨σ5,H5,I5,q5⟩:=z_
 have hp:=I5.pin (s3.heap.objs.size,oC) (List.mem_append_right _ (List.mem_append_right _ List.mem_cons_self))
 refine⟨m,⟨oC,es,ep,hp.1,hdC,hkC,hmC⟩,fun h' hs'=> ?_⟩
 refine⟨σ5,H5,(I5.unpinned).turned (it:=s3.heap.objs.size) (t':=s''.toks) (fun b o hb e=>hs'.extBut b o hb e) hp.2.1 hCl (.inr I3.sz) (fun x c hx z=> ?_) (fun q hq z=> ?_),q5⟩
 ·obtain⟨v,o,ho,_⟩:=I3.cell x c hx
  have:=Heap.lt_size ho
  rw[z]at this
  exact Nat.lt_irrefl _ this
 ·have:=(I3.pin q hq).1
  have:=Heap.lt_size this
  rw[z]at this
  exact Nat.lt_irrefl _ this
end
end L2
namespace L2
open PySem PySem.Spec PyProof.Rows
section
variable {X:Cx} {e a b st:Expr} {te ta tb:TE} {tst:TO} {pos p2 p:Pos}
def HJ (K:PySem.W.Frag) (te:TE) (tst:TO):TE:=fun σ H Q=>te σ H fun x H1=>tst σ H1 fun o H2=>o=some (-1)/\∃a xs,x= .ref a/\eC K H2 a xs/\∀p,H2 p=none->Q (.ref p) (bK H2 p (.lst xs.reverse))
theorem Es (he:PE X e te) (hst:PO X (some st) tst):PE X (.Subscript e (.Slice none none (some st) p2) pos) (HJ X.K te tst):=by
 intro pins s σ H Q I h
 refine Subscript_ (cp (he pins s σ H _ I h) fun v s1 z_=> ?_)
 obtain⟨x,H1,I1,r1,q1⟩:=z_
 refine wpAny_Slice ?_
 rw[evalPart_none]
 refine wpAny_pure ?_
 try rw[evalPart_none]
 refine wpAny_pure ?_
 refine cp (hst pins s1 σ H1 _ I1 q1) fun vk s2 z_=> ?_
 obtain⟨o,H2,I2,pk,ho,a,xs,ex,hx,q⟩:=z_
 subst ho
 subst ex
 cases r1
 have I3:aF X pins σ H2 {s2 with heap:=s2.heap.push {cls:= .type "slice",data:= .fields #[.none, .none,vk]}}:=I2.kept (t':=s2.toks) fun b ob q=>Heap.get?_push_of_some _ q
 obtain⟨its,r,ht,hz⟩:=I3.list hx
 have hlen:=r.length
 show wpAny (model X.prog X.w) X.A (subscriptTail e (.Slice none none (some st) p2) (.ref a) (.ref s2.heap.objs.size)) (EP X pins σ Q) X.xe {s2 with heap:=s2.heap.push {cls:= .type "slice",data:= .fields #[.none, .none,vk]}}
 refine tail_any (ops:=[.ref a, .ref s2.heap.objs.size]) ht.isList.typeIs slot_list_getitem.lookup ?_ (by with_unfolding_all rfl)
 refine wpAny_getItem_list_slice ht.isList (Heap.IsSliceOf.new ..) .none .none pk (by decide) ?_ (by rw[List.size_toArray]<;>omega)
 rw[PySem.W.krv_pick]
 refine⟨.ref _,_,I3.laid (t':=s2.toks) (o:= .lst xs.reverse) (fun b ob q=>Heap.get?_push_of_some _ q) (Nat.le_refl _) ?_,rfl,q _ (I3.hok.fresh (Nat.le_refl _))⟩
 exact⟨by rw[List.length_reverse];exact hz,its.reverse,0,r.reverse,Heap.get?_push_size _ rfl⟩
def HK (K:PySem.W.Frag):List V->Hp->VK->Prop:=fun xs H Q=>∃x T t k,xs=[x, .ty T]/\lF K H x t/\PySem.W.kitOne K t (.type T)=some k/\Q (.bl k) H
theorem zm:cT X (.builtin "isinstance") (HK X.K):=by
 intro pins s σ H xs us Q I rv h
 obtain⟨x,T,t,k,rfl,ty,e,q⟩:=h
 obtain⟨u,w',rfl,ru,rw'⟩:=sH rv
 cases rw'
 exact xq I ru ty e fun tk=>⟨.bl k,H,I.tok tk,rfl,q⟩
theorem ou:bootBuiltins "isinstance"=some (.builtin "isinstance"):=by decide+kernel
theorem mF (hc:X.calm=true):cT X (.builtin "sum") (fun xs H Q=>∃p ns,xs=[.ref p]/\eC X.K H p (ns.map V.int)/\Q (.int (List.sum ns)) H):=by
 intro pins s σ H xs us Q I rv h
 obtain⟨p,ns,rfl,hx,q⟩:=h
 obtain⟨u,rfl,ru⟩:=iR rv
 cases ru
 obtain⟨its,r,ht,hz⟩:=I.list hx
 have hi:=kW r
 obtain⟨xs,hxs⟩:=hi.allInts.items
 have hl':s.heap.IsList p (intItems xs):=hxs▸ht.isList
 refine sum_intListG (I.ok.hd hc) hl' fun h' tk t' hk=> ?_
 have e1:ns=xs.toList.map (·.1):=by
  rw[<-nums_intItems,<-hxs]
  exact(show numsOf its.toArray.toList=ns from hi.numsOf).symm
 have e2:preSum (numAt xs) xs.size=ns.sum:=by
  rw[preSum_eq,List.take_of_length_le (by simp),e1]
 rw[e2]
 exact⟨.int ns.sum,H,I.kept hk,⟨t',rfl⟩,q⟩
def uL (x:Int):List Int->List Int
 |[]=>[x]
 |y::r=>if x<=y then x::y::r else y::uL x r
def cI:List Int->List Int
 |[]=>[]
 |x::r=>uL x (cI r)
theorem mG (x:Int):∀l:List Int,(uL x l).Perm (x::l)
 |[]=>List.Perm.refl _
 |y::r=>by
  unfold uL
  split
  ·exact List.Perm.refl _
  ·exact(List.Perm.cons y (mG x r)).trans (List.Perm.swap x y r)
theorem eV:∀l:List Int,(cI l).Perm l
 |[]=>List.Perm.refl _
 |x::r=>(mG x _).trans (List.Perm.cons x (eV r))
theorem ng (x:Int):∀{l:List Int},l.Pairwise (·<=·)->(uL x l).Pairwise (·<=·)
 |[],_=>by simp[uL]
 |y::r,h=>by
  obtain⟨h1,h2⟩:=List.pairwise_cons.mp h
  unfold uL
  split
  ·rename_i hxy
   refine List.pairwise_cons.mpr ⟨fun z hz=> ?_,h⟩
   rcases List.mem_cons.mp hz with rfl|hz
   ·exact hxy
   ·exact Int.le_trans hxy (h1 z hz)
  ·rename_i hxy
   refine List.pairwise_cons.mpr ⟨fun z hz=> ?_,ng x h2⟩
   rcases List.mem_cons.mp ((mG x r).mem_iff.mp hz)with rfl|hz
   ·omega
   ·exact h1 z hz
theorem hU:∀l:List Int,(cI l).Pairwise (·<=·)
 |[]=>List.Pairwise.nil
 |x::r=>ng x (hU r)
theorem gx:∀{a b:List Int},a.Perm b->a.Pairwise (·<=·)->b.Pairwise (·<=·)->a=b
 |[],b,p,_,_=>(List.nil_perm.mp p).symm
 |x::a,[],p,_,_=>(List.perm_nil.mp p)
 |x::a,y::b,p,h1,h2=>by
  obtain⟨a1,a2⟩:=List.pairwise_cons.mp h1
  obtain⟨b1,b2⟩:=List.pairwise_cons.mp h2
  have e:x=y:=by
   have hx:x∈y::b:=p.mem_iff.mp List.mem_cons_self
   have hy:y∈x::a:=p.mem_iff.mpr List.mem_cons_self
   rcases List.mem_cons.mp hx with h|h
   ·exact h
   ·rcases List.mem_cons.mp hy with h'|h'
    ·exact h'.symm
    ·exact Int.le_antisymm (a1 y h') (b1 x h)
  subst e
  rw[gx ((List.perm_cons x).mp p) a2 b2]
theorem rA:cT X (.builtin "sorted") (fun xs H Q=>∃p ns,xs=[.ref p]/\eC X.K H p (ns.map V.int)/\ns.length<64/\∀l,H l=none->Q (.ref l) (bK H l (.lst ((cI ns).map V.int)))):=by
 intro pins s σ H xs us Q I rv h
 obtain⟨p,ns,rfl,hx,hl,q⟩:=h
 obtain⟨u,rfl,ru⟩:=iR rv
 cases ru
 obtain⟨its,r,ht,hz⟩:=I.list hx
 have hi:=kW r
 have hlen:=r.length
 rw[List.length_map]at hlen
 refine sorted_ints ht.isList hi (by omega) fun out ns' a1 a2 a3=> ?_
 obtain⟨e,he⟩:=sortedAll_at s.heap its out
 have en:ns'=cI ns:=gx (a2.trans (eV ns).symm) a3 (hU ns)
 subst en
 have k:∀b o,s.heap.get? b=some o->(sortedAll s.heap its out).get? b=some o:=fun b o e=>sortedAll_old e
 refine⟨.ref (s.heap.objs.size+1),_,I.laid (t':=s.toks) (o:= .lst ((cI ns).map V.int)) k (Nat.le_succ _) ?_,rfl,q _ (I.hok.fresh (Nat.le_succ _))⟩
 refine⟨?_,out.toList,e,kj a1,by simpa[seqObj]using he⟩
 have h1:=a2.length_eq
 rw[List.length_map]at hz ⊢
 omega
end
end L2
namespace L2
open PySem PySem.Spec PyProof.Rows
section
variable {P:Program} {w:World} {H:Hp} {h h':Heap} {a:Addr} {o:HO}
theorem bS.got (x:bS P w H h a o):∃u,h.get? a=some u:=by
 cases o with
 |lst xs=>obtain⟨_,_,_,_,e⟩:=x;exact⟨_,e⟩
 |tup xs=>obtain⟨_,_,_,p⟩:=x;obtain⟨o,e,_⟩:=p;exact⟨_,e⟩
 |dK kvs=>obtain⟨_,_,_,_,o,_,_,e,_⟩:=x;exact⟨_,e⟩
 |dT kvs=>obtain⟨_,_,_,_,o,_,_,e,_⟩:=x;exact⟨_,e⟩
 |set S n=>obtain⟨o,_,_,_,e,_⟩:=x;exact⟨_,e⟩
 |ins C dx fs=>obtain⟨_,_,_,e,_⟩:=x;exact⟨_,e⟩
 |own y=>obtain⟨_,e⟩:=x;exact⟨_,e⟩
 |xd fs=>obtain⟨_,⟨_,_,_,e,_⟩,_⟩:=x;exact⟨_,e⟩
 |rng lo hi=>obtain⟨_,_,_,e⟩:=x;exact⟨_,e⟩
 |frz ob u=>obtain⟨e,_⟩:=x;exact⟨_,e⟩
 |tbl ps=>exact⟨_,x⟩
 |met f y=>exact⟨_,x⟩
 |ext φ=>obtain⟨_,e,_⟩:=x;exact e
theorem jA.nowhere (x:jA P w H h) (hn:h.get? a=none):H a=none:=by
 cases e:H a with
 |none=>rfl
 |some o=>obtain⟨u,q⟩:=(x a o e).got;rw[hn]at q;cases q
end
section
variable {X:Cx} {pins:List (Addr×Obj)} {σ:List (Option V)} {H:Hp} {s:Shared} {h':Heap}
theorem aF.laidAt {a:Addr} {o:HO} {t':Nat} (I:aF X pins σ H s) (k:∀b u,s.heap.get? b=some u->h'.get? b=some u) (hn:s.heap.get? a=none) (new:bS X.prog X.w (bK H a o) h' a o):
  aF X pins σ (bK H a o) {s with heap:=h',toks:=t'}:=by
 have hH:=I.hok.nowhere hn
 have hne:∀b u,s.heap.get? b=some u->b≠a:=fun b u q z=>by rw[z,hn]at q;cases q
 refine I.un ⟨fun b u q _ _ _=>k b u q,fun b u q _ _ _=>⟨u.slots,k b u q⟩,fun b u q n _=>by rw[av (hne b u q)];exact n,fun b u q _=>⟨u,k b u q⟩,fun b xs q=>by rw[av (cN q hH)];exact q,
  fun b u xs q=>by rw[av (cN q hH)];exact q,fun b ps q=>⟨#[],by rw[av (cN q hH),q];simp⟩⟩ fun b u e=> ?_
 by_cases hb:b=a
 ·subst hb;rw[az]at e;cases e;exact new
 ·rw[av hb]at e
  exact(I.hok b u e).stay (fun c v _ q=>k c v q) (fun c q=>by rw[av (cN q hH)];exact q) fun c xs q=>by rw[av (cN q hH)];exact q
end
section
variable {X:Cx}
theorem rB:cT X (.type "range") (fun xs H Q=>∃i j,xs=[.int i, .int j]/\∀p,H p=none->Q (.ref p) (bK H p (.rng i j))):=by
 intro pins s σ H xs us Q I rv h
 obtain⟨i,j,rfl,q⟩:=h
 obtain⟨u,w',rfl,ru,rw'⟩:=sH rv
 obtain⟨t,rfl⟩:=ru
 obtain⟨t',rfl⟩:=rw'
 refine call_range_2 ?_
 exact⟨.ref s.heap.objs.size,_,I.laid (o:= .rng i j) (fun b ob q=>Heap.get?_push_of_some _ q) (Nat.le_refl _) ⟨t,t',_,Heap.get?_push_size _ rfl⟩,rfl,q _ (I.hok.fresh (Nat.le_refl _))⟩
theorem ow {ns:List Int} {acc:Array Value} (h:ItemsOf (fun i v=>∃n t,ns[i]? =some n/\v= .int n t) acc ns.length):aS (ns.map V.int) acc.toList:=by
 have key:∀(vs:List Value) (ns:List Int),vs.length=ns.length->(∀(j:Nat) v,vs[j]? =some v->∃n t,ns[j]? =some n/\v= .int n t)->aS (ns.map V.int) vs:=by
  intro vs
  induction vs with
  |nil=>intro ns h1 _;cases ns with
   |nil=>exact .nil
   |cons _ _=>cases h1
  |cons v r ih=>
   intro ns h1 h2
   cases ns with
   |nil=>cases h1
   |cons n ns=>
    obtain⟨m,t,e1,e2⟩:=h2 0 v rfl
    simp at e1
    subst e1
    refine .cons ⟨t,e2⟩ (ih ns (by simpa using h1) fun j v hv=> ?_)
    have:=h2 (j+1) v (by simpa using hv)
    simpa using this
 refine key acc.toList ns (by rw[Array.length_toList];exact h.1) fun j v hv=>h.2 j v (by rw[<-Array.getElem?_toList];exact hv)
def fX (lo hi:Int):List Int:=(List.range (hi - lo).toNat).map fun k:Nat=>lo+(k:Int)
theorem rC (hc:X.calm=true):cT X (.type "list") (fun xs H Q=>∃p lo hi,xs=[.ref p]/\H p=some (.rng lo hi)/\(-(2 ^20)<=lo/\lo<=2 ^20)/\(-(2 ^20)<=hi/\hi<=2 ^20)/\∀l,H l=none->Q (.ref l) (bK H l (.lst ((fX lo hi).map V.int)))):=by
 intro pins s σ H xs us Q I rv h
 obtain⟨p,lo,hi,rfl,hp,⟨l1,l2⟩,⟨h1,h2⟩,q⟩:=h
 obtain⟨u,rfl,ru⟩:=iR rv
 cases ru
 obtain⟨t,u,v,ho⟩:=I.hok p _ hp
 have hn:Builtin.Range.rangeSize lo hi 1=(((hi - lo).toNat:Nat):Int):=by
  unfold Builtin.Range.rangeSize
  rw[if_pos (by decide)]
  split
  ·rw[Int.ediv_one];omega
  ·omega
 have hsmall:Builtin.Range.small lo hi 1=true:=small_one (by omega) (by omega) (by omega) (by omega)
 refine call_list_range (I.ok.hd hc) ho hsmall hn (by omega) fun h' tk acc c hk hS hacc=> ?_
 have hv:aS ((fX lo hi).map V.int) acc.toList:=by
  refine ow ⟨by rw[hacc.1];simp[fX],fun j v hv=> ?_⟩
  obtain⟨t,rfl⟩:=hacc.2 j v hv
  have hj:j<(hi - lo).toNat:=by
   have:=(Array.getElem?_eq_some_iff.mp hv).1
   rw[hacc.1]at this
   exact this
  exact⟨lo+j*1,t,by unfold fX;rw[List.getElem?_map,List.getElem?_range hj];simp,rfl⟩
 refine⟨.ref s.heap.objs.size,_,I.laid (o:= .lst ((fX lo hi).map V.int)) hk (Nat.le_refl _) ⟨?_,acc.toList,c,hv,by simpa using hS⟩,rfl,q _ (I.hok.fresh (Nat.le_refl _))⟩
 rw[List.length_map]
 unfold fX
 rw[List.length_map,List.length_range]
 have:sizeLine=16777216:=sizeLine_eq
 omega
theorem rD (hc:X.calm=true):cT X (.builtin "sorted") (fun xs H Q=>∃p kvs ns,xs=[.ref p]/\H p=some (.dK kvs)/\kvs.map (·.1)=ns.map Sum.inl/\ns.length<64/\∀l,H l=none->Q (.ref l) (bK H l (.lst ((cI ns).map V.int)))):=by
 intro pins s σ H xs us Q I rv h
 obtain⟨p,kvs,ns,rfl,hp,hk,hl,q⟩:=h
 obtain⟨u,rfl,ru⟩:=iR rv
 cases ru
 obtain⟨z,hd,vs,rel,dd⟩:=oi I.hok hp
 obtain⟨ep,hat⟩:=dd.dictAt
 have hlen:vs.length=ns.length:=by
  rw[<-rel.length]
  have:=congrArg List.length hk
  simpa using this
 refine Calls.call_function_entry kind_sorted plain_sorted entry_sorted (args_sorted1 _) ?_
 unfold Builtin.«sorted»
 refine wpAny_bind (m:=checkCount "sorted" 1 1 _) (wpAny_pure ?_)
 refine wpAny_bind (PySem.W.kdu_collect (A:=X.A.in1) (PySem.W.kdl_dict (knd:=bg X.prog X.w) (kvs:=vs) (ep:=ep) hd) (I.ok.hd hc) hat (by rw[<-rel.length];exact z) fun h' tk acc hk' hacc=> ?_)
 have hI:IntsAre acc.toList ns:=by
  refine kW (ow ⟨by rw[hacc.1];exact hlen,fun j v hv=> ?_⟩)
  obtain⟨k,x,hx,hkey⟩:=hacc.2 j v hv
  have hkk:(vs.map (·.1))[j]? =some k:=by rw[List.getElem?_map,hx];rfl
  rw[<-rel.keys,hk,List.getElem?_map]at hkk
  cases e:ns[j]? with
  |none=>rw[e]at hkk;cases hkk
  |some n=>
   rw[e]at hkk
   cases hkk
   rcases b_ (show o3 (Sum.inl n) v=true from hkey)with ⟨i,t,e1,e2⟩|⟨x',t,e1,e2⟩
   ·cases e1;exact⟨n,t,rfl,e2⟩
   ·cases e1
 have hl2:acc.toList.length=ns.length:=by rw[Array.length_toList,hacc.1];exact hlen
 refine wpAny_bind (wpAny_newList ?_ (by rw[hl2];have:sizeLine=16777216:=sizeLine_eq;omega))
 have hoL:(h'.push (seqObj "list" acc.toList.toArray 0)).get? h'.objs.size=some (seqObj "list" acc.toList.toArray 0):=Heap.get?_push_size _ rfl
 refine wpAny_bind (wpAny_holding (wpAny_call_entry slot_list_sort ⟨_,hoL,rfl⟩ entry_list_sort (list_sort_tree hoL hI (by omega) fun out ns' a1 a2 a3=>⟨_,rfl,?_⟩) (args_list_sort _)))
 refine wpAny_pure ⟨_,rfl,?_⟩
 have en:ns'=cI ns:=gx (a2.trans (eV ns).symm) a3 (hU ns)
 subst en
 obtain⟨e,he⟩:=sortedHeap_at (out:=out) hoL
 have hfr:s.heap.get? h'.objs.size=none:=by
  cases e:s.heap.get? h'.objs.size with
  |none=>rfl
  |some o=>exact absurd (Heap.lt_size (hk' _ _ e)) (Nat.lt_irrefl _)
 have kk:∀b o,s.heap.get? b=some o->(sortedHeap (h'.push (seqObj "list" acc.toList.toArray 0)) h'.objs.size acc.toList out).get? b=some o:=fun b o eb=>by
  have hb:=hk' b o eb
  have hlt:b<h'.objs.size:=Heap.lt_size hb
  rw[sortedHeap_old (Nat.ne_of_lt hlt) (by rw[size_push'];exact Nat.lt_succ_of_lt hlt)]
  exact Heap.get?_push_of_some _ hb
 refine⟨.ref h'.objs.size,_,I.laidAt (o:= .lst ((cI ns).map V.int)) kk hfr ⟨?_,out.toList,e,kj a1,by simpa[seqObj]using he⟩,rfl,q _ (I.hok.nowhere hfr)⟩
 have:=a2.length_eq
 rw[List.length_map]
 have:sizeLine=16777216:=sizeLine_eq
 omega
end
end L2
namespace L2
open PySem PySem.Spec PyProof.Rows
theorem xw:typeLookup (.type "list_reverseiterator") "__len__"=pure none:=by rw[typeLookup_type,builtinLookup_eq_fast];kernel_rfl
theorem zn:typeLookup (.type "list_reverseiterator") "__length_hint__"=pure (some (.builtin "list_reverseiterator.__length_hint__")):=by rw[typeLookup_type,builtinLookup_eq_fast];kernel_rfl
section
variable {prog:Program} {w:World} {A:Around} {E:Value->Shared->Prop} {s:Shared} {I:Addr} {fp wr:List Addr} {G:Array GenState->Array GenState->Prop} {n:Nat} {P:Nat->Value->Prop} {St:Nat->Shared->Prop}
theorem sO {Q:List Value->Shared->Prop} (W:WalksS prog w A.in1 I fp wr G n P St) (hT:∀i s,St i s->s.TypeIs (.ref I) "list_reverseiterator") (hst:St 0 s) (hfp:∀b∈fp,b<s.heap.objs.size) (hI:I∈fp)
  (hQ:∀s' acc,Moved wr G s s'->ItemsOf P acc n->Q acc.toList s') (hn:n<=sizeLine):wpAny (model prog w) A (collect (.ref I)) Q E s:=by
 have hSf:s.heap.objs.size∉fp:=fun hm=>Nat.lt_irrefl _ (hfp _ hm)
 have hSI:s.heap.objs.size≠I:=fun e=>hSf (e▸hI)
 unfold collect
 refine wpAny_bind (wpAny_runValue (codeAny_builtin PySem.F.entry_proto_collect ?_))
 rw[Around.under_plainId PySem.F.plain_proto_collect _]
 show wpAny _ A.in1 (newList []>>=fun l=>again (.builtin "list.__iadd__" ⟨[l, .ref I],[]⟩)) _ _ s
 refine wpAny_bind (wpAny_newObj_type ?_)
 refine wpAny_pure ⟨plainId_quiet PySem.F.plain_list_iadd _,codeAny_builtin PySem.F.entry_list_iadd ?_⟩
 rw[Around.under_plainId PySem.F.plain_list_iadd _]
 have hst₁:=W.frame 0 s (s.heap.push {cls:= .type "list",data:= .seq ([]:List Value).toArray}) s.toks hst (Nat.le_refl _) fun b _ o e=>Heap.get?_push_of_some _ e
 have hS₁:(s.heap.push {cls:= .type "list",data:= .seq ([]:List Value).toArray}).get? s.heap.objs.size=some {cls:= .type "list",data:= .seq ([]:List Value).toArray}:=Heap.get?_push_size _ rfl
 have h1:Builtin.List.listSameRef (.ref s.heap.objs.size) (.ref I)=false:=by simp[Builtin.List.listSameRef,hSI]
 show wpAny _ A.in1 (Builtin.List.listExtendWith (.ref s.heap.objs.size) (.ref I) (.ref s.heap.objs.size)) _ _ _
 unfold Builtin.List.listExtendWith
 refine wpAny_bind (wpAny_typeOf (hT 0 _ hst₁) ?_)
 rw[if_neg (by rw[h1];decide)]
 refine wpAny_bind (W.self 0 _ _ _ hst₁ ?_)
 refine wpAny_bind (wpAny_holding ?_)
 unfold Builtin.List.listLengthHint
 refine wpAny_bind (wpAny_specialOf (hT 0 _ hst₁) xw ?_)
 show wpAny _ A.in1 (specialOf (Value.ref I) (Str.ofString "__length_hint__")>>=_) _ _ _
 refine wpAny_bind (wpAny_specialOf (hT 0 _ hst₁) zn ?_)
 (generalize hid:("list_reverseiterator.__length_hint__":String)=id0;(fail_if_success (clear hid id0));wp_delta;rw[show splitId id0=some ("list_reverseiterator","__length_hint__")from by subst hid;decide+kernel];subst hid)
 refine wpAny_bind (wpAny_isInstance (b:=true) (hT 0 _ hst₁) (by rw[isSubtype_type];kernel_rfl) ?_)
 refine wpAny_pure ?_
 rw[if_neg (by decide)]
 refine wpAny_pure ⟨plainId_quiet PySem.F.plain_extend_loop _,codeAny_extend_loopS W hn _ hSf _ n 0 _ _ _ rfl (Nat.zero_le _) hst₁ hS₁ (ItemsOf.nil P) fun s' acc' c' hm hS' hacc=> ?_⟩
 show wpAny _ A (load s.heap.objs.size>>=_) _ _ s'
 refine wpAny_bind (wpAny_load hS' ?_)
 exact wpAny_pure (hQ s' acc' (Moved.drop_new (o:={cls:= .type "list",data:= .seq ([]:List Value).toArray}) (tk:=s.toks) hm (Nat.le_refl _)) hacc)
theorem kX {Q₁:Value->Shared->Prop} (W:WalksS prog w A.in1.in1 I fp wr G n P St) (hT:∀i s,St i s->s.TypeIs (.ref I) "list_reverseiterator") (hst:St 0 s) (hfp:∀b∈fp,b<s.heap.objs.size) (hI:I∈fp)
  (h:∀s' acc,Moved wr G s s'->ItemsOf P acc n->Q₁ (.ref s'.heap.objs.size) {s' with heap:=s'.heap.push {cls:= .type "tuple",data:= .seq acc}}) (hsz:n<=sizeLine):
  codeAny (model prog w) A (.call (.builtin "tuple.__new__") ⟨[.type "tuple", .ref I],[]⟩) (wants Q₁ E) s:=by
 refine codeAny_of_tree ?_
 show wpAny _ A.in1 (do checkBuiltinCall "tuple.__new__" ⟨[.type "tuple", .ref I],[]⟩;again (.builtin "tuple.__new__" ⟨[.type "tuple", .ref I],[]⟩)) _ _ s
 refine wpAny_bind (wpAny_of_eq (PySem.F.newCall_tuple_1 _) (wpAny_pure ⟨plainId_quiet PySem.F.plain_tuple_new _,codeAny_builtin PySem.F.entry_tuple_new ?_⟩))
 rw[Around.under_plainId PySem.F.plain_tuple_new _]
 have hsub:=sub_tuple_self
 have hinit:=init_tuple_lookup
 have hmh:=madeHere_tuple
 have hTI:=hT 0 s hst
 wp_walk using wpAny_typeOf hTI,sO (hn:=hsz) W hT hst hfp hI
 intro s' acc hm hacc
 show wpAny _ _ (Builtin.Tuple.tupleExact acc.toList.toArray>>=fun v=>ret v) _ _ _
 unfold Builtin.Tuple.tupleExact
 refine wpAny_bind (wpAny_newObj_type ?_ (by show acc.toList.toArray.size<=sizeLine;simp only[Array.toArray_toList];rw[hacc.1];exact hsz))
 refine wpAny_pure ?_
 have e:acc.toList.toArray=acc:=by simp
 rw[e]
 exact h s' acc hm hacc
theorem oy {Q:Value->Shared->Prop} (W:WalksS prog w A.in1.in1.in1 I fp wr G n P St) (hT:∀i s,St i s->s.TypeIs (.ref I) "list_reverseiterator") (hst:St 0 s) (hfp:∀b∈fp,b<s.heap.objs.size) (hI:I∈fp)
  (hQ:∀s' acc,Moved wr G s s'->ItemsOf P acc n->Q (.ref s'.heap.objs.size) {s' with heap:=s'.heap.push {cls:= .type "tuple",data:= .seq acc}}) (hsz:n<=sizeLine):
  wpAny (model prog w) A (call (.type "tuple") [.ref I]) Q E s:=by
 refine callType_codes (Q₁:=fun obj s₁=>s₁.TypeIs obj "tuple"/\Q obj s₁) PySem.F.called_tuple (PySem.F.typeCall_tuple_1 _) PySem.F.entry_object_init
  (kX (hsz:=hsz) W hT hst hfp hI fun s' acc hm hacc=>⟨⟨_,Heap.get?_push_size _ rfl,rfl⟩,hQ s' acc hm hacc⟩) fun obj s₁ h₁=> ?_
 exact⟨h₁.1,PySem.F.args_object_init_2 obj _,object_init_meets PySem.F.called_tuple.init.lookup PySem.F.called_tuple.made (by decide) prog w A.in1 _ s₁ ⟨h₁.1,rfl,h₁.2⟩⟩
end
section
variable {X:Cx} {e:Expr} {te:TE} {pos p1 p2 pos2:Pos}
def C4 (K:PySem.W.Frag) (te:TE):TE:=fun σ H Q=>te σ H fun x H1=>∃a xs,[x]=[V.ref a]/\eC K H1 a xs/\∀l,H1 l=none->Q (.ref l) (bK H1 l (.tup xs.reverse))
theorem pT:bootBuiltins "reversed"=some (.type "reversed"):=by decide+kernel
theorem sP:bootBuiltins "tuple"=some (.type "tuple"):=by decide+kernel
theorem xx (hc:X.calm=true) (he:PE X e te) (hmt:X.mg "tuple"=none) (hmr:X.mg "reversed"=none) (hgt:Gl X "tuple") (hgr:Gl X "reversed")
  (he1:starEach [e] X.env=(false,eval e X.env)::starEach [] X.env) (hpl1:(backTo pos2 (starEach [] X.env)).any (·.1)=false)
  (he2:starEach [.Call (.Name "reversed" p2) [e] [] pos2] X.env=(false,eval (.Call (.Name "reversed" p2) [e] [] pos2) X.env)::starEach [] X.env) (hpl2:(backTo pos (starEach [] X.env)).any (·.1)=false):
  PE X (.Call (.Name "tuple" p1) [.Call (.Name "reversed" p2) [e] [] pos2] [] pos) (C4 X.K te):=by
 intro pins s σ H Q I h
 refine wpAny_Call_Name_kw (jF I hgt hmt sP ?_ (by decide) (by decide))
 refine PyProof.Rows.callWith_type1 ?_ he2 hpl2
 rw[he2]
 show wpAny _ _ (spliced ((false,eval (.Call (.Name "reversed" p2) [e] [] pos2) X.env)::backTo pos (starEach [] X.env))) _ _ s
 refine Calls.spliced_cons ?_
 refine wpAny_Call_Name_kw (jF I hgr hmr pT ?_ (by decide) (by decide))
 refine PyProof.Rows.callWith_type1 ?_ he1 hpl1
 refine cp (dY he iK he1 pos2 pins s σ H (fun vs H1=>∃a xs,vs=[V.ref a]/\eC X.K H1 a xs/\∀l,H1 l=none->Q (.ref l) (bK H1 l (.tup xs.reverse))) I h) fun us s1 z_=> ?_
 obtain⟨vs,H1,I1,r1,q1⟩:=z_
 obtain⟨a,xs,rfl,hx,q⟩:=q1
 obtain⟨u,rfl,ru⟩:=iR r1
 cases ru
 obtain⟨its,r,ht,hz⟩:=I1.list hx
 have hlen:=r.length
 refine call_reversed_list ht.isList ?_
 refine Calls.spliced_nil ?_
 have hl:(s1.heap.push (revObj a ((its.toArray.size:Int) - 1))).IsList a its.toArray:=ht.isList.push _
 have hlt:a<s1.heap.objs.size:=by obtain⟨o,ho,_⟩:=ht.isList;exact Heap.lt_size ho
 have W:=Walks.listRev (prog:=X.prog) (w:=X.w) (A:=X.A.in1.in1.in1) (I1.ok.hd hc) s1.heap.objs.size a (Nat.ne_of_lt hlt) its.toArray
 have hne:∀b o,s1.heap.get? b=some o->b≠s1.heap.objs.size:=fun b o e z=>absurd (Heap.lt_size e) (by rw[z];exact Nat.lt_irrefl _)
 refine oy W.toS (fun i s st=>st.2.1.typeIs) ⟨Nat.zero_le _,?_,hl⟩ (fun b hb=> ?_) (by simp) (fun s' acc hm hacc=> ?_) (by rw[List.size_toArray];omega)
 ·refine⟨_,Heap.get?_push_size _ rfl,rfl,?_⟩
  show Data.fields _=_
  simp
 ·show b<(s1.heap.push _).objs.size
  rw[size_push']
  rcases List.mem_cons.mp hb with rfl|hb
  ·exact Nat.lt_succ_self _
  ·rw[List.mem_singleton.mp hb];exact Nat.lt_succ_of_lt hlt
 ·have hk:∀b o,s1.heap.get? b=some o->s'.heap.get? b=some o:=fun b o e=>
   hm.heap b o (fun hI=>hne b o e (List.mem_singleton.mp hI)) (Heap.get?_push_of_some _ e)
  have hfr:s1.heap.get? s'.heap.objs.size=none:=by
   cases e:s1.heap.get? s'.heap.objs.size with
   |none=>rfl
   |some o=>exact absurd (Heap.lt_size (hk _ _ e)) (Nat.lt_irrefl _)
  rw[Moved.eq_with hm]
  have hv:aS xs.reverse acc.toList:=by
   have e:acc.toList=its.reverse:=by
    refine List.ext_getElem? fun j=> ?_
    have h1:acc.size=its.length:=by have:=hacc.1;rwa [List.size_toArray]at this
    by_cases hj:j<its.length
    ·have ha:acc[j]? =some (acc[j]'(by omega)):=Array.getElem?_eq_getElem (by omega)
     have:=hacc.2 j _ ha
     rw[List.size_toArray,List.getElem?_toArray]at this
     rw[Array.getElem?_toList,ha,List.getElem?_reverse hj,this]
    ·rw[List.getElem?_eq_none (by rw[Array.length_toList];omega),List.getElem?_eq_none (by rw[List.length_reverse];omega)]
   rw[e]
   exact r.reverse
  refine⟨.ref s'.heap.objs.size,_,I1.laidAt (t':=s'.toks) (o:= .tup xs.reverse) (fun b o e=>Heap.get?_push_of_some _ (hk b o e)) hfr ⟨?_,acc.toList,hv,?_⟩,rfl,q _ (I1.hok.nowhere hfr)⟩
  ·rw[List.length_reverse];exact hz
  ·exact gU.new _ _
end
end L2
namespace L2
open PySem PySem.Spec PyProof.Rows
theorem oz:typeLookup (.type "list") (Str.ofString "keys")=pure none:=by rw[typeLookup_type,builtinLookup_eq_fast];kernel_rfl
theorem nM:typeLookup (.type "tuple") (Str.ofString "keys")=pure none:=by rw[typeLookup_type,builtinLookup_eq_fast];kernel_rfl
theorem fI:entryFor table "dict.update.loop"=some Builtin.«dict.update.loop»:=entryFor_of_tree (by kernel_rfl)
theorem cq:plainId "dict.update.loop"=true:=by decide+kernel
section
variable {prog:Program} {w:World} {A:Around} {E:Value->Shared->Prop} {s:Shared} {a:Addr}
theorem sQ {xs:Array Value} {k:Nat} {sl:Array (Option Value)} {Q:Option Value->Shared->Prop} (hx:s.heap.get? a=some {cls:= .type "list",dict:=none,data:= .seq xs k,slots:=sl}) (hA:A.handled=none)
  (h:∀h' tk,(∀b o,s.heap.get? b=some o->h'.get? b=some o)->Q none {s with heap:=h',toks:=tk}):wpAny (model prog w) A (getAttr? (.ref a) "keys") Q E s:=by
 obtain⟨hp,g,d,tk,os⟩:=s
 have hT:∀tk',(⟨hp,g,d,tk',os⟩:Shared).TypeIs (.ref a) "list":=fun _=>⟨_,hx,rfl⟩
 have f1:=sub_AttributeError
 have f3:=PySem.F.slot_list_getattribute.lookup
 have f4:=PySem.F.slot_list_getattribute.bind (.ref a)
 have f5:=am_list_getattr_none
 unfold getAttr? getAttrBy? getAttrBy
 repeat (any_goals (first|assumption|exact hT _|((with_reducible show wpAny _ _ (call (Value.builtin "list.__getattribute__") _ _) _ _ _);refine call_meets PySem.F.slot_list_getattribute (hT _) am_entry_list_getattribute (PySem.F.args_list_getattribute_2 _ _) (meets_getattribute_miss_list a xs k sl _ _ oz (by decide+kernel) (by size_fits)) ⟨hx,hA,fun h' tk' e hx'=> ?_⟩)|wp_step))
 obtain⟨t',u',he⟩:=hx'.there
 show wpAny _ _ (getattributeRaised _ _ _ _ _ _ _) _ _ _
 unfold getattributeRaised
 repeat (any_goals (first|assumption|wp_step))
 exact h _ _ hx'.of.keeps
theorem rE {xs:Array Value} {k:Nat} {sl:Array (Option Value)} {Q:Option Value->Shared->Prop} (hx:s.heap.get? a=some {cls:= .type "tuple",dict:=none,data:= .seq xs k,slots:=sl}) (hA:A.handled=none)
  (h:∀h' tk,(∀b o,s.heap.get? b=some o->h'.get? b=some o)->Q none {s with heap:=h',toks:=tk}):wpAny (model prog w) A (getAttr? (.ref a) "keys") Q E s:=by
 obtain⟨hp,g,d,tk,os⟩:=s
 have hT:∀tk',(⟨hp,g,d,tk',os⟩:Shared).TypeIs (.ref a) "tuple":=fun _=>⟨_,hx,rfl⟩
 have f1:=sub_AttributeError
 have f3:=PySem.F.slot_tuple_getattribute.lookup
 have f4:=PySem.F.slot_tuple_getattribute.bind (.ref a)
 have f5:=am_tuple_getattr_none
 unfold getAttr? getAttrBy? getAttrBy
 repeat (any_goals (first|assumption|exact hT _|((with_reducible show wpAny _ _ (call (Value.builtin "tuple.__getattribute__") _ _) _ _ _);refine call_meets PySem.F.slot_tuple_getattribute (hT _) am_entry_tuple_getattribute (PySem.F.args_tuple_getattribute_2 _ _) (meets_getattribute_miss_tuple a xs k sl _ _ nM (by decide+kernel) (by size_fits)) ⟨hx,hA,fun h' tk' e hx'=> ?_⟩)|wp_step))
 obtain⟨t',u',he⟩:=hx'.there
 show wpAny _ _ (getattributeRaised _ _ _ _ _ _ _) _ _ _
 unfold getattributeRaised
 repeat (any_goals (first|assumption|wp_step))
 exact h _ _ hx'.of.keeps
end
section
variable {prog:Program} {w:World} {A:Around} {R:Result->Shared->Prop} {I:Addr} {fp wr:List Addr} {G:Array GenState->Array GenState->Prop} {n:Nat} {P:Nat->Value->Prop} {St:Nat->Shared->Prop}
def uM (key:Nat->a_) (val:Nat->Value):Nat->List (a_×Value)
 |0=>[]
 |i+1=>stored (uM key val i) (key i) (val i)
theorem uN (kvs:List (a_×Value)) (k:a_) (v:Value):(stored kvs k v).length<=kvs.length+1:=by
 unfold stored
 split<;>simp
theorem oA (key:Nat->a_) (val:Nat->Value):∀i,(uM key val i).length<=i
 |0=>Nat.le_refl _
 |i+1=>Nat.le_trans (uN _ _ _) (Nat.succ_le_succ (oA key val i))
theorem xy {h0:Heap} (W:WalksS prog w A.in1 I fp wr G n P St) (S:Addr) (hSf:S∉fp) (hS0:h0.get? S=none) (hw0:∀b∈wr,h0.get? b=none) (key:Nat->a_) (val:Nat->Value) (res:Value) (hn:n<=sizeLine)
  (hP:∀i v,P i v->∃a o kv m,v= .ref a/\h0.get? a=some o/\o.cls= .type "tuple"/\o.data= .seq #[kv,val i] m/\(bg prog w).is (key i) kv=true):
  ∀(k i:Nat) (s:Shared),n - i=k->i<=n->St i s->(∀b o,h0.get? b=some o->s.heap.get? b=some o)->s.heap.DictOf (bg prog w) S (uM key val i)->
   (∀s',Moved (S::wr) G s s'->s'.heap.DictOf (bg prog w) S (uM key val n)->R (.ok (.ret res)) s')->
   codeAny (model prog w) A (.builtin "dict.update.loop" ⟨[.ref S, .ref I,rawInt i,res],[]⟩) R s:=by
 have hSw:S∉wr:=fun h=>hSf (W.sub _ h)
 have hsub:∀b∈wr,b∈S::wr:=fun b hb=>List.mem_cons_of_mem _ hb
 have mv:∀{s s':Shared} {kvs:List (a_×Value)},Moved wr G s s'->s.heap.DictOf (bg prog w) S kvs->s'.heap.DictOf (bg prog w) S kvs:=fun hm hd=>by
  obtain⟨o,es,ep,ho,rest⟩:=hd
  exact⟨o,es,ep,hm.heap S _ hSw ho,rest⟩
 intro k
 induction k with
 |zero=>
  intro i s hk hi hst hk0 hS hR
  have hin:i=n:=by omega
  subst hin
  refine codeAny_builtin fI ?_
  rw[Around.under_plainId cq _]
  show wpAny _ A.in1 (pyNext (.ref I)>>=_) _ _ s
  refine wpAny_bind (W.done s _ _ hst fun s' hm=> ?_)
  show wpAny _ A.in1 (Builtin.Dict.addKeywords S []>>=fun _=>ret res) _ _ s'
  refine wpAny_bind (wpAny_pure ?_)
  exact wpAny_pure (hR s' (hm.mono hsub) (mv hm hS))
 |succ k ih=>
  intro i s hk hi hst hk0 hS hR
  have hlt:i<n:=by omega
  refine codeAny_builtin fI ?_
  rw[Around.under_plainId cq _]
  show wpAny _ A.in1 (pyNext (.ref I)>>=_) _ _ s
  refine wpAny_bind (W.item i s _ _ hlt hst fun v s' hPv hst' hm=> ?_)
  obtain⟨a,o,kv,m,rfl,ho,hc,hd,hkey⟩:=hP i v hPv
  have hk1:∀b o,h0.get? b=some o->s'.heap.get? b=some o:=fun b o e=>hm.heap b o (fun hb=>by rw[hw0 b hb]at e;cases e) (hk0 b o e)
  have ho':=hk1 a o ho
  have hS':=mv hm hS
  dsimp only
  refine wpAny_bind (wpAny_holding ?_)
  refine wpAny_bind (wpAny_tryCatch ?_)
  unfold Builtin.Dict.pairItems
  refine wpAny_bind (wpAny_typeOf (T:="tuple") ⟨o,ho',hc⟩ ?_)
  rw[if_pos (by decide)]
  refine wpAny_bind (wpAny_seqItems ho' hd ?_)
  refine wpAny_pure ?_
  show wpAny _ A.in1 (holding [kv,val i] (dictSet S kv (val i))) _ _ s'
  refine wpAny_holding (wpAny_dictSet_pairs (hsz:=by have:=oA key val i;omega) hkey hS' fun h' hS2 hsb=> ?_)
  refine wpAny_pure ⟨plainId_quiet cq _,ih (i+1) _ (by omega) hlt (W.frame _ s' _ _ hst' (Nat.le_succ _) fun b hb o e=> ?_) (fun b o e=> ?_) hS2 fun s'' hm'' hS''=> ?_⟩
  ·rw[hsb.2 b (fun h:b=S=>hSf (by rw[<-h];exact hb))];exact e
  ·show h'.get? b=some o
   rw[hsb.2 b (fun h:b=S=>by rw[h,hS0]at e;cases e)];exact hk1 b o e
  ·refine hR s'' (Moved.trans W.gtrans ((hm.mono hsub).then_heap (Nat.le_succ _) fun b o hb e=> ?_) hm'') hS''
   rw[hsb.2 b (fun h:b=S=>hb (by rw[h];exact List.mem_cons_self))];exact e
end
section
variable {prog:Program} {w:World} {A:Around} {E:Value->Shared->Prop} {s:Shared} {p:Addr}
abbrev Kp (h h':Heap):Prop:=∀b o,h.get? b=some o->h'.get? b=some o
structure C5 (prog:Program) (w:World) (h0:Heap) (p:Addr) (T:String) (n:Nat) (P:Nat->Value->Prop):Prop where
 lt:p<h0.objs.size
 ty:∀s:Shared,Kp h0 s.heap->s.TypeIs (.ref p) T
 nd:(Value.type T != Value.type "dict")=true
 no:∀(A:Around) (E:Value->Shared->Prop) (s:Shared) (Q:Option Value->Shared->Prop),A.handled=none->Kp h0 s.heap->(∀h' tk,Kp s.heap h'->Q none {s with heap:=h',toks:=tk})->wpAny (model prog w) A (getAttr? (.ref p) "keys") Q E s
 it:∀(A:Around) (s:Shared),A.handled=none->Kp h0 s.heap->∃(oI:Obj) (St:Nat->Heap->Prop),(∀(A':Around) (E:Value->Shared->Prop) (Q:Value->Shared->Prop),Q (.ref s.heap.objs.size) {s with heap:=s.heap.push oI}->wpAny (model prog w) A' (pyIter (.ref p)) Q E s)/\
  Walks prog w A s.heap.objs.size [s.heap.objs.size,p] [s.heap.objs.size] n P St/\St 0 (s.heap.push oI)
theorem pU {T:String} {n:Nat} {P:Nat->Value->Prop} {Q:Value->Shared->Prop} (S:C5 prog w s.heap p T n P) (hh:A.handled=none) (key:Nat->a_) (val:Nat->Value) (hn:n<=sizeLine)
  (hP:∀i v,P i v->∃a o kv m,v= .ref a/\s.heap.get? a=some o/\o.cls= .type "tuple"/\o.data= .seq #[kv,val i] m/\(bg prog w).is (key i) kv=true)
  (h:∀h' tk,Kp s.heap h'->h'.DictOf (bg prog w) s.heap.objs.size (uM key val n)->Q (.ref s.heap.objs.size) {s with heap:=h',toks:=tk}):
  wpAny (model prog w) A (call (.type "dict") [.ref p]) Q E s:=by
 refine callType_codes (Q₁:=fun obj s₁=>obj= .ref s.heap.objs.size/\s₁={s with heap:=s.heap.push {cls:= .type "dict",data:= .dict #[]}}) PySem.F.kt_called_dict (PySem.F.kt_typeCall_dict_1 _) PySem.F.entry_dict_init (kt_code_dict_new _ ⟨rfl,rfl⟩) ?_
 rintro obj s₁ ⟨rfl,rfl⟩
 have hnew:(s.heap.push {cls:= .type "dict",data:= .dict #[]}).DictOf (bg prog w) s.heap.objs.size []:=Heap.DictOf.new s.heap
 have hkp:Kp s.heap (s.heap.push {cls:= .type "dict",data:= .dict #[]}):=fun b o e=>Heap.get?_push_of_some _ e
 refine⟨hnew.typeIs,PySem.F.args_dict_init_2 _ _,?_⟩
 unfold Builtin.«dict.__init__»
 refine wpAny_bind ?_
 unfold Builtin.Dict.selfAndRest
 refine wpAny_bind (wpAny_notOrdered_dict hnew.typeIs ?_)
 show wpAny _ _ (pure (s.heap.objs.size,[Value.ref p])) _ _ _
 refine wpAny_pure ?_
 show wpAny _ _ (Builtin.Dict.updateFrom "dict.__init__" s.heap.objs.size (.ref p) [] .none) _ _ _
 unfold Builtin.Dict.updateFrom
 refine wpAny_bind (wpAny_typeOf (S.ty _ hkp) ?_)
 rw[if_pos S.nd]
 refine wpAny_bind (S.no _ _ _ _ hh hkp fun h1 tk1 k1=> ?_)
 rw[if_pos (show (none:Option Value).isNone=true from rfl)]
 refine wpAny_bind (wpAny_rule ?_)
 have k01:Kp s.heap h1:=fun b o e=>k1 b o (hkp b o e)
 obtain⟨oI,St,hit,W,st⟩:=S.it A.in1.in1 {s with heap:=h1,toks:=tk1} hh k01
 refine wpAny_bind (hit _ _ _ ?_)
 have hS1:h1.DictOf (bg prog w) s.heap.objs.size []:=by
  obtain⟨o,es,ep,ho,rest⟩:=hnew
  exact⟨o,es,ep,k1 _ _ ho,rest⟩
 have hlt1:s.heap.objs.size<h1.objs.size:=by
  obtain⟨o,es,ep,ho,rest⟩:=hS1
  exact Heap.lt_size ho
 have fr:∀c,s.heap.objs.size<=c->s.heap.get? c=none:=fun c hc=>by
  cases e:s.heap.get? c with
  |none=>rfl
  |some o=>exact absurd (Nat.lt_of_lt_of_le (Heap.lt_size e) hc) (Nat.lt_irrefl _)
 refine wpAny_pure ⟨plainId_quiet cq _,xy (h0:=s.heap) W.toS s.heap.objs.size (fun hm=> ?_) (fr _ (Nat.le_refl _)) (fun b hb=> ?_) key val .none hn hP n 0 _ (by omega) (Nat.zero_le _) st (fun b o e=>Heap.get?_push_of_some _ (k01 b o e)) ?_ fun s' hm hS'=> ?_⟩
 ·rcases List.mem_cons.mp hm with z|hm
  ·exact absurd hlt1 (by rw[z];exact Nat.lt_irrefl _)
  ·exact absurd S.lt (by rw[<-List.mem_singleton.mp hm];exact Nat.lt_irrefl _)
 ·rw[List.mem_singleton.mp hb];exact fr _ (Nat.le_of_lt hlt1)
 ·obtain⟨o,es,ep,ho,rest⟩:=hS1
  exact⟨o,es,ep,Heap.get?_push_of_some _ ho,rest⟩
 ·refine⟨rfl,?_⟩
  rw[Moved.eq_with hm]
  refine h s'.heap s'.toks (fun b o e=>hm.heap b o (fun hb=> ?_) (Heap.get?_push_of_some _ (k01 b o e))) hS'
  rcases List.mem_cons.mp hb with rfl|hb
  ·rw[fr _ (Nat.le_refl _)]at e;cases e
  ·rw[List.mem_singleton.mp hb]at e
   rw[fr _ (Nat.le_of_lt hlt1)]at e;cases e
theorem xz {items:Array Value} (h:PlainL s.heap p items):C5 prog w s.heap p "list" items.size (fun i v=>items[i]? =some v)where
 lt:=let ⟨_,_,e,_⟩:=h;Heap.lt_size e
 ty:=fun s k=>let ⟨o,n,e,c,_⟩:=h;⟨o,k _ _ e,c⟩
 nd:=by decide
 no:=fun A E s' Q hA k q=>by
  obtain⟨⟨oc,od,odt,osl⟩,n,e,c,d,dt⟩:=h
  cases c;cases d;cases dt
  exact sQ (k _ _ e) hA q
 it:=fun A s' hA k=>by
  have hp:PlainL s'.heap p items:=h.keeps k
  have hlt:p<s'.heap.objs.size:=let ⟨_,_,e,_⟩:=hp;Heap.lt_size e
  exact⟨_,_,fun A' E Q q=>wpAny_pyIter_list hp.isList q,Walks.list hA s'.heap.objs.size p (Nat.ne_of_lt hlt) items,⟨⟨_,Heap.get?_push_size _ rfl,rfl,rfl⟩,hp.isList.push _⟩⟩
theorem uO {items:Array Value} (h:gU s.heap p items):C5 prog w s.heap p "tuple" items.size (fun i v=>items[i]? =some v)where
 lt:=h.lt
 ty:=fun s k=>let ⟨o,e,c,_⟩:=h;⟨o,k _ _ e,c⟩
 nd:=by decide
 no:=fun A E s' Q hA k q=>by
  obtain⟨⟨oc,od,odt,osl⟩,e,c,n,dt,d⟩:=h
  cases c;cases d;cases dt
  exact rE (k _ _ e) hA q
 it:=fun A s' hA k=>by
  have hp:IsTup s'.heap p items:=h.tup.keeps k
  have hlt:p<s'.heap.objs.size:=hp.lt
  have hp':s'.heap.IsTuple p items:=hp
  exact⟨_,_,fun A' E Q q=>wpAny_pyIter_tuple hp' q,Walks.tuple hA s'.heap.objs.size p (Nat.ne_of_lt hlt) items,⟨⟨_,Heap.get?_push_size _ rfl,rfl,rfl⟩,show IsTup _ _ _ from hp.push _⟩⟩
end
section
variable {X:Cx}
inductive gz (H:Hp):List V->List (a_×V)->Prop
 |nil:gz H [] []
 |cons {a:Addr} {k:a_} {v:V} {ys:List V} {ps:List (a_×V)}:H a=some (.tup [kV k,v])->gz H ys ps->gz H (.ref a::ys) ((k,v)::ps)
theorem sR (rs:List (a_×Value)) (x:a_×Value):merged [] (rs++[x])=stored (merged [] rs) x.1 x.2:=by
 unfold merged
 rw[List.foldl_append]
 rfl
def oB (rs:List (a_×Value)) (i:Nat):a_:=((rs[i]?).map (·.1)).getD (.inl 0)
def oE (rs:List (a_×Value)) (i:Nat):Value:=((rs[i]?).map (·.2)).getD .none
theorem jL (rs:List (a_×Value)):∀i,i<=rs.length->uM (oB rs) (oE rs) i=merged [] (rs.take i)
 |0,_=>rfl
 |i+1,h=>by
  have hi:i<rs.length:=h
  show stored (uM (oB rs) (oE rs) i) (oB rs i) (oE rs i)=_
  rw[jL rs i (Nat.le_of_lt hi),List.take_succ_eq_append_getElem hi,sR]
  simp[oB,oE,hi]
theorem oF {P:Program} {w:World} {H:Hp} {h:Heap} (ok:jA P w H h):∀{ys:List V} {ps:List (a_×V)} {us:List Value},gz H ys ps->aS ys us->∃rs:List (a_×Value),KV ps rs/\us.length=rs.length/\
  ∀(i:Nat) v,us[i]? =some v->∃a o kv m,v= .ref a/\h.get? a=some o/\o.cls= .type "tuple"/\o.data= .seq #[kv,oE rs i] m/\(bg P w).is (oB rs i) kv=true
 |_,_,_, .nil, .nil=>⟨[], .nil,rfl,fun i v h=>by simp at h⟩
 |_,_,_, .cons (a:=a) (k:=k) (v:=v) ha t, .cons ru rt=>by
  obtain⟨rs,h1,h2,h3⟩:=oF ok t rt
  obtain⟨_,its,r,o,g1,g2,n,g3,_⟩:=(show bS P w H h a (.tup [kV k,v])from ok a _ ha)
  obtain⟨x,y,rfl,rx,ry⟩:=r.two
  refine⟨(k,y)::rs, .cons ⟨rfl,ry⟩ h1,by simp[h2],fun i v' hv=> ?_⟩
  cases i with
  |zero=>
   simp at hv
   subst hv
   exact⟨a,o,x,n,ru,g1,g2,g3,n8 rx⟩
  |succ i=>exact h3 i v' (by simpa using hv)
theorem gI (hc:X.calm=true):cT X (.type "dict") (fun xs H Q=>∃p ys ps,xs=[.ref p]/\(H p=some (.lst ys)\/H p=some (.tup ys))/\gz H ys ps/\∀l,H l=none->Q (.ref l) (bK H l (.dK (eE [] ps)))):=by
 intro pins s σ H xs us Q I rv h
 obtain⟨p,ys,ps,rfl,hp,pa,q⟩:=h
 obtain⟨u,rfl,ru⟩:=iR rv
 cases ru
 have fin:∀(its:List Value) (T:String),aS ys its->ys.length<=sizeLine->C5 X.prog X.w s.heap p T its.toArray.size (fun i v=>its.toArray[i]? =some v)->
   wpAny (model X.prog X.w) X.A (call (.type "dict") [.ref p]) (EP X pins σ Q) X.xe s:=by
  intro its T r hz S
  obtain⟨rs,h1,h2,h3⟩:=oF I.hok pa r
  have hl:=r.length
  refine pU S (I.ok.hd hc) (oB rs) (oE rs) (by rw[List.size_toArray];omega) (fun i v hv=>h3 i v (by simpa using hv)) fun h' tk k hd=> ?_
  have en:its.toArray.size=rs.length:=by rw[<-h2];exact List.size_toArray
  rw[en,jL rs _ (Nat.le_refl _),List.take_length]at hd
  have hkv:KV (eE [] ps) (merged [] rs):=KV.merge h1 .nil
  refine⟨.ref s.heap.objs.size,_,I.laid (t':=tk) (o:= .dK (eE [] ps)) k (Nat.le_refl _) (rm ?_ ?_ hkv hd),rfl,q _ (I.hok.fresh (Nat.le_refl _))⟩
  ·rw[KV.length hkv]
   have:(merged [] rs).length<=rs.length:=by
    have:=oA (oB rs) (oE rs) rs.length
    rwa [jL rs _ (Nat.le_refl _),List.take_length]at this
   omega
  ·exact beq_eq_false_iff_ne.mpr (Nat.ne_of_gt I.big)
 rcases hp with hp|hp
 ·obtain⟨its,r,pl,hz⟩:=I.list (eC.of hp)
  exact fin its "list" r hz (xz pl)
 ·obtain⟨hz,its,r,pl⟩:=(show bS X.prog X.w H s.heap p (.tup ys)from I.hok p _ hp)
  exact fin its "tuple" r hz (uO pl)
end
end L2
namespace L2
open PySem PySem.Spec PyProof.Rows PySem.W
def kA {α:Type} (V:Nat->Nat->Prop) (lt:Nat->Nat->Bool):KasT α->(α->Prop)->Prop
 | .ret a,Q=>Q a
 | .ask i j k,Q=>V i j/\kA V lt (k (lt i j)) Q
theorem kA.imp {α:Type} {V:Nat->Nat->Prop} {lt:Nat->Nat->Bool} {Q Q':α->Prop} (w:∀a,Q a->Q' a):∀{t:KasT α},kA V lt t Q->kA V lt t Q'
 | .ret a,h=>w a h
 | .ask i j k,h=>⟨h.1,kA.imp w h.2⟩
theorem kA.bind {α β:Type} {V:Nat->Nat->Prop} {lt:Nat->Nat->Bool} {f:α->KasT β} {Q:β->Prop}:∀{t:KasT α},kA V lt t (fun a=>kA V lt (f a) Q)->kA V lt (t.bind f) Q
 | .ret a,h=>h
 | .ask i j k,h=>⟨h.1,kA.bind h.2⟩
theorem kA.wp {α:Type} {V:Nat->Nat->Prop} {lt:Nat->Nat->Bool} {cmp:Nat->Nat->(Bool->Shared->Prop)->Shared->Prop} {Good:Shared->Prop} (hc:∀i j C s,V i j->Good s->(∀s',Good s'->C (lt i j) s')->cmp i j C s) {Q:α->Shared->Prop}:
  ∀{t:KasT α} {s:Shared},kA V lt t (fun a=>∀s',Good s'->Q a s')->Good s->t.kasWp cmp Q s
 | .ret a,s,h,g=>h s g
 | .ask i j k,s,h,g=>hc i j _ s h.1 g fun s' g'=>kA.wp hc h.2 g'
section
variable {n:Nat} {key:Nat->Int}
def kk (key:Nat->Int) (p:Array Nat) (i:Nat):Int:=key (p.getD i 0)
def uP (key:Nat->Int) (i j:Nat):Bool:=decide (key i<key j)
def Pr (n i j:Nat):Prop:=i<n/\j<n/\i≠j
structure pP (n:Nat) (p:Array Nat):Prop where
 sz:p.size=n
 perm:p.toList.Perm (List.range n)
theorem pP.lt {p:Array Nat} (h:pP n p) {i:Nat} (hi:i<n):p.getD i 0<n:=by
 have hi':i<p.size:=by rw[h.sz];exact hi
 have:p.getD i 0=p[i]:=by simp[Array.getD,hi']
 rw[this]
 exact List.mem_range.mp (h.perm.mem_iff.mp (by simp))
theorem pP.inj {p:Array Nat} (h:pP n p) {i j:Nat} (hi:i<n) (hj:j<n) (e:p.getD i 0=p.getD j 0):i=j:=by
 have hi':i<p.size:=by rw[h.sz];exact hi
 have hj':j<p.size:=by rw[h.sz];exact hj
 have e1:p.getD i 0=p[i]:=by simp[Array.getD,hi']
 have e2:p.getD j 0=p[j]:=by simp[Array.getD,hj']
 rw[e1,e2]at e
 have nd:p.toList.Nodup:=(h.perm.nodup_iff).mpr List.nodup_range
 have hp:=List.pairwise_iff_getElem.mp nd
 have el:p.toList[i]'(by simpa using hi')=p.toList[j]'(by simpa using hj'):=by simpa using e
 rcases Nat.lt_trichotomy i j with z|z|z
 ·exact absurd el (hp i j _ _ z)
 ·exact z
 ·exact absurd el.symm (hp j i _ _ z)
theorem pP.pr {p:Array Nat} (h:pP n p) {i j:Nat} (hi:i<n) (hj:j<n) (hij:i≠j):Pr n (p.getD i 0) (p.getD j 0):=⟨h.lt hi,h.lt hj,fun z=>hij (h.inj hi hj z)⟩
def uq (key:Nat->Int) (p:Array Nat) (m:Nat):Prop:=∀i j,i<j->j<m->kk key p i<kk key p j
def Et (key:Nat->Int) (p:Array Nat) (m:Nat):Prop:=∀i j,i<j->j<m->kk key p j<kk key p i
theorem uq.more {p:Array Nat} {m:Nat} (h:uq key p (m+1)) (hl:kk key p m<kk key p (m+1)):uq key p (m+2):=fun i j hij hj=>by
 by_cases e:j=m+1
 ·subst e
  by_cases e2:i=m
  ·subst e2;exact hl
  ·exact Int.lt_trans (h i m (by omega) (by omega)) hl
 ·exact h i j hij (by omega)
theorem Et.more {p:Array Nat} {m:Nat} (h:Et key p (m+1)) (hl:kk key p (m+1)<kk key p m):Et key p (m+2):=fun i j hij hj=>by
 by_cases e:j=m+1
 ·subst e
  by_cases e2:i=m
  ·subst e2;exact hl
  ·exact Int.lt_trans hl (h i m (by omega) (by omega))
 ·exact h i j hij (by omega)
theorem uQ {p:Array Nat} (o:pP n p) (hk:∀i j,i<n->j<n->key i=key j->i=j):∀(f m:Nat),uq key p (m+1)->m+1+f=n->kA (Pr n) (uP key) (kas_asc p f (m+1)) fun r=>m+1<=r/\r<=n/\uq key p r/\(r<n->kk key p r<kk key p (r - 1))
 |0,m,h,e=>⟨Nat.le_refl _,by omega,h,fun z=>by omega⟩
 |f+1,m,h,e=>by
  refine⟨o.pr (by omega) (by omega) (by omega),?_⟩
  rw[Nat.add_sub_cancel]
  by_cases hl:kk key p (m+1)<kk key p m
  ·simp only[show uP key (p.getD (m+1) 0) (p.getD m 0)=true from decide_eq_true hl,if_true]
   exact⟨Nat.le_refl _,by omega,h,fun _=>by rw[Nat.add_sub_cancel];exact hl⟩
  ·simp only[show uP key (p.getD (m+1) 0) (p.getD m 0)=false from decide_eq_false hl,Bool.false_eq_true,if_false]
   have hne:kk key p m≠kk key p (m+1):=fun z=>by
    have:=o.inj (i:=m) (j:=m+1) (by omega) (by omega) (hk _ _ (o.lt (by omega)) (o.lt (by omega)) z)
    omega
   refine kA.imp (fun r ⟨a,b,c,d⟩=>⟨by omega,b,c,d⟩) (uQ o hk f (m+1) (h.more (by omega)) (by omega))
theorem zo {p:Array Nat} (o:pP n p) (hk:∀i j,i<n->j<n->key i=key j->i=j):∀(f m:Nat),Et key p (m+1)->m+1+f=n->kA (Pr n) (uP key) (kas_desc f p (m+1) 0) fun r=>r.1=p/\r.2.2=0/\m+1<=r.2.1/\r.2.1<=n/\Et key p r.2.1
 |0,m,h,e=>⟨rfl,rfl,Nat.le_refl _,by show m+1<=n;omega,h⟩
 |f+1,m,h,e=>by
  refine⟨o.pr (by omega) (by omega) (by omega),?_⟩
  rw[Nat.add_sub_cancel]
  by_cases hl:kk key p (m+1)<kk key p m
  ·simp only[show uP key (p.getD (m+1) 0) (p.getD m 0)=true from decide_eq_true hl,if_true,gt_iff_lt,Nat.lt_irrefl,if_false]
   exact kA.imp (fun r ⟨a,b,c,d⟩=>⟨a,b,by omega,d⟩) (zo o hk f (m+1) (h.more hl) (by omega))
  ·simp only[show uP key (p.getD (m+1) 0) (p.getD m 0)=false from decide_eq_false hl,Bool.false_eq_true,if_false]
   have hne:kk key p m≠kk key p (m+1):=fun z=>by
    have:=o.inj (i:=m) (j:=m+1) (by omega) (by omega) (hk _ _ (o.lt (by omega)) (o.lt (by omega)) z)
    omega
   have hl2:kk key p m<kk key p (m+1):=by omega
   refine⟨o.pr (by omega) (by omega) (by omega),?_⟩
   simp only[show uP key (p.getD m 0) (p.getD (m+1) 0)=true from decide_eq_true hl2,if_true]
   exact⟨rfl,rfl,Nat.le_refl _,by show m+1<=n;omega,h⟩
theorem nY {p q:Array Nat} {i j:Nat} (h:p[i]? =q[j]?):p.getD i 0=q.getD j 0:=by
 rw[Array.getD_eq_getD_getElem?,Array.getD_eq_getD_getElem?,h]
theorem C6 {p:Array Nat} (o:pP n p) (i j:Nat):pP n (kas_rev p i j):=
 ⟨by unfold kas_rev;rw[mirror_size];exact o.sz,(Array.perm_iff_toList_perm.mp (mirror_perm p i j _)).trans o.perm⟩
theorem C7 {p:Array Nat} (o:pP n p) {m:Nat} (hm:m<=n) (h:Et key p m):uq key (kas_rev p 0 m) m:=fun i j hij hj=>by
 have e:∀k,k<m->kk key (kas_rev p 0 m) k=kk key p (m - 1 - k):=fun k hk=>by
  unfold kk
  congr 1
  refine nY ?_
  have:=getElem?_mirror_all (xs:=p) (i:=0) (j:=m) (by rw[o.sz];exact hm) k
  unfold kas_rev
  rw[this,if_pos ⟨Nat.zero_le _,hk⟩,Nat.zero_add]
 rw[e i (by omega),e j hj]
 exact h _ _ (by omega) (by omega)
theorem zp {p:Array Nat} (o:pP n p) (hn:2<=n) (hk:∀i j,i<n->j<n->key i=key j->i=j):kA (Pr n) (uP key) (kas_count n p) fun r=>1<=r.1/\r.1<=n/\pP n r.2/\uq key r.2 r.1:=by
 unfold kas_count
 refine kA.bind (kA.imp (fun m ⟨h1,h2,h3,h4⟩=> ?_) (uQ o hk (n - 1) 0 (fun i j hij hj=>by omega) (by omega)))
 by_cases e:m=n
 ·rw[if_pos (by simp[e])];exact⟨by show 1<=m;omega,h2,o,h3⟩
 ·rw[if_neg (by simp[e])]
  by_cases e1:m>1
  ·rw[if_pos e1]
   refine⟨o.pr (by omega) (by omega) (by omega),?_⟩
   simp only[show uP key (p.getD 0 0) (p.getD (m - 1) 0)=true from decide_eq_true (h3 0 (m - 1) (by omega) (by omega)),if_true]
   exact⟨by show 1<=m;omega,h2,o,h3⟩
  ·have em:m=1:=by omega
   subst em
   rw[if_neg (by omega)]
   have hd:Et key p 2:=fun i j hij hj=>by
    have hi:i=0:=by omega
    have hj':j=1:=by omega
    subst hi;subst hj'
    exact h4 (by omega)
   unfold kas_descPart
   refine kA.bind (kA.imp (fun r ⟨a,b,c,d,g⟩=> ?_) (zo o hk (n - (1+1)) 1 hd (by omega)))
   rw[if_neg (by omega)]
   unfold kas_tail3
   rw[a]
   have o2:=C6 o 0 r.2.1
   obtain⟨q,hq⟩:∃q,r.2.1=q+1:=⟨r.2.1 - 1,by omega⟩
   rw[hq]at d g o2 ⊢
   refine kA.bind (kA.imp (fun m2 ⟨x1,x2,x3,_⟩=>⟨by show 1<=m2;omega,x2,o2,x3⟩) (uQ o2 hk (n - (q+1)) q (C7 o d g) (by omega)))
theorem oG {p:Array Nat} (o:pP n p) (hk:∀i j,i<n->j<n->key i=key j->i=j) {k:Nat} (hkn:k<n) (ha:uq key p k):∀(f l r:Nat),l<=r->r<=k->r - l<=f->(∀i,i<l->kk key p i<kk key p k)->(∀i,r<=i->i<k->kk key p k<kk key p i)->
  kA (Pr n) (uP key) (kas_place p k f l r) fun m=>m<=k/\(∀i,i<m->kk key p i<kk key p k)/\∀i,m<=i->i<k->kk key p k<kk key p i
 |0,l,r,h1,h2,h3,h4,h5=>⟨by omega,h4,fun i hi=>h5 i (by omega)⟩
 |f+1,l,r,h1,h2,h3,h4,h5=>by
  unfold kas_place
  by_cases e:l>=r
  ·rw[if_pos e];exact⟨by omega,h4,fun i hi=>h5 i (by omega)⟩
  ·rw[if_neg e]
   refine⟨o.pr hkn (by omega) (by omega),?_⟩
   have hm1:(l+r) / 2<r:=by omega
   have hm2:l<=(l+r) / 2:=by omega
   by_cases hl:kk key p k<kk key p ((l+r) / 2)
   ·simp only[show uP key (p.getD k 0) (p.getD ((l+r) / 2) 0)=true from decide_eq_true hl,if_true]
    refine oG o hk hkn ha f l ((l+r) / 2) hm2 (by omega) (by omega) h4 fun i hi hik=> ?_
    by_cases z:i=(l+r) / 2
    ·subst z;exact hl
    ·exact Int.lt_trans hl (ha _ _ (by omega) hik)
   ·simp only[show uP key (p.getD k 0) (p.getD ((l+r) / 2) 0)=false from decide_eq_false hl,Bool.false_eq_true,if_false]
    have hne:kk key p ((l+r) / 2)≠kk key p k:=fun z=>by
     have:=o.inj (i:=(l+r) / 2) (j:=k) (by omega) hkn (hk _ _ (o.lt (by omega)) (o.lt hkn) z)
     omega
    have hl2:kk key p ((l+r) / 2)<kk key p k:=by omega
    refine oG o hk hkn ha f ((l+r) / 2+1) r (by omega) h2 (by omega) (fun i hi=> ?_) h5
    by_cases z:i=(l+r) / 2
    ·subst z;exact hl2
    ·exact Int.lt_trans (ha _ _ (show i<(l+r) / 2 by omega) (by omega)) hl2
theorem C8 {p:Array Nat} (o:pP n p) {k m:Nat} (hkn:k<n) (hm:m<=k) (ha:uq key p k) (h1:∀i,i<m->kk key p i<kk key p k) (h2:∀i,m<=i->i<k->kk key p k<kk key p i):pP n (bubble p k (k - m))/\uq key (bubble p k (k - m)) (k+1):=by
 refine⟨⟨by rw[bubble_size];exact o.sz,(Array.perm_iff_toList_perm.mp (bubble_perm p k _)).trans o.perm⟩,fun i j hij hj=> ?_⟩
 have e:∀q,kk key (bubble p k (k - m)) q=if q=m then kk key p k else if m<q/\q<=k then kk key p (q - 1)else kk key p q:=fun q=>by
  have:=getElem?_bubble (xs:=p) (src:=k) (by rw[o.sz];exact hkn) (k - m) (by omega) q
  rw[show k - (k - m)=m by omega]at this
  unfold kk
  split
  ·rename_i z;rw[if_pos z]at this;congr 1;exact nY this
  ·rename_i z
   rw[if_neg z]at this
   split
   ·rename_i z2;rw[if_pos z2]at this;congr 1;exact nY this
   ·rename_i z2;rw[if_neg z2]at this;congr 1;exact nY this
 rw[e i,e j]
 by_cases i1:i=m
 ·rw[if_pos i1,if_neg (by omega),if_pos (by omega)]
  exact h2 _ (by omega) (by omega)
 ·rw[if_neg i1]
  by_cases i2:m<i/\i<=k
  ·rw[if_pos i2,if_neg (by omega),if_pos (by omega)]
   exact ha _ _ (by omega) (by omega)
  ·rw[if_neg i2]
   by_cases j1:j=m
   ·rw[if_pos j1];exact h1 i (by omega)
   ·rw[if_neg j1]
    by_cases j2:m<j/\j<=k
    ·rw[if_pos j2]
     by_cases z:i=j - 1
     ·omega
     ·exact ha _ _ (by omega) (by omega)
    ·rw[if_neg j2];exact ha _ _ hij (by omega)
theorem zq (hk:∀i j,i<n->j<n->key i=key j->i=j):∀(f:Nat) (p:Array Nat) (k:Nat),pP n p->uq key p k->k+f=n->kA (Pr n) (uP key) (kas_bin f p k) fun q=>pP n q/\uq key q n
 |0,p,k,o,h,e=>⟨o,by rw[<-e];exact h⟩
 |f+1,p,k,o,h,e=>by
  unfold kas_bin
  refine kA.bind (kA.imp (fun m ⟨h1,h2,h3⟩=> ?_) (oG o hk (show k<n by omega) h k 0 k (Nat.zero_le _) (Nat.le_refl _) (by omega) (fun i hi=>by omega) fun i h1 h2=>by omega))
  obtain⟨o2,a2⟩:=C8 o (show k<n by omega) h1 h h2 h3
  exact zq hk f _ (k+1) o2 a2 (by omega)
theorem C9 (hn:2<=n) (hk:∀i j,i<n->j<n->key i=key j->i=j):kA (Pr n) (uP key) (kas_sort n) fun q=>pP n q/\uq key q n:=by
 have o:pP n (List.toArray (List.range n)):=⟨by simp,by simp⟩
 unfold kas_sort
 refine kA.bind (kA.imp (fun r ⟨h1,h2,h3,h4⟩=> ?_) (zp o hn hk))
 by_cases e:r.1<n
 ·rw[if_pos e,show max r.1 1=r.1 by omega]
  exact zq hk _ _ _ h3 h4 (by omega)
 ·rw[if_neg e]
  have:r.1=n:=by omega
  rw[this]at h4
  exact⟨h3,h4⟩
end
end L2
namespace L2
open PySem PySem.Spec PyProof.Rows PySem.W
section
variable {prog:Program} {w:World} {A:Around} {E:Value->Shared->Prop} {s:Shared}
def kY (h:Heap) (v:Value) (k:Int):Prop:=∃b o t rest m,v= .ref b/\h.get? b=some o/\o.cls= .type "tuple"/\o.data= .seq (Array.mk (Value.int k t::rest)) m
theorem Eu {v u:Value} {k l:Int} {Q:Bool->Shared->Prop} (hv:kY s.heap v k) (hu:kY s.heap u l) (hne:k≠l) (h:Q (decide (k<l)) s):wpAny (model prog w) A (keyLt' (tuples' true) v u) Q E s:=by
 obtain⟨b,o,t,rest,m,rfl,h1,h2,h3⟩:=hv
 obtain⟨b',o',t',rest',m',rfl,g1,g2,g3⟩:=hu
 refine kat_lt h1 h3 g1 g3 ?_
 show KatLex prog w A true _ Q ((Value.int k t,Value.int l t')::rest.zip rest') 0 s
 refine kat_cons (wpAny_eqBool_int ?_)
 have e:(k==l)=false:=beq_eq_false_iff_ne.mpr hne
 rw[e]
 exact kat_no (oneLt_int h)
theorem qw:∀{vs:List Value} {ks:List Int},vs.length=ks.length->(∀(i:Nat) v,vs[i]? =some v->kY s.heap v (ks.getD i 0))->∃fs:List Value,KatTups s.heap vs fs/\fs.length=vs.length/\∀f∈fs,∃k t,f=Value.int k t
 |[],ks,_,_=>⟨[], .nil,rfl,fun f hf=>by cases hf⟩
 |v::vs,[],hl,_=>by cases hl
 |v::vs,k::ks,hl,h=>by
  obtain⟨fs,h1,h2,h3⟩:=qw (vs:=vs) (ks:=ks) (by simpa using hl) fun i u hu=>by
   have:=h (i+1) u (by simpa using hu)
   simpa using this
  obtain⟨b,o,t,rest,m,rfl,g1,g2,g3⟩:=h 0 v rfl
  refine⟨_::fs,KatTups.cons g1 g2 g3 (f:=Value.int ((k::ks).getD 0 0) t) rfl h1,by simp[h2],fun f hf=> ?_⟩
  rcases List.mem_cons.mp hf with rfl|hf
  ·exact⟨_,_,rfl⟩
  ·exact h3 f hf
def jM (ks:List Int) (p:List Nat):Prop:=p.Perm (List.range ks.length)/\(p.map fun i=>ks.getD i 0).Pairwise (·<·)
theorem rF {key:Nat->Int} {p:Array Nat} {n:Nat} (hs:p.size=n) (h:uq key p n):(p.toList.map key).Pairwise (·<·):=by
 refine List.pairwise_iff_getElem.mpr fun i j hi hj hij=> ?_
 rw[List.length_map,Array.length_toList]at hi hj
 have:=h i j hij (by omega)
 unfold kk at this
 simpa[Array.getD,hi,hj]using this
theorem xA {α β:Type} {vs:List α} {ks:List β} (hl:vs.length=ks.length) (h:vs.length<2):(vs=[]/\ks=[])\/∃v k,vs=[v]/\ks=[k]:=by
 cases vs with
 |nil=>exact .inl ⟨rfl,List.length_eq_zero_iff.mp hl.symm⟩
 |cons v vs=>
  cases vs with
  |nil=>
   obtain⟨k,hk⟩:=List.length_eq_one_iff.mp hl.symm
   exact .inr ⟨v,k,rfl,hk⟩
  |cons=>exact absurd h (by simp only[List.length_cons];omega)
theorem jN {a:Addr} {vs:List Value} {ks:List Int} {n:Nat} {P:PySem.Fin->Shared->Prop} (ho:s.heap.get? a=some (seqObj "list" vs.toArray n)) (hl:vs.length=ks.length) (hv:∀(i:Nat) v,vs[i]? =some v->kY s.heap v (ks.getD i 0)) (hnd:ks.Nodup) (h64:vs.length<64)
  (h:∀p:List Nat,jM ks p->P (.done (.ret .none)) {s with heap:=sortedHeap s.heap a vs (List.toArray (p.map fun i=>vs.getD i Value.none))}):
  wpAny (model prog w) A (Builtin.«list.sort» ⟨[.ref a],[]⟩) P E s:=by
 rw[list_sort_plain]
 have ha:a<s.heap.objs.size:=Heap.lt_size ho
 refine wpAny_bind (listItems_at ho rfl ?_)
 refine wpAny_bind (listUpdate_at ho rfl ?_ (hsz2:=Nat.zero_le _) (hsz:=by rw[List.size_toArray,sizeLine_eq];omega))
 obtain⟨e1,ho1⟩:∃e1,(s.heap.update a (Obj.mapSeq fun _=> #[])).get? a=some (seqObj "list" #[] e1):=⟨_,get?_update_seq ho (fun _=> #[])⟩
 refine wpAny_bind (seqEpoch_at ho1 rfl ?_)
 refine wpAny_bind (wpAny_newTuple ?_ (by show vs.length<=_;rw[sizeLine_eq];omega))
 refine wpAny_bind (wpAny_newList ?_ (Nat.zero_le _))
 refine wpAny_holding ?_
 have old:∀b o,b≠a->s.heap.get? b=some o->(((s.heap.update a (Obj.mapSeq fun _=> #[])).push (seqObj "tuple" vs.toArray 0)).push (seqObj "list" #[] 0)).get? b=some o:=fun b o hb e=>by
  refine Heap.get?_push_of_some _ (Heap.get?_push_of_some _ ?_)
  rw[Heap.get?_update_ne _ _ _ _ hb];exact e
 have ho6:(((s.heap.update a (Obj.mapSeq fun _=> #[])).push (seqObj "tuple" vs.toArray 0)).push (seqObj "list" #[] 0)).get? a=some (seqObj "list" #[] e1):=Heap.get?_push_of_some _ (Heap.get?_push_of_some _ ho1)
 have hv':∀(i:Nat) v,vs[i]? =some v->kY (((s.heap.update a (Obj.mapSeq fun _=> #[])).push (seqObj "tuple" vs.toArray 0)).push (seqObj "list" #[] 0)) v (ks.getD i 0):=fun i v e=>by
  obtain⟨b,o,t,rest,m,rfl,g1,g2,g3⟩:=hv i v e
  refine⟨b,o,t,rest,m,rfl,old b o (fun z=> ?_) g1,g2,g3⟩
  subst z
  rw[ho]at g1
  cases g1
  exact absurd (show Value.type "list"=Value.type "tuple" from g2) (by decide)
 show wpAny (model prog w) A _ P E {s with heap:=((s.heap.update a (Obj.mapSeq fun _=> #[])).push (seqObj "tuple" vs.toArray 0)).push (seqObj "list" #[] 0)}
 dsimp only
 have hsz:vs.toArray.size=vs.length:=by simp
 have hmap:∀p:List Nat,p.length=vs.length->(List.toArray (p.map fun i=>vs.getD i Value.none)).size<=sizeLine:=fun p hp=>by
  rw[List.size_toArray,List.length_map,hp,sizeLine_eq];omega
 by_cases h2:vs.toArray.size<2
 ·rw[if_pos h2,if_pos h2]
  refine wpAny_bind (wpAny_pure ?_)
  rw[StateT.run_pure]
  refine wpAny_bind (wpAny_pure ?_)
  dsimp only
  obtain⟨p,hp,hpl,heq⟩:∃p:List Nat,jM ks p/\p.length=vs.length/\Array.map (fun x=>x.2) (arrOf (SortSt.mk' general' (vs.toArray.zip vs.toArray) #[] 7 none))=List.toArray (p.map fun i=>vs.getD i Value.none):=by
   rcases xA hl (by simpa using h2)with ⟨rfl,rfl⟩|⟨v,k,rfl,rfl⟩
   ·exact⟨[],⟨List.Perm.refl _,List.Pairwise.nil⟩,rfl,by show Array.map (fun x:Keyed=>x.2) ((#[]:Array Value).zip #[])=_;simp⟩
   ·exact⟨[0],⟨List.Perm.refl _,List.pairwise_singleton _ _⟩,rfl,by show Array.map (fun x:Keyed=>x.2) ((#[v]:Array Value).zip #[v])=_;simp⟩
  refine wpAny_bind (seqEpoch_at ho6 rfl ?_)
  have heq':Array.map (fun x=>x.2) (arrOf (SortSt.mk' general' (vs.toArray.zip vs.toArray) #[] 7 none))=List.toArray (p.map fun i=>vs.getD i Value.none):=heq
  refine wpAny_bind (listUpdate_at ho6 rfl ?_ (hsz2:=by have:=hmap p hpl;rw[<-heq']at this;exact Nat.le_succ_of_le this))
  simp only[bne_self_eq_false,Bool.false_eq_true,if_false]
  have hh:=h p hp
  rw[<-heq']at hh
  exact wpAny_pure hh
 ·rw[if_neg h2,if_neg h2]
  have hn2:2<=vs.length:=by rw[hsz]at h2;omega
  obtain⟨fs,t1,t2,t3⟩:=qw (s:={s with heap:=((s.heap.update a (Obj.mapSeq fun _=> #[])).push (seqObj "tuple" vs.toArray 0)).push (seqObj "list" #[] 0)}) hl hv'
  refine wpAny_bind (kat_kind (T:= .type "int") t1 (by omega) (fun v hv=> ?_) (by decide) ?_)
  ·obtain⟨k,t,rfl⟩:=t3 v hv
   exact .now
  rw[show (Value.type "int" != Value.type "tuple")=true by decide]
  have tree:(kas_sort vs.length).kasWp (kas_ask prog w A (tuples' true) vs) (fun p s'=>s'={s with heap:=((s.heap.update a (Obj.mapSeq fun _=> #[])).push (seqObj "tuple" vs.toArray 0)).push (seqObj "list" #[] 0)}/\pP vs.length p/\uq (fun i=>ks.getD i 0) p vs.length) {s with heap:=((s.heap.update a (Obj.mapSeq fun _=> #[])).push (seqObj "tuple" vs.toArray 0)).push (seqObj "list" #[] 0)}:=by
   have hinj:∀i j,i<vs.length->j<vs.length->ks.getD i 0=ks.getD j 0->i=j:=fun i j hi hj e=>by
    have hp:=List.pairwise_iff_getElem.mp hnd
    have e':ks[i]'(by omega)=ks[j]'(by omega):=by simpa[show i<ks.length by omega,show j<ks.length by omega]using e
    rcases Nat.lt_trichotomy i j with z|z|z
    ·exact absurd e' (hp i j _ _ z)
    ·exact z
    ·exact absurd e'.symm (hp j i _ _ z)
   refine kA.wp (V:=Pr vs.length) (lt:=uP fun i=>ks.getD i 0) (Good:=fun s'=>s'={s with heap:=((s.heap.update a (Obj.mapSeq fun _=> #[])).push (seqObj "tuple" vs.toArray 0)).push (seqObj "list" #[] 0)}) (fun i j C s' hpr hg hC=> ?_) (kA.imp (fun p hp s' hs'=>⟨hs',hp⟩) (C9 hn2 hinj)) rfl
   subst hg
   have hi:vs[i]? =some (vs.getD i Value.none):=by simp[hpr.1]
   have hj:vs[j]? =some (vs.getD j Value.none):=by simp[hpr.2.1]
   exact Eu (hv' i _ hi) (hv' j _ hj) (fun z=>hpr.2.2 (hinj i j hpr.1 hpr.2.1 z)) (hC _ rfl)
  refine wpAny_bind (wpAny_mono (kat_run (vs:=vs) (ks:=vs) (Q:=fun st' s'=>∃p:Array Nat,arrOf st'=p.map (kas_item (vs.toArray.zip vs.toArray))/\failedOf st'=none/\s'={s with heap:=((s.heap.update a (Obj.mapSeq fun _=> #[])).push (seqObj "tuple" vs.toArray 0)).push (seqObj "list" #[] 0)}/\pP vs.length p/\uq (fun i=>ks.getD i 0) p vs.length)
   rfl hn2 h64 (fun p' st' s' a1 a2 a3 a4=>⟨p',a2,a3,a4⟩) tree) ?_ fun _ _ e=>e)
  rintro⟨⟨⟩,st'⟩ s' ⟨p,har,hf,rfl,ord,asc⟩
  dsimp only
  have hout:=kat_snds (vs:=vs) (ks:=vs) rfl har
  have hpl:p.toList.length=vs.length:=by rw[Array.length_toList];exact ord.sz
  refine wpAny_bind (seqEpoch_at ho6 rfl ?_)
  rw[hout]
  refine wpAny_bind (listUpdate_at ho6 rfl ?_ (hsz2:=Nat.le_succ_of_le (hmap _ hpl)))
  rw[hf]
  simp only[bne_self_eq_false,Bool.false_eq_true,if_false]
  exact wpAny_pure (h p.toList ⟨by rw[<-hl];exact ord.perm,rF ord.sz asc⟩)
end
section
variable {X:Cx}
inductive jf (H:Hp):List V->List Int->Prop
 |nil:jf H [] []
 |cons {a:Addr} {k:Int} {rest ys:List V} {ks:List Int}:H a=some (.tup (.int k::rest))->jf H ys ks->jf H (.ref a::ys) (k::ks)
theorem jf.length {H:Hp}:∀{ys:List V} {ks:List Int},jf H ys ks->ys.length=ks.length
 |_,_, .nil=>rfl
 |_,_, .cons _ t=>by rw[List.length_cons,List.length_cons,t.length]
theorem sS {P:Program} {w:World} {H:Hp} {h h':Heap} (ok:jA P w H h) (kp:∀b o,h.get? b=some o->h'.get? b=some o):∀{ys:List V} {ks:List Int} {us:List Value},jf H ys ks->aS ys us->∀(i:Nat) v,us[i]? =some v->kY h' v (ks.getD i 0)
 |_,_,_, .nil, .nil,i,v,e=>by simp at e
 |_,_,_, .cons (a:=a) (k:=k) (rest:=rest) ha t, .cons ru rt,i,v,e=>by
  cases i with
  |zero=>
   simp at e
   subst e
   obtain⟨_,its,r,o,h1,h2,n,h3,_⟩:=(show bS P w H h a (.tup (.int k::rest))from ok a _ ha)
   cases r with
   |cons rk rr=>
    obtain⟨t,rfl⟩:=rk
    exact⟨a,o,t,_,n,ru,kp _ _ h1,h2,h3⟩
  |succ i=>exact sS ok kp t rt i v (by simpa using e)
theorem mH {ys:List V} {us:List Value} (r:aS ys us):∀p:List Nat,(∀i∈p,i<ys.length)->aS (p.map fun i=>ys.getD i .non) (p.map fun i=>us.getD i Value.none)
 |[],_=> .nil
 |i::p,h=>by
  have hi:=h i List.mem_cons_self
  have hy:ys[i]? =some (ys.getD i .non):=by simp[hi]
  obtain⟨u,hu,ru⟩:=r.get hy
  have e:us.getD i Value.none=u:=by simp[hu]
  refine .cons ?_ (mH r p fun j hj=>h j (List.mem_cons_of_mem _ hj))
  show bx (ys.getD i .non) (us.getD i Value.none)
  rw[e];exact ru
theorem rG:cT X (.builtin "sorted") (fun xs H Q=>∃p ys ks,xs=[.ref p]/\(H p=some (.lst ys)\/H p=some (.tup ys))/\jf H ys ks/\ks.Nodup/\ks.length<64/\
  ∀l q,H l=none->jM ks q->Q (.ref l) (bK H l (.lst (q.map fun i=>ys.getD i .non)))):=by
 intro pins s σ H xs us Q I rv h
 obtain⟨p,ys,ks,rfl,hp,ra,nd,h64,q⟩:=h
 obtain⟨u,rfl,ru⟩:=iR rv
 cases ru
 have hl:=ra.length
 obtain⟨its,r,T,o,n,hT,ho,hc,hd⟩:∃its:List Value,aS ys its/\∃(T:String) (o:Obj) (n:Nat),(T="list"\/T="tuple")/\s.heap.get? p=some o/\o.cls= .type T/\o.data= .seq its.toArray n:=by
  rcases hp with hp|hp
  ·obtain⟨its,r,⟨o,n,e,c,_,d⟩,_⟩:=I.list (eC.of hp)
   exact⟨its,r,"list",o,n, .inl rfl,e,c,d⟩
  ·obtain⟨hz,its,r,o,e,c,n,d,_⟩:=(show bS X.prog X.w H s.heap p (.tup ys)from I.hok p _ hp)
   exact⟨its,r,"tuple",o,n, .inr rfl,e,c,d⟩
 have hlen:=r.length
 refine Calls.call_function_entry kind_sorted plain_sorted entry_sorted (args_sorted1 _) ?_
 unfold Builtin.«sorted»
 refine wpAny_bind (m:=checkCount "sorted" 1 1 _) (wpAny_pure ?_)
 refine wpAny_bind (wpAny_collect_seq p hT ho hc hd (fun h' hk'=> ?_) (by rw[List.size_toArray,sizeLine_eq];omega))
 have eT:its.toArray.toList=its:=by simp
 rw[eT]
 refine wpAny_bind (wpAny_newList ?_ (by rw[sizeLine_eq];omega))
 have hoL:(h'.push (seqObj "list" its.toArray 0)).get? h'.objs.size=some (seqObj "list" its.toArray 0):=Heap.get?_push_size _ rfl
 refine wpAny_bind (wpAny_holding (wpAny_call_entry slot_list_sort ⟨_,hoL,rfl⟩ entry_list_sort (jN hoL (by omega) (sS I.hok (fun b o e=>Heap.get?_push_of_some _ (hk' b o e)) ra r) nd (by omega) fun z hz=>⟨_,rfl,?_⟩) (args_list_sort _)))
 refine wpAny_pure ⟨_,rfl,?_⟩
 obtain⟨e,he⟩:=sortedHeap_at (out:=List.toArray (z.map fun i=>its.getD i Value.none)) hoL
 have hfr:s.heap.get? h'.objs.size=none:=by
  cases e:s.heap.get? h'.objs.size with
  |none=>rfl
  |some o=>exact absurd (Heap.lt_size (hk' _ _ e)) (Nat.lt_irrefl _)
 have kk:∀b o,s.heap.get? b=some o->(sortedHeap (h'.push (seqObj "list" its.toArray 0)) h'.objs.size its (List.toArray (z.map fun i=>its.getD i Value.none))).get? b=some o:=fun b o eb=>by
  have hb:=hk' b o eb
  have hlt:b<h'.objs.size:=Heap.lt_size hb
  rw[sortedHeap_old (Nat.ne_of_lt hlt) (by rw[size_push'];exact Nat.lt_succ_of_lt hlt)]
  exact Heap.get?_push_of_some _ hb
 have hzl:z.length=ys.length:=by have:=hz.1.length_eq;rw[List.length_range]at this;omega
 refine⟨.ref h'.objs.size,_,I.laidAt (o:= .lst (z.map fun i=>ys.getD i .non)) kk hfr ⟨?_,z.map fun i=>its.getD i Value.none,e,mH r z fun i hi=> ?_,by simpa[seqObj]using he⟩,rfl,q _ z (I.hok.nowhere hfr) hz⟩
 ·rw[List.length_map,hzl,sizeLine_eq];omega
 ·have:=List.mem_range.mp (hz.1.mem_iff.mp hi)
  omega
end
end L2
namespace L2
open PySem PySem.Spec PyProof.Rows
section
variable {prog:Program} {w:World} {A:Around} {E:Value->Shared->Prop} {s:Shared}
theorem qx {I:Addr} {fp wr:List Addr} {items:Array Value} {St:Nat->Heap->Prop} (W:Walks prog w A I fp wr items.size (fun i v=>items[i]? =some v) St):∀(n i:Nat) (s:Shared) (Q:List Value->Shared->Prop),St i s.heap->i+n<=items.size->
  (∀(h':Heap) (tk:Nat),St (i+n) h'->(∀b o,b∉wr->s.heap.get? b=some o->h'.get? b=some o)->Q ((items.toList.drop i).take n) {s with heap:=h',toks:=tk})->wpAny (model prog w) A (draw (.ref I) n) Q E s
 |0,i,s,Q,st,hn,k=>by
  refine wpAny_pure ?_
  have:=k s.heap s.toks st fun _ _ _ e=>e
  rw[List.take_zero]at this
  exact this
 |n+1,i,s,Q,st,hn,k=>by
  unfold draw
  refine wpAny_bind (W.item i s _ E (by omega) st fun v h' tk hv st' kp=> ?_)
  refine wpAny_bind (wpAny_holding (qx W n (i+1) _ _ st' (by omega) fun h2 tk2 st2 kp2=>wpAny_pure ?_))
  have e:(items.toList.drop i).take (n+1)=v::(items.toList.drop (i+1)).take n:=by
   obtain⟨hl,he⟩:=Array.getElem?_eq_some_iff.mp hv
   rw[List.drop_eq_getElem_cons (by simpa using hl),List.take_succ_cons]
   simp[he]
  have:=k h2 tk2 (by rw[show i+(n+1)=i+1+n by omega];exact st2) fun b o hb e=>kp2 b o hb (kp b o hb e)
  rw[e]at this
  exact this
theorem mI {l:Addr} {items:Array Value} {Q:List Value->Shared->Prop} (hA:A.handled=none) (hl:s.heap.IsList l items)
  (k:∀(h':Heap) (tk:Nat),(∀b o,b≠s.heap.objs.size->s.heap.get? b=some o->h'.get? b=some o)->Q items.toList {s with heap:=h',toks:=tk}):wpAny (model prog w) A (unpackItems (.ref l) items.size none) Q E s:=by
 have hlt:l<s.heap.objs.size:=by obtain⟨o,ho,_⟩:=id hl;exact Heap.lt_size ho
 have ty:s.TypeIs (.ref l) "list":=by obtain⟨o,ho,hc,_⟩:=id hl;exact⟨o,ho,hc⟩
 unfold unpackItems notIterableAtAll
 refine wpAny_bind (wpAny_bind (wpAny_specialOf ty PySem.F.slot_list_iter.lookup ?_))
 refine wpAny_pure ?_
 refine wpAny_bind (wpAny_holding (wpAny_pyIter_list hl ?_))
 have W:=Walks.list (prog:=prog) (w:=w) (A:=A) hA s.heap.objs.size l (Nat.ne_of_lt hlt) items
 refine wpAny_bind (wpAny_holding (qx W items.size 0 _ _ ⟨⟨_,Heap.get?_push_size _ rfl,rfl,rfl⟩,hl.push _⟩ (by omega) fun h' tk st kp=> ?_))
 have e:((items.toList.drop 0).take items.size)=items.toList:=by rw[List.drop_zero];exact List.take_of_length_le (by simp)
 rw[e]
 rw[if_neg (by simp)]
 rw[Nat.zero_add]at st
 refine wpAny_bind (wpAny_holding (W.done _ _ E st fun h2 tk2 kp2=> ?_))
 refine wpAny_pure (k h2 tk2 fun b o hb eb=> ?_)
 have nb:b∉[s.heap.objs.size]:=fun z=>hb (List.mem_singleton.mp z)
 exact kp2 b o nb (kp b o nb (Heap.get?_push_of_some _ eb))
theorem lI {env:Env} {elts:List Expr} {x1:Nat} {pos:Pos} {l:Addr} {items:Array Value} {Q:Unit->Shared->Prop} (hA:A.handled=none) (hl:s.heap.IsList l items) (hn:(assignEach elts env).length=items.size) (hst:(assignEach elts env).findIdx? (·.1)=none)
  (k:∀(h':Heap) (tk:Nat),(∀b o,b≠s.heap.objs.size->s.heap.get? b=some o->h'.get? b=some o)->wpAny (model prog w) A (assignInOrder ((assignEach elts env).map (·.2)) items.toList) Q E {s with heap:=h',toks:=tk}):
  wpAny (model prog w) A (assign (.Tuple elts x1 pos) env (.ref l)) Q E s:=by
 rw[assign_Tuple]
 refine wpAny_bind (wpAny_standAt ?_)
 unfold unpack
 rw[hst,hn]
 exact wpAny_bind (wpAny_holding (mI hA hl fun h' tk kp=>k h' tk kp))
end
section
variable {X:Cx} {pos:Pos}
def HL (K:PySem.W.Frag) (n:Nat) (t:yF):TG:=fun v σ H Q=>∃a xs,v= .ref a/\eC K H a xs/\xs.length=n/\t xs σ H Q
theorem zr {es:List Expr} {k:Nat} {t:yF} {n:Nat} (hc:X.calm=true) (h:yG X es t) (hn:(assignEach es X.env).length=n:=by rfl) (hst:(assignEach es X.env).findIdx? (·.1)=none:=by rfl):PG X (.Tuple es k pos) (HL X.K n t):=by
 intro pins s σ H v u Q I r hw
 obtain⟨a,xs,e1,hq,hl,hw⟩:=hw
 subst e1
 cases r
 obtain⟨its,rv,ht,hz⟩:=I.list hq
 refine lI (I.ok.hd hc) ht.isList (by simp[hn,<-hl,rv.length]) hst fun h' tk hx=> ?_
 have I1:aF X pins σ H {s with heap:=h',toks:=tk}:=I.kept (t':=tk) fun b o e=>hx b o (Nat.ne_of_lt (Heap.lt_size e)) e
 exact h pins _ σ H xs _ Q I1 (by simpa using rv) hw
def HM (K:PySem.W.Frag):V->Option Int->Option Int->Hp->VK->Prop:=fun x lo hi H Q=>∃a xs,x= .ref a/\h_ K H a xs/\(HT.dE xs.length 0 lo=0/\HT.dE xs.length xs.length hi=xs.length)/\Q (.ref a) H
theorem kB {prog:Program} {w:World} {A:Around} {E:Value->Shared->Prop} {s:Shared} {t sl:Addr} {items:Array Value} {vl vu:Value} {lo hi:Option Int} {Q:Value->Shared->Prop} (ht:IsTup s.heap t items) (hs:s.heap.IsSliceOf sl vl vu .none) (pl:IsPart vl lo) (pu:IsPart vu hi)
  (hw:HT.dE items.size 0 lo=0/\HT.dE items.size items.size hi=items.size) (h:Q (.ref t) s):wpAny (model prog w) A (getItem (.ref t) (.ref sl)) Q E s:=by
 obtain⟨os,hos,hcs,hds⟩:=id hs
 have hTs:s.TypeIs (.ref sl) "slice":=⟨os,hos,hcs⟩
 unfold getItem
 try with_reducible refine wpAny_holding ?_
 first|refine wpAny_bind (wpAny_pure ?_)|skip
 refine wpAny_bind (wpAny_sequenceKey ht.typeIs (by decide) ?_)
 refine wpAny_bind (wpAny_callSpecial?_slot (name:=Str.ofString "__getitem__") ht.typeIs PyProof.Rows.slot_tuple_getitem
  (wpAny_call_entry PyProof.Rows.slot_tuple_getitem ht.typeIs entry_tuple_getitem ?_ (args_tuple_getitem _ _)))
 show wpAny _ _ (Builtin.Tuple.tupleItemsOf (.ref t)>>=_) _ _ s
 refine wpAny_bind (tupleItemsOf_ ht ?_)
 refine wpAny_bind (wpAny_typeOf hTs ?_)
 rw[if_pos (by decide)]
 refine wpAny_bind (HT.iS hs pl pu ?_)
 show wpAny _ _ (if (((HT.dE items.size 0 lo:Nat):Int)==0&&(1:Int)==1&&(HT.dE items.size items.size hi - HT.dE items.size 0 lo)==items.size)=true then _ else _) _ _ s
 rw[if_pos (by rw[hw.1,hw.2];simp)]
 unfold Builtin.Tuple.tupleIsExact
 refine wpAny_bind (wpAny_bind (wpAny_typeOf ht.typeIs (wpAny_pure ?_)))
 rw[if_pos (by decide)]
 refine wpAny_bind (wpAny_rule ?_)
 exact PySem.W.nd_pure ⟨_,rfl,wpAny_pure h⟩
theorem Ca:Dk X (HM X.K):=by
 intro pins s σ H x v vl vu lo hi sl Q I rx hs pl pu h
 obtain⟨a,xs,rfl,hx,hw,q⟩:=h
 cases rx
 obtain⟨its,r,ht,hz⟩:=I.tuple hx
 have hlen:its.toArray.size=xs.length:=by rw[List.size_toArray];exact r.length.symm
 refine⟨"tuple",_,PyProof.Rows.slot_tuple_getitem.lookup,ht.typeIs,?_⟩
 exact kB ht hs pl pu (by rw[hlen];exact hw) ⟨.ref a,H,I,rfl,q⟩
theorem sT (l b:Addr) (items items2:Array Value) (n n2:Nat) (dd dd2:Option Addr) (sl sl2:Array (Option Value)) (h0:items.isEmpty=true):
  Meets (Builtin.«tuple.__add__» {pos:=[Value.ref l,Value.ref b]}) fun x R s=>
    s.heap.get? l=some {cls:=Value.type "tuple",dict:=dd,data:=Data.seq items n,slots:=sl}/\
     s.heap.get? b=some {cls:=Value.type "tuple",dict:=dd2,data:=Data.seq items2 n2,slots:=sl2}/\R (Except.ok (Flow.ret (Value.ref b))) s:=by
 intro prog w A R s ⟨g1,g2,q⟩
 have t1:IsTup s.heap l items:=⟨_,g1,rfl,n,rfl⟩
 have t2:IsTup s.heap b items2:=⟨_,g2,rfl,n2,rfl⟩
 unfold Builtin.«tuple.__add__»
 refine wpAny_bind (wpAny_pure (a:=(Value.ref l,[Value.ref b])) ?_)
 dsimp only
 refine wpAny_bind (wpAny_isInstance t2.typeIs sub_tuple_tuple ?_)
 rw[if_neg (by decide)]
 refine wpAny_bind (tupleItemsOf_ t1 (wpAny_bind (tupleItemsOf_ t2 ?_)))
 rw[if_pos h0]
 unfold Builtin.Tuple.tupleIsExact
 refine wpAny_bind (wpAny_bind (wpAny_typeOf t2.typeIs (wpAny_pure ?_)))
 rw[if_pos (by decide)]
 exact wpAny_bind (wpAny_rule (PySem.W.nd_pure q))
def Dr (K:PySem.W.Frag):R2:=fun x y H Q=>∃a b ys,x= .ref a/\y= .ref b/\h_ K H a []/\h_ K H b ys/\Q (.ref b) H
theorem Cb:kh X (binaryOp .Add) (Dr X.K):=by
 intro pins s σ H x y v u Q I rx ry h
 obtain⟨a,b,ys,rfl,rfl,ha,hb,q⟩:=h
 cases rx
 cases ry
 obtain⟨its,r1,p1,_⟩:=I.tuple ha
 obtain⟨its2,r2,p2,_⟩:=I.tuple hb
 cases r1
 obtain⟨⟨cls,dd,data,sl⟩,ho,hc,n,hd⟩:=id p1
 obtain⟨⟨cls2,dd2,data2,sl2⟩,ho2,hc2,n2,hd2⟩:=id p2
 simp only at hc hd hc2 hd2
 subst hc hd hc2 hd2
 exact concat_meets ⟨_,ho,rfl⟩ ⟨_,ho2,rfl⟩ noFill_tuple_add seq_tuple_add PySem.F.slot_tuple_add PySem.F.entry_tuple_add (PySem.F.args_tuple_add_2 _ _)
   (sT a b _ _ n n2 dd dd2 sl sl2 rfl) ⟨ho,ho2,⟨.ref b,H,I,rfl,q⟩⟩
end
end L2
namespace L2
open PySem PySem.Spec PyProof.Rows
section
variable {X:Cx}
end
end L2
namespace L2
open PySem PySem.Spec PyProof.Rows
section
variable {X:Cx} {e:Expr} {te:TE} {p1 p2 pos pos2:Pos}
end
end L2
namespace L2
open PySem PySem.Spec PyProof.Rows
theorem bS.there {P:Program} {w:World} {H:Hp} {h:Heap} {a:Addr} {o:HO} (x:bS P w H h a o):∃ob,h.get? a=some ob:=by
 cases o with
 |lst xs=>obtain⟨_,_,_,_,e⟩:=x;exact⟨_,e⟩
 |tup xs=>obtain⟨_,_,_,o,e,_⟩:=x;exact⟨_,e⟩
 |dK kvs=>obtain⟨_,_,_,_,o,_,_,e,_⟩:=x;exact⟨_,e⟩
 |dT kvs=>obtain⟨_,_,_,_,o,_,_,e,_⟩:=x;exact⟨_,e⟩
 |set S n=>obtain⟨o,_,_,_,e,_⟩:=x;exact⟨_,e⟩
 |ins C dx fs=>obtain⟨_,_,_,e,_⟩:=x;exact⟨_,e⟩
 |own y=>obtain⟨_,e⟩:=x;exact⟨_,e⟩
 |xd fs=>obtain⟨_,⟨_,_,_,e,_⟩,_⟩:=x;exact⟨_,e⟩
 |rng lo hi=>obtain⟨_,_,_,e⟩:=x;exact⟨_,e⟩
 |frz ob u=>obtain⟨e,_⟩:=x;exact⟨_,e⟩
 |tbl ps=>exact⟨_,(show h.get? a=some _ from x)⟩
 |met f y=>exact⟨_,(show h.get? a=some _ from x)⟩
 |ext φ=>obtain⟨_,⟨_,e⟩,_⟩:=x;exact⟨_,e⟩
theorem jA.none_of {P:Program} {w:World} {H:Hp} {h:Heap} {a:Addr} (x:jA P w H h) (e:h.get? a=none):H a=none:=by
 cases q:H a with
 |none=>rfl
 |some o=>obtain⟨ob,z⟩:=(x a o q).there;rw[e]at z;cases z
structure uR (X:Cx) (pins:List (Addr×Obj)) (H:Hp) (b:Addr):Prop where
 s0:X.s₀.heap.get? b=none
 no:H b=none
 pin:∀p∈X.pn++pins,p.1≠b
structure Ew (X:Cx) (pins:List (Addr×Obj)) (H:Hp) (h:Heap) (a T:Addr) (fl:Value):Prop where
 new:uR X pins H T
 ne:T≠a
 at_:∃oT ts,h.get? T=some oT/\oT.data= .fields ts/\ts[3]? =some fl
structure Fl (X:Cx) (pins:List (Addr×Obj)) (H:Hp) (h:Heap) (a:Addr) (cls:Value):Prop where
 new:uR X pins H a
 at_:∃oe vs,h.get? a=some oe/\oe.cls=cls/\oe.data= .fields vs/\(vs[1]? =some .none\/∃T fl,vs[1]? =some (.ref T)/\Ew X pins H h a T fl/\(fl= .none\/fl=rawInt X.env.locals))
structure Ft (X:Cx) (pins:List (Addr×Obj)) (H:Hp) (h:Heap) (a:Addr) (cls fl:Value):Prop where
 new:uR X pins H a
 at_:∃oe vs,h.get? a=some oe/\oe.cls=cls/\oe.data= .fields vs/\∃T,vs[1]? =some (.ref T)/\Ew X pins H h a T fl
abbrev Gh (X:Cx) (pins:List (Addr×Obj)) (H:Hp) (h:Heap) (a:Addr) (cls:Value):Prop:=Ft X pins H h a cls .none
theorem Ft.flo {X:Cx} {pins:List (Addr×Obj)} {H:Hp} {h:Heap} {a:Addr} {cls fl:Value} (f:Ft X pins H h a cls fl) (hf:fl= .none\/fl=rawInt X.env.locals):Fl X pins H h a cls:=
 let ⟨oe,vs,h1,h2,h3,T,h4,h5⟩:=f.at_;⟨f.new,oe,vs,h1,h2,h3, .inr ⟨T,fl,h4,h5,hf⟩⟩
theorem Ft.fl {X:Cx} {pins:List (Addr×Obj)} {H:Hp} {h:Heap} {a:Addr} {cls:Value} (f:Ft X pins H h a cls .none):Fl X pins H h a cls:=f.flo (.inl rfl)
section
variable {X:Cx} {pins:List (Addr×Obj)} {σ:St} {H H':Hp} {s s':Shared} {a:Addr} {cls:Value}
structure iU (X:Cx):Prop where
 st:X.stack=X.env::X.outer
 fr:X.env.frame=some X.env.locals
 ex:X.ex=[]
theorem uR.of (I:aF X pins σ H s) (p:iU X) {b:Addr} (h:s.heap.get? b=none) (hH:H' b=none):uR X pins H' b:=by
 refine⟨?_,hH,fun q hq z=> ?_⟩
 ·cases e:X.s₀.heap.get? b with
  |none=>rfl
  |some o=>
   obtain⟨o',e'⟩:=I.base.there b o e (by rw[p.ex];simp)
   rw[h]at e';cases e'
 ·have:=(I.pin q hq).1
  rw[z,h]at this;cases this
def vZ (h B:Heap) (a:Addr) (cls fl:Value):Prop:=∃oe vs T oT ts,h.get? a=some oe/\oe.cls=cls/\oe.data= .fields vs/\vs[1]? =some (.ref T)/\B.get? T=none/\T≠a/\h.get? T=some oT/\oT.data= .fields ts/\ts[3]? =some fl
theorem _root_.PySem.Heap.TracedAtW.tl {h B:Heap} {a:Addr} {cls a0 fl:Value} (t:h.TracedAtW B a cls a0 fl):vZ h B a cls fl:=
 let ⟨oe,vs,T,oT,ts,g1,g2,g3⟩:=t;⟨oe,vs,T,oT,ts,g1,g2.1,g3⟩
theorem qy (I:aF X pins σ H s) (p:iU X) (fl:Fl X pins H s.heap a cls):∃(B:Heap) (oe:Obj) (vs:Array Value),s.heap.get? a=some oe/\oe.cls=cls/\oe.data= .fields vs/\s.heap.FunFrames B (X.env::X.outer)/\B.StaysIn s.heap/\B.get? a=none/\
  (vs[1]? =some .none\/∃T oT ts fl,vs[1]? =some (.ref T)/\B.get? T=none/\T≠a/\s.heap.get? T=some oT/\oT.data= .fields ts/\ts[3]? =some fl/\(fl= .none\/fl=rawInt X.env.locals))/\
  ∀h' fl,B.StaysIn h'->vZ h' B a cls fl->s.heap.UpToSlots h'->aF X pins σ H {s with heap:=h'}/\Ft X pins H h' a cls fl:=by
 obtain⟨oe,vs,ge,gc,gd,gt⟩:=fl.at_
 obtain⟨rest,hrest,hnext⟩:∃rest:List Addr,(∀b∈rest,uR X pins H b/\∃oT ts,s.heap.get? b=some oT/\oT.data= .fields ts)/\(vs[1]? =some .none\/∃T fl,vs[1]? =some (.ref T)/\Ew X pins H s.heap a T fl/\(fl= .none\/fl=rawInt X.env.locals)/\T∈rest):=by
  rcases gt with g|⟨T,fl,g,t,hfl⟩
  ·exact⟨[],(fun b hb=>by cases hb), .inl g⟩
  ·obtain⟨oT,ts,e1,e2,_⟩:=t.at_
   exact⟨[T],fun b hb=>by rw[List.mem_singleton.mp hb];exact⟨t.new,oT,ts,e1,e2⟩, .inr ⟨T,fl,g,t,hfl,List.mem_singleton.mpr rfl⟩⟩
 have fsub:∀b,b∈X.fs->b∈nT X.stack:=fun b hb=>by
  rw[p.st]
  unfold nT
  rw[List.filterMap_cons,p.fr]
  exact List.mem_cons_of_mem _ hb
 have lsub:X.env.locals∈nT X.stack:=by
  rw[p.st]
  unfold nT
  rw[List.filterMap_cons,p.fr]
  exact List.mem_cons_self
 have chN:∀b∈a::rest,uR X pins H b/\∃oT ts,s.heap.get? b=some oT/\oT.data= .fields ts:=fun b hb=>by
  rcases List.mem_cons.mp hb with rfl|hb
  ·exact⟨fl.new,oe,vs,ge,gd⟩
  ·exact hrest b hb
 have frD:∀b∈nT X.stack,∃o,s.heap.get? b=some o/\∀vs:Array Value,o.data≠Data.fields vs:=fun b hb=>(I.stack.mem hb).2
 have apart:∀b∈a::rest,b∉nT X.stack:=fun b hb z=>by
  obtain⟨_,o,ts,e1,e2⟩:=chN b hb
  obtain⟨o',e3,e4⟩:=frD b z
  rw[e1]at e3;cases e3
  exact e4 ts e2
 let hid:List Addr:=(a::rest)++nT X.stack
 let B:Heap:=PySem.W.hideAll s.heap hid
 have ff:s.heap.FunFrames B X.stack:=PySem.W.funFrames_hide I.stack fun env he b hb=>List.mem_append_right _ (List.mem_filterMap.mpr ⟨env,he,hb⟩)
 have hB:B.StaysIn s.heap:=fun b o e=>PySem.W.of_hideAll _ e
 have hBa:B.get? a=none:=PySem.W.hideAll_none _ (List.mem_append_left _ List.mem_cons_self)
 have ff':s.heap.FunFrames B (X.env::X.outer):=by rw[<-p.st];exact ff
 refine⟨B,oe,vs,ge,gc,gd,ff',hB,hBa,?_,fun h' fl' st ⟨oe',vs',T',oT',ts',g1,g2,g3,g4,g5,g6,g7,g8,g9⟩ up=> ?_⟩
 ·rcases hnext with g|⟨T,fl,g,t,hfl,hT⟩
  ·exact .inl g
  ·obtain⟨oT,ts,e1,e2,e3⟩:=t.at_
   exact .inr ⟨T,oT,ts,fl,g,PySem.W.hideAll_none _ (List.mem_append_left _ (List.mem_cons_of_mem _ hT)),t.ne,e1,e2,e3,hfl⟩
 ·have inB:∀b o,s.heap.get? b=some o->b∉a::rest->b∉nT X.stack->h'.get? b=some o:=fun b o e n1 n2=>
   st b o (PySem.W.hideAll_get _ e fun z=>(List.mem_append.mp z).elim n1 n2)
  have newT:uR X pins H T':=by
   by_cases hr:T'∈rest
   ·exact(hrest T' hr).1
   ·have hn:s.heap.get? T'=none:=by
     cases e:s.heap.get? T' with
     |none=>rfl
     |some o=>
      by_cases hf:T'∈nT X.stack
      ·obtain⟨o',e3,e4⟩:=frD T' hf
       obtain⟨sl,e5⟩:=up T' o' e3 e4
       rw[g7]at e5;cases e5
       exact absurd g8 (e4 ts')
      ·have:=PySem.W.hideAll_get hid (b:=T') e fun z=>(List.mem_append.mp z).elim (fun q=>(List.mem_cons.mp q).elim g6 hr) hf
       rw[g5]at this;cases this
    exact uR.of I p hn (I.hok.none_of hn)
  refine⟨I.step (g':=s.gens) (d':=s.drawn) (t':=s.toks) (ch:=a::rest) (fun b hb=> ?_) (fun b o n1 n2 n3 e _=> ?_) (fun b o _ hb n3 e _=> ?_) (fun _ _ _ _ n=>n) (fun b o n e=> ?_) (fun _ _ e=>e) (fun _ _ _ e=>e) (fun b ps e=>⟨#[],by rw[e];simp⟩) (fun m hm=> ?_) (fun b u e=> ?_) I.bare,
   ⟨fl.new,oe',vs',g1,g2,g3,T',g4,newT,g6,oT',ts',g7,g8,g9⟩⟩
  ·obtain⟨n,o,ts,e1,e2⟩:=chN b hb
   refine⟨.inr n.s0,fun z=>apart b hb (by rw[z];exact lsub),fun x c hc z=> ?_,n.pin⟩
   obtain⟨v,o',e3,e4⟩:=I.cell x c hc
   rw[z,e1]at e3;cases e3
   rw[e2]at e4;cases e4
  ·exact inB b o e n3 fun z=>(List.mem_cons.mp (I.stkSub b z)).elim n1 n2
  ·obtain⟨o',e3,e4⟩:=frD b (fsub b hb)
   rw[e]at e3;cases e3
   exact up b o e e4
  ·by_cases hf:b∈nT X.stack
   ·obtain⟨o',e3,e4⟩:=frD b hf
    rw[e]at e3;cases e3
    obtain⟨sl,e5⟩:=up b o e e4
    exact⟨_,e5⟩
   ·exact⟨o,inB b o e n hf⟩
  ·obtain⟨o,es,ep,ho,hd,r⟩:=hm
   obtain⟨sl,e5⟩:=up _ o ho fun vs z=>by rw[hd]at z;cases z
   exact⟨_,es,ep,e5,hd,r⟩
  ·have nh:∀c v,H c=some v->c∉a::rest/\c∉nT X.stack:=fun c v hc=>⟨fun z=>(by have:=(chN c z).1.no;rw[hc]at this;cases this),fun z=>(by have:=I.stkFree c z;rw[hc]at this;cases this)⟩
   refine(I.hok b u e).stay (fun c v hc q=> ?_) (fun _ q=>q) fun _ _ q=>q
   rcases hc with z|z
   ·rw[z]at q ⊢;exact inB b v q (nh b u e).1 (nh b u e).2
   ·exact inB c v q (nh c _ z).1 (nh c _ z).2
theorem zt {vs:Array Value} {v:Value} (h:vs[1]? =some v):1<vs.size/\∃a0,vs[0]? =some a0:=by
 have size1:1<vs.size:=by
  by_cases z:1<vs.size
  ·exact z
  ·rw[Array.getElem?_eq_none (Nat.le_of_not_lt z)]at h;cases h
 exact⟨size1,vs[0]'(by omega),by simp⟩
theorem sU {Q:Unit->Shared->Prop} {E:Value->Shared->Prop} (I:aF X pins σ H s) (p:iU X) (fl:Fl X pins H s.heap a cls)
  (k:∀h',aF X pins σ H {s with heap:=h'}->Gh X pins H h' a cls->Q () {s with heap:=h'}):
  wpAny (model X.prog X.w) X.A (noteFrame (.ref a) X.env) (fun _ s₂=>wpAny (model X.prog X.w) X.A (setFlight (.ref a) none) Q E s₂) E s:=by
 obtain⟨B,oe,vs,ge,gc,gd,ff,hB,hBa,hn,hk⟩:=qy I p fl
 have hfr:X.A.frames=some (X.env::X.outer):=by rw[I.ok.frames,p.st]
 rcases hn with g|⟨T,oT,ts,f,g1,g2,g3,g4,g5,g6,g7⟩
 ·obtain⟨size1,a0,h0⟩:=zt g
  unfold noteFrame
  rw[p.fr]
  refine wpAny_bind (wpAny_field (o:=oe) ge (by rw[gd]) g ?_)
  refine wpAny_newEntryW (head:= .none) (hadNext:=false) hfr ff p.fr ge hB hBa gd size1 h0 fun h' z_=> ?_
  obtain⟨st,_,tr,up⟩:=z_
  rw[gc]at tr
  obtain⟨I',f'⟩:=hk h' _ st tr.at.tl up
  exact k h' I' f'
 ·obtain⟨size1,a0,h0⟩:=zt g1
  rcases g7 with rfl|rfl
  ·refine wpAny_looks_onW (cls:=cls) (a0:=a0) hfr p.fr ⟨hB,hBa,ff,oe,vs,T,oT,ts,ge,⟨gc,h0⟩,gd,g1,g2,g3,g4,g5,g6⟩ fun h1 held u1=> ?_
   refine wpAny_landsW held fun h2 ⟨st,_,_,tr⟩ u2=> ?_
   obtain⟨I',f'⟩:=hk h2 _ st tr.at.tl (u1.trans u2)
   exact k h2 I' f'
  ·have tr0:s.heap.TracedAtW B a cls a0 (rawInt X.env.locals):=⟨oe,vs,T,oT,ts,ge,⟨gc,h0⟩,gd,g1,g2,g3,g4,g5,g6⟩
   refine wpAny_noteFrame_againW p.fr tr0 ?_
   refine wpAny_landsW (base:=B) (l:=X.env::X.outer) (L:=X.env.locals) ⟨hB,hBa,ff,tr0⟩ fun h2 ⟨st,_,_,tr⟩ u2=> ?_
   obtain⟨I',f'⟩:=hk h2 _ st tr.at.tl u2
   exact k h2 I' f'
theorem zu {Q:Unit->Shared->Prop} {E:Value->Shared->Prop} (I:aF X pins σ H s) (p:iU X) (fl:Fl X pins H s.heap a cls)
  (k:∀h',aF X pins σ H {s with heap:=h'}->Gh X pins H h' a cls->Q () {s with heap:=h'}):wpAny (model X.prog X.w) X.A (leaving X.env (.ref a)) Q E s:=
 wpAny_bind (sU I p fl k)
def IB (g:Heap) (H:Hp) (h:Heap) (a:Addr) (cls:Value):Prop:=g.get? a=none/\H a=none/\∃oe vs T oT ts,h.get? a=some oe/\oe.cls=cls/\oe.data= .fields vs/\vs[1]? =some (.ref T)/\g.get? T=none/\H T=none/\T≠a/\
 h.get? T=some oT/\oT.data= .fields ts/\ts[3]? =some .none
def nN (P:Program) (w:World):uD:=fun outer H s E e s'=>∃a cls H',e= .ref a/\s'.os=s.os/\AllBare s'.gens/\Un (nT outer) [] H H' s.heap s'.heap/\jA P w H' s'.heap/\IB s.heap H' s'.heap a cls/\E cls (some a) H'
theorem Ex {E:XK} {e:Value} (I:aF X pins σ H s) (p:iU X) (h:nN X.prog X.w X.stack H s E e s'):∃a cls H',e= .ref a/\aF X pins σ H' s'/\Fl X pins H' s'.heap a cls/\E cls (some a) H':=by
 obtain⟨a,cls,H',rfl,os,bare,un,hok,⟨n1,n2,oe,vs,T,oT,ts,g1,g2,g3,g4,g5,g6,g7,g8,g9,g10⟩,q⟩:=h
 refine⟨a,cls,H',rfl,I.call' os un hok bare (fun b hb=>by cases hb),⟨uR.of I p n1 n2,oe,vs,g1,g2,g3, .inr ⟨T, .none,g4,⟨uR.of I p g5 g6,g7,oT,ts,g8,g9,g10⟩, .inl rfl⟩⟩,q⟩
theorem oH {CX:uD} {P:Program} {w:World} {K:PySem.W.Frag} {mg:Str->Option Value} {base:Heap} {N:List Str} {qual:Str} {scope:Scope} {f:Addr} {cd:Value} {A:Around} {outer:List Env} {s:Shared} {H:Hp} {E:XK}:
  iU (jH CX P w K mg base N qual scope f cd A outer s H E):=⟨rfl,rfl,rfl⟩
theorem uS {P:Program} {w:World} {K:PySem.W.Frag} {mg:Str->Option Value} {base:Heap} {N:List Str} {qual:Str} {scope:Scope} {f:Addr} {cd:Value} {A:Around} {outer:List Env} {s0:Shared} {H0:Hp} {E:XK}
  (I:aF (jH (nN P w) P w K mg base N qual scope f cd A outer s0 H0 E) pins σ H s) (fl:Fl (jH (nN P w) P w K mg base N qual scope f cd A outer s0 H0 E) pins H s.heap a cls) (h:E cls (some a) H):
  (jH (nN P w) P w K mg base N qual scope f cd A outer s0 H0 E).xe (.ref a) s:=by
 refine zu I oH fl fun h' I' f'=> ?_
 obtain⟨oe,vs,g1,g2,g3,T,g4,t⟩:=f'.at_
 obtain⟨oT,ts,g5,g6,g7⟩:=t.at_
 exact⟨a,cls,H,rfl,I'.os,I'.bare,I'.base,I'.hok,⟨f'.new.s0,f'.new.no,oe,vs,T,oT,ts,g1,g2,g3,g4,t.new.s0,t.new.no,t.ne,g5,g6,g7⟩,h⟩
end
end L2
namespace L2
open PySem PySem.Spec PyProof.Rows
theorem dF {α:Type} {M:Model} {A:Around} {t:Sem α} {r:α} {Q:α->Shared->Prop} {E:Value->Shared->Prop} {s:Shared} (l:PySem.W.Looks M s.heap t r) (q:Q r s):wpAny M A t Q E s:=l A Q E s (fun _ _ e=>e) q
theorem kZ {M:Model} {h:Heap} {x C:Addr} {ox:Obj} (e:h.get? x=some ox) (hc:ox.cls= .ref C):PySem.W.Looks M h (typeOf (.ref x)) (.ref C):=fun A Q E s k q=>
 wpAny_bind (wpAny_loadPart (k _ _ e) (wpAny_pure (by rw[hc];exact q)))
theorem uT {prog:Program} {w:World} {A:Around} {s:Shared} {K:PySem.W.Frag} {x C:Addr} {R:Result->Shared->Prop} {ox:Obj} {tp:Value} (KX:K.In s.heap) (e:s.heap.get? x=some ox) (hc:ox.cls= .ref C) (hm:PySem.W.mroIn K C (.type "object")=some true)
  (q:R (.ok (.ret (.ref C))) s):codeAny (model prog w) A (.call (.builtin "getset_descriptor.__get__") {pos:=[.builtin "object.__class__", .ref x,tp]}) R s:=by
 refine codeAny_call_builtin PySem.W.KF.slot_gs.plain PySem.W.KF.entry_gs ?_
 refine PySem.W.KF.slot_gs.check _ _ _ _ _ _ _ _ PySem.W.KF.type_class (PySem.W.KF.args_gs _ _ _) ?_
 show wpAny _ _ (Builtin.Getset_descriptor.descrGet _) _ _ _
 unfold Builtin.Getset_descriptor.descrGet
 rw[PySem.W.dga_obj]
 refine wpAny_bind (wpAny_pure ?_)
 dsimp only
 unfold Builtin.Getset_descriptor.descrGetter
 dsimp only
 unfold Builtin.Getset_descriptor.descrCheckInstance Builtin.Getset_descriptor.descrNameAndClass
 dsimp only
 rw[PySem.W.KF.owner_class]
 refine wpAny_bind (wpAny_bind (wpAny_pure ?_))
 refine wpAny_bind (wpAny_bind (dF (kZ e hc) (dF (PySem.W.looks_mroIn KX hm) ?_)))
 refine wpAny_pure ?_
 refine PySem.W.nd_pure ⟨Code.quiet_builtin _ (by decide+kernel),codeAny_builtin PySem.W.KF.entry_class ?_⟩
 show wpAny _ _ (do let t<-shownTypeOf (.ref x);ret t) _ _ _
 unfold shownTypeOf
 refine wpAny_bind (wpAny_bind (dF (kZ e hc) ?_))
 rw[if_neg (by intro z;exact absurd z (by simp))]
 exact wpAny_pure (PySem.W.nd_pure q)
theorem Cd {prog:Program} {w:World} {A:Around} {E:Value->Shared->Prop} {s:Shared} {K:PySem.W.Frag} {x C:Addr} {ox:Obj} {Q:Option Value->Shared->Prop} (KX:K.In s.heap) (e:s.heap.get? x=some ox) (hc:ox.cls= .ref C)
  (h1:PySem.W.findIn K (.ref C) "__getattribute__"=some (some (.builtin "BaseException.__getattribute__"))) (h2:PySem.W.findIn K (.ref C) "__getattr__"=some none) (h3:PySem.W.findIn K (.ref C) "__class__"=some (some (.builtin "object.__class__")))
  (h4:PySem.W.specialIn K (.builtin "object.__class__") "__get__"=some (some (.builtin "getset_descriptor.__get__"))) (h5:PySem.W.takesIn K (.builtin "object.__class__")=some true) (h6:PySem.W.mroIn K C (.type "object")=some true) (h7:PySem.W.mroIn K C (.type "BaseException")=some true)
  (q:Q (some (.ref C)) {s with toks:=s.toks+1}):wpAny (model prog w) A (getAttr? (.ref x) "__class__") Q E s:=by
 unfold getAttr?
 refine wpAny_bind (wpAny_mkText ?_)
 unfold getAttrBy?
 refine wpAny_bind (wpAny_attempt ?_)
 unfold getAttrBy
 refine wpAny_holding (wpAny_bind (dF (kZ e hc) (wpAny_bind (dF (PySem.W.looks_findIn KX h1) ?_))))
 dsimp only
 rw[if_neg (by rw[show (Value.builtin "BaseException.__getattribute__"==Value.builtin "object.__getattribute__")=false by decide+kernel,Bool.and_false];simp)]
 unfold getAttrByItsOwn hookBefore
 refine wpAny_bind ?_
 rw[if_pos (by rfl)]
 refine dF (PySem.W.looks_findIn KX h2) ?_
 refine wpAny_bind (wpAny_attempt (wpAny_holding ?_))
 unfold callGetattribute
 rw[if_neg (by simp)]
 unfold boundAndCalled
 rw[F.attrBase_ValueError.ga.bind]
 refine wpAny_bind (wpAny_pure ?_)
 dsimp only
 refine wpAny_call (codeAny_call_builtin F.attrBase_ValueError.ga.plain F.entry_bexc_ga ?_)
 show wpAny _ _ (checkBuiltinCall "BaseException.__getattribute__" {pos:=Value.ref x::[Value.str (Str.ofString "__class__") s.toks],kw:=[]}) _ _ _
 refine PySem.W.check_slot (i:="BaseException.__getattribute__") (owner:="BaseException") (n:="__getattribute__") PySem.wpAny_check_ga_own._proof_1_1 PySem.wpAny_check_ga_own._proof_1_2 (fun A Q E s k q=>wpAny_bind (kZ e hc A _ E s k (PySem.W.looks_mroIn KX h7 A _ E s k q))) (F.args_bexc_ga _ _) ?_
 unfold Builtin.«object.__getattribute__»
 refine wpAny_bind (wpAny_pure (a:=(Value.ref x,[Value.str (Str.ofString "__class__") s.toks])) ?_)
 dsimp only
 refine wpAny_bind (wpAny_pure (a:=Str.ofString "__class__") ?_)
 refine wpAny_bind (dF (kZ e hc) ?_)
 refine wpAny_bind ?_
 unfold Builtin.ObjectAttr.find
 refine wpAny_bind (dF (PySem.W.looks_findIn KX h3) ?_)
 refine wpAny_bind ?_
 show wpAny _ _ (specialOf _ _) _ _ _
 refine dF (PySem.W.looks_specialIn KX h4) ?_
 refine wpAny_bind ?_
 show wpAny _ _ (do let b<-Builtin.ObjectAttr.takesStores (Value.builtin "object.__class__");if b=true then pure (some (Value.builtin "getset_descriptor.__get__",Value.builtin "object.__class__"))else pure none) _ _ _
 refine wpAny_bind (dF (PySem.W.looks_takesIn KX h5) ?_)
 rw[if_pos rfl]
 refine wpAny_pure ?_
 dsimp only
 refine wpAny_bind (wpAny_rule (wpAny_pure ?_))
 dsimp only
 unfold Builtin.ObjectAttr.bindTo
 dsimp only
 refine wpAny_bind (wpAny_holding (wpAny_call (uT KX e hc h6 ?_)))
 refine PySem.W.nd_pure ?_
 exact PySem.W.handed_on (by rfl) (wpAny_pure q)
def rH:List Value:=[.type "ValueError", .type "Exception", .type "BaseException", .type "object"]
structure rJ (K:PySem.W.Frag) (C:Addr):Prop where
 exc:∃newId Bn inN bmN,PySem.W.excIn K C rH newId=true/\ExcBaseFacts Bn newId inN bmN/\rH.contains (.type Bn)=true
 ga:PySem.W.findIn K (.ref C) "__getattribute__"=some (some (.builtin "BaseException.__getattribute__"))
 gt:PySem.W.findIn K (.ref C) "__getattr__"=some none
 kc:PySem.W.findIn K (.ref C) "__class__"=some (some (.builtin "object.__class__"))
 sp:PySem.W.specialIn K (.builtin "object.__class__") "__get__"=some (some (.builtin "getset_descriptor.__get__"))
 tk:PySem.W.takesIn K (.builtin "object.__class__")=some true
 mo:PySem.W.mroIn K C (.type "object")=some true
 mb:PySem.W.mroIn K C (.type "BaseException")=some true
 kk:PySem.W.kitCls K (.ref C) (.ref C)=some true
theorem v_ {K:PySem.W.Frag} {h:Heap} {C:Addr} {bmB:List Value} {newId:String} (KX:K.In h) (e:PySem.W.excIn K C bmB newId=true):∃bm N nm q bs hdct sn sub ab col dd k0 k1 k2 k3 k5 mN,
  h.get? C=some (excClassObj nm q C N bs bm hdct sn sub ab col dd k0 k1 k2 k3 k5 newId)/\h.Ns N mN/\mN (Str.ofString "__init__")=none/\OwnTail h bmB bm:=by
 unfold PySem.W.excIn at e
 split at e
 ·split at e
  ·rename_i dd cd sl lk _ _ C' bm k0 k1 k2 k3 n k5 e1 e2
   simp only[Bool.and_eq_true]at e
   obtain⟨⟨⟨⟨⟨a1,a2⟩,a3⟩,a4⟩,a5⟩,a6⟩:=e
   have b1:C'=C:=eq_of_beq a1
   have b2:n=newId:=eq_of_beq a2
   subst b1 b2
   have g:=KX _ _ lk
   have esl:sl= #[k0,k1,k2,k3,some (Value.builtin n),k5]:=by rw[<-Array.toList_inj];exact e2
   have hdel:cd.hasDel=false:=by simpa using a3
   obtain⟨nm,bs,mro,N,q,hd,sn,sb,ab,col,del⟩:=cd
   dsimp only at e1 hdel a4 a5 a6
   subst e1 esl hdel
   exact⟨bm,N,nm,q,bs,hd,sn,sb,ab,col,dd,k0,k1,k2,k3,k5,_,g,Heap.Ns.of_isNs (PySem.W.isNs_of_in KX a5),PySem.W.nsMap_none_of_in KX a5 (eq_of_beq a6),PySem.W.tail_of_in KX a4⟩
  ·cases e
 ·cases e
theorem zv {K:PySem.W.Frag} {x C:Addr} (k:rJ K C):PySem.W.KitX K (.ref x) (.ref C) fun h=>∃ox,h.get? x=some ox/\ox.cls= .ref C where
 ty:=fun M h _ ⟨ox,e,hc⟩=>kZ e hc
 it:=fun M h KX _=>(PySem.W.kit_cls KX k.kk).2.1
 ne:=fun h tp dd its n sl KX e=>by
  cases z:(Value.ref C==Value.ref tp)with
  |false=>rfl
  |true=>
   have ez:Value.ref C=Value.ref tp:=eq_of_beq z
   cases ez
   obtain⟨newId,_,_,_,ei,_⟩:=k.exc
   obtain⟨bm,N,nm,q,bs,hd,sn,sb,ab,col,dd,k0,k1,k2,k3,k5,mN,g,_⟩:=v_ KX ei
   rw[e]at g
   exact absurd (congrArg Obj.data (Option.some.inj g)) (fun z=>by cases z)
 ca:=fun {prog w A E Q s} KX ⟨ox,e,hc⟩ q=>Cd KX e hc k.ga k.gt k.kc k.sp k.tk k.mo k.mb q
end L2
namespace L2
open PySem PySem.Spec PyProof.Rows
section
variable {X:Cx} {pins:List (Addr×Obj)} {σ:St} {H:Hp} {s:Shared} {a:Addr} {cls:Value} {x:Str} {np cpos pos:Pos} {e:Expr} {es:List Expr} {t:TA} {C:Addr}
def zw (X:Cx) (C:Addr) (t:TA):TS:=fun _ σ H=>t σ H fun vs H1=>vs.length<=sizeLine/\∀pins s a,aF X pins σ H1 s->Fl X pins H1 s.heap a (.ref C)->X.xe (.ref a) s
theorem Cf {h':Heap} {vs:List Value} (I:aF X pins σ H s) (p:iU X) (m:s.heap.MadeExcOf h' a cls vs):aF X pins σ H {s with heap:=h'}/\Fl X pins H h' a cls:=by
 obtain⟨tp,g1,g2,g3⟩:=m.there
 exact⟨I.kept (t':=s.toks) m.keeps,uR.of I p m.new (I.hok.none_of m.new),_,_,g1,rfl,rfl, .inl rfl⟩
theorem zx (k:rJ X.K C) (hm:X.mg x=some (.ref C)) (p:iU X) (hc:X.calm=true) (ha:PA X (e::es) t) (hg:Gl X x:=by rfl) (hdb:(x==("__debug__":Str))=false:=by decide)
  (he:starEach (e::es) X.env=(false,eval e X.env)::starEach es X.env:=by rfl) (hpl:(backTo cpos (starEach es X.env)).any (·.1)=false:=by rfl):PS X (.Raise (some (.Call (.Name x np) (e::es) [] cpos)) none pos) (zw X C t):=by
 intro pins s σ H D I h
 obtain⟨newId,Bn,inN,bmN,ei,fB,hB⟩:=k.exc
 obtain⟨bm,N,nm,q,bs,hd,sn,sb,ab,col,dd,k0,k1,k2,k3,k5,mN,g,ns,ni,tl⟩:=v_ I.ok.mod.kin ei
 have hcons:backTo cpos (starEach (e::es) X.env)=(false,eval e X.env)::backTo cpos (starEach es X.env):=by rw[he];rfl
 refine wpAny_Raise_call_subU (nm:=nm) (q:=q) (C:=C) (N:=N) (bs:=bs) (hdct:=hd) (sn:=sn) (sub:=sb) (ab:=ab) (col:=col) (dd:=dd) (k0:=k0) (k1:=k1) (k2:=k2) (k3:=k3) (k5:=k5) fB hB F.excBase_ValueError (tl.hasType (by decide)) (I.ok.hd hc) (by rw[hcons];exact hpl) ni (lC I hg hm ⟨rfl,?_⟩ hdb)
 rw[hcons]
 refine Calls.evalArgs_plain ?_
 rw[<-hcons]
 refine cp (ha cpos pins s σ H _ I h) fun us s1 ⟨vs,H1,I1,r,z,q1⟩=>⟨rfl,by rw[<-r.length];exact z,I1.bk _ _ g,ns.keeps I1.bk,tl.keeps I1.bk,fun h' a m=> ?_⟩
 obtain⟨I2,f2⟩:=Cf I1 p m
 exact q1 pins _ a I2 f2
abbrev Cx.inH (X:Cx) (v:Value):Cx:={X with A:=X.A.mark (some v),calm:=false,xe:=fun _ _=>False}
theorem Cx.Ok.inH {v:Value} (ok:X.Ok):(X.inH v).Ok:=⟨ok.mod,ok.kind,ok.glob,ok.blt,ok.above,ok.inj,ok.has,ok.cab,(fun z=>by cases z),ok.frames,ok.stk,ok.exf,ok.bs,ok.bsz,ok.noex,ok.exfs,ok.funs,ok.frf⟩
theorem aF.inH {v:Value} (I:aF X pins σ H s):aF (X.inH v) pins σ H s:=⟨I.ok.inH,I.os,I.bare,I.base,I.loc,I.cell,I.free,I.freeC,I.pin,I.hok,I.len⟩
theorem aF.outH {v:Value} (ok:X.Ok) (I:aF (X.inH v) pins σ H s):aF X pins σ H s:=⟨ok,I.os,I.bare,I.base,I.loc,I.cell,I.free,I.freeC,I.pin,I.hok,I.len⟩
theorem aF.track {o:HO} {oa:Obj} {vs:Array Value} (I:aF X pins σ H s) (n:uR X pins H a) (ga:s.heap.get? a=some oa) (gd:oa.data= .fields vs) (new:bS X.prog X.w (bK H a o) s.heap a o):aF X pins σ (bK H a o) s:=by
 have ne:∀b u,H b=some u->b≠a:=fun b u e z=>by rw[z,n.no]at e;cases e
 have neL:X.env.locals≠a:=fun z=>by
  obtain⟨m,⟨o,es,ep,ho,hd,_⟩,_⟩:=I.loc
  rw[z,ga]at ho;cases ho
  rw[gd]at hd;cases hd
 have neC:∀y c,X.env.cells.lookup y=some c->c≠a:=fun y c e z=>by
  obtain⟨v,o,ho,hd⟩:=I.cell y c e
  rw[z,ga]at ho;cases ho
  rw[gd]at hd;cases hd
 refine⟨I.ok,I.os,I.bare,⟨I.base.keep,I.base.slot,fun b o e n' hx=> ?_,I.base.there,fun b xs e=> ?_,fun b o u e=> ?_,fun b ps e=> ?_⟩,I.loc,I.cell,by rw[av neL];exact I.free,fun y c e=>by rw[av (neC y c e)];exact I.freeC y c e,fun p hp=> ?_,fun b u e=> ?_,I.len⟩
 ·rw[av (fun z=>by rw[z,n.s0]at e;cases e)];exact I.base.free b o e n' hx
 ·have q:=I.base.tups b xs e
  rw[av (ne b _ q)];exact q
 ·have q:=I.base.frzs b o u e
  rw[av (ne b _ q)];exact q
 ·obtain⟨more,q⟩:=I.base.tbls b ps e
  exact⟨more,by rw[av (ne b _ q)];exact q⟩
 ·obtain⟨e,n',r⟩:=I.pin p hp
  exact⟨e,by rw[av (n.pin p hp)];exact n',r⟩
 ·by_cases z:b=a
  ·subst z;rw[az]at e;cases e;exact new
  ·rw[av z]at e
   refine(I.hok b u e).stay (fun _ _ _ q=>q) (fun c q=> ?_) fun c xs q=> ?_
   ·rw[av (ne c _ q)];exact q
   ·rw[av (ne c _ q)];exact q
theorem xB {M:Model} {A:Around} {E:Value->Shared->Prop} {i:Nat} {n:Str} {Q:Unit->Shared->Prop} (I:aF X pins σ H s) (hN:X.N.Nodup) (hi:X.N[i]? =some n) (hk:X.env.kindOf n=some .local)
  (k:∀s',aF X pins (σ.set i none) H s'->Q () s'):wpAny M A (do bindName X.env n Value.none;unbindBehindTheSuite X.env n pos) Q E s:=by
 obtain⟨m,hn,hl⟩:=id I.loc
 refine wpAny_nameGoes_keeps hk hn (by rw[I.ok.kind];rfl) fun h' v hn' hs=>k _ ?_
 have neL:∀b o,X.s₀.heap.get? b=some o->b≠X.env.locals:=fun b o e=>Nat.ne_of_lt (Nat.lt_of_lt_of_le (Heap.lt_size e) I.ok.above)
 refine⟨I.ok,I.os,I.bare,⟨fun b o e n hb hx=>(hs.2 b (neL b o e)).trans (I.base.keep b o e n hb hx),fun b o e n hb hx=> ?_,I.base.free,fun b o e hx=> ?_,I.base.tups,I.base.frzs,I.base.tbls⟩,⟨_,hn',fun j y v' e1 e2 e3=> ?_⟩,fun y c e=> ?_,I.free,I.freeC,fun p hp=> ?_,fun b u e=> ?_,by simpa using I.len⟩
 ·obtain⟨sl,e1⟩:=I.base.slot b o e n hb hx
  exact⟨sl,(hs.2 b (neL b o e)).trans e1⟩
 ·obtain⟨o',e1⟩:=I.base.there b o e hx
  exact⟨o',(hs.2 b (neL b o e)).trans e1⟩
 ·by_cases hj:j=i
  ·subst hj
   rw[List.getElem?_set]at e2
   split at e2
   ·split at e2<;>cases e2
   ·exact absurd rfl ‹_›
  ·rw[List.getElem?_set_ne (Ne.symm hj)]at e2
   obtain⟨u',r',q⟩:=hl j y v' e1 e2 e3
   refine⟨u',r',?_⟩
   have ny:y≠n:=fun e=>hj (o4 hN e1 (e▸hi))
   rcases q with ⟨k,e⟩|⟨k,c,e,z⟩
   ·exact .inl ⟨k,by show (if y=n then v else m y)=_;rw[if_neg ny];exact e⟩
   ·exact .inr ⟨k,c,e,z.sameBut hs (I.cne y c e)⟩
 ·obtain⟨w',z⟩:=I.cell y c e
  exact⟨w',z.sameBut hs (I.cne y c e)⟩
 ·obtain⟨e,n,ne,nf,d⟩:=I.pin p hp
  exact⟨(hs.2 p.1 ne).trans e,n,ne,nf,d⟩
 ·refine(I.hok b u e).stay (fun c v hc q=>(hs.2 c ?_).trans q) (fun _ q=>q) fun _ _ q=>q
  rintro rfl
  have:=I.free
  rcases hc with z|z
  ·rw[<-z,this]at e;cases e
  ·rw[this]at z;cases z
def iV (a:Addr) (cls:Value):Heap->Prop:=fun h=>∃o,h.get? a=some o/\o.cls=cls
theorem xC {P:Program} {w:World} {h:Heap} (e:iV a cls h):bS P w H h a (.ext (iV a cls)):=by
 obtain⟨o,h1,h2⟩:=e
 exact⟨⟨o,h1,h2⟩,⟨o,h1⟩,fun g1 g2 ⟨o',e1,e2⟩ k=>⟨o',k _ e1,e2⟩⟩
theorem Ey (I:aF X pins σ H s) (p:iU X) (fl:Gh X pins H s.heap a cls) {Q:Unit->Shared->Prop} {E:Value->Shared->Prop} {A:Around}
  (k:∀h',aF X pins σ H {s with heap:=h'}->Gh X pins H h' a cls->Q () {s with heap:=h'}):wpAny (model X.prog X.w) A (setFlight (.ref a) none) Q E s:=by
 obtain⟨B,oe,vs,ge,gc,gd,ff,hB,hBa,hn,hk⟩:=qy I p fl.fl
 obtain⟨oe',vs',e1,e2,e3,T',e4,tr'⟩:=fl.at_
 rw[ge]at e1;cases e1
 rw[gd]at e3;cases e3
 obtain⟨oT',ts',q1,q2,q3⟩:=tr'.at_
 rcases hn with g|⟨T,oT,ts,f,g1,g2,g3,g4,g5,g6,g7⟩
 ·rw[g]at e4;cases e4
 ·rw[e4]at g1;cases g1
  obtain⟨size1,a0,h0⟩:=zt e4
  refine lands_againW (base:=B) (l:=X.env::X.outer) (cls:=cls) (a0:=a0) ⟨hB,hBa,ff,oe,vs,T',oT',ts',ge,⟨gc,h0⟩,gd,e4,g2,g3,q1,q2,q3⟩ fun h2 ⟨st,_,_,tr⟩ up=> ?_
  obtain⟨I',f'⟩:=hk h2 _ st tr.at.tl up
  exact k h2 I' f'
theorem xD {Cx':Addr} {cx n:Str} {i:Nat} {hpos:Pos} {b₀:Stmt} {suite:List Stmt} {rest:List ExceptHandler} {Q:Flow->Shared->Prop} {E:Value->Shared->Prop} (I:aF X pins σ H s) (p:iU X) (fl:Gh X pins H s.heap a (.ref C)) (hN:X.N.Nodup) (hi:X.N[i]? =some n)
  (hk:X.env.scope.names.lookup n=some .local) (hg:Gl X cx) (hm:X.mg cx=some (.ref Cx')) (hx:PySem.W.exmOne X.K (.ref C) (.ref Cx')=some true) (hdb:(cx==("__debug__":Str))=false)
  (k:∀s',aF (X.inH (.ref a)) pins (σ.set i (some (.ref a))) (bK H a (.ext (iV a (.ref C)))) s'->
   wpAny (model X.prog X.w) (X.inH (.ref a)).A (execs (b₀::suite) X.env) (fun f s3=>wpAny (model X.prog X.w) X.A (do bindName X.env n Value.none;unbindBehindTheSuite X.env n hpos) (fun _ s5=>Q f s5) E s3) (fun _ _=>False) s'):
  wpAny (model X.prog X.w) X.A (handleBy (.ref a) X.env (.ExceptHandler (some (.Name cx np)) (some n) (b₀::suite) hpos::rest)) Q E s:=by
 refine wpAny_handleBy_cons (codeAny_handlers_test ?_) (by intro z;cases z)
 refine lC (X:=X.inH (.ref a)) I.inH hg hm ?_ hdb
 obtain⟨oe,vs,ge,gc,gd,_⟩:=fl.at_
 refine dF (PySem.W.exm_one I.kIn (kZ ge gc) hx) ?_
 rw[if_pos rfl]
 refine codeAny_handlers_suite_as ?_
 refine Ey I p fl fun h2 I2 f2=> ?_
 obtain⟨oe,vs,ge,gc,gd,_⟩:=f2.at_
 have I3:aF X pins σ (bK H a (.ext (iV a (.ref C)))) {s with heap:=h2}:=I2.track f2.new ge gd (xC ⟨oe,ge,gc⟩)
 refine o5 (X:=X.inH (.ref a)) I3.inH hN hi (.inl hk) (v:= .ref a) rfl (fun s' I'=> ?_) (.inr hk)
 exact wpAny_mono (k s' I') (fun f s3 q=>q) fun _ _ z=>z.elim
end
end L2
namespace L2
open PySem PySem.Spec PyProof.Rows
section
variable {X:Cx} {scope:Scope} {s:Shared} {H:Hp} {ex:List Addr} {E:Value->Shared->Prop} {pins':List (Addr×Obj)} {τ:St} {H':Hp} {s':Shared}
end
section
variable {X:Cx} {elt tg iter:Expr} {ifs:List Expr} {scope:Scope} {pos:Pos} {wi:TI} {g:TG} {tt:TT} {te:TE}
end
end L2
namespace L2.Pu
open PySem PySem.Spec PyProof.Rows
structure gA where
 x:Nat
 C:Addr
 fl:List (Str×Nat)
variable {ly:List gA}
inductive D where
 |non|bl (b:Bool)|int (i:Int)|str (x:Str)|tup (ds:List D)|lst (ds:List D)|dic (kds:List (a_×D))|ins (x:Str) (fs:List (Str×D))|scr (ns:List Int)|exc (x:Str)
mutual
inductive et (K:PySem.W.Frag) (F:Hp):V->D->Prop
 |non:et K F .non .non
 |bl (b:Bool):et K F (.bl b) (.bl b)
 |int (i:Int):et K F (.int i) (.int i)
 |str (x:Str):et K F (.str x) (.str x)
 |tup {a:Addr} {vs:List V} {ds:List D}:F a=some (.tup vs)->Reps K F vs ds->et K F (.ref a) (.tup ds)
 |lst {a:Addr} {vs:List V} {ds:List D}:F a=some (.lst vs)->Reps K F vs ds->et K F (.ref a) (.lst ds)
 |scr {a:Addr} {ns:List Int}:eC K F a (ns.map V.int)->et K F (.ref a) (.scr ns)
 |dic {a:Addr} {kvs:List (a_×V)} {kds:List (a_×D)}:F a=some (.dK kvs)->RepK K F kvs kds->(kvs.map (·.1)).Nodup->et K F (.ref a) (.dic kds)
 |ins {a C dx:Addr} {x:Str} {fs vs:List (Str×V)} {fds:List (Str×D)}:F a=some (.ins C dx fs)->F dx=some (.own a)->PySem.W.nsIn K mainGlobals x=some (some (.ref C))->(∀p∈vs,fs.lookup p.1=some p.2)->(∀f v,fs.lookup f=some v->f∈vs.map (·.1))->RepF K F vs fds->et K F (.ref a) (.ins x fds)
 |exc {a C:Addr} {x:Str}:F a=some (.ext (iV a (.ref C)))->PySem.W.nsIn K mainGlobals x=some (some (.ref C))->et K F (.ref a) (.exc x)
inductive Reps (K:PySem.W.Frag) (F:Hp):List V->List D->Prop
 |nil:Reps K F [] []
 |cons {v:V} {d:D} {vs:List V} {ds:List D}:et K F v d->Reps K F vs ds->Reps K F (v::vs) (d::ds)
inductive RepK (K:PySem.W.Frag) (F:Hp):List (a_×V)->List (a_×D)->Prop
 |nil:RepK K F [] []
 |cons {k:a_} {v:V} {d:D} {vs:List (a_×V)} {ds:List (a_×D)}:et K F v d->RepK K F vs ds->RepK K F ((k,v)::vs) ((k,d)::ds)
inductive RepF (K:PySem.W.Frag) (F:Hp):List (Str×V)->List (Str×D)->Prop
 |nil:RepF K F [] []
 |cons {k:Str} {v:V} {d:D} {vs:List (Str×V)} {ds:List (Str×D)}:et K F v d->RepF K F vs ds->RepF K F ((k,v)::vs) ((k,d)::ds)
end
theorem lJ {K:PySem.W.Frag} {F F':Hp} {a:Addr} {xs:List V} (e:aY F F') (h:eC K F a xs):eC K F' a xs:=e.seq h
theorem et.mono {K:PySem.W.Frag} {F F':Hp} (e:aY F F') {v:V} {d:D} (h:et K F v d):et K F' v d:=
 et.rec (motive_1:=fun v d _=>et K F' v d) (motive_2:=fun v d _=>Reps K F' v d) (motive_3:=fun v d _=>RepK K F' v d) (motive_4:=fun v d _=>RepF K F' v d) .non .bl .int .str (fun h _ r=> .tup (e _ _ h) r) (fun h _ r=> .lst (e _ _ h) r) (fun h=> .scr (lJ e h)) (fun h _ n r=> .dic (e _ _ h) r n) (fun h h2 n l1 l2 _ r=> .ins (e _ _ h) (e _ _ h2) n l1 l2 r) (fun h n=> .exc (e _ _ h) n) .nil (fun _ _ a b=> .cons a b) .nil (fun _ _ a b=> .cons a b) .nil (fun _ _ a b=> .cons a b) h
theorem Reps.mono {K:PySem.W.Frag} {F F':Hp} (e:aY F F') {v:List V} {d:List D} (h:Reps K F v d):Reps K F' v d:=
 Reps.rec (motive_1:=fun v d _=>et K F' v d) (motive_2:=fun v d _=>Reps K F' v d) (motive_3:=fun v d _=>RepK K F' v d) (motive_4:=fun v d _=>RepF K F' v d) .non .bl .int .str (fun h _ r=> .tup (e _ _ h) r) (fun h _ r=> .lst (e _ _ h) r) (fun h=> .scr (lJ e h)) (fun h _ n r=> .dic (e _ _ h) r n) (fun h h2 n l1 l2 _ r=> .ins (e _ _ h) (e _ _ h2) n l1 l2 r) (fun h n=> .exc (e _ _ h) n) .nil (fun _ _ a b=> .cons a b) .nil (fun _ _ a b=> .cons a b) .nil (fun _ _ a b=> .cons a b) h
theorem RepK.mono {K:PySem.W.Frag} {F F':Hp} (e:aY F F') {v:List (a_×V)} {d:List (a_×D)} (h:RepK K F v d):RepK K F' v d:=
 RepK.rec (motive_1:=fun v d _=>et K F' v d) (motive_2:=fun v d _=>Reps K F' v d) (motive_3:=fun v d _=>RepK K F' v d) (motive_4:=fun v d _=>RepF K F' v d) .non .bl .int .str (fun h _ r=> .tup (e _ _ h) r) (fun h _ r=> .lst (e _ _ h) r) (fun h=> .scr (lJ e h)) (fun h _ n r=> .dic (e _ _ h) r n) (fun h h2 n l1 l2 _ r=> .ins (e _ _ h) (e _ _ h2) n l1 l2 r) (fun h n=> .exc (e _ _ h) n) .nil (fun _ _ a b=> .cons a b) .nil (fun _ _ a b=> .cons a b) .nil (fun _ _ a b=> .cons a b) h
theorem RepF.mono {K:PySem.W.Frag} {F F':Hp} (e:aY F F') {v:List (Str×V)} {d:List (Str×D)} (h:RepF K F v d):RepF K F' v d:=
 RepF.rec (motive_1:=fun v d _=>et K F' v d) (motive_2:=fun v d _=>Reps K F' v d) (motive_3:=fun v d _=>RepK K F' v d) (motive_4:=fun v d _=>RepF K F' v d) .non .bl .int .str (fun h _ r=> .tup (e _ _ h) r) (fun h _ r=> .lst (e _ _ h) r) (fun h=> .scr (lJ e h)) (fun h _ n r=> .dic (e _ _ h) r n) (fun h h2 n l1 l2 _ r=> .ins (e _ _ h) (e _ _ h2) n l1 l2 r) (fun h n=> .exc (e _ _ h) n) .nil (fun _ _ a b=> .cons a b) .nil (fun _ _ a b=> .cons a b) .nil (fun _ _ a b=> .cons a b) h
section
variable {K:PySem.W.Frag} {F:Hp}
def zy (K:PySem.W.Frag) (F:Hp) (v:V):D->Prop
 | .non=>v= .non
 | .bl b=>v= .bl b
 | .int i=>v= .int i
 | .str x=>v= .str x
 | .tup ds=>∃a vs,v= .ref a/\F a=some (.tup vs)/\Reps K F vs ds
 | .lst ds=>∃a vs,v= .ref a/\F a=some (.lst vs)/\Reps K F vs ds
 | .scr ns=>∃a,v= .ref a/\eC K F a (ns.map V.int)
 | .dic kds=>∃a kvs,v= .ref a/\F a=some (.dK kvs)/\RepK K F kvs kds/\(kvs.map (·.1)).Nodup
 | .ins x fds=>∃a C dx fs vs,v= .ref a/\F a=some (.ins C dx fs)/\PySem.W.nsIn K mainGlobals x=some (some (.ref C))/\(∀p∈vs,fs.lookup p.1=some p.2)/\(∀f v,fs.lookup f=some v->f∈vs.map (·.1))/\RepF K F vs fds
 | .exc x=>∃a C,v= .ref a/\F a=some (.ext (iV a (.ref C)))/\PySem.W.nsIn K mainGlobals x=some (some (.ref C))
theorem et.inv {v:V} {d:D} (h:et K F v d):zy K F v d:=by
 cases h with
 |non=>exact rfl
 |bl=>exact rfl
 |int=>exact rfl
 |str=>exact rfl
 |tup h r=>exact⟨_,_,rfl,h,r⟩
 |lst h r=>exact⟨_,_,rfl,h,r⟩
 |scr h=>exact⟨_,rfl,h⟩
 |dic h r n=>exact⟨_,_,rfl,h,r,n⟩
 |ins h1 _ h3 h4 h5 h6=>exact⟨_,_,_,_,_,rfl,h1,h3,h4,h5,h6⟩
 |exc h n=>exact⟨_,_,rfl,h,n⟩
theorem RepK.nilI {vs:List (a_×V)} (h:RepK K F vs []):vs=[]:=by cases h;rfl
theorem RepK.consI {vs:List (a_×V)} {k:a_} {d:D} {ds:List (a_×D)} (h:RepK K F vs ((k,d)::ds)):∃v us,vs=(k,v)::us/\et K F v d/\RepK K F us ds:=by
 cases h with
 |cons r t=>exact⟨_,_,rfl,r,t⟩
theorem Reps.nilI {vs:List V} (h:Reps K F vs []):vs=[]:=by cases h;rfl
theorem Reps.consI {vs:List V} {d:D} {ds:List D} (h:Reps K F vs (d::ds)):∃v us,vs=v::us/\et K F v d/\Reps K F us ds:=by
 cases h with
 |cons r t=>exact⟨_,_,rfl,r,t⟩
theorem et.intI {v:V} {i:Int} (h:et K F v (.int i)):v= .int i:=h.inv
theorem et.tupI {v:V} {ds:List D} (h:et K F v (.tup ds)):∃a vs,v= .ref a/\F a=some (.tup vs)/\Reps K F vs ds:=h.inv
theorem Reps.int1 {vs:List V} {i:Int} (h:Reps K F vs [.int i]):vs=[.int i]:=by
 obtain⟨v,us,rfl,r,t⟩:=h.consI
 rw[t.nilI,r.intI]
theorem Reps.int2 {vs:List V} {i j:Int} (h:Reps K F vs [.int i, .int j]):vs=[.int i, .int j]:=by
 obtain⟨v,us,rfl,r,t⟩:=h.consI
 rw[t.int1,r.intI]
theorem Reps.length:∀{vs:List V} {ds:List D},Reps K F vs ds->vs.length=ds.length:=by
 intro vs ds
 induction ds generalizing vs with
 |nil=>intro h;rw[h.nilI];rfl
 |cons d ds ih=>
  intro h
  obtain⟨v,us,rfl,_,t⟩:=h.consI
  rw[List.length_cons,List.length_cons,ih t]
theorem RepK.length:∀{vs:List (a_×V)} {ds:List (a_×D)},RepK K F vs ds->vs.length=ds.length:=by
 intro vs ds
 induction ds generalizing vs with
 |nil=>intro h;rw[h.nilI];rfl
 |cons d ds ih=>
  intro h
  obtain⟨v,us,rfl,_,t⟩:=RepK.consI (k:=d.1) (d:=d.2) h
  rw[List.length_cons,List.length_cons,ih t]
theorem Reps.append:∀{vs us:List V} {ds es:List D},Reps K F vs ds->Reps K F us es->Reps K F (vs++us) (ds++es):=by
 intro vs us ds
 induction ds generalizing vs with
 |nil=>intro es h g;rw[h.nilI];exact g
 |cons d ds ih=>
  intro es h g
  obtain⟨v,us,rfl,r,t⟩:=h.consI
  exact .cons r (ih t g)
theorem Reps.get:∀{vs:List V} {ds:List D} {i:Nat} {d:D},Reps K F vs ds->ds[i]? =some d->∃v,vs[i]? =some v/\et K F v d
 |_,_,_,_, .nil,h=>by simp at h
 |_,_,0,_, .cons r t,h=>by simp at h;subst h;exact⟨_,rfl,r⟩
 |_,_,i+1,_, .cons r t,h=>by
  obtain⟨v,h1,h2⟩:=t.get (i:=i) (by simpa using h)
  exact⟨v,by simpa using h1,h2⟩
theorem Reps.get':∀{vs:List V} {ds:List D} {i:Nat} {v:V},Reps K F vs ds->vs[i]? =some v->∃d,ds[i]? =some d/\et K F v d
 |_,_,_,_, .nil,h=>by simp at h
 |_,_,0,_, .cons r t,h=>by simp at h;subst h;exact⟨_,rfl,r⟩
 |_,_,i+1,_, .cons r t,h=>by
  obtain⟨v,h1,h2⟩:=t.get' (i:=i) (by simpa using h)
  exact⟨v,by simpa using h1,h2⟩
theorem Reps.set:∀{vs:List V} {ds:List D} {v:V} {d:D} (i:Nat),Reps K F vs ds->et K F v d->Reps K F (vs.set i v) (ds.set i d)
 |_,_,_,_,_, .nil,_=> .nil
 |_,_,_,_,0, .cons r t,h=> .cons h t
 |_,_,_,_,i+1, .cons r t,h=> .cons r (t.set i h)
theorem Reps.eraseIdx:∀{vs:List V} {ds:List D} (i:Nat),Reps K F vs ds->Reps K F (vs.eraseIdx i) (ds.eraseIdx i)
 |_,_,_, .nil=> .nil
 |_,_,0, .cons r t=>t
 |_,_,i+1, .cons r t=> .cons r (t.eraseIdx i)
theorem Reps.drop:∀{vs:List V} {ds:List D} (i:Nat),Reps K F vs ds->Reps K F (vs.drop i) (ds.drop i)
 |_,_,0,h=>h
 |_,_,_+1, .nil=> .nil
 |_,_,i+1, .cons r t=>t.drop i
theorem Reps.take:∀{vs:List V} {ds:List D} (i:Nat),Reps K F vs ds->Reps K F (vs.take i) (ds.take i)
 |_,_,0,h=> .nil
 |_,_,_+1, .nil=> .nil
 |_,_,i+1, .cons r t=> .cons r (t.take i)
theorem Reps.reverse {vs:List V} {ds:List D} (h:Reps K F vs ds):Reps K F vs.reverse ds.reverse:=by
 induction h using Reps.rec (motive_1:=fun _ _ _=>True) (motive_3:=fun _ _ _=>True) (motive_4:=fun _ _ _=>True)with
 |nil=>exact .nil
 |cons r t _ ih=>rw[List.reverse_cons,List.reverse_cons];exact ih.append (.cons r .nil)
 |_=>trivial
end
structure bZ (H F H' F':Hp):Prop where
 sub:aY F' H'
 keep:aY H H'
 grow:aY F F'
 new:∀a,F' a≠none->F a≠none\/H a=none
theorem bZ.refl {H F:Hp} (h:aY F H):bZ H F H F:=⟨h,aY.refl _,aY.refl _,fun _ h=> .inl h⟩
theorem bZ.trans {H F H1 F1 H2 F2:Hp} (a:bZ H F H1 F1) (b:bZ H1 F1 H2 F2):bZ H F H2 F2:=
 ⟨b.sub,a.keep.trans b.keep,a.grow.trans b.grow,fun x h=>(b.new x h).elim (fun q=>a.new x q) fun q=> .inr (a.keep.free q)⟩
theorem cy {H:Hp} {p:Addr} {o:HO} (h:H p=none):aY H (bK H p o):=fun b u e=>by
 rw[av (fun z=>by rw[z,h]at e;cases e)];exact e
theorem bZ.lay {H F:Hp} (s:aY F H) {p:Addr} {o:HO} (h:H p=none):bZ H F (bK H p o) (bK F p o):=by
 refine⟨fun b u e=> ?_,cy h,cy (s.free h),fun b e=> ?_⟩
 ·by_cases z:b=p
  ·subst z;rw[az]at e ⊢;exact e
  ·rw[av z]at e ⊢;exact s b u e
 ·by_cases z:b=p
  ·subst z;exact .inr h
  ·rw[av z]at e;exact .inl e
theorem bZ.layOwn {H F:Hp} (s:aY F H) {p:Addr} {o:HO} (h:H p=none):bZ H F (bK H p o) F:=
 ⟨s.trans (cy h),cy h,aY.refl _,fun _ e=> .inl e⟩
inductive Slot where
 |val (d:D)|own (d:D)|bor (d:D)|obj|cel (x:Str) (vds:List (Str×D)) (f:Str) (hs:List D)
def Slot.data:Slot->D
 | .val d=>d
 | .own d=>d
 | .bor d=>d
 | .obj=> .non
 | .cel .. => .non
def Slot.single:Slot->Bool
 | .obj=>true
 | .cel .. =>true
 |_=>false
abbrev ai:=List (Option Slot)
inductive jO (K:PySem.W.Frag) (F:Hp):HO->D->Prop
 |lst {vs:List V} {ds:List D}:Reps K F vs ds->jO K F (.lst vs) (.lst ds)
 |dic {kvs:List (a_×V)} {kds:List (a_×D)}:RepK K F kvs kds->(kvs.map (·.1)).Nodup->jO K F (.dK kvs) (.dic kds)
theorem jO.mono {K:PySem.W.Frag} {F F':Hp} (e:aY F F') {o:HO} {d:D}:jO K F o d->jO K F' o d
 | .lst r=> .lst (r.mono e)
 | .dic r n=> .dic (r.mono e) n
structure d_ (ly:List gA)where
 H0:Hp
 F0:Hp
 B:Hp
 Er:Str->ai->Prop
 oa:Nat->Option Addr:=fun _=>none
 Fm:Hp:=fun _=>none
structure w5 (K:PySem.W.Frag) (H0 H F:Hp) (a dx b:Addr) (x:Str) (vds:List (Str×D)) (f:Str) (hs:List D):Prop where
 ex:∃C fs vs us,H a=some (.ins C dx fs)/\PySem.W.nsIn K mainGlobals x=some (some (.ref C))/\fs.lookup f=some (.ref b)/\H b=some (.lst us)/\Reps K F us hs/\RepF K F vs vds/\(∀p∈vs,fs.lookup p.1=some p.2)/\
  (∀g v,fs.lookup g=some v->g=f\/g∈vs.map (·.1))/\(fs.map (·.1)).Nodup/\f∉vs.map (·.1)
 own:H dx=some (.own a)
 fa:F a=none
 fd:F dx=none
 fb:F b=none
 za:H0 a=none
 zd:H0 dx=none
 zb:H0 b=none
theorem bZ.out {H F H' F':Hp} (e:bZ H F H' F') {a:Addr} {o:HO} (h:H a=some o) (hF:F a=none):F' a=none:=by
 cases q:F' a with
 |none=>rfl
 |some u=>
  rcases e.new a (by rw[q];simp)with z|z
  ·exact absurd hF z
  ·rw[h]at z;cases z
theorem w5.step {K:PySem.W.Frag} {H0 H F H' F':Hp} {a dx b:Addr} {x:Str} {vds:List (Str×D)} {f:Str} {hs:List D} (h:w5 K H0 H F a dx b x vds f hs) (e:bZ H F H' F'):w5 K H0 H' F' a dx b x vds f hs:=by
 obtain⟨C,fs,vs,us,h1,h2,h3,h4,h5,h6,h7,h8⟩:=h.ex
 exact⟨⟨C,fs,vs,us,e.keep _ _ h1,h2,h3,e.keep _ _ h4,h5.mono e.grow,h6.mono e.grow,h7,h8⟩,e.keep _ _ h.own,e.out h1 h.fa,e.out h.own h.fd,e.out h4 h.fb,h.za,h.zd,h.zb⟩
structure lK (K:PySem.W.Frag) (H0:Hp) (ρ:ai) (σ:St) (H F:Hp):Prop where
 ex:∀(i:Nat) x vds f hs,ρ[i]? =some (some (.cel x vds f hs))->∃a dx b,σ[i]? =some (some (.ref a))/\w5 K H0 H F a dx b x vds f hs/\∀(j:Nat) d,ρ[j]? =some (some (.own d))->σ[j]? ≠some (some (.ref b))
 one:∀(i j:Nat) x vds f hs s,ρ[i]? =some (some (.cel x vds f hs))->ρ[j]? =some (some s)->s.single=true->i=j
theorem lK.no {K:PySem.W.Frag} {H0:Hp} {ρ:ai} {σ:St} {H F:Hp} (h:∀(i:Nat) x vds f hs,ρ[i]? ≠some (some (.cel x vds f hs))):lK K H0 ρ σ H F:=⟨fun i x vds f hs e=>absurd e (h i x vds f hs),fun i j x vds f hs s e=>absurd e (h i x vds f hs)⟩
theorem lK.step {K:PySem.W.Frag} {H0 H F H' F':Hp} {ρ:ai} {σ:St} (h:lK K H0 ρ σ H F) (e:bZ H F H' F'):lK K H0 ρ σ H' F':=
 ⟨fun i x vds f hs q=>by obtain⟨a,dx,b,h1,h2,h3⟩:=h.ex i x vds f hs q;exact⟨a,dx,b,h1,h2.step e,h3⟩,h.one⟩
structure RI (K:PySem.W.Frag) (c:d_ ly) (ρ:ai) (σ:St) (H F:Hp):Prop where
 ext:bZ c.H0 c.F0 H F
 val:∀(i:Nat) d,ρ[i]? =some (some (.val d))->∃v,σ[i]? =some (some v)/\et K F v d
 own:∀(i:Nat) d,ρ[i]? =some (some (.own d))->∃a o,σ[i]? =some (some (.ref a))/\H a=some o/\F a=none/\c.H0 a=none/\jO K F o d
 bor:∀(i:Nat) d,ρ[i]? =some (some (.bor d))->∃a o,σ[i]? =some (some (.ref a))/\c.B a=some o/\jO K c.F0 o d
 bh:aY c.B c.H0
 dis:∀(i j:Nat) d d' a,ρ[i]? =some (some (.own d))->ρ[j]? =some (some (.own d'))->σ[i]? =some (some (.ref a))->σ[j]? =some (some (.ref a))->i=j
 len:ρ.length=σ.length
 obj:∀L∈ly,ρ[L.x]? =some (some .obj)->∃a dx fs,(∀b,c.oa L.x=some b->a=b)/\σ[L.x]? =some (some (.ref a))/\H a=some (.ins L.C dx fs)/\H dx=some (.own a)/\F a=none/\F dx=none/\c.H0 a=none/\c.H0 dx=none/\
  (∀p∈L.fl,fs.lookup p.1=(σ[p.2]?).join)/\(∀f v,fs.lookup f=some v->f∈L.fl.map (·.1))/\(fs.map (·.1)).Nodup
 odis:∀L∈ly,∀L'∈ly,ρ[L.x]? =some (some .obj)->ρ[L'.x]? =some (some .obj)->∀a,σ[L.x]? =some (some (.ref a))->σ[L'.x]? =some (some (.ref a))->L=L'
 fm:aY c.Fm F
 cel:lK K c.H0 ρ σ H F
 pin:∀L∈ly,∀a,c.oa L.x=some a->σ[L.x]? =some (some (.ref a))
def k_ (ly:List gA) (i:Nat):Prop:=∀L∈ly,L.x≠i/\∀p∈L.fl,p.2≠i
theorem eL {i:Nat}:k_ [] i:=fun L h=>by cases h
section
variable {K:PySem.W.Frag} {c:d_ ly} {ρ:ai} {σ:St} {H F H' F':Hp}
theorem RI.step (r:RI K c ρ σ H F) (e:bZ H F H' F'):RI K c ρ σ H' F' where
 cel:=r.cel.step e
 pin:=r.pin
 obj:=fun L hL hρ=>by
  obtain⟨a,dx,fs,h0,h1,h2,h3,h4,h5,h6,h7,h8⟩:=r.obj L hL hρ
  exact⟨a,dx,fs,h0,h1,e.keep _ _ h2,e.keep _ _ h3,e.out h2 h4,e.out h3 h5,h6,h7,h8⟩
 odis:=r.odis
 fm:=r.fm.trans e.grow
 ext:=r.ext.trans e
 val:=fun i d h=>by obtain⟨v,h1,h2⟩:=r.val i d h;exact⟨v,h1,h2.mono e.grow⟩
 own:=fun i d h=>by
  obtain⟨a,o,h1,h2,h3,h4,h5⟩:=r.own i d h
  refine⟨a,o,h1,e.keep _ _ h2,?_,h4,h5.mono e.grow⟩
  cases q:F' a with
  |none=>rfl
  |some u=>
   rcases e.new a (by rw[q];simp)with z|z
   ·exact absurd h3 z
   ·rw[h2]at z;cases z
 bor:=r.bor
 bh:=r.bh
 dis:=r.dis
 len:=r.len
theorem RI.sub (r:RI K c ρ σ H F):aY F H:=r.ext.sub
theorem aH {α:Type} {l:List α} {i j:Nat} {a b:α} (h:(l.set i a)[j]? =some b):(i=j/\a=b/\i<l.length)\/(i≠j/\l[j]? =some b):=by
 rw[List.getElem?_set]at h
 by_cases e:i=j
 ·rw[if_pos e]at h
  split at h
  ·cases h;exact .inl ⟨e,rfl,by assumption⟩
  ·cases h
 ·rw[if_neg e]at h;exact .inr ⟨e,h⟩
theorem kl {α:Type} {l:List α} {i:Nat} {a:α} (h:i<l.length):(l.set i a)[i]? =some a:=by
 rw[List.getElem?_set,if_pos rfl,if_pos h]
theorem ar {α:Type} {l:List α} {i j:Nat} {a:α} (h:i≠j):(l.set i a)[j]? =l[j]? :=by
 rw[List.getElem?_set,if_neg h]
theorem lK.set {K:PySem.W.Frag} {H0:Hp} {ρ:ai} {σ:St} {H F:Hp} (h:lK K H0 ρ σ H F) (i:Nat) {s:Option Slot} {v:Option V} (hn:∀s',s=some s'->s'.single=false)
  (ho:∀d,s=some (.own d)->∀(j:Nat) x vds f hs a C dx fs b,ρ[j]? =some (some (.cel x vds f hs))->σ[j]? =some (some (.ref a))->H a=some (.ins C dx fs)->fs.lookup f=some (.ref b)->v≠some (.ref b)):lK K H0 (ρ.set i s) (σ.set i v) H F:=by
 refine⟨fun j x vds f hs q=> ?_,fun j k x vds f hs s' q q2 hs'=> ?_⟩
 ·rcases aH q with ⟨_,z,_⟩|⟨z,q⟩
  ·have:=hn _ z;cases this
  ·obtain⟨a,dx,b,h1,h2,h3⟩:=h.ex j x vds f hs q
   refine⟨a,dx,b,by rw[ar z];exact h1,h2,fun k d w=> ?_⟩
   rcases aH w with ⟨rfl,z',l⟩|⟨z',w⟩
   ·obtain⟨C,fs,vs,us,g1,g2,g3,_⟩:=h2.ex
    intro e
    rw[List.getElem?_set]at e
    split at e
    ·split at e
     ·exact ho d z' j x vds f hs a C dx fs b q h1 g1 g3 (by simpa using e)
     ·cases e
    ·rename_i ne;exact absurd rfl ne
   ·rw[ar z'];exact h3 k d w
 ·rcases aH q with ⟨_,z,_⟩|⟨z,q⟩
  ·have:=hn _ z;cases this
  ·rcases aH q2 with ⟨_,z',_⟩|⟨z',q2⟩
   ·have:=hn _ z';rw[hs']at this;cases this
   ·exact h.one j k x vds f hs s' q q2 hs'
theorem RI.setVal (r:RI K c ρ σ H F) (i:Nat) {v:V} {d:D} (hf:k_ ly i) (h:et K F v d):RI K c (ρ.set i (some (.val d))) (σ.set i (some v)) H F where
 cel:=r.cel.set i (fun s' e=>by cases e;rfl) (fun d e=>by cases e)
 pin:=fun L hL a h=>by rw[ar (hf L hL).1.symm];exact r.pin L hL a h
 obj:=fun L hL hρ=>by
  rw[ar (hf L hL).1.symm]at hρ
  obtain⟨a,dx,fs,h0,h1,h2,h3,h4,h5,h6,h7,h8,h9⟩:=r.obj L hL hρ
  refine⟨a,dx,fs,h0,by rw[ar (hf L hL).1.symm];exact h1,h2,h3,h4,h5,h6,h7,fun p hp=> ?_,h9⟩
  rw[ar ((hf L hL).2 p hp).symm];exact h8 p hp
 odis:=fun L hL L' hL' q1 q2 a k1 k2=>by
  rw[ar (hf L hL).1.symm]at k1 q1
  rw[ar (hf L' hL').1.symm]at k2 q2
  exact r.odis L hL L' hL' q1 q2 a k1 k2
 fm:=r.fm
 ext:=r.ext
 val:=fun j e q=>by
  rcases aH q with ⟨rfl,z,l⟩|⟨z,q⟩
  ·cases z;exact⟨v,kl (by rw[<-r.len];exact l),h⟩
  ·rw[ar z];exact r.val j e q
 own:=fun j e q=>by
  rcases aH q with ⟨rfl,z,l⟩|⟨z,q⟩
  ·cases z
  ·rw[ar z];exact r.own j e q
 bor:=fun j e q=>by
  rcases aH q with ⟨rfl,z,l⟩|⟨z,q⟩
  ·cases z
  ·rw[ar z];exact r.bor j e q
 bh:=r.bh
 dis:=fun j k e e' a q1 q2 q3 q4=>by
  rcases aH q1 with ⟨rfl,z,l⟩|⟨z,q1⟩
  ·cases z
  ·rcases aH q2 with ⟨rfl,z',l⟩|⟨z',q2⟩
   ·cases z'
   ·rw[ar z]at q3;rw[ar z']at q4
    exact r.dis j k e e' a q1 q2 q3 q4
 len:=by simp[r.len]
theorem RI.setNone (r:RI K c ρ σ H F) (i:Nat) {v:Option V} (hf:k_ ly i):RI K c (ρ.set i none) (σ.set i v) H F where
 cel:=r.cel.set i (fun s' e=>by cases e) (fun d e=>by cases e)
 pin:=fun L hL a h=>by rw[ar (hf L hL).1.symm];exact r.pin L hL a h
 obj:=fun L hL hρ=>by
  rw[ar (hf L hL).1.symm]at hρ
  obtain⟨a,dx,fs,h0,h1,h2,h3,h4,h5,h6,h7,h8,h9⟩:=r.obj L hL hρ
  refine⟨a,dx,fs,h0,by rw[ar (hf L hL).1.symm];exact h1,h2,h3,h4,h5,h6,h7,fun p hp=> ?_,h9⟩
  rw[ar ((hf L hL).2 p hp).symm];exact h8 p hp
 odis:=fun L hL L' hL' q1 q2 a k1 k2=>by
  rw[ar (hf L hL).1.symm]at k1 q1
  rw[ar (hf L' hL').1.symm]at k2 q2
  exact r.odis L hL L' hL' q1 q2 a k1 k2
 fm:=r.fm
 ext:=r.ext
 val:=fun j e q=>by
  rcases aH q with ⟨rfl,z,l⟩|⟨z,q⟩
  ·cases z
  ·rw[ar z];exact r.val j e q
 own:=fun j e q=>by
  rcases aH q with ⟨rfl,z,l⟩|⟨z,q⟩
  ·cases z
  ·rw[ar z];exact r.own j e q
 bor:=fun j e q=>by
  rcases aH q with ⟨rfl,z,l⟩|⟨z,q⟩
  ·cases z
  ·rw[ar z];exact r.bor j e q
 bh:=r.bh
 dis:=fun j k e e' a q1 q2 q3 q4=>by
  rcases aH q1 with ⟨rfl,z,l⟩|⟨z,q1⟩
  ·cases z
  ·rcases aH q2 with ⟨rfl,z',l⟩|⟨z',q2⟩
   ·cases z'
   ·rw[ar z]at q3;rw[ar z']at q4
    exact r.dis j k e e' a q1 q2 q3 q4
 len:=by simp[r.len]
theorem RI.setOwn (r:RI K c ρ σ H F) (i:Nat) {a:Addr} {o:HO} {d:D} (hf:k_ ly i) (h:H a=some o) (hF:F a=none) (h0:c.H0 a=none) (q:jO K F o d)
  (ne:∀(j:Nat) d',j≠i->ρ[j]? =some (some (.own d'))->σ[j]? ≠some (some (.ref a)))
  (nb:∀(j:Nat) x vds f hs a' C dx fs,ρ[j]? =some (some (.cel x vds f hs))->σ[j]? =some (some (.ref a'))->H a'=some (.ins C dx fs)->fs.lookup f≠some (.ref a)):RI K c (ρ.set i (some (.own d))) (σ.set i (some (.ref a))) H F where
 cel:=r.cel.set i (fun s' e=>by cases e;rfl) (fun d e j x vds f hs a' C dx fs b q1 q2 q3 q4 z=>by cases z;exact nb j x vds f hs a' C dx fs q1 q2 q3 q4)
 pin:=fun L hL b h=>by rw[ar (hf L hL).1.symm];exact r.pin L hL b h
 obj:=fun L hL hρ=>by
  rw[ar (hf L hL).1.symm]at hρ
  obtain⟨b,dx,fs,h0,h1,h2,h3,h4,h5,h6,h7,h8,h9⟩:=r.obj L hL hρ
  refine⟨b,dx,fs,h0,by rw[ar (hf L hL).1.symm];exact h1,h2,h3,h4,h5,h6,h7,fun p hp=> ?_,h9⟩
  rw[ar ((hf L hL).2 p hp).symm];exact h8 p hp
 odis:=fun L hL L' hL' q1 q2 b k1 k2=>by
  rw[ar (hf L hL).1.symm]at k1 q1
  rw[ar (hf L' hL').1.symm]at k2 q2
  exact r.odis L hL L' hL' q1 q2 b k1 k2
 fm:=r.fm
 ext:=r.ext
 val:=fun j e q=>by
  rcases aH q with ⟨rfl,z,l⟩|⟨z,q⟩
  ·cases z
  ·rw[ar z];exact r.val j e q
 own:=fun j e q'=>by
  rcases aH q' with ⟨rfl,z,l⟩|⟨z,q'⟩
  ·cases z;exact⟨a,o,kl (by rw[<-r.len];exact l),h,hF,h0,q⟩
  ·rw[ar z];exact r.own j e q'
 bor:=fun j e q=>by
  rcases aH q with ⟨rfl,z,l⟩|⟨z,q⟩
  ·cases z
  ·rw[ar z];exact r.bor j e q
 bh:=r.bh
 dis:=fun j k e e' b q1 q2 q3 q4=>by
  rcases aH q1 with ⟨rfl,z,l⟩|⟨z,q1⟩
  ·rw[kl (by rw[<-r.len];exact l)]at q3
   cases q3
   rcases aH q2 with ⟨rfl,z',l⟩|⟨z',q2⟩
   ·rfl
   ·rw[ar z']at q4
    exact absurd q4 (ne k e' (Ne.symm z') q2)
  ·rw[ar z]at q3
   rcases aH q2 with ⟨rfl,z',l⟩|⟨z',q2⟩
   ·rw[kl (by rw[<-r.len];exact l)]at q4
    cases q4
    exact absurd q3 (ne j e (Ne.symm z) q1)
   ·rw[ar z']at q4
    exact r.dis j k e e' b q1 q2 q3 q4
 len:=by simp[r.len]
theorem RI.celNe (r:RI K c ρ σ H F) {H2:Hp} (k:aY H H2) {p:Addr} (hp:H p=none):∀(j:Nat) x vds f hs a' C dx fs,ρ[j]? =some (some (.cel x vds f hs))->σ[j]? =some (some (.ref a'))->H2 a'=some (.ins C dx fs)->fs.lookup f≠some (.ref p):=fun j x vds f hs a' C dx fs q1 q2 q3 q4=>by
 obtain⟨a,dx0,b,h1,h2,_⟩:=r.cel.ex j x vds f hs q1
 rw[q2]at h1
 cases h1
 obtain⟨C0,fs0,vs,us,g1,g2,g3,g4,_⟩:=h2.ex
 rw[k _ _ g1]at q3
 cases q3
 rw[g3]at q4
 cases q4
 rw[hp]at g4
 cases g4
theorem RI.setNew (r:RI K c ρ σ H F) (i:Nat) {a:Addr} {o:HO} {d:D} (hf:k_ ly i) (h:H a=none) (q:jO K F o d):RI K c (ρ.set i (some (.own d))) (σ.set i (some (.ref a))) (bK H a o) F:=by
 have r':=r.step (bZ.layOwn r.sub (o:=o) h)
 refine r'.setOwn i hf az (r.sub.free h) (r.ext.keep.free h) q (fun j d' _ hj e=> ?_) (r.celNe (cy h) h)
 obtain⟨b,o',h1,h2,_⟩:=r.own j d' hj
 rw[e]at h1
 cases h1
 rw[h]at h2
 cases h2
theorem RI.change (r:RI K c ρ σ H F) {i:Nat} {a:Addr} {o o':HO} {d d':D} (hi:ρ[i]? =some (some (.own d))) (hs:σ[i]? =some (some (.ref a))) (q:jO K F o' d'):
  RI K c (ρ.set i (some (.own d'))) σ (bK H a o') F:=by
 obtain⟨b,u,h1,h2,h3,h4,h5⟩:=r.own i d hi
 rw[hs]at h1
 cases h1
 refine⟨⟨fun x y e=> ?_,fun x y e=> ?_,r.ext.grow,r.ext.new⟩,fun j e w=> ?_,fun j e w=> ?_,fun j e w=> ?_,r.bh,fun j k e e' x q1 q2 q3 q4=> ?_,by simp[r.len],fun L hL hρ=> ?_,fun L hL L' hL' q1 q2=> ?_,r.fm,⟨fun j x vds f hs w=> ?_,fun j k x vds f hs s w w2 hs'=> ?_⟩,r.pin⟩
 ·rw[av (fun z=>by rw[z,h3]at e;cases e)];exact r.sub x y e
 ·rw[av (fun z=>by rw[z,h4]at e;cases e)];exact r.ext.keep x y e
 ·rcases aH w with ⟨rfl,z,l⟩|⟨z,w⟩
  ·cases z
  ·exact r.val j e w
 ·rcases aH w with ⟨rfl,z,l⟩|⟨z,w⟩
  ·cases z;exact⟨a,o',hs,az,h3,h4,q⟩
  ·obtain⟨x,y,k1,k2,k3,k4,k5⟩:=r.own j e w
   refine⟨x,y,k1,?_,k3,k4,k5⟩
   rw[av (fun zz=>by subst zz;exact z (r.dis i j d e x hi w hs k1))]
   exact k2
 ·rcases aH w with ⟨rfl,z,l⟩|⟨z,w⟩
  ·cases z
  ·exact r.bor j e w
 ·have own_of:∀{l:Nat} {x:D},(ρ.set i (some (.own d')))[l]? =some (some (.own x))->∃y,ρ[l]? =some (some (.own y)):=fun {l x} w=>by
   rcases aH w with ⟨rfl,z,_⟩|⟨z,w⟩
   ·exact⟨d,hi⟩
   ·exact⟨x,w⟩
  obtain⟨y1,w1⟩:=own_of q1
  obtain⟨y2,w2⟩:=own_of q2
  exact r.dis j k y1 y2 x w1 w2 q3 q4
 ·have hρ':ρ[L.x]? =some (some .obj):=by
   rcases aH hρ with ⟨_,z,_⟩|⟨_,w⟩
   ·cases z
   ·exact w
  obtain⟨b,dx,fs,k0,k1,k2,k3,k4⟩:=r.obj L hL hρ'
  have n1:b≠a:=fun z=>by subst z;rw[k2]at h2;cases h2;cases h5
  have n2:dx≠a:=fun z=>by subst z;rw[k3]at h2;cases h2;cases h5
  exact⟨b,dx,fs,k0,k1,by rw[av n1];exact k2,by rw[av n2];exact k3,k4⟩
 ·refine r.odis L hL L' hL' ?_ ?_
  ·rcases aH q1 with ⟨_,z,_⟩|⟨_,w⟩
   ·cases z
   ·exact w
  ·rcases aH q2 with ⟨_,z,_⟩|⟨_,w⟩
   ·cases z
   ·exact w
 ·rcases aH w with ⟨rfl,z,l⟩|⟨z,w⟩
  ·cases z
  ·obtain⟨b,dx,bb,k1,k2,k3⟩:=r.cel.ex j x vds f hs w
   obtain⟨C,fs,vs,us,g1,g2,g3,g4,g5⟩:=k2.ex
   have n1:b≠a:=fun z=>by subst z;rw[g1]at h2;cases h2;cases h5
   have n2:dx≠a:=fun z=>by subst z;rw[k2.own]at h2;cases h2;cases h5
   have n3:bb≠a:=fun z=>by subst z;exact k3 i d hi hs
   refine⟨b,dx,bb,k1,⟨⟨C,fs,vs,us,by rw[av n1];exact g1,g2,g3,by rw[av n3];exact g4,g5⟩,by rw[av n2];exact k2.own,k2.fa,k2.fd,k2.fb,k2.za,k2.zd,k2.zb⟩,fun k e w2=> ?_⟩
   rcases aH w2 with ⟨rfl,z',l⟩|⟨z',w2⟩
   ·exact k3 i d hi
   ·exact k3 k e w2
 ·rcases aH w with ⟨rfl,z,l⟩|⟨z,w⟩
  ·cases z
  ·rcases aH w2 with ⟨rfl,z',l⟩|⟨z',w2⟩
   ·cases z';cases hs'
   ·exact r.cel.one j k x vds f hs s w w2 hs'
end
def frz1 (i:Nat) (ρ:ai):ai:=match ρ[i]? with
 |some (some (.own d))=>ρ.set i (some (.val d))
 |_=>ρ
def frz (L:List Nat) (ρ:ai):ai:=L.foldl (fun r i=>frz1 i r) ρ
theorem RI.frz1 {K:PySem.W.Frag} {c:d_ ly} {ρ:ai} {σ:St} {H F:Hp} (r:RI K c ρ σ H F) (i:Nat):∃F',aY F F'/\RI K c (frz1 i ρ) σ H F':=by
 unfold L2.Pu.frz1
 split
 ·rename_i d hi
  obtain⟨a,o,h1,h2,h3,h4,h5⟩:=r.own i d hi
  have g:aY F (bK F a o):=cy h3
  refine⟨bK F a o,g,⟨⟨fun b u e=> ?_,r.ext.keep,r.ext.grow.trans g,fun b e=> ?_⟩,fun j e w=> ?_,fun j e w=> ?_,fun j e w=> ?_,r.bh,fun j k e e' x q1 q2 q3 q4=> ?_,by simp[r.len],fun L hL hρ=> ?_,fun L hL L' hL' q1 q2=> ?_,r.fm.trans g,⟨fun j x vds f hs w=> ?_,fun j k x vds f hs s w w2 hs'=> ?_⟩,r.pin⟩⟩
  ·by_cases z:b=a
   ·subst z;rw[az]at e;rw[h2];exact e
   ·rw[av z]at e;exact r.sub b u e
  ·by_cases z:b=a
   ·subst z;exact .inr h4
   ·rw[av z]at e;exact r.ext.new b e
  ·rcases aH w with ⟨rfl,z,l⟩|⟨z,w⟩
   ·cases z
    refine⟨.ref a,h1,?_⟩
    cases h5 with
    |lst q=>exact .lst az (q.mono g)
    |dic q n=>exact .dic az (q.mono g) n
   ·obtain⟨v,k1,k2⟩:=r.val j e w;exact⟨v,k1,k2.mono g⟩
  ·rcases aH w with ⟨rfl,z,l⟩|⟨z,w⟩
   ·cases z
   ·obtain⟨x,y,k1,k2,k3,k4,k5⟩:=r.own j e w
    refine⟨x,y,k1,k2,?_,k4,k5.mono g⟩
    rw[av (fun zz=>by subst zz;exact z (r.dis i j d e x hi w h1 k1))]
    exact k3
  ·rcases aH w with ⟨rfl,z,l⟩|⟨z,w⟩
   ·cases z
   ·exact r.bor j e w
  ·rcases aH q1 with ⟨rfl,z,l⟩|⟨z,q1⟩
   ·cases z
   ·rcases aH q2 with ⟨rfl,z',l⟩|⟨z',q2⟩
    ·cases z'
    ·exact r.dis j k e e' x q1 q2 q3 q4
  ·have hρ':ρ[L.x]? =some (some .obj):=by
    rcases aH hρ with ⟨_,z,_⟩|⟨_,w⟩
    ·cases z
    ·exact w
   obtain⟨b,dx,fs,k0,k1,k2,k3,k4,k5,k6⟩:=r.obj L hL hρ'
   have n1:b≠a:=fun z=>by subst z;rw[k2]at h2;cases h2;cases h5
   have n2:dx≠a:=fun z=>by subst z;rw[k3]at h2;cases h2;cases h5
   exact⟨b,dx,fs,k0,k1,k2,k3,by rw[av n1];exact k4,by rw[av n2];exact k5,k6⟩
  ·refine r.odis L hL L' hL' ?_ ?_
   ·rcases aH q1 with ⟨_,z,_⟩|⟨_,w⟩
    ·cases z
    ·exact w
   ·rcases aH q2 with ⟨_,z,_⟩|⟨_,w⟩
    ·cases z
    ·exact w
  ·rcases aH w with ⟨rfl,z,l⟩|⟨z,w⟩
   ·cases z
   ·obtain⟨b,dx,bb,k1,k2,k3⟩:=r.cel.ex j x vds f hs w
    obtain⟨C,fs,vs,us,g1,g2,g3,g4,g5,g6,g7⟩:=k2.ex
    have n1:b≠a:=fun z=>by subst z;rw[g1]at h2;cases h2;cases h5
    have n2:dx≠a:=fun z=>by subst z;rw[k2.own]at h2;cases h2;cases h5
    have n3:bb≠a:=fun z=>by subst z;exact k3 i d hi h1
    refine⟨b,dx,bb,k1,⟨⟨C,fs,vs,us,g1,g2,g3,g4,g5.mono g,g6.mono g,g7⟩,k2.own,by rw[av n1];exact k2.fa,by rw[av n2];exact k2.fd,by rw[av n3];exact k2.fb,k2.za,k2.zd,k2.zb⟩,fun k e w2=> ?_⟩
    rcases aH w2 with ⟨rfl,z',l⟩|⟨z',w2⟩
    ·cases z'
    ·exact k3 k e w2
  ·rcases aH w with ⟨rfl,z,l⟩|⟨z,w⟩
   ·cases z
   ·rcases aH w2 with ⟨rfl,z',l⟩|⟨z',w2⟩
    ·cases z';cases hs'
    ·exact r.cel.one j k x vds f hs s w w2 hs'
 ·exact⟨F,aY.refl _,r⟩
theorem RI.frz {K:PySem.W.Frag} {c:d_ ly} {σ:St} {H:Hp}:∀(L:List Nat) {ρ:ai} {F:Hp},RI K c ρ σ H F->∃F',aY F F'/\RI K c (frz L ρ) σ H F'
 |[],ρ,F,r=>⟨F,aY.refl _,r⟩
 |i::L,ρ,F,r=>by
  obtain⟨F1,g1,r1⟩:=r.frz1 i
  obtain⟨F2,g2,r2⟩:=RI.frz L r1
  exact⟨F2,g1.trans g2,r2⟩
end L2.Pu
namespace L2.Pu
open PySem PySem.Spec PyProof.Rows
variable {ly:List gA}
inductive R (α:Type)where
 |ok (a:α)|err (c:Str) (ρ:ai)|bad
def R.bind {α β:Type}:R α->(α->R β)->R β
 | .ok a,f=>f a
 | .err c ρ,_=> .err c ρ
 | .bad,_=> .bad
instance:Monad R where
 pure:=R.ok
 bind:=R.bind
@[simp] theorem ax {α β:Type} (a:α) (f:α->R β):(R.ok a>>=f)=f a:=rfl
@[simp] theorem Gi {α β:Type} (c:Str) (ρ:ai) (f:α->R β):(R.err c ρ>>=f)=R.err c ρ:=rfl
@[simp] theorem Gj {α β:Type} (f:α->R β):(R.bad>>=f)=R.bad:=rfl
@[simp] theorem H9 {α:Type} (a:α):(pure a:R α)=R.ok a:=rfl
def R.of {α:Type}:Option α->R α
 |some a=> .ok a
 |none=> .bad
@[simp] theorem cJ {α:Type} (a:α):R.of (some a)= .ok a:=rfl
@[simp] theorem Ha {α:Type}:R.of (none:Option α)= .bad:=rfl
def aJ {α:Type} (c:d_ ly) (r:R α) (P:α->Prop):Prop:=match r with
 | .ok a=>P a
 | .err e ρ=>c.Er e ρ
 | .bad=>False
theorem aJ.imp {α:Type} {c:d_ ly} {r:R α} {P P':α->Prop} (h:aJ c r P) (w:∀a,r= .ok a->P a->P' a):aJ c r P':=by
 cases r with
 |ok a=>exact w a rfl h
 |err e ρ=>exact h
 |bad=>exact h
theorem aJ.bind {α β:Type} {c:d_ ly} {r:R α} {f:α->R β} {P:β->Prop}:aJ c (r>>=f) P<->aJ c r fun a=>aJ c (f a) P:=by
 cases r<;>exact Iff.rfl
theorem aJ.of {α:Type} {c:d_ ly} {r:Option α} {P:α->Prop} (h:aJ c (R.of r) P):∃a,r=some a/\P a:=by
 cases r with
 |none=>exact h.elim
 |some a=>exact⟨a,rfl,h⟩
def cG (K:PySem.W.Frag) (H F:Hp) (v:V) (d:D):Prop:=et K F v d\/∃a o,v= .ref a/\H a=some o/\jO K F o d
theorem cG.mono {K:PySem.W.Frag} {H F H' F':Hp} {v:V} {d:D} (e:bZ H F H' F'):cG K H F v d->cG K H' F' v d
 | .inl r=> .inl (r.mono e.grow)
 | .inr ⟨a,o,h1,h2,h3⟩=> .inr ⟨a,o,h1,e.keep _ _ h2,h3.mono e.grow⟩
theorem cG.lst {K:PySem.W.Frag} {H F:Hp} {v:V} {ds:List D} (s:aY F H) (h:cG K H F v (.lst ds)):∃a vs,v= .ref a/\H a=some (.lst vs)/\Reps K F vs ds:=by
 rcases h with h|⟨a,o,h1,h2,q⟩
 ·obtain⟨a,vs,e,h,r⟩:=h.inv
  exact⟨a,vs,e,s _ _ h,r⟩
 ·cases q with
  |lst r=>exact⟨_,_,h1,h2,r⟩
theorem cG.dic {K:PySem.W.Frag} {H F:Hp} {v:V} {ds:List (a_×D)} (s:aY F H) (h:cG K H F v (.dic ds)):∃a vs,v= .ref a/\H a=some (.dK vs)/\RepK K F vs ds/\(vs.map (·.1)).Nodup:=by
 rcases h with h|⟨a,o,h1,h2,q⟩
 ·obtain⟨a,vs,e,h,r⟩:=h.inv
  exact⟨a,vs,e,s _ _ h,r⟩
 ·cases q with
  |dic r n=>exact⟨_,_,h1,h2,r,n⟩
def IC:D->Bool
 | .lst _=>true
 | .dic _=>true
 |_=>false
theorem cG.in {K:PySem.W.Frag} {H F:Hp} {v:V} {d:D} (h:cG K H F v d) (n:IC d=false):zy K F v d:=by
 rcases h with h|⟨a,o,h1,h2,q⟩
 ·exact h.inv
 ·cases q<;>cases n
theorem cG.tup {K:PySem.W.Frag} {H F:Hp} {v:V} {ds:List D} (s:aY F H) (h:cG K H F v (.tup ds)):∃a vs,v= .ref a/\H a=some (.tup vs)/\Reps K F vs ds:=by
 obtain⟨a,vs,e,h,r⟩:=h.in rfl
 exact⟨a,vs,e,s _ _ h,r⟩
theorem cG.scr {K:PySem.W.Frag} {H F:Hp} {v:V} {ns:List Int} (s:aY F H) (h:cG K H F v (.scr ns)):∃a,v= .ref a/\eC K H a (ns.map V.int):=by
 obtain⟨a,e,h⟩:=h.in rfl
 exact⟨a,e,s.seq h⟩
theorem cG.int {K:PySem.W.Frag} {H F:Hp} {v:V} {i:Int} (h:cG K H F v (.int i)):v= .int i:=h.in rfl
theorem cG.bl {K:PySem.W.Frag} {H F:Hp} {v:V} {i:Bool} (h:cG K H F v (.bl i)):v= .bl i:=h.in rfl
theorem cG.str {K:PySem.W.Frag} {H F:Hp} {v:V} {i:Str} (h:cG K H F v (.str i)):v= .str i:=h.in rfl
theorem cG.non {K:PySem.W.Frag} {H F:Hp} {v:V} (h:cG K H F v .non):v= .non:=h.in rfl
inductive jP (K:PySem.W.Frag) (H F:Hp):List V->List D->Prop
 |nil:jP K H F [] []
 |cons {v:V} {d:D} {vs:List V} {ds:List D}:cG K H F v d->jP K H F vs ds->jP K H F (v::vs) (d::ds)
def i6 (K:PySem.W.Frag) (x:Str) (cls:Value):Prop:=∃C,cls= .ref C/\PySem.W.nsIn K mainGlobals x=some (some (.ref C))
def Fu (X:Cx) (c:d_ ly) (σ:St):XK:=fun cls _ H'=>∃x ρ F',i6 X.K x cls/\RI X.K c ρ σ H' F'/\c.Er x ρ
def Ez (X:Cx) (c:d_ ly):Prop:=(iU X/\∀pins σ ρ H F s a cls x,aF X pins σ H s->RI X.K c ρ σ H F->Fl X pins H s.heap a cls->i6 X.K x cls->c.Er x ρ->X.xe (.ref a) s)\/(∀x ρ,¬c.Er x ρ)\/(X.stack=X.outer/\jG (nN X.prog X.w) X (Fu X c))
abbrev jQ (ly:List gA) (X:Cx):Type:={c:d_ ly // Ez X c}
theorem Ez.no {X:Cx} {c:d_ ly} (h:∀x ρ,¬c.Er x ρ):Ez X c:= .inr (.inl h)
theorem w6 {X:Cx} (c:jQ ly X):jG (nN X.prog X.w) X (Fu X c.1):=fun pins σ H s e s' I h=>by
 rcases c.2 with ⟨hp,thr⟩|no|⟨_,ps⟩
 ·obtain⟨a,cls,H',rfl,I',fl,x,ρ,F',ec,ri,er⟩:=Ex I hp h
  exact thr pins σ ρ H' F' s' a cls x I' ri fl ec er
 ·obtain⟨a,cls,H',_,_,_,_,_,_,x,ρ,F',ec,ri,er⟩:=h
  exact absurd er (no x ρ)
 ·exact ps pins σ H s e s' I h
theorem Ez.plain {X:Cx} {c:d_ ly} (h:Ez X c) (hst:X.stack=X.env::X.outer):(iU X/\∀pins σ ρ H F s a cls x,aF X pins σ H s->RI X.K c ρ σ H F->Fl X pins H s.heap a cls->i6 X.K x cls->c.Er x ρ->X.xe (.ref a) s)\/∀x ρ,¬c.Er x ρ:=by
 rcases h with h|h|⟨h,_⟩
 ·exact .inl h
 ·exact .inr h
 ·rw[h]at hst
  have:=congrArg List.length hst
  simp at this
def tQ (K:PySem.W.Frag) (c:d_ ly) (f:ai->R D):TE:=fun σ H Q=>∃F ρ,RI K c ρ σ H F/\aJ c (f ρ) fun d=>∀v H' F',bZ H F H' F'->et K F' v d->Q v H'
def tB' (K:PySem.W.Frag) (c:d_ ly) (f:ai->R D):TE:=fun σ H Q=>∃F ρ,RI K c ρ σ H F/\aJ c (f ρ) fun d=>∀v H' F',bZ H F H' F'->cG K H' F' v d->Q v H'
def tT (K:PySem.W.Frag) (c:d_ ly) (f:ai->R Bool):TT:=fun σ H Q=>∃F ρ,RI K c ρ σ H F/\aJ c (f ρ) fun b=>∀H' F',bZ H F H' F'->Q b H'
def Hb (K:PySem.W.Frag) (c:d_ ly) (f:ai->R (List D)):TA:=fun σ H Q=>∃F ρ,RI K c ρ σ H F/\aJ c (f ρ) fun ds=>∀vs H' F',bZ H F H' F'->Reps K F' vs ds->Q vs H'
def Gk (K:PySem.W.Frag) (c:d_ ly) (f:ai->R (List D)):TA:=fun σ H Q=>∃F ρ,RI K c ρ σ H F/\aJ c (f ρ) fun ds=>∀vs H' F',bZ H F H' F'->jP K H' F' vs ds->Q vs H'
def PQ (ly:List gA) (X:Cx) (e:Expr) (f:ai->R D):Prop:=∀c:jQ ly X,PE X e (tQ X.K c.1 f)
def PB (ly:List gA) (X:Cx) (e:Expr) (f:ai->R D):Prop:=∀c:jQ ly X,PE X e (tB' X.K c.1 f)
def sA (ly:List gA) (X:Cx) (e:Expr) (f:ai->R Bool):Prop:=∀c:jQ ly X,PT X e (tT X.K c.1 f)
def qz (ly:List gA) (X:Cx) (e:Expr) (f:ai->R Bool):Prop:=∀c:jQ ly X,PW X e (tT X.K c.1 f)
def w8 (ly:List gA) (X:Cx) (es:List Expr) (f:ai->R (List D)):Prop:=∀c:jQ ly X,PA X es (Hb X.K c.1 f)
def EA (ly:List gA) (X:Cx) (es:List Expr) (f:ai->R (List D)):Prop:=∀c:jQ ly X,PA X es (Gk X.K c.1 f)
theorem PE.weak {X:Cx} {e:Expr} {t t':TE} (h:PE X e t) (w:∀σ H Q,t' σ H Q->t σ H Q):PE X e t':=fun pins s σ H Q I q=>h pins s σ H Q I (w σ H Q q)
theorem PT.weak {X:Cx} {e:Expr} {t t':TT} (h:PT X e t) (w:∀σ H Q,t' σ H Q->t σ H Q):PT X e t':=fun pins s σ H Q I q=>h pins s σ H Q I (w σ H Q q)
theorem PW.weak {X:Cx} {e:Expr} {t t':TT} (h:PW X e t) (w:∀σ H Q,t' σ H Q->t σ H Q):PW X e t':=fun wh pins s σ H Q I q=>h wh pins s σ H Q I (w σ H Q q)
theorem PA.weak {X:Cx} {e:List Expr} {t t':TA} (h:PA X e t) (w:∀σ H Q,t' σ H Q->t σ H Q):PA X e t':=fun pos pins s σ H Q I q=>h pos pins s σ H Q I (w σ H Q q)
theorem PS.weak {X:Cx} {e:Stmt} {t t':TS} (h:PS X e t) (w:∀D σ H,t' D σ H->t D σ H):PS X e t':=fun pins s σ H D I q=>h pins s σ H D I (w D σ H q)
theorem pQ.weak {X:Cx} {e:List Stmt} {t t':TS} (h:pQ X e t) (w:∀D σ H,t' D σ H->t D σ H):pQ X e t':=fun pins s σ H D I q=>h pins s σ H D I (w D σ H q)
theorem PG.weak {X:Cx} {e:Expr} {t t':TG} (h:PG X e t) (w:∀v σ H Q,t' v σ H Q->t v σ H Q):PG X e t':=fun pins s σ H v u Q I r q=>h pins s σ H v u Q I r (w v σ H Q q)
theorem two {K:PySem.W.Frag} {c:d_ ly} {fa fb:ai->R D} {g:D->D->R D} {σ:St} {H:Hp} {Q:VK} (h:tQ K c (fun ρ=>fa ρ>>=fun x=>fb ρ>>=fun y=>g x y) σ H Q)
  {T:V->V->Hp->Prop} (k:∀F H2 F2 v u x y,bZ H F H2 F2->cG K H2 F2 v x->cG K H2 F2 u y->aJ c (g x y) (fun d=>∀w H' F',bZ H F H' F'->et K F' w d->Q w H')->T v u H2):
  tB' K c fa σ H fun v H1=>tB' K c fb σ H1 fun u H2=>T v u H2:=by
 obtain⟨F,ρ,ri,w⟩:=h
 refine⟨F,ρ,ri,(aJ.bind.mp w).imp fun x hx w1 v H1 F1 e1 r1=>⟨F1,ρ,ri.step e1,(aJ.bind.mp w1).imp fun y hy w2 u H2 F2 e2 r2=> ?_⟩⟩
 exact k F H2 F2 v u x y (e1.trans e2) (r1.mono e2) r2 w2
def jB (K:PySem.W.Frag) (r:R2) (g:D->D->Option D):Prop:=∀v u x y d H F Q,aY F H->cG K H F v x->cG K H F u y->g x y=some d->(∀w H' F',bZ H F H' F'->et K F' w d->Q w H')->r v u H Q
def Gm (K:PySem.W.Frag) (r:V->Hp->VK->Prop) (g:D->Option D):Prop:=∀v x d H F Q,aY F H->cG K H F v x->g x=some d->(∀w H' F',bZ H F H' F'->et K F' w d->Q w H')->r v H Q
def l0 (K:PySem.W.Frag) (r:List V->Hp->VK->Prop) (g:List D->Option D):Prop:=∀vs ds d H F Q,aY F H->jP K H F vs ds->g ds=some d->(∀w H' F',bZ H F H' F'->et K F' w d->Q w H')->r vs H Q
section
variable {X:Cx} {a b e:Expr} {es:List Expr} {fa fb f:ai->R D} {fs:ai->R (List D)} {pos:Pos}
theorem PQ.bo (h:PQ ly X e f):PB ly X e f:=fun c=>PE.weak (h c) fun σ H Q ⟨F,ρ,ri,w⟩=>⟨F,ρ,ri,w.imp fun d _ k v H' F' e r=>k v H' F' e (.inl r)⟩
def au (i:Nat):ai->R D:=fun ρ=>match ρ[i]? with
 |some (some (.val d))=> .ok d
 |_=> .bad
def af (i:Nat):ai->R D:=fun ρ=>match ρ[i]? with
 |some (some .obj)=> .bad
 |some (some (.cel ..))=> .bad
 |some (some s)=> .ok s.data
 |_=> .bad
theorem HN (h:PE X e (Br i)):PQ ly X e (au i):=fun c=>PE.weak h fun σ H Q ⟨F,ρ,ri,w⟩=>by
 unfold au at w
 split at w
 ·rename_i d hd
  obtain⟨v,h1,h2⟩:=ri.val i d hd
  exact⟨v,h1,w v H F (bZ.refl ri.sub) h2⟩
 ·exact w.elim
theorem HP (h:PE X e (Br i)):PB ly X e (af i):=fun c=>PE.weak h fun σ H Q ⟨F,ρ,ri,w⟩=>by
 unfold af at w
 split at w
 ·exact w.elim
 ·exact w.elim
 ·rename_i s hno1 hno2 hs
  cases s with
  |obj=>exact absurd rfl hno1
  |cel x vds f hs=>exact absurd rfl (hno2 _ _ _ _)
  |val d=>obtain⟨v,h1,h2⟩:=ri.val i d hs;exact⟨v,h1,w v H F (bZ.refl ri.sub) (.inl h2)⟩
  |own d=>obtain⟨a,o,h1,h2,h3,h4,h5⟩:=ri.own i d hs;exact⟨_,h1,w _ H F (bZ.refl ri.sub) (.inr ⟨a,o,rfl,h2,h5⟩)⟩
  |bor d=>obtain⟨a,o,h1,h2,h3⟩:=ri.bor i d hs;exact⟨_,h1,w _ H F (bZ.refl ri.sub) (.inr ⟨a,o,rfl,ri.ext.keep _ _ (ri.bh _ _ h2),h3.mono ri.ext.grow⟩)⟩
 ·exact w.elim
theorem ao (i:Nat) {x:Str} (hN:X.N[i]? =some x:=by rfl) (hv:uo X.env.scope x:=by first|exact Or.inl rfl|exact Or.inr (Or.inl rfl)|exact Or.inr (Or.inr rfl)) (hd:(x==("__debug__":Str))=false:=by decide)
  (hcd:(x==("__classdict__":Str))=false:=by decide):PQ ly X (.Name x pos) (au i):=HN (pv i hN hv hd hcd)
theorem ae (i:Nat) {x:Str} (hN:X.N[i]? =some x:=by rfl) (hv:uo X.env.scope x:=by first|exact Or.inl rfl|exact Or.inr (Or.inl rfl)|exact Or.inr (Or.inr rfl)) (hd:(x==("__debug__":Str))=false:=by decide)
  (hcd:(x==("__classdict__":Str))=false:=by decide):PB ly X (.Name x pos) (af i):=HP (pv i hN hv hd hcd)
def fC (d:D):ai->R D:=fun _=> .ok d
theorem ak {i:Int} {j:Nat}:PQ ly X (.Constant (.int i) j pos) (fC (.int i)):=fun c=>PE.weak yB fun σ H Q ⟨F,ρ,ri,w⟩=>w _ H F (bZ.refl ri.sub) (.int i)
theorem iy {i:Bool} {j:Nat}:PQ ly X (.Constant (.bool i) j pos) (fC (.bl i)):=fun c=>PE.weak FC fun σ H Q ⟨F,ρ,ri,w⟩=>w _ H F (bZ.refl ri.sub) (.bl i)
theorem zA {j:Nat}:PQ ly X (.Constant .none j pos) (fC .non):=fun c=>PE.weak DP fun σ H Q ⟨F,ρ,ri,w⟩=>w _ H F (bZ.refl ri.sub) .non
theorem oJ {x:Str} {j:Nat}:PQ ly X (.Constant (.str x) j pos) (fC (.str x)):=fun c=>PE.weak DQ fun σ H Q ⟨F,ρ,ri,w⟩=>w _ H F (bZ.refl ri.sub) (.str x)
theorem w9 {x:Str} {i:Int} {t:Tok} (hg:Gl X x) (hm:X.mg x=some (.int i t)) (hd:(x==("__debug__":Str))=false:=by decide):PQ ly X (.Name x pos) (fC (.int i)):=
 fun c=>PE.weak (vK hg hm (v:= .int i) ⟨t,rfl⟩ hd) fun σ H Q ⟨F,ρ,ri,w⟩=>w _ H F (bZ.refl ri.sub) (.int i)
def f2 (g:D->D->Option D) (fa fb:ai->R D):ai->R D:=fun ρ=>fa ρ>>=fun x=>fb ρ>>=fun y=>R.of (g x y)
theorem aG {op:Operator} {r:R2} {g:D->D->Option D} (ho:kh X (binaryOp op) r) (sem:jB X.K r g) (ha:PB ly X a fa) (hb:PB ly X b fb):PQ ly X (.BinOp a op b pos) (f2 g fa fb):=fun c=>
 PE.weak (De ho (ha c) (hb c)) fun σ H Q h=>two h fun F H2 F2 v u x y e rx ry w=>by
  obtain⟨d,hd,k⟩:=w.of
  exact sem v u x y d H2 F2 Q e.sub rx ry hd fun w H' F' e' r'=>k w H' F' (e.trans e') r'
def f1 (g:D->Option D) (fa:ai->R D):ai->R D:=fun ρ=>fa ρ>>=fun x=>R.of (g x)
theorem Cg {op:UnaryOp} {r:V->Hp->VK->Prop} {g:D->Option D} (ho:GX X (unaryOp op) r) (sem:Gm X.K r g) (ha:PB ly X a fa):PQ ly X (.UnaryOp op a pos) (f1 g fa):=fun c=>
 PE.weak (Df ho (ha c)) fun σ H Q ⟨F,ρ,ri,w⟩=>⟨F,ρ,ri,(aJ.bind.mp w).imp fun x hx w1 v H1 F1 e1 r1=>by
  obtain⟨d,hd,k⟩:=w1.of
  exact sem v x d H1 F1 Q e1.sub r1 hd fun w H' F' e' r'=>k w H' F' (e1.trans e') r'⟩
theorem wa {op:CmpOp} {r:R2} {g:D->D->Option D} (ho:kh X (compareOp op) r) (sem:jB X.K r g) (ha:PB ly X a fa) (hb:PB ly X b fb) (hm:behindInMarks op b=false:=by first|exact yP _|with_unfolding_all rfl):
  PQ ly X (.Compare a [op] [b] pos) (f2 g fa fb):=fun c=>
 PE.weak (Bx ho (ha c) (hb c) hm) fun σ H Q h=>two h fun F H2 F2 v u x y e rx ry w=>by
  obtain⟨d,hd,k⟩:=w.of
  exact sem v u x y d H2 F2 Q e.sub rx ry hd fun w H' F' e' r'=>k w H' F' (e.trans e') r'
def fT (f:ai->R D):ai->R Bool:=fun ρ=>f ρ>>=fun d=>match d with
 | .bl b=> .ok b
 |_=> .bad
theorem EB {t:TE} (h:PT X e (Dg t)) (w:∀σ H Q,tQ X.K c f σ H Q->t σ H Q):PT X e (tT X.K c (fT f)):=PT.weak h fun σ H Q ⟨F,ρ,ri,k⟩=>by
 refine w σ H _ ⟨F,ρ,ri,(aJ.bind.mp k).imp fun d _ k1 v H' F' e r=> ?_⟩
 cases d with
 |bl b=>cases r;exact⟨b,rfl,k1 H' F' e⟩
 |_=>exact k1.elim
theorem c0 {op:CmpOp} {r:R2} {g:D->D->Option D} (ho:kh X (compareOp op) r) (sem:jB X.K r g) (ha:PB ly X a fa) (hb:PB ly X b fb) (hm:behindInMarks op b=false:=by first|exact yP _|with_unfolding_all rfl):
  sA ly X (.Compare a [op] [b] pos) (fT (f2 g fa fb)):=fun c=>EB (By ho (ha c) (hb c) hm) fun σ H Q h=>two h fun F H2 F2 v u x y e rx ry w=>by
  obtain⟨d,hd,k⟩:=w.of
  exact sem v u x y d H2 F2 Q e.sub rx ry hd fun w H' F' e' r'=>k w H' F' (e.trans e') r'
def aj:ai->R (List D):=fun _=> .ok []
def aa (f:ai->R D) (fs:ai->R (List D)):ai->R (List D):=fun ρ=>f ρ>>=fun x=>fs ρ>>=fun xs=> .ok (x::xs)
theorem al:w8 ly X [] aj:=fun c=>PA.weak iK fun σ H Q ⟨F,ρ,ri,w⟩=>w [] H F (bZ.refl ri.sub) .nil
theorem ac (h:PQ ly X e f) (hr:w8 ly X es fs) (hs:starEach (e::es) X.env=(false,eval e X.env)::starEach es X.env:=by rfl):w8 ly X (e::es) (aa f fs):=fun c=>
 PA.weak (dY (h c) (hr c) hs) fun σ H Q ⟨F,ρ,ri,w⟩=>⟨F,ρ,ri,(aJ.bind.mp w).imp fun x hx w1 v H1 F1 e1 r1=>⟨F1,ρ,ri.step e1,(aJ.bind.mp w1).imp fun y hy w2 u H2 F2 e2 r2=>
  w2 _ H2 F2 (e1.trans e2) (.cons (r1.mono e2.grow) r2)⟩⟩
theorem aL:EA ly X [] aj:=fun c=>PA.weak iK fun σ H Q ⟨F,ρ,ri,w⟩=>w [] H F (bZ.refl ri.sub) .nil
theorem aB (h:PB ly X e f) (hr:EA ly X es fs) (hs:starEach (e::es) X.env=(false,eval e X.env)::starEach es X.env:=by rfl):EA ly X (e::es) (aa f fs):=fun c=>
 PA.weak (dY (h c) (hr c) hs) fun σ H Q ⟨F,ρ,ri,w⟩=>⟨F,ρ,ri,(aJ.bind.mp w).imp fun x hx w1 v H1 F1 e1 r1=>⟨F1,ρ,ri.step e1,(aJ.bind.mp w1).imp fun y hy w2 u H2 F2 e2 r2=>
  w2 _ H2 F2 (e1.trans e2) (.cons (r1.mono e2) r2)⟩⟩
def lim:Nat:=100000
theorem fY:lim<=sizeLine:=by decide
def iW (fs:ai->R (List D)):ai->R D:=fun ρ=>fs ρ>>=fun ds=>if ds.length<=lim then .ok (.tup ds)else .bad
def iM (fs:ai->R (List D)):ai->R D:=fun ρ=>fs ρ>>=fun ds=>if ds.length<=lim then .ok (.lst ds)else .bad
theorem iA {x1:Nat} (h:w8 ly X es fs):PQ ly X (.Tuple es x1 pos) (iW fs):=fun c=>PE.weak (Ea (h c)) fun σ H Q ⟨F,ρ,ri,w⟩=>⟨F,ρ,ri,(aJ.bind.mp w).imp fun ds hd w1 vs H1 F1 e1 r1=>by
 split at w1
 ·rename_i hl
  refine⟨Nat.le_trans (by rw[r1.length];exact hl) fY,fun p hp=> ?_⟩
  have e2:=bZ.lay (o:= .tup vs) e1.sub hp
  exact w1 _ _ _ (e1.trans e2) (.tup az (r1.mono e2.grow))
 ·exact w1.elim⟩
theorem iB (h:w8 ly X es fs):PQ ly X (.List es pos) (iM fs):=fun c=>PE.weak (yT (h c)) fun σ H Q ⟨F,ρ,ri,w⟩=>⟨F,ρ,ri,(aJ.bind.mp w).imp fun ds hd w1 vs H1 F1 e1 r1=>by
 split at w1
 ·rename_i hl
  refine⟨Nat.le_trans (by rw[r1.length];exact hl) fY,fun p hp=> ?_⟩
  have e2:=bZ.lay (o:= .lst vs) e1.sub hp
  exact w1 _ _ _ (e1.trans e2) (.lst az (r1.mono e2.grow))
 ·exact w1.elim⟩
def cU (g:List D->Option D) (fs:ai->R (List D)):ai->R D:=fun ρ=>fs ρ>>=fun ds=>R.of (g ds)
variable {x:Str} {p:Pos} {id T:String} {rc:List V->Hp->VK->Prop}
theorem wc {c:d_ ly} {rc:List V->Hp->VK->Prop} {g:List D->Option D} (sem:l0 X.K rc g) {σ:St} {H:Hp} {Q:VK} (h:tQ X.K c (cU g fs) σ H Q):HD rc (Gk X.K c fs) σ H Q:=by
 obtain⟨F,ρ,ri,w⟩:=h
 refine⟨F,ρ,ri,(aJ.bind.mp w).imp fun ds hd w1 vs H1 F1 e1 r1=> ?_⟩
 obtain⟨d,hd,k⟩:=w1.of
 exact sem vs ds d H1 F1 Q e1.sub r1 hd fun w H' F' e' r'=>k w H' F' (e1.trans e') r'
theorem bB {g:List D->Option D} (hc:cT X (.builtin id) rc) (sem:l0 X.K rc g) (hm:X.mg x=none) (hv:bootBuiltins x=some (.builtin id)) (ha:EA ly X (e::es) fs) (hg:Gl X x:=by rfl) (hn:x≠"__name__":=by decide) (hdb:(x==("__debug__":Str))=false:=by decide)
  (he:starEach (e::es) X.env=(false,eval e X.env)::starEach es X.env:=by rfl) (hpl:(backTo pos (starEach es X.env)).any (·.1)=false:=by rfl):PQ ly X (.Call (.Name x p) (e::es) [] pos) (cU g fs):=fun c=>
 PE.weak (jI hc hg hm hv (ha c) hn hdb he hpl) fun σ H Q h=>wc sem h
theorem bn {g:List D->Option D} (hc:cT X (.type T) rc) (sem:l0 X.K rc g) (hm:X.mg x=none) (hv:bootBuiltins x=some (.type T)) (ha:EA ly X (e::es) fs) (hg:Gl X x:=by rfl) (hn:x≠"__name__":=by decide) (hdb:(x==("__debug__":Str))=false:=by decide)
  (he:starEach (e::es) X.env=(false,eval e X.env)::starEach es X.env:=by rfl) (hpl:(backTo pos (starEach es X.env)).any (·.1)=false:=by rfl):PQ ly X (.Call (.Name x p) (e::es) [] pos) (cU g fs):=fun c=>
 PE.weak (ki hc hg hm hv (ha c) hn hdb he hpl) fun σ H Q h=>wc sem h
def xE (K:PySem.W.Frag) (n:Nat) (m:List D->R D):Sp:=fun vs H Q E=>vs.length=n/\∃F ds,aY F H/\Reps K F vs ds/\match m ds with
 | .ok d=>∀v H' F',bZ H F H' F'->et K F' v d->Q v H'
 | .err x _=>∀cls a H' F',i6 K x cls->bZ H F H' F'->E cls a H'
 | .bad=>False
def aE (m:List D->R D) (n:Nat) (fs:ai->R (List D)):ai->R D:=fun ρ=>fs ρ>>=fun ds=>if ds.length=n then (match m ds with| .ok d=> .ok d| .err x _=> .err x ρ| .bad=> .bad)else .bad
theorem EC {c:d_ ly} {m:List D->R D} {n:Nat} {σ:St} {H:Hp} {Q:VK} (h:tQ X.K c (aE m n fs) σ H Q):Di (xE X.K n m) [] (Fu X c) (Hb X.K c fs) σ H Q:=by
 obtain⟨F,ρ,ri,w⟩:=h
 refine⟨F,ρ,ri,(aJ.bind.mp w).imp fun ds hd w1 vs H1 F1 e1 r1=> ?_⟩
 show xE X.K n m (vs++[]) H1 Q (Fu X c σ)
 rw[List.append_nil]
 split at w1
 ·rename_i hl
  refine⟨by rw[r1.length];exact hl,F1,ds,e1.sub,r1,?_⟩
  split at w1
  ·exact fun v H' F' e' r'=>w1 v H' F' (e1.trans e') r'
  ·exact fun cls a H' F' ec e'=>⟨_,ρ,F',ec,ri.step (e1.trans e'),w1⟩
  ·exact w1.elim
 ·exact w1.elim
theorem ED {n k:Nat} {m:List D->R D} {f:Addr} {fd:FuncData} {ps:List Str} (F:gE X.prog X.w X.K X.mg X.base (nN X.prog X.w) k f fd ps (xE X.K n m)) (hr:dD k X.A) (hm:X.mg x=some (.ref f)) (hk:PySem.W.keepIn X.K (.ref f)=true) (hb:g_ X.K fd ps [])
  (ha:w8 ly X (e::es) fs) (hg:Gl X x:=by rfl) (hdb:(x==("__debug__":Str))=false:=by decide) (he:starEach (e::es) X.env=(false,eval e X.env)::starEach es X.env:=by rfl) (hpl:(backTo pos (starEach es X.env)).any (·.1)=false:=by rfl):
  PQ ly X (.Call (.Name x p) (e::es) [] pos) (aE m n fs):=fun c=>PE.weak (BC F hr hg hm hk hb .nil (w6 c) (ha c) hdb he hpl) fun σ H Q h=>EC h
variable {ga gb:ai->R Bool} {rest:List Expr}
def rK (ga gb:ai->R Bool):ai->R Bool:=fun ρ=>ga ρ>>=fun b=>if b=true then gb ρ else .ok false
def yx (ga gb:ai->R Bool):ai->R Bool:=fun ρ=>ga ρ>>=fun b=>if b=true then .ok true else gb ρ
def la (ga:ai->R Bool):ai->R Bool:=fun ρ=>ga ρ>>=fun b=> .ok (!b)
theorem qz.t (h:qz ly X e ga):sA ly X e ga:=fun c=>(h c).pt
theorem oK (h:sA ly X a ga):qz ly X (.BoolOp .And [a] pos) ga:=fun c=>Bs (h c)
theorem oM (h:sA ly X a ga):qz ly X (.BoolOp .Or [a] pos) ga:=fun c=>DS (h c)
theorem sV (h:sA ly X a ga) (hb:qz ly X (.BoolOp .And (b::rest) pos) gb):qz ly X (.BoolOp .And (a::b::rest) pos) (rK ga gb):=fun c=>PW.weak (DT (h c) (hb c)) fun σ H Q ⟨F,ρ,ri,w⟩=>
 ⟨F,ρ,ri,(aJ.bind.mp w).imp fun b hb w1 H1 F1 e1=>by
  cases b with
  |true=>exact⟨F1,ρ,ri.step e1,w1.imp fun b' _ k H2 F2 e2=>k H2 F2 (e1.trans e2)⟩
  |false=>exact w1 H1 F1 e1⟩
theorem uU (h:sA ly X a ga) (hb:qz ly X (.BoolOp .Or (b::rest) pos) gb):qz ly X (.BoolOp .Or (a::b::rest) pos) (yx ga gb):=fun c=>PW.weak (FD (h c) (hb c)) fun σ H Q ⟨F,ρ,ri,w⟩=>
 ⟨F,ρ,ri,(aJ.bind.mp w).imp fun b hb w1 H1 F1 e1=>by
  cases b with
  |false=>exact⟨F1,ρ,ri.step e1,w1.imp fun b' _ k H2 F2 e2=>k H2 F2 (e1.trans e2)⟩
  |true=>exact w1 H1 F1 e1⟩
theorem kF (h:sA ly X a ga):sA ly X (.UnaryOp .Not a pos) (la ga):=fun c=>PT.weak (DU (h c)) fun σ H Q ⟨F,ρ,ri,w⟩=>⟨F,ρ,ri,(aJ.bind.mp w).imp fun b hb w1 H1 F1 e1=>w1 H1 F1 e1⟩
def nj (fa fb:ai->R D):ai->R D:=fun ρ=>fa ρ>>=fun d=>match d with
 | .bl true=>fb ρ
 | .bl false=> .ok (.bl false)
 |_=> .bad
def HQ (fa fb:ai->R D):ai->R D:=fun ρ=>fa ρ>>=fun d=>match d with
 | .bl true=> .ok (.bl true)
 | .bl false=>fb ρ
 |_=> .bad
def sW (fa:ai->R D):ai->R D:=fun ρ=>fa ρ>>=fun d=>match d with
 | .bl b=> .ok (.bl (!b))
 |_=> .bad
theorem wd {op:PySem.BoolOp} (h:PQ ly X a fa):PQ ly X (.BoolOp op [a] pos) fa:=fun c=>DV (h c)
theorem sX (ha:PQ ly X a fa) (hb:PQ ly X (.BoolOp .And (b::rest) pos) fb):PQ ly X (.BoolOp .And (a::b::rest) pos) (nj fa fb):=fun c=>PE.weak (DW (ha c) (hb c)) fun σ H Q ⟨F,ρ,ri,w⟩=>
 ⟨F,ρ,ri,(aJ.bind.mp w).imp fun d hd w1 v H1 F1 e1 r1=>by
  cases d with
  |bl b=>
   cases r1
   cases b with
   |true=>exact⟨true,rfl,F1,ρ,ri.step e1,w1.imp fun b' _ k v H2 F2 e2 r2=>k v H2 F2 (e1.trans e2) r2⟩
   |false=>exact⟨false,rfl,w1 _ H1 F1 e1 (.bl false)⟩
  |_=>exact w1.elim⟩
theorem Ds (ha:PQ ly X a fa):PQ ly X (.UnaryOp .Not a pos) (sW fa):=fun c=>PE.weak (DX (ha c)) fun σ H Q ⟨F,ρ,ri,w⟩=>⟨F,ρ,ri,(aJ.bind.mp w).imp fun d hd w1 v H1 F1 e1 r1=>by
  cases d with
  |bl b=>cases r1;exact⟨b,rfl,w1 _ H1 F1 e1 (.bl _)⟩
  |_=>exact w1.elim⟩
def Gn (gc:ai->R Bool) (fa fb:ai->R D):ai->R D:=fun ρ=>gc ρ>>=fun b=>if b=true then fa ρ else fb ρ
theorem Ch {t:Expr} (ht:sA ly X t ga) (ha:PQ ly X a fa) (hb:PQ ly X b fb):PQ ly X (.IfExp t a b pos) (Gn ga fa fb):=fun c=>PE.weak (yD (ht c) (ha c) (hb c)) fun σ H Q ⟨F,ρ,ri,w⟩=>
 ⟨F,ρ,ri,(aJ.bind.mp w).imp fun b hb w1 H1 F1 e1=>by
  cases b with
  |true=>exact⟨F1,ρ,ri.step e1,w1.imp fun b' _ k v H2 F2 e2 r2=>k v H2 F2 (e1.trans e2) r2⟩
  |false=>exact⟨F1,ρ,ri.step e1,w1.imp fun b' _ k v H2 F2 e2 r2=>k v H2 F2 (e1.trans e2) r2⟩⟩
def jR:D->Option Bool
 | .non=>some false
 | .bl b=>some b
 | .int i=>some (i != 0)
 | .lst ds=>some (!ds.isEmpty)
 | .tup ds=>some (!ds.isEmpty)
 | .dic ds=>some (!ds.isEmpty)
 |_=>none
def i7 (f:ai->R D):ai->R Bool:=fun ρ=>f ρ>>=fun d=>R.of (jR d)
theorem Reps.isEmpty {K:PySem.W.Frag} {F:Hp}:∀{vs:List V} {ds:List D},Reps K F vs ds->vs.isEmpty=ds.isEmpty
 |_,_, .nil=>rfl
 |_,_, .cons _ _=>rfl
theorem RepK.isEmpty {K:PySem.W.Frag} {F:Hp}:∀{vs:List (a_×V)} {ds:List (a_×D)},RepK K F vs ds->vs.isEmpty=ds.isEmpty
 |_,_, .nil=>rfl
 |_,_, .cons _ _=>rfl
theorem iX (h:PB ly X e f) (he:∀whole,isTrue e X.env whole=(do let v<-whole;standAt e.pos;holding [v] (truthy v)):=by intro _;rfl):sA ly X e (i7 f):=fun c=>PT.weak (yQ (h c) he) fun σ H Q ⟨F,ρ,ri,w⟩=>
 ⟨F,ρ,ri,(aJ.bind.mp w).imp fun d hd w1 v H1 F1 e1 r1=>by
  obtain⟨b,hb,k⟩:=w1.of
  refine⟨b,?_,k H1 F1 e1⟩
  cases d with
  |non=>cases r1.non;cases hb;rfl
  |bl=>cases r1.bl;cases hb;rfl
  |int=>cases r1.int;cases hb;rfl
  |lst ds=>obtain⟨a,vs,rfl,h1,h2⟩:=r1.lst e1.sub;cases hb;exact .inl ⟨vs,eC.of h1,by rw[h2.isEmpty]⟩
  |tup ds=>obtain⟨a,vs,rfl,h1,h2⟩:=r1.tup e1.sub;cases hb;exact .inr (.inl ⟨vs,h_.of h1,by rw[h2.isEmpty]⟩)
  |dic ds=>obtain⟨a,vs,rfl,h1,h2,h3⟩:=r1.dic e1.sub;cases hb;exact .inr (.inr ⟨vs,h1,by rw[h2.isEmpty]⟩)
  |_=>cases hb⟩
end
end L2.Pu
namespace L2.Pu
open PySem PySem.Spec PyProof.Rows
variable {ly:List gA}
inductive bG where
 |nx (ρ:ai)|ret (d:D)|brk (ρ:ai)|cnt (ρ:ai)|retc (d:D) (ρ:ai)
def fJ (K:PySem.W.Frag) (c:d_ ly) (F:Hp) (D:kS):bG->Prop
 | .nx ρ=>∀σ' H' F',aY F F'->RI K c ρ σ' H' F'->D.nx σ' H'
 | .brk ρ=>∀σ' H' F',aY F F'->RI K c ρ σ' H' F'->D.bk σ' H'
 | .cnt ρ=>∀σ' H' F',aY F F'->RI K c ρ σ' H' F'->D.ct σ' H'
 | .ret d=>∀v H' F',aY F F'->bZ c.H0 c.F0 H' F'->et K F' v d->D.rt v H'
 | .retc d ρ=>∀v σ' H' F',aY F F'->RI K c ρ σ' H' F'->et K F' v d->D.rt v H'
theorem fJ.mono {K:PySem.W.Frag} {c:d_ ly} {F F1:Hp} {D:kS} (g:aY F F1):∀{o:bG},fJ K c F D o->fJ K c F1 D o
 | .nx ρ,h=>fun σ' H' F' s r=>h σ' H' F' (g.trans s) r
 | .brk ρ,h=>fun σ' H' F' s r=>h σ' H' F' (g.trans s) r
 | .cnt ρ,h=>fun σ' H' F' s r=>h σ' H' F' (g.trans s) r
 | .ret d,h=>fun v H' F' s e r=>h v H' F' (g.trans s) e r
 | .retc d ρ,h=>fun v σ' H' F' s e r=>h v σ' H' F' (g.trans s) e r
def tS (K:PySem.W.Frag) (c:d_ ly) (g:ai->R bG):TS:=fun D σ H=>∃F ρ,RI K c ρ σ H F/\aJ c (g ρ) (fJ K c F D)
def mJ (ly:List gA) (X:Cx) (st:Stmt) (g:ai->R bG):Prop:=∀c:jQ ly X,PS X st (tS X.K c.1 g)
def lb (ly:List gA) (X:Cx) (st:List Stmt) (g:ai->R bG):Prop:=∀c:jQ ly X,pQ X st (tS X.K c.1 g)
section
variable {X:Cx} {st:Stmt} {rest:List Stmt} {a b e:Expr} {es:List Expr} {fa fb f:ai->R D} {fs:ai->R (List D)} {ga gb g g':ai->R bG} {gt:ai->R Bool} {pos:Pos}
def bi:ai->R bG:=fun ρ=> .ok (.nx ρ)
def aA (g g':ai->R bG):ai->R bG:=fun ρ=>g ρ>>=fun o=>match o with
 | .nx ρ'=>g' ρ'
 |o=> .ok o
theorem bj:lb ly X [] bi:=fun c=>pQ.weak Bt fun D σ H ⟨F,ρ,ri,w⟩=>w σ H F (aY.refl _) ri
theorem ag (h:mJ ly X st g) (hr:lb ly X rest g'):lb ly X (st::rest) (aA g g'):=fun c=>pQ.weak (yE (h c) (hr c)) fun D σ H ⟨F,ρ,ri,w⟩=>by
 refine⟨F,ρ,ri,(aJ.bind.mp w).imp fun o ho w1=> ?_⟩
 cases o with
 |nx ρ'=>exact fun σ' H' F' s r=>⟨F',ρ',r,w1.imp fun o' _ k=>k.mono s⟩
 |ret d=>exact w1
 |brk ρ'=>exact w1
 |cnt ρ'=>exact w1
 |retc d ρ'=>exact w1
theorem aq (h:mJ ly X st g):lb ly X [st] g:=fun c=>pQ.weak (Bu (h c)) fun D σ H w=>w
def pV (L:List Nat) (g:ai->R bG):ai->R bG:=fun ρ=>g (frz L ρ)
theorem nk (L:List Nat) (h:mJ ly X st g):mJ ly X st (pV L g):=fun c=>PS.weak (h c) fun D σ H ⟨F,ρ,ri,w⟩=>by
 obtain⟨F',s,ri'⟩:=ri.frz L
 exact⟨F',_,ri',w.imp fun o _ k=>k.mono s⟩
def xF:ai->R bG:=fun ρ=> .ok (.cnt ρ)
theorem oN:mJ ly X (.Continue pos) xF:=fun c=>PS.weak sD fun D σ H ⟨F,ρ,ri,w⟩=>w σ H F (aY.refl _) ri
def bM (f:ai->R D):ai->R bG:=fun ρ=>f ρ>>=fun d=> .ok (.ret d)
theorem bq (h:PQ ly X e f):mJ ly X (.Return (some e) pos) (bM f):=fun c=>PS.weak (DY (h c)) fun D σ H ⟨F,ρ,ri,w⟩=>
 ⟨F,ρ,ri,(aJ.bind.mp w).imp fun d _ w1 v H' F' e r=>w1 v H' F' e.grow (ri.ext.trans e) r⟩
def eM (gc:ai->R Bool) (g g':ai->R bG):ai->R bG:=fun ρ=>gc ρ>>=fun b=>if b=true then g ρ else g' ρ
theorem cY {ta tb:List Stmt} (hc:sA ly X e gt) (ha:lb ly X ta g) (hb:lb ly X tb g'):mJ ly X (.If e ta tb pos) (eM gt g g'):=fun c=>PS.weak (FJ (hc c) (ha c) (hb c)) fun D σ H ⟨F,ρ,ri,w⟩=>
 ⟨F,ρ,ri,(aJ.bind.mp w).imp fun b hb w1 H1 F1 e1=>by
  cases b with
  |true=>exact⟨F1,ρ,ri.step e1,w1.imp fun o _ k=>k.mono e1.grow⟩
  |false=>exact⟨F1,ρ,ri.step e1,w1.imp fun o _ k=>k.mono e1.grow⟩⟩
def tG (K:PySem.W.Frag) (c:d_ ly) (gt:D->ai->R ai):TG:=fun v σ H Q=>∃F ρ d,RI K c ρ σ H F/\et K F v d/\aJ c (gt d ρ) fun ρ'=>∀σ' H' F',aY F F'->RI K c ρ' σ' H' F'->Q σ' H'
def Ci (ly:List gA) (X:Cx) (tg:Expr) (gt:D->ai->R ai):Prop:=∀c:jQ ly X,PG X tg (tG X.K c.1 gt)
def gN (i:Nat):D->ai->R ai:=fun d ρ=> .ok (ρ.set i (some (.val d)))
theorem aU (i:Nat) {x:Str} (hN:X.N.Nodup) (hi:X.N[i]? =some x:=by rfl) (hx:xc X.env.scope x:=by first|exact Or.inl rfl|exact Or.inr rfl) (hf:X.fn x=true\/X.env.scope.names.lookup x=some .local:=by first|exact .inl rfl|exact .inr rfl|assumption) (hfr:k_ ly i:=by(repeat (first|assumption|exact L2.Pu.eL|refine L2.Pu.free_cons ⟨by first|decide|simp,by first|decide|simp⟩ ?_))):Ci ly X (.Name x pos) (gN i):=
 fun c=>PG.weak (vM hN hi hx hf) fun v σ H Q ⟨F,ρ,d,ri,r,w⟩=>w _ H F (aY.refl _) (ri.setVal i hfr r)
def Ig (K:PySem.W.Frag) (c:d_ ly) (gt:List D->ai->R ai):yF:=fun vs σ H Q=>∃F ρ ds,RI K c ρ σ H F/\Reps K F vs ds/\aJ c (gt ds ρ) fun ρ'=>∀σ' H' F',aY F F'->RI K c ρ' σ' H' F'->Q σ' H'
def zB (ly:List gA) (X:Cx) (tg:List Expr) (gt:List D->ai->R ai):Prop:=∀c:jQ ly X,yG X tg (Ig X.K c.1 gt)
theorem yG.weak {X:Cx} {e:List Expr} {t t':yF} (h:yG X e t) (w:∀v σ H Q,t' v σ H Q->t v σ H Q):yG X e t':=fun pins s σ H v u Q I r q=>h pins s σ H v u Q I r (w v σ H Q q)
def fU:List D->ai->R ai:=fun ds ρ=>match ds with
 |[]=> .ok ρ
 |_=> .bad
def bc (g:D->ai->R ai) (gs:List D->ai->R ai):List D->ai->R ai:=fun ds ρ=>match ds with
 |[]=> .bad
 |d::r=>g d ρ>>=fun ρ'=>gs r ρ'
theorem jg:zB ly X [] fU:=fun c=>yG.weak Bv fun vs σ H Q ⟨F,ρ,ds,ri,r,w⟩=>by
 cases r with
 |nil=>exact⟨rfl,w σ H F (aY.refl _) ri⟩
 |cons _ _=>exact w.elim
theorem bU {g:D->ai->R ai} {gs:List D->ai->R ai} (h:Ci ly X e g) (hr:zB ly X es gs) (hs:(assignEach (e::es) X.env).map (·.2)=assign e X.env::(assignEach es X.env).map (·.2):=by rfl):zB ly X (e::es) (bc g gs):=
 fun c=>yG.weak (yH (h c) (hr c) hs) fun vs σ H Q ⟨F,ρ,ds,ri,r,w⟩=>by
 cases r with
 |nil=>exact w.elim
 | @cons v d vs ds r t=>
  refine⟨v,vs,rfl,F,ρ,d,ri,r,(aJ.bind.mp w).imp fun ρ' _ w1 σ' H' F' s ri'=>⟨F',ρ',ds,ri',t.mono s,w1.imp fun ρ2 _ k σ2 H2 F2 s2 r2=>k σ2 H2 F2 (s.trans s2) r2⟩⟩
def fV (n:Nat) (gs:List D->ai->R ai):D->ai->R ai:=fun d ρ=>match d with
 | .tup ds=>if ds.length=n then gs ds ρ else .bad
 | .lst ds=>if ds.length=n then gs ds ρ else .bad
 |_=> .bad
theorem PG.or {X:Cx} {e:Expr} {t t':TG} (h:PG X e t) (h':PG X e t'):PG X e (fun v σ H Q=>t v σ H Q\/t' v σ H Q):=fun pins s σ H v u Q I r q=>q.elim (fun q=>h pins s σ H v u Q I r q) fun q=>h' pins s σ H v u Q I r q
theorem nl {k n:Nat} {gs:List D->ai->R ai} (hc:X.calm=true) (h:zB ly X es gs) (hn:(assignEach es X.env).length=n:=by rfl) (hst:(assignEach es X.env).findIdx? (·.1)=none:=by rfl):Ci ly X (.Tuple es k pos) (fV n gs):=
 fun c=>PG.weak (PG.or (yI hc (h c) hn hst) (zr hc (h c) hn hst)) fun v σ H Q ⟨F,ρ,d,ri,r,w⟩=>by
 cases r with
 | @tup a vs ds h1 h2=>
  change aJ c.1 (if ds.length=n then gs ds ρ else .bad) _ at w
  split at w
  ·rename_i hl
   exact .inl ⟨a,vs,rfl,h_.of (ri.sub _ _ h1),by rw[h2.length];exact hl,F,ρ,ds,ri,h2,w⟩
  ·exact w.elim
 | @lst a vs ds h1 h2=>
  change aJ c.1 (if ds.length=n then gs ds ρ else .bad) _ at w
  split at w
  ·rename_i hl
   exact .inr ⟨a,vs,rfl,eC.of (ri.sub _ _ h1),by rw[h2.length];exact hl,F,ρ,ds,ri,h2,w⟩
  ·exact w.elim
 |_=>exact w.elim
def aT (f:ai->R D) (g:D->ai->R ai):ai->R bG:=fun ρ=>f ρ>>=fun d=>g d ρ>>=fun ρ'=> .ok (.nx ρ')
theorem EE {c:d_ ly} {g:D->ai->R ai} {K:PySem.W.Frag} {D':kS} {σ:St} {H:Hp} (h:tS K c (aT f g) D' σ H):E0 (tQ K c f) (tG K c g) D' σ H:=by
 obtain⟨F,ρ,ri,w⟩:=h
 refine⟨F,ρ,ri,(aJ.bind.mp w).imp fun d _ w1 v H1 F1 e1 r1=>⟨F1,ρ,d,ri.step e1,r1,(aJ.bind.mp w1).imp fun ρ' _ w2 σ' H' F' s r'=>w2 σ' H' F' (e1.grow.trans s) r'⟩⟩
theorem Dt {tg:Expr} {g:D->ai->R ai} (he:PQ ly X e f) (hg:Ci ly X tg g) (hs:swapsWithSole [tg] e pos.line X.env=pure false:=by rfl) (hw:swappedStores [tg] e X.env=pure none:=by rfl)
  (h1:(assignEach [tg] X.env).map (·.2)=[assign tg X.env]:=by rfl):mJ ly X (.Assign [tg] e pos) (aT f g):=fun c=>PS.weak (uu (he c) (hg c) hs hw h1) fun D σ H h=>EE h
theorem aQ (i:Nat) {x:Str} {pos':Pos} (hN:X.N.Nodup) (he:PQ ly X e f) (hi:X.N[i]? =some x:=by rfl) (hx:xc X.env.scope x:=by first|exact Or.inl rfl|exact Or.inr rfl) (hs:swapsWith e (some (.Name x pos')) pos.line X.env=pure false:=by rfl)
  (hf:X.fn x=true\/X.env.scope.names.lookup x=some .local:=by first|exact .inl rfl|exact .inr rfl|assumption) (hfr:k_ ly i:=by(repeat (first|assumption|exact L2.Pu.eL|refine L2.Pu.free_cons ⟨by first|decide|simp,by first|decide|simp⟩ ?_))):mJ ly X (.Assign [.Name x pos'] e pos) (aT f (gN i)):=fun c=>
 PS.weak (kT hN hi hx (he c) hs hf) fun D σ H h=>by
  obtain⟨F,ρ,ri,w⟩:=h
  exact⟨F,ρ,ri,(aJ.bind.mp w).imp fun d _ w1 v H1 F1 e1 r1=>w1 _ H1 F1 e1.grow ((ri.step e1).setVal i hfr r1)⟩
def ID (i j:Nat) (fs:ai->R (List D)):ai->R bG:=fun ρ=>fs ρ>>=fun ds=>match ds with
 |[x,y]=> .ok (.nx ((ρ.set i (some (.val x))).set j (some (.val y))))
 |_=> .bad
def hJ (i:Nat) (fs:ai->R (List D)):ai->R bG:=fun ρ=>fs ρ>>=fun ds=>if ds.length<=lim then .ok (.nx (ρ.set i (some (.own (.lst ds)))))else .bad
theorem fK (i:Nat) {x:Str} {pos' pl:Pos} (hN:X.N.Nodup) (h:w8 ly X es fs) (hi:X.N[i]? =some x:=by rfl) (hx:xc X.env.scope x:=by first|exact Or.inl rfl|exact Or.inr rfl) (hs:swapsWith (.List es pl) (some (.Name x pos')) pos.line X.env=pure false:=by rfl)
  (hf:X.fn x=true\/X.env.scope.names.lookup x=some .local:=by first|exact .inl rfl|exact .inr rfl|assumption) (hfr:k_ ly i:=by(repeat (first|assumption|exact L2.Pu.eL|refine L2.Pu.free_cons ⟨by first|decide|simp,by first|decide|simp⟩ ?_))):mJ ly X (.Assign [.Name x pos'] (.List es pl) pos) (hJ i fs):=fun c=>
 PS.weak (kT hN hi hx (yT (h c)) hs hf) fun D σ H ⟨F,ρ,ri,w⟩=>⟨F,ρ,ri,(aJ.bind.mp w).imp fun ds _ w1 vs H1 F1 e1 r1=>by
  split at w1
  ·rename_i hl
   refine⟨Nat.le_trans (by rw[r1.length];exact hl) fY,fun p hp=> ?_⟩
   exact w1 _ _ F1 e1.grow ((ri.step e1).setNew i hfr hp (.lst r1))
  ·exact w1.elim⟩
def zC (i:Nat):ai->R bG:=fun ρ=> .ok (.nx (ρ.set i (some (.own (.dic [])))))
theorem zD (i:Nat) {x:Str} {pos' pl:Pos} (hN:X.N.Nodup) (hi:X.N[i]? =some x:=by rfl) (hx:xc X.env.scope x:=by first|exact Or.inl rfl|exact Or.inr rfl) (hs:swapsWith (.Dict [] [] pl) (some (.Name x pos')) pos.line X.env=pure false:=by rfl)
  (hf:X.fn x=true\/X.env.scope.names.lookup x=some .local:=by first|exact .inl rfl|exact .inr rfl|assumption) (hfr:k_ ly i:=by(repeat (first|assumption|exact L2.Pu.eL|refine L2.Pu.free_cons ⟨by first|decide|simp,by first|decide|simp⟩ ?_))):mJ ly X (.Assign [.Name x pos'] (.Dict [] [] pl) pos) (zC i):=fun c=>
 PS.weak (kT hN hi hx zi hs hf) fun D σ H ⟨F,ρ,ri,w⟩=>fun p hp=>w _ _ F (aY.refl _) (ri.setNew i hfr hp (.dic .nil List.nodup_nil))
structure xG (K:PySem.W.Frag) (F:Hp) (J:It) (ds:List D):Prop where
 go:∀i H,aY F H->i<ds.length->J.go i H
 stop:∀H,aY F H->J.stop ds.length H
 yld:∀i H F1 x H',aY F F1->aY F1 H->J.yld i H x H'->i<ds.length->∃F' d,ds[i]? =some d/\bZ H F1 H' F'/\et K F' x d
def tI (K:PySem.W.Frag) (c:d_ ly) (fi:ai->R (List D)):TI:=fun σ H Rk=>∃F ρ,RI K c ρ σ H F/\aJ c (fi ρ) fun ds=>∀J H' F',bZ H F H' F'->xG K F' J ds->Rk J H'
def EF (ly:List gA) (X:Cx) (tg iter:Expr) (fi:ai->R (List D)):Prop:=∀c:jQ ly X,PI X tg iter (tI X.K c.1 fi)
theorem PI.weak {X:Cx} {tg e:Expr} {t t':TI} (h:PI X tg e t) (w:∀σ H Rk,t' σ H Rk->t σ H Rk):PI X tg e t':=fun pins s σ H Rk I q=>h pins s σ H Rk I (w σ H Rk q)
def bH (g:D->ai->R ai) (gb:ai->R bG):List D->ai->R bG
 |[],ρ=> .ok (.nx ρ)
 |d::r,ρ=>g d ρ>>=fun ρ1=>gb ρ1>>=fun o=>match o with
  | .nx ρ2=>bH g gb r ρ2
  | .cnt ρ2=>bH g gb r ρ2
  | .brk ρ2=> .ok (.nx ρ2)
  | .ret d=> .ok (.ret d)
  | .retc d ρ2=> .ok (.retc d ρ2)
def fF (fi:ai->R (List D)) (g:D->ai->R ai) (gb:ai->R bG):ai->R bG:=fun ρ=>fi ρ>>=fun ds=>bH g gb ds ρ
theorem uV {g:D->ai->R ai} {gb:ai->R bG} {ds:List D} {i:Nat} {d:D} {ρ:ai} (h:ds[i]? =some d):bH g gb (ds.drop i) ρ=(g d ρ>>=fun ρ1=>gb ρ1>>=fun o=>match o with
  | .nx ρ2=>bH g gb (ds.drop (i+1)) ρ2
  | .cnt ρ2=>bH g gb (ds.drop (i+1)) ρ2
  | .brk ρ2=> .ok (.nx ρ2)
  | .ret d=> .ok (.ret d)
  | .retc d ρ2=> .ok (.retc d ρ2)):=by
 obtain⟨hl,e⟩:=List.getElem?_eq_some_iff.mp h
 rw[List.drop_eq_getElem_cons hl,e]
 rfl
theorem EG {K:PySem.W.Frag} {c:d_ ly} {fi:ai->R (List D)} {g:D->ai->R ai} {D':kS} {σ:St} {H:Hp} (h:tS K c (fF fi g gb) D' σ H):FR (tI K c fi) (tG K c g) (tS K c gb) D' σ H:=by
 obtain⟨F,ρ,ri,w⟩:=h
 refine⟨F,ρ,ri,(aJ.bind.mp w).imp fun ds _ w1 J H1 F1 e1 jo=> ?_⟩
 refine⟨fun i m σ H=>∃F2 ρ2,RI K c ρ2 σ H F2/\aY F1 F2/\m=ds.length - i/\i<=ds.length/\aJ c (bH g gb (ds.drop i) ρ2) (fJ K c F2 D'),⟨_,F1,ρ,ri.step e1,aY.refl _,rfl,Nat.zero_le _,w1.imp fun o _ k=>k.mono e1.grow⟩,?_⟩
 rintro i m σ2 H2 ⟨F2,ρ2,ri2,s2,rfl,hi,w2⟩
 by_cases hl:i<ds.length
 ·refine .inr ⟨jo.go i H2 (s2.trans ri2.sub) hl,fun σ' H'=>∃F3 ρ3,RI K c ρ3 σ' H' F3/\aY F2 F3/\aJ c (bH g gb (ds.drop (i+1)) ρ3) (fJ K c F3 D'),?_,fun x H3 y=> ?_⟩
  ·rintro σ' H' ⟨F3,ρ3,ri3,s3,w3⟩
   exact⟨ds.length - (i+1),by omega,F3,ρ3,ri3,s2.trans s3,rfl,hl,w3⟩
  ·obtain⟨F3,d,hd,e3,r3⟩:=jo.yld i H2 F2 x H3 s2 ri2.sub y hl
   rw[uV hd]at w2
   refine⟨F3,ρ2,d,ri2.step e3,r3,(aJ.bind.mp w2).imp fun ρ3 _ w3 σ4 H4 F4 s4 r4=>⟨F4,ρ3,r4,(aJ.bind.mp w3).imp fun o _ w4=> ?_⟩⟩
   have s24:aY F2 F4:=e3.grow.trans s4
   cases o with
   |nx ρ5=>exact fun σ' H' F' s' r'=>⟨F',ρ5,r',s24.trans s',w4.imp fun o _ k=>k.mono (s24.trans s')⟩
   |cnt ρ5=>exact fun σ' H' F' s' r'=>⟨F',ρ5,r',s24.trans s',w4.imp fun o _ k=>k.mono (s24.trans s')⟩
   |brk ρ5=>exact fun σ' H' F' s' r'=>w4 σ' H' F' (s24.trans s') r'
   |ret d=>exact fun v H' F' s' e' r'=>w4 v H' F' (s24.trans s') e' r'
   |retc d ρ5=>exact fun v σ' H' F' s' e' r'=>w4 v σ' H' F' (s24.trans s') e' r'
 ·have e:i=ds.length:=by omega
  subst e
  rw[List.drop_length]at w2
  exact .inl ⟨jo.stop H2 (s2.trans ri2.sub),w2 σ2 H2 F2 (aY.refl _) ri2⟩
theorem eu {tg iter:Expr} {body:List Stmt} {fi:ai->R (List D)} {g:D->ai->R ai} (hp:PassesOwn (model X.prog X.w) X.A X.env X.xe) (hc:X.calm=true) (hi:EF ly X tg iter fi) (hg:Ci ly X tg g) (hb:lb ly X body gb)
  (hs:∀x,foldedSetIterable iter X.env x=pure x:=by intro _;rfl):mJ ly X (.For tg iter body [] pos) (fF fi g gb):=fun c=>PS.weak (E2 hp hc (hi c) (hg c) (hb c) hs) fun D σ H h=>EG h
def cz (gt:ai->R Bool) (gb:ai->R bG):Nat->ai->R bG
 |0,_=> .bad
 |n+1,ρ=>gt ρ>>=fun b=>if b=true then (gb ρ>>=fun o=>match o with
   | .nx ρ2=>cz gt gb n ρ2
   | .cnt ρ2=>cz gt gb n ρ2
   | .brk ρ2=> .ok (.nx ρ2)
   | .ret d=> .ok (.ret d)
   | .retc d ρ2=> .ok (.retc d ρ2))else .ok (.nx ρ)
theorem zE {K:PySem.W.Frag} {c:d_ ly} {D':kS} {σ:St} {H:Hp} {n:Nat} (h:tS K c (cz gt gb n) D' σ H):yJ (tT K c gt) (tS K c gb) D' σ H:=by
 obtain⟨F,ρ,ri,w⟩:=h
 refine⟨fun m σ H=>∃F2 ρ2,RI K c ρ2 σ H F2/\aJ c (cz gt gb m ρ2) (fJ K c F2 D'),⟨n,F,ρ,ri,w⟩,?_⟩
 rintro m σ2 H2 ⟨F2,ρ2,ri2,w2⟩
 cases m with
 |zero=>exact w2.elim
 |succ m=>
  refine⟨F2,ρ2,ri2,(aJ.bind.mp w2).imp fun b _ w3 H3 F3 e3=> ?_⟩
  cases b with
  |false=>exact w3 σ2 H3 F3 e3.grow (ri2.step e3)
  |true=>
   refine⟨fun σ' H'=>∃F4 ρ4,RI K c ρ4 σ' H' F4/\aJ c (cz gt gb m ρ4) (fJ K c F4 D'),fun σ' H' k=>⟨m,Nat.lt_succ_self _,k⟩,F3,ρ2,ri2.step e3,(aJ.bind.mp w3).imp fun o _ w4=> ?_⟩
   cases o with
   |nx ρ5=>exact fun σ' H' F' s' r'=>⟨F',ρ5,r',w4.imp fun o _ k=>k.mono (e3.grow.trans s')⟩
   |cnt ρ5=>exact fun σ' H' F' s' r'=>⟨F',ρ5,r',w4.imp fun o _ k=>k.mono (e3.grow.trans s')⟩
   |brk ρ5=>exact fun σ' H' F' s' r'=>w4 σ' H' F' (e3.grow.trans s') r'
   |ret d=>exact fun v H' F' s' e' r'=>w4 v H' F' (e3.grow.trans s') e' r'
   |retc d ρ5=>exact fun v σ' H' F' s' e' r'=>w4 v σ' H' F' (e3.grow.trans s') e' r'
theorem rL {body:List Stmt} (n:Nat) (hp:PassesOwn (model X.prog X.w) X.A X.env X.xe) (hc:sA ly X e gt) (hb:lb ly X body gb):mJ ly X (.While e body [] pos) (cz gt gb n):=fun c=>PS.weak (yK hp (hc c) (hb c)) fun D σ H h=>zE h
theorem xH {K:PySem.W.Frag} {F:Hp} {a:Addr} {vs:List V} {ds:List D} (h:F a=some (.lst vs)) (r:Reps K F vs ds):xG K F (GW K a) ds where
 go:=fun i H s hi=>⟨vs,vs[i]'(by rw[r.length];exact hi),eC.of (s _ _ h),by simp[r.length,hi]⟩
 stop:=fun H s=>⟨vs,eC.of (s _ _ h),Nat.le_of_eq r.length⟩
 yld:=fun i H F1 x H' s1 s2 y hi=>by
  obtain⟨rfl,y⟩:=y
  have:=y vs (eC.of (s2 _ _ (s1 _ _ h)))
  obtain⟨d,hd,rd⟩:=r.get' this
  exact⟨F1,d,hd,bZ.refl s2,rd.mono s1⟩
theorem zF {K:PySem.W.Frag} {F:Hp} {a:Addr} {vs:List V} {ds:List D} (h:F a=some (.tup vs)) (r:Reps K F vs ds):xG K F (Hu K a) ds where
 go:=fun i H s hi=>⟨vs,vs[i]'(by rw[r.length];exact hi),h_.of (s _ _ h),by simp[r.length,hi]⟩
 stop:=fun H s=>⟨vs,h_.of (s _ _ h),Nat.le_of_eq r.length⟩
 yld:=fun i H F1 x H' s1 s2 y hi=>by
  obtain⟨rfl,y⟩:=y
  have:=y vs (h_.of (s2 _ _ (s1 _ _ h)))
  obtain⟨d,hd,rd⟩:=r.get' this
  exact⟨F1,d,hd,bZ.refl s2,rd.mono s1⟩
def cW (f:ai->R D):ai->R (List D):=fun ρ=>f ρ>>=fun d=>match d with
 | .lst ds=> .ok ds
 | .tup ds=> .ok ds
 | .scr ns=> .ok (ns.map .int)
 |_=> .bad
theorem zG {K:PySem.W.Frag} {F:Hp} {a:Addr} {ns:List Int} (h:eC K F a (ns.map V.int)):xG K F (GW K a) (ns.map .int)where
 go:=fun i H s hi=>⟨ns.map V.int,(ns.map V.int)[i]'(by simpa using hi),s.seq h,by simp at hi;simp[hi]⟩
 stop:=fun H s=>⟨ns.map V.int,s.seq h,by simp⟩
 yld:=fun i H F1 x H' s1 s2 y hi=>by
  obtain⟨rfl,y⟩:=y
  have:=y (ns.map V.int) ((s1.trans s2).seq h)
  rw[List.getElem?_map]at this
  cases e:ns[i]? with
  |none=>rw[e]at this;cases this
  |some n=>rw[e]at this;cases this;exact⟨F1, .int n,by rw[List.getElem?_map,e];rfl,bZ.refl s2, .int n⟩
theorem fw {tg:Expr} (h:PQ ly X e f):EF ly X tg e (cW f):=by
 intro c pins s σ H Rk I q
 obtain⟨F,ρ,ri,w⟩:=q
 have w':=aJ.bind.mp w
 cases hf:f ρ with
 |bad=>rw[hf]at w';exact w'.elim
 |err er ρe=>
  rw[hf]at w'
  exact rb (h c) pins s σ H Rk I ⟨F,ρ,ri,by rw[hf];exact w'⟩
 |ok d=>
  rw[hf]at w'
  cases d with
  |lst ds=>exact rb (h c) pins s σ H Rk I ⟨F,ρ,ri,by
    rw[hf]
    intro v H1 F1 e1 r1
    cases r1 with
    |lst h1 h2=>exact⟨_,rfl,⟨_,eC.of (e1.sub _ _ h1)⟩,w' _ H1 F1 e1 (xH h1 h2)⟩⟩
  |tup ds=>exact E1 (h c) pins s σ H Rk I ⟨F,ρ,ri,by
    rw[hf]
    intro v H1 F1 e1 r1
    cases r1 with
    |tup h1 h2=>exact⟨_,rfl,⟨_,h_.of (e1.sub _ _ h1)⟩,w' _ H1 F1 e1 (zF h1 h2)⟩⟩
  |scr ns=>exact rb (h c) pins s σ H Rk I ⟨F,ρ,ri,by
    rw[hf]
    intro v H1 F1 e1 r1
    cases r1 with
    |scr h1=>exact⟨_,rfl,⟨_,e1.sub.seq h1⟩,w' _ H1 F1 e1 (zG h1)⟩⟩
  |_=>exact w'.elim
def ia (lo hi:Int):List D:=(List.range (hi - lo).toNat).map fun k:Nat=>D.int (lo+(k:Int))
theorem oO {K:PySem.W.Frag} {F:Hp} {lo hi:Int}:xG K F (FN lo (hi - lo).toNat) (ia lo hi)where
 go:=fun i H s h=>by
  rw[ia,List.length_map,List.length_range]at h
  exact h
 stop:=fun H s=>by show (hi - lo).toNat<=_;rw[ia,List.length_map,List.length_range];exact Nat.le_refl _
 yld:=fun i H F1 x H' s1 s2 y h=>by
  obtain⟨rfl,rfl⟩:=y
  have h':i<(hi - lo).toNat:=by rw[ia,List.length_map,List.length_range]at h;exact h
  exact⟨F1, .int (lo+i),by rw[ia,List.getElem?_map,List.getElem?_range h'];rfl,bZ.refl s2, .int _⟩
def ee (f:ai->R (List D)):ai->R (List D):=fun ρ=>f ρ>>=fun ds=>match ds with
 |[.int j]=>if j.natAbs<=lim then .ok (ia 0 j)else .bad
 |_=> .bad
def jh (f:ai->R (List D)):ai->R (List D):=fun ρ=>f ρ>>=fun ds=>match ds with
 |[.int i, .int j]=>if i.natAbs<=lim/\j.natAbs<=lim then .ok (ia i j)else .bad
 |_=> .bad
theorem eU {j:Int} (h:j.natAbs<=lim): -(2 ^62)<=j/\j<2 ^62:=by
 unfold lim at h
 omega
theorem gJ {tg:Expr} {p:Pos} (hm:X.mg "range"=none) (ha:w8 ly X [a] fs) (hg:Gl X "range":=by rfl) (hs:starEach [a] X.env=[(false,eval a X.env)]:=by rfl):EF ly X tg (.Call (.Name "range" p) [a] [] pos) (ee fs):=fun c=>
 PI.weak (xi hg hm (ha c) hs) fun σ H Rk ⟨F,ρ,ri,w⟩=>⟨F,ρ,ri,(aJ.bind.mp w).imp fun ds _ w1 vs H1 F1 e1 r1=>by
  split at w1
  ·split at w1
   ·rename_i j _ hj
    cases r1.int1
    exact⟨j,rfl,(eU hj).1,(eU hj).2,w1 _ H1 F1 e1 (by simpa using oO (K:=X.K) (F:=F1) (lo:=0) (hi:=j))⟩
   ·exact w1.elim
  ·exact w1.elim⟩
theorem sY {tg:Expr} {p:Pos} (hm:X.mg "range"=none) (ha:w8 ly X [a,b] fs) (hg:Gl X "range":=by rfl) (hs:starEach [a,b] X.env=[(false,eval a X.env),(false,eval b X.env)]:=by rfl) (hs2:starEach [b] X.env=[(false,eval b X.env)]:=by rfl):EF ly X tg (.Call (.Name "range" p) [a,b] [] pos) (jh fs):=fun c=>
 PI.weak (xj hg hm (ha c) hs hs2) fun σ H Rk ⟨F,ρ,ri,w⟩=>⟨F,ρ,ri,(aJ.bind.mp w).imp fun ds _ w1 vs H1 F1 e1 r1=>by
  split at w1
  ·split at w1
   ·rename_i i j _ hj
    cases r1.int2
    exact⟨i,j,rfl,⟨(eU hj.1).1,(eU hj.1).2,(eU hj.2).1,(eU hj.2).2⟩,w1 _ H1 F1 e1 oO⟩
   ·exact w1.elim
  ·exact w1.elim⟩
end
def eF (n:Nat) (ds:List D):ai:=ds.map (fun d=>some (.val d))++List.replicate (n - ds.length) none
def aW (k n:Nat) (g:ai->R bG) (ds:List D):R D:=if ds.length=k then g (eF n ds)>>=fun o=>match o with
 | .ret d=> .ok d
 | .nx _=> .ok .non
 |_=> .bad else .bad
theorem zH {K:PySem.W.Frag} {N:List Str} {H F:Hp} {vs:List V} {ds:List D} {Er:Str->ai->Prop} (s:aY F H) (r:Reps K F vs ds):RI K (⟨H,F,fun _=>none,Er,fun _=>none,fun _=>none⟩:d_ []) (eF N.length ds) (gF N vs) H F:=by
 have hv:∀(i:Nat) sl,(eF N.length ds)[i]? =some (some sl)->∃d,ds[i]? =some d/\sl= .val d:=fun i sl h=>by
  unfold eF at h
  rw[List.getElem?_append]at h
  split at h
  ·rw[List.getElem?_map]at h
   cases e:ds[i]? with
   |none=>rw[e]at h;cases h
   |some d=>rw[e]at h;simp at h;exact⟨d,rfl,h.symm⟩
  ·rw[List.getElem?_replicate]at h
   split at h<;>simp at h
 refine⟨bZ.refl s,fun i d h=> ?_,fun i d h=> ?_,fun i d h=> ?_,(fun b o e=>by cases e),fun i j d d' a h=> ?_,?_,(fun L h=>by cases h),(fun L h=>by cases h),(fun _ _ e=>by cases e), .no fun i x vds f hs h=>(by obtain⟨d,_,z⟩:=hv i _ h;cases z),fun L h=>by cases h⟩
 ·obtain⟨d',e,z⟩:=hv i _ h
  cases z
  obtain⟨v,h1,h2⟩:=r.get e
  refine⟨v,?_,h2⟩
  unfold gF
  have hl:i<vs.length:=(List.getElem?_eq_some_iff.mp h1).1
  rw[List.getElem?_append_left (by simpa using hl),List.getElem?_map,h1]
  rfl
 ·obtain⟨d',_,z⟩:=hv i _ h;cases z
 ·obtain⟨d',_,z⟩:=hv i _ h;cases z
 ·obtain⟨d',_,z⟩:=hv i _ h;cases z
 ·simp[eF,gF,r.length]
theorem Ih {P:Program} {w:World} {K:PySem.W.Frag} {mg:Str->Option Value} {base:Heap} {x qual:Str} {st:Stmt} {f:Addr} {fd:FuncData} {N ps:List Str} {k:Nat} {sp:Sp} (F:yw K x qual st f fd) (S:aK N ps (ah st)) (len:∀vs H Q E,sp vs H Q E->vs.length=ps.length)
  (hbody:∀(cdv:Value) (A:Around) (outer:List Env) (s:Shared) (H:Hp) (vs:List V) (Q:VK) (E:XK),dD k (A.deeper (envOfC qual (ah st) s.heap.objs.size f cdv))->sp vs H Q E->
   ∃t,pQ (jH (nN P w) P w K mg base N qual (ah st) f cdv A outer s H E) (aI st) t/\t {nx:=fun _ H'=>Q .non H',rt:=Q} (gF N vs) H):gE P w K mg base (nN P w) (k+1) f fd ps sp:=by
 obtain⟨oc,od,kV,doc,pm,an,cdv,ct,osl,rfl,lk,hcd⟩:=F.ex
 exact Dj lk hcd S len fun A outer s H vs Q E hr hsp=>hbody cdv A outer s H vs Q E hr hsp
theorem zI {P:Program} {w:World} {K:PySem.W.Frag} {mg:Str->Option Value} {base:Heap} {N:List Str} {qual:Str} {scope:Scope} {f:Addr} {cd:Value} {A:Around} {outer:List Env} {s0:Shared} {H0:Hp} {E:XK} {c:d_ ly}
  (h:∀x ρ,c.Er x ρ->∀cls a H' F' σ,i6 K x cls->RI K c ρ σ H' F'->E cls a H'):Ez (jH (nN P w) P w K mg base N qual scope f cd A outer s0 H0 E) c:=
 .inl ⟨oH,fun pins σ ρ H F s a cls x I ri fl ec er=>uS I fl (h x ρ er cls (some a) H F σ ec ri)⟩
theorem EH {P:Program} {w:World} {K:PySem.W.Frag} {mg:Str->Option Value} {base:Heap} {x qual:Str} {st:Stmt} {f:Addr} {fd:FuncData} {N ps:List Str} {k n m:Nat} {g:ai->R bG} (F:yw K x qual st f fd) (S:aK N ps (ah st)) (hn:ps.length=n) (hm:N.length=m)
  (hbody:∀(cdv:Value) (A:Around) (outer:List Env) (s:Shared) (H:Hp) (E:XK),dD k (A.deeper (envOfC qual (ah st) s.heap.objs.size f cdv))->
   lb [] (jH (nN P w) P w K mg base N qual (ah st) f cdv A outer s H E) (aI st) g):gE P w K mg base (nN P w) (k+1) f fd ps (xE K n (aW n m g)):=by
 refine Ih F S (fun vs H Q E h=>by rw[hn];exact h.1) (fun cdv A outer s H vs Q E hr h=> ?_)
 obtain⟨hl,Fz,ds,sub,r,w⟩:=h
 refine⟨_,hbody cdv A outer s H E hr ⟨⟨H,Fz,fun _=>none,fun x _=>∀cls a H' F',i6 K x cls->bZ H Fz H' F'->E cls a H',fun _=>none,fun _=>none⟩,zI fun x ρ er cls a H' F' σ ec ri=>er cls a H' F' ec ri.ext⟩,?_⟩
 refine⟨Fz,eF m ds,by rw[<-hm];exact zH sub r,?_⟩
 have hd:ds.length=n:=by rw[<-r.length];exact hl
 unfold aW at w
 rw[if_pos hd]at w
 cases e:g (eF m ds)with
 |bad=>rw[e]at w;exact w.elim
 |err c ρ=>rw[e]at w;exact w
 |ok o=>
  rw[e]at w
  cases o with
  |ret d=>exact fun v H' F' _ e' r'=>w v H' F' e' r'
  |nx ρ=>exact fun σ' H' F' _ r'=>w .non H' F' r'.ext .non
  |retc d ρ=>exact w.elim
  |brk ρ=>exact w.elim
  |cnt ρ=>exact w.elim
end L2.Pu
namespace L2.Pu
open PySem PySem.Spec PyProof.Rows
variable {ly:List gA}
def Slot.toBor:Slot->Slot
 | .val d=> .val d
 | .own d=> .bor d
 | .bor d=> .bor d
 | .obj=> .obj
 | .cel .. => .obj
def lL (N:List Str) (names:List (Str×NameKind)) (ρ:ai):ai:=
 names.map fun x=>if x.2= .free then ((N.findIdx? (·==x.1)).bind fun i=>(ρ[i]?).join.map Slot.toBor)else none
theorem Go {K:PySem.W.Frag} {c:d_ ly} {ρ:ai} {σ:St} {H F H1 F1:Hp} {N:List Str} {names:List (Str×NameKind)} {p:Addr} {o:HO} (ri:RI K c ρ σ H F) (e:bZ H F H1 F1) (hp:H1 p=none):
  RI K (⟨bK H1 p o,F1,H1,fun _ _=>False,fun _=>none,fun _=>none⟩:d_ []) (lL N names ρ) (oq N names σ) (bK H1 p o) F1:=by
 have r1:=ri.step e
 have key:∀(i:Nat) sl,(lL N names ρ)[i]? =some (some sl)->∃(j:Nat) (sl':Slot),ρ[j]? =some (some sl')/\sl=sl'.toBor/\∀v,σ[j]? =some (some v)->(oq N names σ)[i]? =some (some v):=fun i sl h=>by
  unfold lL at h
  rw[List.getElem?_map]at h
  cases en:names[i]? with
  |none=>rw[en]at h;cases h
  |some y=>
   rw[en]at h
   simp only[Option.map_some,Option.some.injEq]at h
   by_cases hf:y.2= .free
   ·rw[if_pos hf]at h
    cases ei:N.findIdx? (·==y.1)with
    |none=>rw[ei]at h;cases h
    |some j=>
     rw[ei]at h
     cases e2:ρ[j]? with
     |none=>simp[e2]at h
     |some u=>
      cases u with
      |none=>simp[e2]at h
      |some sl'=>
       simp[e2]at h
       refine⟨j,sl',e2,h.symm,fun v hv=> ?_⟩
       unfold oq
       rw[List.getElem?_map,en]
       simp only[Option.map_some,Option.some.injEq]
       rw[if_pos hf,ei]
       show (σ[j]?).join=some v
       rw[hv];rfl
   ·rw[if_neg hf]at h;cases h
 refine⟨bZ.refl (r1.sub.trans (cy hp)),fun i d h=> ?_,fun i d h=> ?_,fun i d h=> ?_,cy hp,fun i j d d' a h=> ?_,by simp[lL,oq],(fun L h=>by cases h),(fun L h=>by cases h),(fun _ _ e=>by cases e), .no fun i x vds f hs h=>(by obtain⟨j,sl,h1,h2,h3⟩:=key i _ h;cases sl<;>cases h2),fun L h=>by cases h⟩
 ·obtain⟨j,sl,h1,h2,h3⟩:=key i _ h
  cases sl with
  |val d'=>cases h2;obtain⟨v,k1,k2⟩:=r1.val j d h1;exact⟨v,h3 v k1,k2⟩
  |own d'=>cases h2
  |bor d'=>cases h2
  |obj=>cases h2
  |cel=>cases h2
 ·obtain⟨j,sl,h1,h2,h3⟩:=key i _ h;cases sl<;>cases h2
 ·obtain⟨j,sl,h1,h2,h3⟩:=key i _ h
  cases sl with
  |val d'=>cases h2
  |own d'=>cases h2;obtain⟨a,o,k1,k2,k3,k4,k5⟩:=r1.own j d h1;exact⟨a,o,h3 _ k1,k2,k5⟩
  |bor d'=>cases h2;obtain⟨a,o,k1,k2,k3⟩:=r1.bor j d h1;exact⟨a,o,h3 _ k1,r1.ext.keep _ _ (r1.bh _ _ k2),k3.mono r1.ext.grow⟩
  |obj=>cases h2
  |cel=>cases h2
 ·obtain⟨k,sl,h1,h2,h3⟩:=key i _ h;cases sl<;>cases h2
theorem RI.bump {K:PySem.W.Frag} {ρ:ai} {σ:St} {H F H1 F1:Hp} {p:Addr} {o o':HO} {Er:Str->ai->Prop} (r:RI K (⟨bK H1 p o,F1,H1,Er,fun _=>none,fun _=>none⟩:d_ []) ρ σ H F) (hp:H1 p=none) (hF:F p=none):
  RI K (⟨bK H1 p o',F1,H1,Er,fun _=>none,fun _=>none⟩:d_ []) ρ σ (bK H p o') F:=by
 refine⟨⟨fun b u e=> ?_,fun b u e=> ?_,r.ext.grow,fun b e=> ?_⟩,r.val,fun i d h=> ?_,r.bor,cy hp,r.dis,r.len,(fun L h=>by cases h),(fun L h=>by cases h),(fun _ _ e=>by cases e),⟨fun i x vds f hs h=> ?_,r.cel.one⟩,fun L h=>by cases h⟩
 ·rw[av (fun z=>by rw[z,hF]at e;cases e)];exact r.sub b u e
 ·change bK H1 p o' b=some u at e
  by_cases z:b=p
  ·subst z;rw[az]at e ⊢;exact e
  ·rw[av z]at e ⊢;exact r.ext.keep b u (by show bK H1 p o b=some u;rw[av z];exact e)
 ·by_cases z:b=p
  ·subst z;exact absurd hF e
  ·rcases r.ext.new b e with q|q
   ·exact .inl q
   ·refine .inr ?_
    change bK H1 p o b=none at q
    show bK H1 p o' b=none
    rw[av z]at q ⊢;exact q
 ·obtain⟨a,u,h1,h2,h3,h4,h5⟩:=r.own i d h
  change bK H1 p o a=none at h4
  have z:a≠p:=fun z=>by subst z;rw[az]at h4;cases h4
  refine⟨a,u,h1,by rw[av z];exact h2,h3,?_,h5⟩
  show bK H1 p o' a=none
  rw[av z]at h4 ⊢;exact h4
 ·obtain⟨a,dx,b,h1,h2,h3⟩:=r.cel.ex i x vds f hs h
  obtain⟨C,fs,vs,us,g1,g2,g3,g4,g5⟩:=h2.ex
  have key:∀{z:Addr},bK H1 p o z=none->z≠p/\bK H1 p o' z=none:=fun {z} e=>by
   have n:z≠p:=fun q=>by subst q;rw[az]at e;cases e
   exact⟨n,by rw[av n]at e ⊢;exact e⟩
  obtain⟨na,ea⟩:=key h2.za
  obtain⟨nd,ed⟩:=key h2.zd
  obtain⟨nb,eb⟩:=key h2.zb
  exact⟨a,dx,b,h1,⟨⟨C,fs,vs,us,by rw[av na];exact g1,g2,g3,by rw[av nb];exact g4,g5⟩,by rw[av nd];exact h2.own,h2.fa,h2.fd,h2.fb,ea,ed,eb⟩,h3⟩
def eA (g:D->ai->R ai) (gt:ai->R Bool) (fe:ai->R D):List D->ai->R (List D)
 |[],_=> .ok []
 |d::r,τ=>g d τ>>=fun τ1=>gt τ1>>=fun b=>if b=true then (fe τ1>>=fun y=>eA g gt fe r τ1>>=fun ys=> .ok (y::ys))else eA g gt fe r τ1
def Ii (K:PySem.W.Frag) (g:D->ai->R ai):TG:=fun v σ H Q=>∃c:d_ [],(∀e ρ,¬c.Er e ρ)/\tG K c g v σ H Q
def Ij (K:PySem.W.Frag) (g:ai->R Bool):TT:=fun σ H Q=>∃c:d_ [],(∀e ρ,¬c.Er e ρ)/\tT K c g σ H Q
def Ik (K:PySem.W.Frag) (g:ai->R D):TE:=fun σ H Q=>∃c:d_ [],(∀e ρ,¬c.Er e ρ)/\tQ K c g σ H Q
def xI (ly:List gA) (X:Cx) (ifs:List Expr) (gt:ai->R Bool):Prop:=∀c:jQ ly X,Dq X ifs (tT X.K c.1 gt)
def jC:ai->R Bool:=fun _=> .ok true
theorem mK {X:Cx}:xI ly X [] jC:=fun c pins s σ H Q I q=>by
 obtain⟨F,ρ,ri,w⟩:=q
 exact BZ pins s σ H Q I (w H F (bZ.refl ri.sub))
theorem zJ {X:Cx} {c:Expr} {gt:ai->R Bool} (h:sA ly X c gt):xI ly X [c] gt:=fun c=>B_ (h c)
theorem hV {α β:Type} {r:R α} {f:α->R β} {b:β} (h:(r>>=f)= .ok b):∃a,r= .ok a/\f a= .ok b:=by
 cases r with
 |ok a=>exact⟨a,rfl,h⟩
 |err c ρ=>cases h
 |bad=>cases h
theorem lc {K:PySem.W.Frag} {c:d_ ly} {ρ:ai} {σ:St} {H F H1 F1:Hp} {N:List Str} {names:List (Str×NameKind)} {p:Addr} {g:D->ai->R ai} {gt:ai->R Bool} {fe:ai->R D} {J:It} {ds es:List D} {Q:Hp->Prop}
  (ri:RI K c ρ σ H F) (e:bZ H F H1 F1) (jo:xG K F1 J ds) (hp:H1 p=none) (hl:ds.length<=lim) (he:eA g gt fe ds (lL N names ρ)= .ok es)
  (k:∀H2 F2 vs,bZ H1 F1 H2 F2->H2 p=some (.lst vs)->F2 p=none->Reps K F2 vs es->Q H2):
  ot J (Ii K g) (Ij K gt) (Ik K fe) p (oq N names σ) Q (bK H1 p (.lst [])):=by
 have s1:aY F1 H1:=e.sub
 have f1:F1 p=none:=s1.free hp
 refine⟨fun i m ys τ H=>∃F ρ' pre rest,RI K (⟨bK H1 p (.lst ys),F1,H1,fun _ _=>False,fun _=>none,fun _=>none⟩:d_ []) ρ' τ H F/\Reps K F ys pre/\pre.length<=i/\m=ds.length - i/\i<=ds.length/\eA g gt fe (ds.drop i) ρ'= .ok rest/\pre++rest=es,
  ⟨_,F1,_,[],es,Go ri e hp, .nil,Nat.le_refl _,rfl,Nat.zero_le _,he,rfl⟩,?_⟩
 rintro i m ys τ H2 ⟨F2,ρ',pre,rest,r2,rp,hpi,rfl,hi,hc,hes⟩
 have hF2:F2 p=none:=by
  cases q:F2 p with
  |none=>rfl
  |some u=>
   rcases r2.ext.new p (by rw[q];simp)with z|z
   ·exact absurd f1 z
   ·change bK H1 p (.lst ys) p=none at z;rw[az]at z;cases z
 have hD:∀{ρ' τ H F},RI K (⟨bK H1 p (.lst ys),F1,H1,fun _ _=>False,fun _=>none,fun _=>none⟩:d_ []) ρ' τ H F->H p=some (.lst ys):=fun r=>r.ext.keep p _ az
 refine⟨hD r2,?_⟩
 by_cases hlt:i<ds.length
 ·refine .inr ⟨jo.go i H2 (r2.ext.grow.trans r2.sub) hlt,?_,fun x H3 y=> ?_⟩
  ·have:=rp.length
   have:=fY
   omega
  ·obtain⟨F3,d,hd,e3,r3⟩:=jo.yld i H2 F2 x H3 r2.ext.grow r2.sub y hlt
   obtain⟨hl',ed⟩:=List.getElem?_eq_some_iff.mp hd
   rw[List.drop_eq_getElem_cons hl',ed]at hc
   obtain⟨τ1,h1,hc⟩:=hV (r:=g d ρ') hc
   obtain⟨b,h2,hc⟩:=hV (r:=gt τ1) hc
   refine⟨_,fun e ρ h=>h,F3,ρ',d,r2.step e3,r3,?_⟩
   rw[h1]
   intro τ4 H4 F4 s4 r4
   refine⟨_,fun e ρ h=>h,F4,τ1,r4,?_⟩
   rw[h2]
   intro H5 F5 e5
   cases b with
   |false=>
    exact⟨ds.length - (i+1),by omega,F5,τ1,pre,rest,r4.step e5,(rp.mono e3.grow).mono (s4.trans e5.grow),by omega,rfl,hlt,hc,hes⟩
   |true=>
    rw[if_pos rfl]at hc ⊢
    obtain⟨y',h3,hc⟩:=hV (r:=fe τ1) hc
    obtain⟨ys',h4,hc⟩:=hV (r:=eA g gt fe (ds.drop (i+1)) τ1) hc
    cases hc
    refine⟨_,fun e ρ h=>h,F5,τ1,r4.step e5,?_⟩
    rw[h3]
    intro v H6 F6 e6 r6
    have r6':=(r4.step e5).step e6
    refine⟨hD r6',ds.length - (i+1),by omega,F6,τ1,pre++[y'],ys',r6'.bump hp ?_,(((rp.mono e3.grow).mono (s4.trans e5.grow)).mono e6.grow).append (.cons r6 .nil),by simp;omega,rfl,hlt,h4,by rw[<-hes];simp⟩
    cases q:F6 p with
    |none=>rfl
    |some u=>
     rcases r6'.ext.new p (by rw[q];simp)with z|z
     ·exact absurd f1 z
     ·change bK H1 p (.lst ys) p=none at z;rw[az]at z;cases z
 ·have ei:i=ds.length:=by omega
  subst ei
  rw[List.drop_length]at hc
  cases hc
  rw[List.append_nil]at hes
  subst hes
  refine .inl ⟨jo.stop H2 (r2.ext.grow.trans r2.sub),k H2 F2 ys ⟨r2.sub,(cy hp).trans r2.ext.keep,r2.ext.grow,fun a ha=> ?_⟩ (hD r2) hF2 rp⟩
  rcases r2.ext.new a ha with z|z
  ·exact .inl z
  ·refine .inr ?_
   change bK H1 p (.lst ys) a=none at z
   rw[av (fun q=>by subst q;rw[az]at z;cases z)]at z
   exact z
section
variable {X:Cx} {elt tg iter:Expr} {ifs:List Expr} {scope:Scope} {pos:Pos} {fi:ai->R (List D)} {g:D->ai->R ai} {gt:ai->R Bool} {fe:ai->R D}
def ib (N:List Str) (names:List (Str×NameKind)) (fi:ai->R (List D)) (g:D->ai->R ai) (gt:ai->R Bool) (fe:ai->R D):ai->R (List D):=fun ρ=>fi ρ>>=fun ds=>if ds.length<=lim then (match eA g gt fe ds (lL N names ρ)with
 | .ok es=> .ok es
 |_=> .bad)else .bad
def fL (f:ai->R (List D)):ai->R D:=fun ρ=>f ρ>>=fun ds=> .ok (.lst ds)
theorem HR {X:Cx} (h:Ci [] X tg g):PG X tg (Ii X.K g):=fun pins s σ H v u Q I r ⟨c,hn,q⟩=>h ⟨c, .no hn⟩ pins s σ H v u Q I r q
theorem HS {X:Cx} (h:xI [] X ifs gt):Dq X ifs (Ij X.K gt):=fun pins s σ H Q I ⟨c,hn,q⟩=>h ⟨c, .no hn⟩ pins s σ H Q I q
theorem HU {X:Cx} (h:PQ [] X elt fe):PE X elt (Ik X.K fe):=fun pins s σ H Q I ⟨c,hn,q⟩=>h ⟨c, .no hn⟩ pins s σ H Q I q
theorem mL (S:cj X scope) (hc:X.calm=true) (hi:EF ly X tg iter fi) (hg:∀s H ex,Ci [] (da X scope s H ex) tg g) (hif:∀s H ex,xI [] (da X scope s H ex) ifs gt) (hel:∀s H ex,PQ [] (da X scope s H ex) elt fe)
  (hs:∀x,foldedSetIterable iter X.env x=pure x:=by intro _;rfl):PQ ly X (.ListComp elt [⟨tg,iter,ifs,0⟩] scope pos) (fL (ib X.N scope.names fi g gt fe)):=fun c=>
 PE.weak (vY S hc (hi c) (fun s H ex=>HR (hg s H ex)) (fun s H ex=>HS (hif s H ex)) (fun s H ex=>HU (hel s H ex)) hs) fun σ H Q ⟨F,ρ,ri,w⟩=>by
  refine⟨F,ρ,ri,(aJ.bind.mp (aJ.bind.mp w)).imp fun ds _ w1 J H1 F1 e1 jo p hp=> ?_⟩
  split at w1
  ·rename_i hl
   split at w1
   ·rename_i es he
    refine lc ri e1 jo hp hl he fun H2 F2 vs e2 hp2 hf2 rv=> ?_
    have g2:aY F2 (bK F2 p (.lst vs)):=cy hf2
    refine w1 (.ref p) H2 (bK F2 p (.lst vs)) ⟨fun b u eb=> ?_,e1.keep.trans e2.keep,(e1.grow.trans e2.grow).trans g2,fun a ha=> ?_⟩ (.lst az (rv.mono g2))
    ·by_cases z:b=p
     ·subst z;rw[az]at eb;rw[hp2];exact eb
     ·rw[av z]at eb;exact e2.sub b u eb
    ·by_cases z:a=p
     ·subst z;exact .inr (e1.keep.free hp)
     ·rw[av z]at ha
      exact(e1.trans e2).new a ha
   ·exact w1.elim
  ·exact w1.elim
def uW (i:Nat) (f:ai->R (List D)):ai->R bG:=fun ρ=>f ρ>>=fun ds=> .ok (.nx (ρ.set i (some (.own (.lst ds)))))
theorem EI (i:Nat) {y:Str} {py spos:Pos} (S:cj X scope) (hc:X.calm=true) (hN:X.N.Nodup) (hi:EF ly X tg iter fi) (hg:∀s H ex,Ci [] (da X scope s H ex) tg g) (hif:∀s H ex,xI [] (da X scope s H ex) ifs gt) (hel:∀s H ex,PQ [] (da X scope s H ex) elt fe)
  (hi':X.N[i]? =some y:=by rfl) (hx:xc X.env.scope y:=by first|exact Or.inl rfl|exact Or.inr rfl) (hf:X.fn y=true\/X.env.scope.names.lookup y=some .local:=by first|exact .inl rfl|exact .inr rfl|assumption)
  (hsw:swapsWith (.ListComp elt [⟨tg,iter,ifs,0⟩] scope pos) (some (.Name y py)) spos.line X.env=pure true:=by rfl) (hs:∀x,foldedSetIterable iter X.env x=pure x:=by intro _;rfl) (hfr:k_ ly i:=by(repeat (first|assumption|exact L2.Pu.eL|refine L2.Pu.free_cons ⟨by first|decide|simp,by first|decide|simp⟩ ?_))):
  mJ ly X (.Assign [.Name y py] (.ListComp elt [⟨tg,iter,ifs,0⟩] scope pos) spos) (uW i (ib X.N scope.names fi g gt fe)):=fun c=>
 PS.weak (C3 S hc (hi c) (fun s H ex=>HR (hg s H ex)) (fun s H ex=>HS (hif s H ex)) (fun s H ex=>HU (hel s H ex)) (vM hN hi' hx hf) hsw hs) fun D σ H ⟨F,ρ,ri,w⟩=>by
  refine⟨F,ρ,ri,(aJ.bind.mp (aJ.bind.mp w)).imp fun ds _ w1 J H1 F1 e1 jo p hp=> ?_⟩
  split at w1
  ·rename_i hl
   split at w1
   ·rename_i es he
    refine lc ri e1 jo hp hl he fun H2 F2 vs e2 hp2 hf2 rv=> ?_
    refine w1 _ H2 F2 (e1.grow.trans e2.grow) ((ri.step (e1.trans e2)).setOwn i hfr hp2 hf2 (ri.ext.keep.free (e1.keep.free hp)) (.lst rv) (fun j d' _ hj ej=> ?_) (ri.celNe (e1.trans e2).keep (e1.keep.free hp)))
    obtain⟨a,o,k1,k2,_⟩:=ri.own j d' hj
    rw[ej]at k1
    cases k1
    rw[e1.keep.free hp]at k2
    cases k2
   ·exact w1.elim
  ·exact w1.elim
end
def cF:D->Option a_
 | .int i=>some (.inl i)
 | .str x=>some (.inr x)
 |_=>none
def bV (kds:List (a_×D)) (k:a_):Option D:=(kds.find? fun kv=>decide (kv.1=k)).map (·.2)
def ji (kds:List (a_×D)) (k:a_) (v:D):List (a_×D):=
 if (kds.any fun kv=>decide (kv.1=k))=true then kds.map (fun kv=>if kv.1=k then (kv.1,v)else kv)else kds++[(k,v)]
theorem fz {K:PySem.W.Frag} {H F:Hp} {v:V} {d:D} {k:a_} (h:cF d=some k) (r:cG K H F v d):v=kV k:=by
 cases d with
 |int i=>cases h;exact r.int
 |str x=>cases h;exact r.str
 |_=>cases h
section
variable {K:PySem.W.Frag} {F:Hp}
theorem RepK.any (k:a_):∀{vs:List (a_×V)} {ds:List (a_×D)},RepK K F vs ds->(vs.any fun kv=>decide (kv.1=k))=ds.any fun kv=>decide (kv.1=k):=by
 intro vs ds
 induction ds generalizing vs with
 |nil=>intro h;rw[h.nilI];rfl
 |cons d ds ih=>
  intro h
  obtain⟨v,us,rfl,_,t⟩:=RepK.consI (k:=d.1) (d:=d.2) h
  rw[List.any_cons,List.any_cons,ih t]
theorem RepK.get (k:a_):∀{vs:List (a_×V)} {ds:List (a_×D)},RepK K F vs ds->(jd vs k=none/\bV ds k=none)\/∃v d,jd vs k=some v/\bV ds k=some d/\et K F v d:=by
 intro vs ds
 induction ds generalizing vs with
 |nil=>intro h;rw[h.nilI];exact .inl ⟨rfl,rfl⟩
 |cons d ds ih=>
  intro h
  obtain⟨a,d⟩:=d
  obtain⟨v,vs,rfl,r,t⟩:=h.consI
  by_cases e:a=k
  ·exact .inr ⟨v,d,by simp[jd,e],by simp[bV,e],r⟩
  ·have h1:jd ((a,v)::vs) k=jd vs k:=by simp[jd,e]
   have h2:bV ((a,d)::ds) k=bV ds k:=by simp[bV,e]
   rw[h1,h2]
   exact ih t
theorem RepK.repl (k:a_) {v:V} {d:D} (h:et K F v d):∀{vs:List (a_×V)} {ds:List (a_×D)},RepK K F vs ds->RepK K F (vs.map fun kv=>if kv.1=k then (kv.1,v)else kv) (ds.map fun kv=>if kv.1=k then (kv.1,d)else kv):=by
 intro vs ds
 induction ds generalizing vs with
 |nil=>intro h;rw[h.nilI];exact .nil
 |cons x ds ih=>
  intro g
  obtain⟨a,x⟩:=x
  obtain⟨y,vs,rfl,r,t⟩:=g.consI
  rw[List.map_cons,List.map_cons]
  by_cases e:a=k
  ·simp only[e,if_true];exact .cons h (ih t)
  ·simp only[e,if_false];exact .cons r (ih t)
theorem RepK.append:∀{vs us:List (a_×V)} {ds es:List (a_×D)},RepK K F vs ds->RepK K F us es->RepK K F (vs++us) (ds++es):=by
 intro vs us ds
 induction ds generalizing vs with
 |nil=>intro es h g;rw[h.nilI];exact g
 |cons x ds ih=>
  intro es h g
  obtain⟨a,x⟩:=x
  obtain⟨y,vs,rfl,r,t⟩:=h.consI
  exact .cons r (ih t g)
theorem RepK.put (k:a_) {v:V} {d:D} (h:et K F v d) {vs:List (a_×V)} {ds:List (a_×D)} (r:RepK K F vs ds):RepK K F (iT vs k v) (ji ds k d):=by
 unfold iT ji
 rw[r.any k]
 split
 ·exact r.repl k h
 ·exact r.append (.cons h .nil)
end
theorem uX {kvs:List (a_×V)} {k:a_} (v:V) (hn:(kvs.map (·.1)).Nodup):((iT kvs k v).map (·.1)).Nodup:=by
 unfold iT
 split
 ·have e:(kvs.map fun kv=>if kv.1=k then (kv.1,v)else kv).map (·.1)=kvs.map (·.1):=by
   rw[List.map_map]
   refine List.map_congr_left fun kv _=> ?_
   show (if kv.1=k then (kv.1,v)else kv).1=kv.1
   split<;>rfl
  rw[e];exact hn
 ·rename_i h
  rw[List.map_append]
  refine List.nodup_append.mpr ⟨hn,by simp,fun a ha b hb=> ?_⟩
  have eb:b=k:=by simpa using hb
  subst eb
  intro z
  subst z
  obtain⟨kv,h1,h2⟩:=List.mem_map.mp ha
  exact h (List.any_eq_true.mpr ⟨kv,h1,by simp[h2]⟩)
section
variable {X:Cx} {a b e:Expr} {es:List Expr} {fa fb f fk fv:ai->R D} {fs:ai->R (List D)} {pos:Pos}
def jD (i:Nat) (f:ai->R D):ai->R bG:=fun ρ=>match ρ[i]? with
 |some (some (.own (.lst ds)))=>f ρ>>=fun d=>if ds.length<lim then .ok (.nx (ρ.set i (some (.own (.lst (ds++[d]))))))else .bad
 |_=> .bad
theorem RI.ownL {K:PySem.W.Frag} {c:d_ ly} {ρ:ai} {σ:St} {H F:Hp} (ri:RI K c ρ σ H F) {i:Nat} {ds:List D} (h:ρ[i]? =some (some (.own (.lst ds)))):∃a vs,σ[i]? =some (some (.ref a))/\H a=some (.lst vs)/\Reps K F vs ds:=by
 obtain⟨a,o,h1,h2,_,_,h5⟩:=ri.own i _ h
 cases h5 with
 |lst r=>exact⟨a,_,h1,h2,r⟩
theorem RI.ownD {K:PySem.W.Frag} {c:d_ ly} {ρ:ai} {σ:St} {H F:Hp} (ri:RI K c ρ σ H F) {i:Nat} {ds:List (a_×D)} (h:ρ[i]? =some (some (.own (.dic ds)))):∃a vs,σ[i]? =some (some (.ref a))/\H a=some (.dK vs)/\RepK K F vs ds/\(vs.map (·.1)).Nodup:=by
 obtain⟨a,o,h1,h2,_,_,h5⟩:=ri.own i _ h
 cases h5 with
 |dic r n=>exact⟨a,_,h1,h2,r,n⟩
theorem cK (i:Nat) {x:Str} {px apos cpos:Pos} (h:PQ ly X e f) (hN:X.N[i]? =some x:=by rfl) (hv:uo X.env.scope x:=by first|exact Or.inl rfl|exact Or.inr (Or.inl rfl)|exact Or.inr (Or.inr rfl)) (hd:(x==("__debug__":Str))=false:=by decide)
  (hcd:(x==("__classdict__":Str))=false:=by decide) (hbase:attributeBase (.Name x px) "append" X.env (eval (.Name x px) X.env)=eval (.Name x px) X.env:=by rfl)
  (hfew:((backTo cpos (starEach [e] X.env)).all (fun x=> !x.1)&&(backToKw cpos (keywordEach [] X.env)).all (fun x=>x.1.isSome)
   &&decide (([e]:List Expr).length+([]:List Keyword).length+(if ([]:List Keyword).isEmpty then 0 else 1)<30))=true:=by rfl)
  (hline:(apos.endLine==cpos.line)=true:=by rfl) (hs:starEach [e] X.env=(false,eval e X.env)::starEach [] X.env:=by rfl) (hplain:(backTo cpos (starEach [] X.env)).any (·.1)=false:=by rfl)
  (hsw:swapsWith (.Call (.Attribute (.Name x px) "append" apos) [e] [] cpos) none pos.line X.env=pure false:=by rfl):mJ ly X (.Expr (.Call (.Attribute (.Name x px) "append" apos) [e] [] cpos) pos) (jD i f):=fun c=>
 PS.weak (r9 (zf PySem.F.plainAttrs_list PySem.F.slot_list_append PySem.F.type_list_append qq (pv i hN hv hd hcd) (dY (h c) iK hs) hbase hfew hline hs hplain) hsw) fun D σ H ⟨F,ρ,ri,w⟩=>by
  unfold jD at w
  split at w
  ·rename_i ds hi
   obtain⟨a,vs,h1,h2,h3⟩:=ri.ownL hi
   refine⟨_,h1, .inl ⟨rfl,vs,eC.of h2⟩,F,ρ,ri,(aJ.bind.mp w).imp fun d _ w1 v H1 F1 e1 r1=> ?_⟩
   split at w1
   ·rename_i hl
    refine⟨a,vs,v,rfl,rfl,e1.keep _ _ h2,Nat.lt_of_lt_of_le (by rw[h3.length];exact hl) fY,?_⟩
    exact w1 σ _ F1 e1.grow ((ri.step e1).change (o:= .lst vs) hi h1 (.lst ((h3.mono e1.grow).append (.cons r1 .nil))))
   ·exact w1.elim
  ·exact w.elim
def oP (i:Nat) (fk fv:ai->R D):ai->R bG:=fun ρ=>match ρ[i]? with
 |some (some (.own (.dic kds)))=>fv ρ>>=fun v=>fk ρ>>=fun k=>match cF k with
  |some key=>if kds.length<lim then .ok (.nx (ρ.set i (some (.own (.dic (ji kds key v))))))else .bad
  |none=> .bad
 |some (some (.own (.lst ds)))=>fv ρ>>=fun v=>fk ρ>>=fun k=>match k with
  | .int j=>(match uI ds.length j with
   |some n=> .ok (.nx (ρ.set i (some (.own (.lst (ds.set n v))))))
   |none=> .bad)
  |_=> .bad
 |_=> .bad
theorem sZ (i:Nat) {x:Str} {px pos':Pos} (hu:X.A.units+1<cLine) (hk:PQ ly X a fk) (h:PQ ly X e fv) (hN:X.N[i]? =some x:=by rfl) (hv:uo X.env.scope x:=by first|exact Or.inl rfl|exact Or.inr (Or.inl rfl)|exact Or.inr (Or.inr rfl)) (hd:(x==("__debug__":Str))=false:=by decide)
  (hcd:(x==("__classdict__":Str))=false:=by decide) (hs:swapsWith e (some (.Subscript (.Name x px) a pos')) pos.line X.env=pure false:=by rfl)
  (ha:∀v,assign (.Subscript (.Name x px) a pos') X.env v=(do
   let ov<-holding [v] (eval (.Name x px) X.env)
   let iv<-holding [v,ov] (eval a X.env)
   standAt pos'
   holding [v,ov,iv] (setItem ov iv v)
   release [v,ov,iv] []):=by intro _;rfl)
  (hs2:swapsWithSole [.Subscript (.Name x px) a pos'] e pos.line X.env=pure false:=by rfl) (hw:swappedStores [.Subscript (.Name x px) a pos'] e X.env=pure none:=by rfl)
  (h1:(assignEach [.Subscript (.Name x px) a pos'] X.env).map (·.2)=[assign (.Subscript (.Name x px) a pos') X.env]:=by rfl):mJ ly X (.Assign [.Subscript (.Name x px) a pos'] e pos) (oP i fk fv):=by
 intro c pins s σ H D I q
 obtain⟨F,ρ,ri,w⟩:=q
 unfold oP at w
 split at w
 ·rename_i kds hi
  obtain⟨p,vs,g1,g2,g3,g4⟩:=ri.ownD hi
  refine BU hu (pv i hN hv hd hcd) (hk c) (h c) hs pins s σ H D I ⟨F,ρ,ri,(aJ.bind.mp w).imp fun d _ w1 v H1 F1 e1 r1=> ?_⟩
  refine⟨_,g1,F1,ρ,ri.step e1,(aJ.bind.mp w1).imp fun k _ w2 u H2 F2 e2 r2=> ?_⟩
  cases hk':cF k with
  |none=>rw[hk']at w2;exact w2.elim
  |some key=>
   rw[hk']at w2
   cases fz (H:=H2) hk' (.inl r2)
   dsimp only at w2
   split at w2
   ·rename_i hl
    have e12:=e1.trans e2
    refine⟨p,_,rfl,rj.k (k:=key) (e12.keep _ _ g2) (Nat.lt_of_lt_of_le (by rw[g3.length];exact hl) fY),?_⟩
    exact w2 σ _ F2 e12.grow ((ri.step e12).change (o:= .dK vs) hi g1 (.dic ((g3.mono e12.grow).put key (r1.mono e2.grow)) (uX _ g4)))
   ·exact w2.elim
 ·rename_i ds hi
  obtain⟨p,vs,g1,g2,g3⟩:=ri.ownL hi
  refine uu (h c) (D_ (pv i hN hv hd hcd) (hk c) yZ ha) hs2 hw h1 pins s σ H D I ⟨F,ρ,ri,(aJ.bind.mp w).imp fun d _ w1 v H1 F1 e1 r1=> ?_⟩
  refine⟨_,g1,F1,ρ,ri.step e1,(aJ.bind.mp w1).imp fun k _ w2 u H2 F2 e2 r2=> ?_⟩
  cases k with
  |int j=>
   cases r2
   dsimp only at w2
   split at w2
   ·rename_i n hn
    have e12:=e1.trans e2
    refine⟨p,vs,j,n,rfl,rfl,e12.keep _ _ g2,by rw[g3.length];exact hn,?_⟩
    exact w2 σ _ F2 e12.grow ((ri.step e12).change (o:= .lst vs) hi g1 (.lst ((g3.mono e12.grow).set n (r1.mono e2.grow))))
   ·exact w2.elim
  |_=>exact w2.elim
 ·exact w.elim
def zK (j i:Nat) (fk:ai->R D):ai->R bG:=fun ρ=>match ρ[i]? with
 |some (some (.own (.lst ds)))=>fk ρ>>=fun k=>match k with
  | .int n=>if n.natAbs<=lim then (match seqIndex? n ds.length with
   |some m=>(match ds[m]? with
    |some d=> .ok (.nx ((ρ.set i (some (.own (.lst (ds.eraseIdx m))))).set j (some (.val d))))
    |none=> .bad)
   |none=> .bad)else .bad
  |_=> .bad
 |_=> .bad
theorem Gp (j i:Nat) {x y:Str} {px apos cpos pos':Pos} (hNd:X.N.Nodup) (h:PQ ly X e f) (hN:X.N[i]? =some x:=by rfl) (hv:uo X.env.scope x:=by first|exact Or.inl rfl|exact Or.inr (Or.inl rfl)|exact Or.inr (Or.inr rfl)) (hd:(x==("__debug__":Str))=false:=by decide)
  (hcd:(x==("__classdict__":Str))=false:=by decide) (hbase:attributeBase (.Name x px) "pop" X.env (eval (.Name x px) X.env)=eval (.Name x px) X.env:=by rfl)
  (hfew:((backTo cpos (starEach [e] X.env)).all (fun x=> !x.1)&&(backToKw cpos (keywordEach [] X.env)).all (fun x=>x.1.isSome)
   &&decide (([e]:List Expr).length+([]:List Keyword).length+(if ([]:List Keyword).isEmpty then 0 else 1)<30))=true:=by rfl)
  (hline:(apos.endLine==cpos.line)=true:=by rfl) (hs:starEach [e] X.env=(false,eval e X.env)::starEach [] X.env:=by rfl) (hplain:(backTo cpos (starEach [] X.env)).any (·.1)=false:=by rfl)
  (hNj:X.N[j]? =some y:=by rfl) (hx:xc X.env.scope y:=by first|exact Or.inl rfl|exact Or.inr rfl) (hsw:swapsWith (.Call (.Attribute (.Name x px) "pop" apos) [e] [] cpos) (some (.Name y pos')) pos.line X.env=pure false:=by rfl)
  (hf:X.fn y=true\/X.env.scope.names.lookup y=some .local:=by first|exact .inl rfl|exact .inr rfl|assumption) (hfr:k_ ly j:=by(repeat (first|assumption|exact L2.Pu.eL|refine L2.Pu.free_cons ⟨by first|decide|simp,by first|decide|simp⟩ ?_))):mJ ly X (.Assign [.Name y pos'] (.Call (.Attribute (.Name x px) "pop" apos) [e] [] cpos) pos) (zK j i f):=fun c=>
 PS.weak (kT hNd hNj hx (zf PySem.F.plainAttrs_list PySem.F.slot_list_pop PySem.F.type_list_pop zg (pv i hN hv hd hcd) (dY (h c) iK hs) hbase hfew hline hs hplain) hsw hf) fun D σ H ⟨F,ρ,ri,w⟩=>by
  unfold zK at w
  split at w
  ·rename_i ds hi
   obtain⟨a,vs,h1,h2,h3⟩:=ri.ownL hi
   refine⟨_,h1, .inl ⟨rfl,vs,eC.of h2⟩,F,ρ,ri,(aJ.bind.mp w).imp fun k _ w1 v H1 F1 e1 r1=> ?_⟩
   cases k with
   |int n=>
    cases r1
    dsimp only at w1
    split at w1
    ·rename_i hn
     split at w1
     ·rename_i m hm
      split at w1
      ·rename_i d hd'
       obtain⟨v,hv',rv⟩:=h3.get hd'
       refine⟨a,vs,n,m,v,rfl,rfl,e1.keep _ _ h2,by have:=eU hn;omega,by have:=eU hn;omega,by rw[h3.length];exact hm,hv',?_⟩
       exact w1 _ _ F1 e1.grow (((ri.step e1).change (o:= .lst vs) hi h1 (.lst ((h3.mono e1.grow).eraseIdx m))).setVal j hfr (rv.mono e1.grow))
      ·exact w1.elim
     ·exact w1.elim
    ·exact w1.elim
   |_=>exact w1.elim
  ·exact w.elim
end
end L2.Pu
namespace L2.Pu
open PySem PySem.Spec PyProof.Rows
variable {ly:List gA}
section
variable {K:PySem.W.Frag}
def pW (i j:Int):Prop:=i.natAbs<18446744073709551616\/j.natAbs<18446744073709551616
def uY (_ j:Int):Prop:=0<j/\j.natAbs<1073741824
def zL (i j:Int):Prop:=0<=j/\j.natAbs<=1000000/\i.natAbs<18446744073709551616
instance (i j:Int):Decidable (pW i j):=by unfold pW;infer_instance
instance (i j:Int):Decidable (uY i j):=by unfold uY;infer_instance
instance (i j:Int):Decidable (zL i j):=by unfold zL;infer_instance
theorem pW.c {i j:Int} (h:pW i j):xl i j:=by
 unfold pW at h
 unfold xl
 omega
theorem uY.c {i j:Int} (h:uY i j):Bw i j:=by
 unfold uY at h
 unfold Bw
 omega
theorem zL.c {i j:Int} (h:zL i j):FV i j:=by
 unfold zL at h
 unfold FV
 omega
def cH:D->D->Option D
 | .int i, .int j=>some (.int (i+j))
 | .lst a, .lst b=>if a.length+b.length<=lim then some (.lst (a++b))else none
 | .tup a, .tup b=>if a.length+b.length<=lim then some (.tup (a++b))else none
 |_,_=>none
def Du (K:PySem.W.Frag):R2:=fun x y H Q=>(yM (fun i j=> .int (i+j)) x y H Q\/G6 x y H Q)\/(Dl K x y H Q\/Dr K x y H Q)
theorem bz {X:Cx}:kh X (binaryOp .Add) (Du X.K):=(E4.or Eh).or (BI.or Cb)
theorem bA:jB K (Du K) cH:=by
 intro v u x y d H F Q s rx ry h k
 unfold cH at h
 split at h
 ·cases rx.int;cases ry.int;cases h;exact .inl (.inl ⟨_,_,rfl,rfl,k _ H F (bZ.refl s) (.int _)⟩)
 ·rename_i a b
  split at h
  ·rename_i hl
   cases h
   obtain⟨p,vs,rfl,h1,h2⟩:=rx.lst s
   obtain⟨q,us,rfl,h3,h4⟩:=ry.lst s
   refine .inl (.inr ⟨p,q,vs,us,rfl,rfl,h1,h3,Nat.le_trans (by rw[h2.length,h4.length];exact hl) fY,fun l hl'=> ?_⟩)
   have e:=bZ.lay (o:= .lst (vs++us)) s hl'
   exact k _ _ _ e (.lst az ((h2.append h4).mono e.grow))
  ·cases h
 ·rename_i a b
  split at h
  ·rename_i hl
   cases h
   obtain⟨p,vs,rfl,h1,h2⟩:=rx.tup s
   obtain⟨q,us,rfl,h3,h4⟩:=ry.tup s
   cases a with
   |nil=>
    cases h2
    refine .inr (.inr ⟨p,q,us,rfl,rfl,h_.of h1,h_.of h3,?_⟩)
    match ry with
    | .inl ry=>exact k _ H F (bZ.refl s) ry
   |cons a0 a1=>
    refine .inr (.inl ⟨p,q,vs,us,rfl,rfl,h_.of h1,h_.of h3,(fun z=>by subst z;cases h2),Nat.le_trans (by rw[h2.length,h4.length];exact hl) fY,fun z=> ?_,fun _ l hl'=> ?_⟩)
    ·subst z
     cases h4
     rw[List.append_nil]at k
     match rx with
     | .inl rx=>exact k _ H F (bZ.refl s) rx
    ·have e:=bZ.lay (o:= .tup (vs++us)) s hl'
     exact k _ _ _ e (.tup az ((h2.append h4).mono e.grow))
  ·cases h
 ·cases h
def Fv (g:Int->Int->D):D->D->Option D
 | .int i, .int j=>some (g i j)
 |_,_=>none
def EJ (C:Int->Int->Prop) [∀i j,Decidable (C i j)] (g:Int->Int->D):D->D->Option D
 | .int i, .int j=>if C i j then some (g i j)else none
 |_,_=>none
theorem uZ {gv:Int->Int->V} {g:Int->Int->D} (hg:∀F i j,et K F (gv i j) (g i j)):jB K (yM gv) (Fv g):=by
 intro v u x y d H F Q s rx ry h k
 cases x with
 |int i=>
  cases y with
  |int j=>cases rx.int;cases ry.int;cases h;exact⟨i,j,rfl,rfl,k _ H F (bZ.refl s) (hg F i j)⟩
  |_=>cases h
 |_=>cases h
theorem zM {C C':Int->Int->Prop} [∀i j,Decidable (C i j)] {gv:Int->Int->V} {g:Int->Int->D} (hC:∀i j,C i j->C' i j) (hg:∀F i j,et K F (gv i j) (g i j)):jB K (rI C' gv) (EJ C g):=by
 intro v u x y d H F Q s rx ry h k
 cases x with
 |int i=>
  cases y with
  |int j=>
   cases rx.int;cases ry.int
   replace h:(if C i j then some (g i j)else none)=some d:=h
   split at h
   ·cases h;exact⟨i,j,rfl,rfl,hC i j (by assumption),k _ H F (bZ.refl s) (hg F i j)⟩
   ·cases h
  |_=>cases h
 |_=>cases h
def gK:=Fv fun i j=> .int (i - j)
def fW:=EJ uY fun i j=> .int (i / j)
def fG:=EJ (fun _ j=>0<j) fun i j=> .int (i%j)
def Gq:=Fv fun i j=> .bl (decide (i<j))
def IE:=Fv fun i j=> .bl (decide (i<=j))
def we:=Fv fun i j=> .bl (decide (j<i))
def IF:=Fv fun i j=> .bl (decide (j<=i))
theorem cX:jB K (yM fun i j=> .int (i - j)) gK:=uZ fun F i j=> .int _
theorem cZ:jB K (rI Bw fun i j=> .int (i / j)) fW:=zM (fun _ _ h=>h.c) fun F i j=> .int _
theorem bW:jB K (rI (fun _ j=>0<j) fun i j=> .int (i%j)) fG:=zM (fun _ _ h=>h) fun F i j=> .int _
theorem u_:jB K (yM fun i j=> .bl (decide (i<j))) Gq:=uZ fun F i j=> .bl _
theorem oQ:jB K (yM fun i j=> .bl (decide (j<i))) we:=uZ fun F i j=> .bl _
def pX:D->D->Option D
 | .int i, .int j=>if pW i j then some (.int (i*j))else none
 | .lst a, .int k=>if k.natAbs<=lim/\a.length*k.toNat<=lim then some (.lst (List.replicate k.toNat a).flatten)else none
 |_,_=>none
def zN:R2:=fun x y H Q=>rI xl (fun i j=> .int (i*j)) x y H Q\/G7 x y H Q
theorem km {X:Cx}:kh X (binaryOp .Mult) zN:=E5.or Ei
theorem Reps.rep {F:Hp} {vs:List V} {ds:List D} (h:Reps K F vs ds):∀k:Nat,Reps K F (List.replicate k vs).flatten (List.replicate k ds).flatten
 |0=> .nil
 |k+1=>by
  rw[List.replicate_succ,List.replicate_succ,List.flatten_cons,List.flatten_cons]
  exact h.append (h.rep k)
theorem lM:jB K zN pX:=by
 intro v u x y d H F Q s rx ry h k
 unfold pX at h
 split at h
 ·rename_i i j
  cases rx.int;cases ry.int
  replace h:(if pW i j then some (D.int (i*j))else none)=some d:=h
  split at h
  ·rename_i hb;cases h;exact .inl ⟨i,j,rfl,rfl,pW.c hb,k _ H F (bZ.refl s) (.int _)⟩
  ·cases h
 ·rename_i a j
  split at h
  ·rename_i hl
   cases h
   cases ry.int
   obtain⟨p,vs,rfl,h1,h2⟩:=rx.lst s
   refine .inr ⟨p,j,vs,rfl,rfl,h1,by have:=eU hl.1;omega,by have:=eU hl.1;omega,Nat.le_trans (by rw[h2.length];exact hl.2) fY,fun l hl'=> ?_⟩
   have e:=bZ.lay (o:= .lst (List.replicate j.toNat vs).flatten) s hl'
   exact k _ _ _ e (.lst az ((h2.rep _).mono e.grow))
  ·cases h
 ·cases h
def v3:D->Option D
 | .int i=>some (.int (-i))
 |_=>none
theorem nZ:Gm K (rU fun i=> .int (-i)) v3:=by
 intro v x d H F Q s rx h k
 cases x with
 |int i=>cases rx.int;cases h;exact⟨i,rfl,k _ H F (bZ.refl s) (.int _)⟩
 |_=>cases h
def v4:D->D->Option Bool
 | .non, .non=>some true
 | .non, .int _=>some false
 | .int _, .non=>some false
 | .non, .bl _=>some false
 | .bl _, .non=>some false
 | .non, .str _=>some false
 | .str _, .non=>some false
 | .int i, .int j=>some (decide (i=j))
 | .bl i, .bl j=>some (decide (i=j))
 | .str i, .str j=>some (decide (i=j))
 | .int _, .str _=>some false
 | .str _, .int _=>some false
 | .bl _, .str _=>some false
 | .str _, .bl _=>some false
 |_,_=>none
def kn (x y:D):Option D:=(v4 x y).map .bl
def wg (x y:D):Option D:=(v4 x y).map fun b=> .bl (!b)
theorem qA {H F:Hp} {v u:V} {x y:D} {b:Bool} (rx:cG K H F v x) (ry:cG K H F u y) (h:v4 x y=some b):E6 v u=true/\decide (v=u)=b:=by
 cases x<;>cases y<;>first
  |(exfalso;revert h;simp[v4];done)
  |(first|cases rx.int|cases rx.bl|cases rx.str|cases rx.non)<;>(first|cases ry.int|cases ry.bl|cases ry.str|cases ry.non)<;>(refine⟨rfl,?_⟩;simp[v4]at h ⊢;try exact h)
theorem cO:jB K GZ kn:=by
 intro v u x y d H F Q s rx ry h k
 unfold kn at h
 cases e:v4 x y with
 |none=>rw[e]at h;cases h
 |some b=>
  rw[e]at h
  cases h
  obtain⟨h1,h2⟩:=qA rx ry e
  exact⟨h1,by rw[h2];exact k _ H F (bZ.refl s) (.bl b)⟩
theorem jj:jB K Ia wg:=by
 intro v u x y d H F Q s rx ry h k
 unfold wg at h
 cases e:v4 x y with
 |none=>rw[e]at h;cases h
 |some b=>
  rw[e]at h
  cases h
  obtain⟨h1,h2⟩:=qA rx ry e
  exact⟨h1,by rw[h2];exact k _ H F (bZ.refl s) (.bl _)⟩
def Gr:D->D->Option D
 | .non, .non=>some (.bl true)
 | .scr _, .non=>none
 |_, .non=>some (.bl false)
 |_,_=>none
def Dv:D->Bool
 | .non=>true
 |_=>false
theorem HV {x y d:D} (h:Gr x y=some d):y= .non/\d= .bl (Dv x):=by
 unfold Gr at h
 split at h
 ·cases h;exact⟨rfl,rfl⟩
 ·cases h
 ·rename_i n1 _
  cases h
  refine⟨rfl,?_⟩
  unfold Dv
  split
  ·exact absurd rfl n1
  ·rfl
 ·cases h
def iY:D->Bool
 | .non=>true
 | .bl _=>true
 | .int _=>true
 | .str _=>true
 |_=>false
def Fw:D->D->Bool
 | .non, .non=>true
 | .bl a, .bl b=>a==b
 | .bl a, .int b=>(if a then 1 else 0)==b
 | .int a, .bl b=>a==(if b then 1 else 0)
 | .int a, .int b=>a==b
 | .str a, .str b=>a==b
 |_,_=>false
theorem s_ {F:Hp} {v:V} {d:D} (r:et K F v d) (h:iY d=true):hE v=true:=by
 cases r<;>first|rfl|cases h
theorem zO {F:Hp} {v u:V} {x y:D} (r:et K F v x) (q:et K F u y) (hx:iY x=true) (hy:iY y=true):yv v u=Fw x y:=by
 cases r<;>first|(cases hx;done)|(cases q<;>first|rfl|(cases hy;done))
theorem Reps.flat {F:Hp}:∀{vs:List V} {ds:List D},Reps K F vs ds->ds.all iY=true->vs.all hE=true:=by
 intro vs ds
 induction ds generalizing vs with
 |nil=>intro h _;rw[h.nilI];rfl
 |cons d ds ih=>
  intro g h
  obtain⟨v,us,rfl,r,t⟩:=g.consI
  rw[List.all_cons,Bool.and_eq_true]at h
  rw[List.all_cons,s_ r h.1,ih t h.2];rfl
theorem Reps.inV {F:Hp} {v:V} {x:D} (rx:et K F v x) (hx:iY x=true) {vs:List V} {ds:List D} (g:Reps K F vs ds):ds.all iY=true->L2.inV v vs=ds.any fun y=>Fw y x:=by
 induction ds generalizing vs with
 |nil=>intro _;rw[g.nilI];rfl
 |cons d ds ih=>
  intro h
  obtain⟨w,us,e0,r,t⟩:=g.consI
  rw[List.all_cons,Bool.and_eq_true]at h
  have:=ih t h.2
  rw[e0]
  unfold L2.inV at this ⊢
  rw[List.any_cons,List.any_cons,zO r rx h.1 hx,this]
def EK (neg:Bool) (x:D) (ds:List D):Option D:=if iY x=true/\ds.all iY=true then some (.bl (if neg then !(ds.any fun y=>Fw y x)else ds.any fun y=>Fw y x))else none
def v5 (neg:Bool):D->D->Option D
 |x, .lst ds=>EK neg x ds
 |x, .tup ds=>EK neg x ds
 |_,_=>none
theorem t0 {H F:Hp} {neg:Bool} {v:V} {x d:D} {ds:List D} (rx:cG K H F v x) (h:EK neg x ds=some d) {vs:List V} (rv:Reps K F vs ds):
  hE v=true/\vs.all hE=true/\d= .bl (if neg then !L2.inV v vs else L2.inV v vs):=by
 unfold EK at h
 split at h
 ·rename_i hf
  cases h
  have rx':et K F v x:=by
   rcases rx with rx|⟨a,o,rfl,_,q⟩
   ·exact rx
   ·cases q<;>cases hf.1
  exact⟨s_ rx' hf.1,rv.flat hf.2,by rw[rv.inV rx' hf.1 hf.2]⟩
 ·cases h
theorem mM {neg:Bool}:jB K (HG K neg) (v5 neg):=by
 intro v u x y d H F Q s rx ry h k
 cases y with
 |lst ds=>
  obtain⟨a,vs,rfl,h1,h2⟩:=ry.lst s
  obtain⟨g1,g2,rfl⟩:=t0 rx h h2
  exact⟨a,vs,rfl, .inl (eC.of h1),g1,g2,k _ H F (bZ.refl s) (.bl _)⟩
 |tup ds=>
  obtain⟨a,vs,rfl,h1,h2⟩:=ry.tup s
  obtain⟨g1,g2,rfl⟩:=t0 rx h h2
  exact⟨a,vs,rfl, .inr (h_.of h1),g1,g2,k _ H F (bZ.refl s) (.bl _)⟩
 |_=>cases h
def rM (neg:Bool):D->D->Option D
 |x, .dic kds=>(cF x).map fun k=> .bl (if neg then !(bV kds k).isSome else (bV kds k).isSome)
 |_,_=>none
def eG (neg:Bool) (x y:D):Option D:=match y with
 | .dic _=>rM neg x y
 |_=>v5 neg x y
theorem RepK.look {F:Hp} {vs:List (a_×V)} {ds:List (a_×D)} (r:RepK K F vs ds) (k:a_):(jd vs k).isSome=(bV ds k).isSome:=by
 rcases r.get k with ⟨h1,h2⟩|⟨v,d,h1,h2,_⟩<;>rw[h1,h2]<;>rfl
end
section
variable {X:Cx} {a b e:Expr} {es:List Expr} {fa fb f fk fv:ai->R D} {fs:ai->R (List D)} {pos:Pos}
theorem Dw {g h:ai->R D} (hg:PQ ly X e g) (hh:PQ ly X e h) (sel:∀ρ,f ρ=g ρ\/f ρ=h ρ):PQ ly X e f:=fun c pins s σ H Q I ⟨F,ρ,ri,w⟩=>
 (sel ρ).elim (fun z=>hg c pins s σ H Q I ⟨F,ρ,ri,z▸w⟩) fun z=>hh c pins s σ H Q I ⟨F,ρ,ri,z▸w⟩
theorem Dx {g h f:ai->R Bool} (hg:sA ly X e g) (hh:sA ly X e h) (sel:∀ρ,f ρ=g ρ\/f ρ=h ρ):sA ly X e f:=fun c pins s σ H Q I ⟨F,ρ,ri,w⟩=>
 (sel ρ).elim (fun z=>hg c pins s σ H Q I ⟨F,ρ,ri,z▸w⟩) fun z=>hh c pins s σ H Q I ⟨F,ρ,ri,z▸w⟩
theorem v6 {neg:Bool} (ρ:ai):f2 (eG neg) fa fb ρ=f2 (v5 neg) fa fb ρ\/f2 (eG neg) fa fb ρ=f2 (rM neg) fa fb ρ:=by
 unfold f2
 cases fa ρ with
 |ok x=>
  cases fb ρ with
  |ok y=>cases y<;>first|exact .inl rfl|exact .inr rfl
  |_=>exact .inl rfl
 |_=>exact .inl rfl
theorem t4 {K:PySem.W.Frag} {c:d_ ly} {σ:St} {H:Hp} {Q:VK} (h:tQ K c (f2 (rM false) fa fb) σ H Q):Ej (tB' K c fa) (tB' K c fb) σ H Q:=two h fun F H2 F2 v u x y e rx ry w=>by
 obtain⟨d,hd,k⟩:=w.of
 cases y with
 |dic kds=>
  obtain⟨p,vs,rfl,h1,h2,h3⟩:=ry.dic e.sub
  replace hd:(cF x).map (fun k=>D.bl (if false then !(bV kds k).isSome else (bV kds k).isSome))=some d:=hd
  cases hk:cF x with
  |none=>rw[hk]at hd;cases hd
  |some key=>
   rw[hk]at hd
   cases hd
   cases fz hk rx
   exact⟨p,_,rfl,je.k (k:=key) h1,k _ H2 F2 e (by rw[h2.look];exact .bl _)⟩
 |_=>cases hd
theorem t5 {K:PySem.W.Frag} {c:d_ ly} {σ:St} {H:Hp} {Q:VK} (h:tQ K c (f2 (rM true) fa fb) σ H Q):rn (tB' K c fa) (tB' K c fb) σ H Q:=two h fun F H2 F2 v u x y e rx ry w=>by
 obtain⟨d,hd,k⟩:=w.of
 cases y with
 |dic kds=>
  obtain⟨p,vs,rfl,h1,h2,h3⟩:=ry.dic e.sub
  replace hd:(cF x).map (fun k=>D.bl (if true then !(bV kds k).isSome else (bV kds k).isSome))=some d:=hd
  cases hk:cF x with
  |none=>rw[hk]at hd;cases hd
  |some key=>
   rw[hk]at hd
   cases hd
   cases fz hk rx
   exact⟨p,_,rfl,je.k (k:=key) h1,k _ H2 F2 e (by rw[h2.look];exact .bl _)⟩
 |_=>cases hd
theorem Cj (hu:X.A.units+1<cLine) (ha:PB ly X a fa) (hb:PB ly X b fb) (hm:behindInMarks .In b=false:=by with_unfolding_all rfl):PQ ly X (.Compare a [.In] [b] pos) (f2 (eG false) fa fb):=
 Dw (wa qm mM ha hb hm) (fun c=>PE.weak (DR (zh hu (ha c) (hb c)) hm) fun σ H Q h=>t4 h) v6
theorem zP {g h:ai->R D} (sel:∀ρ,f ρ=g ρ\/f ρ=h ρ) (ρ:ai):fT f ρ=fT g ρ\/fT f ρ=fT h ρ:=by
 unfold fT
 rcases sel ρ with z|z
 ·exact .inl (by rw[z])
 ·exact .inr (by rw[z])
theorem Gs (hu:X.A.units+1<cLine) (ha:PB ly X a fa) (hb:PB ly X b fb) (hm:behindInMarks .In b=false:=by with_unfolding_all rfl):sA ly X (.Compare a [.In] [b] pos) (fT (f2 (eG false) fa fb)):=
 Dx (c0 qm mM ha hb hm) (fun c=>EB (c:=c.1) (t:=Ej (tB' X.K c.1 fa) (tB' X.K c.1 fb)) (yC (zh hu (ha c) (hb c)) hm) fun σ H Q h=>t4 h) (zP v6)
theorem iC (hu:X.A.units+1<cLine) (ha:PB ly X a fa) (hb:PB ly X b fb) (hm:behindInMarks .NotIn b=false:=by with_unfolding_all rfl):sA ly X (.Compare a [.NotIn] [b] pos) (fT (f2 (eG true) fa fb)):=
 Dx (c0 rg mM ha hb hm) (fun c=>EB (c:=c.1) (t:=rn (tB' X.K c.1 fa) (tB' X.K c.1 fb)) (yC (xt hu (ha c) (hb c)) hm) fun σ H Q h=>t5 h) (zP v6)
def rN:D->D->Option D
 | .lst ds, .int i=>atI ds i
 | .tup ds, .int i=>atI ds i
 | .scr ns, .int i=>(atI ns i).map .int
 |_,_=>none
def zQ:D->D->Option D
 | .dic kds,k=>(cF k).bind fun key=>bV kds key
 |_,_=>none
def bT (x y:D):Option D:=match x with
 | .dic _=>zQ x y
 |_=>rN x y
theorem Reps.atI {K:PySem.W.Frag} {F:Hp} {vs:List V} {ds:List D} {i:Int} {d:D} (r:Reps K F vs ds) (h:atI ds i=some d):∃v,L2.atI vs i=some v/\et K F v d:=by
 unfold L2.atI at h ⊢
 rw[r.length]
 cases e:uI ds.length i with
 |none=>rw[e]at h;cases h
 |some j=>rw[e]at h;exact r.get h
theorem xJ {K:PySem.W.Frag}:jB K (Ib K) rN:=by
 intro v u x y d H F Q s rx ry h k
 unfold rN at h
 split at h
 ·cases ry.int
  obtain⟨a,vs,rfl,h1,h2⟩:=rx.lst s
  obtain⟨w,h3,h4⟩:=h2.atI h
  exact .inl ⟨a,vs,_,w,rfl,rfl,eC.of h1,h3,k _ H F (bZ.refl s) h4⟩
 ·cases ry.int
  obtain⟨a,vs,rfl,h1,h2⟩:=rx.tup s
  obtain⟨w,h3,h4⟩:=h2.atI h
  exact .inr (.inl ⟨a,vs,_,w,rfl,rfl,h_.of h1,h3,k _ H F (bZ.refl s) h4⟩)
 ·rename_i ns i
  cases ry.int
  obtain⟨a,rfl,h1⟩:=rx.scr s
  cases e:atI ns i with
  |none=>rw[e]at h;cases h
  |some n=>
   rw[e]at h
   cases h
   refine .inl ⟨a,ns.map V.int,i, .int n,rfl,rfl,h1,?_,k _ H F (bZ.refl s) (.int n)⟩
   unfold L2.atI at e ⊢
   rw[List.length_map]
   cases e2:uI ns.length i with
   |none=>rw[e2]at e;cases e
   |some j=>
    rw[e2]at e
    show (ns.map V.int)[j]? =_
    rw[List.getElem?_map,show ns[j]? =some n from e]
    rfl
 ·cases h
theorem EL (ρ:ai):f2 bT fa fb ρ=f2 rN fa fb ρ\/f2 bT fa fb ρ=f2 zQ fa fb ρ:=by
 unfold f2
 cases fa ρ with
 |ok x=>
  cases fb ρ with
  |ok y=>cases x<;>first|exact .inl rfl|exact .inr rfl
  |_=>exact .inl rfl
 |_=>exact .inl rfl
theorem bd (hu:X.A.units+1<cLine) (ha:PB ly X a fa) (hb:PB ly X b fb) (hs:vU b:=by intro _ _;rfl):PQ ly X (.Subscript a b pos) (f2 bT fa fb):=
 Dw (fun c=>PE.weak (G1 Ef (ha c) (hb c) hs) fun σ H Q h=>two h fun F H2 F2 v u x y e rx ry w=>by
   obtain⟨d,hd,k⟩:=w.of
   exact xJ v u x y d H2 F2 Q e.sub rx ry hd fun w H' F' e' r'=>k w H' F' (e.trans e') r')
  (fun c=>PE.weak (BS hu (ha c) (hb c) hs) fun σ H Q h=>two h fun F H2 F2 v u x y e rx ry w=>by
   obtain⟨d,hd,k⟩:=w.of
   cases x with
   |dic kds=>
    obtain⟨p,vs,rfl,h1,h2,h3⟩:=rx.dic e.sub
    replace hd:((cF y).bind fun key=>bV kds key)=some d:=hd
    cases hk:cF y with
    |none=>rw[hk]at hd;cases hd
    |some key=>
     rw[hk]at hd
     cases fz hk ry
     rcases h2.get key with ⟨_,z⟩|⟨v',d',z1,z2,z3⟩
     ·rw[show bV kds key=some d from hd]at z;cases z
     ·rw[show bV kds key=some d from hd]at z2
      cases z2
      exact⟨p,v',rfl,z1▸je.k (k:=key) h1,k _ H2 F2 e z3⟩
   |_=>cases hd) EL
end
end L2.Pu
namespace L2.Pu
open PySem PySem.Spec PyProof.Rows
variable {ly:List gA}
section
variable {K:PySem.W.Frag}
theorem jP.one {H F:Hp} {vs:List V} {d:D}:jP K H F vs [d]->∃v,vs=[v]/\cG K H F v d:=fun h=>by
 cases h with
 |cons r t=>cases t;exact⟨_,rfl,r⟩
theorem jP.two {H F:Hp} {vs:List V} {d e:D}:jP K H F vs [d,e]->∃v u,vs=[v,u]/\cG K H F v d/\cG K H F u e:=fun h=>by
 cases h with
 |cons r t=>
  obtain⟨u,e,q⟩:=jP.one t
  exact⟨_,u,by rw[e],r,q⟩
def eW:List D->Option D
 |[.lst ds]=>some (.int ds.length)
 |[.tup ds]=>some (.int ds.length)
 |[.scr ns]=>some (.int ns.length)
 |[.dic ds]=>some (.int ds.length)
 |_=>none
def Dy (K:PySem.W.Frag):List V->Hp->VK->Prop:=fun xs H Q=>(∃p ys,xs=[.ref p]/\(eC K H p ys\/h_ K H p ys)/\Q (.int ys.length) H)\/∃p kvs,xs=[.ref p]/\H p=some (.dK kvs)/\Q (.int kvs.length) H
theorem bL {X:Cx}:cT X (.builtin "len") (Dy X.K):=by
 intro pins s σ H xs us Q I rv h
 rcases h with h|⟨p,kvs,rfl,hk,q⟩
 ·exact rh pins s σ H xs us Q I rv h
 ·obtain⟨u,rfl,ru⟩:=iR rv
  cases ru
  exact G9 I (.inl hk) fun t s' I'=>⟨.int kvs.length,H,I',⟨t,rfl⟩,q⟩
theorem cE:l0 K (Dy K) eW:=by
 intro vs ds d H F Q s rv h k
 match ds,h with
 |[.lst xs],h=>
  obtain⟨v,rfl,r⟩:=rv.one
  obtain⟨a,ws,rfl,h1,h2⟩:=r.lst s
  cases h
  exact .inl ⟨a,ws,rfl, .inl (eC.of h1),by rw[h2.length];exact k _ H F (bZ.refl s) (.int _)⟩
 |[.tup xs],h=>
  obtain⟨v,rfl,r⟩:=rv.one
  obtain⟨a,ws,rfl,h1,h2⟩:=r.tup s
  cases h
  exact .inl ⟨a,ws,rfl, .inr (h_.of h1),by rw[h2.length];exact k _ H F (bZ.refl s) (.int _)⟩
 |[.scr ns],h=>
  obtain⟨v,rfl,r⟩:=rv.one
  obtain⟨a,rfl,h1⟩:=r.scr s
  cases h
  exact .inl ⟨a,_,rfl, .inl h1,by rw[List.length_map];exact k _ H F (bZ.refl s) (.int _)⟩
 |[.dic xs],h=>
  obtain⟨v,rfl,r⟩:=rv.one
  obtain⟨a,ws,rfl,h1,h2,h3⟩:=r.dic s
  cases h
  exact .inr ⟨a,ws,rfl,h1,by rw[h2.length];exact k _ H F (bZ.refl s) (.int _)⟩
def c_:List D->Option D
 |[.lst ds]=>some (.tup ds)
 |[.tup ds]=>some (.tup ds)
 |_=>none
theorem cb:l0 K (fun xs H Q=>∃p ys,xs=[.ref p]/\((eC K H p ys/\∀l,H l=none->Q (.ref l) (bK H l (.tup ys)))\/(h_ K H p ys/\Q (.ref p) H))) c_:=by
 intro vs ds d H F Q s rv h k
 match ds,h with
 |[.lst xs],h=>
  obtain⟨v,rfl,r⟩:=rv.one
  obtain⟨a,ws,rfl,h1,h2⟩:=r.lst s
  cases h
  refine⟨a,ws,rfl, .inl ⟨eC.of h1,fun l hl=> ?_⟩⟩
  have e:=bZ.lay (o:= .tup ws) s hl
  exact k _ _ _ e (.tup az (h2.mono e.grow))
 |[.tup xs],h=>
  obtain⟨v,rfl,r⟩:=rv.one
  obtain⟨a,ws,rfl,h1,h2⟩:=r.tup s
  cases h
  refine⟨a,ws,rfl, .inr ⟨h_.of h1,?_⟩⟩
  match r with
  | .inl r=>exact k _ H F (bZ.refl s) r
def lN:List D->Option D
 |[.lst ds]=>some (.lst ds)
 |[.tup ds]=>some (.lst ds)
 |[.scr ns]=>some (.lst (ns.map .int))
 |_=>none
theorem iZ {F:Hp}:∀ns:List Int,Reps K F (ns.map V.int) (ns.map D.int)
 |[]=> .nil
 |n::r=> .cons (.int n) (iZ r)
theorem i_:l0 K (fun xs H Q=>∃p ys,xs=[.ref p]/\(eC K H p ys\/h_ K H p ys)/\∀l,H l=none->Q (.ref l) (bK H l (.lst ys))) lN:=by
 intro vs ds d H F Q s rv h k
 match ds,h with
 |[.lst xs],h=>
  obtain⟨v,rfl,r⟩:=rv.one
  obtain⟨a,ws,rfl,h1,h2⟩:=r.lst s
  cases h
  refine⟨a,ws,rfl, .inl (eC.of h1),fun l hl=> ?_⟩
  have e:=bZ.lay (o:= .lst ws) s hl
  exact k _ _ _ e (.lst az (h2.mono e.grow))
 |[.tup xs],h=>
  obtain⟨v,rfl,r⟩:=rv.one
  obtain⟨a,ws,rfl,h1,h2⟩:=r.tup s
  cases h
  refine⟨a,ws,rfl, .inr (h_.of h1),fun l hl=> ?_⟩
  have e:=bZ.lay (o:= .lst ws) s hl
  exact k _ _ _ e (.lst az (h2.mono e.grow))
 |[.scr ns],h=>
  obtain⟨v,rfl,r⟩:=rv.one
  obtain⟨a,rfl,h1⟩:=r.scr s
  cases h
  refine⟨a,_,rfl, .inl h1,fun l hl=> ?_⟩
  have e:=bZ.lay (o:= .lst (ns.map V.int)) s hl
  exact k _ _ _ e (.lst az (iZ ns))
def eI:List D->Option (List Int)
 |[]=>some []
 | .int i::r=>(eI r).map (i::·)
 |_::_=>none
theorem oR {F:Hp}:∀{ds:List D} {ns:List Int} {vs:List V},eI ds=some ns->Reps K F vs ds->vs=ns.map V.int:=by
 intro ds
 induction ds with
 |nil=>intro ns vs h r;cases r.nilI;cases h;rfl
 |cons d r ih=>
  intro ns vs h rv
  obtain⟨v,us,rfl,r1,t⟩:=rv.consI
  cases d with
  |int i=>
   cases r1.intI
   replace h:(eI r).map (i::·)=some ns:=h
   cases e:eI r with
   |none=>rw[e]at h;cases h
   |some ms=>
    rw[e]at h
    cases h
    rw[ih e t];rfl
  |_=>cases h
theorem oS (ns:List Int):eI (ns.map .int)=some ns:=by
 induction ns with
 |nil=>rfl
 |cons n r ih=>show (eI (r.map D.int)).map (n::·)=_;rw[ih];rfl
def xK:List D->Option D
 |[.lst ds]=>(eI ds).map fun ns=> .int ns.sum
 |_=>none
theorem rO:l0 K (fun xs H Q=>∃p ns,xs=[.ref p]/\eC K H p (ns.map V.int)/\Q (.int (List.sum ns)) H) xK:=by
 intro vs ds d H F Q s rv h k
 match ds,h with
 |[.lst xs],h=>
  obtain⟨v,rfl,r⟩:=rv.one
  obtain⟨a,ws,rfl,h1,h2⟩:=r.lst s
  replace h:(eI xs).map (fun ns=>D.int ns.sum)=some d:=h
  cases e:eI xs with
  |none=>rw[e]at h;cases h
  |some ns=>
   rw[e]at h
   cases h
   rw[oR e h2]at h1
   exact⟨a,ns,rfl,eC.of h1,k _ H F (bZ.refl s) (.int _)⟩
def rP:List D->Option D
 |[.lst ds]=>(eI ds).bind fun ns=>if ns.length<64 then some (.lst ((cI ns).map .int))else none
 |_=>none
theorem v7:l0 K (fun xs H Q=>∃p ns,xs=[.ref p]/\eC K H p (ns.map V.int)/\ns.length<64/\∀l,H l=none->Q (.ref l) (bK H l (.lst ((cI ns).map V.int)))) rP:=by
 intro vs ds d H F Q s rv h k
 match ds,h with
 |[.lst xs],h=>
  obtain⟨v,rfl,r⟩:=rv.one
  obtain⟨a,ws,rfl,h1,h2⟩:=r.lst s
  replace h:((eI xs).bind fun ns=>if ns.length<64 then some (D.lst ((cI ns).map .int))else none)=some d:=h
  cases e:eI xs with
  |none=>rw[e]at h;cases h
  |some ns=>
   rw[e]at h
   replace h:(if ns.length<64 then some (D.lst ((cI ns).map .int))else none)=some d:=h
   split at h
   ·rename_i hl
    cases h
    rw[oR e h2]at h1
    refine⟨a,ns,rfl,eC.of h1,hl,fun l hl'=> ?_⟩
    have e:=bZ.lay (o:= .lst ((cI ns).map V.int)) s hl'
    exact k _ _ _ e (.lst az (iZ _))
   ·cases h
def xL:List D->Option D
 |[.int i, .int j]=>some (.int (if j<i then j else i))
 |_=>none
def xM:List D->Option D
 |[.int i, .int j]=>some (.int (if j>i then j else i))
 |_=>none
theorem wj:l0 K (fun xs H Q=>∃i j,xs=[.int i, .int j]/\Q (.int (if j<i then j else i)) H) xL:=by
 intro vs ds d H F Q s rv h k
 match ds,h with
 |[.int i, .int j],h=>
  obtain⟨v,u,rfl,r,q⟩:=rv.two
  cases r.int;cases q.int;cases h
  exact⟨i,j,rfl,k _ H F (bZ.refl s) (.int _)⟩
theorem wk:l0 K (fun xs H Q=>∃i j,xs=[.int i, .int j]/\Q (.int (if j>i then j else i)) H) xM:=by
 intro vs ds d H F Q s rv h k
 match ds,h with
 |[.int i, .int j],h=>
  obtain⟨v,u,rfl,r,q⟩:=rv.two
  cases r.int;cases q.int;cases h
  exact⟨i,j,rfl,k _ H F (bZ.refl s) (.int _)⟩
def EM:List D->Option D
 |[.int i]=>some (.int i)
 |[.bl k]=>some (.int (if k then 1 else 0))
 |_=>none
theorem Ck:l0 K (fun xs H Q=>(∃i,xs=[.int i]/\Q (.int i) H)\/∃k,xs=[.bl k]/\Q (.int (if k then 1 else 0)) H) EM:=by
 intro vs ds d H F Q s rv h k
 match ds,h with
 |[.int i],h=>obtain⟨v,rfl,r⟩:=rv.one;cases r.int;cases h;exact .inl ⟨i,rfl,k _ H F (bZ.refl s) (.int _)⟩
 |[.bl i],h=>obtain⟨v,rfl,r⟩:=rv.one;cases r.bl;cases h;exact .inr ⟨i,rfl,k _ H F (bZ.refl s) (.int _)⟩
end
section
variable {X:Cx} {a b e:Expr} {es:List Expr} {fa fb f fk fv:ai->R D} {fs:ai->R (List D)} {pos p p2:Pos}
def Hc:D->Option String
 | .non=>some "NoneType"
 | .bl _=>some "bool"
 | .int _=>some "int"
 | .str _=>some "str"
 | .tup _=>some "tuple"
 | .lst _=>some "list"
 | .dic _=>some "dict"
 |_=>none
def qB (t T:String):Option Bool:=if t=T then some true else if t="bool"/\T="int" then some true
 else if ["NoneType","bool","int","str","tuple","list","dict"].contains t/\["bool","int","str","tuple","list","dict"].contains T then some false else none
theorem zR (K:PySem.W.Frag) {t T:String} {k:Bool} (ht:t="NoneType"\/t="bool"\/t="int"\/t="str"\/t="tuple"\/t="list"\/t="dict") (hT:T="bool"\/T="int"\/T="str"\/T="tuple"\/T="list"\/T="dict") (h:qB t T=some k):
  PySem.W.kitOne K (.type t) (.type T)=some k:=by
 rcases ht with rfl|rfl|rfl|rfl|rfl|rfl|rfl<;>rcases hT with rfl|rfl|rfl|rfl|rfl|rfl<;>(revert h;unfold qB;simp+decide;rintro rfl;first|rfl|(unfold PySem.W.kitOne PySem.W.kitCls;decide+kernel))
def xN (T:String) (d:D):Option D:=(Hc d).bind fun t=>(qB t T).map .bl
def lO (T:String) (f:ai->R D):ai->R D:=fun ρ=>f ρ>>=fun d=>R.of (xN T d)
theorem EN {K:PySem.W.Frag} {H F:Hp} {v:V} {d:D} {t:String} (s:aY F H) (r:cG K H F v d) (h:Hc d=some t):lF K H v (.type t):=by
 cases d with
 |non=>cases r.non;cases h;exact .non
 |bl=>cases r.bl;cases h;exact .bl _
 |int=>cases r.int;cases h;exact .int _
 |str=>cases r.str;cases h;exact .str _
 |tup=>obtain⟨a,vs,rfl,h1,_⟩:=r.tup s;cases h;exact .tup h1
 |lst=>obtain⟨a,vs,rfl,h1,_⟩:=r.lst s;cases h;exact .lst h1
 |dic=>obtain⟨a,vs,rfl,h1,_⟩:=r.dic s;cases h;exact .dK h1
 |_=>cases h
theorem xO {d:D} {t:String} (h:Hc d=some t):t="NoneType"\/t="bool"\/t="int"\/t="str"\/t="tuple"\/t="list"\/t="dict":=by
 cases d<;>cases h<;>simp
theorem nn {x:Str} {T:String} (hT:T="bool"\/T="int"\/T="str"\/T="tuple"\/T="list"\/T="dict") (hm1:X.mg "isinstance"=none) (hm:X.mg x=none) (hv:bootBuiltins x=some (.type T)) (ha:PB ly X a fa) (hg1:Gl X "isinstance":=by rfl) (hg:Gl X x:=by rfl)
  (hn:x≠"__name__":=by decide) (hdb:(x==("__debug__":Str))=false:=by decide)
  (he:starEach [a, .Name x p2] X.env=(false,eval a X.env)::starEach [.Name x p2] X.env:=by rfl) (he2:starEach [.Name x p2] X.env=(false,eval (.Name x p2) X.env)::starEach [] X.env:=by rfl) (hpl:(backTo pos (starEach [.Name x p2] X.env)).any (·.1)=false:=by rfl):
  PQ ly X (.Call (.Name "isinstance" p) [a, .Name x p2] [] pos) (lO T fa):=fun c=>
 PE.weak (jI zm hg1 hm1 ou (dY (ha c) (dY (vL (v:= .ty T) hg hm hv rfl hn hdb) iK he2) he) (by decide) (by decide) he hpl) fun σ H Q ⟨F,ρ,ri,w⟩=>
  ⟨F,ρ,ri,(aJ.bind.mp w).imp fun d _ w1 v H1 F1 e1 r1=>by
   obtain⟨d',hd,k⟩:=w1.of
   unfold xN at hd
   cases ht:Hc d with
   |none=>rw[ht]at hd;cases hd
   |some t=>
    rw[ht]at hd
    cases hs:qB t T with
    |none=>
     replace hd:(qB t T).map D.bl=some d':=hd
     rw[hs]at hd;cases hd
    |some kk=>
     replace hd:(qB t T).map D.bl=some d':=hd
     rw[hs]at hd
     cases hd
     exact⟨v,T,_,kk,rfl,EN e1.sub r1 ht,zR X.K (xO ht) hT hs,k _ H1 F1 e1 (.bl kk)⟩⟩
def Cm (f:ai->R D):ai->R D:=fun ρ=>f ρ>>=fun d=>match d with
 | .lst ds=> .ok (.lst ds.reverse)
 |_=> .bad
theorem Dz {j:Nat} {pu pk:Pos} (ha:PB ly X a fa):PQ ly X (.Subscript a (.Slice none none (some (.UnaryOp .USub (.Constant (.int 1) j pk) pu)) p2) pos) (Cm fa):=fun c=>
 PE.weak (Es (ha c) (vS (Df o7 yB))) fun σ H Q ⟨F,ρ,ri,w⟩=>⟨F,ρ,ri,(aJ.bind.mp w).imp fun d _ w1 v H1 F1 e1 r1=>by
  cases d with
  |lst ds=>
   obtain⟨p,vs,rfl,h1,h2⟩:=r1.lst e1.sub
   refine⟨1,rfl,-1,rfl,rfl,p,vs,rfl,eC.of h1,fun l hl=> ?_⟩
   have e2:=bZ.lay (o:= .lst vs.reverse) e1.sub hl
   exact w1 _ _ _ (e1.trans e2) (.lst az (h2.reverse.mono e2.grow))
  |_=>exact w1.elim⟩
def rQ (ds:List D) (lo hi:Option Int):List D:=(ds.drop (HT.dE ds.length 0 lo)).take (HT.dE ds.length ds.length hi - HT.dE ds.length 0 lo)
theorem Reps.cut {K:PySem.W.Frag} {F:Hp} {vs:List V} {ds:List D} (r:Reps K F vs ds) (lo hi:Option Int):Reps K F (pR vs lo hi) (rQ ds lo hi):=by
 unfold pR rQ
 rw[r.length]
 exact(r.drop _).take _
def IG (K:PySem.W.Frag) (c:d_ ly) (f:ai->R (Option Int)):TO:=fun σ H Q=>∃F ρ,RI K c ρ σ H F/\aJ c (f ρ) fun o=>∀H' F',bZ H F H' F'->Q o H'
def Hd (ly:List gA) (X:Cx) (e:Option Expr) (f:ai->R (Option Int)):Prop:=∀c:jQ ly X,PO X e (IG X.K c.1 f)
theorem PO.weak {X:Cx} {e:Option Expr} {t t':TO} (h:PO X e t) (w:∀σ H Q,t' σ H Q->t σ H Q):PO X e t':=fun pins s σ H Q I q=>h pins s σ H Q I (w σ H Q q)
def kG:ai->R (Option Int):=fun _=> .ok none
def kH (f:ai->R D):ai->R (Option Int):=fun ρ=>f ρ>>=fun d=>match d with
 | .int i=> .ok (some i)
 |_=> .bad
theorem mO:Hd ly X none kG:=fun c=>PO.weak BH fun σ H Q ⟨F,ρ,ri,w⟩=>w H F (bZ.refl ri.sub)
theorem mP (h:PQ ly X e f):Hd ly X (some e) (kH f):=fun c=>PO.weak (vS (h c)) fun σ H Q ⟨F,ρ,ri,w⟩=>⟨F,ρ,ri,(aJ.bind.mp w).imp fun d _ w1 v H1 F1 e1 r1=>by
 cases d with
 |int i=>cases r1;exact⟨i,rfl,w1 H1 F1 e1⟩
 |_=>exact w1.elim⟩
variable {lo hi:Option Expr} {fl fh:ai->R (Option Int)}
def Cn (d:D) (lo hi:Option Int):Option D:=match d with
 | .lst ds=>some (.lst (rQ ds lo hi))
 | .tup ds=>if HT.dE ds.length 0 lo=0/\HT.dE ds.length ds.length hi=ds.length then some (.tup ds)else some (.tup (rQ ds lo hi))
 |_=>none
def Bm (f:ai->R D) (fl fh:ai->R (Option Int)):ai->R D:=fun ρ=>f ρ>>=fun d=>fl ρ>>=fun l=>fh ρ>>=fun h=>R.of (Cn d l h)
theorem ko (ha:PB ly X a fa) (hl:Hd ly X lo fl) (hh:Hd ly X hi fh):PQ ly X (.Subscript a (.Slice lo hi none p2) pos) (Bm fa fl fh):=fun c=>
 PE.weak (yY ((BL.or Ec).or Ca) (ha c) (hl c) (hh c)) fun σ H Q ⟨F,ρ,ri,w⟩=>⟨F,ρ,ri,(aJ.bind.mp w).imp fun d _ w1 v H1 F1 e1 r1=>⟨F1,ρ,ri.step e1,(aJ.bind.mp w1).imp fun l _ w2 H2 F2 e2=>
  ⟨F2,ρ,(ri.step e1).step e2,(aJ.bind.mp w2).imp fun h _ w3 H3 F3 e3=>by
   obtain⟨d',hd,k⟩:=w3.of
   have e13:=(e1.trans e2).trans e3
   have r3:=(r1.mono e2).mono e3
   cases d with
   |lst ds=>
    cases hd
    obtain⟨p,vs,rfl,h1,h2⟩:=r3.lst e13.sub
    refine .inl (.inl ⟨p,vs,rfl,eC.of h1,fun q hq=> ?_⟩)
    have e4:=bZ.lay (o:= .lst (pR vs l h)) e13.sub hq
    exact k _ _ _ (e13.trans e4) (.lst az ((h2.cut l h).mono e4.grow))
   |tup ds=>
    replace hd:(if HT.dE ds.length 0 l=0/\HT.dE ds.length ds.length h=ds.length then some (D.tup ds)else some (D.tup (rQ ds l h)))=some d':=hd
    split at hd
    ·rename_i hw
     cases hd
     rcases r3 with r3|⟨_,_,_,_,q⟩
     ·cases r3 with
      | @tup p vs _ h1 h2=>exact .inr ⟨p,vs,rfl,h_.of (e13.sub _ _ h1),by rw[h2.length];exact hw,k _ _ _ e13 (.tup h1 h2)⟩
     ·cases q
    ·rename_i hw
     cases hd
     obtain⟨p,vs,rfl,h1,h2⟩:=r3.tup e13.sub
     refine .inl <| .inr ⟨p,vs,rfl,h_.of h1,by rw[h2.length];exact hw,fun q hq=> ?_⟩
     have e4:=bZ.lay (o:= .tup (pR vs l h)) e13.sub hq
     exact k _ _ _ (e13.trans e4) (.tup az ((h2.cut l h).mono e4.grow))
   |_=>cases hd⟩⟩⟩
def nq (fd fk fx:ai->R D):ai->R D:=fun ρ=>fd ρ>>=fun d=>match d with
 | .dic kds=>fk ρ>>=fun k=>fx ρ>>=fun x=>(match cF k with
  |some key=> .ok ((bV kds key).getD x)
  |none=> .bad)
 |_=> .bad
theorem v8 {o x:Expr} {fd fx:ai->R D} {apos cpos:Pos} (hu:X.A.units+1<cLine) (ho:PB ly X o fd) (hk:PQ ly X a fk) (hx:PQ ly X x fx)
  (m:M2 X o "get" apos a x cpos:=by exact⟨rfl,rfl,rfl,rfl⟩):PQ ly X (.Call (.Attribute o "get" apos) [a,x] [] cpos) (nq fd fk fx):=fun c=>
 PE.weak (zk hu (ho c) (hk c) (hx c) m) fun σ H Q ⟨F,ρ,ri,w⟩=>⟨F,ρ,ri,(aJ.bind.mp w).imp fun d _ w1 v H1 F1 e1 r1=>by
  cases d with
  |dic kds=>
   obtain⟨p,vs,rfl,h1,h2,h3⟩:=r1.dic e1.sub
   refine⟨p,rfl, .inl ⟨vs, .inl h1⟩,F1,ρ,ri.step e1,(aJ.bind.mp w1).imp fun k _ w2 u H2 F2 e2 r2=>⟨F2,ρ,(ri.step e1).step e2,(aJ.bind.mp w2).imp fun z _ w3 y H3 F3 e3 r3=> ?_⟩⟩
   cases hk':cF k with
   |none=>rw[hk']at w3;exact w3.elim
   |some key=>
    rw[hk']at w3
    cases fz (H:=H2) hk' (.inl r2)
    have e23:=e2.trans e3
    refine⟨_,je.k (k:=key) (e23.keep _ _ h1),?_⟩
    refine w3 _ H3 F3 (e1.trans e23) ?_
    rcases(h2.mono e23.grow).get key with ⟨z1,z2⟩|⟨v',d',z1,z2,z3⟩
    ·rw[z1,z2];exact r3
    ·rw[z1,z2];exact z3
  |_=>exact w1.elim⟩
def lf:List ((ai->R D)×(ai->R D))->ai->R (List (a_×D))
 |[],_=> .ok []
 |(fk,fv)::r,ρ=>fk ρ>>=fun k=>fv ρ>>=fun v=>lf r ρ>>=fun ps=>match cF k with
  |some key=> .ok ((key,v)::ps)
  |none=> .bad
def dG (kvs more:List (a_×D)):List (a_×D):=more.foldl (fun acc kv=>ji acc kv.1 kv.2) kvs
theorem RepK.merge {K:PySem.W.Frag} {F:Hp}:∀{more:List (a_×V)} {dmore:List (a_×D)} {vs:List (a_×V)} {ds:List (a_×D)},RepK K F more dmore->RepK K F vs ds->(vs.map (·.1)).Nodup->RepK K F (eE vs more) (dG ds dmore)/\((eE vs more).map (·.1)).Nodup:=by
 intro more dmore
 induction dmore generalizing more with
 |nil=>intro vs ds r h n;rw[r.nilI];exact⟨h,n⟩
 |cons d s ih=>
  intro vs ds r h n
  obtain⟨k,d⟩:=d
  obtain⟨v,us,rfl,q,t⟩:=r.consI
  exact ih (more:=us) t (h.put k q) (uX v n)
inductive Co (ly:List gA) (X:Cx) (pos:Pos):List (Option Expr)->List Expr->List ((ai->R D)×(ai->R D))->Prop
 |nil:Co ly X pos [] [] []
 |cons {k v:Expr} {ks:List (Option Expr)} {vs:List Expr} {fk fv:ai->R D} {ps:List ((ai->R D)×(ai->R D))}:PQ ly X k fk->PQ ly X v fv->Co ly X pos ks vs ps->Co ly X pos (some k::ks) (v::vs) ((fk,fv)::ps)
theorem Co.pps {X:Cx} {pos:Pos} (c:jQ ly X):∀{ks:List (Option Expr)} {vs:List Expr} {ps:List ((ai->R D)×(ai->R D))},Co ly X pos ks vs ps->Ge X pos ks vs (ps.map fun p=>(tQ X.K c.1 p.1,tQ X.K c.1 p.2))
 |_,_,_, .nil=>BW
 |_,_,_, .cons h1 h2 r=>zj (h1 c) (h2 c) (r.pps c)
theorem Co.len {X:Cx} {pos:Pos}:∀{ks:List (Option Expr)} {vs:List Expr} {ps:List ((ai->R D)×(ai->R D))},Co ly X pos ks vs ps->ks.length=vs.length/\ks.length=ps.length/\ks.all (·.isSome)=true
 |_,_,_, .nil=>⟨rfl,rfl,rfl⟩
 |_,_,_, .cons _ _ r=>by
  obtain⟨a,b,c⟩:=r.len
  exact⟨by simp[a],by simp[b],by simp[List.all_cons,c]⟩
theorem oU {K:PySem.W.Frag} {c:d_ ly} {σ:St}:∀{ps:List ((ai->R D)×(ai->R D))} {ρ:ai} {H F:Hp} {T:List (V×V)->Hp->Prop},RI K c ρ σ H F->
  aJ c (lf ps ρ) (fun kds=>∀kvs H' F',bZ H F H' F'->RepK K F' kvs kds->T (kvs.map fun kv=>(kV kv.1,kv.2)) H')->rq (ps.map fun p=>(tQ K c p.1,tQ K c p.2)) σ H T
 |[],ρ,H,F,T,ri,w=>w [] H F (bZ.refl ri.sub) .nil
 |(fk,fv)::r,ρ,H,F,T,ri,w=>by
  refine⟨F,ρ,ri,(aJ.bind.mp w).imp fun k _ w1 v H1 F1 e1 r1=>⟨F1,ρ,ri.step e1,(aJ.bind.mp w1).imp fun d _ w2 u H2 F2 e2 r2=> ?_⟩⟩
  refine oU ((ri.step e1).step e2) ((aJ.bind.mp w2).imp fun kds _ w3 kvs H3 F3 e3 r3=> ?_)
  cases hk:cF k with
  |none=>rw[hk]at w3;exact w3.elim
  |some key=>
   rw[hk]at w3
   cases fz (H:=H1) hk (.inl r1)
   exact w3 ((key,u)::kvs) H3 F3 ((e1.trans e2).trans e3) (.cons (r2.mono e3.grow) r3)
theorem xP {K:PySem.W.Frag} {c:d_ ly} {σ:St} {ps:List ((ai->R D)×(ai->R D))} {ρ:ai} {H F:Hp} {Q:VK} (ri:RI K c ρ σ H F) (h15:ps.length<=15)
  (w:aJ c (lf ps ρ) fun kds=>∀p H' F' kvs,H p=none->bZ H F H' F'->H' p=some (.dK kvs)->F' p=none->RepK K F' kvs (dG [] kds)->(kvs.map (·.1)).Nodup->Q (.ref p) H'):
  Dp (ps.map fun p=>(tQ K c p.1,tQ K c p.2)) σ H Q:=by
 intro p hp
 have e0:=bZ.layOwn (o:= .dK []) ri.sub hp
 have hlen:∀{qs:List ((ai->R D)×(ai->R D))} {kds:List (a_×D)},lf qs ρ= .ok kds->kds.length=qs.length:=by
  intro qs
  induction qs with
  |nil=>intro kds h;cases h;rfl
  |cons q r ih=>
   intro kds h
   obtain⟨k,_,h⟩:=hV (r:=q.1 ρ) h
   obtain⟨v,_,h⟩:=hV (r:=q.2 ρ) h
   obtain⟨ps',hp',h⟩:=hV (r:=lf r ρ) h
   cases hk:cF k with
   |none=>rw[hk]at h;cases h
   |some key=>rw[hk]at h;cases h;simp[ih hp']
 refine oU (ri.step e0) (w.imp fun kds hk w1 kvs H1 F1 e1 r1=> ?_)
 have hH1:H1 p=some (.dK []):=e1.keep _ _ az
 refine⟨hH1,kvs,rfl,by rw[r1.length,hlen hk];exact h15,?_⟩
 have hF1:F1 p=none:=by
  cases q:F1 p with
  |none=>rfl
  |some u=>
   rcases e1.new p (by rw[q];simp)with z|z
   ·exact absurd (ri.sub.free hp) z
   ·rw[az]at z;cases z
 obtain⟨m1,m2⟩:=RepK.merge r1 .nil List.nodup_nil
 refine w1 p _ F1 _ hp ⟨fun b u e=> ?_,fun b u e=> ?_,e1.grow,fun b e=> ?_⟩ az hF1 m1 m2
 ·rw[av (fun z=>by rw[z,hF1]at e;cases e)];exact e1.sub b u e
 ·have hb:b≠p:=fun z=>by rw[z,hp]at e;cases e
  rw[av hb];exact e1.keep b u (by rw[av hb];exact e)
 ·rcases e1.new b e with z|z
  ·exact .inl z
  ·refine .inr ?_
   rw[av (fun q=>by rw[q,az]at z;cases z)]at z
   exact z
def v9 (i:Nat) (ps:List ((ai->R D)×(ai->R D))):ai->R bG:=fun ρ=>lf ps ρ>>=fun kds=> .ok (.nx (ρ.set i (some (.own (.dic (dG [] kds))))))
theorem Cp (i:Nat) {x:Str} {pos' pl:Pos} {keys:List (Option Expr)} {values:List Expr} {ps:List ((ai->R D)×(ai->R D))} (hN:X.N.Nodup) (h:Co ly X pl keys values ps) (h0:keys≠[]) (h15:ps.length<=15) (hi:X.N[i]? =some x:=by rfl) (hx:xc X.env.scope x:=by first|exact Or.inl rfl|exact Or.inr rfl)
  (hs:swapsWith (.Dict keys values pl) (some (.Name x pos')) pos.line X.env=pure false:=by rfl) (hf:X.fn x=true\/X.env.scope.names.lookup x=some .local:=by first|exact .inl rfl|exact .inr rfl|assumption) (hfr:k_ ly i:=by(repeat (first|assumption|exact L2.Pu.eL|refine L2.Pu.free_cons ⟨by first|decide|simp,by first|decide|simp⟩ ?_))):
  mJ ly X (.Assign [.Name x pos'] (.Dict keys values pl) pos) (v9 i ps):=fun c=>
 PS.weak (kT hN hi hx (BX (h.pps c) h.len.2.2 h.len.1 h0 (by rw[h.len.2.1];exact h15)) hs hf) fun D σ H ⟨F,ρ,ri,w⟩=>
  xP ri h15 ((aJ.bind.mp w).imp fun kds _ w1 p H' F' kvs hp e hH hF r n=>by
   refine w1 _ H' F' e.grow ((ri.step e).setOwn i hfr hH hF (ri.ext.keep.free hp) (.dic r n) (fun j d' _ hj ej=> ?_) (ri.celNe e.keep hp))
   obtain⟨a,o,k1,k2,_⟩:=ri.own j d' hj
   rw[ej]at k1
   cases k1
   rw[hp]at k2
   cases k2)
end
end L2.Pu
namespace L2.Pu
open PySem PySem.Spec PyProof.Rows
variable {ly:List gA}
def t6 (scope outer:Scope):Bool:=
 scope.kind== .function&&scope.names.all (fun y=>y.2 != .cell)&&scope.names.all (fun y=>y.2 != .local||scope.names.lookup y.1==some .local)&&
 scope.names.all (fun y=>y.2 != .free||outer.names.lookup y.1==some .cell||outer.names.lookup y.1==some .free)&&decide ((scope.names.map (·.1)).Nodup)
theorem cj.of {X:Cx} {scope outer:Scope} (h:X.env.scope=outer) (k:t6 scope outer=true):cj X scope:=by
 unfold t6 at k
 simp only[Bool.and_eq_true,List.all_eq_true,decide_eq_true_eq,Bool.or_eq_true,bne_iff_ne,beq_iff_eq]at k
 obtain⟨⟨⟨⟨k1,k2⟩,k3⟩,k4⟩,k5⟩:=k
 refine⟨k1,k2,fun y hy hl=> ?_,fun y hy hf=> ?_,k5⟩
 ·rcases k3 y hy with z|z
  ·exact absurd hl z
  ·exact z
 ·show X.env.scope.names.lookup y.1=_\/X.env.scope.names.lookup y.1=_
  rw[h]
  rcases k4 y hy with (z|z)|z
  ·exact absurd hf z
  ·exact .inl z
  ·exact .inr z
structure aR (K:PySem.W.Frag) (mg:Str->Option Value) (x:Str) (st:Stmt) (ps:List Str):Prop where
 ex:∃f fd,yw K x x st f fd/\mg x=some (.ref f)/\g_ K fd ps []
structure aM (P:Program) (w:World) (K:PySem.W.Frag) (mg:Str->Option Value) (base:Heap) (k:Nat) (x:Str) (n:Nat) (m:List D->R D):Prop where
 ex:∃f fd ps,gE P w K mg base (nN P w) k f fd ps (xE K n m)/\mg x=some (.ref f)/\PySem.W.keepIn K (.ref f)=true/\g_ K fd ps []
section
variable {P:Program} {w:World} {K:PySem.W.Frag} {mg:Str->Option Value} {base:Heap}
theorem bu {x:Str} {st:Stmt} {N ps:List Str} {k n m:Nat} {g:ai->R bG} (A:aR K mg x st ps) (S:aK N ps (ah st)) (hn:ps.length=n) (hm:N.length=m)
  (hbody:∀(f:Addr) (cdv:Value) (A:Around) (outer:List Env) (s:Shared) (H:Hp) (E:XK),dD k (A.deeper (envOfC x (ah st) s.heap.objs.size f cdv))->
   lb [] (jH (nN P w) P w K mg base N x (ah st) f cdv A outer s H E) (aI st) g):aM P w K mg base (k+1) x n (aW n m g):=by
 obtain⟨f,fd,F,h1,h2⟩:=A.ex
 exact⟨f,fd,ps,EH F S hn hm fun cdv A outer s H E hr=>hbody f cdv A outer s H E hr,h1,F.kp,h2⟩
theorem aM.mono {x:Str} {j k n:Nat} {m:List D->R D} (F:aM P w K mg base j x n m) (h:j<=k):aM P w K mg base k x n m:=by
 obtain⟨f,fd,ps,h1,h2⟩:=F.ex
 exact⟨f,fd,ps,h1.mono h,h2⟩
theorem zS {x:Str} {st:Stmt} {ps:List Str} {n:Nat} (A:aR K mg x st ps) (hn:ps.length=n):aM P w K mg base 0 x n (fun _=> .bad):=by
 obtain⟨f,fd,F,h1,h2⟩:=A.ex
 refine⟨f,fd,ps,⟨fun vs H Q E h=>by rw[hn];exact h.1,fun A outer s H args us vs Q E hr e0 hb rv h=> ?_⟩,h1,F.kp,h2⟩
 obtain⟨_,F',ds,_,_,z⟩:=h
 exact z.elim
end
section
variable {X:Cx} {e:Expr} {es:List Expr} {fs:ai->R (List D)} {x:Str} {p pos:Pos}
theorem cc {n k:Nat} {m:List D->R D} (F:aM X.prog X.w X.K X.mg X.base k x n m) (hr:dD k X.A)
  (ha:w8 ly X (e::es) fs) (hg:Gl X x:=by rfl) (hdb:(x==("__debug__":Str))=false:=by decide) (he:starEach (e::es) X.env=(false,eval e X.env)::starEach es X.env:=by rfl) (hpl:(backTo pos (starEach es X.env)).any (·.1)=false:=by rfl):
  PQ ly X (.Call (.Name x p) (e::es) [] pos) (aE m n fs):=by
 obtain⟨f,fd,ps,h1,h2,h3,h4⟩:=F.ex
 exact ED h1 hr h2 h3 h4 ha hg hdb he hpl
end
structure Bl (mg:Str->Option Value) (xs:List Str):Prop where
 no:∀x∈xs,mg x=none
theorem bv:bootBuiltins "tuple"=some (.type "tuple"):=by decide+kernel
theorem fZ:bootBuiltins "list"=some (.type "list"):=by decide+kernel
theorem j0:bootBuiltins "dict"=some (.type "dict"):=by decide+kernel
theorem oV:bootBuiltins "int"=some (.type "int"):=by decide+kernel
theorem qC:bootBuiltins "bool"=some (.type "bool"):=by decide+kernel
theorem gL:bootBuiltins "sorted"=some (.builtin "sorted"):=by decide+kernel
theorem t7:bootBuiltins "min"=some (.builtin "min"):=by decide+kernel
theorem t8:bootBuiltins "max"=some (.builtin "max"):=by decide+kernel
theorem mQ:bootBuiltins "sum"=some (.builtin "sum"):=by decide+kernel
theorem EO {K:PySem.W.Frag} {m:List D->R D} {H:Hp} {a:Addr} {ns:List Int} {E:XK} (h:m [.scr ns]= .ok (.bl true)) (hs:eC K H a (ns.map V.int)):xE K 1 m [.ref a] H (fun v _=>v= .bl true) E:=by
 refine⟨rfl,H,[.scr ns],aY.refl _, .cons (.scr hs) .nil,?_⟩
 rw[h]
 intro v H' F' e r
 cases r
 rfl
end L2.Pu
namespace L2.Pu
open PySem PySem.Spec PyProof.Rows
variable {ly:List gA}
section
variable {i j:Int}
theorem bI (h:0<j):fG (.int i) (.int j)=some (.int (i%j)):=if_pos h
theorem dm (h:0<j/\j<1073741824):fW (.int i) (.int j)=some (.int (i / j)):=if_pos (show uY i j from ⟨h.1,by omega⟩)
theorem zT (h:j.natAbs<18446744073709551616):pX (.int i) (.int j)=some (.int (i*j)):=if_pos (show pW i j from .inr h)
theorem va (h:i.natAbs<18446744073709551616):pX (.int i) (.int j)=some (.int (i*j)):=if_pos (show pW i j from .inl h)
theorem EQ:cH (.int i) (.int j)=some (.int (i+j)):=rfl
theorem zU:gK (.int i) (.int j)=some (.int (i - j)):=rfl
theorem DA:Gq (.int i) (.int j)=some (.bl (decide (i<j))):=rfl
theorem Gu:IE (.int i) (.int j)=some (.bl (decide (i<=j))):=rfl
theorem Gv:we (.int i) (.int j)=some (.bl (decide (j<i))):=rfl
theorem Gw:IF (.int i) (.int j)=some (.bl (decide (j<=i))):=rfl
theorem zV:kn (.int i) (.int j)=some (.bl (decide (i=j))):=rfl
theorem zW:wg (.int i) (.int j)=some (.bl (!decide (i=j))):=rfl
theorem zX {a b:Bool}:kn (.bl a) (.bl b)=some (.bl (decide (a=b))):=rfl
theorem vb:v3 (.int i)=some (.int (-i)):=rfl
end
theorem ER {a b:List D} (h:a.length+b.length<=lim):cH (.lst a) (.lst b)=some (.lst (a++b)):=if_pos h
theorem Gx {ds:List D} {i:Int}:bT (.lst ds) (.int i)=atI ds i:=rfl
theorem wl {ds:List D} {i:Int}:bT (.tup ds) (.int i)=atI ds i:=rfl
theorem Gy {ns:List Int} {i:Int}:bT (.scr ns) (.int i)=(atI ns i).map .int:=rfl
theorem ES {ds:List D}:eW [.lst ds]=some (.int ds.length):=rfl
theorem vc {ds:List D}:eW [.tup ds]=some (.int ds.length):=rfl
theorem ET {ds:List Int}:eW [.scr ds]=some (.int ds.length):=rfl
theorem zY {ds:List D}:c_ [.lst ds]=some (.tup ds):=rfl
theorem zZ {ds:List D}:c_ [.tup ds]=some (.tup ds):=rfl
theorem Cq {ds:List D}:lN [.lst ds]=some (.lst ds):=rfl
theorem Cr {ds:List D}:lN [.tup ds]=some (.lst ds):=rfl
theorem eX {α:Type} {xs:List α} {k:Nat} (h:k<xs.length):L2.atI xs (k:Int)=some xs[k]:=nV (by simp[h])
theorem Cs {α β:Type} (f:α->β) (xs:List α) (i:Int):L2.atI (xs.map f) i=(L2.atI xs i).map f:=by
 unfold L2.atI
 rw[List.length_map]
 cases uI xs.length i with
 |none=>rfl
 |some j=>simp
theorem Ct (x:Int) (xs:List Int):((xs.map D.int).any fun y=>Fw y (.int x))=decide (x∈xs):=by
 induction xs with
 |nil=>rfl
 |cons y r ih=>
  rw[List.map_cons,List.any_cons,ih]
  show (y==x||decide (x∈r))=decide (x∈y::r)
  by_cases e:x=y
  ·subst e;simp
  ·have:(y==x)=false:=beq_eq_false_iff_ne.mpr (Ne.symm e)
   simp[this,e]
theorem Cu (xs:List Int):(xs.map D.int).all iY=true:=by
 induction xs with
 |nil=>rfl
 |cons y r ih=>rw[List.map_cons,List.all_cons,ih];rfl
theorem lP (neg:Bool) (x:Int) (xs:List Int):EK neg (.int x) (xs.map .int)=some (.bl (if neg then !decide (x∈xs)else decide (x∈xs))):=by
 unfold EK
 rw[if_pos ⟨rfl,Cu xs⟩,Ct]
theorem qD {x:Int} {xs:List Int}:eG false (.int x) (.lst (xs.map .int))=some (.bl (decide (x∈xs))):=lP false x xs
theorem Gz {x:Int} {xs:List Int}:eG false (.int x) (.tup (xs.map .int))=some (.bl (decide (x∈xs))):=lP false x xs
theorem j3 {x:Int} {xs:List Int}:eG true (.int x) (.lst (xs.map .int))=some (.bl (!decide (x∈xs))):=lP true x xs
theorem t9 {x:Int} {xs:List Int}:eG true (.int x) (.tup (xs.map .int))=some (.bl (!decide (x∈xs))):=lP true x xs
theorem vd (n:Nat):ia 0 (n:Int)=(List.range n).map fun k:Nat=>D.int (k:Int):=by
 unfold ia
 simp
theorem ve {ds:List D}:xN "tuple" (.tup ds)=some (.bl true):=rfl
theorem EU {i:Int}:xN "tuple" (.int i)=some (.bl false):=rfl
theorem Aa {i:Int}:xN "int" (.int i)=some (.bl true):=rfl
theorem Ab {i:Int}:xN "bool" (.int i)=some (.bl false):=rfl
theorem Ac {m:List D->R D} {n:Nat} {fs:ai->R (List D)} {ρ:ai} {ds:List D} {d:D} (h:fs ρ= .ok ds) (hl:ds.length=n) (hm:m ds= .ok d):aE m n fs ρ= .ok d:=by
 unfold aE
 rw[h,ax,if_pos hl,hm]
end L2.Pu
namespace L2.Pu
theorem ck {g:D->ai->R ai} {gb:ai->R bG} {d:D} {r:List D} {ρ ρ1 ρ2:ai} (h1:g d ρ= .ok ρ1) (h2:gb ρ1= .ok (.nx ρ2)):bH g gb (d::r) ρ=bH g gb r ρ2:=by
 rw[bH,h1,ax,h2,ax]
theorem tf {g:D->ai->R ai} {gb:ai->R bG} {d:D} {r:List D} {ρ ρ1 ρ2:ai} (h1:g d ρ= .ok ρ1) (h2:gb ρ1= .ok (.cnt ρ2)):bH g gb (d::r) ρ=bH g gb r ρ2:=by
 rw[bH,h1,ax,h2,ax]
theorem Ad {g:D->ai->R ai} {gb:ai->R bG} {d e:D} {r:List D} {ρ ρ1:ai} (h1:g d ρ= .ok ρ1) (h2:gb ρ1= .ok (.ret e)):bH g gb (d::r) ρ= .ok (.ret e):=by
 rw[bH,h1,ax,h2,ax]
end L2.Pu
namespace L2.Pu
theorem aV {k n:Nat} {g:ai->R bG} {ds:List D} {d:D} (h:ds.length=k) (e:g (eF n ds)= .ok (.ret d)):aW k n g ds= .ok d:=by
 unfold aW
 rw[if_pos h,e,ax]
theorem aw {g g':ai->R bG} {ρ ρ':ai} (h:g ρ= .ok (.nx ρ')):aA g g' ρ=g' ρ':=by
 unfold aA
 rw[h,ax]
theorem kq {g g':ai->R bG} {ρ:ai} {d:D} (h:g ρ= .ok (.ret d)):aA g g' ρ= .ok (.ret d):=by
 unfold aA
 rw[h,ax]
theorem dH {fi:ai->R (List D)} {g:D->ai->R ai} {gb:ai->R bG} {ρ:ai} {ds:List D} (h:fi ρ= .ok ds):fF fi g gb ρ=bH g gb ds ρ:=by
 unfold fF
 rw[h,ax]
end L2.Pu
namespace L2.Pu
theorem kr {fs:ai->R (List D)} {ρ:ai} {n:Nat} (h:fs ρ= .ok [.int (n:Int)]) (hn:n<=lim):ee fs ρ= .ok ((List.range n).map fun k:Nat=>D.int (k:Int)):=by
 unfold ee
 rw[h,ax]
 have hc:(n:Int).natAbs<=lim:=by rw[Int.natAbs_natCast];exact hn
 exact(if_pos hc).trans (congrArg R.ok (vd n))
end L2.Pu
namespace L2.Pu
open PySem PySem.Spec PyProof.Rows
variable {ly:List gA}
section
variable {X:Cx} {elt tg iter:Expr} {ifs:List Expr} {scope:Scope} {pos:Pos} {fi:ai->R (List D)} {g:D->ai->R ai} {gt:ai->R Bool} {fe:ai->R D}
theorem Cv (i:Nat) {y:Str} {py spos:Pos} (S:cj X scope) (hc:X.calm=true) (hN:X.N.Nodup) (hi:EF ly X tg iter fi) (hg:∀s H ex,Ci [] (da X scope s H ex) tg g) (hif:∀s H ex,xI [] (da X scope s H ex) ifs gt) (hel:∀s H ex,PQ [] (da X scope s H ex) elt fe)
  (hi':X.N[i]? =some y:=by rfl) (hx:xc X.env.scope y:=by first|exact Or.inl rfl|exact Or.inr rfl) (hf:X.fn y=true\/X.env.scope.names.lookup y=some .local:=by first|exact .inl rfl|exact .inr rfl|assumption)
  (hsw:swapsWith (.ListComp elt [⟨tg,iter,ifs,0⟩] scope pos) (some (.Name y py)) spos.line X.env=pure false:=by rfl) (hs:∀x,foldedSetIterable iter X.env x=pure x:=by intro _;rfl) (hfr:k_ ly i:=by(repeat (first|assumption|exact L2.Pu.eL|refine L2.Pu.free_cons ⟨by first|decide|simp,by first|decide|simp⟩ ?_))):
  mJ ly X (.Assign [.Name y py] (.ListComp elt [⟨tg,iter,ifs,0⟩] scope pos) spos) (uW i (ib X.N scope.names fi g gt fe)):=fun c=>
 PS.weak (kT hN hi' hx (vY S hc (hi c) (fun s H ex=>HR (hg s H ex)) (fun s H ex=>HS (hif s H ex)) (fun s H ex=>HU (hel s H ex)) hs) hsw hf) fun D σ H ⟨F,ρ,ri,w⟩=>by
  refine⟨F,ρ,ri,(aJ.bind.mp (aJ.bind.mp w)).imp fun ds _ w1 J H1 F1 e1 jo p hp=> ?_⟩
  split at w1
  ·rename_i hl
   split at w1
   ·rename_i es he
    refine lc ri e1 jo hp hl he fun H2 F2 vs e2 hp2 hf2 rv=> ?_
    refine w1 _ H2 F2 (e1.grow.trans e2.grow) ((ri.step (e1.trans e2)).setOwn i hfr hp2 hf2 (ri.ext.keep.free (e1.keep.free hp)) (.lst rv) (fun j d' _ hj ej=> ?_) (ri.celNe (e1.trans e2).keep (e1.keep.free hp)))
    obtain⟨a,o,k1,k2,_⟩:=ri.own j d' hj
    rw[ej]at k1
    cases k1
    rw[e1.keep.free hp]at k2
    cases k2
   ·exact w1.elim
  ·exact w1.elim
end
end L2.Pu
namespace L2.Pu
open PySem PySem.Spec PyProof.Rows
variable {ly:List gA}
theorem ic {f:ai->R D} {ρ:ai} {d:D} (h:f ρ= .ok d):bM f ρ= .ok (.ret d):=by unfold bM;rw[h,ax]
theorem jS {g:List D->Option D} {fs:ai->R (List D)} {ρ:ai} {ds:List D} {d:D} (h:fs ρ= .ok ds) (h2:g ds=some d):cU g fs ρ= .ok d:=by unfold cU;rw[h,ax,h2,cJ]
theorem bQ {f:ai->R D} {fs:ai->R (List D)} {ρ:ai} {ds:List D} {d:D} (h:f ρ= .ok d) (h2:fs ρ= .ok ds):aa f fs ρ= .ok (d::ds):=by unfold aa;rw[h,ax,h2,ax]
theorem xQ {f:ai->R (List D)} {ρ:ai} {ds:List D} (h:f ρ= .ok ds):fL f ρ= .ok (.lst ds):=by unfold fL;rw[h,ax]
theorem iD {N:List Str} {names:List (Str×NameKind)} {fi:ai->R (List D)} {g:D->ai->R ai} {gt:ai->R Bool} {fe:ai->R D} {ρ τ:ai} {ds es:List D} (h:fi ρ= .ok ds) (hl:ds.length<=lim) (hr:lL N names ρ=τ) (hc:eA g gt fe ds τ= .ok es):
  ib N names fi g gt fe ρ= .ok es:=by
 unfold ib
 rw[h,ax,if_pos hl,hr,hc]
theorem own_of {i:Nat} {f:ai->R (List D)} {ρ:ai} {ds:List D} (h:f ρ= .ok ds):uW i f ρ= .ok (.nx (ρ.set i (some (.own (.lst ds))))):=by unfold uW;rw[h,ax]
theorem oW {f:ai->R D} {g:D->ai->R ai} {ρ ρ':ai} {d:D} (h:f ρ= .ok d) (h2:g d ρ= .ok ρ'):aT f g ρ= .ok (.nx ρ'):=by unfold aT;rw[h,ax,h2,ax]
theorem kt {m:List D->R D} {n:Nat} {fs:ai->R (List D)} {ρ:ai} {ds:List D} {d:D} (h:fs ρ= .ok ds) (hl:ds.length=n) (hm:m ds= .ok d):aE m n fs ρ= .ok d:=Ac h hl hm
theorem DB {g:D->D->Option D} {fa fb:ai->R D} {ρ:ai} {a b d:D} (h:fa ρ= .ok a) (h2:fb ρ= .ok b) (h3:g a b=some d):f2 g fa fb ρ= .ok d:=by unfold f2;rw[h,ax,h2,ax,h3,cJ]
end L2.Pu
namespace L2.Pu
theorem lQ (d:D):(Slot.val d).data=d:=rfl
theorem oX (d:D):(Slot.own d).data=d:=rfl
theorem Ae (d:D):(Slot.bor d).data=d:=rfl
end L2.Pu
namespace L2.Pu
open PySem PySem.Spec PyProof.Rows
variable {ly:List gA}
def gB:List (a_×D)->Option (List Int)
 |[]=>some []
 |(.inl i,_)::r=>(gB r).map (i::·)
 |(.inr _,_)::_=>none
def fM:List D->Option D
 |[.lst ds]=>(eI ds).bind fun ns=>if ns.length<64 then some (.lst ((cI ns).map .int))else none
 |[.dic kds]=>(gB kds).bind fun ns=>if ns.length<64 then some (.lst ((cI ns).map .int))else none
 |_=>none
theorem tj {K:PySem.W.Frag} {F:Hp}:∀{ds:List (a_×D)} {ns:List Int} {vs:List (a_×V)},gB ds=some ns->RepK K F vs ds->vs.map (·.1)=ns.map Sum.inl:=by
 intro ds
 induction ds with
 |nil=>intro ns vs h r;rw[r.nilI];cases h;rfl
 |cons d r ih=>
  intro ns vs h rr
  obtain⟨k,d⟩:=d
  obtain⟨v,us,rfl,_,t⟩:=rr.consI
  cases k with
  |inr i=>cases h
  |inl i=>
   replace h:(gB r).map (i::·)=some ns:=h
   cases e:gB r with
   |none=>rw[e]at h;cases h
   |some ms=>
    rw[e]at h
    cases h
    rw[List.map_cons,List.map_cons,ih e t]
def lR (K:PySem.W.Frag):List V->Hp->VK->Prop:=fun xs H Q=>
 (∃p ns,xs=[.ref p]/\eC K H p (ns.map V.int)/\ns.length<64/\∀l,H l=none->Q (.ref l) (bK H l (.lst ((cI ns).map V.int))))\/
 ∃p kvs ns,xs=[.ref p]/\H p=some (.dK kvs)/\kvs.map (·.1)=ns.map Sum.inl/\ns.length<64/\∀l,H l=none->Q (.ref l) (bK H l (.lst ((cI ns).map V.int)))
theorem rR {X:Cx} (hc:X.calm=true):cT X (.builtin "sorted") (lR X.K):=rA.or (rD hc)
theorem tm {K:PySem.W.Frag}:l0 K (lR K) fM:=by
 intro vs ds d H F Q s rv h k
 match ds,h with
 |[.lst xs],h=>exact .inl (v7 vs _ d H F Q s rv h k)
 |[.dic xs],h=>
  obtain⟨v,rfl,r⟩:=rv.one
  obtain⟨a,ws,rfl,h1,h2,_⟩:=r.dic s
  replace h:((gB xs).bind fun ns=>if ns.length<64 then some (D.lst ((cI ns).map .int))else none)=some d:=h
  cases e:gB xs with
  |none=>rw[e]at h;cases h
  |some ns=>
   rw[e]at h
   replace h:(if ns.length<64 then some (D.lst ((cI ns).map .int))else none)=some d:=h
   split at h
   ·rename_i hl
    cases h
    refine .inr ⟨a,ws,ns,rfl,h1,tj e h2,hl,fun l hl'=> ?_⟩
    have e:=bZ.lay (o:= .lst ((cI ns).map V.int)) s hl'
    exact k _ _ _ e (.lst az (iZ _))
   ·cases h
section
variable {X:Cx} {a b:Expr} {fs:ai->R (List D)} {pos p1 p2 pos2:Pos}
def jk (fs:ai->R (List D)):ai->R D:=fun ρ=>fs ρ>>=fun ds=>match ds with
 |[.int i, .int j]=>if i.natAbs<=lim/\j.natAbs<=lim then .ok (.lst ((fX i j).map .int))else .bad
 |_=> .bad
theorem tq (hc:X.calm=true) (hml:X.mg "list"=none) (hmr:X.mg "range"=none) (ha:w8 ly X [a,b] fs) (hgl:Gl X "list":=by rfl) (hgr:Gl X "range":=by rfl)
  (he:starEach [a,b] X.env=(false,eval a X.env)::starEach [b] X.env:=by rfl) (hpl:(backTo pos2 (starEach [b] X.env)).any (·.1)=false:=by rfl)
  (he1:starEach [.Call (.Name "range" p2) [a,b] [] pos2] X.env=(false,eval (.Call (.Name "range" p2) [a,b] [] pos2) X.env)::starEach [] X.env:=by rfl) (hpl1:(backTo pos (starEach [] X.env)).any (·.1)=false:=by rfl):
  PQ ly X (.Call (.Name "list" p1) [.Call (.Name "range" p2) [a,b] [] pos2] [] pos) (jk fs):=fun c=>
 PE.weak (ki (rC hc) hgl hml L2.Pu.fZ (dY (ki rB hgr hmr PyProof.Rows.boot_range (ha c) (by decide) (by decide) he hpl) iK he1) (by decide) (by decide) he1 hpl1) fun σ H Q ⟨F,ρ,ri,w⟩=>
  ⟨F,ρ,ri,(aJ.bind.mp w).imp fun ds _ w1 vs H1 F1 e1 r1=>by
   split at w1
   ·rename_i i j _
    cases r1.int2
    ·split at w1
     ·rename_i hl
      refine⟨i,j,rfl,fun p hp=> ?_⟩
      have e2:=bZ.layOwn (o:= .rng i j) e1.sub hp
      have hi:=lim_int20 hl.1
      have hj:=lim_int20 hl.2
      refine⟨p,i,j,rfl,az,hi,hj,fun l hl'=> ?_⟩
      have e3:=bZ.lay (o:= .lst ((fX i j).map V.int)) e2.sub hl'
      exact w1 _ _ _ ((e1.trans e2).trans e3) (.lst az (iZ _))
     ·exact w1.elim
   ·exact w1.elim⟩
where
 lim_int20 {j:Int} (h:j.natAbs<=lim): -(2 ^20)<=j/\j<=2 ^20:=by
  unfold lim at h
  omega
end
end L2.Pu
namespace L2.Pu
open PySem PySem.Spec PyProof.Rows
variable {ly:List gA}
theorem lg {gt:ai->R Bool} {gb:ai->R bG} {n:Nat} {ρ ρ':ai} (h1:gt ρ= .ok true) (h2:gb ρ= .ok (.nx ρ')):cz gt gb (n+1) ρ=cz gt gb n ρ':=by
 rw[cz,h1,ax,if_pos rfl,h2,ax]
theorem mR {gt:ai->R Bool} {gb:ai->R bG} {n:Nat} {ρ:ai} (h1:gt ρ= .ok false):cz gt gb (n+1) ρ= .ok (.nx ρ):=by
 rw[cz,h1,ax,if_neg (by simp)]
theorem ie {gt:ai->R Bool} {gb:ai->R bG}:∀{n:Nat} {ρ:ai} {o:bG} (k:Nat),cz gt gb n ρ= .ok o->cz gt gb (n+k) ρ= .ok o
 |0,ρ,o,k,h=>by cases h
 |n+1,ρ,o,k,h=>by
  rw[Nat.add_right_comm]
  rw[cz]at h ⊢
  obtain⟨b,h1,h⟩:=hV h
  rw[h1,ax]
  cases b with
  |false=>exact h
  |true=>
   rw[if_pos rfl]at h ⊢
   obtain⟨o',h2,h⟩:=hV h
   rw[h2,ax]
   cases o' with
   |nx ρ'=>exact ie k h
   |cnt ρ'=>exact ie k h
   |brk ρ'=>exact h
   |ret d=>exact h
   |retc d ρ'=>exact h
end L2.Pu
namespace L2.Pu
open PySem PySem.Spec PyProof.Rows
variable {ly:List gA}
section
variable {X:Cx} {a:Expr} {fa:ai->R D} {pos p1 p2 pos2:Pos}
def rS (f:ai->R D):ai->R D:=fun ρ=>f ρ>>=fun d=>match d with
 | .lst ds=> .ok (.tup ds.reverse)
 |_=> .bad
theorem Af (hc:X.calm=true) (hmt:X.mg "tuple"=none) (hmr:X.mg "reversed"=none) (ha:PB ly X a fa) (hgt:Gl X "tuple":=by rfl) (hgr:Gl X "reversed":=by rfl)
  (he1:starEach [a] X.env=(false,eval a X.env)::starEach [] X.env:=by rfl) (hpl1:(backTo pos2 (starEach [] X.env)).any (·.1)=false:=by rfl)
  (he2:starEach [.Call (.Name "reversed" p2) [a] [] pos2] X.env=(false,eval (.Call (.Name "reversed" p2) [a] [] pos2) X.env)::starEach [] X.env:=by rfl) (hpl2:(backTo pos (starEach [] X.env)).any (·.1)=false:=by rfl):
  PQ ly X (.Call (.Name "tuple" p1) [.Call (.Name "reversed" p2) [a] [] pos2] [] pos) (rS fa):=fun c=>
 PE.weak (xx hc (ha c) hmt hmr hgt hgr he1 hpl1 he2 hpl2) fun σ H Q ⟨F,ρ,ri,w⟩=>⟨F,ρ,ri,(aJ.bind.mp w).imp fun d _ w1 v H1 F1 e1 r1=>by
  cases d with
  |lst ds=>
   obtain⟨p,vs,rfl,h1,h2⟩:=r1.lst e1.sub
   refine⟨p,vs,rfl,eC.of h1,fun l hl=> ?_⟩
   have e2:=bZ.lay (o:= .tup vs.reverse) e1.sub hl
   exact w1 _ _ _ (e1.trans e2) (.tup az (h2.reverse.mono e2.grow))
  |_=>exact w1.elim⟩
end
section
variable {K:PySem.W.Frag}
def ig:List D->Option (List (a_×D))
 |[]=>some []
 | .tup [k,v]::r=>(cF k).bind fun key=>(ig r).map fun ps=>(key,v)::ps
 |_::_=>none
def jv:List D->Option D
 |[.lst ds]=>(ig ds).map fun ps=> .dic (dG [] ps)
 |[.tup ds]=>(ig ds).map fun ps=> .dic (dG [] ps)
 |_=>none
theorem qE {H F:Hp} (s:aY F H):∀{ds:List D} {vs:List V} {ps:List (a_×D)},ig ds=some ps->Reps K F vs ds->∃kvs,gz H vs kvs/\RepK K F kvs ps:=by
 intro ds
 induction ds with
 |nil=>intro vs ps h r;cases r.nilI;cases h;exact⟨[], .nil, .nil⟩
 |cons d r ih=>
  intro vs ps h rr
  obtain⟨k,v,rfl⟩:∃k v,d= .tup [k,v]:=by
   cases d with
   |tup xs=>
    cases xs with
    |nil=>cases h
    |cons k xs=>
     cases xs with
     |nil=>cases h
     |cons v xs=>
      cases xs with
      |nil=>exact⟨k,v,rfl⟩
      |cons _ _=>cases h
   |_=>cases h
  obtain⟨v0,us,rfl,r1,t⟩:=rr.consI
  obtain⟨a0,xs,rfl,ha,r2⟩:=r1.tupI
  obtain⟨k1,us1,rfl,rk,t1⟩:=r2.consI
  obtain⟨v1,us2,rfl,rv,t2⟩:=t1.consI
  cases t2.nilI
  replace h:(cF k).bind (fun key=>(ig r).map fun ps=>(key,v)::ps)=some ps:=h
  cases hk:cF k with
  |none=>rw[hk]at h;cases h
  |some key=>
   rw[hk]at h
   replace h:(ig r).map (fun ps=>(key,v)::ps)=some ps:=h
   cases hr:ig r with
   |none=>rw[hr]at h;cases h
   |some qs=>
    rw[hr]at h
    cases h
    obtain⟨kvs,h1,h2⟩:=ih hr t
    cases fz (H:=H) hk (.inl rk)
    exact⟨_, .cons (s _ _ ha) h1, .cons rv h2⟩
theorem lS:l0 K (fun xs H Q=>∃p ys ps,xs=[.ref p]/\(H p=some (.lst ys)\/H p=some (.tup ys))/\gz H ys ps/\∀l,H l=none->Q (.ref l) (bK H l (.dK (eE [] ps)))) jv:=by
 intro vs ds d H F Q s rv h k
 have fin:∀{xs:List D} {ws:List V} {a:Addr},Reps K F ws xs->(ig xs).map (fun ps=>D.dic (dG [] ps))=some d->(H a=some (.lst ws)\/H a=some (.tup ws))->
   ∃p ys ps,[V.ref a]=[V.ref p]/\(H p=some (.lst ys)\/H p=some (.tup ys))/\gz H ys ps/\∀l,H l=none->Q (.ref l) (bK H l (.dK (eE [] ps))):=by
  intro xs ws a h2 h h1
  cases e:ig xs with
  |none=>rw[e]at h;cases h
  |some ps=>
   rw[e]at h
   cases h
   obtain⟨kvs,g1,g2⟩:=qE s e h2
   refine⟨a,ws,kvs,rfl,h1,g1,fun l hl=> ?_⟩
   have e:=bZ.lay (o:= .dK (eE [] kvs)) s hl
   obtain⟨m1,m2⟩:=RepK.merge (g2.mono e.grow) .nil List.nodup_nil
   exact k _ _ _ e (.dic az m1 m2)
 match ds,h with
 |[.lst xs],h=>
  obtain⟨v,rfl,r⟩:=rv.one
  obtain⟨a,ws,rfl,h1,h2⟩:=r.lst s
  exact fin h2 h (.inl h1)
 |[.tup xs],h=>
  obtain⟨v,rfl,r⟩:=rv.one
  obtain⟨a,ws,rfl,h1,h2⟩:=r.tup s
  exact fin h2 h (.inr h1)
end
end L2.Pu
namespace L2.Pu
open PySem PySem.Spec PyProof.Rows
variable {ly:List gA}
structure oY (K:PySem.W.Frag) (x:Str) (C:Addr):Prop where
 ns:PySem.W.nsIn K mainGlobals x=some (some (.ref C))
 cl:vQ K C
theorem RepF.nilI {K:PySem.W.Frag} {F:Hp} {vs:List (Str×V)} (h:RepF K F vs []):vs=[]:=by cases h;rfl
theorem RepF.consI {K:PySem.W.Frag} {F:Hp} {vs:List (Str×V)} {k:Str} {d:D} {ds:List (Str×D)} (h:RepF K F vs ((k,d)::ds)):∃v us,vs=(k,v)::us/\et K F v d/\RepF K F us ds:=by
 cases h with
 |cons r t=>exact⟨_,_,rfl,r,t⟩
theorem RepF.get {K:PySem.W.Frag} {F:Hp} {f:Str} {d:D} {vs:List (Str×V)} {ds:List (Str×D)} (g:RepF K F vs ds):ds.lookup f=some d->∃v,(f,v)∈vs/\et K F v d:=by
 induction ds generalizing vs with
 |nil=>intro h;cases h
 |cons p ds ih=>
  intro h
  obtain⟨v,us,e0,r,t⟩:=RepF.consI (k:=p.1) (d:=p.2) g
  subst e0
  rw[List.lookup_cons]at h
  cases e:f==p.1 with
  |true=>rw[e]at h;cases h;cases eq_of_beq e;exact⟨v,List.mem_cons_self,r⟩
  |false=>
   rw[e]at h
   obtain⟨v',h1,h2⟩:=ih t h
   exact⟨v',List.mem_cons_of_mem _ h1,h2⟩
theorem RepF.names {K:PySem.W.Frag} {F:Hp} {vs:List (Str×V)} {ds:List (Str×D)} (g:RepF K F vs ds):vs.map (·.1)=ds.map (·.1):=by
 induction ds generalizing vs with
 |nil=>rw[g.nilI];rfl
 |cons p ds ih=>
  obtain⟨v,us,e0,_,t⟩:=RepF.consI (k:=p.1) (d:=p.2) g
  rw[e0,List.map_cons,List.map_cons,ih t]
theorem jT {α:Type} {f:Str}:∀{ds:List (Str×α)},ds.lookup f=none->f∉ds.map (·.1)
 |[],_=>by simp
 |(k,v)::ds,h=>by
  rw[List.lookup_cons]at h
  cases e:f==k with
  |true=>rw[e]at h;cases h
  |false=>
   rw[e]at h
   rw[List.map_cons]
   intro z
   rcases List.mem_cons.mp z with z|z
   ·rw[z]at e;simp at e
   ·exact jT h z
theorem cG.ins {K:PySem.W.Frag} {H F:Hp} {v:V} {x:Str} {fds:List (Str×D)} (s:aY F H):cG K H F v (.ins x fds)->∃a C dx fs vs,v= .ref a/\H a=some (.ins C dx fs)/\PySem.W.nsIn K mainGlobals x=some (some (.ref C))/\(∀p∈vs,fs.lookup p.1=some p.2)/\(∀f v,fs.lookup f=some v->f∈vs.map (·.1))/\RepF K F vs fds:=fun h=>by
 obtain⟨a,C,dx,fs,vs,e,h,r⟩:=h.in rfl
 exact⟨a,C,dx,fs,vs,e,s _ _ h,r⟩
section
variable {X:Cx} {a o e:Expr} {es:List Expr} {fa fo:ai->R D} {fs:ai->R (List D)} {pos apos p:Pos} {cls f m x:Str} {C:Addr}
def d0 (cls f:Str) (fa:ai->R D):ai->R D:=fun ρ=>fa ρ>>=fun d=>match d with
 | .ins y fds=>if y=cls then R.of (fds.lookup f)else .bad
 |_=> .bad
theorem GA (T:oY X.K cls C) (n:gW X.K C f) (ha:PB ly X a fa) (hb:attributeBase a f X.env (eval a X.env)=eval a X.env:=by rfl):PQ ly X (.Attribute a f pos) (d0 cls f fa):=fun c=>
 PE.weak (E8 (ha c) hb) fun σ H Q ⟨F,ρ,ri,w⟩=>⟨F,ρ,ri,(aJ.bind.mp w).imp fun d _ w1 v H1 F1 e1 r1=>by
  cases d with
  |ins y fds=>
   dsimp only at w1
   split at w1
   ·rename_i hy
    subst hy
    obtain⟨d',hd,k⟩:=w1.of
    obtain⟨a,C',dx,fs,vs,rfl,h1,h2,h3,h4,h5⟩:=r1.ins e1.sub
    have ec:C'=C:=by rw[T.ns]at h2;cases h2;rfl
    subst ec
    obtain⟨u,hu,ru⟩:=h5.get hd
    exact⟨a,C',dx,fs,u,rfl,h1,T.cl,n,h3 _ hu,k u H1 F1 e1 ru⟩
   ·exact w1.elim
  |_=>exact w1.elim⟩
structure f_ (P:Program) (w:World) (K:PySem.W.Frag) (mg:Str->Option Value) (base:Heap) (k:Nat) (cls m:Str) (n:Nat) (r:List D->R D):Prop where
 ex:∃C f fd ps,gE P w K mg base (nN P w) k f fd ps (xE K n r)/\oY K cls C/\xp K C m f/\g_ K fd ps []
def j4 (cls m:Str) (n:Nat) (r:List D->R D) (fo:ai->R D) (fs:ai->R (List D)):ai->R D:=fun ρ=>fo ρ>>=fun d=>match d with
 | .ins y fds=>if y=cls/\fds.lookup m=none then (fs ρ>>=fun ds=>if ds.length+1=n then (match r (d::ds)with| .ok z=> .ok z| .err x _=> .err x ρ| .bad=> .bad)else .bad)else .bad
 |_=> .bad
theorem wm {c:d_ ly} {r:List D->R D} {n:Nat} {σ:St} {H:Hp} {Q:VK} (T:oY X.K cls C) (h:tQ X.K c (j4 cls m n r fo fs) σ H Q):yU C m (xE X.K n r) [] (Fu X c) (tQ X.K c fo) (Hb X.K c fs) σ H Q:=by
 obtain⟨F,ρ,ri,w⟩:=h
 refine⟨F,ρ,ri,(aJ.bind.mp w).imp fun d hd w1 v H1 F1 e1 r1=> ?_⟩
 cases d with
 |ins y fds=>
  dsimp only at w1
  split at w1
  ·rename_i hy
   obtain⟨rfl,hm⟩:=hy
   obtain⟨a,C',dx,fs',vs,rfl,h1,h2,h3,h4,h5⟩:=cG.ins e1.sub (H:=H1) (.inl r1)
   have ec:C'=C:=by rw[T.ns]at h2;cases h2;rfl
   subst ec
   have hno:fs'.lookup m=none:=by
    cases e:fs'.lookup m with
    |none=>rfl
    |some v=>
     have:=h4 m v e
     rw[h5.names]at this
     exact absurd this (jT hm)
   refine⟨a,dx,fs',rfl,h1,hno,F1,ρ,ri.step e1,(aJ.bind.mp w1).imp fun ds _ w2 us H2 F2 e2 r2=> ?_⟩
   show xE X.K n r (V.ref a::(us++[])) H2 Q (Fu X c σ)
   rw[List.append_nil]
   split at w2
   ·rename_i hl
    refine⟨by rw[List.length_cons,r2.length];exact hl,F2,_,e2.sub, .cons (r1.mono e2.grow) r2,?_⟩
    split at w2
    ·rename_i z hz
     try rw[hz]
     exact fun v H' F' e' r'=>w2 v H' F' ((e1.trans e2).trans e') r'
    ·rename_i z _ hz
     try rw[hz]
     exact fun cls a H' F' ec e'=>⟨_,ρ,F',ec,ri.step ((e1.trans e2).trans e'),w2⟩
    ·exact w2.elim
   ·exact w2.elim
  ·exact w1.elim
 |_=>exact w1.elim
theorem Ag {k n:Nat} {r:List D->R D} {pl:Sem Bool} (G:f_ X.prog X.w X.K X.mg X.base k cls m n r) (hr:dD k X.A) (ho:PQ ly X o fo) (ha:w8 ly X (e::es) fs)
  (hst:starEach (e::es) X.env=(false,eval e X.env)::starEach es X.env:=by rfl) (hpl:(backTo pos (starEach es X.env)).any (·.1)=false:=by rfl)
  (ht:eval (.Call (.Attribute o m apos) (e::es) [] pos) X.env=(do
   let ov<-eval o X.env
   standAt apos.atName
   let (f,first)<-holding [ov] (getMethod ov m pl)
   callWith pos f first (backTo pos (starEach (e::es) X.env)) (backToKw pos (keywordEach [] X.env))):=by rfl):
  PQ ly X (.Call (.Attribute o m apos) (e::es) [] pos) (j4 cls m n r fo fs):=by
 obtain⟨C,f,fd,ps,h1,h2,h3,h4⟩:=G.ex
 exact fun c=>PE.weak (BD (pl:=pl) (ho c) h2.cl h3 h1 hr h4 .nil (w6 c) (ha c) hst hpl ht) fun σ H Q h=>wm h2 h
theorem wo {k n:Nat} {r:List D->R D} {pl:Sem Bool} (G:f_ X.prog X.w X.K X.mg X.base k cls m n r) (hr:dD k X.A) (ho:PQ ly X o fo)
  (ht:eval (.Call (.Attribute o m apos) [] [] pos) X.env=(do
   let ov<-eval o X.env
   standAt apos.atName
   let (f,first)<-holding [ov] (getMethod ov m pl)
   callWith pos f first (backTo pos (starEach [] X.env)) (backToKw pos (keywordEach [] X.env))):=by rfl):
  PQ ly X (.Call (.Attribute o m apos) [] [] pos) (j4 cls m n r fo aj):=by
 obtain⟨C,f,fd,ps,h1,h2,h3,h4⟩:=G.ex
 refine fun c=>PE.weak (yV (pl:=pl) (ho c) h2.cl h3 h1 hr h4 .nil (w6 c) ht) fun σ H Q h=> ?_
 obtain⟨F,ρ,ri,w⟩:=wm h2 h
 refine⟨F,ρ,ri,w.imp fun d _ k v H1 F1 e1 r1=> ?_⟩
 obtain⟨a,dx,fs',g1,g2,g3,F2,ρ2,ri2,w2⟩:=k v H1 F1 e1 r1
 exact⟨a,dx,fs',g1,g2,g3,w2 [] H1 F2 (bZ.refl ri2.sub) .nil⟩
theorem aF.ghost {pins:List (Addr×Obj)} {σ:St} {H:Hp} {s:Shared} (I:aF X pins σ H s) {i:Nat} {g:Str} {v:Option V} (hi:X.N[i]? =some g) (hv:¬uo X.env.scope g):aF X pins (σ.set i v) H s:=by
 refine {I with loc:= ?_,len:=by rw[List.length_set];exact I.len}
 obtain⟨mm,h1,h2⟩:=I.loc
 refine⟨mm,h1,fun j x u e1 e2 e3=> ?_⟩
 by_cases z:i=j
 ·subst z
  rw[hi]at e1
  cases e1
  exact absurd e3 hv
 ·rw[ar z]at e2
  exact h2 j x u e1 e2 e3
def GB (K:PySem.W.Frag) (i:Nat) (ta tv:TE) (f:Str):TS:=fun D σ H=>tv σ H fun y H1=>ta σ H1 fun x H2=>∃a C dx fs,x= .ref a/\H2 a=some (.ins C dx fs)/\vQ K C/\gW K C f/\fs.length<1000/\
 D.nx (σ.set i (some y)) (bK H2 a (.ins C dx (iJ f y fs)))
theorem Cw {value:Expr} {pos':Pos} {ta tv:TE} {g:Str} (i:Nat) (hi:X.N[i]? =some g) (hvis:¬uo X.env.scope g) (ha:PE X o ta) (hv:PE X value tv) (hs:swapsWith value (some (.Attribute o f pos')) pos.line X.env=pure false):
  PS X (.Assign [.Attribute o f pos'] value pos) (GB X.K i ta tv f):=by
 intro pins s σ H D I h
 refine plainObj_wpAny_Assign_Attribute (cp (hv pins s σ H _ I h) fun u s1 z=> ?_) hs
 obtain⟨y,H1,I1,ry,q⟩:=z
 refine cp (ha pins s1 σ H1 _ I1 q) fun ov s2 z=> ?_
 obtain⟨x,H2,I2,rx,a,C,dx,fs,ex,ea,c,n,l,q2⟩:=z
 subst ex
 obtain rfl:ov=Value.ref a:=rx
 exact uA I2 ea c n l ry fun s3 I3=>⟨_,_,L2.Pu.aF.ghost I3 hi hvis,q2⟩
theorem qF (f:Str) (v:V):∀fs:List (Str×V),(iJ f v fs).map (·.1)=if f∈fs.map (·.1)then fs.map (·.1)else fs.map (·.1)++[f]
 |[]=>rfl
 |(g,x)::r=>by
  show (if g=f then (g,v)::r else (g,x)::iJ f v r).map (·.1)=_
  by_cases e:g=f
  ·subst e;simp
  ·rw[if_neg e,List.map_cons,qF f v r]
   by_cases h:f∈r.map (·.1)
   ·rw[if_pos h,if_pos (by rw[List.map_cons];exact List.mem_cons_of_mem _ h)];rfl
   ·rw[if_neg h,if_neg (by rw[List.map_cons];intro z;exact(List.mem_cons.mp z).elim (fun q=>e q.symm) h)];rfl
theorem Cy (f:Str) (v:V) {fs:List (Str×V)} (h:(fs.map (·.1)).Nodup):((iJ f v fs).map (·.1)).Nodup:=by
 rw[qF]
 split
 ·exact h
 ·rename_i hf
  refine List.nodup_append.mpr ⟨h,by simp,fun a ha b hb=> ?_⟩
  rw[List.mem_singleton.mp hb]
  intro z;subst z;exact hf ha
theorem kI {α:Type} [DecidableEq α]:∀{l m:List α},l.Nodup->(∀x∈l,x∈m)->l.length<=m.length
 |[],_,_,_=>Nat.zero_le _
 |a::l,m,h,s=>by
  obtain⟨h1,h2⟩:=List.nodup_cons.mp h
  have ha:=s a List.mem_cons_self
  have:=kI (m:=m.erase a) h2 fun x hx=>(List.mem_erase_of_ne (fun z=>h1 (by rw[<-z];exact hx))).mpr (s x (List.mem_cons_of_mem _ hx))
  rw[List.length_erase_of_mem ha]at this
  have hp:0<m.length:=List.length_pos_of_mem ha
  rw[List.length_cons]
  omega
theorem oZ {α:Type} {f:Str}:∀{fs:List (Str×α)},f∈fs.map (·.1)->∃v,fs.lookup f=some v
 |(g,x)::r,h=>by
  rw[List.lookup_cons]
  cases e:f==g with
  |true=>exact⟨x,rfl⟩
  |false=>
   rw[List.map_cons]at h
   rcases List.mem_cons.mp h with z|z
   ·rw[z]at e;simp at e
   ·exact oZ z
theorem RI.fld {K:PySem.W.Frag} {c:d_ ly} {ρ:ai} {σ:St} {H F:Hp} (r:RI K c ρ σ H F) {L:gA} (hL:L∈ly) (hρ:ρ[L.x]? =some (some .obj)) {a dx:Addr} {fs:List (Str×V)} {i:Nat} (hx:σ[L.x]? =some (some (.ref a))) (ha:H a=some (.ins L.C dx fs)) (hf:(f,i)∈L.fl)
  (hn:∀p∈L.fl,p.1=f<->p.2=i) (hxi:L.x≠i) (hoth:∀M∈ly,M≠L->M.x≠i/\∀p∈M.fl,p.2≠i) {v:V} {d:D} (hd:et K F v d) (hil:i<σ.length):
  RI K c (ρ.set i (some (.val d))) (σ.set i (some v)) (bK H a (.ins L.C dx (iJ f v fs))) F:=by
 obtain⟨b,dx',fs',k0,k1,k2,k3,k4,k5,k6,k7,k8,k9,k10⟩:=r.obj L hL hρ
 rw[hx]at k1
 cases k1
 rw[ha]at k2
 cases k2
 have hne:∀{b:Addr} {o:HO},H b=some o->jO K F o d->b≠a:=fun {b o} e q z=>by subst z;rw[ha]at e;cases e;cases q
 refine⟨⟨fun x y e=> ?_,fun x y e=> ?_,r.ext.grow,r.ext.new⟩,fun j e q=> ?_,fun j e q=> ?_,fun j e q=> ?_,r.bh,fun j k e e' x q1 q2 q3 q4=> ?_,by simp[r.len],fun M hM hq=> ?_,fun M hM M' hM' q01 q02 x q1 q2=> ?_,r.fm, .no fun j x vds g hs w=> ?_,fun M hM a h=> ?_⟩
 ·rw[av (fun z=>by rw[z,k4]at e;cases e)];exact r.sub x y e
 ·rw[av (fun z=>by rw[z,k6]at e;cases e)];exact r.ext.keep x y e
 ·rcases aH q with ⟨rfl,z,l⟩|⟨z,q⟩
  ·cases z;exact⟨v,kl hil,hd⟩
  ·rw[ar z];exact r.val j e q
 ·rcases aH q with ⟨rfl,z,l⟩|⟨z,q⟩
  ·cases z
  ·obtain⟨x,o,g1,g2,g3,g4,g5⟩:=r.own j e q
   have nx:x≠a:=fun z=>by subst z;rw[ha]at g2;cases g2;cases g5
   exact⟨x,o,by rw[ar z];exact g1,by rw[av nx];exact g2,g3,g4,g5⟩
 ·rcases aH q with ⟨rfl,z,l⟩|⟨z,q⟩
  ·cases z
  ·rw[ar z];exact r.bor j e q
 ·rcases aH q1 with ⟨rfl,z,l⟩|⟨z,q1⟩
  ·cases z
  ·rcases aH q2 with ⟨rfl,z',l⟩|⟨z',q2⟩
   ·cases z'
   ·rw[ar z]at q3;rw[ar z']at q4
    exact r.dis j k e e' x q1 q2 q3 q4
 ·by_cases hML:M=L
  ·subst hML
   refine⟨a,dx,iJ f v fs,k0,by rw[ar hxi.symm];exact hx,az,?_,k4,k5,k6,k7,fun p hp=> ?_,fun g u hu=> ?_,Cy _ _ k10⟩
   ·rw[av (fun z=>by rw[z,ha]at k3;cases k3)];exact k3
   ·rw[iz]
    by_cases e:p.1=f
    ·rw[if_pos e,(hn p hp).mp e,kl hil];rfl
    ·rw[if_neg e,ar (fun z=>e ((hn p hp).mpr z.symm))];exact k8 p hp
   ·rw[iz]at hu
    by_cases e:g=f
    ·subst e;exact List.mem_map.mpr ⟨_,hf,rfl⟩
    ·rw[if_neg e]at hu;exact k9 g u hu
  ·have ho:=hoth M hM hML
   rw[ar ho.1.symm]at hq
   obtain⟨b,dy,gs,g0,g1,g2,g3,g4,g5,g6,g7,g8,g9⟩:=r.obj M hM hq
   have nb:b≠a:=fun z=>hML (r.odis M hM L hL hq hρ a (by rw[<-z];exact g1) hx)
   have nd:dy≠a:=fun z=>by subst z;rw[ha]at g3;cases g3
   refine⟨b,dy,gs,g0,by rw[ar ho.1.symm];exact g1,by rw[av nb];exact g2,by rw[av nd];exact g3,g4,g5,g6,g7,fun p hp=> ?_,g9⟩
   rw[ar (ho.2 p hp).symm];exact g8 p hp
 ·have hxs:∀M∈ly,M.x≠i:=fun M hM=>by
   by_cases hML:M=L
   ·subst hML;exact hxi
   ·exact(hoth M hM hML).1
  rw[ar (hxs M hM).symm]at q1 q01
  rw[ar (hxs M' hM').symm]at q2 q02
  exact r.odis M hM M' hM' q01 q02 x q1 q2
 ·rcases aH w with ⟨rfl,z,l⟩|⟨z,w⟩
  ·cases z
  ·have:=r.cel.one j L.x x vds g hs .obj w hρ rfl
   subst this
   rw[hρ]at w
   cases w
 ·have hxs:M.x≠i:=by
   by_cases hML:M=L
   ·subst hML;exact hxi
   ·exact(hoth M hM hML).1
  rw[ar hxs.symm];exact r.pin M hM a h
def tu (x:Nat) (g:ai->R bG):ai->R bG:=fun ρ=>match ρ[x]? with
 |some (some .obj)=>g ρ
 |_=> .bad
theorem Cz {c:d_ ly} {x:Nat} {g:ai->R bG} {ρ:ai} {P:bG->Prop} (w:aJ c (tu x g ρ) P):ρ[x]? =some (some .obj)/\aJ c (g ρ) P:=by
 unfold tu at w
 split at w
 ·rename_i h;exact⟨h,w⟩
 ·exact w.elim
structure DC (ly:List gA) (L:gA) (f:Str) (i:Nat):Prop where
 mem:L∈ly
 fl:(f,i)∈L.fl
 un:∀p∈L.fl,p.1=f<->p.2=i
 x:L.x≠i
 oth:∀M∈ly,M≠L->M.x≠i/\∀p∈M.fl,p.2≠i
 few:L.fl.length<1000
theorem rT {value:Expr} {pos' px:Pos} {fv:ai->R D} {y g:Str} {L:gA} (i:Nat) (hC:vQ X.K L.C) (n:gW X.K L.C f) (A:DC ly L f i) (hv:PQ ly X value fv) (hN:X.N[L.x]? =some y:=by rfl) (hvy:uo X.env.scope y:=by first|exact Or.inl rfl|exact Or.inr (Or.inl rfl)|exact Or.inr (Or.inr rfl)) (hd:(y==("__debug__":Str))=false:=by decide)
  (hcd:(y==("__classdict__":Str))=false:=by decide) (hi:X.N[i]? =some g:=by rfl) (hvis:¬uo X.env.scope g:=by decide+kernel) (hs:swapsWith value (some (.Attribute (.Name y px) f pos')) pos.line X.env=pure false:=by rfl):
  mJ ly X (.Assign [.Attribute (.Name y px) f pos'] value pos) (tu L.x (aT fv (gN i))):=fun c pins s σ H D I q=>by
 refine Cw i hi hvis (pv L.x hN hvy hd hcd) (hv c) hs pins s σ H D I ?_
 obtain⟨F,ρ,ri,w⟩:=q
 obtain⟨hρ,w⟩:=Cz w
 refine⟨F,ρ,ri,(aJ.bind.mp w).imp fun d _ w1 v H1 F1 e1 r1=> ?_⟩
 have ri1:=ri.step e1
 obtain⟨a,dx,fs,h0,h1,h2,h3,h4,h5,h6,h7,h8,h9,h10⟩:=ri1.obj L A.mem hρ
 have hil:i<σ.length:=by rw[I.len];exact(List.getElem?_eq_some_iff.mp hi).1
 have hlen:fs.length<1000:=by
  have:=kI (m:=L.fl.map (·.1)) h10 fun x hx=>by
   obtain⟨v,e⟩:=oZ hx
   exact h9 x v e
  rw[List.length_map,List.length_map]at this
  exact Nat.lt_of_le_of_lt this A.few
 refine⟨.ref a,h1,a,L.C,dx,fs,rfl,h2,hC,n,hlen,?_⟩
 exact w1 _ _ F1 e1.grow (ri1.fld A.mem hρ h1 h2 A.fl A.un A.x A.oth r1 hil)
end
end L2.Pu
namespace L2.Pu
open PySem PySem.Spec PyProof.Rows
variable {ly:List gA}
section
variable {X:Cx} {pos px:Pos} {f y:Str}
def Il (x:Nat) (g:ai->R D):ai->R D:=fun ρ=>match ρ[x]? with
 |some (some .obj)=>g ρ
 |_=> .bad
end
def fN:List (Str×Nat)->ai->Option (List (Str×D))
 |[],_=>some []
 |p::r,ρ=>match ρ[p.2]? with
  |some (some (.val d))=>(fN r ρ).map fun t=>(p.1,d)::t
  |_=>none
def lh (n:Nat) (ds:List D):ai:=some Slot.obj::eF n ds
def xR (fl:List (Str×Nat)) (ρ:ai):R (List (Str×D)):=match ρ[0]? with
 |some (some Slot.obj)=>R.of (fN fl ρ)
 |_=> .bad
def lT (k n:Nat) (fl:List (Str×Nat)) (g:ai->R bG) (ds:List D):R (List (Str×D)):=if ds.length=k then g (lh n ds)>>=fun o=>match o with
 | .nx ρ=>xR fl ρ
 |_=> .bad else .bad
def Ah (K:PySem.W.Frag) (C:Addr) (cls:Str) (k:Nat) (mi:List D->R (List (Str×D))):Sp:=fun vs H Q E=>∃F x dx us ds Hz,vs= .ref x::us/\us.length=k/\aY F Hz/\Hz x=none/\Hz dx=none/\dx≠x/\H=bK (bK Hz dx (.own x)) x (.ins C dx [])/\Reps K F us ds/\match mi ds with
 | .ok fds=>∀H' F',bZ Hz F H' F'->et K F' (.ref x) (.ins cls fds)->Q .non H'
 | .err z _=>∀ec a H' F',i6 K z ec->bZ Hz F H' F'->E ec a H'
 | .bad=>False
theorem o_ {K:PySem.W.Frag} {c:d_ ly} {ρ:ai} {σ:St} {H F:Hp} (ri:RI K c ρ σ H F) {fs:List (Str×V)}:∀{fl:List (Str×Nat)} {fds:List (Str×D)},fN fl ρ=some fds->(∀p∈fl,fs.lookup p.1=(σ[p.2]?).join)->
  ∃vs:List (Str×V),RepF K F vs fds/\vs.map (·.1)=fl.map (·.1)/\∀p∈vs,fs.lookup p.1=some p.2
 |[],fds,h,_=>by cases h;exact⟨[], .nil,rfl,fun p hp=>by cases hp⟩
 |p::fl,fds,h,hl=>by
  unfold fN at h
  split at h
  ·rename_i d hd
   cases e:fN fl ρ with
   |none=>rw[e]at h;cases h
   |some t=>
    rw[e]at h
    cases h
    obtain⟨vs,h1,h2,h3⟩:=o_ ri e fun q hq=>hl q (List.mem_cons_of_mem _ hq)
    obtain⟨v,g1,g2⟩:=ri.val _ d hd
    refine⟨(p.1,v)::vs, .cons g2 h1,by rw[List.map_cons,List.map_cons,h2],fun q hq=> ?_⟩
    rcases List.mem_cons.mp hq with rfl|hq
    ·have:=hl p List.mem_cons_self
     rw[this,g1];rfl
    ·exact h3 q hq
  ·cases h
theorem xS {K:PySem.W.Frag} {N:List Str} {C x dx:Addr} {fl:List (Str×Nat)} {Hz F:Hp} {us:List V} {ds:List D} {Er:Str->ai->Prop} {n:Nat} (hn:N.length=n+1) (s:aY F Hz) (hx:Hz x=none) (hdx:Hz dx=none) (hne:dx≠x) (r:Reps K F us ds) (hus:us.length<=n) (hg:∀p∈fl,us.length<p.2):
  RI K (⟨Hz,F,fun _=>none,Er,fun _=>some x,fun _=>none⟩:d_ [⟨0,C,fl⟩]) (lh n ds) (gF N (.ref x::us)) (bK (bK Hz dx (.own x)) x (.ins C dx [])) F:=by
 have keep:aY Hz (bK (bK Hz dx (.own x)) x (.ins C dx [])):=(cy hdx).trans (cy (by rw[av (Ne.symm hne)];exact hx))
 have hv:∀(i:Nat) sl,(lh n ds)[i]? =some (some sl)->(i=0/\sl= .obj)\/∃j d,i=j+1/\ds[j]? =some d/\sl= .val d:=fun i sl h=>by
  cases i with
  |zero=>exact .inl ⟨rfl,by cases h;rfl⟩
  |succ j=>
   have h':(eF n ds)[j]? =some (some sl):=h
   refine .inr ?_
   unfold eF at h'
   rw[List.getElem?_append]at h'
   split at h'
   ·rw[List.getElem?_map]at h'
    cases e:ds[j]? with
    |none=>rw[e]at h';cases h'
    |some d=>rw[e]at h';simp at h';exact⟨j,d,rfl,e,h'.symm⟩
   ·rw[List.getElem?_replicate]at h'
    split at h'<;>simp at h'
 have hs0:(gF N (V.ref x::us))[0]? =some (some (V.ref x)):=rfl
 refine⟨⟨s.trans keep,keep,aY.refl _,fun _ h=> .inl h⟩,fun i d h=> ?_,fun i d h=> ?_,fun i d h=> ?_,(fun b o e=>by cases e),fun i j d d' a h=> ?_,?_,fun L hL _=> ?_,fun L hL L' hL' _ _ a _ _=> ?_,(fun _ _ e=>by cases e), .no fun i x vds f hs h=>(by obtain⟨_,z⟩|⟨j,d',_,_,z⟩:=hv i _ h<;>cases z),fun L hL a h=>by rw[List.mem_singleton.mp hL];cases h;exact hs0⟩
 ·obtain⟨rfl,z⟩|⟨j,d',rfl,e,z⟩:=hv i _ h
  ·cases z
  cases z
  obtain⟨v,h1,h2⟩:=r.get e
  refine⟨v,?_,h2⟩
  unfold gF
  have hl:j<us.length:=(List.getElem?_eq_some_iff.mp h1).1
  rw[List.getElem?_append_left (by simpa using hl),List.getElem?_map]
  show (us[j]?).map some=_
  rw[h1]
  rfl
 ·obtain⟨_,z⟩|⟨j,d',_,_,z⟩:=hv i _ h<;>cases z
 ·obtain⟨_,z⟩|⟨j,d',_,_,z⟩:=hv i _ h<;>cases z
 ·obtain⟨_,z⟩|⟨j,d',_,_,z⟩:=hv i _ h<;>cases z
 ·simp only[lh,eF,gF,List.length_cons,List.length_append,List.length_map,List.length_replicate,hn]
  have:=r.length
  omega
 ·rw[List.mem_singleton.mp hL]
  refine⟨x,dx,[],(fun b hb=>by cases hb;rfl),hs0,az,?_,s.free hx,s.free hdx,hx,hdx,fun p hp=> ?_,(fun f v h=>by cases h),List.nodup_nil⟩
  ·rw[av hne];exact az
  ·have hp2:=hg p hp
   show none=_
   unfold gF
   rw[List.getElem?_append_right (by simp;omega),List.getElem?_replicate]
   split<;>rfl
 ·rw[List.mem_singleton.mp hL,List.mem_singleton.mp hL']
theorem CA {K:PySem.W.Frag} {C:Addr} {cls:Str} {fl:List (Str×Nat)} {c:d_ [⟨0,C,fl⟩]} {ρ:ai} {σ:St} {H F:Hp} {fds:List (Str×D)} {x:Addr} (ri:RI K c ρ σ H F) (hρ:ρ[0]? =some (some .obj)) (hoa:c.oa 0=some x) (hns:PySem.W.nsIn K mainGlobals cls=some (some (.ref C))) (h:fN fl ρ=some fds):
  ∃F',bZ c.H0 c.F0 H F'/\et K F' (.ref x) (.ins cls fds):=by
 obtain⟨a,dx,fs,h0,h1,h2,h3,h4,h5,h6,h7,h8,h9,h10⟩:=ri.obj _ (List.mem_singleton.mpr rfl) hρ
 cases h0 x hoa
 obtain⟨vs,g1,g2,g3⟩:=o_ ri h h8
 have hne:dx≠x:=fun z=>by rw[z,h2]at h3;cases h3
 have s1:aY F (bK F dx (.own x)):=cy h5
 have s2:aY (bK F dx (.own x)) (bK (bK F dx (.own x)) x (.ins C dx fs)):=cy (by rw[av (Ne.symm hne)];exact h4)
 have sF:=s1.trans s2
 refine⟨bK (bK F dx (.own x)) x (.ins C dx fs),⟨fun b u e=> ?_,ri.ext.keep,ri.ext.grow.trans sF,fun b e=> ?_⟩, .ins az (by rw[av hne];exact az) hns g3 (fun f v e=>by rw[g2];exact h9 f v e) (g1.mono sF)⟩
 ·by_cases z:b=x
  ·subst z;rw[az]at e;rw[<-e];exact h2
  ·rw[av z]at e
   by_cases z2:b=dx
   ·subst z2;rw[az]at e;rw[<-e];exact h3
   ·rw[av z2]at e;exact ri.sub b u e
 ·by_cases z:b=x
  ·subst z;exact .inr h6
  ·rw[av z]at e
   by_cases z2:b=dx
   ·subst z2;exact .inr h7
   ·rw[av z2]at e;exact ri.ext.new b e
theorem CB {P:Program} {w:World} {K:PySem.W.Frag} {mg:Str->Option Value} {base:Heap} {x qual cls:Str} {st:Stmt} {f C:Addr} {fd:FuncData} {N ps:List Str} {k n m:Nat} {fl:List (Str×Nat)} {g:ai->R bG} (F:yw K x qual st f fd) (S:aK N ps (ah st))
  (hns:PySem.W.nsIn K mainGlobals cls=some (some (.ref C))) (hn:ps.length=n+1) (hm:N.length=m+1) (hg:∀p∈fl,n<p.2) (hnm:n<=m)
  (hbody:∀(cdv:Value) (A:Around) (outer:List Env) (s:Shared) (H:Hp) (E:XK),dD k (A.deeper (envOfC qual (ah st) s.heap.objs.size f cdv))->
   lb [⟨0,C,fl⟩] (jH (nN P w) P w K mg base N qual (ah st) f cdv A outer s H E) (aI st) g):gE P w K mg base (nN P w) (k+1) f fd ps (Ah K C cls n (lT n m fl g)):=by
 refine Ih F S (fun vs H Q E h=> ?_) (fun cdv A outer s H vs Q E hr h=> ?_)
 ·obtain⟨Fz,y,dy,us,ds,Hz,rfl,hl,_⟩:=h
  rw[List.length_cons,hl,hn]
 ·obtain⟨Fz,y,dy,us,ds,Hz,rfl,hl,sub,hy,hdy,hne,rfl,r,w⟩:=h
  refine⟨_,hbody cdv A outer s _ E hr ⟨⟨Hz,Fz,fun _=>none,fun z _=>∀ec a H' F',i6 K z ec->bZ Hz Fz H' F'->E ec a H',fun _=>some y,fun _=>none⟩,zI fun z ρ er ec a H' F' σ hc ri=>er ec a H' F' hc ri.ext⟩,?_⟩
  refine⟨Fz,lh m ds,xS hm sub hy hdy hne r (by omega) (fun p hp=>by rw[hl];exact hg p hp),?_⟩
  have hd:ds.length=n:=by rw[<-r.length];exact hl
  unfold lT at w
  rw[if_pos hd]at w
  cases e:g (lh m ds)with
  |bad=>rw[e]at w;exact w.elim
  |err c ρ=>rw[e]at w;exact w
  |ok o=>
   rw[e]at w
   cases o with
   |nx ρ=>
    intro σ' H' F' _ ri'
    rw[ax]at w
    split at w
    ·rename_i fds hf
     replace hf:xR fl ρ= .ok fds:=hf
     unfold xR at hf
     split at hf
     ·rename_i hρ
      cases e2:fN fl ρ with
      |none=>rw[e2]at hf;cases hf
      |some gds=>
       rw[e2]at hf
       cases hf
       obtain⟨F2,x1,x2⟩:=CA ri' hρ rfl hns e2
       exact w H' F2 x1 x2
     ·cases hf
    ·rename_i z ρe hf
     replace hf:xR fl ρ= .err z ρe:=hf
     unfold xR at hf
     split at hf
     ·cases e2:fN fl ρ<;>rw[e2]at hf<;>cases hf
     ·cases hf
    ·exact w.elim
   |_=>exact w.elim
structure p6 (P:Program) (w:World) (K:PySem.W.Frag) (mg:Str->Option Value) (base:Heap) (k:Nat) (cls:Str) (n:Nat) (mi:List D->R (List (Str×D))):Prop where
 ex:∃C f fd ps,gE P w K mg base (nN P w) k f fd ps (Ah K C cls n mi)/\mg cls=some (.ref C)/\Mk K C f/\g_ K fd ps []
section
variable {X:Cx} {e:Expr} {es:List Expr} {fs:ai->R (List D)} {cls:Str} {p pos:Pos}
def p7 (cls:Str) (n:Nat) (mi:List D->R (List (Str×D))) (fs:ai->R (List D)):ai->R D:=fun ρ=>fs ρ>>=fun ds=>if ds.length=n then (match mi ds with| .ok fds=> .ok (.ins cls fds)| .err x _=> .err x ρ| .bad=> .bad)else .bad
theorem rV {k n:Nat} {mi:List D->R (List (Str×D))} (G:p6 X.prog X.w X.K X.mg X.base k cls n mi) (hr:dD (k+1) X.A) (ha:w8 ly X (e::es) fs) (hg:Gl X cls:=by rfl) (hdb:(cls==("__debug__":Str))=false:=by decide)
  (he:starEach (e::es) X.env=(false,eval e X.env)::starEach es X.env:=by rfl) (hpl:(backTo pos (starEach es X.env)).any (·.1)=false:=by rfl):PQ ly X (.Call (.Name cls p) (e::es) [] pos) (p7 cls n mi fs):=by
 obtain⟨C,f,fd,ps,h1,h2,h3,h4⟩:=G.ex
 refine fun c=>PE.weak (BE h3 h1 hr hg h2 h4 .nil (w6 c) (ha c) hdb he hpl) fun σ H Q ⟨F,ρ,ri,w⟩=>⟨F,ρ,ri,(aJ.bind.mp w).imp fun ds _ w1 vs H1 F1 e1 r1 x dx hx hdx hne=> ?_⟩
 rw[List.append_nil]
 split at w1
 ·rename_i hl
  refine⟨F1,x,dx,vs,ds,H1,rfl,by rw[r1.length];exact hl,e1.sub,hx,hdx,hne,rfl,r1,?_⟩
  split at w1
  ·rename_i fds hm
   exact fun H' F' e' r'=>⟨rfl,w1 _ H' F' (e1.trans e') r'⟩
  ·exact fun ec a H' F' hc e'=>⟨_,ρ,F',hc,ri.step (e1.trans e'),w1⟩
  ·exact w1.elim
 ·exact w1.elim
end
end L2.Pu
namespace L2.Pu
open PySem PySem.Spec PyProof.Rows
variable {ly:List gA}
section
variable {X:Cx} {e:Expr} {es:List Expr} {fs:ai->R (List D)} {x:Str} {np cpos pos:Pos}
structure tw (K:PySem.W.Frag) (mg:Str->Option Value) (x:Str):Prop where
 ex:∃C,PySem.W.nsIn K mainGlobals x=some (some (.ref C))/\mg x=some (.ref C)/\rJ K C
def mS (x:Str) (fs:ai->R (List D)):ai->R bG:=fun ρ=>fs ρ>>=fun ds=>if ds.length<=lim then .err x ρ else .bad
theorem Ai {c:jQ ly X} {C:Addr} {σ:St} {H:Hp} {D:kS} {ρ:ai} {F:Hp} (hns:PySem.W.nsIn X.K mainGlobals x=some (some (.ref C)))
  (thr:∀pins σ ρ H F s a cls x,aF X pins σ H s->RI X.K c.1 ρ σ H F->Fl X pins H s.heap a cls->i6 X.K x cls->c.1.Er x ρ->X.xe (.ref a) s)
  (ri:RI X.K c.1 ρ σ H F) (w:aJ c.1 (mS x fs ρ) (fJ X.K c.1 F D)):zw X C (Hb X.K c.1 fs) D σ H:=by
 refine⟨F,ρ,ri,(aJ.bind.mp w).imp fun ds _ w1 vs H1 F1 e1 r1=> ?_⟩
 split at w1
 ·rename_i hl
  exact⟨Nat.le_trans (by rw[r1.length];exact hl) fY,fun pins s a I fl=>thr pins σ ρ H1 F1 s a _ x I (ri.step e1) fl ⟨C,rfl,hns⟩ w1⟩
 ·exact w1.elim
theorem Aj {c:d_ ly} {ρ:ai} {F:Hp} {D:kS} (no:∀x ρ,¬c.Er x ρ) (w:aJ c (mS x fs ρ) (fJ X.K c F D)):False:=by
 unfold mS at w
 cases h:fs ρ with
 |bad=>rw[h]at w;exact w
 |err y ρ'=>rw[h]at w;exact no _ _ w
 |ok ds=>
  rw[h,ax]at w
  split at w
  ·exact no _ _ w
  ·exact w
theorem wq (k:tw X.K X.mg x) (hc:X.calm=true) (ha:w8 ly X (e::es) fs) (hg:Gl X x:=by rfl) (hdb:(x==("__debug__":Str))=false:=by decide)
  (he:starEach (e::es) X.env=(false,eval e X.env)::starEach es X.env:=by rfl) (hpl:(backTo cpos (starEach es X.env)).any (·.1)=false:=by rfl) (hst:X.stack=X.env::X.outer:=by rfl):mJ ly X (.Raise (some (.Call (.Name x np) (e::es) [] cpos)) none pos) (mS x fs):=by
 obtain⟨C,h1,h2,h3⟩:=k.ex
 intro c pins s σ H D I q
 obtain⟨F,ρ,ri,w⟩:=q
 rcases c.2.plain hst with ⟨hp,thr⟩|no
 ·exact zx h3 h2 hp hc (ha c) hg hdb he hpl pins s σ H D I (Ai h1 thr ri w)
 ·exact(Aj (X:=X) no w).elim
end
def GC (i:Nat):bG->bG
 | .nx ρ=> .nx (ρ.set i none)
 | .brk ρ=> .brk (ρ.set i none)
 | .cnt ρ=> .cnt (ρ.set i none)
 | .ret d=> .ret d
 | .retc d ρ=> .retc d (ρ.set i none)
def wt (i:Nat) (sub:Str->Bool) (gh:ai->R bG) (x:Str) (ρ:ai):R bG:=if sub x=true then (match gh (ρ.set i (some (.val (.exc x))))with
 | .ok o=> .ok (GC i o)
 |_=> .bad)else .bad
def Ak (i:Nat) (sub:Str->Bool) (g gh:ai->R bG):ai->R bG:=fun ρ=>match g ρ with
 | .err x ρ'=>wt i sub gh x ρ'
 |r=>r
section
variable {X:Cx} {pins:List (Addr×Obj)} {σ:St} {H:Hp} {s:Shared}
abbrev _root_.L2.Cx.inT (X:Cx) (E:Value->Shared->Prop) (pn:List (Addr×Obj)):Cx:={X with xe:=E,pn:=pn}
theorem IH {E:Value->Shared->Prop} {pn:List (Addr×Obj)} (ok:X.Ok):(X.inT E pn).Ok:=
 ⟨ok.mod,ok.kind,ok.glob,ok.blt,ok.above,ok.inj,ok.has,ok.cab,ok.hd,ok.frames,ok.stk,ok.exf,ok.bs,ok.bsz,ok.noex,ok.exfs,ok.funs,ok.frf⟩
theorem inT {E:Value->Shared->Prop} (I:aF X pins σ H s):aF (X.inT E (X.pn++pins)) [] σ H s:=⟨IH I.ok,I.os,I.bare,I.base,I.loc,I.cell,I.free,I.freeC,fun p hp=>I.pin p (by simpa using hp),I.hok,I.len⟩
theorem Al {E:Value->Shared->Prop} {pins':List (Addr×Obj)} (ok:X.Ok) (I:aF (X.inT E (X.pn++pins)) pins' σ H s):aF X pins σ H s:=⟨ok,I.os,I.bare,I.base,I.loc,I.cell,I.free,I.freeC,fun p hp=>I.pin p (List.mem_append_left _ hp),I.hok,I.len⟩
theorem newT {E:Value->Shared->Prop} {pins':List (Addr×Obj)} {b:Addr} (n:uR (X.inT E (X.pn++pins)) pins' H b):uR X pins H b:=⟨n.s0,n.no,fun p hp=>n.pin p (List.mem_append_left _ hp)⟩
theorem II {E:Value->Shared->Prop} {pins':List (Addr×Obj)} {h:Heap} {a:Addr} {cls:Value} (f:Fl (X.inT E (X.pn++pins)) pins' H h a cls):Fl X pins H h a cls:=by
 obtain⟨oe,vs,h1,h2,h3,h4⟩:=f.at_
 refine⟨newT f.new,oe,vs,h1,h2,h3,h4.imp id fun ⟨T,fl,e,t,hf⟩=>⟨T,fl,e,⟨newT t.new,t.ne,t.at_⟩,hf⟩⟩
theorem IJ {E:Value->Shared->Prop} {D:kS} {f:Flow} (ok:X.Ok) (h:SP (X.inT E (X.pn++pins)) [] D f s):SP X pins D f s:=by
 cases f with
 |next=>obtain⟨σ',H',I,q⟩:=h;exact⟨σ',H',Al ok I,q⟩
 |brk=>obtain⟨σ',H',I,q⟩:=h;exact⟨σ',H',Al ok I,q⟩
 |cont=>obtain⟨σ',H',I,q⟩:=h;exact⟨σ',H',Al ok I,q⟩
 |ret u=>obtain⟨v,σ',H',I,r,q⟩:=h;exact⟨v,σ',H',Al ok I,r,q⟩
end
section
variable {K:PySem.W.Frag} {c:d_ ly} {ρ:ai} {σ:St} {H F:Hp}
def d_.er (c:d_ ly) (F:Hp) (Er:Str->ai->Prop):d_ ly:=⟨c.H0,c.F0,c.B,Er,c.oa,F⟩
theorem RI.er {Er:Str->ai->Prop} (r:RI K c ρ σ H F):RI K (c.er F Er) ρ σ H F:=⟨r.ext,r.val,r.own,r.bor,r.bh,r.dis,r.len,r.obj,r.odis,aY.refl _,r.cel,r.pin⟩
theorem RI.unEr {F1:Hp} {Er:Str->ai->Prop} (r:RI K (c.er F1 Er) ρ σ H F) (m:aY c.Fm F1):RI K c ρ σ H F:=⟨r.ext,r.val,r.own,r.bor,r.bh,r.dis,r.len,r.obj,r.odis,m.trans r.fm,r.cel,r.pin⟩
theorem fJ.er {D:kS} {o:bG} {F1:Hp} {Er:Str->ai->Prop} (m:aY c.Fm F1) (h:fJ K c F D o):fJ K (c.er F1 Er) F D o:=by
 cases o with
 |nx ρ=>exact fun σ' H' F' s r=>h σ' H' F' s (r.unEr m)
 |brk ρ=>exact fun σ' H' F' s r=>h σ' H' F' s (r.unEr m)
 |cnt ρ=>exact fun σ' H' F' s r=>h σ' H' F' s (r.unEr m)
 |ret d=>exact fun v H' F' s e r=>h v H' F' s e r
 |retc d ρ=>exact fun v σ' H' F' s e r=>h v σ' H' F' s (e.unEr m) r
end
section
variable {X:Cx} {body suite:List Stmt} {b₀:Stmt} {g gh:ai->R bG} {cx n:Str} {np hpos pos:Pos} {sub:Str->Bool}
structure wu (K:PySem.W.Frag) (mg:Str->Option Value) (cx:Str) (sub:Str->Bool):Prop where
 ex:∃C,mg cx=some (.ref C)/\∀x cls,sub x=true->i6 K x cls->PySem.W.exmOne K cls (.ref C)=some true
theorem GD (i:Nat) (p:iU X) (hN:X.N.Nodup) (U:wu X.K X.mg cx sub) (hb:∀E pn,lb ly (X.inT E pn) body g) (hh:∀v,lb ly (X.inH v) (b₀::suite) gh) (hi:X.N[i]? =some n:=by rfl) (hk:X.env.scope.names.lookup n=some .local:=by rfl) (hg:Gl X cx:=by rfl)
  (hdb:(cx==("__debug__":Str))=false:=by decide) (hfr:k_ ly i:=by(repeat (first|assumption|exact L2.Pu.eL|refine L2.Pu.free_cons ⟨by first|decide|simp,by first|decide|simp⟩ ?_))):mJ ly X (.Try body [.ExceptHandler (some (.Name cx np)) (some n) (b₀::suite) hpos] [] [] pos) (Ak i sub g gh):=by
 obtain⟨Cc,hm,hsub⟩:=U.ex
 intro c pins s σ H D I q
 obtain⟨F,ρ,ri,w⟩:=q
 refine wpAny_Try_except ?_
 have ok:=I.ok
 let xe':Value->Shared->Prop:=fun e s₁=>wpAny (model X.prog X.w) X.A (noteFrame e X.env) (fun _ s₂=>wpAny (model X.prog X.w) X.A (setFlight e none) (fun _ s₃=>wpAny (model X.prog X.w) X.A (handleBy e X.env [.ExceptHandler (some (.Name cx np)) (some n) (b₀::suite) hpos]) (SP X pins D) X.xe s₃) X.xe s₂) X.xe s₁
 let c':d_ ly:=c.1.er F fun x ρ'=>aJ c.1 (wt i sub gh x ρ') (fJ X.K c.1 F D)
 have thr:Ez (X.inT xe' (X.pn++pins)) c':=by
  refine .inl ⟨⟨p.st,p.fr,p.ex⟩,fun pins' σ' ρ' H' F' s' a cls x I' ri' fl ec er=> ?_⟩
  obtain⟨C,rfl,hns⟩:=ec
  have ri0:RI X.K c.1 ρ' σ' H' F':=ri'.unEr ri.fm
  have sF:aY F F':=ri'.fm
  refine sU (Al ok I') p (II fl) fun h2 I2 f2=> ?_
  replace er:aJ c.1 (wt i sub gh x ρ') (fJ X.K c.1 F D):=er
  unfold wt at er
  split at er
  ·rename_i hs
   refine xD I2 p f2 hN hi hk hg hm (hsub x _ hs ⟨C,rfl,hns⟩) hdb fun s3 I3=> ?_
   have e2:=bZ.lay (o:= .ext (iV a (.ref C))) ri0.sub f2.new.no
   have ri3:=(ri0.step e2).setVal i hfr (et.exc az hns)
   split at er
   ·rename_i o ho
    let D2:kS:={nx:=fun σ1 H1=>D.nx (σ1.set i none) H1,rt:=D.rt,bk:=fun σ1 H1=>D.bk (σ1.set i none) H1,ct:=fun σ1 H1=>D.ct (σ1.set i none) H1}
    have want:fJ X.K (c.1.er F fun _ _=>False) (bK F' a (.ext (iV a (.ref C)))) D2 o:=by
     have sFF:=sF.trans e2.grow
     cases o with
     |nx ρ1=>exact fun σ1 H1 F1 s1 r1=>er _ H1 F1 (sFF.trans s1) ((r1.unEr ri.fm).setNone i hfr)
     |brk ρ1=>exact fun σ1 H1 F1 s1 r1=>er _ H1 F1 (sFF.trans s1) ((r1.unEr ri.fm).setNone i hfr)
     |cnt ρ1=>exact fun σ1 H1 F1 s1 r1=>er _ H1 F1 (sFF.trans s1) ((r1.unEr ri.fm).setNone i hfr)
     |ret d=>exact fun v H1 F1 s1 e1 r1=>er v H1 F1 (sFF.trans s1) e1 r1
     |retc d ρ1=>exact fun v σ1 H1 F1 s1 e1 r1=>er v _ H1 F1 (sFF.trans s1) ((e1.unEr ri.fm).setNone i (v:=none) hfr) r1
    have ri4:RI X.K (c.1.er F fun _ _=>False) (ρ'.set i (some (.val (.exc x)))) (σ'.set i (some (.ref a))) (bK H' a (.ext (iV a (.ref C)))) (bK F' a (.ext (iV a (.ref C)))):=⟨ri3.ext,ri3.val,ri3.own,ri3.bor,ri3.bh,ri3.dis,ri3.len,ri3.obj,ri3.odis,sF.trans e2.grow,ri3.cel,ri3.pin⟩
    refine cp (hh (.ref a) ⟨c.1.er F fun _ _=>False, .no fun _ _ z=>z⟩ pins s3 _ _ D2 I3 ⟨_,_,ri4,by rw[ho];exact want⟩) fun f s4 q4=> ?_
    have gone:∀{σ1 H1},aF (X.inH (.ref a)) pins σ1 H1 s4->(∀s5,aF X pins (σ1.set i none) H1 s5->SP X pins D f s5)->wpAny (model X.prog X.w) X.A (do bindName X.env n Value.none;unbindBehindTheSuite X.env n hpos) (fun _ s5=>SP X pins D f s5) X.xe s4:=fun I4 kk=>xB (I4.outH ok) hN hi hk kk
    cases f with
    |next=>obtain⟨σ1,H1,I4,q5⟩:=q4;exact gone I4 fun s5 I5=>⟨_,H1,I5,q5⟩
    |brk=>obtain⟨σ1,H1,I4,q5⟩:=q4;exact gone I4 fun s5 I5=>⟨_,H1,I5,q5⟩
    |cont=>obtain⟨σ1,H1,I4,q5⟩:=q4;exact gone I4 fun s5 I5=>⟨_,H1,I5,q5⟩
    |ret u=>obtain⟨v,σ1,H1,I4,r,q5⟩:=q4;exact gone I4 fun s5 I5=>⟨v,_,H1,I5,r,q5⟩
   ·exact er.elim
  ·exact er.elim
 have wb:aJ c' (g ρ) (fJ X.K c' F D):=by
  unfold Ak at w
  cases h:g ρ with
  |bad=>rw[h]at w;exact w
  |err x ρ'=>rw[h]at w;exact w
  |ok o=>rw[h]at w;exact fJ.er ri.fm w
 refine cp (hb xe' (X.pn++pins) ⟨c',thr⟩ [] s σ H D (inT I) ⟨F,ρ,ri.er,wb⟩) fun f s1 q1=> ?_
 have q2:=IJ ok q1
 cases f with
 |next=>exact wpAny_execs_nil q2
 |brk=>exact q2
 |cont=>exact q2
 |ret u=>exact q2
end
section
variable {X:Cx} {a:Expr} {fa:ai->R D} {x:Str} {p p2 pos:Pos} {tb:Str->Option Bool}
structure p8 (K:PySem.W.Frag) (v:Value) (tb:Str->Option Bool):Prop where
 ok:∀x b cls,tb x=some b->i6 K x cls->PySem.W.kitOne K cls v=some b/\∃C,cls= .ref C/\rJ K C
def pY (tb:Str->Option Bool) (f:ai->R D):ai->R D:=fun ρ=>f ρ>>=fun d=>match d with
 | .exc x=>R.of ((tb x).map .bl)
 |_=> .bad
def GF (K:PySem.W.Frag):List V->Hp->VK->Prop:=fun xs H Q=>∃a C v c b,xs=[.ref a,v]/\H a=some (.ext (iV a (.ref C)))/\rJ K C/\((∃T,v= .ty T/\c= .type T)\/∃C2,v= .ref C2/\c= .ref C2)/\PySem.W.kitOne K (.ref C) c=some b/\Q (.bl b) H
theorem tz:cT X (.builtin "isinstance") (GF X.K):=by
 intro pins s σ H xs us Q I rv h
 obtain⟨a,C,v,c,b,rfl,ea,k,hc,e,q⟩:=h
 obtain⟨u,w',rfl,ru,rw'⟩:=sH rv
 cases (show u=Value.ref a from ru)
 obtain⟨⟨o,g1,g2⟩,_⟩:=(show bS X.prog X.w H s.heap a (.ext (iV a (.ref C)))from I.hok a _ ea)
 have ew:w'=c:=by
  rcases hc with ⟨T,rfl,rfl⟩|⟨C2,rfl,rfl⟩
  ·exact rw'
  ·exact rw'
 subst ew
 exact PySem.W.kia_one (zv k) I.kIn ⟨o,g1,g2⟩ e (fun z=>nomatch z) fun tk=>⟨.bl b,H,I.tok tk,rfl,q⟩
theorem cG.exc {K:PySem.W.Frag} {H F:Hp} {v:V} {x:Str} (s:aY F H):cG K H F v (.exc x)->∃a C,v= .ref a/\H a=some (.ext (iV a (.ref C)))/\PySem.W.nsIn K mainGlobals x=some (some (.ref C)):=fun h=>by
 obtain⟨a,C,e,h,n⟩:=h.in rfl
 exact⟨a,C,e,s _ _ h,n⟩
theorem Am {K:PySem.W.Frag} {c:d_ ly} {tv:V} {cv:Value} {σ:St} {H:Hp} {Q:VK} (T:p8 K cv tb) (hv:(∃T,tv= .ty T/\cv= .type T)\/∃C2,tv= .ref C2/\cv= .ref C2) (h:tQ K c (pY tb fa) σ H Q):
  tB' K c fa σ H fun v H1=>GF K [v,tv] H1 Q:=by
 obtain⟨F,ρ,ri,w⟩:=h
 refine⟨F,ρ,ri,(aJ.bind.mp w).imp fun d _ w1 v H1 F1 e1 r1=> ?_⟩
 cases d with
 |exc x=>
  obtain⟨d',hd,k⟩:=w1.of
  cases ht:tb x with
  |none=>rw[ht]at hd;cases hd
  |some b=>
   rw[ht]at hd
   cases hd
   obtain⟨a,C,rfl,h1,h2⟩:=r1.exc e1.sub
   obtain⟨g1,C',g2,g3⟩:=T.ok x b (.ref C) ht ⟨C,rfl,h2⟩
   cases g2
   exact⟨a,C,tv,cv,b,rfl,h1,g3,hv,g1,k _ H1 F1 e1 (.bl b)⟩
 |_=>exact w1.elim
theorem GG {C2:Addr} (T:p8 X.K (.ref C2) tb) (hm:X.mg x=some (.ref C2)) (hm1:X.mg "isinstance"=none) (ha:PB ly X a fa) (hg1:Gl X "isinstance":=by rfl) (hg:Gl X x:=by rfl) (hdb:(x==("__debug__":Str))=false:=by decide)
  (he:starEach [a, .Name x p2] X.env=(false,eval a X.env)::starEach [.Name x p2] X.env:=by rfl) (he2:starEach [.Name x p2] X.env=(false,eval (.Name x p2) X.env)::starEach [] X.env:=by rfl) (hpl:(backTo pos (starEach [.Name x p2] X.env)).any (·.1)=false:=by rfl):
  PQ ly X (.Call (.Name "isinstance" p) [a, .Name x p2] [] pos) (pY tb fa):=fun c=>
 PE.weak (jI tz hg1 hm1 ou (dY (ha c) (dY (vK hg hm (v:= .ref C2) rfl hdb) iK he2) he) (by decide) (by decide) he hpl) fun σ H Q h=>Am T (.inr ⟨C2,rfl,rfl⟩) h
theorem EV {Ty:String} (T:p8 X.K (.type Ty) tb) (hv:bootBuiltins x=some (.type Ty)) (hm:X.mg x=none) (hm1:X.mg "isinstance"=none) (ha:PB ly X a fa) (hg1:Gl X "isinstance":=by rfl) (hg:Gl X x:=by rfl) (hn:x≠"__name__":=by decide) (hdb:(x==("__debug__":Str))=false:=by decide)
  (he:starEach [a, .Name x p2] X.env=(false,eval a X.env)::starEach [.Name x p2] X.env:=by rfl) (he2:starEach [.Name x p2] X.env=(false,eval (.Name x p2) X.env)::starEach [] X.env:=by rfl) (hpl:(backTo pos (starEach [.Name x p2] X.env)).any (·.1)=false:=by rfl):
  PQ ly X (.Call (.Name "isinstance" p) [a, .Name x p2] [] pos) (pY tb fa):=fun c=>
 PE.weak (jI tz hg1 hm1 ou (dY (ha c) (dY (vL (v:= .ty Ty) hg hm hv rfl hn hdb) iK he2) he) (by decide) (by decide) he hpl) fun σ H Q h=>Am T (.inl ⟨Ty,rfl,rfl⟩) h
end
end L2.Pu
namespace L2.Pu
open PySem PySem.Spec PyProof.Rows
variable {ly:List gA}
def pZ:D->Option Int
 | .tup (.int k::_)=>some k
 |_=>none
def eY (d:D):Int:=(pZ d).getD 0
def ef:List D->Option (List Int)
 |[]=>some []
 |d::r=>(pZ d).bind fun k=>(ef r).map (k::·)
def vf (d:D):List D->List D
 |[]=>[d]
 |e::r=>if eY d<=eY e then d::e::r else e::vf d r
def jw:List D->List D
 |[]=>[]
 |d::r=>vf d (jw r)
theorem mT (d:D):∀l:List D,(vf d l).Perm (d::l)
 |[]=> .refl _
 |e::r=>by
  unfold vf
  split
  ·exact .refl _
  ·exact((mT d r).cons e).trans (.swap d e r)
theorem p9:∀l:List D,(jw l).Perm l
 |[]=> .refl _
 |d::r=>(mT d _).trans ((p9 r).cons d)
theorem nr (d:D):∀{l:List D},l.Pairwise (fun a b=>eY a<=eY b)->(vf d l).Pairwise (fun a b=>eY a<=eY b)
 |[],_=>by simp[vf]
 |e::r,h=>by
  obtain⟨h1,h2⟩:=List.pairwise_cons.mp h
  unfold vf
  split
  ·rename_i hd
   refine List.pairwise_cons.mpr ⟨fun x hx=> ?_,h⟩
   rcases List.mem_cons.mp hx with rfl|hx
   ·exact hd
   ·exact Int.le_trans hd (h1 x hx)
  ·rename_i hd
   refine List.pairwise_cons.mpr ⟨fun x hx=> ?_,nr d h2⟩
   rcases List.mem_cons.mp ((mT d r).mem_iff.mp hx)with rfl|hx
   ·omega
   ·exact h1 x hx
theorem lU:∀l:List D,(jw l).Pairwise (fun a b=>eY a<=eY b)
 |[]=> .nil
 |d::r=>nr d (lU r)
theorem nu:∀{l m:List D},l.Perm m->l.Pairwise (fun a b=>eY a<eY b)->m.Pairwise (fun a b=>eY a<eY b)->l=m
 |[],m,p,_,_=>(List.Perm.nil_eq p)
 |a::l,[],p,_,_=>absurd p.length_eq (by simp)
 |a::l,b::m,p,h1,h2=>by
  obtain⟨g1,g2⟩:=List.pairwise_cons.mp h1
  obtain⟨k1,k2⟩:=List.pairwise_cons.mp h2
  have e:a=b:=by
   have ha:a∈b::m:=p.mem_iff.mp List.mem_cons_self
   have hb:b∈a::l:=p.mem_iff.mpr List.mem_cons_self
   rcases List.mem_cons.mp ha with z|ha
   ·exact z
   ·rcases List.mem_cons.mp hb with z|hb
    ·exact z.symm
    ·have:=g1 b hb
     have:=k1 a ha
     omega
  subst e
  rw[nu (p.cons_inv) g2 k2]
theorem xT {l:List D} (h:l.Pairwise (fun a b=>eY a<=eY b)) (nd:(l.map eY).Nodup):l.Pairwise (fun a b=>eY a<eY b):=by
 have:=List.pairwise_map.mp nd
 exact(h.and this).imp fun {x y} ⟨a,b⟩=>by omega
theorem pb {l m:List D} (p:l.Perm m) (h:m.Pairwise (fun a b=>eY a<eY b)):jw l=m:=by
 have q:=(p9 l).trans p
 refine nu q (xT (lU l) ?_) h
 refine(q.map eY).nodup_iff.mpr (List.pairwise_map.mpr (h.imp fun z=>Int.ne_of_lt z))
theorem nv:∀{ds:List D} {ks:List Int},ef ds=some ks->ks=ds.map eY
 |[],ks,h=>by cases h;rfl
 |d::r,ks,h=>by
  replace h:((pZ d).bind fun k=>(ef r).map (k::·))=some ks:=h
  cases e:pZ d with
  |none=>rw[e]at h;cases h
  |some k=>
   rw[e]at h
   cases e2:ef r with
   |none=>rw[e2]at h;cases h
   |some q=>
    rw[e2]at h
    cases h
    rw[List.map_cons,<-nv e2]
    simp[eY,e]
theorem rW {K:PySem.W.Frag} {H F:Hp} (s:aY F H):∀{ds:List D} {ks:List Int} {vs:List V},ef ds=some ks->Reps K F vs ds->jf H vs ks:=by
 intro ds
 induction ds with
 |nil=>intro ks vs h r;cases r.nilI;cases h;exact .nil
 |cons d r ih=>
  intro ks vs h rr
  replace h:((pZ d).bind fun k=>(ef r).map (k::·))=some ks:=h
  obtain⟨v0,us,rfl,rv,t⟩:=rr.consI
  obtain⟨k,ds,rfl⟩:∃k ds,d= .tup (.int k::ds):=by
   cases d with
   |tup xs=>
    cases xs with
    |nil=>cases h
    |cons x xs=>
     cases x with
     |int k=>exact⟨k,xs,rfl⟩
     |_=>cases h
   |_=>cases h
  obtain⟨a0,xs,rfl,h1,r2⟩:=rv.tupI
  obtain⟨k1,us1,rfl,rk,t1⟩:=r2.consI
  cases rk.intI
  ·cases e2:ef r with
   |none=>rw[e2]at h;cases h
   |some q=>
    rw[e2]at h
    cases h
    exact .cons (s _ _ h1) (ih e2 t)
theorem mU {K:PySem.W.Frag} {F:Hp} {vs:List V} {ds:List D} (h:Reps K F vs ds):∀q:List Nat,(∀i∈q,i<ds.length)->Reps K F (q.map fun i=>vs.getD i .non) (q.map fun i=>ds.getD i .non)
 |[],_=> .nil
 |i::q,hq=>by
  have hi:=hq i List.mem_cons_self
  obtain⟨v,h1,h2⟩:=h.get (i:=i) (d:=ds[i]) (List.getElem?_eq_getElem hi)
  refine .cons ?_ (mU h q fun j hj=>hq j (List.mem_cons_of_mem _ hj))
  show et K F (vs.getD i .non) (ds.getD i .non)
  rw[List.getD_eq_getElem?_getD,List.getD_eq_getElem?_getD,h1,List.getElem?_eq_getElem hi]
  exact h2
theorem nw {ds:List D} {q:List Nat} (p:jM (ds.map eY) q):(q.map fun i=>ds.getD i .non)=jw ds:=by
 obtain⟨p1,p2⟩:=p
 rw[List.length_map]at p1
 have hm:∀i∈q,i<ds.length:=fun i hi=>List.mem_range.mp (p1.mem_iff.mp hi)
 have perm:(q.map fun i=>ds.getD i .non).Perm ds:=by
  refine(p1.map fun i=>ds.getD i .non).trans ?_
  have e:(List.range ds.length).map (fun i=>ds.getD i .non)=ds:=by
   refine List.ext_getElem (by simp) fun i h1 h2=> ?_
   simp[h2]
  rw[e]
 symm
 refine pb perm.symm ?_
 rw[List.pairwise_map]at p2 ⊢
 refine p2.imp_of_mem fun {a b} ha hb z=> ?_
 have ea:(ds.map eY).getD a 0=eY (ds.getD a .non):=by simp[hm a ha]
 have eb:(ds.map eY).getD b 0=eY (ds.getD b .non):=by simp[hm b hb]
 rw[ea,eb]at z
 exact z
def lV:List D->Option D
 |[.lst ds]=>(ef ds).bind fun ks=>if ks.Nodup/\ks.length<64 then some (.lst (jw ds))else none
 |[.tup ds]=>(ef ds).bind fun ks=>if ks.Nodup/\ks.length<64 then some (.lst (jw ds))else none
 |_=>none
def lW:List V->Hp->VK->Prop:=fun xs H Q=>∃p ys ks,xs=[.ref p]/\(H p=some (.lst ys)\/H p=some (.tup ys))/\jf H ys ks/\ks.Nodup/\ks.length<64/\∀l q,H l=none->jM ks q->Q (.ref l) (bK H l (.lst (q.map fun i=>ys.getD i .non)))
theorem pc {K:PySem.W.Frag} {H F:Hp} {p:Addr} {ys:List V} {ds:List D} {d:D} {Q:VK} (s:aY F H) (hp:H p=some (.lst ys)\/H p=some (.tup ys)) (r:Reps K F ys ds) (h:((ef ds).bind fun ks=>if ks.Nodup/\ks.length<64 then some (D.lst (jw ds))else none)=some d)
  (k:∀w H' F',bZ H F H' F'->et K F' w d->Q w H'):lW [.ref p] H Q:=by
 cases e:ef ds with
 |none=>rw[e]at h;cases h
 |some ks=>
  rw[e]at h
  replace h:(if ks.Nodup/\ks.length<64 then some (D.lst (jw ds))else none)=some d:=h
  split at h
  ·rename_i hk
   cases h
   refine⟨p,ys,ks,rfl,hp,rW s e r,hk.1,hk.2,fun l q hl pl=> ?_⟩
   have ek:=nv e
   subst ek
   have e2:=bZ.lay (o:= .lst (q.map fun i=>ys.getD i .non)) s hl
   refine k _ _ _ e2 (.lst az ?_)
   rw[<-nw pl]
   refine(mU r q fun i hi=> ?_).mono e2.grow
   have:=List.mem_range.mp (pl.1.mem_iff.mp hi)
   simpa using this
  ·cases h
theorem tD {K:PySem.W.Frag}:l0 K lW lV:=by
 intro vs ds d H F Q s rv h k
 match ds,h with
 |[.lst xs],h=>
  obtain⟨v,rfl,r⟩:=rv.one
  obtain⟨a,ws,rfl,h1,h2⟩:=r.lst s
  exact pc s (.inl h1) h2 h k
 |[.tup xs],h=>
  obtain⟨v,rfl,r⟩:=rv.one
  obtain⟨a,ws,rfl,h1,h2⟩:=r.tup s
  exact pc s (.inr h1) h2 h k
def cA (ds:List D):Option D:=match fM ds with
 |some d=>some d
 |none=>lV ds
theorem hW {X:Cx} (hc:X.calm=true):cT X (.builtin "sorted") (fun xs H Q=>lR X.K xs H Q\/lW xs H Q):=(rR hc).or rG
theorem iE {K:PySem.W.Frag}:l0 K (fun xs H Q=>lR K xs H Q\/lW xs H Q) cA:=by
 intro vs ds d H F Q s rv h k
 unfold cA at h
 cases e:fM ds with
 |some d'=>rw[e]at h;cases h;exact .inl (tm vs ds d H F Q s rv e k)
 |none=>rw[e]at h;exact .inr (tD vs ds d H F Q s rv h k)
def tN (K:PySem.W.Frag) (c:d_ ly) (f:ai->R D):TE:=fun σ H Q=>∃F ρ,RI K c ρ σ H F/\aJ c (f ρ) fun d=>∀a o H' F',bZ H F H' F'->H a=none->H' a=some o->F' a=none->jO K F' o d->Q (.ref a) H'
def PN (ly:List gA) (X:Cx) (e:Expr) (f:ai->R D):Prop:=∀c:jQ ly X,PE X e (tN X.K c.1 f)
def DD (K:PySem.W.Frag) (r:R2) (g:D->D->Option D):Prop:=∀v u x y d H F Q,aY F H->cG K H F v x->cG K H F u y->g x y=some d->(∀a o,H a=none->jO K F o d->Q (.ref a) (bK H a o))->r v u H Q
def An (K:PySem.W.Frag) (r:List V->Hp->VK->Prop) (g:List D->Option D):Prop:=∀vs ds d H F Q,aY F H->jP K H F vs ds->g ds=some d->(∀a o,H a=none->jO K F o d->Q (.ref a) (bK H a o))->r vs H Q
section
variable {X:Cx} {a b e:Expr} {es:List Expr} {fa fb f:ai->R D} {fs:ai->R (List D)} {pos p:Pos} {x:Str} {id T:String} {rc:List V->Hp->VK->Prop}
theorem rX {K:PySem.W.Frag} {H F H1 F1:Hp} {d:D} {Q:VK} (e1:bZ H F H1 F1) (k:∀a o H' F',bZ H F H' F'->H a=none->H' a=some o->F' a=none->jO K F' o d->Q (.ref a) H'):∀a o,H1 a=none->jO K F1 o d->Q (.ref a) (bK H1 a o):=
 fun a o ha r=>k a o (bK H1 a o) F1 (e1.trans (bZ.layOwn e1.sub ha)) (e1.keep.free ha) az (e1.sub.free ha) r
theorem GH {op:Operator} {r:R2} {g:D->D->Option D} (ho:kh X (binaryOp op) r) (sem:DD X.K r g) (ha:PB ly X a fa) (hb:PB ly X b fb):PN ly X (.BinOp a op b pos) (f2 g fa fb):=fun c=>
 PE.weak (De ho (ha c) (hb c)) fun σ H Q ⟨F,ρ,ri,w⟩=>⟨F,ρ,ri,(aJ.bind.mp w).imp fun x hx w1 v H1 F1 e1 r1=>⟨F1,ρ,ri.step e1,(aJ.bind.mp w1).imp fun y hy w2 u H2 F2 e2 r2=>by
  obtain⟨d,hd,k⟩:=w2.of
  exact sem v u x y d H2 F2 Q (e1.trans e2).sub (r1.mono e2) r2 hd (rX (e1.trans e2) k)⟩⟩
theorem He {g:List D->Option D} (hc:cT X (.builtin id) rc) (sem:An X.K rc g) (hm:X.mg x=none) (hv:bootBuiltins x=some (.builtin id)) (ha:EA ly X (e::es) fs) (hg:Gl X x:=by rfl) (hn:x≠"__name__":=by decide) (hdb:(x==("__debug__":Str))=false:=by decide)
  (he:starEach (e::es) X.env=(false,eval e X.env)::starEach es X.env:=by rfl) (hpl:(backTo pos (starEach es X.env)).any (·.1)=false:=by rfl):PN ly X (.Call (.Name x p) (e::es) [] pos) (cU g fs):=fun c=>
 PE.weak (jI hc hg hm hv (ha c) hn hdb he hpl) fun σ H Q ⟨F,ρ,ri,w⟩=>⟨F,ρ,ri,(aJ.bind.mp w).imp fun ds hd w1 vs H1 F1 e1 r1=>by
  obtain⟨d,hd,k⟩:=w1.of
  exact sem vs ds d H1 F1 Q e1.sub r1 hd (rX e1 k)⟩
theorem Ao {g:List D->Option D} (hc:cT X (.type T) rc) (sem:An X.K rc g) (hm:X.mg x=none) (hv:bootBuiltins x=some (.type T)) (ha:EA ly X (e::es) fs) (hg:Gl X x:=by rfl) (hn:x≠"__name__":=by decide) (hdb:(x==("__debug__":Str))=false:=by decide)
  (he:starEach (e::es) X.env=(false,eval e X.env)::starEach es X.env:=by rfl) (hpl:(backTo pos (starEach es X.env)).any (·.1)=false:=by rfl):PN ly X (.Call (.Name x p) (e::es) [] pos) (cU g fs):=fun c=>
 PE.weak (ki hc hg hm hv (ha c) hn hdb he hpl) fun σ H Q ⟨F,ρ,ri,w⟩=>⟨F,ρ,ri,(aJ.bind.mp w).imp fun ds hd w1 vs H1 F1 e1 r1=>by
  obtain⟨d,hd,k⟩:=w1.of
  exact sem vs ds d H1 F1 Q e1.sub r1 hd (rX e1 k)⟩
def qG (i:Nat) (f:ai->R D):ai->R bG:=fun ρ=>f ρ>>=fun d=> .ok (.nx (ρ.set i (some (.own d))))
theorem Ap (i:Nat) {x:Str} {pos':Pos} (hN:X.N.Nodup) (h:PN ly X e f) (hi:X.N[i]? =some x:=by rfl) (hx:xc X.env.scope x:=by first|exact Or.inl rfl|exact Or.inr rfl) (hs:swapsWith e (some (.Name x pos')) pos.line X.env=pure false:=by rfl)
  (hf:X.fn x=true\/X.env.scope.names.lookup x=some .local:=by first|exact .inl rfl|exact .inr rfl|assumption) (hfr:k_ ly i:=by(repeat (first|assumption|exact L2.Pu.eL|refine L2.Pu.free_cons ⟨by first|decide|simp,by first|decide|simp⟩ ?_))):mJ ly X (.Assign [.Name x pos'] e pos) (qG i f):=fun c=>
 PS.weak (kT hN hi hx (h c) hs hf) fun D σ H ⟨F,ρ,ri,w⟩=>⟨F,ρ,ri,(aJ.bind.mp w).imp fun d _ w1 a o H1 F1 e1 n1 h1 f1 r1=>by
  refine w1 _ H1 F1 e1.grow ((ri.step e1).setOwn i hfr h1 f1 (ri.ext.keep.free n1) r1 (fun j d' _ hj ej=> ?_) (ri.celNe e1.keep n1))
  obtain⟨b,o',k1,k2,_⟩:=ri.own j d' hj
  rw[ej]at k1
  cases k1
  rw[n1]at k2
  cases k2⟩
end
section
variable {K:PySem.W.Frag}
def tE:D->D->Option D
 | .lst a, .int k=>if k.natAbs<=lim/\a.length*k.toNat<=lim then some (.lst (List.replicate k.toNat a).flatten)else none
 |_,_=>none
theorem Aq:DD K zN tE:=by
 intro v u x y d H F Q s rx ry h k
 unfold tE at h
 split at h
 ·rename_i a j
  split at h
  ·rename_i hl
   cases h
   cases ry.int
   obtain⟨p,vs,rfl,h1,h2⟩:=rx.lst s
   refine .inr ⟨p,j,vs,rfl,rfl,h1,by have:=eU hl.1;omega,by have:=eU hl.1;omega,Nat.le_trans (by rw[h2.length];exact hl.2) fY,fun l hl'=> ?_⟩
   exact k _ _ hl' (.lst (h2.rep _))
  ·cases h
 ·cases h
theorem xU:An K (fun xs H Q=>∃p ys ps,xs=[.ref p]/\(H p=some (.lst ys)\/H p=some (.tup ys))/\gz H ys ps/\∀l,H l=none->Q (.ref l) (bK H l (.dK (eE [] ps)))) jv:=by
 intro vs ds d H F Q s rv h k
 have fin:∀{xs:List D} {ws:List V} {a:Addr},Reps K F ws xs->(ig xs).map (fun ps=>D.dic (dG [] ps))=some d->(H a=some (.lst ws)\/H a=some (.tup ws))->
   ∃p ys ps,[V.ref a]=[V.ref p]/\(H p=some (.lst ys)\/H p=some (.tup ys))/\gz H ys ps/\∀l,H l=none->Q (.ref l) (bK H l (.dK (eE [] ps))):=by
  intro xs ws a h2 h h1
  cases e:ig xs with
  |none=>rw[e]at h;cases h
  |some ps=>
   rw[e]at h
   cases h
   obtain⟨kvs,g1,g2⟩:=qE s e h2
   refine⟨a,ws,kvs,rfl,h1,g1,fun l hl=> ?_⟩
   obtain⟨m1,m2⟩:=RepK.merge g2 .nil List.nodup_nil
   exact k _ _ hl (.dic m1 m2)
 match ds,h with
 |[.lst xs],h=>
  obtain⟨v,rfl,r⟩:=rv.one
  obtain⟨a,ws,rfl,h1,h2⟩:=r.lst s
  exact fin h2 h (.inl h1)
 |[.tup xs],h=>
  obtain⟨v,rfl,r⟩:=rv.one
  obtain⟨a,ws,rfl,h1,h2⟩:=r.tup s
  exact fin h2 h (.inr h1)
end
end L2.Pu
namespace L2.Pu
open PySem PySem.Spec PyProof.Rows
variable {ly:List gA}
structure li (K:PySem.W.Frag) (cls m qual:Str) (st:Stmt) (ps:List Str):Prop where
 ex:∃C f fd,yw K m qual st f fd/\oY K cls C/\xp K C m f/\g_ K fd ps []
structure vg (K:PySem.W.Frag) (mg:Str->Option Value) (cls qual:Str) (st:Stmt) (ps:List Str) (fs:List Str):Prop where
 ex:∃C f fd,yw K "__init__" qual st f fd/\oY K cls C/\mg cls=some (.ref C)/\Mk K C f/\g_ K fd ps []/\∀x∈fs,gW K C x
structure lX (K:PySem.W.Frag) (cls:Str) (fs:List Str):Prop where
 ex:∃C,oY K cls C/\∀x∈fs,gW K C x
section
variable {P:Program} {w:World} {K:PySem.W.Frag} {mg:Str->Option Value} {base:Heap}
theorem mV {cls mm qual:Str} {st:Stmt} {N ps:List Str} {k n m:Nat} {g:ai->R bG} (A:li K cls mm qual st ps) (S:aK N ps (ah st)) (hn:ps.length=n) (hm:N.length=m)
  (hbody:∀(f:Addr) (cdv:Value) (A:Around) (outer:List Env) (s:Shared) (H:Hp) (E:XK),dD k (A.deeper (envOfC qual (ah st) s.heap.objs.size f cdv))->
   lb [] (jH (nN P w) P w K mg base N qual (ah st) f cdv A outer s H E) (aI st) g):f_ P w K mg base (k+1) cls mm n (aW n m g):=by
 obtain⟨C,f,fd,F,h1,h2,h3⟩:=A.ex
 exact⟨C,f,fd,ps,EH F S hn hm fun cdv A outer s H E hr=>hbody f cdv A outer s H E hr,h1,h2,h3⟩
theorem xV {cls qual:Str} {st:Stmt} {N ps fs:List Str} {k n m:Nat} {fl:List (Str×Nat)} {g:ai->R bG} (A:vg K mg cls qual st ps fs) (S:aK N ps (ah st)) (hn:ps.length=n+1) (hm:N.length=m+1) (hg:∀p∈fl,n<p.2) (hnm:n<=m)
  (hbody:∀(C f:Addr) (cdv:Value) (A:Around) (outer:List Env) (s:Shared) (H:Hp) (E:XK),vQ K C->(∀x∈fs,gW K C x)->dD k (A.deeper (envOfC qual (ah st) s.heap.objs.size f cdv))->
   lb [⟨0,C,fl⟩] (jH (nN P w) P w K mg base N qual (ah st) f cdv A outer s H E) (aI st) g):p6 P w K mg base (k+1) cls n (lT n m fl g):=by
 obtain⟨C,f,fd,F,h1,h2,h3,h4,h5⟩:=A.ex
 exact⟨C,f,fd,ps,CB F S h1.ns hn hm hg hnm fun cdv A outer s H E hr=>hbody C f cdv A outer s H E h1.cl h5 hr,h2,h3,h4⟩
theorem rY {C:Addr} {fl:List (Str×Nat)} {f:Str} {i:Nat} (h1:(f,i)∈fl) (h2:∀p∈fl,p.1=f<->p.2=i) (h3:0≠i) (h4:fl.length<1000):DC [⟨0,C,fl⟩] ⟨0,C,fl⟩ f i:=
 ⟨List.mem_cons_self,h1,h2,h3,fun M hM hne=>absurd (List.mem_singleton.mp hM) hne,h4⟩
theorem wv {C:Addr} (e1:PySem.W.excIn K C rH "ValueError.__new__"=true) (e2:PySem.W.findIn K (.ref C) "__getattribute__"=some (some (.builtin "BaseException.__getattribute__"))) (e3:PySem.W.findIn K (.ref C) "__getattr__"=some none)
  (e4:PySem.W.findIn K (.ref C) "__class__"=some (some (.builtin "object.__class__"))) (e5:PySem.W.mroIn K C (.type "object")=some true) (e6:PySem.W.mroIn K C (.type "BaseException")=some true) (e7:PySem.W.kitCls K (.ref C) (.ref C)=some true)
  (e8:PySem.W.specialIn K (.builtin "object.__class__") "__get__"=some (some (.builtin "getset_descriptor.__get__"))) (e9:PySem.W.takesIn K (.builtin "object.__class__")=some true):rJ K C:=
 ⟨⟨_,_,_,_,e1,F.excBase_ValueError,by decide⟩,e2,e3,e4,e8,e9,e5,e6,e7⟩
theorem vh {D:Addr} {bmB:List Value} {nid:String} (e:PySem.W.excIn K D bmB nid=true):((PySem.W.clsIn K D).isSome&&PySem.W.typeIn K (.ref D)==some (.type "type"))=true:=by
 unfold PySem.W.excIn at e
 split at e
 ·rename_i lk
  unfold PySem.W.clsIn PySem.W.typeIn
  simp only[lk]
  rfl
 ·cases e
theorem ku {C D:Addr} {b:Bool} {bmB:List Value} {nid:String} (e:PySem.W.excIn K D bmB nid=true) (m:PySem.W.mroIn K C (.ref D)=some b):PySem.W.kitCls K (.ref C) (.ref D)=some b:=by
 unfold PySem.W.kitCls
 dsimp only
 rw[if_pos (vh e)]
 exact m
theorem dn {C D:Addr} {b:Bool} {bmB:List Value} {nid:String} (e:PySem.W.excIn K D bmB nid=true) (m:PySem.W.mroIn K C (.ref D)=some b) (s:PySem.W.mroIn K C (.ref C)=some true):PySem.W.kitOne K (.ref C) (.ref D)=some b:=by
 unfold PySem.W.kitOne
 split
 ·rename_i h
  have ez:Value.ref C=Value.ref D:=eq_of_beq h
  cases ez
  exact s.symm.trans m
 ·exact ku e m
theorem nO:PySem.W.kitMeta "ValueError"=true:=by unfold PySem.W.kitMeta;decide+kernel
theorem qH {C:Addr} {b:Bool} (m:PySem.W.mroIn K C (.type "ValueError")=some b):PySem.W.kitOne K (.ref C) (.type "ValueError")=some b:=by
 unfold PySem.W.kitOne
 rw[if_neg (by intro h;exact absurd (eq_of_beq h) (fun z=>by cases z))]
 unfold PySem.W.kitCls
 dsimp only
 rw[if_pos nO]
 exact m
theorem qI {C D:Addr} {b:Bool} {bmB:List Value} {nid:String} (e:PySem.W.excIn K D bmB nid=true) (m:PySem.W.mroIn K C (.ref D)=some b) (mb:PySem.W.mroIn K D (.type "BaseException")=some true):PySem.W.exmOne K (.ref C) (.ref D)=some b:=by
 unfold PySem.W.exmOne
 rw[if_pos (by show (PySem.W.mroIn K D (.type "BaseException")==some true)=true;rw[mb];rfl)]
 exact ku e m
def Ar (xs:List Str) (x:Str):Bool:=xs.contains x
theorem As {cx:Str} {C:Addr} {xs:List Str} (hm:mg cx=some (.ref C)) (h:∀x∈xs,∃Ce,PySem.W.nsIn K mainGlobals x=some (some (.ref Ce))/\PySem.W.exmOne K (.ref Ce) (.ref C)=some true):wu K mg cx (Ar xs):=by
 refine⟨C,hm,fun x cls hx ⟨C',e,hc⟩=> ?_⟩
 obtain⟨Ce,h1,h2⟩:=h x (by simpa[Ar]using hx)
 rw[hc]at h1
 cases h1
 rw[e]
 exact h2
def jl (l:List (Str×Bool)) (x:Str):Option Bool:=l.lookup x
theorem qJ {α:Type} {x:Str} {b:α}:∀{l:List (Str×α)},l.lookup x=some b->(x,b)∈l
 |(k,v)::r,h=>by
  rw[List.lookup_cons]at h
  cases e:x==k with
  |true=>rw[e]at h;cases h;cases eq_of_beq e;exact List.mem_cons_self
  |false=>rw[e]at h;exact List.mem_cons_of_mem _ (qJ h)
theorem j5 {v:Value} {l:List (Str×Bool)} (h:∀p∈l,∃Ce,PySem.W.nsIn K mainGlobals p.1=some (some (.ref Ce))/\PySem.W.kitOne K (.ref Ce) v=some p.2/\rJ K Ce):p8 K v (jl l):=by
 refine⟨fun x b cls hb ⟨C',e,hc⟩=> ?_⟩
 obtain⟨Ce,h1,h2,h3⟩:=h _ (qJ hb)
 rw[hc]at h1
 cases h1
 subst e
 exact⟨h2,C',rfl,h3⟩
structure pf (K:PySem.W.Frag) (mg:Str->Option Value) (x:Str) (tb:Str->Option Bool):Prop where
 ex:∃C,mg x=some (.ref C)/\p8 K (.ref C) tb
end
section
variable {X:Cx} {a e o:Expr} {es:List Expr} {fa f fo:ai->R D} {fs:ai->R (List D)} {cls fld x m:Str} {p p2 pos apos:Pos} {xs:List Str} {tb:Str->Option Bool}
theorem dI (T:lX X.K cls xs) (hf:fld∈xs) (ha:PB ly X a fa) (hb:attributeBase a fld X.env (eval a X.env)=eval a X.env:=by rfl):PQ ly X (.Attribute a fld pos) (d0 cls fld fa):=by
 obtain⟨C,h1,h2⟩:=T.ex
 exact GA h1 (h2 fld hf) ha hb
theorem ph (T:pf X.K X.mg x tb) (hm1:X.mg "isinstance"=none) (ha:PB ly X a fa) (hg1:Gl X "isinstance":=by rfl) (hg:Gl X x:=by rfl) (hdb:(x==("__debug__":Str))=false:=by decide)
  (he:starEach [a, .Name x p2] X.env=(false,eval a X.env)::starEach [.Name x p2] X.env:=by rfl) (he2:starEach [.Name x p2] X.env=(false,eval (.Name x p2) X.env)::starEach [] X.env:=by rfl) (hpl:(backTo pos (starEach [.Name x p2] X.env)).any (·.1)=false:=by rfl):
  PQ ly X (.Call (.Name "isinstance" p) [a, .Name x p2] [] pos) (pY tb fa):=by
 obtain⟨C,h1,h2⟩:=T.ex
 exact GG h2 h1 hm1 ha hg1 hg hdb he he2 hpl
def qK (f:ai->R D):ai->R bG:=fun ρ=>f ρ>>=fun _=> .ok (.nx ρ)
theorem EW (h:PQ ly X e f) (hsw:swapsWith e none pos.line X.env=pure false:=by rfl):mJ ly X (.Expr e pos) (qK f):=fun c=>
 PS.weak (r9 (h c) hsw) fun D σ H ⟨F,ρ,ri,w⟩=>⟨F,ρ,ri,(aJ.bind.mp w).imp fun d _ w1 v H1 F1 e1 r1=>w1 σ H1 F1 e1.grow (ri.step e1)⟩
end
theorem EX {P:Program} {w:World} {outer:List Env} {H:Hp} {s s':Shared} {e:Value} (h:nN P w outer H s (fun _ _ _=>False) e s'):False:=by
 obtain⟨_,_,_,_,_,_,_,_,_,z⟩:=h
 exact z
theorem nP:bootBuiltins "ValueError"=some (.type "ValueError"):=by decide+kernel
end L2.Pu
namespace L2.Pu
open PySem PySem.Spec PyProof.Rows
variable {ly:List gA}
theorem RI.up {K:PySem.W.Frag} {c:d_ ly} {ρ:ai} {σ:St} {H F H':Hp} (r:RI K c ρ σ H F) (e:aY H H'):RI K c ρ σ H' F:=r.step ⟨r.sub.trans e,e,aY.refl _,fun _ h=> .inl h⟩
def mW:D->Bool
 | .non=>true
 | .bl _=>true
 | .int _=>true
 | .str _=>true
 |_=>false
theorem Au {K:PySem.W.Frag} {F F':Hp} {v:V} {d:D} (h:mW d=true) (r:et K F v d):et K F' v d:=by
 cases r with
 |non=>exact .non
 |bl b=>exact .bl b
 |int i=>exact .int i
 |str x=>exact .str x
 |_=>cases h
theorem xW {K:PySem.W.Frag} {F F':Hp} {vs:List V} {ds:List D} (h:ds.all mW=true) (g:Reps K F vs ds):Reps K F' vs ds:=by
 induction ds generalizing vs with
 |nil=>rw[g.nilI];exact .nil
 |cons d ds ih=>
  obtain⟨w,us,e0,r,t⟩:=g.consI
  rw[List.all_cons,Bool.and_eq_true]at h
  rw[e0]
  exact .cons (Au h.1 r) (ih h.2 t)
section
variable {X:Cx} {e:Expr} {es:List Expr} {f:ai->R D} {g:ai->R Bool} {pos:Pos}
def Av (L:List Nat) (f:ai->R D) (n:Nat) (gs:List D->ai->R ai):ai->R bG:=fun ρ=>f (frz L ρ)>>=fun d=>match d with
 | .lst ds=>if ds.length=n/\ds.all mW=true then (gs ds ρ>>=fun ρ'=> .ok (.nx ρ'))else .bad
 | .tup ds=>if ds.length=n/\ds.all mW=true then (gs ds ρ>>=fun ρ'=> .ok (.nx ρ'))else .bad
 |_=> .bad
theorem EY (L:List Nat) {k n:Nat} {pt:Pos} {gs:List D->ai->R ai} (hc:X.calm=true) (he:PQ ly X e f) (h:zB ly X es gs) (hn:(assignEach es X.env).length=n:=by rfl) (hst:(assignEach es X.env).findIdx? (·.1)=none:=by rfl)
  (hs:swapsWithSole [.Tuple es k pt] e pos.line X.env=pure false:=by rfl) (hw:swappedStores [.Tuple es k pt] e X.env=pure none:=by rfl)
  (h1:(assignEach [.Tuple es k pt] X.env).map (·.2)=[assign (.Tuple es k pt) X.env]:=by rfl):mJ ly X (.Assign [.Tuple es k pt] e pos) (Av L f n gs):=fun c=>
 PS.weak (uu (he c) (PG.or (yI hc (h c) hn hst) (zr hc (h c) hn hst)) hs hw h1) fun D σ H ⟨F,ρ,ri,w⟩=>by
  obtain⟨F',s,ri'⟩:=ri.frz L
  refine⟨F',_,ri',(aJ.bind.mp w).imp fun d _ w1 v H1 F1 e1 r1=> ?_⟩
  have key:∀{ds:List L2.Pu.D} {vs:List V},Reps X.K F1 vs ds->aJ c.1 (if ds.length=n/\ds.all mW=true then (gs ds ρ>>=fun ρ'=>R.ok (bG.nx ρ'))else .bad) (fJ X.K c.1 F D)->
    vs.length=n/\Ig X.K c.1 gs vs σ H1 (fun σ' H'=>D.nx σ' H'):=by
   intro ds vs r2 w2
   split at w2
   ·rename_i hl
    refine⟨by rw[r2.length];exact hl.1,F,ρ,ds,ri.up e1.keep,xW hl.2 r2,(aJ.bind.mp w2).imp fun ρ' _ w3 σ' H' F2 s2 r'=>w3 σ' H' F2 s2 r'⟩
   ·exact w2.elim
  cases r1 with
  | @tup a vs ds g1 g2=>
   obtain⟨k1,k2⟩:=key g2 w1
   exact .inl ⟨a,vs,rfl,h_.of (e1.sub _ _ g1),k1,k2⟩
  | @lst a vs ds g1 g2=>
   obtain⟨k1,k2⟩:=key g2 w1
   exact .inr ⟨a,vs,rfl,eC.of (e1.sub _ _ g1),k1,k2⟩
  |_=>exact w1.elim
end
section
variable {X:Cx} {e:Expr} {f:ai->R D} {pos:Pos}
end
end L2.Pu
namespace L2
open PySem PySem.Spec PyProof.Rows
def tF:List V->List V->Bool
 |[],[]=>true
 |x::xs,y::ys=>yv x y&&tF xs ys
 |_,_=>false
theorem tH:∀{xs ys:List V},xs.length≠ys.length->tF xs ys=false
 |[],[],h=>absurd rfl h
 |[],_::_,_=>rfl
 |_::_,[],_=>rfl
 |x::xs,y::ys,h=>by
  rw[tF,tH (fun z=>h (by rw[List.length_cons,List.length_cons,z])),Bool.and_false]
theorem tJ:∀{xs ys:List V},xs.length=ys.length->(List.range xs.length).all (fun j=>yv (xs.getD j .non) (ys.getD j .non))=tF xs ys
 |[],[],_=>rfl
 |x::xs,y::ys,h=>by
  have h':xs.length=ys.length:=by simpa using h
  rw[List.length_cons,List.range_succ_eq_map,List.all_cons,List.all_map,tF,<-tJ h']
  rfl
def EZ (K:PySem.W.Frag):R2:=fun x y H Q=>∃p q xs ys,x= .ref p/\y= .ref q/\eC K H p xs/\eC K H q ys/\xs.all hE=true/\ys.all hE=true/\Q (.bl (tF xs ys)) H
theorem aS.getR {xs:List V} {us:List Value} (r:aS xs us):∀(j:Nat) (h:j<us.length),bx (xs.getD j .non) us[j]:=by
 induction r with
 |nil=>intro j h;cases h
 |cons r t ih=>
  intro j h
  cases j with
  |zero=>exact r
  |succ j=>exact ih j (by simpa using h)
theorem tK {xs:List V} (h:xs.all hE=true) (j:Nat):hE (xs.getD j .non)=true:=by
 rw[List.getD_eq_getElem?_getD]
 cases e:xs[j]? with
 |none=>rfl
 |some x=>exact List.all_eq_true.mp h x (List.mem_of_getElem? e)
theorem E_ {X:Cx} (hu:X.A.units+1<cLine):kh X (compareOp .Eq) (EZ X.K):=by
 intro pins s σ H x y v u Q I rx ry h
 obtain⟨p,q,xs,ys,rfl,rfl,h1,h2,f1,f2,k⟩:=h
 cases rx
 cases ry
 obtain⟨its,r,pl,hz⟩:=I.list h1
 obtain⟨its2,r2,pl2,hz2⟩:=I.list h2
 have l1:=r.length
 have l2:=r2.length
 by_cases hl:its.length=its2.length
 ·refine SeqAt.eq_listAt (e:=fun j=>yv (xs.getD j .non) (ys.getD j .non)) pl.isList pl2.isList (by simpa using hl) (by omega) (fun j a b=> ?_) ⟨.bl _,H,I,rfl,?_⟩
  ·have a':j<its.length:=by simpa using a
   have b':j<its2.length:=by simpa using b
   simpa using y_ (r.getR j a') (r2.getR j b') (tK f1 j) (tK f2 j)
  ·have hx:its.toArray.size=xs.length:=by simpa using l1.symm
   rw[hx,tJ (by omega)]
   exact k
 ·refine SeqAt.eq_list_lengthsAt pl.isList pl2.isList (by simpa using hl) (by omega) ⟨.bl false,H,I,rfl,?_⟩
  rw[tH (by omega)]at k
  exact k
section
variable {X:Cx} {tg:Expr}
end
end L2
namespace L2.Pu
open PySem PySem.Spec PyProof.Rows
variable {ly:List gA}
def CC:List D->List D->Bool
 |[],[]=>true
 |x::xs,y::ys=>Fw x y&&CC xs ys
 |_,_=>false
def Fa (x y:D):Option D:=match x,y with
 | .lst a, .lst b=>if a.all iY=true/\b.all iY=true then some (.bl (CC a b))else none
 |x,y=>kn x y
theorem Reps.eqs {K:PySem.W.Frag} {F:Hp}:∀{vs us:List V} {ds es:List D},Reps K F vs ds->Reps K F us es->ds.all iY=true->es.all iY=true->tF vs us=CC ds es
 |_,_,_,_, .nil, .nil,_,_=>rfl
 |_,_,_,_, .nil, .cons _ _,_,_=>rfl
 |_,_,_,_, .cons _ _, .nil,_,_=>rfl
 |_,_,_,_, .cons r t, .cons r' t',h,h'=>by
  rw[List.all_cons,Bool.and_eq_true]at h h'
  rw[tF,CC,zO r r' h.1 h'.1,Reps.eqs t t' h.2 h'.2]
theorem CD {K:PySem.W.Frag}:jB K (fun x y H Q=>GZ x y H Q\/EZ K x y H Q) Fa:=by
 intro v u x y d H F Q s rx ry h k
 unfold Fa at h
 split at h
 ·split at h
  ·rename_i a b hf
   cases h
   obtain⟨p,vs,rfl,h1,h2⟩:=rx.lst s
   obtain⟨q,us,rfl,h3,h4⟩:=ry.lst s
   refine .inr ⟨p,q,vs,us,rfl,rfl,eC.of h1,eC.of h3,h2.flat hf.1,h4.flat hf.2,?_⟩
   rw[Reps.eqs h2 h4 hf.1 hf.2]
   exact k _ H F (bZ.refl s) (.bl _)
  ·cases h
 ·exact .inl (cO v u x y d H F Q s rx ry h k)
theorem Fb {X:Cx} (hu:X.A.units+1<cLine):kh X (compareOp .Eq) (fun x y H Q=>GZ x y H Q\/EZ X.K x y H Q):=eK.or (E_ hu)
section
variable {X:Cx} {a b d:Expr} {fs:ai->R (List D)} {pos:Pos}
end
end L2.Pu
namespace L2
open PySem PySem.Spec PyProof.Rows
def GI (K:PySem.W.Frag):R2:=fun x y H Q=>∃p q xs,x= .ref p/\y= .ref q/\h_ K H p xs/\h_ K H q []/\Q (.bl (!xs.isEmpty)) H
theorem Fc {X:Cx} (hu:X.A.units+1<cLine):kh X (compareOp .NotEq) (GI X.K):=by
 intro pins s σ H x y v u Q I rx ry h
 obtain⟨p,q,xs,rfl,rfl,h1,h2,k⟩:=h
 cases rx
 cases ry
 obtain⟨its,r,pl,hz⟩:=I.tuple h1
 obtain⟨its2,r2,pl2,hz2⟩:=I.tuple h2
 cases r2
 refine SeqAt.RcNeAt.tuples (e:=fun _=>true) pl pl2 (by omega) (fun j a b=>by simp at b) X.prog X.w X.xe (EP X pins σ Q) ⟨.bl _,H,I,rfl,?_⟩
 have l:=r.length
 cases xs with
 |nil=>
  cases its with
  |nil=>exact k
  |cons a b=>cases l
 |cons a b=>
  cases its with
  |nil=>cases l
  |cons c d=>simpa using k
end L2
namespace L2.Pu
open PySem PySem.Spec PyProof.Rows
variable {ly:List gA}
def CF:D->D->Option D
 | .tup ds, .tup []=>some (.bl (!ds.isEmpty))
 |_,_=>none
theorem CG {K:PySem.W.Frag}:jB K (GI K) CF:=by
 intro v u x y d H F Q s rx ry h k
 unfold CF at h
 split at h
 ·rename_i ds
  cases h
  obtain⟨p,vs,rfl,h1,h2⟩:=rx.tup s
  obtain⟨q,us,rfl,h3,h4⟩:=ry.tup s
  cases h4
  refine⟨p,q,vs,rfl,rfl,h_.of h1,h_.of h3,?_⟩
  have l:=h2.length
  have e:vs.isEmpty=ds.isEmpty:=by
   cases vs<;>cases ds<;>first|rfl|cases l
  rw[e]
  exact k _ H F (bZ.refl s) (.bl _)
 ·cases h
end L2.Pu
namespace L2.Pu
section
variable {α:Type} {P:List α->Prop}
theorem IK (h:P []):∀us:List α,us.length=0->P us:=fun us e=>by
 rw[List.length_eq_zero_iff.mp e];exact h
theorem GJ {n:Nat} (h:∀a us,us.length=n->P (a::us)):∀us:List α,us.length=n+1->P us:=fun us e=>by
 cases us with
 |nil=>cases e
 |cons a us=>exact h a us (Nat.succ.inj e)
theorem Aw (h:∀a,P [a]):∀us:List α,us.length=1->P us:=GJ fun a=>IK (P:=fun us=>P (a::us)) (h a)
theorem ur (h:∀a b,P [a,b]):∀us:List α,us.length=2->P us:=GJ fun a=>Aw (P:=fun us=>P (a::us)) (h a)
theorem Fx (h:∀a b c,P [a,b,c]):∀us:List α,us.length=3->P us:=GJ fun a=>ur (P:=fun us=>P (a::us)) (h a)
theorem HW (h:∀a b c d,P [a,b,c,d]):∀us:List α,us.length=4->P us:=GJ fun a=>Fx (P:=fun us=>P (a::us)) (h a)
theorem Hf (h:∀a b c d e,P [a,b,c,d,e]):∀us:List α,us.length=5->P us:=GJ fun a=>HW (P:=fun us=>P (a::us)) (h a)
end
end L2.Pu
namespace L2
open PySem PySem.Spec PyProof.Rows
end L2
namespace L2.Pu
open PySem PySem.Spec PyProof.Rows
variable {ly:List gA}
end L2.Pu
namespace L2.Pu
open PySem PySem.Spec PyProof.Rows
variable {ly:List gA}
def Slot.kind:Slot->Nat
 | .own _=>1
 | .cel .. =>2
 |_=>0
inductive At (ρ:ai) (σ:St):List Nat->List Slot->List Addr->Prop
 |nil:At ρ σ [] [] []
 |cons {i:Nat} {s:Slot} {a:Addr} {is:List Nat} {ss:List Slot} {as:List Addr}:ρ[i]? =some (some s)->s.kind≠0->σ[i]? =some (some (.ref a))->At ρ σ is ss as->At ρ σ (i::is) (s::ss) (a::as)
theorem At.idx {ρ:ai} {σ:St} {is:List Nat} {ss:List Slot} {as:List Addr} (h:At ρ σ is ss as):∀{k i:Nat},is[k]? =some i->∃s a,ss[k]? =some s/\as[k]? =some a/\ρ[i]? =some (some s)/\s.kind≠0/\σ[i]? =some (some (.ref a)):=by
 induction h with
 |nil=>intro k i e;simp at e
 |cons h1 h2 h3 _ ih=>
  intro k i e
  cases k with
  |zero=>cases e;exact⟨_,_,rfl,rfl,h1,h2,h3⟩
  |succ k=>exact ih e
theorem At.lens {ρ:ai} {σ:St} {is:List Nat} {ss:List Slot} {as:List Addr} (h:At ρ σ is ss as):ss.length=is.length/\as.length=is.length:=by
 induction h with
 |nil=>exact⟨rfl,rfl⟩
 |cons _ _ _ _ ih=>exact⟨by simp[ih.1],by simp[ih.2]⟩
theorem At.get {ρ:ai} {σ:St} {is:List Nat} {ss:List Slot} {as:List Addr} (h:At ρ σ is ss as) {k:Nat} {s:Slot} (e:ss[k]? =some s):∃i a,is[k]? =some i/\as[k]? =some a/\ρ[i]? =some (some s)/\s.kind≠0/\σ[i]? =some (some (.ref a)):=by
 have hk:k<is.length:=by rw[<-h.lens.1];exact(List.getElem?_eq_some_iff.mp e).1
 obtain⟨s',a,h1,h2,h3⟩:=h.idx (k:=k) (i:=is[k]) (by simp[hk])
 rw[e]at h1
 cases h1
 exact⟨is[k],a,by simp[hk],h2,h3⟩
def GK (H:Hp) (ρ:ai) (σ:St) (i:Nat) (z:Addr):Prop:=
 (∃d,ρ[i]? =some (some (.own d))/\σ[i]? =some (some (.ref z)))\/∃x vds f hs a C dx fs,ρ[i]? =some (some (.cel x vds f hs))/\σ[i]? =some (some (.ref a))/\H a=some (.ins C dx fs)/\(z=a\/z=dx\/fs.lookup f=some (.ref z))
open Classical in
noncomputable def Ax (H:Hp) (ρ:ai) (σ:St) (is:List Nat):Hp:=fun z=>if ∃i∈is,GK H ρ σ i z then none else H z
theorem tL {H:Hp} {ρ:ai} {σ:St} {is:List Nat} {z:Addr} {i:Nat} (hi:i∈is) (h:GK H ρ σ i z):Ax H ρ σ is z=none:=if_pos ⟨i,hi,h⟩
theorem xX {H:Hp} {ρ:ai} {σ:St} {is:List Nat} {z:Addr} {u:HO} (h:Ax H ρ σ is z=some u):H z=some u:=by
 unfold Ax at h
 split at h
 ·cases h
 ·exact h
section
variable {K:PySem.W.Frag} {c:d_ ly} {ρ:ai} {σ:St} {H F:Hp} {i j:Nat} {z:Addr}
end
abbrev MC (Hz F:Hp):d_ []:=⟨Hz,F,fun _=>none,fun _ _=>False,fun _=>none,fun _=>none⟩
def IL (K:PySem.W.Frag) (Hz F:Hp) (ss:List Slot) (as:List Addr) (H' F':Hp):Prop:=RI K (MC Hz F) (ss.map some) (as.map fun a=>some (.ref a)) H' F'
theorem map_some {α β:Type} {l:List α} {g:α->β} {k:Nat} {b:β} (h:(l.map g)[k]? =some b):∃a,l[k]? =some a/\g a=b:=by
 rw[List.getElem?_map]at h
 cases e:l[k]? with
 |none=>rw[e]at h;cases h
 |some a=>rw[e]at h;exact⟨a,rfl,by simpa using h⟩
theorem CH {α β:Type} {l:List α} {g:α->β} {k:Nat} {a:α} (h:l[k]? =some a):(l.map g)[k]? =some (g a):=by rw[List.getElem?_map,h];rfl
theorem Ay {is:List Nat} (nd:is.Nodup) {k k' i:Nat} (h:is[k]? =some i) (h':is[k']? =some i):k=k':=by
 obtain⟨l,e⟩:=List.getElem?_eq_some_iff.mp h
 obtain⟨l',e'⟩:=List.getElem?_eq_some_iff.mp h'
 exact(List.getElem_inj nd).mp (e.trans e'.symm)
section
variable {K:PySem.W.Frag} {c:d_ ly} {ρ:ai} {σ:St} {H F H' F':Hp} {is:List Nat} {ss ss':List Slot} {as:List Addr}
theorem RI.split (r:RI K c ρ σ H F) (A:At ρ σ is ss as) (nd:is.Nodup):IL K (Ax H ρ σ is) F ss as H F:=by
 have got:∀{k:Nat} {s:Slot},(ss.map some)[k]? =some (some s)->∃i a,is[k]? =some i/\as[k]? =some a/\ρ[i]? =some (some s)/\s.kind≠0/\σ[i]? =some (some (.ref a)):=fun {k s} h=>by
  obtain⟨s',h1,h2⟩:=map_some h
  cases h2
  exact A.get h1
 have gota:∀{k:Nat} {a:Addr},as[k]? =some a->(as.map fun a=>some (V.ref a))[k]? =some (some (.ref a)):=fun h=>CH h
 have ung:∀{k:Nat} {a a':Addr},as[k]? =some a->(as.map fun a=>some (V.ref a))[k]? =some (some (.ref a'))->a=a':=fun {k a a'} h h'=>by
  rw[gota h]at h';cases h';rfl
 refine⟨⟨r.sub,fun z u e=>xX e,aY.refl _,fun _ h=> .inl h⟩,fun k d h=> ?_,fun k d h=> ?_,fun k d h=> ?_,(fun _ _ e=>by cases e),fun k k' d d' a h h' e e'=> ?_,?_,(fun L h=>by cases h),(fun L h=>by cases h),(fun _ _ e=>by cases e),⟨fun k x vds f hs h=> ?_,fun k k' x vds f hs s h h' hs'=> ?_⟩,(fun L h=>by cases h)⟩
 ·obtain⟨i,a,_,_,_,z,_⟩:=got h;exact absurd rfl z
 ·obtain⟨i,a,h1,h2,h3,h4,h5⟩:=got h
  obtain⟨p,u,k1,k2,k3,k4,k5⟩:=r.own i d h3
  rw[h5]at k1
  cases k1
  exact⟨a,u,gota h2,k2,k3,tL (List.mem_of_getElem? h1) (.inl ⟨d,h3,h5⟩),k5⟩
 ·obtain⟨i,a,_,_,_,z,_⟩:=got h;exact absurd rfl z
 ·obtain⟨i1,a1,h1,h2,h3,h4,h5⟩:=got h
  obtain⟨i2,a2,g1,g2,g3,g4,g5⟩:=got h'
  cases ung h2 e
  cases ung g2 e'
  cases r.dis i1 i2 d d' _ h3 g3 h5 g5
  exact Ay nd h1 g1
 ·simp only[List.length_map];rw[A.lens.1,A.lens.2]
 ·obtain⟨i,a,h1,h2,h3,h4,h5⟩:=got h
  obtain⟨a',dx,b,k1,k2,k3⟩:=r.cel.ex i x vds f hs h3
  rw[h5]at k1
  cases k1
  have k2':=k2
  obtain⟨C,fs,vs,us,g1,g2,g3,g4⟩:=k2.ex
  have o:∀z,(z=a\/z=dx\/fs.lookup f=some (.ref z))->Ax H ρ σ is z=none:=fun z hz=>tL (List.mem_of_getElem? h1) (.inr ⟨x,vds,f,hs,a,C,dx,fs,h3,h5,g1,hz⟩)
  refine⟨a,dx,b,gota h2,⟨k2.ex,k2.own,k2.fa,k2.fd,k2.fb,o a (.inl rfl),o dx (.inr (.inl rfl)),o b (.inr (.inr g3))⟩,fun k' d h' e=> ?_⟩
  obtain⟨i2,a2,m1,m2,m3,m4,m5⟩:=got h'
  cases ung m2 e
  exact k3 i2 d m3 m5
 ·obtain⟨i1,a1,h1,h2,h3,h4,h5⟩:=got h
  obtain⟨i2,a2,g1,g2,g3,g4,g5⟩:=got h'
  cases r.cel.one i1 i2 x vds f hs s h3 g3 hs'
  exact Ay nd h1 g1
end
end L2.Pu
namespace L2.Pu
open PySem PySem.Spec PyProof.Rows
variable {ly:List gA}
section
variable {P:Program} {w:World} {K:PySem.W.Frag} {mg:Str->Option Value} {base:Heap}
end
section
variable {X:Cx} {e:Expr} {es:List Expr} {fs:ai->R (List D)} {is:List Nat} {p pos apos:Pos} {x m:Str}
end
end L2.Pu
namespace L2.Pu
open PySem PySem.Spec PyProof.Rows
variable {ly:List gA}
def GL (g:Str) (d:D) (vds:List (Str×D)):List (Str×D):=vds.map fun p=>if p.1=g then (p.1,d)else p
section
variable {K:PySem.W.Frag} {c:d_ ly} {ρ:ai} {σ:St} {H F:Hp} {i:Nat} {z:Addr}
theorem RepF.put {vs:List (Str×V)} {vds:List (Str×D)} {g:Str} {v:V} {d:D} (h:RepF K F vs vds) (r:et K F v d):RepF K F (vs.map fun p=>if p.1=g then (p.1,v)else p) (GL g d vds):=by
 induction vds generalizing vs with
 |nil=>rw[h.nilI];exact .nil
 |cons p vds ih=>
  obtain⟨k,x⟩:=p
  obtain⟨u,us,rfl,h1,h2⟩:=h.consI
  have:=ih h2
  unfold GL at this ⊢
  rw[List.map_cons,List.map_cons]
  dsimp only
  by_cases e:k=g
  ·rw[if_pos e,if_pos e];exact .cons r this
  ·rw[if_neg e,if_neg e];exact .cons h1 this
end
section
variable {X:Cx} {a b e value:Expr} {es:List Expr} {fa fb f fv:ai->R D} {fs:ai->R (List D)} {pos px apos bpos cpos pos':Pos} {y g cls:Str} {xs:List Str}
variable {fx:ai->R (D×ai)}
end
end L2.Pu
namespace L2.Pu
open PySem PySem.Spec PyProof.Rows
variable {ly:List gA}
section
variable {K:PySem.W.Frag} {c:d_ ly} {ρ:ai} {σ:St} {H F H' F':Hp} {L:List Nat}
theorem RepF.snoc {vs:List (Str×V)} {vds:List (Str×D)} {f:Str} {v:V} {d:D} (h:RepF K F vs vds) (r:et K F v d):RepF K F (vs++[(f,v)]) (vds++[(f,d)]):=by
 induction vds generalizing vs with
 |nil=>rw[h.nilI];exact .cons r .nil
 |cons p vds ih=>
  obtain⟨k,x⟩:=p
  obtain⟨u,us,rfl,h1,h2⟩:=h.consI
  exact .cons h1 (ih h2)
end
section
variable {X:Cx} {e:Expr} {es:List Expr} {f:ai->R D} {g:ai->R Bool} {pos:Pos}
end
end L2.Pu
namespace L2.Pu
open PySem PySem.Spec PyProof.Rows
variable {ly:List gA}
section
variable {X:Cx} {pos pos' px pl:Pos} {f y g:Str}
end
section
variable {X:Cx} {e:Expr} {es:List Expr} {fs:ai->R (List D)} {cls:Str} {p pos spos pos':Pos}
end
end L2.Pu
namespace L2.Pu
open PySem PySem.Spec PyProof.Rows
variable {ly:List gA}
section
variable {K:PySem.W.Frag} {F:Hp}
end
section
variable {X:Cx} {a o e:Expr} {fa fo fk:ai->R D} {apos cpos pos pos2 p1 p2:Pos}
end
end L2.Pu
namespace L2
open PySem PySem.Spec PyProof.Rows
section
variable {X:Cx}
end
end L2
namespace L2.Pu
open PySem PySem.Spec PyProof.Rows
variable {ly:List gA}
section
variable {K:PySem.W.Frag} {F:Hp}
end
section
variable {X:Cx} {a b o e:Expr} {fa fb fo fk:ai->R D} {apos cpos pos:Pos}
end
end L2.Pu
namespace L2.Pu
open PySem PySem.Spec PyProof.Rows
variable {ly:List gA}
section
variable {X:Cx} {elt tg iter:Expr} {ifs:List Expr} {scope:Scope} {pos:Pos} {fi:ai->R (List D)} {g:D->ai->R ai} {gt:ai->R Bool} {fe:ai->R D}
end
end L2.Pu
namespace L2
open PySem PySem.Spec PyProof.Rows
section
variable {X:Cx} {pins:List (Addr×Obj)} {σ:St} {H:Hp} {s:Shared}
def CI:V->List V->Hp->VK->Prop:=fun x vs H Q=>∃d o kvs more,x= .ref d/\vs=[.ref o]/\H d=some (.dK kvs)/\H o=some (.dK more)/\d≠o/\kvs.length+more.length<=sizeLine/\Q .non (bK H d (.dK (eE kvs more)))
theorem xY:G_ X "dict.update" CI:=by
 intro pins s σ H x vs v us Q I rx rv h
 obtain⟨d,o,kvs,more,rfl,rfl,h1,h2,ne,hz,q⟩:=h
 cases rx
 obtain⟨u,rfl,ru⟩:=rv.one
 cases ru
 obtain⟨z,hd,ws,rel,dd⟩:=oi I.hok h1
 obtain⟨z2,hd2,ws2,rel2,dd2⟩:=oi I.hok h2
 refine call_meetsIn PySem.F.slot_dict_update dd.typeIs PySem.F.entry_dict_update (PySem.F.args_dict_update_2 _ _) (meets_dict_update (bg X.prog X.w) d o ne hd2) ⟨ws,ws2,dd,dd2,by rw[<-rel.length,<-rel2.length];exact hz,fun h' dd' _ hs=> ?_⟩
 have he:∃q,h'.get? d=some q:=let ⟨q,_,_,hq,_⟩:=dd';⟨q,hq⟩
 exact⟨.non,_,nW (t':=s.toks) I (by rw[h1];exact True.intro) hs he (rm (Nat.le_trans (iL more kvs) hz) hd (KV.merge rel2 rel) dd'),rfl,q⟩
end
end L2
namespace L2.Pu
open PySem PySem.Spec PyProof.Rows
variable {ly:List gA}
def IM:List D->Option D
 |[.int i]=>some (.int (if i<0 then -i else i))
 |_=>none
section
variable {X:Cx} {a b e:Expr} {f fk fv:ai->R D} {pos:Pos}
def Az (i:Nat) (f:ai->R D):ai->R bG:=fun ρ=>match ρ[i]? with
 |some (some (.own (.dic kds)))=>f ρ>>=fun d=>match d with
  | .dic more=>if kds.length+more.length<lim then .ok (.nx (ρ.set i (some (.own (.dic (dG kds more))))))else .bad
  |_=> .bad
 |_=> .bad
theorem AA (i:Nat) {x:Str} {px apos cpos:Pos} (h:PQ ly X e f) (hN:X.N[i]? =some x:=by rfl) (hv:uo X.env.scope x:=by first|exact Or.inl rfl|exact Or.inr (Or.inl rfl)|exact Or.inr (Or.inr rfl)) (hd:(x==("__debug__":Str))=false:=by decide)
  (hcd:(x==("__classdict__":Str))=false:=by decide) (hbase:attributeBase (.Name x px) "update" X.env (eval (.Name x px) X.env)=eval (.Name x px) X.env:=by rfl)
  (hfew:((backTo cpos (starEach [e] X.env)).all (fun x=> !x.1)&&(backToKw cpos (keywordEach [] X.env)).all (fun x=>x.1.isSome)
   &&decide (([e]:List Expr).length+([]:List Keyword).length+(if ([]:List Keyword).isEmpty then 0 else 1)<30))=true:=by rfl)
  (hline:(apos.endLine==cpos.line)=true:=by rfl) (hs:starEach [e] X.env=(false,eval e X.env)::starEach [] X.env:=by rfl) (hplain:(backTo cpos (starEach [] X.env)).any (·.1)=false:=by rfl)
  (hsw:swapsWith (.Call (.Attribute (.Name x px) "update" apos) [e] [] cpos) none pos.line X.env=pure false:=by rfl):mJ ly X (.Expr (.Call (.Attribute (.Name x px) "update" apos) [e] [] cpos) pos) (Az i f):=fun c=>
 PS.weak (r9 (zf PySem.F.plainAttrs_dict PySem.F.slot_dict_update PySem.F.type_dict_update xY (pv i hN hv hd hcd) (dY (h c) iK hs) hbase hfew hline hs hplain) hsw) fun D σ H ⟨F,ρ,ri,w⟩=>by
  unfold Az at w
  split at w
  ·rename_i kds hi
   obtain⟨p,vs,h1,h2,h3,h4⟩:=ri.ownD hi
   refine⟨_,h1, .inr (.inr (.inl ⟨rfl, .inl ⟨vs,h2⟩⟩)),F,ρ,ri,(aJ.bind.mp w).imp fun d _ w1 v H1 F1 e1 r1=> ?_⟩
   cases d with
   |dic more=>
    obtain⟨q,us,rfl,g1,g2,g3⟩:=cG.dic e1.sub (.inl r1)
    dsimp only at w1
    split at w1
    ·rename_i hl
     have fq:F1 q≠none:=by
      obtain⟨q',us',e',g1',_⟩:=r1.inv
      cases e'
      rw[g1'];simp
     have ne:p≠q:=fun z=>by
      obtain⟨p',o',k1,k2,k3,k4,k5⟩:=(ri.step e1).own i _ hi
      rw[h1]at k1
      cases k1
      exact fq (z▸k3)
     refine⟨p,q,vs,us,rfl,rfl,e1.keep _ _ h2,g1,ne,Nat.le_trans (Nat.le_of_lt (by rw[h3.length,g2.length];exact hl)) fY,?_⟩
     obtain⟨m1,m2⟩:=RepK.merge g2 (h3.mono e1.grow) h4
     exact w1 σ _ F1 e1.grow ((ri.step e1).change (o:= .dK vs) hi h1 (.dic m1 m2))
    ·exact w1.elim
   |_=>exact w1.elim
  ·exact w.elim
def ww (i:Nat) (fk fv:ai->R D):ai->R bG:=fun ρ=>match ρ[i]? with
 |some (some (.own (.dic kds)))=>fk ρ>>=fun k=>match cF k with
  |some key=>(match bV kds key with
   |some (.int a)=>fv ρ>>=fun v=>match v with
    | .int b=>if kds.length<lim then .ok (.nx (ρ.set i (some (.own (.dic (ji kds key (.int (a+b))))))))else .bad
    |_=> .bad
   |_=> .bad)
  |none=> .bad
 |_=> .bad
theorem Fd (i:Nat) {x:Str} {px tpos:Pos} (hu:X.A.units+1<cLine) (hk:PQ ly X a fk) (h:PQ ly X e fv) (hN:X.N[i]? =some x:=by rfl) (hv:uo X.env.scope x:=by first|exact Or.inl rfl|exact Or.inr (Or.inl rfl)|exact Or.inr (Or.inr rfl)) (hd:(x==("__debug__":Str))=false:=by decide)
  (hcd:(x==("__classdict__":Str))=false:=by decide)
  (ha:∀ov iv new,augStore a ov iv new=(do holding [new,ov,iv] (setItem ov iv new);release [new,ov,iv] [];pure .next):=by intros;rfl):mJ ly X (.AugAssign (.Subscript (.Name x px) a tpos) .Add e pos) (ww i fk fv):=by
 intro c pins s σ H D I q
 obtain⟨F,ρ,ri,w⟩:=q
 unfold ww at w
 split at w
 ·rename_i kds hi
  obtain⟨p,vs,g1,g2,g3,g4⟩:=ri.ownD hi
  refine BV hu (pv i hN hv hd hcd) (hk c) (h c) E9 ha pins s σ H D I ⟨_,g1,F,ρ,ri,(aJ.bind.mp w).imp fun k _ w1 u H1 F1 e1 r1=> ?_⟩
  cases hk':cF k with
  |none=>rw[hk']at w1;exact w1.elim
  |some key=>
   rw[hk']at w1
   cases fz (H:=H1) hk' (.inl r1)
   dsimp only at w1
   rcases g3.get key with ⟨z1,z2⟩|⟨v',d',z1,z2,z3⟩
   ·rw[z2]at w1;exact w1.elim
   ·rw[z2]at w1
    cases d' with
    |int n=>
     cases z3
     dsimp only at w1
     refine⟨p, .int n,rfl,by rw[<-z1];exact je.k (k:=key) (e1.keep _ _ g2),F1,ρ,ri.step e1,(aJ.bind.mp w1).imp fun d _ w2 v H2 F2 e2 r2=> ?_⟩
     cases d with
     |int m=>
      cases r2
      dsimp only at w2
      split at w2
      ·rename_i hl
       have e12:=e1.trans e2
       refine⟨n,m,rfl,rfl,_,rj.k (k:=key) (e12.keep _ _ g2) (Nat.lt_of_lt_of_le (by rw[g3.length];exact hl) fY),?_⟩
       exact w2 σ _ F2 e12.grow ((ri.step e12).change (o:= .dK vs) hi g1 (.dic ((g3.mono e12.grow).put key (.int _)) (uX _ g4)))
      ·exact w2.elim
     |_=>exact w2.elim
    |_=>exact w1.elim
 ·exact w.elim
end
end L2.Pu
namespace L2
open PySem PySem.Spec PyProof.Rows
section
variable {X:Cx} {pins:List (Addr×Obj)} {σ:St} {H:Hp} {s:Shared} {h':Heap}
theorem aF.laidAll {H':Hp} {t':Nat} (I:aF X pins σ H s) (k:∀b u,s.heap.get? b=some u->h'.get? b=some u) (hS:∀b u,H b=some u->H' b=some u) (hN:∀b u,s.heap.get? b=some u->H' b=H b)
  (new:∀b u,H' b=some u->H b=none->bS X.prog X.w H' h' b u):aF X pins σ H' {s with heap:=h',toks:=t'}:=by
 refine I.un ⟨fun b u q _ _ _=>k b u q,fun b u q _ _ _=>⟨u.slots,k b u q⟩,fun b u q n _=>by rw[hN b u q];exact n,fun b u q _=>⟨u,k b u q⟩,fun b xs q=>hS b _ q,fun b u xs q=>hS b _ q,fun b ps q=>⟨#[],by rw[hS b _ q];simp⟩⟩ fun b u e=> ?_
 cases hb:H b with
 |none=>exact new b u e hb
 |some v=>
  have:=hS b v hb
  rw[e]at this
  cases this
  exact(I.hok b u hb).stay (fun c v _ q=>k c v q) (fun c q=>hS c _ q) fun c xs q=>hS c _ q
structure DE (H1 H2:Hp) (kvs:List (a_×V)) (as:List Addr) (l:Addr) (q:List Nat):Prop where
 len:as.length=kvs.length
 sub:∀b u,H1 b=some u->H2 b=some u
 new:∀b,H2 b≠none->H1 b≠none\/b=l\/b∈as
 tup:∀(j:Nat) (a:Addr),as[j]? =some a->H1 a=none/\∃k v,kvs[j]? =some (Sum.inl k,v)/\H2 a=some (.tup [.int k,v])
 no:H1 l=none
 lst:H2 l=some (.lst (q.map fun i=>(as.map V.ref).getD i .non))
def CJ (te:TE):TE:=fun σ H Q=>te σ H fun x H1=>∃d kvs ks,x= .ref d/\H1 d=some (.dK kvs)/\kvs.map (·.1)=ks.map Sum.inl/\ks.Nodup/\ks.length<64/\
 ∀as l q H2,jM ks q->DE H1 H2 kvs as l q->Q (.ref l) H2
theorem vi {kvs:List (a_×V)} {vs:List (a_×Value)} {ks:List Int} (rel:KV kvs vs) (hk:kvs.map (·.1)=ks.map Sum.inl) {j:Nat} {k:a_} {x:Value} (e:vs[j]? =some (k,x)):∃v,kvs[j]? =some (k,v)/\bx v x/\k=Sum.inl (ks.getD j 0):=by
 have hj:j<vs.length:=(List.getElem?_eq_some_iff.mp e).1
 have hl:=rel.length
 have hkl:kvs.length=ks.length:=by have:=congrArg List.length hk;simpa using this
 have key:∀{kvs:List (a_×V)} {vs:List (a_×Value)},Paired (fun (p:a_×V) (q:a_×Value)=>p.1=q.1/\bx p.2 q.2) kvs vs->∀(j:Nat) (k:a_) (x:Value),vs[j]? =some (k,x)->∃v,kvs[j]? =some (k,v)/\bx v x:=by
  intro kvs vs r
  induction r with
  |nil=>intro j k x e;simp at e
  | @cons p r _ _ h t ih=>
   intro j k x e
   cases j with
   |zero=>
    have e':r=(k,x):=by simpa using e
    subst e'
    obtain⟨k1,v1⟩:=p
    obtain⟨h1,h2⟩:=h
    simp only at h1 h2
    subst h1
    exact⟨v1,rfl,h2⟩
   |succ j=>exact ih j k x (by simpa using e)
 obtain⟨v,e1,e2⟩:=key rel j k x e
 refine⟨v,e1,e2,?_⟩
 have:(kvs.map (·.1))[j]? =some k:=by rw[List.getElem?_map,e1];rfl
 rw[hk,List.getElem?_map]at this
 have hjk:j<ks.length:=by omega
 rw[List.getElem?_eq_getElem hjk]at this
 simp at this
 rw[<-this]
 simp[hjk]
theorem xZ {as:List Addr} {os:List HO} (nd:as.Nodup) (hl:as.length=os.length) {j:Nat} {a:Addr} {o:HO} (ha:as[j]? =some a) (ho:os[j]? =some o):(as.zip os).lookup a=some o:=by
 induction as generalizing os j with
 |nil=>simp at ha
 |cons b as ih=>
  cases os with
  |nil=>simp at hl
  |cons p os=>
   rw[List.zip_cons_cons,List.lookup_cons]
   cases j with
   |zero=>simp at ha ho;subst ha ho;simp
   |succ j=>
    have ha':as[j]? =some a:=by simpa using ha
    have ho':os[j]? =some o:=by simpa using ho
    have hne:(a==b)=false:=by
     rw[beq_eq_false_iff_ne]
     intro z
     subst z
     exact(List.nodup_cons.mp nd).1 (List.mem_of_getElem? ha')
    rw[hne]
    exact ih (List.nodup_cons.mp nd).2 (by simpa using hl) ha' ho'
theorem p_ {as:List Addr} {os:List HO} {a:Addr} {o:HO} (h:(as.zip os).lookup a=some o):∃j:Nat,as[j]? =some a/\os[j]? =some o:=by
 induction as generalizing os with
 |nil=>simp at h
 |cons b as ih=>
  cases os with
  |nil=>simp at h
  |cons p os=>
   rw[List.zip_cons_cons,List.lookup_cons]at h
   cases e:a==b with
   |true=>
    rw[e]at h
    have:=eq_of_beq e
    subst this
    cases h
    exact⟨0,by simp,by simp⟩
   |false=>
    rw[e]at h
    obtain⟨j,h1,h2⟩:=ih h
    exact⟨j+1,by simpa using h1,by simpa using h2⟩
set_option maxHeartbeats 8000000 in
theorem tM {d D:Addr} {kvs:List (a_×V)} {ks:List Int} {Q:VK} (hc:X.calm=true) (I:aF X pins σ H s) (hd:H d=some (.dK kvs)) (hk:kvs.map (·.1)=ks.map Sum.inl) (nd:ks.Nodup) (h64:ks.length<64) (hv:s.heap.IsItemsView D d)
  (q:∀as l q H2,jM ks q->DE H H2 kvs as l q->Q (.ref l) H2):wpAny (model X.prog X.w) X.A (call (.builtin "sorted") [.ref D]) (EP X pins σ Q) X.xe s:=by
 obtain⟨z,hsy,vs,rel,dd⟩:=oi I.hok hd
 obtain⟨ep,dat⟩:=dd.dictAt
 have hkl:kvs.length=ks.length:=by have:=congrArg List.length hk;simpa using this
 have hvl:=rel.length
 refine Calls.call_function_entry kind_sorted plain_sorted entry_sorted (args_sorted1 _) ?_
 unfold Builtin.«sorted»
 refine wpAny_bind (m:=checkCount "sorted" 1 1 _) (wpAny_pure ?_)
 refine wpAny_bind (PySem.W.kdx_collect (A:=X.A.in1) (knd:=bg X.prog X.w) (kvs:=vs) (ep:=ep) (by simp[I.ok.hd hc]) hv dat (by rw[sizeLine_eq];omega) fun h' tk as hk' hl' hG=> ?_)
 refine wpAny_bind (wpAny_newList ?_ (by rw[List.length_map,sizeLine_eq];omega))
 have hoL:(h'.push (seqObj "list" (as.map Value.ref).toArray 0)).get? h'.objs.size=some (seqObj "list" (as.map Value.ref).toArray 0):=Heap.get?_push_size _ rfl
 have fst:∀(i:Nat) v,(as.map Value.ref)[i]? =some v->kY (h'.push (seqObj "list" (as.map Value.ref).toArray 0)) v (ks.getD i 0):=fun i v e=>by
  rw[List.getElem?_map]at e
  cases ea:as[i]? with
  |none=>rw[ea]at e;cases e
  |some a=>
   rw[ea]at e
   cases e
   obtain⟨key,k,x,e1,e2,e3⟩:=hG.pairs i a ea
   obtain⟨_,_,_,rfl⟩:=vi rel hk e1
   rcases b_ (k:=Sum.inl (ks.getD i 0)) (v:=key) e2 with ⟨n,t,e4,rfl⟩|⟨n,t,e4,_⟩
   ·cases e4
    exact⟨a,_,t,[x],0,rfl,Heap.get?_push_of_some _ e3,rfl,rfl⟩
   ·cases e4
 refine wpAny_bind (wpAny_holding (wpAny_call_entry slot_list_sort ⟨_,hoL,rfl⟩ entry_list_sort (jN hoL (by rw[List.length_map];omega) fst nd (by rw[List.length_map];omega) fun p hp=>⟨_,rfl,?_⟩) (args_list_sort _)))
 refine wpAny_pure ⟨_,rfl,?_⟩
 obtain⟨e,he⟩:=sortedHeap_at (out:=List.toArray (p.map fun i=>(as.map Value.ref).getD i Value.none)) hoL
 have old:∀b o,h'.get? b=some o->(sortedHeap (h'.push (seqObj "list" (as.map Value.ref).toArray 0)) h'.objs.size (as.map Value.ref) (List.toArray (p.map fun i=>(as.map Value.ref).getD i Value.none))).get? b=some o:=fun b o eb=>by
  have hlt:b<h'.objs.size:=Heap.lt_size eb
  rw[sortedHeap_old (Nat.ne_of_lt hlt) (by rw[size_push'];exact Nat.lt_succ_of_lt hlt)]
  exact Heap.get?_push_of_some _ eb
 have ndA:as.Nodup:=hG.rise.imp fun h=>Nat.ne_of_lt h
 have fresh:∀b,s.heap.objs.size<=b->s.heap.get? b=none:=fun b hb=>Heap.get?_none_of_le hb
 have frA:∀a∈as,s.heap.get? a=none:=fun a ha=>fresh a (Nat.le_of_lt (hG.above a ha))
 have frL:s.heap.get? h'.objs.size=none:=by
  cases e:s.heap.get? h'.objs.size with
  |none=>rfl
  |some o=>exact absurd (Heap.lt_size (hk' _ _ e)) (Nat.lt_irrefl _)
 have lnA:h'.objs.size∉as:=fun z=>Nat.lt_irrefl _ (hG.there z)
 let os:List HO:=kvs.map fun kv=>HO.tup [kV kv.1,kv.2]
 have hos:as.length=os.length:=by show _=(kvs.map _).length;rw[List.length_map];omega
 let H2:Hp:=fun b=>if b=h'.objs.size then some (.lst (p.map fun i=>(as.map V.ref).getD i .non))else match (as.zip os).lookup b with
  |some o=>some o
  |none=>H b
 have h2L:H2 h'.objs.size=some (.lst (p.map fun i=>(as.map V.ref).getD i .non)):=if_pos rfl
 have h2A:∀(j:Nat) (a:Addr),as[j]? =some a->∃k v,kvs[j]? =some (Sum.inl k,v)/\H2 a=some (.tup [.int k,v]):=fun j a ea=>by
  obtain⟨key,k,x,e1,e2,e3⟩:=hG.pairs j a ea
  obtain⟨v,e4,e5,rfl⟩:=vi rel hk e1
  refine⟨_,v,e4,?_⟩
  have ho:os[j]? =some (HO.tup [.int (ks.getD j 0),v]):=by
   show (kvs.map _)[j]? =_
   rw[List.getElem?_map,e4];rfl
  show (if a=h'.objs.size then _ else _)=_
  have na:a≠h'.objs.size:=fun z=>by
   have hm:=List.mem_of_getElem? ea
   rw[z]at hm
   exact lnA hm
  rw[if_neg na,xZ ndA hos ea ho]
 have h2N:∀b,b≠h'.objs.size->b∉as->H2 b=H b:=fun b n1 n2=>by
  show (if b=h'.objs.size then _ else _)=_
  rw[if_neg n1]
  cases e:(as.zip os).lookup b with
  |none=>rfl
  |some o=>
   obtain⟨j,h1,_⟩:=p_ e
   exact absurd (List.mem_of_getElem? h1) n2
 have hin:∀b u,s.heap.get? b=some u->H2 b=H b:=fun b u eb=>h2N b (fun z=>by rw[z,frL]at eb;cases eb) (fun z=>by rw[frA b z]at eb;cases eb)
 have hS:∀b u,H b=some u->H2 b=some u:=fun b u eb=>by
  obtain⟨ob,e⟩:=(I.hok b u eb).there
  rw[hin b ob e];exact eb
 have hpl:∀i∈p,i<as.length:=fun i hi=>by
  have:=List.mem_range.mp (hp.1.mem_iff.mp hi)
  omega
 have hplen:p.length=ks.length:=by have:=hp.1.length_eq;rw[List.length_range]at this;exact this
 have refs:∀as:List Addr,aS (as.map V.ref) (as.map Value.ref):=fun as=>by
  induction as with
  |nil=>exact .nil
  |cons a as ih=>exact .cons rfl ih
 refine⟨.ref h'.objs.size,H2,I.laidAll (fun b u eb=>old b u (hk' b u eb)) hS hin (fun b u eb nb=> ?_),rfl,q as h'.objs.size p H2 hp ⟨by omega,hS,fun b hb=> ?_,fun j a ea=>⟨I.hok.none_of (frA a (List.mem_of_getElem? ea)),h2A j a ea⟩,I.hok.none_of frL,h2L⟩⟩
 ·by_cases z:b=h'.objs.size
  ·subst z
   rw[h2L]at eb
   cases eb
   refine⟨?_,p.map fun i=>(as.map Value.ref).getD i Value.none,e,mH (refs as) p fun i hi=>by rw[List.length_map];exact hpl i hi,by simpa[seqObj]using he⟩
   rw[List.length_map,sizeLine_eq];omega
  ·by_cases m:b∈as
   ·obtain⟨j,hj⟩:=List.mem_iff_getElem?.mp m
    obtain⟨k,v,e1,e2⟩:=h2A j b hj
    rw[e2]at eb
    cases eb
    obtain⟨key,k',x,f1,f2,f3⟩:=hG.pairs j b hj
    obtain⟨v',g1,g2,g3⟩:=vi rel hk f1
    rw[e1]at g1
    cases g1
    rcases b_ (k:=Sum.inl k) (v:=key) f2 with ⟨n,t,e4,rfl⟩|⟨n,t,e4,_⟩
    ·cases e4
     exact⟨(by decide:2<=sizeLine),[Value.int k t,x], .cons ⟨t,rfl⟩ (.cons g2 .nil),_,old b _ f3,rfl,0,rfl,rfl⟩
    ·cases e4
   ·rw[h2N b z m]at eb
    rw[eb]at nb
    cases nb
 ·by_cases z:b=h'.objs.size
  ·exact .inr (.inl z)
  ·by_cases m:b∈as
   ·exact .inr (.inr m)
   ·rw[h2N b z m]at hb
    exact .inl hb
variable {o:Expr} {to:TE} {p1 apos cpos pos:Pos}
theorem x_ (hc:X.calm=true) (ho:PE X o to) (hms:X.mg "sorted"=none) (hgs:Gl X "sorted") (hbase:attributeBase o "items" X.env (eval o X.env)=eval o X.env) (hline:(apos.endLine==cpos.line)=true)
  (he:starEach [.Call (.Attribute o "items" apos) [] [] cpos] X.env=(false,eval (.Call (.Attribute o "items" apos) [] [] cpos) X.env)::starEach [] X.env) (hpl:(backTo pos (starEach [] X.env)).any (·.1)=false) (hb:bootBuiltins "sorted"=some (.builtin "sorted")):
  PE X (.Call (.Name "sorted" p1) [.Call (.Attribute o "items" apos) [] [] cpos] [] pos) (CJ to):=by
 intro pins s σ H Q I h
 refine wpAny_Call_Name_kw (jF I hgs hms hb ?_ (by decide) (by decide))
 refine PyProof.Rows.callWith_builtin1 ?_ he hpl
 rw[he]
 show wpAny _ _ (spliced ((false,eval (.Call (.Attribute o "items" apos) [] [] cpos) X.env)::backTo pos (starEach [] X.env))) _ _ s
 refine Calls.spliced_cons ?_
 refine wpAny_Call_method0_late hbase hline (cp (ho pins s σ H _ I h) fun v s1 z_=> ?_)
 obtain⟨x,H1,I1,r1,d,kvs,ks,rfl,hd,hk,nd,h64,q⟩:=z_
 have ty:HH X.K "dict" (.ref d) H1:= .inr (.inr (.inl ⟨rfl, .inl ⟨kvs,hd⟩⟩))
 obtain⟨t1,t2⟩:=ze I1 r1 ty
 refine⟨"dict","dict.items",PySem.F.plainAttrs_dict,PySem.F.slot_dict_items,PySem.F.type_dict_items,t1,t2,Calls.callWith_builtin rfl (PySem.evalArgs_none ?_)⟩
 cases r1
 obtain⟨z,hsy,vs,rel,dd⟩:=oi I1.hok hd
 refine call_meetsIn PySem.F.slot_dict_items dd.typeIs PySem.F.entry_dict_items (PySem.F.args_dict_items_1 _) (meets_dict_items (bg X.prog X.w) d hsy) ⟨⟨vs,dd⟩,?_⟩
 refine Calls.spliced_nil ?_
 exact tM hc (I1.kept fun b o e=>Heap.get?_push_of_some _ e) hd hk nd h64 ⟨_,Heap.get?_push_size _ rfl,rfl,rfl⟩ q
end
end L2
namespace L2.Pu
open PySem PySem.Spec PyProof.Rows
variable {ly:List gA}
def gf:List (a_×D)->Option (List Int×List D)
 |[]=>some ([],[])
 |(.inl k,d)::r=>(gf r).map fun p=>(k::p.1, .tup [.int k,d]::p.2)
 |_=>none
theorem jU {kd:a_×D} {r:List (a_×D)} {pr:List Int×List D} (h:gf (kd::r)=some pr):∃k d p,kd=(Sum.inl k,d)/\gf r=some p/\pr=(k::p.1, .tup [.int k,d]::p.2):=by
 obtain⟨k,d⟩:=kd
 cases k with
 |inr x=>cases h
 |inl k=>
  cases e:gf r with
  |none=>rw[gf,e]at h;cases h
  |some p=>
   rw[gf,e]at h
   cases h
   exact⟨k,d,p,rfl,rfl,rfl⟩
section
variable {K:PySem.W.Frag} {F:Hp}
theorem vj:∀{kds:List (a_×D)} {pr:List Int×List D},gf kds=some pr->pr.2.map eY=pr.1:=by
 intro kds
 induction kds with
 |nil=>intro pr h;cases h;rfl
 |cons kd r ih=>
  intro pr h
  obtain⟨k,d,p,rfl,e,rfl⟩:=jU h
  show eY (.tup [.int k,d])::p.2.map eY=k::p.1
  rw[ih e]
  rfl
theorem vm:∀{kds:List (a_×D)} {pr:List Int×List D} {vs:List (a_×V)},gf kds=some pr->RepK K F vs kds->vs.map (·.1)=pr.1.map Sum.inl:=by
 intro kds
 induction kds with
 |nil=>intro pr vs h r;cases h;rw[r.nilI];rfl
 |cons kd r ih=>
  intro pr vs h rk
  obtain⟨k,d,p,rfl,e,rfl⟩:=jU h
  obtain⟨v,us,rfl,_,t⟩:=rk.consI
  rw[List.map_cons,List.map_cons,ih e t]
theorem vn {F2:Hp} (g:aY F F2):∀{kds:List (a_×D)} {pr:List Int×List D} {vs:List (a_×V)} {as:List Addr},gf kds=some pr->RepK K F vs kds->as.length=vs.length->
  (∀(j:Nat) (a:Addr),as[j]? =some a->∃k v,vs[j]? =some (Sum.inl k,v)/\F2 a=some (.tup [.int k,v]))->Reps K F2 (as.map V.ref) pr.2:=by
 intro kds
 induction kds with
 |nil=>
  intro pr vs as h r hl _
  cases h
  rw[r.nilI]at hl
  rw[List.length_eq_zero_iff.mp hl]
  exact .nil
 |cons kd r ih=>
  intro pr vs as h rk hl ha
  obtain⟨k,d,p,rfl,e,rfl⟩:=jU h
  obtain⟨v,us,rfl,rd,t⟩:=rk.consI
  cases as with
  |nil=>cases hl
  |cons a as=>
   obtain⟨k',v',e1,e2⟩:=ha 0 a rfl
   simp at e1
   obtain⟨rfl,rfl⟩:=e1
   exact .cons (.tup e2 (.cons (.int _) (.cons (rd.mono g) .nil))) (ih e t (by simpa using hl) fun j b hb=>by
    obtain⟨k2,v2,z1,z2⟩:=ha (j+1) b (by simpa using hb)
    exact⟨k2,v2,by simpa using z1,z2⟩)
end
section
variable {X:Cx} {o:Expr} {fo:ai->R D} {p1 apos cpos pos:Pos}
def rZ (f:ai->R D):ai->R D:=fun ρ=>f ρ>>=fun d=>match d with
 | .dic kds=>(match gf kds with
  |some p=>if p.1.Nodup/\p.1.length<64 then .ok (.lst (jw p.2))else .bad
  |none=> .bad)
 |_=> .bad
theorem AB (hc:X.calm=true) (hms:X.mg "sorted"=none) (ho:PB ly X o fo) (hgs:Gl X "sorted":=by rfl) (hbase:attributeBase o "items" X.env (eval o X.env)=eval o X.env:=by rfl) (hline:(apos.endLine==cpos.line)=true:=by rfl)
  (he:starEach [.Call (.Attribute o "items" apos) [] [] cpos] X.env=(false,eval (.Call (.Attribute o "items" apos) [] [] cpos) X.env)::starEach [] X.env:=by rfl) (hpl:(backTo pos (starEach [] X.env)).any (·.1)=false:=by rfl):
  PQ ly X (.Call (.Name "sorted" p1) [.Call (.Attribute o "items" apos) [] [] cpos] [] pos) (rZ fo):=fun c=>
 PE.weak (x_ hc (ho c) hms hgs hbase hline he hpl L2.Pu.gL) fun σ H Q ⟨F,ρ,ri,w⟩=>⟨F,ρ,ri,(aJ.bind.mp w).imp fun d _ w1 v H1 F1 e1 r1=>by
  cases d with
  |dic kds=>
   obtain⟨p,vs,rfl,h1,h2,h3⟩:=cG.dic e1.sub r1
   cases q:gf kds with
   |none=>simp only[q]at w1;exact w1.elim
   |some pr=>
    simp only[q]at w1
    split at w1
    ·rename_i hk
     refine⟨p,vs,pr.1,rfl,h1,vm q h2,hk.1,hk.2,fun as l z H2 pl it=> ?_⟩
     have nA:∀a∈as,H1 a=none:=fun a ha=>by
      obtain⟨j,hj⟩:=List.mem_iff_getElem?.mp ha
      exact(it.tup j a hj).1
     have nLA:∀b,b=l\/b∈as->H1 b=none:=fun b hb=>hb.elim (fun y=>by rw[y];exact it.no) (nA b)
     have old:∀b u,F1 b=some u->¬(b=l\/b∈as):=fun b u eb y=>by
      have:=e1.sub b u eb
      rw[nLA b y]at this
      cases this
     have gr:aY F1 (fun b=>if b=l\/b∈as then H2 b else F1 b):=fun b u eb=>by
      show (if b=l\/b∈as then H2 b else F1 b)=some u
      rw[if_neg (old b u eb)];exact eb
     have e2:bZ H1 F1 H2 (fun b=>if b=l\/b∈as then H2 b else F1 b):=⟨fun b u eb=>by
       by_cases y:b=l\/b∈as
       ·simp only[if_pos y]at eb;exact eb
       ·simp only[if_neg y]at eb;exact it.sub b u (e1.sub b u eb),it.sub,gr,fun b hb=>by
       by_cases y:b=l\/b∈as
       ·exact .inr (nLA b y)
       ·simp only[if_neg y]at hb;exact .inl hb⟩
     have rp:Reps X.K (fun b=>if b=l\/b∈as then H2 b else F1 b) (as.map V.ref) pr.2:=vn gr q h2 it.len fun j a ha=>by
      obtain⟨_,k,v,z1,z2⟩:=it.tup j a ha
      exact⟨k,v,z1,by show (if a=l\/a∈as then H2 a else F1 a)=_;rw[if_pos (.inr (List.mem_of_getElem? ha))];exact z2⟩
     have pl':jM (pr.2.map eY) z:=by rw[vj q];exact pl
     refine w1 _ H2 _ (e1.trans e2) (.lst (vs:=z.map fun i=>(as.map V.ref).getD i .non) (by show (if l=l\/l∈as then H2 l else F1 l)=_;rw[if_pos (.inl rfl)];exact it.lst) ?_)
     rw[<-nw pl']
     refine mU rp z fun i hi=> ?_
     have:=List.mem_range.mp (pl'.1.mem_iff.mp hi)
     simpa using this
    ·exact w1.elim
  |_=>exact w1.elim⟩
end
end L2.Pu
namespace My
open PySem PySem.Spec PyProof.Rows L2 L2.Pu
def jE (i:Nat):Stmt:=PySem.Challenge.pw_tankbalance_k10_setting.main.body.getD i (.Pass ⟨0,0,0,0⟩)
abbrev gX:List Str:=["tanks","streams","rises","readings"]
abbrev eZ:Stmt:=jE 10
def ii:ai->R bG:=
 aA (aT (f2 (eG false) (f2 bT (af 0) (fC (.int 1))) (af 1)) (gN 2))
  (aA (aT (f2 (eG false) (f2 bT (af 0) (fC (.int 2))) (af 1)) (gN 3))
  (aA (eM (fT (f2 kn (af 2) (af 3)))
  (bM (fC (.int 0)))
  (bi))
  (bM (Gn (i7 (af 3)) (fC (.int 1)) (f1 v3 (fC (.int 1)))))))
def db:List D->R D:=aW 2 4 ii
abbrev dc:Stmt:=jE 11
def jm:ai->R bG:=
 aA (aT (cU jv (aa (af 1) (aj))) (gN 3))
  (bM (cU xK (aa (fL (ib ["streams","amounts","group","amount_by_number"] [(".0", .local),("stream", .local),("way_over", .globalImplicit),("amount_by_number", .free),("group", .free)] (cW (au 0)) (gN 1) (jC) (f2 pX (aE db 2 (aa (au 1) (aa (au 4) (aj)))) (nq (af 3) (f2 bT (af 1) (fC (.int 0))) (fC (.int 0)))))) (aj))))
def cr:List D->R D:=aW 3 4 jm
abbrev gg:Stmt:=jE 12
def qL:ai->R bG:=
 bM (cU xK (aa (fL (ib ["rises","group"] [(".0", .local),("tank", .local),("rises", .free)] (cW (au 1)) (gN 1) (jC) (f2 bT (af 2) (f2 gK (af 1) (fC (.int 1)))))) (aj)))
def eg:List D->R D:=aW 2 2 qL
abbrev de:Stmt:=jE 14
def dq:ai->R bG:=
 eM (fT (f2 kn (af 4) (af 1)))
  (jD 2 (iW (aa (au 3) (aa (fC (.int 1)) (aa (au 5) (aj))))))
  (eM (fT (f2 kn (af 5) (af 1)))
  (jD 2 (iW (aa (au 3) (aa (f1 v3 (fC (.int 1))) (aa (au 4) (aj))))))
  (bi))
def jn:ai->R bG:=
 aA (hJ 2 (aj))
  (aA (fF (cW (au 0)) (fV 3 (bc (gN 3) (bc (gN 4) (bc (gN 5) (fU))))) (dq))
  (pV [2] (bM (au 2))))
def eh:List D->R D:=aW 2 6 jn
abbrev cm:Stmt:=jE 15
def d4:ai->R bG:=
 eM (fT (f2 (eG true) (af 7) (af 2)))
  (aA (oP 2 (au 7) (iW (aa (au 4) (aa (iW (aa (au 5) (aa (au 6) (aj)))) (aj)))))
  (jD 3 (au 7)))
  (bi)
def d5:ai->R bG:=
 aA (zK 4 3 (fC (.int 0)))
  (fF (cW (aE eh 2 (aa (au 0) (aa (au 4) (aj))))) (fV 3 (bc (gN 5) (bc (gN 6) (bc (gN 7) (fU))))) (d4))
def gY:ai->R bG:=
 aA (v9 2 [(au 1,fC .non)])
  (aA (hJ 3 (aa (au 1) (aj)))
  (aA (cz (fT (f2 we (cU eW (aa (af 3) (aj))) (fC (.int 0)))) (d5) 100)
  (pV [2] (bM (au 2)))))
def bN:List D->R D:=aW 2 8 gY
abbrev df:Stmt:=jE 16
def eN:ai->R bG:=
 oP 3 (au 6) (fC (.bl true))
def eO:ai->R bG:=
 eM (fT (f2 (eG true) (af 4) (af 3)))
  (aA (aT (cU cA (aa (aE bN 2 (aa (au 1) (aa (au 4) (aj)))) (aj))) (gN 5))
  (aA (jD 2 (cU c_ (aa (af 5) (aj))))
  (fF (cW (au 5)) (gN 6) (eN))))
  (bi)
def jp:ai->R bG:=
 aA (hJ 2 (aj))
  (aA (zC 3)
  (aA (fF (cW (f2 cH (iM (aa (fC (.int 0)) (aj))) (jk (aa (fC (.int 1)) (aa (f2 cH (af 0) (fC (.int 1))) (aj)))))) (gN 4) (eO))
  (bM (cU c_ (aa (af 2) (aj))))))
def cu:List D->R D:=aW 2 7 jp
abbrev gj:Stmt:=jE 17
def ij:ai->R bG:=
 aA (aT (f2 bT (af 3) (af 5)) (gN 6))
  (aA (jD 4 (f2 bT (af 6) (fC (.int 1))))
  (aT (f2 bT (af 6) (fC (.int 0))) (gN 5)))
def j6:ai->R bG:=
 aA (aT (aE bN 2 (aa (au 0) (aa (au 1) (aj)))) (gN 3))
  (aA (eM (fT (f2 (eG true) (af 2) (af 3)))
  (bM (fC .non))
  (bi))
  (aA (hJ 4 (aj))
  (aA (aT (au 2) (gN 5))
  (aA (cz (fT (f2 wg (af 5) (af 1))) (ij) 100)
  (bM (rS (af 4)))))))
def gk:List D->R D:=aW 3 7 j6
abbrev dg:Stmt:=nX (jE 24) 1
def dr:ai->R bG:=
 eM (fT (f2 kn (f2 bT (af 2) (fC (.int 0))) (af 1)))
  (bM (au 2))
  (bi)
def lY:ai->R bG:=
 aA (fF (cW (d0 "Day" "streams" (af 0))) (gN 2) (dr))
  (mS "UnknownStream" (aa (fC (.str "no stream of this day has that number")) (aj)))
def fO:List D->R D:=aW 2 3 lY
abbrev cP:Stmt:=nX (jE 24) 2
def iN:ai->R bG:=
 aA (aT (j4 "Day" "stream" 2 fO (au 0) (aa (au 1) (aj))) (gN 2))
  (bM (f2 (eG false) (f2 bT (af 2) (fC (.int 0))) (cU jv (aa (d0 "Day" "readings" (af 0)) (aj)))))
def du:List D->R D:=aW 2 3 iN
abbrev bJ:Stmt:=nX (jE 24) 4
def kC:ai->R bG:=
 bM (cU c_ (aa (fL (ib ["self"] [(".0", .local),("stream", .local),("self", .free)] (cW (d0 "Day" "streams" (af 0))) (gN 1) (la (i7 (j4 "Day" "metered" 2 du (au 2) (aa (f2 bT (af 1) (fC (.int 0))) (aj))))) (au 1))) (aj)))
def aX:List D->R D:=aW 1 1 kC
abbrev dh:Stmt:=jE 19
def dv:ai->R bG:=
 eM (fT (f2 (eG true) (fC (.int 0)) (af 2)))
  (aA (aT (aE eg 2 (aa (d0 "Day" "rises" (af 0)) (aa (au 2) (aj)))) (gN 3))
  (aA (aT (aE cr 3 (aa (d0 "Day" "streams" (af 0)) (aa (d0 "Day" "readings" (af 0)) (aa (au 2) (aj))))) (gN 4))
  (eM (fT (f2 wg (af 3) (af 4)))
  (jD 1 (iW (aa (au 2) (aa (au 3) (aa (au 4) (aj))))))
  (bi))))
  (bi)
def jq:ai->R bG:=
 aA (hJ 1 (aj))
  (aA (fF (cW (aE cu 2 (aa (d0 "Day" "tanks" (af 0)) (aa (j4 "Day" "without_meter" 1 aX (au 0) aj) (aj))))) (gN 2) (dv))
  (bM (cU c_ (aa (af 1) (aj)))))
def eo:List D->R D:=aW 1 5 jq
abbrev ce:Stmt:=jE 20
def gl:ai->R bG:=
 eM (fT (f2 we (cU eW (aa (aE eo 1 (aa (au 0) (aj))) (aj))) (fC (.int 0))))
  (mS "Clashing" (aa (fC (.str "the readings of this day clash")) (aj)))
  (bi)
def bE:List D->R D:=aW 1 1 gl
abbrev gm:Stmt:=jE 21
def qM:ai->R bG:=
 bM (f2 gK (aE eg 2 (aa (d0 "Day" "rises" (af 0)) (aa (iW (aa (au 1) (aj))) (aj)))) (aE cr 3 (aa (d0 "Day" "streams" (af 0)) (aa (d0 "Day" "readings" (af 0)) (aa (iW (aa (au 1) (aj))) (aj))))))
def j7:List D->R D:=aW 2 2 qM
abbrev di:Stmt:=jE 22
def gC:ai->R bG:=
 ww 1 (au 6) (f2 pX (af 7) (af 5))
def gD:ai->R bG:=
 aA (aT (aE j7 2 (aa (au 0) (aa (au 4) (aj)))) (gN 5))
  (fF (cW (aE gk 3 (aa (au 2) (aa (f2 bT (af 3) (fC (.int 0))) (aa (au 4) (aj)))))) (fV 2 (bc (gN 6) (bc (gN 7) (fU)))) (gC))
def iO:ai->R bG:=
 fF (cW (Bm (af 3) (kH (fC (.int 1))) (kG))) (gN 4) (gD)
def jr:ai->R bG:=
 aA (qK (aE bE 1 (aa (au 0) (aj))))
  (aA (qG 1 (cU jv (aa (fL (ib ["day","amounts","unmetered","bunch","tank","lack","number","direction"] [(".0", .local),("stream", .local)] (cW (d0 "Day" "streams" (af 0))) (gN 1) (jC) (iW (aa (f2 bT (af 1) (fC (.int 0))) (aa (fC (.int 0)) (aj)))))) (aj))))
  (aA (Az 1 (cU jv (aa (d0 "Day" "readings" (af 0)) (aj))))
  (aA (aT (j4 "Day" "without_meter" 1 aX (au 0) aj) (gN 2))
  (aA (fF (cW (aE cu 2 (aa (d0 "Day" "tanks" (af 0)) (aa (au 2) (aj))))) (gN 3) (iO))
  (bM (cU c_ (aa (rZ (af 1)) (aj))))))))
def bO:List D->R D:=aW 1 8 jr
abbrev dJ:Stmt:=nX (jE 24) 0
def pi:ai->R bG:=
 aA (tu 0 (aT (au 1) (gN 5)))
  (aA (tu 0 (aT (cU c_ (aa (cU cA (aa (af 2) (aj))) (aj))) (gN 6)))
  (aA (tu 0 (aT (cU c_ (aa (af 3) (aj))) (gN 7)))
  (tu 0 (aT (cU c_ (aa (cU cA (aa (af 4) (aj))) (aj))) (gN 8)))))
def nz:List (Str×Nat):=[("tanks",5),("streams",6),("rises",7),("readings",8)]
def cB:List D->R (List (Str×D)):=lT 4 8 nz pi
abbrev ik:Stmt:=jE 26
def tO:ai->R bG:=
 aA (eM (fT (f2 Gq (af 1) (cU eW (aa (af 0) (aj)))))
  (bM (f2 bT (af 0) (af 1)))
  (bi))
  (bM (fC (.int 0)))
def eP:List D->R D:=aW 2 2 tO
abbrev e_:Stmt:=jE 27
def lj:ai->R bG:=
 aA (eM (fT (f2 kn (f2 fG (aE eP 2 (aa (au 0) (aa (fC (.int 0)) (aj)))) (fC (.int 2))) (fC (.int 0))))
  (bM (aE eP 2 (aa (au 0) (aa (au 1) (aj)))))
  (bi))
  (aA (aT (f2 fG (f2 pX (f2 cH (f2 cH (f2 cH (aE eP 2 (aa (au 0) (aa (au 1) (aj)))) (f2 fW (aE eP 2 (aa (au 0) (aa (fC (.int 0)) (aj)))) (fC (.int 2)))) (f2 pX (fC (.int 7919)) (af 1))) (fC (.int 1))) (fC (.int 48271))) (fC (.int 2147483647))) (gN 2))
  (bM (f2 fG (f2 pX (f2 cH (af 2) (af 1)) (fC (.int 69621))) (fC (.int 2147483647)))))
def aD:List D->R D:=aW 2 3 lj
abbrev dL:Stmt:=jE 28
def iF (rec_:List D->R D):ai->R bG:=
 eM (la (i7 (aE rec_ 2 (aa (f2 bT (af 0) (af 2)) (aa (f2 bT (af 1) (af 2)) (aj))))))
  (bM (fC (.bl false)))
  (bi)
def il (rec_:List D->R D):ai->R bG:=
 aA (eM (i7 (lO "tuple" (af 1)))
  (aA (eM (yx (la (i7 (lO "tuple" (af 0)))) (fT (f2 wg (cU eW (aa (af 0) (aj))) (cU eW (aa (af 1) (aj))))))
  (bM (fC (.bl false)))
  (bi))
  (aA (fF (ee (aa (cU eW (aa (af 1) (aj))) (aj))) (gN 2) (iF rec_))
  (bM (fC (.bl true)))))
  (bi))
  (bM (nj (lO "int" (af 0)) (nj (sW (lO "bool" (af 0))) (f2 kn (af 0) (af 1)))))
def dM:Nat->List D->R D
 |0=>fun _=> .bad
 |n+1=>aW 2 3 (il (dM n))
def bX:List D->R D:=dM 8
abbrev dN:Stmt:=jE 29
def jV:ai->R bG:=
 bM (nj (lO "int" (af 0)) (sW (lO "bool" (af 0))))
def gM:List D->R D:=aW 1 1 jV
abbrev cQ:Stmt:=jE 30
def fP:ai->R bG:=
 aA (aT (f2 cH (f2 gK (f2 gK (fC (.int 61)) (af 4)) (af 2)) (af 5)) (gN 6))
  (aA (aT (aE aD 2 (aa (au 0) (aa (f2 cH (fC (.int 5)) (af 5)) (aj)))) (gN 7))
  (aA (aT (f2 fG (af 7) (af 6)) (gN 8))
  (aA (eM (fT (f2 kn (f2 fG (f2 fW (aE aD 2 (aa (au 0) (aa (fC (.int 4)) (aj)))) (fC (.int 8))) (fC (.int 2))) (fC (.int 1))))
  (aT (f2 fG (af 8) (fC (.int 4))) (gN 8))
  (bi))
  (aA (aT (f2 cH (f2 cH (af 4) (fC (.int 1))) (af 8)) (gN 4))
  (aA (aT (f2 fG (f2 fW (af 7) (af 6)) (f2 cH (af 1) (fC (.int 1)))) (gN 9))
  (aA (aT (f2 fG (f2 cH (f2 cH (af 9) (fC (.int 1))) (f2 fG (f2 fW (f2 fW (af 7) (af 6)) (f2 cH (af 1) (fC (.int 1)))) (af 1))) (f2 cH (af 1) (fC (.int 1)))) (gN 10))
  (jD 3 (iW (aa (au 4) (aa (au 9) (aa (au 10) (aj))))))))))))
def iP:ai->R bG:=
 aA (hJ 3 (aj))
  (aA (aT (fC (.int 0)) (gN 4))
  (aA (fF (ee (aa (au 2) (aj))) (gN 5) (fP))
  (pV [3] (bM (au 3)))))
def eQ:List D->R D:=aW 3 11 iP
abbrev cR:Stmt:=jE 31
def d6:ai->R bG:=
 eM (rK (fT (f2 Gq (f2 fG (aE aD 2 (aa (au 0) (aa (f2 cH (fC (.int 17)) (af 4)) (aj)))) (fC (.int 4))) (af 2))) (fT (f2 Gq (cU eW (aa (af 3) (aj))) (fC (.int 10)))))
  (jD 3 (f2 bT (f2 bT (af 1) (af 4)) (fC (.int 0))))
  (bi)
def iQ:ai->R bG:=
 aA (hJ 3 (aj))
  (aA (fF (ee (aa (cU eW (aa (af 1) (aj))) (aj))) (gN 4) (d6))
  (pV [3] (bM (au 3))))
def eR:List D->R D:=aW 3 5 iQ
abbrev fc:Stmt:=jE 32
def ll:ai->R bG:=
 aA (aT (f1 v3 (af 3)) (gN 4))
  (aA (aT (au 3) (gN 5))
  (aA (eM (fT (f2 we (af 1) (fC (.int 0))))
  (aA (aT (cU xM (aa (af 4) (aa (f2 gK (f2 bT (af 0) (af 1)) (fC (.int 1000))) (aj)))) (gN 4))
  (aT (cU xL (aa (af 5) (aa (f2 cH (f2 bT (af 0) (af 1)) (fC (.int 1000))) (aj)))) (gN 5)))
  (bi))
  (aA (eM (fT (f2 we (af 2) (fC (.int 0))))
  (aA (aT (cU xM (aa (af 4) (aa (f2 gK (f1 v3 (fC (.int 1000))) (f2 bT (af 0) (af 2))) (aj)))) (gN 4))
  (aT (cU xL (aa (af 5) (aa (f2 gK (fC (.int 1000)) (f2 bT (af 0) (af 2))) (aj)))) (gN 5)))
  (bi))
  (bM (iM (aa (au 4) (aa (au 5) (aj))))))))
def im:List D->R D:=aW 4 6 ll
abbrev dO:Stmt:=jE 33
def hX:ai->R bG:=
 aA (aT (f2 bT (af 2) (af 7)) (fV 3 (bc (gN 8) (bc (gN 9) (bc (gN 10) (fU))))))
  (aA (Av [5] (aE im 4 (aa (au 5) (aa (au 9) (aa (au 10) (aa (f2 bT (af 4) (cU EM (aa (f2 (eG false) (af 8) (af 3)) (aj)))) (aj)))))) 2 (bc (gN 11) (bc (gN 12) (fU))))
  (aA (aT (f2 cH (af 11) (f2 fG (f2 bT (af 0) (af 7)) (f2 cH (f2 gK (af 12) (af 11)) (fC (.int 1))))) (gN 13))
  (aA (oP 5 (au 9) (f2 gK (f2 bT (af 5) (af 9)) (af 13)))
  (aA (oP 5 (au 10) (f2 cH (f2 bT (af 5) (af 10)) (af 13)))
  (jD 6 (iW (aa (au 8) (aa (au 13) (aj)))))))))
def jW:ai->R bG:=
 aA (qG 5 (f2 tE (iM (aa (fC (.int 0)) (aj))) (f2 cH (af 1) (fC (.int 1)))))
  (aA (hJ 6 (aj))
  (aA (fF (ee (aa (cU eW (aa (af 2) (aj))) (aj))) (gN 7) (hX))
  (bM (iM (aa (cU c_ (aa (af 6) (aj))) (aa (cU c_ (aa (Bm (af 5) (kH (fC (.int 1))) (kG)) (aj))) (aj)))))))
def gO:List D->R D:=aW 5 14 jW
abbrev dP:Stmt:=jE 34
def jX:ai->R bG:=
 aA (uW 5 (ib ["_law_script","_law_n","_law_streams_here","_law_metered_here","_law_small","_law_figures"] [(".0", .local),("_law_k", .local),("_law_cell", .globalImplicit),("_law_script", .free)] (ee (aa (cU eW (aa (af 2) (aj))) (aj))) (gN 1) (jC) (f2 fW (aE aD 2 (aa (au 3) (aa (f2 cH (fC (.int 17)) (af 1)) (aj)))) (fC (.int 4)))))
  (pV [5] (bM (aE gO 5 (aa (au 5) (aa (au 1) (aa (au 2) (aa (au 3) (aa (f2 bT (iM (aa (iM (aa (fC (.int 5000)) (aa (fC (.int 1000)) (aj)))) (aa (iM (aa (fC (.int 2)) (aa (fC (.int 2)) (aj)))) (aj)))) (af 4)) (aj)))))))))
def gP:List D->R D:=aW 5 6 jX
abbrev cC:Stmt:=jE 35
def dk:ai->R bG:=
 aA (aT (f2 bT (af 1) (af 6)) (fV 2 (bc (gN 7) (bc (gN 8) (fU)))))
  (aA (aT (aE aD 2 (aa (au 0) (aa (f2 cH (fC (.int 29)) (af 6)) (aj)))) (gN 9))
  (aA (eM (fT (f2 (eG true) (af 7) (af 2)))
  (xF)
  (bi))
  (aA (eM (yx (fT (f2 kn (af 3) (fC (.int 3)))) (rK (fT (f2 kn (af 3) (fC (.int 1)))) (fT (f2 kn (f2 fG (af 9) (fC (.int 3))) (fC (.int 0))))))
  (aT (f2 bT (iM (aa (f2 gK (f2 fG (f2 fW (af 9) (fC (.int 3))) (fC (.int 2001))) (fC (.int 1000))) (aa (f2 gK (f2 fG (f2 fW (af 9) (fC (.int 3))) (fC (.int 5))) (fC (.int 2))) (aj)))) (af 4)) (gN 8))
  (bi))
  (jD 5 (iW (aa (au 7) (aa (au 8) (aj))))))))
def io:ai->R bG:=
 aA (hJ 5 (aj))
  (aA (fF (ee (aa (cU eW (aa (af 1) (aj))) (aj))) (gN 6) (dk))
  (pV [5] (bM (au 5))))
def dQ:List D->R D:=aW 5 10 io
abbrev dR:Stmt:=jE 36
def hZ:ai->R bG:=
 aA (aT (aE aD 2 (aa (au 0) (aa (f2 cH (fC (.int 41)) (af 5)) (aj)))) (gN 6))
  (aA (aT (f2 bT (af 1) (af 5)) (gN 7))
  (aA (eM (yx (fT (f2 kn (af 2) (fC (.int 3)))) (rK (fT (f2 kn (af 2) (fC (.int 2)))) (fT (f2 kn (f2 fG (af 6) (fC (.int 3))) (fC (.int 0))))))
  (aT (f2 bT (iM (aa (f2 gK (f2 fG (f2 fW (af 6) (fC (.int 3))) (fC (.int 2001))) (fC (.int 1000))) (aa (f2 gK (f2 fG (f2 fW (af 6) (fC (.int 3))) (fC (.int 5))) (fC (.int 2))) (aj)))) (af 3)) (gN 7))
  (bi))
  (jD 4 (au 7))))
def jY:ai->R bG:=
 aA (hJ 4 (aj))
  (aA (fF (ee (aa (cU eW (aa (af 1) (aj))) (aj))) (gN 5) (hZ))
  (pV [4] (bM (au 4))))
def gQ:List D->R D:=aW 4 8 jY
abbrev fj:Stmt:=jE 37
def lm:ai->R bG:=
 aA (aT (f2 fG (aE aD 2 (aa (au 0) (aa (fC (.int 1)) (aj)))) (fC (.int 8))) (gN 1))
  (aA (aT (fC (.int 0)) (gN 2))
  (aA (eM (fT (f2 we (af 1) (fC (.int 0))))
  (aT (f2 fG (aE aD 2 (aa (au 0) (aa (fC (.int 2)) (aj)))) (fC (.int 13))) (gN 2))
  (bi))
  (aA (aT (f2 fG (aE aD 2 (aa (au 0) (aa (fC (.int 4)) (aj)))) (fC (.int 4))) (gN 3))
  (aA (aT (f2 fG (f2 fW (aE aD 2 (aa (au 0) (aa (fC (.int 4)) (aj)))) (fC (.int 4))) (fC (.int 2))) (gN 4))
  (aA (aT (aE eQ 3 (aa (au 0) (aa (au 1) (aa (au 2) (aj))))) (gN 5))
  (aA (aT (aE eR 3 (aa (au 0) (aa (au 5) (aa (f2 fG (aE aD 2 (aa (au 0) (aa (fC (.int 3)) (aj)))) (fC (.int 5))) (aj))))) (gN 6))
  (aA (aT (aE gP 5 (aa (au 0) (aa (au 1) (aa (au 5) (aa (au 6) (aa (au 4) (aj))))))) (gN 7))
  (aA (aT (aE dQ 5 (aa (au 0) (aa (f2 bT (af 7) (fC (.int 0))) (aa (au 6) (aa (au 3) (aa (au 4) (aj))))))) (gN 8))
  (aA (aT (aE gQ 4 (aa (au 0) (aa (f2 bT (af 7) (fC (.int 1))) (aa (au 3) (aa (au 4) (aj)))))) (gN 9))
  (bM (iW (aa (au 1) (aa (cU c_ (aa (af 5) (aj))) (aa (cU c_ (aa (af 9) (aj))) (aa (cU c_ (aa (af 8) (aj))) (aj))))))))))))))))
def ip:List D->R D:=aW 1 10 lm
abbrev gn:Stmt:=jE 38
def mX:ai->R bG:=
 aA (aT (f2 fG (aE aD 2 (aa (au 0) (aa (fC (.int 48)) (aj)))) (fC (.int 4))) (gN 2))
  (aA (eM (fT (f2 kn (af 2) (fC (.int 0))))
  (bM (p7 "Day" 4 cB (aa (f2 bT (af 1) (fC (.int 0))) (aa (cU lN (aa (f2 bT (af 1) (fC (.int 1))) (aj))) (aa (cU lN (aa (f2 bT (af 1) (fC (.int 2))) (aj))) (aa (cU lN (aa (f2 bT (af 1) (fC (.int 3))) (aj))) (aj)))))))
  (bi))
  (aA (eM (fT (f2 kn (af 2) (fC (.int 1))))
  (bM (p7 "Day" 4 cB (aa (f2 bT (af 1) (fC (.int 0))) (aa (Cm (cU lN (aa (f2 bT (af 1) (fC (.int 1))) (aj)))) (aa (cU lN (aa (f2 bT (af 1) (fC (.int 2))) (aj))) (aa (Cm (cU lN (aa (f2 bT (af 1) (fC (.int 3))) (aj)))) (aj)))))))
  (bi))
  (aA (eM (fT (f2 kn (af 2) (fC (.int 2))))
  (bM (p7 "Day" 4 cB (aa (f2 bT (af 1) (fC (.int 0))) (aa (f2 bT (af 1) (fC (.int 1))) (aa (f2 bT (af 1) (fC (.int 2))) (aa (f2 bT (af 1) (fC (.int 3))) (aj)))))))
  (bi))
  (aA (aT (f2 fW (cU eW (aa (f2 bT (af 1) (fC (.int 1))) (aj))) (fC (.int 2))) (gN 3))
  (aA (aT (f2 fW (cU eW (aa (f2 bT (af 1) (fC (.int 3))) (aj))) (fC (.int 2))) (gN 4))
  (bM (p7 "Day" 4 cB (aa (f2 bT (af 1) (fC (.int 0))) (aa (f2 cH (Bm (f2 bT (af 1) (fC (.int 1))) (kH (au 3)) (kG)) (Bm (f2 bT (af 1) (fC (.int 1))) (kG) (kH (au 3)))) (aa (f2 bT (af 1) (fC (.int 2))) (aa (f2 cH (Bm (f2 bT (af 1) (fC (.int 3))) (kH (au 4)) (kG)) (Bm (f2 bT (af 1) (fC (.int 3))) (kG) (kH (au 4)))) (aj))))))))))))
def j8:List D->R D:=aW 2 5 mX
abbrev ft:Stmt:=jE 39
def lp:ai->R bG:=
 aA (eM (yx (la (i7 (aE bX 2 (aa (d0 "Day" "tanks" (af 0)) (aa (f2 bT (af 1) (fC (.int 0))) (aj)))))) (la (i7 (aE bX 2 (aa (d0 "Day" "streams" (af 0)) (aa (f2 bT (af 1) (fC (.int 1))) (aj)))))))
  (bM (fC (.bl false)))
  (bi))
  (bM (nj (aE bX 2 (aa (d0 "Day" "rises" (af 0)) (aa (f2 bT (af 1) (fC (.int 2))) (aj)))) (aE bX 2 (aa (d0 "Day" "readings" (af 0)) (aa (f2 bT (af 1) (fC (.int 3))) (aj))))))
def iq:List D->R D:=aW 2 2 lp
abbrev dS:Stmt:=jE 40
def jZ:ai->R bG:=
 aA (uW 1 (ib ["_law_case_here","_law_read"] [(".0", .local),("_law_row", .local)] (cW (f2 bT (af 0) (fC (.int 3)))) (gN 1) (jC) (f2 bT (af 1) (fC (.int 0)))))
  (bM (fL (ib ["_law_case_here","_law_read"] [(".0", .local),("_law_stream", .local),("_law_read", .free)] (cW (f2 bT (af 0) (fC (.int 1)))) (gN 1) (fT (f2 (eG true) (f2 bT (af 1) (fC (.int 0))) (af 2))) (au 1))))
def gR:List D->R D:=aW 1 2 jZ
abbrev dU:Stmt:=jE 41
def dj:ai->R bG:=
 aA (eM (rK (fT (f2 (eG false) (af 5) (af 2))) (fT (f2 (eG true) (af 6) (af 2))))
  (aA (jD 2 (au 6))
  (aT (fC (.bl true)) (gN 3)))
  (bi))
  (eM (rK (fT (f2 (eG false) (af 6) (af 2))) (fT (f2 (eG true) (af 5) (af 2))))
  (aA (jD 2 (au 5))
  (aT (fC (.bl true)) (gN 3)))
  (bi))
def fQ:ai->R bG:=
 aA (aT (fC (.bl false)) (gN 3))
  (fF (cW (au 0)) (fV 3 (bc (gN 4) (bc (gN 5) (bc (gN 6) (fU))))) (dj))
def j_:ai->R bG:=
 aA (hJ 2 (aa (au 1) (aj)))
  (aA (aT (fC (.bl true)) (gN 3))
  (aA (cz (i7 (af 3)) (fQ) 100)
  (pV [2] (bM (au 2)))))
def fA:List D->R D:=aW 2 7 j_
abbrev gq:Stmt:=jE 42
def js:ai->R bG:=
 aA (eM (fT (f2 kn (af 8) (af 5)))
  (aT (f2 cH (af 3) (nq (af 4) (au 6) (fC (.int 0)))) (gN 3))
  (bi))
  (eM (fT (f2 kn (af 7) (af 5)))
  (aT (f2 gK (af 3) (nq (af 4) (au 6) (fC (.int 0)))) (gN 3))
  (bi))
def jt:ai->R bG:=
 fF (cW (au 0)) (fV 3 (bc (gN 6) (bc (gN 7) (bc (gN 8) (fU))))) (js)
def mY:ai->R bG:=
 aA (aT (fC (.int 0)) (gN 3))
  (aA (aT (cU jv (aa (af 1) (aj))) (gN 4))
  (aA (fF (cW (au 2)) (gN 5) (jt))
  (bM (au 3))))
def dw:List D->R D:=aW 3 9 mY
abbrev bY:Stmt:=jE 43
def cD:ai->R bG:=
 aA (aT (cU cA (aa (aE fA 2 (aa (au 2) (aa (au 3) (aj)))) (aj))) (gN 4))
  (aA (eM (fT (f2 wg (f2 bT (af 4) (fC (.int 0))) (af 3)))
  (xF)
  (bi))
  (aA (aT (cU xK (aa (fL (ib ["_law_case_here","_law_found","_law_loose_here","_law_tank","_law_group","_law_rise","_law_came"] [(".0", .local),("_law_one", .local),("_law_case_here", .free)] (cW (au 4)) (gN 1) (jC) (f2 bT (f2 bT (af 2) (fC (.int 2))) (f2 gK (af 1) (fC (.int 1)))))) (aj))) (gN 5))
  (aA (aT (aE dw 3 (aa (f2 bT (af 0) (fC (.int 1))) (aa (f2 bT (af 0) (fC (.int 3))) (aa (au 4) (aj))))) (gN 6))
  (eM (fT (f2 wg (af 5) (af 6)))
  (jD 1 (iW (aa (cU c_ (aa (af 4) (aj))) (aa (au 5) (aa (au 6) (aj))))))
  (bi)))))
def fR:ai->R bG:=
 aA (hJ 1 (aj))
  (aA (aT (aE gR 1 (aa (au 0) (aj))) (gN 2))
  (aA (fF (jh (aa (fC (.int 1)) (aa (f2 cH (f2 bT (af 0) (fC (.int 0))) (fC (.int 1))) (aj)))) (gN 3) (cD))
  (bM (cU c_ (aa (af 1) (aj))))))
def cL:List D->R D:=aW 1 7 fR
abbrev cf:Stmt:=jE 44
def dA:ai->R bG:=
 aA (aT (f2 bT (af 1) (af 3)) (gN 4))
  (aA (eM (yx (la (i7 (lO "tuple" (af 4)))) (fT (f2 wg (cU eW (aa (af 4) (aj))) (fC (.int 2)))))
  (bM (fC (.bl false)))
  (bi))
  (aA (eM (yx (la (i7 (aE bX 2 (aa (f2 bT (af 4) (fC (.int 0))) (aa (f2 bT (f2 bT (f2 bT (af 0) (fC (.int 1))) (af 3)) (fC (.int 0))) (aj)))))) (la (i7 (aE gM 1 (aa (f2 bT (af 4) (fC (.int 1))) (aj))))))
  (bM (fC (.bl false)))
  (bi))
  (oP 2 (f2 bT (af 4) (fC (.int 0))) (f2 bT (af 4) (fC (.int 1))))))
def dB:ai->R bG:=
 eM (fT (f2 wg (f2 bT (af 2) (af 5)) (af 6)))
  (bM (fC (.bl false)))
  (bi)
def dC:ai->R bG:=
 eM (fT (f2 wg (aE dw 3 (aa (f2 bT (af 0) (fC (.int 1))) (aa (au 1) (aa (iM (aa (au 7) (aj))) (aj))))) (f2 bT (f2 bT (af 0) (fC (.int 2))) (f2 gK (af 7) (fC (.int 1))))))
  (bM (fC (.bl false)))
  (bi)
def gu:ai->R bG:=
 aA (eM (yx (la (i7 (lO "tuple" (af 1)))) (fT (f2 wg (cU eW (aa (af 1) (aj))) (cU eW (aa (f2 bT (af 0) (fC (.int 1))) (aj))))))
  (bM (fC (.bl false)))
  (bi))
  (aA (zC 2)
  (aA (fF (ee (aa (cU eW (aa (af 1) (aj))) (aj))) (gN 3) (dA))
  (aA (fF (cW (f2 bT (af 0) (fC (.int 3)))) (fV 2 (bc (gN 5) (bc (gN 6) (fU)))) (dB))
  (aA (fF (jh (aa (fC (.int 1)) (aa (f2 cH (f2 bT (af 0) (fC (.int 0))) (fC (.int 1))) (aj)))) (gN 7) (dC))
  (bM (fC (.bl true)))))))
def d7:List D->R D:=aW 2 8 gu
abbrev dW:Stmt:=jE 45
def gS:ai->R bG:=
 aA (hJ 1 (aj))
  (aA (Ak 2 (Ar ["UnknownStream","Clashing"])
  (bM (iM (aa (aE bO 1 (aa (au 0) (aj))) (aa (fC (.str "")) (aj)))))
  (aA (hJ 1 (aa (pY (jl [("UnknownStream",false),("Clashing",true)]) (af 2)) (aa (pY (jl [("UnknownStream",true),("Clashing",true)]) (af 2)) (aa (pY (jl [("UnknownStream",true),("Clashing",false)]) (af 2)) (aj)))))
  (aT (f2 cH (af 1) (iM (aa (pY (jl [("UnknownStream",false),("Clashing",false)]) (af 2)) (aa (pY (jl [("UnknownStream",false),("Clashing",false)]) (af 2)) (aa (pY (jl [("UnknownStream",false),("Clashing",false)]) (af 2)) (aj)))))) (gN 1))))
  (aA (aT (fC (.str "another")) (gN 3))
  (aA (eM (fT (f2 Fa (af 1) (iM (aa (fC (.bl true)) (aa (fC (.bl true)) (aa (fC (.bl false)) (aa (fC (.bl false)) (aa (fC (.bl false)) (aa (fC (.bl false)) (aj))))))))))
  (aT (fC (.str "Clashing")) (gN 3))
  (bi))
  (bM (iM (aa (fC .non) (aa (au 3) (aj))))))))
def fD:List D->R D:=aW 1 4 gS
abbrev kJ:Stmt:=jE 46
def wx:ai->R bG:=
 aA (aT (aE ip 1 (aa (au 0) (aj))) (gN 1))
  (aA (aT (aE j8 2 (aa (au 0) (aa (au 1) (aj)))) (gN 2))
  (aA (aT (aE fD 1 (aa (au 2) (aj))) (gN 3))
  (aA (eM (la (i7 (aE iq 2 (aa (au 2) (aa (au 1) (aj))))))
  (bM (fC (.bl false)))
  (bi))
  (aA (eM (fT (f2 CF (aE cL 1 (aa (au 1) (aj))) (iW (aj))))
  (bM (f2 kn (f2 bT (af 3) (fC (.int 1))) (fC (.str "Clashing"))))
  (bi))
  (bM (nj (f2 kn (f2 bT (af 3) (fC (.int 1))) (fC (.str ""))) (aE d7 2 (aa (au 1) (aa (f2 bT (af 3) (fC (.int 0))) (aj))))))))))
def qN:List D->R D:=aW 1 4 wx
end My
namespace My
open PySem PySem.Spec PyProof.Rows L2 L2.Pu
section
variable {P:Program} {w:World} {K:PySem.W.Frag} {mg:Str->Option Value} {base:Heap}
abbrev BN:List Str:=["ValueError","bool","dict","int","isinstance","len","list","max","min","range","reversed","sorted","sum","tuple"]
theorem nB:aK ["stream","group","source_within","target_within"] ["stream","group"] (ah eZ):=⟨rfl,rfl,rfl,by decide+kernel,rfl,by decide+kernel,by decide+kernel⟩
theorem tP (A:aR K mg "way_over" eZ ["stream","group"]) (B:Bl mg BN):aM P w K mg base 1 "way_over" 2 db:=by
 refine bu A nB rfl rfl fun f cdv A outer s H E hr=> ?_
 have hu:=cg hr
 have S:=nB
 exact ag (aQ 2 S.nd (Cj hu (PQ.bo (bd hu (ae 0) (PQ.bo (ak)))) (ae 1)))
     (ag (aQ 3 S.nd (Cj hu (PQ.bo (bd hu (ae 0) (PQ.bo (ak)))) (ae 1)))
     (ag (cY (c0 eK cO (ae 2) (ae 3))
     (aq (bq (ak)))
     (bj))
     (aq (bq (Ch (iX (ae 3)) (ak) (Cg o7 nZ (PQ.bo (ak))))))))
theorem kK:aK ["streams","amounts","group","amount_by_number"] ["streams","amounts","group"] (ah dc):=⟨rfl,rfl,rfl,by decide+kernel,rfl,by decide+kernel,by decide+kernel⟩
theorem q0 (A:aR K mg "brought_by" dc ["streams","amounts","group"]) (B:Bl mg BN) (G_way_over:aM P w K mg base 1 "way_over" 2 db):aM P w K mg base 2 "brought_by" 3 cr:=by
 refine bu A kK rfl rfl fun f cdv A outer s H E hr=> ?_
 have hu:=cg hr
 have S:=kK
 exact ag (aQ 3 S.nd (bn (gI rfl) lS (B.no "dict" (by decide)) L2.Pu.j0 (aB (ae 1) (aL))))
     (aq (bq (bB (mF rfl) rO (B.no "sum" (by decide)) L2.Pu.mQ (aB (PQ.bo (mL (cj.of rfl (by first|decide+kernel|rfl)) rfl (fw (ao 0)) (fun _ _ _=>aU 1 (show ([".0","stream","way_over","amount_by_number","group"]:List Str).Nodup by decide+kernel)) (fun _ _ _=>mK) (fun _ _ _=>aG km lM (PQ.bo (cc G_way_over (hr.mono (by decide)) (ac (ao 1) (ac (ao 4) (al))))) (PQ.bo (v8 hu (ae 3) (bd hu (ae 1) (PQ.bo (ak))) (ak)))))) (aL)))))
theorem pj:aK ["rises","group"] ["rises","group"] (ah gg):=⟨rfl,rfl,rfl,by decide+kernel,rfl,by decide+kernel,by decide+kernel⟩
theorem vo (A:aR K mg "rise_of" gg ["rises","group"]) (B:Bl mg BN):aM P w K mg base 1 "rise_of" 2 eg:=by
 refine bu A pj rfl rfl fun f cdv A outer s H E hr=> ?_
 have hu:=cg hr
 have S:=pj
 exact aq (bq (bB (mF rfl) rO (B.no "sum" (by decide)) L2.Pu.mQ (aB (PQ.bo (mL (cj.of rfl (by first|decide+kernel|rfl)) rfl (fw (ao 1)) (fun _ _ _=>aU 1 (show ([".0","tank","rises"]:List Str).Nodup by decide+kernel)) (fun _ _ _=>mK) (fun _ _ _=>bd hu (ae 2) (PQ.bo (aG eD cX (ae 1) (PQ.bo (ak))))))) (aL))))
theorem kL:aK ["streams","place","steps","number","source","target"] ["streams","place"] (ah de):=⟨rfl,rfl,rfl,by decide+kernel,rfl,by decide+kernel,by decide+kernel⟩
theorem q8 (A:aR K mg "steps_from" de ["streams","place"]) (B:Bl mg BN):aM P w K mg base 1 "steps_from" 2 eh:=by
 refine bu A kL rfl rfl fun f cdv A outer s H E hr=> ?_
 have hu:=cg hr
 have S:=kL
 exact ag (fK 2 S.nd (al))
     (ag (eu PassesOwn.leaving rfl (fw (ao 0)) (nl rfl (bU (aU 3 S.nd) (bU (aU 4 S.nd) (bU (aU 5 S.nd) (jg)))))
     (aq (cY (c0 eK cO (ae 4) (ae 1))
     (aq (cK 2 (iA (ac (ao 3) (ac (ak) (ac (ao 5) (al)))))))
     (aq (cY (c0 eK cO (ae 5) (ae 1))
     (aq (cK 2 (iA (ac (ao 3) (ac (Cg o7 nZ (PQ.bo (ak))) (ac (ao 4) (al)))))))
     (bj))))))
     (aq (nk [2] (bq (ao 2)))))
theorem j9:aK ["streams","start","arrivals","waiting","place","number","direction","end"] ["streams","start"] (ah cm):=⟨rfl,rfl,rfl,by decide+kernel,rfl,by decide+kernel,by decide+kernel⟩
theorem mZ (A:aR K mg "arrivals_from" cm ["streams","start"]) (B:Bl mg BN) (G_steps_from:aM P w K mg base 1 "steps_from" 2 eh):aM P w K mg base 2 "arrivals_from" 2 bN:=by
 refine bu A j9 rfl rfl fun f cdv A outer s H E hr=> ?_
 have hu:=cg hr
 have S:=j9
 exact ag (Cp 2 S.nd (.cons (ao 1) (zA) (Co.nil)) (by simp) (by decide))
     (ag (fK 3 S.nd (ac (ao 1) (al)))
     (ag (rL 100 PassesOwn.leaving (c0 sG oQ (PQ.bo (bB bL cE (B.no "len" (by decide)) PySem.boot_len (aB (ae 3) (aL)))) (PQ.bo (ak)))
     (ag (Gp 4 3 S.nd (ak))
     (aq (eu PassesOwn.leaving rfl (fw (cc G_steps_from (hr.mono (by decide)) (ac (ao 0) (ac (ao 4) (al))))) (nl rfl (bU (aU 5 S.nd) (bU (aU 6 S.nd) (bU (aU 7 S.nd) (jg)))))
     (aq (cY (iC hu (ae 7) (ae 2))
     (ag (sZ 2 hu (ao 7) (iA (ac (ao 4) (ac (iA (ac (ao 5) (ac (ao 6) (al)))) (al)))))
     (aq (cK 3 (ao 7))))
     (bj)))))))
     (aq (nk [2] (bq (ao 2))))))
theorem kM:aK ["tanks","streams","bunches","placed","place","bunch","member"] ["tanks","streams"] (ah df):=⟨rfl,rfl,rfl,by decide+kernel,rfl,by decide+kernel,by decide+kernel⟩
theorem q9 (A:aR K mg "bunches_of" df ["tanks","streams"]) (B:Bl mg BN) (G_arrivals_from:aM P w K mg base 2 "arrivals_from" 2 bN) {t_OUTSIDE:Tok} (gl_OUTSIDE:mg "OUTSIDE"=some (.int 0 t_OUTSIDE)):aM P w K mg base 3 "bunches_of" 2 cu:=by
 refine bu A kM rfl rfl fun f cdv A outer s H E hr=> ?_
 have hu:=cg hr
 have S:=kM
 exact ag (fK 2 S.nd (al))
     (ag (zD 3 S.nd)
     (ag (eu PassesOwn.leaving rfl (fw (aG bz bA (PQ.bo (iB (ac (w9 rfl gl_OUTSIDE) (al)))) (PQ.bo (tq rfl (B.no "list" (by decide)) (B.no "range" (by decide)) (ac (ak) (ac (aG bz bA (ae 0) (PQ.bo (ak))) (al))))))) (aU 4 S.nd)
     (aq (cY (iC hu (ae 4) (ae 3))
     (ag (aQ 5 S.nd (bB (hW rfl) iE (B.no "sorted" (by decide)) L2.Pu.gL (aB (PQ.bo (cc G_arrivals_from (hr.mono (by decide)) (ac (ao 1) (ac (ao 4) (al))))) (aL))))
     (ag (cK 2 (bn ba cb (B.no "tuple" (by decide)) L2.Pu.bv (aB (ae 5) (aL))))
     (aq (eu PassesOwn.leaving rfl (fw (ao 5)) (aU 6 S.nd)
     (aq (sZ 3 hu (ao 6) (iy)))))))
     (bj))))
     (aq (bq (bn ba cb (B.no "tuple" (by decide)) L2.Pu.bv (aB (ae 2) (aL)))))))
theorem pq:aK ["streams","start","goal","arrivals","steps","place","arrival"] ["streams","start","goal"] (ah gj):=⟨rfl,rfl,rfl,by decide+kernel,rfl,by decide+kernel,by decide+kernel⟩
theorem vp (A:aR K mg "path_of" gj ["streams","start","goal"]) (B:Bl mg BN) (G_arrivals_from:aM P w K mg base 2 "arrivals_from" 2 bN):aM P w K mg base 3 "path_of" 3 gk:=by
 refine bu A pq rfl rfl fun f cdv A outer s H E hr=> ?_
 have hu:=cg hr
 have S:=pq
 exact ag (aQ 3 S.nd (cc G_arrivals_from (hr.mono (by decide)) (ac (ao 0) (ac (ao 1) (al)))))
     (ag (cY (iC hu (ae 2) (ae 3))
     (aq (bq (zA)))
     (bj))
     (ag (fK 4 S.nd (al))
     (ag (aQ 5 S.nd (ao 2))
     (ag (rL 100 PassesOwn.leaving (c0 lE jj (ae 5) (ae 1))
     (ag (aQ 6 S.nd (bd hu (ae 3) (ae 5)))
     (ag (cK 4 (bd hu (ae 6) (PQ.bo (ak))))
     (aq (aQ 5 S.nd (bd hu (ae 6) (PQ.bo (ak))))))))
     (aq (bq (Af rfl (B.no "tuple" (by decide)) (B.no "reversed" (by decide)) (ae 4))))))))
theorem kN:aK ["self","number","stream"] ["self","number"] (ah dg):=⟨rfl,rfl,rfl,by decide+kernel,rfl,by decide+kernel,by decide+kernel⟩
theorem qa (A:li K "Day" "stream" "Day.stream" dg ["self","number"]) (B:Bl mg BN) (E_UnknownStream:tw K mg "UnknownStream") (T_Day:lX K "Day" gX):f_ P w K mg base 1 "Day" "stream" 2 fO:=by
 refine mV A kN rfl rfl fun f cdv A outer s H E hr=> ?_
 have hu:=cg hr
 have S:=kN
 exact ag (eu PassesOwn.leaving rfl (fw (dI T_Day (by decide) (ae 0))) (aU 2 S.nd)
     (aq (cY (c0 eK cO (PQ.bo (bd hu (ae 2) (PQ.bo (ak)))) (ae 1))
     (aq (bq (ao 2)))
     (bj))))
     (aq (wq E_UnknownStream rfl (ac (oJ) (al))))
theorem ka:aK ["self","number","stream"] ["self","number"] (ah cP):=⟨rfl,rfl,rfl,by decide+kernel,rfl,by decide+kernel,by decide+kernel⟩
theorem pw (A:li K "Day" "metered" "Day.metered" cP ["self","number"]) (B:Bl mg BN) (G_Day_stream:f_ P w K mg base 1 "Day" "stream" 2 fO) (T_Day:lX K "Day" gX):f_ P w K mg base 2 "Day" "metered" 2 du:=by
 refine mV A ka rfl rfl fun f cdv A outer s H E hr=> ?_
 have hu:=cg hr
 have S:=ka
 exact ag (aQ 2 S.nd (Ag G_Day_stream (hr.mono (by decide)) (ao 0) (ac (ao 1) (al))))
     (aq (bq (Cj hu (PQ.bo (bd hu (ae 2) (PQ.bo (ak)))) (PQ.bo (bn (gI rfl) lS (B.no "dict" (by decide)) L2.Pu.j0 (aB (PQ.bo (dI T_Day (by decide) (ae 0))) (aL)))))))
theorem gT:aK ["self"] ["self"] (ah bJ):=⟨rfl,rfl,rfl,by decide+kernel,rfl,by decide+kernel,by decide+kernel⟩
theorem kb (A:li K "Day" "without_meter" "Day.without_meter" bJ ["self"]) (B:Bl mg BN) (G_Day_metered:f_ P w K mg base 2 "Day" "metered" 2 du) (T_Day:lX K "Day" gX):f_ P w K mg base 3 "Day" "without_meter" 1 aX:=by
 refine mV A gT rfl rfl fun f cdv A outer s H E hr=> ?_
 have hu:=cg hr
 have S:=gT
 exact aq (bq (bn ba cb (B.no "tuple" (by decide)) L2.Pu.bv (aB (PQ.bo (mL (cj.of rfl (by first|decide+kernel|rfl)) rfl (fw (dI T_Day (by decide) (ae 0))) (fun _ _ _=>aU 1 (show ([".0","stream","self"]:List Str).Nodup by decide+kernel)) (fun _ _ _=>zJ (kF (iX (PQ.bo (Ag G_Day_metered (hr.mono (by decide)) (ao 2) (ac (bd hu (ae 1) (PQ.bo (ak))) (al))))))) (fun _ _ _=>ao 1))) (aL))))
theorem kO:aK ["day","clashes","bunch","rise","brought"] ["day"] (ah dh):=⟨rfl,rfl,rfl,by decide+kernel,rfl,by decide+kernel,by decide+kernel⟩
theorem qb (A:aR K mg "clashes_of" dh ["day"]) (B:Bl mg BN) (G_bunches_of:aM P w K mg base 3 "bunches_of" 2 cu) (G_Day_without_meter:f_ P w K mg base 3 "Day" "without_meter" 1 aX) (G_rise_of:aM P w K mg base 1 "rise_of" 2 eg) (G_brought_by:aM P w K mg base 2 "brought_by" 3 cr) {t_OUTSIDE:Tok} (gl_OUTSIDE:mg "OUTSIDE"=some (.int 0 t_OUTSIDE)) (T_Day:lX K "Day" gX):aM P w K mg base 4 "clashes_of" 1 eo:=by
 refine bu A kO rfl rfl fun f cdv A outer s H E hr=> ?_
 have hu:=cg hr
 have S:=kO
 exact ag (fK 1 S.nd (al))
     (ag (eu PassesOwn.leaving rfl (fw (cc G_bunches_of (hr.mono (by decide)) (ac (dI T_Day (by decide) (ae 0)) (ac (wo G_Day_without_meter (hr.mono (by decide)) (ao 0)) (al))))) (aU 2 S.nd)
     (aq (cY (iC hu (PQ.bo (w9 rfl gl_OUTSIDE)) (ae 2))
     (ag (aQ 3 S.nd (cc G_rise_of (hr.mono (by decide)) (ac (dI T_Day (by decide) (ae 0)) (ac (ao 2) (al)))))
     (ag (aQ 4 S.nd (cc G_brought_by (hr.mono (by decide)) (ac (dI T_Day (by decide) (ae 0)) (ac (dI T_Day (by decide) (ae 0)) (ac (ao 2) (al))))))
     (aq (cY (c0 lE jj (ae 3) (ae 4))
     (aq (cK 1 (iA (ac (ao 2) (ac (ao 3) (ac (ao 4) (al)))))))
     (bj)))))
     (bj))))
     (aq (bq (bn ba cb (B.no "tuple" (by decide)) L2.Pu.bv (aB (ae 1) (aL))))))
theorem iG:aK ["day"] ["day"] (ah ce):=⟨rfl,rfl,rfl,by decide+kernel,rfl,by decide+kernel,by decide+kernel⟩
theorem lZ (A:aR K mg "refuse_clashes" ce ["day"]) (B:Bl mg BN) (G_clashes_of:aM P w K mg base 4 "clashes_of" 1 eo) (E_Clashing:tw K mg "Clashing"):aM P w K mg base 5 "refuse_clashes" 1 bE:=by
 refine bu A iG rfl rfl fun f cdv A outer s H E hr=> ?_
 have hu:=cg hr
 have S:=iG
 exact aq (cY (c0 sG oQ (PQ.bo (bB bL cE (B.no "len" (by decide)) PySem.boot_len (aB (PQ.bo (cc G_clashes_of (hr.mono (by decide)) (ac (ao 0) (al)))) (aL)))) (PQ.bo (ak)))
     (aq (wq E_Clashing rfl (ac (oJ) (al))))
     (bj))
theorem pz:aK ["day","tank"] ["day","tank"] (ah gm):=⟨rfl,rfl,rfl,by decide+kernel,rfl,by decide+kernel,by decide+kernel⟩
theorem vq (A:aR K mg "lack_of" gm ["day","tank"]) (B:Bl mg BN) (G_rise_of:aM P w K mg base 1 "rise_of" 2 eg) (G_brought_by:aM P w K mg base 2 "brought_by" 3 cr) (T_Day:lX K "Day" gX):aM P w K mg base 3 "lack_of" 2 j7:=by
 refine bu A pz rfl rfl fun f cdv A outer s H E hr=> ?_
 have hu:=cg hr
 have S:=pz
 exact aq (bq (aG eD cX (PQ.bo (cc G_rise_of (hr.mono (by decide)) (ac (dI T_Day (by decide) (ae 0)) (ac (iA (ac (ao 1) (al))) (al))))) (PQ.bo (cc G_brought_by (hr.mono (by decide)) (ac (dI T_Day (by decide) (ae 0)) (ac (dI T_Day (by decide) (ae 0)) (ac (iA (ac (ao 1) (al))) (al))))))))
theorem kP:aK ["day","amounts","unmetered","bunch","tank","lack","number","direction"] ["day"] (ah di):=⟨rfl,rfl,rfl,by decide+kernel,rfl,by decide+kernel,by decide+kernel⟩
theorem qc (A:aR K mg "setting_of" di ["day"]) (B:Bl mg BN) (G_refuse_clashes:aM P w K mg base 5 "refuse_clashes" 1 bE) (G_Day_without_meter:f_ P w K mg base 3 "Day" "without_meter" 1 aX) (G_bunches_of:aM P w K mg base 3 "bunches_of" 2 cu) (G_lack_of:aM P w K mg base 3 "lack_of" 2 j7) (G_path_of:aM P w K mg base 3 "path_of" 3 gk) (T_Day:lX K "Day" gX):aM P w K mg base 6 "setting_of" 1 bO:=by
 refine bu A kP rfl rfl fun f cdv A outer s H E hr=> ?_
 have hu:=cg hr
 have S:=kP
 exact ag (EW (cc G_refuse_clashes (hr.mono (by decide)) (ac (ao 0) (al))))
     (ag (Ap 1 S.nd (Ao (gI rfl) xU (B.no "dict" (by decide)) L2.Pu.j0 (aB (PQ.bo (mL (cj.of rfl (by first|decide+kernel|rfl)) rfl (fw (dI T_Day (by decide) (ae 0))) (fun _ _ _=>aU 1 (show ([".0","stream"]:List Str).Nodup by decide+kernel)) (fun _ _ _=>mK) (fun _ _ _=>iA (ac (bd hu (ae 1) (PQ.bo (ak))) (ac (ak) (al)))))) (aL))))
     (ag (AA 1 (bn (gI rfl) lS (B.no "dict" (by decide)) L2.Pu.j0 (aB (PQ.bo (dI T_Day (by decide) (ae 0))) (aL))))
     (ag (aQ 2 S.nd (wo G_Day_without_meter (hr.mono (by decide)) (ao 0)))
     (ag (eu PassesOwn.leaving rfl (fw (cc G_bunches_of (hr.mono (by decide)) (ac (dI T_Day (by decide) (ae 0)) (ac (ao 2) (al))))) (aU 3 S.nd)
     (aq (eu PassesOwn.leaving rfl (fw (ko (ae 3) (mP (ak)) (mO))) (aU 4 S.nd)
     (ag (aQ 5 S.nd (cc G_lack_of (hr.mono (by decide)) (ac (ao 0) (ac (ao 4) (al)))))
     (aq (eu PassesOwn.leaving rfl (fw (cc G_path_of (hr.mono (by decide)) (ac (ao 2) (ac (bd hu (ae 3) (PQ.bo (ak))) (ac (ao 4) (al)))))) (nl rfl (bU (aU 6 S.nd) (bU (aU 7 S.nd) (jg))))
     (aq (Fd 1 hu (ao 6) (aG km lM (ae 7) (ae 5))))))))))
     (aq (bq (bn ba cb (B.no "tuple" (by decide)) L2.Pu.bv (aB (PQ.bo (AB rfl (B.no "sorted" (by decide)) (ae 1))) (aL)))))))))
theorem nD:aK ["self","tanks","streams","rises","readings","self.tanks","self.streams","self.rises","self.readings"] ["self","tanks","streams","rises","readings"] (ah dJ):=⟨rfl,rfl,rfl,by decide+kernel,rfl,by decide+kernel,by decide+kernel⟩
theorem iH:∀g∈(["self.tanks","self.streams","self.rises","self.readings"]:List Str),¬uo (ah dJ) g:=by unfold uo;decide+kernel
theorem tR (A:vg K mg "Day" "Day.__init__" dJ ["self","tanks","streams","rises","readings"] gX) (B:Bl mg BN):p6 P w K mg base 1 "Day" 4 cB:=by
 refine xV A nD rfl rfl (by decide) (by decide) fun C f cdv A outer s H E hC hno hr=> ?_
 have hu:=cg hr
 have S:=nD
 exact ag (rT 5 hC (hno "tanks" (by decide)) (rY (by decide) (by decide) (by decide) (by decide)) (ao 1) (hvis:=iH "self.tanks" (by decide)))
     (ag (rT 6 hC (hno "streams" (by decide)) (rY (by decide) (by decide) (by decide) (by decide)) (bn ba cb (B.no "tuple" (by decide)) L2.Pu.bv (aB (PQ.bo (bB (hW rfl) iE (B.no "sorted" (by decide)) L2.Pu.gL (aB (ae 2) (aL)))) (aL))) (hvis:=iH "self.streams" (by decide)))
     (ag (rT 7 hC (hno "rises" (by decide)) (rY (by decide) (by decide) (by decide) (by decide)) (bn ba cb (B.no "tuple" (by decide)) L2.Pu.bv (aB (ae 3) (aL))) (hvis:=iH "self.rises" (by decide)))
     (aq (rT 8 hC (hno "readings" (by decide)) (rY (by decide) (by decide) (by decide) (by decide)) (bn ba cb (B.no "tuple" (by decide)) L2.Pu.bv (aB (PQ.bo (bB (hW rfl) iE (B.no "sorted" (by decide)) L2.Pu.gL (aB (ae 4) (aL)))) (aL))) (hvis:=iH "self.readings" (by decide))))))
theorem qO:aK ["_law_script","_law_k"] ["_law_script","_law_k"] (ah ik):=⟨rfl,rfl,rfl,by decide+kernel,rfl,by decide+kernel,by decide+kernel⟩
theorem y0 (A:aR K mg "_law_at" ik ["_law_script","_law_k"]) (B:Bl mg BN):aM P w K mg base 1 "_law_at" 2 eP:=by
 refine bu A qO rfl rfl fun f cdv A outer s H E hr=> ?_
 have hu:=cg hr
 have S:=qO
 exact ag (cY (c0 yO u_ (ae 1) (PQ.bo (bB bL cE (B.no "len" (by decide)) PySem.boot_len (aB (ae 0) (aL)))))
     (aq (bq (bd hu (ae 0) (ae 1))))
     (bj))
     (aq (bq (ak)))
theorem nE:aK ["_law_script","_law_k","_law_mixed"] ["_law_script","_law_k"] (ah e_):=⟨rfl,rfl,rfl,by decide+kernel,rfl,by decide+kernel,by decide+kernel⟩
theorem tU (A:aR K mg "_law_cell" e_ ["_law_script","_law_k"]) (B:Bl mg BN) (G_law_at:aM P w K mg base 1 "_law_at" 2 eP):aM P w K mg base 2 "_law_cell" 2 aD:=by
 refine bu A nE rfl rfl fun f cdv A outer s H E hr=> ?_
 have hu:=cg hr
 have S:=nE
 exact ag (cY (c0 eK cO (PQ.bo (aG cw bW (PQ.bo (cc G_law_at (hr.mono (by decide)) (ac (ao 0) (ac (ak) (al))))) (PQ.bo (ak)))) (PQ.bo (ak)))
     (aq (bq (cc G_law_at (hr.mono (by decide)) (ac (ao 0) (ac (ao 1) (al))))))
     (bj))
     (ag (aQ 2 S.nd (aG cw bW (PQ.bo (aG km lM (PQ.bo (aG bz bA (PQ.bo (aG bz bA (PQ.bo (aG bz bA (PQ.bo (cc G_law_at (hr.mono (by decide)) (ac (ao 0) (ac (ao 1) (al))))) (PQ.bo (aG dX cZ (PQ.bo (cc G_law_at (hr.mono (by decide)) (ac (ao 0) (ac (ak) (al))))) (PQ.bo (ak)))))) (PQ.bo (aG km lM (PQ.bo (ak)) (ae 1))))) (PQ.bo (ak)))) (PQ.bo (ak)))) (PQ.bo (ak))))
     (aq (bq (aG cw bW (PQ.bo (aG km lM (PQ.bo (aG bz bA (ae 2) (ae 1))) (PQ.bo (ak)))) (PQ.bo (ak))))))
theorem nF:aK ["_law_found","_law_due","_law_k"] ["_law_found","_law_due"] (ah dL):=⟨rfl,rfl,rfl,by decide+kernel,rfl,by decide+kernel,by decide+kernel⟩
theorem l_ (A:aR K mg "_law_same" dL ["_law_found","_law_due"]) (B:Bl mg BN):∀n:Nat,aM P w K mg base n "_law_same" 2 (dM n)
 |0=>zS A rfl
 |n+1=>by
  have Grec:=l_ A B n
  refine bu A nF rfl rfl fun f cdv A outer s H E hr=> ?_
  have hu:=cg hr
  have S:=nF
  exact ag (cY (iX (PQ.bo (nn (.inr (.inr (.inr (.inl rfl)))) (B.no "isinstance" (by decide)) (B.no "tuple" (by decide)) L2.Pu.bv (ae 1))))
     (ag (cY (qz.t (uU (kF (iX (PQ.bo (nn (.inr (.inr (.inr (.inl rfl)))) (B.no "isinstance" (by decide)) (B.no "tuple" (by decide)) L2.Pu.bv (ae 0))))) (oM (c0 lE jj (PQ.bo (bB bL cE (B.no "len" (by decide)) PySem.boot_len (aB (ae 0) (aL)))) (PQ.bo (bB bL cE (B.no "len" (by decide)) PySem.boot_len (aB (ae 1) (aL))))))))
     (aq (bq (iy)))
     (bj))
     (ag (eu PassesOwn.leaving rfl (gJ (B.no "range" (by decide)) (ac (bB bL cE (B.no "len" (by decide)) PySem.boot_len (aB (ae 1) (aL))) (al))) (aU 2 S.nd)
     (aq (cY (kF (iX (PQ.bo (cc Grec (hr.mono (by omega)) (ac (bd hu (ae 0) (ae 2)) (ac (bd hu (ae 1) (ae 2)) (al)))))))
     (aq (bq (iy)))
     (bj))))
     (aq (bq (iy)))))
     (bj))
     (aq (bq (sX (nn (.inr (.inl rfl)) (B.no "isinstance" (by decide)) (B.no "int" (by decide)) L2.Pu.oV (ae 0)) (sX (Ds (nn (.inl rfl) (B.no "isinstance" (by decide)) (B.no "bool" (by decide)) L2.Pu.qC (ae 0))) (wd (wa eK cO (ae 0) (ae 1)))))))
theorem tV (A:aR K mg "_law_same" dL ["_law_found","_law_due"]) (B:Bl mg BN):aM P w K mg base 8 "_law_same" 2 bX:=(l_ A B 8).mono (by decide)
theorem m6:aK ["_law_found"] ["_law_found"] (ah dN):=⟨rfl,rfl,rfl,by decide+kernel,rfl,by decide+kernel,by decide+kernel⟩
theorem r_ (A:aR K mg "_law_whole" dN ["_law_found"]) (B:Bl mg BN):aM P w K mg base 1 "_law_whole" 1 gM:=by
 refine bu A m6 rfl rfl fun f cdv A outer s H E hr=> ?_
 have hu:=cg hr
 have S:=m6
 exact aq (bq (sX (nn (.inr (.inl rfl)) (B.no "isinstance" (by decide)) (B.no "int" (by decide)) L2.Pu.oV (ae 0)) (wd (Ds (nn (.inl rfl) (B.no "isinstance" (by decide)) (B.no "bool" (by decide)) L2.Pu.qC (ae 0))))))
theorem ke:aK ["_law_script","_law_n","_law_many","_law_rows","_law_number","_law_k","_law_room","_law_cell_here","_law_gap","_law_source","_law_target"] ["_law_script","_law_n","_law_many"] (ah cQ):=⟨rfl,rfl,rfl,by decide+kernel,rfl,by decide+kernel,by decide+kernel⟩
theorem pA (A:aR K mg "_law_streams" cQ ["_law_script","_law_n","_law_many"]) (B:Bl mg BN) (G_law_cell:aM P w K mg base 2 "_law_cell" 2 aD):aM P w K mg base 3 "_law_streams" 3 eQ:=by
 refine bu A ke rfl rfl fun f cdv A outer s H E hr=> ?_
 have hu:=cg hr
 have S:=ke
 exact ag (fK 3 S.nd (al))
     (ag (aQ 4 S.nd (ak))
     (ag (eu PassesOwn.leaving rfl (gJ (B.no "range" (by decide)) (ac (ao 2) (al))) (aU 5 S.nd)
     (ag (aQ 6 S.nd (aG bz bA (PQ.bo (aG eD cX (PQ.bo (aG eD cX (PQ.bo (ak)) (ae 4))) (ae 2))) (ae 5)))
     (ag (aQ 7 S.nd (cc G_law_cell (hr.mono (by decide)) (ac (ao 0) (ac (aG bz bA (PQ.bo (ak)) (ae 5)) (al)))))
     (ag (aQ 8 S.nd (aG cw bW (ae 7) (ae 6)))
     (ag (cY (c0 eK cO (PQ.bo (aG cw bW (PQ.bo (aG dX cZ (PQ.bo (cc G_law_cell (hr.mono (by decide)) (ac (ao 0) (ac (ak) (al))))) (PQ.bo (ak)))) (PQ.bo (ak)))) (PQ.bo (ak)))
     (aq (aQ 8 S.nd (aG cw bW (ae 8) (PQ.bo (ak)))))
     (bj))
     (ag (aQ 4 S.nd (aG bz bA (PQ.bo (aG bz bA (ae 4) (PQ.bo (ak)))) (ae 8)))
     (ag (aQ 9 S.nd (aG cw bW (PQ.bo (aG dX cZ (ae 7) (ae 6))) (PQ.bo (aG bz bA (ae 1) (PQ.bo (ak))))))
     (ag (aQ 10 S.nd (aG cw bW (PQ.bo (aG bz bA (PQ.bo (aG bz bA (ae 9) (PQ.bo (ak)))) (PQ.bo (aG cw bW (PQ.bo (aG dX cZ (PQ.bo (aG dX cZ (ae 7) (ae 6))) (PQ.bo (aG bz bA (ae 1) (PQ.bo (ak)))))) (ae 1))))) (PQ.bo (aG bz bA (ae 1) (PQ.bo (ak))))))
     (aq (cK 3 (iA (ac (ao 4) (ac (ao 9) (ac (ao 10) (al)))))))))))))))
     (aq (nk [3] (bq (ao 3))))))
theorem kf:aK ["_law_script","_law_streams_here","_law_share","_law_found","_law_k"] ["_law_script","_law_streams_here","_law_share"] (ah cR):=⟨rfl,rfl,rfl,by decide+kernel,rfl,by decide+kernel,by decide+kernel⟩
theorem pB (A:aR K mg "_law_metered" cR ["_law_script","_law_streams_here","_law_share"]) (B:Bl mg BN) (G_law_cell:aM P w K mg base 2 "_law_cell" 2 aD):aM P w K mg base 3 "_law_metered" 3 eR:=by
 refine bu A kf rfl rfl fun f cdv A outer s H E hr=> ?_
 have hu:=cg hr
 have S:=kf
 exact ag (fK 3 S.nd (al))
     (ag (eu PassesOwn.leaving rfl (gJ (B.no "range" (by decide)) (ac (bB bL cE (B.no "len" (by decide)) PySem.boot_len (aB (ae 1) (aL))) (al))) (aU 4 S.nd)
     (aq (cY (qz.t (sV (c0 yO u_ (PQ.bo (aG cw bW (PQ.bo (cc G_law_cell (hr.mono (by decide)) (ac (ao 0) (ac (aG bz bA (PQ.bo (ak)) (ae 4)) (al))))) (PQ.bo (ak)))) (ae 2)) (oK (c0 yO u_ (PQ.bo (bB bL cE (B.no "len" (by decide)) PySem.boot_len (aB (ae 3) (aL)))) (PQ.bo (ak))))))
     (aq (cK 3 (bd hu (PQ.bo (bd hu (ae 1) (ae 4))) (PQ.bo (ak)))))
     (bj))))
     (aq (nk [3] (bq (ao 3)))))
theorem nG:aK ["_law_levels","_law_source","_law_target","_law_most","_law_low","_law_high"] ["_law_levels","_law_source","_law_target","_law_most"] (ah fc):=⟨rfl,rfl,rfl,by decide+kernel,rfl,by decide+kernel,by decide+kernel⟩
theorem tW (A:aR K mg "_law_span" fc ["_law_levels","_law_source","_law_target","_law_most"]) (B:Bl mg BN):aM P w K mg base 1 "_law_span" 4 im:=by
 refine bu A nG rfl rfl fun f cdv A outer s H E hr=> ?_
 have hu:=cg hr
 have S:=nG
 exact ag (aQ 4 S.nd (Cg o7 nZ (ae 3)))
     (ag (aQ 5 S.nd (ao 3))
     (ag (cY (c0 sG oQ (ae 1) (PQ.bo (ak)))
     (ag (aQ 4 S.nd (bB (qg rfl) wk (B.no "max" (by decide)) L2.Pu.t8 (aB (ae 4) (aB (PQ.bo (aG eD cX (PQ.bo (bd hu (ae 0) (ae 1))) (PQ.bo (ak)))) (aL)))))
     (aq (aQ 5 S.nd (bB (qh rfl) wj (B.no "min" (by decide)) L2.Pu.t7 (aB (ae 5) (aB (PQ.bo (aG bz bA (PQ.bo (bd hu (ae 0) (ae 1))) (PQ.bo (ak)))) (aL)))))))
     (bj))
     (ag (cY (c0 sG oQ (ae 2) (PQ.bo (ak)))
     (ag (aQ 4 S.nd (bB (qg rfl) wk (B.no "max" (by decide)) L2.Pu.t8 (aB (ae 4) (aB (PQ.bo (aG eD cX (PQ.bo (Cg o7 nZ (PQ.bo (ak)))) (PQ.bo (bd hu (ae 0) (ae 2))))) (aL)))))
     (aq (aQ 5 S.nd (bB (qh rfl) wj (B.no "min" (by decide)) L2.Pu.t7 (aB (ae 5) (aB (PQ.bo (aG eD cX (PQ.bo (ak)) (PQ.bo (bd hu (ae 0) (ae 2))))) (aL)))))))
     (bj))
     (aq (bq (iB (ac (ao 4) (ac (ao 5) (al)))))))))
theorem m7:aK ["_law_figures","_law_n","_law_streams_here","_law_meters","_law_bounds","_law_levels","_law_rows","_law_k","_law_number","_law_source","_law_target","_law_low","_law_high","_law_amount"] ["_law_figures","_law_n","_law_streams_here","_law_meters","_law_bounds"] (ah dO):=⟨rfl,rfl,rfl,by decide+kernel,rfl,by decide+kernel,by decide+kernel⟩
theorem s9 (A:aR K mg "_law_flows" dO ["_law_figures","_law_n","_law_streams_here","_law_meters","_law_bounds"]) (B:Bl mg BN) (G_law_span:aM P w K mg base 1 "_law_span" 4 im):aM P w K mg base 2 "_law_flows" 5 gO:=by
 refine bu A m7 rfl rfl fun f cdv A outer s H E hr=> ?_
 have hu:=cg hr
 have S:=m7
 exact ag (Ap 5 S.nd (GH km Aq (PQ.bo (iB (ac (ak) (al)))) (PQ.bo (aG bz bA (ae 1) (PQ.bo (ak))))))
     (ag (fK 6 S.nd (al))
     (ag (eu PassesOwn.leaving rfl (gJ (B.no "range" (by decide)) (ac (bB bL cE (B.no "len" (by decide)) PySem.boot_len (aB (ae 2) (aL))) (al))) (aU 7 S.nd)
     (ag (Dt (bd hu (ae 2) (ae 7)) (nl rfl (bU (aU 8 S.nd) (bU (aU 9 S.nd) (bU (aU 10 S.nd) (jg))))))
     (ag (EY [5] rfl (cc G_law_span (hr.mono (by decide)) (ac (ao 5) (ac (ao 9) (ac (ao 10) (ac (bd hu (ae 4) (PQ.bo (bn xm Ck (B.no "int" (by decide)) L2.Pu.oV (aB (PQ.bo (Cj hu (ae 8) (ae 3))) (aL))))) (al)))))) (bU (aU 11 S.nd) (bU (aU 12 S.nd) (jg))))
     (ag (aQ 13 S.nd (aG bz bA (ae 11) (PQ.bo (aG cw bW (PQ.bo (bd hu (ae 0) (ae 7))) (PQ.bo (aG bz bA (PQ.bo (aG eD cX (ae 12) (ae 11))) (PQ.bo (ak))))))))
     (ag (sZ 5 hu (ao 9) (aG eD cX (PQ.bo (bd hu (ae 5) (ae 9))) (ae 13)))
     (ag (sZ 5 hu (ao 10) (aG bz bA (PQ.bo (bd hu (ae 5) (ae 10))) (ae 13)))
     (aq (cK 6 (iA (ac (ao 8) (ac (ao 13) (al))))))))))))
     (aq (bq (iB (ac (bn ba cb (B.no "tuple" (by decide)) L2.Pu.bv (aB (ae 6) (aL))) (ac (bn ba cb (B.no "tuple" (by decide)) L2.Pu.bv (aB (PQ.bo (ko (ae 5) (mP (ak)) (mO))) (aL))) (al))))))))
theorem m8:aK ["_law_script","_law_n","_law_streams_here","_law_metered_here","_law_small","_law_figures"] ["_law_script","_law_n","_law_streams_here","_law_metered_here","_law_small"] (ah dP):=⟨rfl,rfl,rfl,by decide+kernel,rfl,by decide+kernel,by decide+kernel⟩
theorem se (A:aR K mg "_law_truth" dP ["_law_script","_law_n","_law_streams_here","_law_metered_here","_law_small"]) (B:Bl mg BN) (G_law_cell:aM P w K mg base 2 "_law_cell" 2 aD) (G_law_flows:aM P w K mg base 2 "_law_flows" 5 gO):aM P w K mg base 3 "_law_truth" 5 gP:=by
 refine bu A m8 rfl rfl fun f cdv A outer s H E hr=> ?_
 have hu:=cg hr
 have S:=m8
 exact ag (EI 5 (cj.of rfl (by first|decide+kernel|rfl)) rfl S.nd (gJ (B.no "range" (by decide)) (ac (bB bL cE (B.no "len" (by decide)) PySem.boot_len (aB (ae 2) (aL))) (al))) (fun _ _ _=>aU 1 (show ([".0","_law_k","_law_cell","_law_script"]:List Str).Nodup by decide+kernel)) (fun _ _ _=>mK) (fun _ _ _=>aG dX cZ (PQ.bo (cc G_law_cell (hr.mono (by decide)) (ac (ao 3) (ac (aG bz bA (PQ.bo (ak)) (ae 1)) (al))))) (PQ.bo (ak))))
     (aq (nk [5] (bq (cc G_law_flows (hr.mono (by decide)) (ac (ao 5) (ac (ao 1) (ac (ao 2) (ac (ao 3) (ac (bd hu (PQ.bo (iB (ac (iB (ac (ak) (ac (ak) (al)))) (ac (iB (ac (ak) (ac (ak) (al)))) (al))))) (ae 4)) (al))))))))))
theorem jx:aK ["_law_script","_law_truth_here","_law_metered_here","_law_mode","_law_small","_law_found","_law_k","_law_number","_law_amount","_law_cell_here"] ["_law_script","_law_truth_here","_law_metered_here","_law_mode","_law_small"] (ah cC):=⟨rfl,rfl,rfl,by decide+kernel,rfl,by decide+kernel,by decide+kernel⟩
theorem nQ (A:aR K mg "_law_readings" cC ["_law_script","_law_truth_here","_law_metered_here","_law_mode","_law_small"]) (B:Bl mg BN) (G_law_cell:aM P w K mg base 2 "_law_cell" 2 aD):aM P w K mg base 3 "_law_readings" 5 dQ:=by
 refine bu A jx rfl rfl fun f cdv A outer s H E hr=> ?_
 have hu:=cg hr
 have S:=jx
 exact ag (fK 5 S.nd (al))
     (ag (eu PassesOwn.leaving rfl (gJ (B.no "range" (by decide)) (ac (bB bL cE (B.no "len" (by decide)) PySem.boot_len (aB (ae 1) (aL))) (al))) (aU 6 S.nd)
     (ag (Dt (bd hu (ae 1) (ae 6)) (nl rfl (bU (aU 7 S.nd) (bU (aU 8 S.nd) (jg)))))
     (ag (aQ 9 S.nd (cc G_law_cell (hr.mono (by decide)) (ac (ao 0) (ac (aG bz bA (PQ.bo (ak)) (ae 6)) (al)))))
     (ag (cY (iC hu (ae 7) (ae 2))
     (aq (oN))
     (bj))
     (ag (cY (qz.t (uU (c0 eK cO (ae 3) (PQ.bo (ak))) (oM (qz.t (sV (c0 eK cO (ae 3) (PQ.bo (ak))) (oK (c0 eK cO (PQ.bo (aG cw bW (ae 9) (PQ.bo (ak)))) (PQ.bo (ak)))))))))
     (aq (aQ 8 S.nd (bd hu (PQ.bo (iB (ac (aG eD cX (PQ.bo (aG cw bW (PQ.bo (aG dX cZ (ae 9) (PQ.bo (ak)))) (PQ.bo (ak)))) (PQ.bo (ak))) (ac (aG eD cX (PQ.bo (aG cw bW (PQ.bo (aG dX cZ (ae 9) (PQ.bo (ak)))) (PQ.bo (ak)))) (PQ.bo (ak))) (al))))) (ae 4))))
     (bj))
     (aq (cK 5 (iA (ac (ao 7) (ac (ao 8) (al)))))))))))
     (aq (nk [5] (bq (ao 5)))))
theorem m9:aK ["_law_script","_law_levels","_law_mode","_law_small","_law_found","_law_k","_law_cell_here","_law_rise"] ["_law_script","_law_levels","_law_mode","_law_small"] (ah dR):=⟨rfl,rfl,rfl,by decide+kernel,rfl,by decide+kernel,by decide+kernel⟩
theorem sf (A:aR K mg "_law_rises" dR ["_law_script","_law_levels","_law_mode","_law_small"]) (B:Bl mg BN) (G_law_cell:aM P w K mg base 2 "_law_cell" 2 aD):aM P w K mg base 3 "_law_rises" 4 gQ:=by
 refine bu A m9 rfl rfl fun f cdv A outer s H E hr=> ?_
 have hu:=cg hr
 have S:=m9
 exact ag (fK 4 S.nd (al))
     (ag (eu PassesOwn.leaving rfl (gJ (B.no "range" (by decide)) (ac (bB bL cE (B.no "len" (by decide)) PySem.boot_len (aB (ae 1) (aL))) (al))) (aU 5 S.nd)
     (ag (aQ 6 S.nd (cc G_law_cell (hr.mono (by decide)) (ac (ao 0) (ac (aG bz bA (PQ.bo (ak)) (ae 5)) (al)))))
     (ag (aQ 7 S.nd (bd hu (ae 1) (ae 5)))
     (ag (cY (qz.t (uU (c0 eK cO (ae 2) (PQ.bo (ak))) (oM (qz.t (sV (c0 eK cO (ae 2) (PQ.bo (ak))) (oK (c0 eK cO (PQ.bo (aG cw bW (ae 6) (PQ.bo (ak)))) (PQ.bo (ak)))))))))
     (aq (aQ 7 S.nd (bd hu (PQ.bo (iB (ac (aG eD cX (PQ.bo (aG cw bW (PQ.bo (aG dX cZ (ae 6) (PQ.bo (ak)))) (PQ.bo (ak)))) (PQ.bo (ak))) (ac (aG eD cX (PQ.bo (aG cw bW (PQ.bo (aG dX cZ (ae 6) (PQ.bo (ak)))) (PQ.bo (ak)))) (PQ.bo (ak))) (al))))) (ae 3))))
     (bj))
     (aq (cK 4 (ao 7)))))))
     (aq (nk [4] (bq (ao 4)))))
theorem nH:aK ["_law_script","_law_n","_law_many","_law_mode","_law_small","_law_streams_here","_law_metered_here","_law_truth_here","_law_readings_here","_law_rises_here"] ["_law_script"] (ah fj):=⟨rfl,rfl,rfl,by decide+kernel,rfl,by decide+kernel,by decide+kernel⟩
theorem tX (A:aR K mg "_law_case" fj ["_law_script"]) (B:Bl mg BN) (G_law_cell:aM P w K mg base 2 "_law_cell" 2 aD) (G_law_streams:aM P w K mg base 3 "_law_streams" 3 eQ) (G_law_metered:aM P w K mg base 3 "_law_metered" 3 eR) (G_law_truth:aM P w K mg base 3 "_law_truth" 5 gP) (G_law_readings:aM P w K mg base 3 "_law_readings" 5 dQ) (G_law_rises:aM P w K mg base 3 "_law_rises" 4 gQ):aM P w K mg base 4 "_law_case" 1 ip:=by
 refine bu A nH rfl rfl fun f cdv A outer s H E hr=> ?_
 have hu:=cg hr
 have S:=nH
 exact ag (aQ 1 S.nd (aG cw bW (PQ.bo (cc G_law_cell (hr.mono (by decide)) (ac (ao 0) (ac (ak) (al))))) (PQ.bo (ak))))
     (ag (aQ 2 S.nd (ak))
     (ag (cY (c0 sG oQ (ae 1) (PQ.bo (ak)))
     (aq (aQ 2 S.nd (aG cw bW (PQ.bo (cc G_law_cell (hr.mono (by decide)) (ac (ao 0) (ac (ak) (al))))) (PQ.bo (ak)))))
     (bj))
     (ag (aQ 3 S.nd (aG cw bW (PQ.bo (cc G_law_cell (hr.mono (by decide)) (ac (ao 0) (ac (ak) (al))))) (PQ.bo (ak))))
     (ag (aQ 4 S.nd (aG cw bW (PQ.bo (aG dX cZ (PQ.bo (cc G_law_cell (hr.mono (by decide)) (ac (ao 0) (ac (ak) (al))))) (PQ.bo (ak)))) (PQ.bo (ak))))
     (ag (aQ 5 S.nd (cc G_law_streams (hr.mono (by decide)) (ac (ao 0) (ac (ao 1) (ac (ao 2) (al))))))
     (ag (aQ 6 S.nd (cc G_law_metered (hr.mono (by decide)) (ac (ao 0) (ac (ao 5) (ac (aG cw bW (PQ.bo (cc G_law_cell (hr.mono (by decide)) (ac (ao 0) (ac (ak) (al))))) (PQ.bo (ak))) (al))))))
     (ag (aQ 7 S.nd (cc G_law_truth (hr.mono (by decide)) (ac (ao 0) (ac (ao 1) (ac (ao 5) (ac (ao 6) (ac (ao 4) (al))))))))
     (ag (aQ 8 S.nd (cc G_law_readings (hr.mono (by decide)) (ac (ao 0) (ac (bd hu (ae 7) (PQ.bo (ak))) (ac (ao 6) (ac (ao 3) (ac (ao 4) (al))))))))
     (ag (aQ 9 S.nd (cc G_law_rises (hr.mono (by decide)) (ac (ao 0) (ac (bd hu (ae 7) (PQ.bo (ak))) (ac (ao 3) (ac (ao 4) (al)))))))
     (aq (bq (iA (ac (ao 1) (ac (bn ba cb (B.no "tuple" (by decide)) L2.Pu.bv (aB (ae 5) (aL))) (ac (bn ba cb (B.no "tuple" (by decide)) L2.Pu.bv (aB (ae 9) (aL))) (ac (bn ba cb (B.no "tuple" (by decide)) L2.Pu.bv (aB (ae 8) (aL))) (al)))))))))))))))))
theorem pC:aK ["_law_script","_law_case_here","_law_turned","_law_half","_law_mid"] ["_law_script","_law_case_here"] (ah gn):=⟨rfl,rfl,rfl,by decide+kernel,rfl,by decide+kernel,by decide+kernel⟩
theorem vt (A:aR K mg "_law_day" gn ["_law_script","_law_case_here"]) (B:Bl mg BN) (G_law_cell:aM P w K mg base 2 "_law_cell" 2 aD) (G_Day_init:p6 P w K mg base 1 "Day" 4 cB):aM P w K mg base 3 "_law_day" 2 j8:=by
 refine bu A pC rfl rfl fun f cdv A outer s H E hr=> ?_
 have hu:=cg hr
 have S:=pC
 exact ag (aQ 2 S.nd (aG cw bW (PQ.bo (cc G_law_cell (hr.mono (by decide)) (ac (ao 0) (ac (ak) (al))))) (PQ.bo (ak))))
     (ag (cY (c0 eK cO (ae 2) (PQ.bo (ak)))
     (aq (bq (rV G_Day_init (hr.mono (by decide)) (ac (bd hu (ae 1) (PQ.bo (ak))) (ac (bn dZ i_ (B.no "list" (by decide)) L2.Pu.fZ (aB (PQ.bo (bd hu (ae 1) (PQ.bo (ak)))) (aL))) (ac (bn dZ i_ (B.no "list" (by decide)) L2.Pu.fZ (aB (PQ.bo (bd hu (ae 1) (PQ.bo (ak)))) (aL))) (ac (bn dZ i_ (B.no "list" (by decide)) L2.Pu.fZ (aB (PQ.bo (bd hu (ae 1) (PQ.bo (ak)))) (aL))) (al))))))))
     (bj))
     (ag (cY (c0 eK cO (ae 2) (PQ.bo (ak)))
     (aq (bq (rV G_Day_init (hr.mono (by decide)) (ac (bd hu (ae 1) (PQ.bo (ak))) (ac (Dz (PQ.bo (bn dZ i_ (B.no "list" (by decide)) L2.Pu.fZ (aB (PQ.bo (bd hu (ae 1) (PQ.bo (ak)))) (aL))))) (ac (bn dZ i_ (B.no "list" (by decide)) L2.Pu.fZ (aB (PQ.bo (bd hu (ae 1) (PQ.bo (ak)))) (aL))) (ac (Dz (PQ.bo (bn dZ i_ (B.no "list" (by decide)) L2.Pu.fZ (aB (PQ.bo (bd hu (ae 1) (PQ.bo (ak)))) (aL))))) (al))))))))
     (bj))
     (ag (cY (c0 eK cO (ae 2) (PQ.bo (ak)))
     (aq (bq (rV G_Day_init (hr.mono (by decide)) (ac (bd hu (ae 1) (PQ.bo (ak))) (ac (bd hu (ae 1) (PQ.bo (ak))) (ac (bd hu (ae 1) (PQ.bo (ak))) (ac (bd hu (ae 1) (PQ.bo (ak))) (al))))))))
     (bj))
     (ag (aQ 3 S.nd (aG dX cZ (PQ.bo (bB bL cE (B.no "len" (by decide)) PySem.boot_len (aB (PQ.bo (bd hu (ae 1) (PQ.bo (ak)))) (aL)))) (PQ.bo (ak))))
     (ag (aQ 4 S.nd (aG dX cZ (PQ.bo (bB bL cE (B.no "len" (by decide)) PySem.boot_len (aB (PQ.bo (bd hu (ae 1) (PQ.bo (ak)))) (aL)))) (PQ.bo (ak))))
     (aq (bq (rV G_Day_init (hr.mono (by decide)) (ac (bd hu (ae 1) (PQ.bo (ak))) (ac (aG bz bA (PQ.bo (ko (PQ.bo (bd hu (ae 1) (PQ.bo (ak)))) (mP (ao 3)) (mO))) (PQ.bo (ko (PQ.bo (bd hu (ae 1) (PQ.bo (ak)))) (mO) (mP (ao 3))))) (ac (bd hu (ae 1) (PQ.bo (ak))) (ac (aG bz bA (PQ.bo (ko (PQ.bo (bd hu (ae 1) (PQ.bo (ak)))) (mP (ao 4)) (mO))) (PQ.bo (ko (PQ.bo (bd hu (ae 1) (PQ.bo (ak)))) (mO) (mP (ao 4))))) (al)))))))))))))
theorem nI:aK ["_law_day_here","_law_case_here"] ["_law_day_here","_law_case_here"] (ah ft):=⟨rfl,rfl,rfl,by decide+kernel,rfl,by decide+kernel,by decide+kernel⟩
theorem tY (A:aR K mg "_law_kept" ft ["_law_day_here","_law_case_here"]) (B:Bl mg BN) (G_law_same:aM P w K mg base 8 "_law_same" 2 bX) (T_Day:lX K "Day" gX):aM P w K mg base 9 "_law_kept" 2 iq:=by
 refine bu A nI rfl rfl fun f cdv A outer s H E hr=> ?_
 have hu:=cg hr
 have S:=nI
 exact ag (cY (qz.t (uU (kF (iX (PQ.bo (cc G_law_same (hr.mono (by decide)) (ac (dI T_Day (by decide) (ae 0)) (ac (bd hu (ae 1) (PQ.bo (ak))) (al))))))) (oM (kF (iX (PQ.bo (cc G_law_same (hr.mono (by decide)) (ac (dI T_Day (by decide) (ae 0)) (ac (bd hu (ae 1) (PQ.bo (ak))) (al))))))))))
     (aq (bq (iy)))
     (bj))
     (aq (bq (sX (cc G_law_same (hr.mono (by decide)) (ac (dI T_Day (by decide) (ae 0)) (ac (bd hu (ae 1) (PQ.bo (ak))) (al)))) (wd (cc G_law_same (hr.mono (by decide)) (ac (dI T_Day (by decide) (ae 0)) (ac (bd hu (ae 1) (PQ.bo (ak))) (al))))))))
theorem ma:aK ["_law_case_here","_law_read"] ["_law_case_here"] (ah dS):=⟨rfl,rfl,rfl,by decide+kernel,rfl,by decide+kernel,by decide+kernel⟩
theorem sg (A:aR K mg "_law_loose" dS ["_law_case_here"]) (B:Bl mg BN):aM P w K mg base 1 "_law_loose" 1 gR:=by
 refine bu A ma rfl rfl fun f cdv A outer s H E hr=> ?_
 have hu:=cg hr
 have S:=ma
 exact ag (Cv 1 (cj.of rfl (by first|decide+kernel|rfl)) rfl S.nd (fw (bd hu (ae 0) (PQ.bo (ak)))) (fun _ _ _=>aU 1 (show ([".0","_law_row"]:List Str).Nodup by decide+kernel)) (fun _ _ _=>mK) (fun _ _ _=>bd hu (ae 1) (PQ.bo (ak))))
     (aq (bq (mL (cj.of rfl (by first|decide+kernel|rfl)) rfl (fw (bd hu (ae 0) (PQ.bo (ak)))) (fun _ _ _=>aU 1 (show ([".0","_law_stream","_law_read"]:List Str).Nodup by decide+kernel)) (fun _ _ _=>zJ (iC hu (PQ.bo (bd hu (ae 1) (PQ.bo (ak)))) (ae 2))) (fun _ _ _=>ao 1))))
theorem md:aK ["_law_streams_here","_law_place","_law_seen","_law_grown","_law_number","_law_source","_law_target"] ["_law_streams_here","_law_place"] (ah dU):=⟨rfl,rfl,rfl,by decide+kernel,rfl,by decide+kernel,by decide+kernel⟩
theorem sh (A:aR K mg "_law_flood" dU ["_law_streams_here","_law_place"]) (B:Bl mg BN):aM P w K mg base 1 "_law_flood" 2 fA:=by
 refine bu A md rfl rfl fun f cdv A outer s H E hr=> ?_
 have hu:=cg hr
 have S:=md
 exact ag (fK 2 S.nd (ac (ao 1) (al)))
     (ag (aQ 3 S.nd (iy))
     (ag (rL 100 PassesOwn.leaving (iX (ae 3))
     (ag (aQ 3 S.nd (iy))
     (aq (eu PassesOwn.leaving rfl (fw (ao 0)) (nl rfl (bU (aU 4 S.nd) (bU (aU 5 S.nd) (bU (aU 6 S.nd) (jg)))))
     (ag (cY (qz.t (sV (Gs hu (ae 5) (ae 2)) (oK (iC hu (ae 6) (ae 2)))))
     (ag (cK 2 (ao 6))
     (aq (aQ 3 S.nd (iy))))
     (bj))
     (aq (cY (qz.t (sV (Gs hu (ae 6) (ae 2)) (oK (iC hu (ae 5) (ae 2)))))
     (ag (cK 2 (ao 5))
     (aq (aQ 3 S.nd (iy))))
     (bj))))))))
     (aq (nk [2] (bq (ao 2))))))
theorem pD:aK ["_law_streams_here","_law_amounts","_law_group","_law_total","_law_carried","_law_tank","_law_number","_law_source","_law_target"] ["_law_streams_here","_law_amounts","_law_group"] (ah gq):=⟨rfl,rfl,rfl,by decide+kernel,rfl,by decide+kernel,by decide+kernel⟩
theorem vv (A:aR K mg "_law_net" gq ["_law_streams_here","_law_amounts","_law_group"]) (B:Bl mg BN):aM P w K mg base 1 "_law_net" 3 dw:=by
 refine bu A pD rfl rfl fun f cdv A outer s H E hr=> ?_
 have hu:=cg hr
 have S:=pD
 exact ag (aQ 3 S.nd (ak))
     (ag (aQ 4 S.nd (bn (gI rfl) lS (B.no "dict" (by decide)) L2.Pu.j0 (aB (ae 1) (aL))))
     (ag (eu PassesOwn.leaving rfl (fw (ao 2)) (aU 5 S.nd)
     (aq (eu PassesOwn.leaving rfl (fw (ao 0)) (nl rfl (bU (aU 6 S.nd) (bU (aU 7 S.nd) (bU (aU 8 S.nd) (jg)))))
     (ag (cY (c0 eK cO (ae 8) (ae 5))
     (aq (aQ 3 S.nd (aG bz bA (ae 3) (PQ.bo (v8 hu (ae 4) (ao 6) (ak))))))
     (bj))
     (aq (cY (c0 eK cO (ae 7) (ae 5))
     (aq (aQ 3 S.nd (aG eD cX (ae 3) (PQ.bo (v8 hu (ae 4) (ao 6) (ak))))))
     (bj)))))))
     (aq (bq (ao 3)))))
theorem ir:aK ["_law_case_here","_law_found","_law_loose_here","_law_tank","_law_group","_law_rise","_law_came"] ["_law_case_here"] (ah bY):=⟨rfl,rfl,rfl,by decide+kernel,rfl,by decide+kernel,by decide+kernel⟩
theorem lq (A:aR K mg "_law_due_clashes" bY ["_law_case_here"]) (B:Bl mg BN) (G_law_loose:aM P w K mg base 1 "_law_loose" 1 gR) (G_law_flood:aM P w K mg base 1 "_law_flood" 2 fA) (G_law_net:aM P w K mg base 1 "_law_net" 3 dw):aM P w K mg base 2 "_law_due_clashes" 1 cL:=by
 refine bu A ir rfl rfl fun f cdv A outer s H E hr=> ?_
 have hu:=cg hr
 have S:=ir
 exact ag (fK 1 S.nd (al))
     (ag (aQ 2 S.nd (cc G_law_loose (hr.mono (by decide)) (ac (ao 0) (al))))
     (ag (eu PassesOwn.leaving rfl (sY (B.no "range" (by decide)) (ac (ak) (ac (aG bz bA (PQ.bo (bd hu (ae 0) (PQ.bo (ak)))) (PQ.bo (ak))) (al)))) (aU 3 S.nd)
     (ag (aQ 4 S.nd (bB (hW rfl) iE (B.no "sorted" (by decide)) L2.Pu.gL (aB (PQ.bo (cc G_law_flood (hr.mono (by decide)) (ac (ao 2) (ac (ao 3) (al))))) (aL))))
     (ag (cY (c0 lE jj (PQ.bo (bd hu (ae 4) (PQ.bo (ak)))) (ae 3))
     (aq (oN))
     (bj))
     (ag (aQ 5 S.nd (bB (mF rfl) rO (B.no "sum" (by decide)) L2.Pu.mQ (aB (PQ.bo (mL (cj.of rfl (by first|decide+kernel|rfl)) rfl (fw (ao 4)) (fun _ _ _=>aU 1 (show ([".0","_law_one","_law_case_here"]:List Str).Nodup by decide+kernel)) (fun _ _ _=>mK) (fun _ _ _=>bd hu (PQ.bo (bd hu (ae 2) (PQ.bo (ak)))) (PQ.bo (aG eD cX (ae 1) (PQ.bo (ak))))))) (aL))))
     (ag (aQ 6 S.nd (cc G_law_net (hr.mono (by decide)) (ac (bd hu (ae 0) (PQ.bo (ak))) (ac (bd hu (ae 0) (PQ.bo (ak))) (ac (ao 4) (al))))))
     (aq (cY (c0 lE jj (ae 5) (ae 6))
     (aq (cK 1 (iA (ac (bn ba cb (B.no "tuple" (by decide)) L2.Pu.bv (aB (ae 4) (aL))) (ac (ao 5) (ac (ao 6) (al)))))))
     (bj))))))))
     (aq (bq (bn ba cb (B.no "tuple" (by decide)) L2.Pu.bv (aB (ae 1) (aL)))))))
theorem iI:aK ["_law_case_here","_law_found","_law_carried","_law_k","_law_row","_law_number","_law_reading","_law_tank"] ["_law_case_here","_law_found"] (ah cf):=⟨rfl,rfl,rfl,by decide+kernel,rfl,by decide+kernel,by decide+kernel⟩
theorem me (A:aR K mg "_law_is_setting" cf ["_law_case_here","_law_found"]) (B:Bl mg BN) (G_law_same:aM P w K mg base 8 "_law_same" 2 bX) (G_law_whole:aM P w K mg base 1 "_law_whole" 1 gM) (G_law_net:aM P w K mg base 1 "_law_net" 3 dw):aM P w K mg base 9 "_law_is_setting" 2 d7:=by
 refine bu A iI rfl rfl fun f cdv A outer s H E hr=> ?_
 have hu:=cg hr
 have S:=iI
 exact ag (cY (qz.t (uU (kF (iX (PQ.bo (nn (.inr (.inr (.inr (.inl rfl)))) (B.no "isinstance" (by decide)) (B.no "tuple" (by decide)) L2.Pu.bv (ae 1))))) (oM (c0 lE jj (PQ.bo (bB bL cE (B.no "len" (by decide)) PySem.boot_len (aB (ae 1) (aL)))) (PQ.bo (bB bL cE (B.no "len" (by decide)) PySem.boot_len (aB (PQ.bo (bd hu (ae 0) (PQ.bo (ak)))) (aL))))))))
     (aq (bq (iy)))
     (bj))
     (ag (zD 2 S.nd)
     (ag (eu PassesOwn.leaving rfl (gJ (B.no "range" (by decide)) (ac (bB bL cE (B.no "len" (by decide)) PySem.boot_len (aB (ae 1) (aL))) (al))) (aU 3 S.nd)
     (ag (aQ 4 S.nd (bd hu (ae 1) (ae 3)))
     (ag (cY (qz.t (uU (kF (iX (PQ.bo (nn (.inr (.inr (.inr (.inl rfl)))) (B.no "isinstance" (by decide)) (B.no "tuple" (by decide)) L2.Pu.bv (ae 4))))) (oM (c0 lE jj (PQ.bo (bB bL cE (B.no "len" (by decide)) PySem.boot_len (aB (ae 4) (aL)))) (PQ.bo (ak))))))
     (aq (bq (iy)))
     (bj))
     (ag (cY (qz.t (uU (kF (iX (PQ.bo (cc G_law_same (hr.mono (by decide)) (ac (bd hu (ae 4) (PQ.bo (ak))) (ac (bd hu (PQ.bo (bd hu (PQ.bo (bd hu (ae 0) (PQ.bo (ak)))) (ae 3))) (PQ.bo (ak))) (al))))))) (oM (kF (iX (PQ.bo (cc G_law_whole (hr.mono (by decide)) (ac (bd hu (ae 4) (PQ.bo (ak))) (al)))))))))
     (aq (bq (iy)))
     (bj))
     (aq (sZ 2 hu (bd hu (ae 4) (PQ.bo (ak))) (bd hu (ae 4) (PQ.bo (ak)))))))))
     (ag (eu PassesOwn.leaving rfl (fw (bd hu (ae 0) (PQ.bo (ak)))) (nl rfl (bU (aU 5 S.nd) (bU (aU 6 S.nd) (jg))))
     (aq (cY (c0 lE jj (PQ.bo (bd hu (ae 2) (ae 5))) (ae 6))
     (aq (bq (iy)))
     (bj))))
     (ag (eu PassesOwn.leaving rfl (sY (B.no "range" (by decide)) (ac (ak) (ac (aG bz bA (PQ.bo (bd hu (ae 0) (PQ.bo (ak)))) (PQ.bo (ak))) (al)))) (aU 7 S.nd)
     (aq (cY (c0 lE jj (PQ.bo (cc G_law_net (hr.mono (by decide)) (ac (bd hu (ae 0) (PQ.bo (ak))) (ac (ao 1) (ac (iB (ac (ao 7) (al))) (al)))))) (PQ.bo (bd hu (PQ.bo (bd hu (ae 0) (PQ.bo (ak)))) (PQ.bo (aG eD cX (ae 7) (PQ.bo (ak)))))))
     (aq (bq (iy)))
     (bj))))
     (aq (bq (iy)))))))
theorem mf:aK ["_law_day_here","_law_kinds","e","_law_word"] ["_law_day_here"] (ah dW):=⟨rfl,rfl,rfl,by decide+kernel,rfl,by decide+kernel,by decide+kernel⟩
theorem si (A:aR K mg "_law_asked" dW ["_law_day_here"]) (B:Bl mg BN) (G_setting_of:aM P w K mg base 6 "setting_of" 1 bO) (I_Clashing:pf K mg "Clashing" (jl [("UnknownStream",false),("Clashing",true)])) (I_NothingDone:pf K mg "NothingDone" (jl [("UnknownStream",false),("Clashing",false)])) (I_OutOfRange:pf K mg "OutOfRange" (jl [("UnknownStream",false),("Clashing",false)])) (I_UnknownDay:pf K mg "UnknownDay" (jl [("UnknownStream",false),("Clashing",false)])) (I_UnknownStream:pf K mg "UnknownStream" (jl [("UnknownStream",true),("Clashing",false)])) (I_ValueError:p8 K (.type "ValueError") (jl [("UnknownStream",true),("Clashing",true)])) (U_CellarError:wu K mg "CellarError" (Ar ["UnknownStream","Clashing"])):aM P w K mg base 7 "_law_asked" 1 fD:=by
 refine bu A mf rfl rfl fun f cdv A outer s H E hr=> ?_
 have hu:=cg hr
 have S:=mf
 exact ag (fK 1 S.nd (al))
     (ag (GD 2 oH S.nd U_CellarError (fun _ _=>aq (bq (iB (ac (cc G_setting_of (hr.mono (by decide)) (ac (ao 0) (al))) (ac (oJ) (al))))))
     (fun _=>ag (fK 1 S.nd (ac (ph I_Clashing (B.no "isinstance" (by decide)) (ae 2)) (ac (EV I_ValueError L2.Pu.nP (B.no "ValueError" (by decide)) (B.no "isinstance" (by decide)) (ae 2)) (ac (ph I_UnknownStream (B.no "isinstance" (by decide)) (ae 2)) (al)))))
     (aq (aQ 1 S.nd (aG bz bA (ae 1) (PQ.bo (iB (ac (ph I_UnknownDay (B.no "isinstance" (by decide)) (ae 2)) (ac (ph I_OutOfRange (B.no "isinstance" (by decide)) (ae 2)) (ac (ph I_NothingDone (B.no "isinstance" (by decide)) (ae 2)) (al)))))))))))
     (ag (aQ 3 S.nd (oJ))
     (ag (cY (c0 (Fb hu) CD (ae 1) (PQ.bo (iB (ac (iy) (ac (iy) (ac (iy) (ac (iy) (ac (iy) (ac (iy) (al))))))))))
     (aq (aQ 3 S.nd (oJ)))
     (bj))
     (aq (bq (iB (ac (zA) (ac (ao 3) (al)))))))))
theorem AD:aK ["_law_script","_law_case_here","_law_day_here","_law_found"] ["_law_script"] (ah kJ):=⟨rfl,rfl,rfl,by decide+kernel,rfl,by decide+kernel,by decide+kernel⟩
theorem Fe {f:Addr} {fd:FuncData} (F:yw K "law" "law" kJ f fd) (B:Bl mg BN) (G_law_case:aM P w K mg base 4 "_law_case" 1 ip) (G_law_day:aM P w K mg base 3 "_law_day" 2 j8) (G_law_asked:aM P w K mg base 7 "_law_asked" 1 fD) (G_law_kept:aM P w K mg base 9 "_law_kept" 2 iq) (G_law_due_clashes:aM P w K mg base 2 "_law_due_clashes" 1 cL) (G_law_is_setting:aM P w K mg base 9 "_law_is_setting" 2 d7):gE P w K mg base (nN P w) 10 f fd ["_law_script"] (xE K 1 qN):=by
 refine EH F AD rfl rfl fun cdv A outer s H E hr=> ?_
 have hu:=cg hr
 have S:=AD
 exact ag (aQ 1 S.nd (cc G_law_case (hr.mono (by decide)) (ac (ao 0) (al))))
     (ag (aQ 2 S.nd (cc G_law_day (hr.mono (by decide)) (ac (ao 0) (ac (ao 1) (al)))))
     (ag (aQ 3 S.nd (cc G_law_asked (hr.mono (by decide)) (ac (ao 2) (al))))
     (ag (cY (kF (iX (PQ.bo (cc G_law_kept (hr.mono (by decide)) (ac (ao 2) (ac (ao 1) (al)))))))
     (aq (bq (iy)))
     (bj))
     (ag (cY (c0 (Fc hu) CG (PQ.bo (cc G_law_due_clashes (hr.mono (by decide)) (ac (ao 1) (al)))) (PQ.bo (iA (al))))
     (aq (bq (wa eK cO (PQ.bo (bd hu (ae 3) (PQ.bo (ak)))) (PQ.bo (oJ)))))
     (bj))
     (aq (bq (sX (wa eK cO (PQ.bo (bd hu (ae 3) (PQ.bo (ak)))) (PQ.bo (oJ))) (wd (cc G_law_is_setting (hr.mono (by decide)) (ac (ao 1) (ac (bd hu (ae 3) (PQ.bo (ak))) (al))))))))))))
theorem Ff {l:PySem.W.OpenLaw} {h:Heap} {fa f1 f2 f3 f4 f5 f6 f7 f8 f9 f10 f11 f12 f13 f14 f15 f16 f17 f18 f19 f20 f21 f22 f23 f24 f25 f26 f27 f28 f29 f30 f31 f32 f33 f34 f35 f36 C_Day C_CellarError C_Clashing C_NothingDone C_OutOfRange C_UnknownDay C_UnknownStream:Addr} (X:K.In h) (G:h.Ns mainGlobals mg) (hfa:mg "law"=some (.ref fa))
  {od1 an1 od2 an2 od3 an3 od4 an4 od5 an5 od6 an6 od7 an7 od8 an8 od9 an9 od10 an10 od11 an11 od12 an12 od13 an13 od14 an14 od15 an15 od16 an16 od17 an17 od18 an18 od19 an19 od20 an20 od21 an21 od22 an22 od23 an23 od24 an24 od25 an25 od26 an26 od27 an27 od28 an28 od29 an29 od30 an30 od31 an31 od32 an32 od33 an33 od34 an34 od35 an35 od36 an36:Option Addr} {sl1 sl2 sl3 sl4 sl5 sl6 sl7 sl8 sl9 sl10 sl11 sl12 sl13 sl14 sl15 sl16 sl17 sl18 sl19 sl20 sl21 sl22 sl23 sl24 sl25 sl26 sl27 sl28 sl29 sl30 sl31 sl32 sl33 sl34 sl35 sl36:Array (Option Value)} {oc1 kV1 dc1 pm1 cd1 ct1 oc2 kV2 dc2 pm2 cd2 ct2 oc3 kV3 dc3 pm3 cd3 ct3 oc4 kV4 dc4 pm4 cd4 ct4 oc5 kV5 dc5 pm5 cd5 ct5 oc6 kV6 dc6 pm6 cd6 ct6 oc7 kV7 dc7 pm7 cd7 ct7 oc8 kV8 dc8 pm8 cd8 ct8 oc9 kV9 dc9 pm9 cd9 ct9 oc10 kV10 dc10 pm10 cd10 ct10 oc11 kV11 dc11 pm11 cd11 ct11 oc12 kV12 dc12 pm12 cd12 ct12 oc13 kV13 dc13 pm13 cd13 ct13 oc14 kV14 dc14 pm14 cd14 ct14 oc15 kV15 dc15 pm15 cd15 ct15 oc16 kV16 dc16 pm16 cd16 ct16 oc17 kV17 dc17 pm17 cd17 ct17 oc18 kV18 dc18 pm18 cd18 ct18 oc19 kV19 dc19 pm19 cd19 ct19 oc20 kV20 dc20 pm20 cd20 ct20 oc21 kV21 dc21 pm21 cd21 ct21 oc22 kV22 dc22 pm22 cd22 ct22 oc23 kV23 dc23 pm23 cd23 ct23 oc24 kV24 dc24 pm24 cd24 ct24 oc25 kV25 dc25 pm25 cd25 ct25 oc26 kV26 dc26 pm26 cd26 ct26 oc27 kV27 dc27 pm27 cd27 ct27 oc28 kV28 dc28 pm28 cd28 ct28 oc29 kV29 dc29 pm29 cd29 ct29 oc30 kV30 dc30 pm30 cd30 ct30 oc31 kV31 dc31 pm31 cd31 ct31 oc32 kV32 dc32 pm32 cd32 ct32 oc33 kV33 dc33 pm33 cd33 ct33 oc34 kV34 dc34 pm34 cd34 ct34 oc35 kV35 dc35 pm35 cd35 ct35 oc36 kV36 dc36 pm36 cd36 ct36:Value}
  (n_Day:PySem.W.nsIn K mainGlobals "Day"=some (some (.ref C_Day)))
  (n_CellarError:PySem.W.nsIn K mainGlobals "CellarError"=some (some (.ref C_CellarError)))
  (n_Clashing:PySem.W.nsIn K mainGlobals "Clashing"=some (some (.ref C_Clashing)))
  (n_NothingDone:PySem.W.nsIn K mainGlobals "NothingDone"=some (some (.ref C_NothingDone)))
  (n_OutOfRange:PySem.W.nsIn K mainGlobals "OutOfRange"=some (some (.ref C_OutOfRange)))
  (n_UnknownDay:PySem.W.nsIn K mainGlobals "UnknownDay"=some (some (.ref C_UnknownDay)))
  (n_UnknownStream:PySem.W.nsIn K mainGlobals "UnknownStream"=some (some (.ref C_UnknownStream)))
  (p1_Day:PySem.W.plainGet K C_Day Str.empty=true)
  (p2_Day:PySem.W.hasDictIn K C_Day=true)
  (p3_Day:PySem.W.plainOver K C_Day=true)
  (p4_Day:PySem.W.findIn K (.ref C_Day) "__setattr__"=some (some (.builtin "object.__setattr__")))
  (q_Day_tanks:PySem.W.findIn K (.ref C_Day) "tanks"=some none)
  (q_Day_streams:PySem.W.findIn K (.ref C_Day) "streams"=some none)
  (q_Day_rises:PySem.W.findIn K (.ref C_Day) "rises"=some none)
  (q_Day_readings:PySem.W.findIn K (.ref C_Day) "readings"=some none)
  (p5_Day:PySem.W.makesIn K C_Day=true)
  (p6_Day:PySem.W.keepIn K (.ref C_Day)=true)
  (a1:PySem.W.nsIn K mainGlobals "way_over"=some (some (.ref f1)))
  (l1:K.lookup f1=some ⟨oc1,od1, .func (PySem.W.fnOf "way_over" "way_over" (aP eZ) (aI eZ) (ah eZ) .none kV1 dc1 pm1 an1 cd1 ct1),sl1⟩)
  (c1:PySem.W.codeIn K cd1 "way_over"=true)
  (k1:PySem.W.keepIn K (.ref f1)=true)
  (a2:PySem.W.nsIn K mainGlobals "brought_by"=some (some (.ref f2)))
  (l2:K.lookup f2=some ⟨oc2,od2, .func (PySem.W.fnOf "brought_by" "brought_by" (aP dc) (aI dc) (ah dc) .none kV2 dc2 pm2 an2 cd2 ct2),sl2⟩)
  (c2:PySem.W.codeIn K cd2 "brought_by"=true)
  (k2:PySem.W.keepIn K (.ref f2)=true)
  (a3:PySem.W.nsIn K mainGlobals "rise_of"=some (some (.ref f3)))
  (l3:K.lookup f3=some ⟨oc3,od3, .func (PySem.W.fnOf "rise_of" "rise_of" (aP gg) (aI gg) (ah gg) .none kV3 dc3 pm3 an3 cd3 ct3),sl3⟩)
  (c3:PySem.W.codeIn K cd3 "rise_of"=true)
  (k3:PySem.W.keepIn K (.ref f3)=true)
  (a4:PySem.W.nsIn K mainGlobals "steps_from"=some (some (.ref f4)))
  (l4:K.lookup f4=some ⟨oc4,od4, .func (PySem.W.fnOf "steps_from" "steps_from" (aP de) (aI de) (ah de) .none kV4 dc4 pm4 an4 cd4 ct4),sl4⟩)
  (c4:PySem.W.codeIn K cd4 "steps_from"=true)
  (k4:PySem.W.keepIn K (.ref f4)=true)
  (a5:PySem.W.nsIn K mainGlobals "arrivals_from"=some (some (.ref f5)))
  (l5:K.lookup f5=some ⟨oc5,od5, .func (PySem.W.fnOf "arrivals_from" "arrivals_from" (aP cm) (aI cm) (ah cm) .none kV5 dc5 pm5 an5 cd5 ct5),sl5⟩)
  (c5:PySem.W.codeIn K cd5 "arrivals_from"=true)
  (k5:PySem.W.keepIn K (.ref f5)=true)
  (a6:PySem.W.nsIn K mainGlobals "bunches_of"=some (some (.ref f6)))
  (l6:K.lookup f6=some ⟨oc6,od6, .func (PySem.W.fnOf "bunches_of" "bunches_of" (aP df) (aI df) (ah df) .none kV6 dc6 pm6 an6 cd6 ct6),sl6⟩)
  (c6:PySem.W.codeIn K cd6 "bunches_of"=true)
  (k6:PySem.W.keepIn K (.ref f6)=true)
  (a7:PySem.W.nsIn K mainGlobals "path_of"=some (some (.ref f7)))
  (l7:K.lookup f7=some ⟨oc7,od7, .func (PySem.W.fnOf "path_of" "path_of" (aP gj) (aI gj) (ah gj) .none kV7 dc7 pm7 an7 cd7 ct7),sl7⟩)
  (c7:PySem.W.codeIn K cd7 "path_of"=true)
  (k7:PySem.W.keepIn K (.ref f7)=true)
  (a8:PySem.W.findIn K (.ref C_Day) "stream"=some (some (.ref f8)))
  (l8:K.lookup f8=some ⟨oc8,od8, .func (PySem.W.fnOf "stream" "Day.stream" (aP dg) (aI dg) (ah dg) .none kV8 dc8 pm8 an8 cd8 ct8),sl8⟩)
  (c8:PySem.W.codeIn K cd8 "Day.stream"=true)
  (k8:PySem.W.keepIn K (.ref f8)=true)
  (i8:PySem.W.isFn K (.ref f8)=true)
  (a9:PySem.W.findIn K (.ref C_Day) "metered"=some (some (.ref f9)))
  (l9:K.lookup f9=some ⟨oc9,od9, .func (PySem.W.fnOf "metered" "Day.metered" (aP cP) (aI cP) (ah cP) .none kV9 dc9 pm9 an9 cd9 ct9),sl9⟩)
  (c9:PySem.W.codeIn K cd9 "Day.metered"=true)
  (k9:PySem.W.keepIn K (.ref f9)=true)
  (i9:PySem.W.isFn K (.ref f9)=true)
  (a10:PySem.W.findIn K (.ref C_Day) "without_meter"=some (some (.ref f10)))
  (l10:K.lookup f10=some ⟨oc10,od10, .func (PySem.W.fnOf "without_meter" "Day.without_meter" (aP bJ) (aI bJ) (ah bJ) .none kV10 dc10 pm10 an10 cd10 ct10),sl10⟩)
  (c10:PySem.W.codeIn K cd10 "Day.without_meter"=true)
  (k10:PySem.W.keepIn K (.ref f10)=true)
  (i10:PySem.W.isFn K (.ref f10)=true)
  (a11:PySem.W.nsIn K mainGlobals "clashes_of"=some (some (.ref f11)))
  (l11:K.lookup f11=some ⟨oc11,od11, .func (PySem.W.fnOf "clashes_of" "clashes_of" (aP dh) (aI dh) (ah dh) .none kV11 dc11 pm11 an11 cd11 ct11),sl11⟩)
  (c11:PySem.W.codeIn K cd11 "clashes_of"=true)
  (k11:PySem.W.keepIn K (.ref f11)=true)
  (a12:PySem.W.nsIn K mainGlobals "refuse_clashes"=some (some (.ref f12)))
  (l12:K.lookup f12=some ⟨oc12,od12, .func (PySem.W.fnOf "refuse_clashes" "refuse_clashes" (aP ce) (aI ce) (ah ce) .none kV12 dc12 pm12 an12 cd12 ct12),sl12⟩)
  (c12:PySem.W.codeIn K cd12 "refuse_clashes"=true)
  (k12:PySem.W.keepIn K (.ref f12)=true)
  (a13:PySem.W.nsIn K mainGlobals "lack_of"=some (some (.ref f13)))
  (l13:K.lookup f13=some ⟨oc13,od13, .func (PySem.W.fnOf "lack_of" "lack_of" (aP gm) (aI gm) (ah gm) .none kV13 dc13 pm13 an13 cd13 ct13),sl13⟩)
  (c13:PySem.W.codeIn K cd13 "lack_of"=true)
  (k13:PySem.W.keepIn K (.ref f13)=true)
  (a14:PySem.W.nsIn K mainGlobals "setting_of"=some (some (.ref f14)))
  (l14:K.lookup f14=some ⟨oc14,od14, .func (PySem.W.fnOf "setting_of" "setting_of" (aP di) (aI di) (ah di) .none kV14 dc14 pm14 an14 cd14 ct14),sl14⟩)
  (c14:PySem.W.codeIn K cd14 "setting_of"=true)
  (k14:PySem.W.keepIn K (.ref f14)=true)
  (a15:PySem.W.findIn K (.ref C_Day) "__init__"=some (some (.ref f15)))
  (l15:K.lookup f15=some ⟨oc15,od15, .func (PySem.W.fnOf "__init__" "Day.__init__" (aP dJ) (aI dJ) (ah dJ) .none kV15 dc15 pm15 an15 cd15 ct15),sl15⟩)
  (c15:PySem.W.codeIn K cd15 "Day.__init__"=true)
  (k15:PySem.W.keepIn K (.ref f15)=true)
  (i15:PySem.W.isFn K (.ref f15)=true)
  (a16:PySem.W.nsIn K mainGlobals "_law_at"=some (some (.ref f16)))
  (l16:K.lookup f16=some ⟨oc16,od16, .func (PySem.W.fnOf "_law_at" "_law_at" (aP ik) (aI ik) (ah ik) .none kV16 dc16 pm16 an16 cd16 ct16),sl16⟩)
  (c16:PySem.W.codeIn K cd16 "_law_at"=true)
  (k16:PySem.W.keepIn K (.ref f16)=true)
  (a17:PySem.W.nsIn K mainGlobals "_law_cell"=some (some (.ref f17)))
  (l17:K.lookup f17=some ⟨oc17,od17, .func (PySem.W.fnOf "_law_cell" "_law_cell" (aP e_) (aI e_) (ah e_) .none kV17 dc17 pm17 an17 cd17 ct17),sl17⟩)
  (c17:PySem.W.codeIn K cd17 "_law_cell"=true)
  (k17:PySem.W.keepIn K (.ref f17)=true)
  (a18:PySem.W.nsIn K mainGlobals "_law_same"=some (some (.ref f18)))
  (l18:K.lookup f18=some ⟨oc18,od18, .func (PySem.W.fnOf "_law_same" "_law_same" (aP dL) (aI dL) (ah dL) .none kV18 dc18 pm18 an18 cd18 ct18),sl18⟩)
  (c18:PySem.W.codeIn K cd18 "_law_same"=true)
  (k18:PySem.W.keepIn K (.ref f18)=true)
  (a19:PySem.W.nsIn K mainGlobals "_law_whole"=some (some (.ref f19)))
  (l19:K.lookup f19=some ⟨oc19,od19, .func (PySem.W.fnOf "_law_whole" "_law_whole" (aP dN) (aI dN) (ah dN) .none kV19 dc19 pm19 an19 cd19 ct19),sl19⟩)
  (c19:PySem.W.codeIn K cd19 "_law_whole"=true)
  (k19:PySem.W.keepIn K (.ref f19)=true)
  (a20:PySem.W.nsIn K mainGlobals "_law_streams"=some (some (.ref f20)))
  (l20:K.lookup f20=some ⟨oc20,od20, .func (PySem.W.fnOf "_law_streams" "_law_streams" (aP cQ) (aI cQ) (ah cQ) .none kV20 dc20 pm20 an20 cd20 ct20),sl20⟩)
  (c20:PySem.W.codeIn K cd20 "_law_streams"=true)
  (k20:PySem.W.keepIn K (.ref f20)=true)
  (a21:PySem.W.nsIn K mainGlobals "_law_metered"=some (some (.ref f21)))
  (l21:K.lookup f21=some ⟨oc21,od21, .func (PySem.W.fnOf "_law_metered" "_law_metered" (aP cR) (aI cR) (ah cR) .none kV21 dc21 pm21 an21 cd21 ct21),sl21⟩)
  (c21:PySem.W.codeIn K cd21 "_law_metered"=true)
  (k21:PySem.W.keepIn K (.ref f21)=true)
  (a22:PySem.W.nsIn K mainGlobals "_law_span"=some (some (.ref f22)))
  (l22:K.lookup f22=some ⟨oc22,od22, .func (PySem.W.fnOf "_law_span" "_law_span" (aP fc) (aI fc) (ah fc) .none kV22 dc22 pm22 an22 cd22 ct22),sl22⟩)
  (c22:PySem.W.codeIn K cd22 "_law_span"=true)
  (k22:PySem.W.keepIn K (.ref f22)=true)
  (a23:PySem.W.nsIn K mainGlobals "_law_flows"=some (some (.ref f23)))
  (l23:K.lookup f23=some ⟨oc23,od23, .func (PySem.W.fnOf "_law_flows" "_law_flows" (aP dO) (aI dO) (ah dO) .none kV23 dc23 pm23 an23 cd23 ct23),sl23⟩)
  (c23:PySem.W.codeIn K cd23 "_law_flows"=true)
  (k23:PySem.W.keepIn K (.ref f23)=true)
  (a24:PySem.W.nsIn K mainGlobals "_law_truth"=some (some (.ref f24)))
  (l24:K.lookup f24=some ⟨oc24,od24, .func (PySem.W.fnOf "_law_truth" "_law_truth" (aP dP) (aI dP) (ah dP) .none kV24 dc24 pm24 an24 cd24 ct24),sl24⟩)
  (c24:PySem.W.codeIn K cd24 "_law_truth"=true)
  (k24:PySem.W.keepIn K (.ref f24)=true)
  (a25:PySem.W.nsIn K mainGlobals "_law_readings"=some (some (.ref f25)))
  (l25:K.lookup f25=some ⟨oc25,od25, .func (PySem.W.fnOf "_law_readings" "_law_readings" (aP cC) (aI cC) (ah cC) .none kV25 dc25 pm25 an25 cd25 ct25),sl25⟩)
  (c25:PySem.W.codeIn K cd25 "_law_readings"=true)
  (k25:PySem.W.keepIn K (.ref f25)=true)
  (a26:PySem.W.nsIn K mainGlobals "_law_rises"=some (some (.ref f26)))
  (l26:K.lookup f26=some ⟨oc26,od26, .func (PySem.W.fnOf "_law_rises" "_law_rises" (aP dR) (aI dR) (ah dR) .none kV26 dc26 pm26 an26 cd26 ct26),sl26⟩)
  (c26:PySem.W.codeIn K cd26 "_law_rises"=true)
  (k26:PySem.W.keepIn K (.ref f26)=true)
  (a27:PySem.W.nsIn K mainGlobals "_law_case"=some (some (.ref f27)))
  (l27:K.lookup f27=some ⟨oc27,od27, .func (PySem.W.fnOf "_law_case" "_law_case" (aP fj) (aI fj) (ah fj) .none kV27 dc27 pm27 an27 cd27 ct27),sl27⟩)
  (c27:PySem.W.codeIn K cd27 "_law_case"=true)
  (k27:PySem.W.keepIn K (.ref f27)=true)
  (a28:PySem.W.nsIn K mainGlobals "_law_day"=some (some (.ref f28)))
  (l28:K.lookup f28=some ⟨oc28,od28, .func (PySem.W.fnOf "_law_day" "_law_day" (aP gn) (aI gn) (ah gn) .none kV28 dc28 pm28 an28 cd28 ct28),sl28⟩)
  (c28:PySem.W.codeIn K cd28 "_law_day"=true)
  (k28:PySem.W.keepIn K (.ref f28)=true)
  (a29:PySem.W.nsIn K mainGlobals "_law_kept"=some (some (.ref f29)))
  (l29:K.lookup f29=some ⟨oc29,od29, .func (PySem.W.fnOf "_law_kept" "_law_kept" (aP ft) (aI ft) (ah ft) .none kV29 dc29 pm29 an29 cd29 ct29),sl29⟩)
  (c29:PySem.W.codeIn K cd29 "_law_kept"=true)
  (k29:PySem.W.keepIn K (.ref f29)=true)
  (a30:PySem.W.nsIn K mainGlobals "_law_loose"=some (some (.ref f30)))
  (l30:K.lookup f30=some ⟨oc30,od30, .func (PySem.W.fnOf "_law_loose" "_law_loose" (aP dS) (aI dS) (ah dS) .none kV30 dc30 pm30 an30 cd30 ct30),sl30⟩)
  (c30:PySem.W.codeIn K cd30 "_law_loose"=true)
  (k30:PySem.W.keepIn K (.ref f30)=true)
  (a31:PySem.W.nsIn K mainGlobals "_law_flood"=some (some (.ref f31)))
  (l31:K.lookup f31=some ⟨oc31,od31, .func (PySem.W.fnOf "_law_flood" "_law_flood" (aP dU) (aI dU) (ah dU) .none kV31 dc31 pm31 an31 cd31 ct31),sl31⟩)
  (c31:PySem.W.codeIn K cd31 "_law_flood"=true)
  (k31:PySem.W.keepIn K (.ref f31)=true)
  (a32:PySem.W.nsIn K mainGlobals "_law_net"=some (some (.ref f32)))
  (l32:K.lookup f32=some ⟨oc32,od32, .func (PySem.W.fnOf "_law_net" "_law_net" (aP gq) (aI gq) (ah gq) .none kV32 dc32 pm32 an32 cd32 ct32),sl32⟩)
  (c32:PySem.W.codeIn K cd32 "_law_net"=true)
  (k32:PySem.W.keepIn K (.ref f32)=true)
  (a33:PySem.W.nsIn K mainGlobals "_law_due_clashes"=some (some (.ref f33)))
  (l33:K.lookup f33=some ⟨oc33,od33, .func (PySem.W.fnOf "_law_due_clashes" "_law_due_clashes" (aP bY) (aI bY) (ah bY) .none kV33 dc33 pm33 an33 cd33 ct33),sl33⟩)
  (c33:PySem.W.codeIn K cd33 "_law_due_clashes"=true)
  (k33:PySem.W.keepIn K (.ref f33)=true)
  (a34:PySem.W.nsIn K mainGlobals "_law_is_setting"=some (some (.ref f34)))
  (l34:K.lookup f34=some ⟨oc34,od34, .func (PySem.W.fnOf "_law_is_setting" "_law_is_setting" (aP cf) (aI cf) (ah cf) .none kV34 dc34 pm34 an34 cd34 ct34),sl34⟩)
  (c34:PySem.W.codeIn K cd34 "_law_is_setting"=true)
  (k34:PySem.W.keepIn K (.ref f34)=true)
  (a35:PySem.W.nsIn K mainGlobals "_law_asked"=some (some (.ref f35)))
  (l35:K.lookup f35=some ⟨oc35,od35, .func (PySem.W.fnOf "_law_asked" "_law_asked" (aP dW) (aI dW) (ah dW) .none kV35 dc35 pm35 an35 cd35 ct35),sl35⟩)
  (c35:PySem.W.codeIn K cd35 "_law_asked"=true)
  (k35:PySem.W.keepIn K (.ref f35)=true)
  (a36:PySem.W.nsIn K mainGlobals "law"=some (some (.ref f36)))
  (l36:K.lookup f36=some ⟨oc36,od36, .func (PySem.W.fnOf "law" "law" (aP kJ) (aI kJ) (ah kJ) .none kV36 dc36 pm36 an36 cd36 ct36),sl36⟩)
  (c36:PySem.W.codeIn K cd36 "law"=true)
  (k36:PySem.W.keepIn K (.ref f36)=true)
  (s1:PySem.W.specialIn K (.builtin "object.__class__") "__get__"=some (some (.builtin "getset_descriptor.__get__")))
  (s2:PySem.W.takesIn K (.builtin "object.__class__")=some true)
  (e1_UnknownStream:PySem.W.excIn K C_UnknownStream rH "ValueError.__new__"=true)
  (e2_UnknownStream:PySem.W.findIn K (.ref C_UnknownStream) "__getattribute__"=some (some (.builtin "BaseException.__getattribute__")))
  (e3_UnknownStream:PySem.W.findIn K (.ref C_UnknownStream) "__getattr__"=some none)
  (e4_UnknownStream:PySem.W.findIn K (.ref C_UnknownStream) "__class__"=some (some (.builtin "object.__class__")))
  (e5_UnknownStream:PySem.W.mroIn K C_UnknownStream (.type "object")=some true)
  (e6_UnknownStream:PySem.W.mroIn K C_UnknownStream (.type "BaseException")=some true)
  (e7_UnknownStream:PySem.W.mroIn K C_UnknownStream (.ref C_UnknownStream)=some true)
  (e1_Clashing:PySem.W.excIn K C_Clashing rH "ValueError.__new__"=true)
  (e2_Clashing:PySem.W.findIn K (.ref C_Clashing) "__getattribute__"=some (some (.builtin "BaseException.__getattribute__")))
  (e3_Clashing:PySem.W.findIn K (.ref C_Clashing) "__getattr__"=some none)
  (e4_Clashing:PySem.W.findIn K (.ref C_Clashing) "__class__"=some (some (.builtin "object.__class__")))
  (e5_Clashing:PySem.W.mroIn K C_Clashing (.type "object")=some true)
  (e6_Clashing:PySem.W.mroIn K C_Clashing (.type "BaseException")=some true)
  (e7_Clashing:PySem.W.mroIn K C_Clashing (.ref C_Clashing)=some true)
  (e1_CellarError:PySem.W.excIn K C_CellarError rH "ValueError.__new__"=true)
  (e6_CellarError:PySem.W.mroIn K C_CellarError (.type "BaseException")=some true)
  (e1_NothingDone:PySem.W.excIn K C_NothingDone rH "ValueError.__new__"=true)
  (e6_NothingDone:PySem.W.mroIn K C_NothingDone (.type "BaseException")=some true)
  (e1_OutOfRange:PySem.W.excIn K C_OutOfRange rH "ValueError.__new__"=true)
  (e6_OutOfRange:PySem.W.mroIn K C_OutOfRange (.type "BaseException")=some true)
  (e1_UnknownDay:PySem.W.excIn K C_UnknownDay rH "ValueError.__new__"=true)
  (e6_UnknownDay:PySem.W.mroIn K C_UnknownDay (.type "BaseException")=some true)
  (m_CellarError_Clashing:PySem.W.mroIn K C_Clashing (.ref C_CellarError)=some true)
  (m_CellarError_UnknownStream:PySem.W.mroIn K C_UnknownStream (.ref C_CellarError)=some true)
  (m_Clashing_Clashing:PySem.W.mroIn K C_Clashing (.ref C_Clashing)=some true)
  (m_Clashing_UnknownStream:PySem.W.mroIn K C_UnknownStream (.ref C_Clashing)=some false)
  (m_NothingDone_Clashing:PySem.W.mroIn K C_Clashing (.ref C_NothingDone)=some false)
  (m_NothingDone_UnknownStream:PySem.W.mroIn K C_UnknownStream (.ref C_NothingDone)=some false)
  (m_OutOfRange_Clashing:PySem.W.mroIn K C_Clashing (.ref C_OutOfRange)=some false)
  (m_OutOfRange_UnknownStream:PySem.W.mroIn K C_UnknownStream (.ref C_OutOfRange)=some false)
  (m_UnknownDay_Clashing:PySem.W.mroIn K C_Clashing (.ref C_UnknownDay)=some false)
  (m_UnknownDay_UnknownStream:PySem.W.mroIn K C_UnknownStream (.ref C_UnknownDay)=some false)
  (m_UnknownStream_Clashing:PySem.W.mroIn K C_Clashing (.ref C_UnknownStream)=some false)
  (m_UnknownStream_UnknownStream:PySem.W.mroIn K C_UnknownStream (.ref C_UnknownStream)=some true)
  (m_ValueError_Clashing:PySem.W.mroIn K C_Clashing (.type "ValueError")=some true)
  (m_ValueError_UnknownStream:PySem.W.mroIn K C_UnknownStream (.type "ValueError")=some true)
  {t_OUTSIDE:Tok}
  (v_OUTSIDE:PySem.W.nsIn K mainGlobals "OUTSIDE"=some (some (.int 0 t_OUTSIDE)))
  (z0:PySem.W.nsIn K mainGlobals "ValueError"=some none)
  (z1:PySem.W.nsIn K mainGlobals "bool"=some none)
  (z2:PySem.W.nsIn K mainGlobals "dict"=some none)
  (z3:PySem.W.nsIn K mainGlobals "int"=some none)
  (z4:PySem.W.nsIn K mainGlobals "isinstance"=some none)
  (z5:PySem.W.nsIn K mainGlobals "len"=some none)
  (z6:PySem.W.nsIn K mainGlobals "list"=some none)
  (z7:PySem.W.nsIn K mainGlobals "max"=some none)
  (z8:PySem.W.nsIn K mainGlobals "min"=some none)
  (z9:PySem.W.nsIn K mainGlobals "range"=some none)
  (z10:PySem.W.nsIn K mainGlobals "reversed"=some none)
  (z11:PySem.W.nsIn K mainGlobals "sorted"=some none)
  (z12:PySem.W.nsIn K mainGlobals "sum"=some none)
  (z13:PySem.W.nsIn K mainGlobals "tuple"=some none)
  :∃fd:FuncData,(∀(s:Shared) (v:Value),BindsTo s fd ⟨[v],[]⟩ [("_law_script",v)])/\∀base:Heap,K.In base->base.Ns mainGlobals mg->gE l.prog w K mg base (nN l.prog w) 10 fa fd ["_law_script"] (xE K 1 qN):=by
 have e:=hfa.symm.trans (PySem.W.mg_of X G a36)
 cases e
 have B:Bl mg BN:=⟨fun x hx=>by
  simp only[BN,List.mem_cons,List.not_mem_nil,or_false]at hx
  rcases hx with rfl|rfl|rfl|rfl|rfl|rfl|rfl|rfl|rfl|rfl|rfl|rfl|rfl|rfl
  ·exact PySem.W.mg_none_of X G z0
  ·exact PySem.W.mg_none_of X G z1
  ·exact PySem.W.mg_none_of X G z2
  ·exact PySem.W.mg_none_of X G z3
  ·exact PySem.W.mg_none_of X G z4
  ·exact PySem.W.mg_none_of X G z5
  ·exact PySem.W.mg_none_of X G z6
  ·exact PySem.W.mg_none_of X G z7
  ·exact PySem.W.mg_none_of X G z8
  ·exact PySem.W.mg_none_of X G z9
  ·exact PySem.W.mg_none_of X G z10
  ·exact PySem.W.mg_none_of X G z11
  ·exact PySem.W.mg_none_of X G z12
  ·exact PySem.W.mg_none_of X G z13⟩
 have cl_Day:oY K "Day" C_Day:=⟨n_Day,p1_Day,p2_Day,p3_Day,p4_Day⟩
 have no_Day:∀x∈gX,gW K C_Day x:=fun x hx=>by
  simp only[gX,List.mem_cons,List.not_mem_nil,or_false]at hx
  rcases hx with rfl|rfl|rfl|rfl
  ·exact q_Day_tanks
  ·exact q_Day_streams
  ·exact q_Day_rises
  ·exact q_Day_readings
 have T_Day:lX K "Day" gX:=⟨_,cl_Day,no_Day⟩
 have F1:=bC (st:=eZ) l1 c1 k1
 have b1:=F1.binds (ps:=["stream","group"]) fun _ _ _ _ _ _ us hl=>ur (P:=fun us=>bindArgs _ ⟨us,[]⟩=pure (List.zip _ us)) (fun _ _=>rfl) us hl
 have A1:aR K mg "way_over" eZ ["stream","group"]:=⟨_,_,F1,PySem.W.mg_of X G a1,b1⟩
 have F2:=bC (st:=dc) l2 c2 k2
 have b2:=F2.binds (ps:=["streams","amounts","group"]) fun _ _ _ _ _ _ us hl=>Fx (P:=fun us=>bindArgs _ ⟨us,[]⟩=pure (List.zip _ us)) (fun _ _ _=>rfl) us hl
 have A2:aR K mg "brought_by" dc ["streams","amounts","group"]:=⟨_,_,F2,PySem.W.mg_of X G a2,b2⟩
 have F3:=bC (st:=gg) l3 c3 k3
 have b3:=F3.binds (ps:=["rises","group"]) fun _ _ _ _ _ _ us hl=>ur (P:=fun us=>bindArgs _ ⟨us,[]⟩=pure (List.zip _ us)) (fun _ _=>rfl) us hl
 have A3:aR K mg "rise_of" gg ["rises","group"]:=⟨_,_,F3,PySem.W.mg_of X G a3,b3⟩
 have F4:=bC (st:=de) l4 c4 k4
 have b4:=F4.binds (ps:=["streams","place"]) fun _ _ _ _ _ _ us hl=>ur (P:=fun us=>bindArgs _ ⟨us,[]⟩=pure (List.zip _ us)) (fun _ _=>rfl) us hl
 have A4:aR K mg "steps_from" de ["streams","place"]:=⟨_,_,F4,PySem.W.mg_of X G a4,b4⟩
 have F5:=bC (st:=cm) l5 c5 k5
 have b5:=F5.binds (ps:=["streams","start"]) fun _ _ _ _ _ _ us hl=>ur (P:=fun us=>bindArgs _ ⟨us,[]⟩=pure (List.zip _ us)) (fun _ _=>rfl) us hl
 have A5:aR K mg "arrivals_from" cm ["streams","start"]:=⟨_,_,F5,PySem.W.mg_of X G a5,b5⟩
 have F6:=bC (st:=df) l6 c6 k6
 have b6:=F6.binds (ps:=["tanks","streams"]) fun _ _ _ _ _ _ us hl=>ur (P:=fun us=>bindArgs _ ⟨us,[]⟩=pure (List.zip _ us)) (fun _ _=>rfl) us hl
 have A6:aR K mg "bunches_of" df ["tanks","streams"]:=⟨_,_,F6,PySem.W.mg_of X G a6,b6⟩
 have F7:=bC (st:=gj) l7 c7 k7
 have b7:=F7.binds (ps:=["streams","start","goal"]) fun _ _ _ _ _ _ us hl=>Fx (P:=fun us=>bindArgs _ ⟨us,[]⟩=pure (List.zip _ us)) (fun _ _ _=>rfl) us hl
 have A7:aR K mg "path_of" gj ["streams","start","goal"]:=⟨_,_,F7,PySem.W.mg_of X G a7,b7⟩
 have F8:=bC (st:=dg) l8 c8 k8
 have b8:=F8.binds (ps:=["self","number"]) fun _ _ _ _ _ _ us hl=>ur (P:=fun us=>bindArgs _ ⟨us,[]⟩=pure (List.zip _ us)) (fun _ _=>rfl) us hl
 have A8:li K "Day" "stream" "Day.stream" dg ["self","number"]:=⟨_,_,_,F8,cl_Day,⟨a8,i8,k8⟩,b8⟩
 have F9:=bC (st:=cP) l9 c9 k9
 have b9:=F9.binds (ps:=["self","number"]) fun _ _ _ _ _ _ us hl=>ur (P:=fun us=>bindArgs _ ⟨us,[]⟩=pure (List.zip _ us)) (fun _ _=>rfl) us hl
 have A9:li K "Day" "metered" "Day.metered" cP ["self","number"]:=⟨_,_,_,F9,cl_Day,⟨a9,i9,k9⟩,b9⟩
 have F10:=bC (st:=bJ) l10 c10 k10
 have b10:=F10.binds (ps:=["self"]) fun _ _ _ _ _ _ us hl=>Aw (P:=fun us=>bindArgs _ ⟨us,[]⟩=pure (List.zip _ us)) (fun _=>rfl) us hl
 have A10:li K "Day" "without_meter" "Day.without_meter" bJ ["self"]:=⟨_,_,_,F10,cl_Day,⟨a10,i10,k10⟩,b10⟩
 have F11:=bC (st:=dh) l11 c11 k11
 have b11:=F11.binds (ps:=["day"]) fun _ _ _ _ _ _ us hl=>Aw (P:=fun us=>bindArgs _ ⟨us,[]⟩=pure (List.zip _ us)) (fun _=>rfl) us hl
 have A11:aR K mg "clashes_of" dh ["day"]:=⟨_,_,F11,PySem.W.mg_of X G a11,b11⟩
 have F12:=bC (st:=ce) l12 c12 k12
 have b12:=F12.binds (ps:=["day"]) fun _ _ _ _ _ _ us hl=>Aw (P:=fun us=>bindArgs _ ⟨us,[]⟩=pure (List.zip _ us)) (fun _=>rfl) us hl
 have A12:aR K mg "refuse_clashes" ce ["day"]:=⟨_,_,F12,PySem.W.mg_of X G a12,b12⟩
 have F13:=bC (st:=gm) l13 c13 k13
 have b13:=F13.binds (ps:=["day","tank"]) fun _ _ _ _ _ _ us hl=>ur (P:=fun us=>bindArgs _ ⟨us,[]⟩=pure (List.zip _ us)) (fun _ _=>rfl) us hl
 have A13:aR K mg "lack_of" gm ["day","tank"]:=⟨_,_,F13,PySem.W.mg_of X G a13,b13⟩
 have F14:=bC (st:=di) l14 c14 k14
 have b14:=F14.binds (ps:=["day"]) fun _ _ _ _ _ _ us hl=>Aw (P:=fun us=>bindArgs _ ⟨us,[]⟩=pure (List.zip _ us)) (fun _=>rfl) us hl
 have A14:aR K mg "setting_of" di ["day"]:=⟨_,_,F14,PySem.W.mg_of X G a14,b14⟩
 have F15:=bC (st:=dJ) l15 c15 k15
 have b15:=F15.binds (ps:=["self","tanks","streams","rises","readings"]) fun _ _ _ _ _ _ us hl=>Hf (P:=fun us=>bindArgs _ ⟨us,[]⟩=pure (List.zip _ us)) (fun _ _ _ _ _=>rfl) us hl
 have A15:vg K mg "Day" "Day.__init__" dJ ["self","tanks","streams","rises","readings"] gX:=⟨_,_,_,F15,cl_Day,PySem.W.mg_of X G n_Day,⟨p5_Day,a15,i15,p6_Day⟩,b15,no_Day⟩
 have F16:=bC (st:=ik) l16 c16 k16
 have b16:=F16.binds (ps:=["_law_script","_law_k"]) fun _ _ _ _ _ _ us hl=>ur (P:=fun us=>bindArgs _ ⟨us,[]⟩=pure (List.zip _ us)) (fun _ _=>rfl) us hl
 have A16:aR K mg "_law_at" ik ["_law_script","_law_k"]:=⟨_,_,F16,PySem.W.mg_of X G a16,b16⟩
 have F17:=bC (st:=e_) l17 c17 k17
 have b17:=F17.binds (ps:=["_law_script","_law_k"]) fun _ _ _ _ _ _ us hl=>ur (P:=fun us=>bindArgs _ ⟨us,[]⟩=pure (List.zip _ us)) (fun _ _=>rfl) us hl
 have A17:aR K mg "_law_cell" e_ ["_law_script","_law_k"]:=⟨_,_,F17,PySem.W.mg_of X G a17,b17⟩
 have F18:=bC (st:=dL) l18 c18 k18
 have b18:=F18.binds (ps:=["_law_found","_law_due"]) fun _ _ _ _ _ _ us hl=>ur (P:=fun us=>bindArgs _ ⟨us,[]⟩=pure (List.zip _ us)) (fun _ _=>rfl) us hl
 have A18:aR K mg "_law_same" dL ["_law_found","_law_due"]:=⟨_,_,F18,PySem.W.mg_of X G a18,b18⟩
 have F19:=bC (st:=dN) l19 c19 k19
 have b19:=F19.binds (ps:=["_law_found"]) fun _ _ _ _ _ _ us hl=>Aw (P:=fun us=>bindArgs _ ⟨us,[]⟩=pure (List.zip _ us)) (fun _=>rfl) us hl
 have A19:aR K mg "_law_whole" dN ["_law_found"]:=⟨_,_,F19,PySem.W.mg_of X G a19,b19⟩
 have F20:=bC (st:=cQ) l20 c20 k20
 have b20:=F20.binds (ps:=["_law_script","_law_n","_law_many"]) fun _ _ _ _ _ _ us hl=>Fx (P:=fun us=>bindArgs _ ⟨us,[]⟩=pure (List.zip _ us)) (fun _ _ _=>rfl) us hl
 have A20:aR K mg "_law_streams" cQ ["_law_script","_law_n","_law_many"]:=⟨_,_,F20,PySem.W.mg_of X G a20,b20⟩
 have F21:=bC (st:=cR) l21 c21 k21
 have b21:=F21.binds (ps:=["_law_script","_law_streams_here","_law_share"]) fun _ _ _ _ _ _ us hl=>Fx (P:=fun us=>bindArgs _ ⟨us,[]⟩=pure (List.zip _ us)) (fun _ _ _=>rfl) us hl
 have A21:aR K mg "_law_metered" cR ["_law_script","_law_streams_here","_law_share"]:=⟨_,_,F21,PySem.W.mg_of X G a21,b21⟩
 have F22:=bC (st:=fc) l22 c22 k22
 have b22:=F22.binds (ps:=["_law_levels","_law_source","_law_target","_law_most"]) fun _ _ _ _ _ _ us hl=>HW (P:=fun us=>bindArgs _ ⟨us,[]⟩=pure (List.zip _ us)) (fun _ _ _ _=>rfl) us hl
 have A22:aR K mg "_law_span" fc ["_law_levels","_law_source","_law_target","_law_most"]:=⟨_,_,F22,PySem.W.mg_of X G a22,b22⟩
 have F23:=bC (st:=dO) l23 c23 k23
 have b23:=F23.binds (ps:=["_law_figures","_law_n","_law_streams_here","_law_meters","_law_bounds"]) fun _ _ _ _ _ _ us hl=>Hf (P:=fun us=>bindArgs _ ⟨us,[]⟩=pure (List.zip _ us)) (fun _ _ _ _ _=>rfl) us hl
 have A23:aR K mg "_law_flows" dO ["_law_figures","_law_n","_law_streams_here","_law_meters","_law_bounds"]:=⟨_,_,F23,PySem.W.mg_of X G a23,b23⟩
 have F24:=bC (st:=dP) l24 c24 k24
 have b24:=F24.binds (ps:=["_law_script","_law_n","_law_streams_here","_law_metered_here","_law_small"]) fun _ _ _ _ _ _ us hl=>Hf (P:=fun us=>bindArgs _ ⟨us,[]⟩=pure (List.zip _ us)) (fun _ _ _ _ _=>rfl) us hl
 have A24:aR K mg "_law_truth" dP ["_law_script","_law_n","_law_streams_here","_law_metered_here","_law_small"]:=⟨_,_,F24,PySem.W.mg_of X G a24,b24⟩
 have F25:=bC (st:=cC) l25 c25 k25
 have b25:=F25.binds (ps:=["_law_script","_law_truth_here","_law_metered_here","_law_mode","_law_small"]) fun _ _ _ _ _ _ us hl=>Hf (P:=fun us=>bindArgs _ ⟨us,[]⟩=pure (List.zip _ us)) (fun _ _ _ _ _=>rfl) us hl
 have A25:aR K mg "_law_readings" cC ["_law_script","_law_truth_here","_law_metered_here","_law_mode","_law_small"]:=⟨_,_,F25,PySem.W.mg_of X G a25,b25⟩
 have F26:=bC (st:=dR) l26 c26 k26
 have b26:=F26.binds (ps:=["_law_script","_law_levels","_law_mode","_law_small"]) fun _ _ _ _ _ _ us hl=>HW (P:=fun us=>bindArgs _ ⟨us,[]⟩=pure (List.zip _ us)) (fun _ _ _ _=>rfl) us hl
 have A26:aR K mg "_law_rises" dR ["_law_script","_law_levels","_law_mode","_law_small"]:=⟨_,_,F26,PySem.W.mg_of X G a26,b26⟩
 have F27:=bC (st:=fj) l27 c27 k27
 have b27:=F27.binds (ps:=["_law_script"]) fun _ _ _ _ _ _ us hl=>Aw (P:=fun us=>bindArgs _ ⟨us,[]⟩=pure (List.zip _ us)) (fun _=>rfl) us hl
 have A27:aR K mg "_law_case" fj ["_law_script"]:=⟨_,_,F27,PySem.W.mg_of X G a27,b27⟩
 have F28:=bC (st:=gn) l28 c28 k28
 have b28:=F28.binds (ps:=["_law_script","_law_case_here"]) fun _ _ _ _ _ _ us hl=>ur (P:=fun us=>bindArgs _ ⟨us,[]⟩=pure (List.zip _ us)) (fun _ _=>rfl) us hl
 have A28:aR K mg "_law_day" gn ["_law_script","_law_case_here"]:=⟨_,_,F28,PySem.W.mg_of X G a28,b28⟩
 have F29:=bC (st:=ft) l29 c29 k29
 have b29:=F29.binds (ps:=["_law_day_here","_law_case_here"]) fun _ _ _ _ _ _ us hl=>ur (P:=fun us=>bindArgs _ ⟨us,[]⟩=pure (List.zip _ us)) (fun _ _=>rfl) us hl
 have A29:aR K mg "_law_kept" ft ["_law_day_here","_law_case_here"]:=⟨_,_,F29,PySem.W.mg_of X G a29,b29⟩
 have F30:=bC (st:=dS) l30 c30 k30
 have b30:=F30.binds (ps:=["_law_case_here"]) fun _ _ _ _ _ _ us hl=>Aw (P:=fun us=>bindArgs _ ⟨us,[]⟩=pure (List.zip _ us)) (fun _=>rfl) us hl
 have A30:aR K mg "_law_loose" dS ["_law_case_here"]:=⟨_,_,F30,PySem.W.mg_of X G a30,b30⟩
 have F31:=bC (st:=dU) l31 c31 k31
 have b31:=F31.binds (ps:=["_law_streams_here","_law_place"]) fun _ _ _ _ _ _ us hl=>ur (P:=fun us=>bindArgs _ ⟨us,[]⟩=pure (List.zip _ us)) (fun _ _=>rfl) us hl
 have A31:aR K mg "_law_flood" dU ["_law_streams_here","_law_place"]:=⟨_,_,F31,PySem.W.mg_of X G a31,b31⟩
 have F32:=bC (st:=gq) l32 c32 k32
 have b32:=F32.binds (ps:=["_law_streams_here","_law_amounts","_law_group"]) fun _ _ _ _ _ _ us hl=>Fx (P:=fun us=>bindArgs _ ⟨us,[]⟩=pure (List.zip _ us)) (fun _ _ _=>rfl) us hl
 have A32:aR K mg "_law_net" gq ["_law_streams_here","_law_amounts","_law_group"]:=⟨_,_,F32,PySem.W.mg_of X G a32,b32⟩
 have F33:=bC (st:=bY) l33 c33 k33
 have b33:=F33.binds (ps:=["_law_case_here"]) fun _ _ _ _ _ _ us hl=>Aw (P:=fun us=>bindArgs _ ⟨us,[]⟩=pure (List.zip _ us)) (fun _=>rfl) us hl
 have A33:aR K mg "_law_due_clashes" bY ["_law_case_here"]:=⟨_,_,F33,PySem.W.mg_of X G a33,b33⟩
 have F34:=bC (st:=cf) l34 c34 k34
 have b34:=F34.binds (ps:=["_law_case_here","_law_found"]) fun _ _ _ _ _ _ us hl=>ur (P:=fun us=>bindArgs _ ⟨us,[]⟩=pure (List.zip _ us)) (fun _ _=>rfl) us hl
 have A34:aR K mg "_law_is_setting" cf ["_law_case_here","_law_found"]:=⟨_,_,F34,PySem.W.mg_of X G a34,b34⟩
 have F35:=bC (st:=dW) l35 c35 k35
 have b35:=F35.binds (ps:=["_law_day_here"]) fun _ _ _ _ _ _ us hl=>Aw (P:=fun us=>bindArgs _ ⟨us,[]⟩=pure (List.zip _ us)) (fun _=>rfl) us hl
 have A35:aR K mg "_law_asked" dW ["_law_day_here"]:=⟨_,_,F35,PySem.W.mg_of X G a35,b35⟩
 have F36:=bC (st:=kJ) l36 c36 k36
 have b36:=F36.binds (ps:=["_law_script"]) fun _ _ _ _ _ _ us hl=>Aw (P:=fun us=>bindArgs _ ⟨us,[]⟩=pure (List.zip _ us)) (fun _=>rfl) us hl
 have A36:aR K mg "law" kJ ["_law_script"]:=⟨_,_,F36,PySem.W.mg_of X G a36,b36⟩
 have gl_OUTSIDE:=PySem.W.mg_of X G v_OUTSIDE
 have ek_UnknownStream:rJ K C_UnknownStream:=wv e1_UnknownStream e2_UnknownStream e3_UnknownStream e4_UnknownStream e5_UnknownStream e6_UnknownStream (ku e1_UnknownStream e7_UnknownStream) s1 s2
 have ek_Clashing:rJ K C_Clashing:=wv e1_Clashing e2_Clashing e3_Clashing e4_Clashing e5_Clashing e6_Clashing (ku e1_Clashing e7_Clashing) s1 s2
 have E_Clashing:tw K mg "Clashing":=⟨_,n_Clashing,PySem.W.mg_of X G n_Clashing,ek_Clashing⟩
 have E_UnknownStream:tw K mg "UnknownStream":=⟨_,n_UnknownStream,PySem.W.mg_of X G n_UnknownStream,ek_UnknownStream⟩
 have I_Clashing:pf K mg "Clashing" (jl [("UnknownStream",false),("Clashing",true)]):=⟨_,PySem.W.mg_of X G n_Clashing,j5 (fun x hx=>by
  simp only[List.mem_cons,List.not_mem_nil,or_false]at hx
  rcases hx with rfl|rfl
  ·exact⟨_,n_UnknownStream,dn e1_Clashing m_Clashing_UnknownStream e7_UnknownStream,ek_UnknownStream⟩
  ·exact⟨_,n_Clashing,dn e1_Clashing m_Clashing_Clashing e7_Clashing,ek_Clashing⟩)⟩
 have I_NothingDone:pf K mg "NothingDone" (jl [("UnknownStream",false),("Clashing",false)]):=⟨_,PySem.W.mg_of X G n_NothingDone,j5 (fun x hx=>by
  simp only[List.mem_cons,List.not_mem_nil,or_false]at hx
  rcases hx with rfl|rfl
  ·exact⟨_,n_UnknownStream,dn e1_NothingDone m_NothingDone_UnknownStream e7_UnknownStream,ek_UnknownStream⟩
  ·exact⟨_,n_Clashing,dn e1_NothingDone m_NothingDone_Clashing e7_Clashing,ek_Clashing⟩)⟩
 have I_OutOfRange:pf K mg "OutOfRange" (jl [("UnknownStream",false),("Clashing",false)]):=⟨_,PySem.W.mg_of X G n_OutOfRange,j5 (fun x hx=>by
  simp only[List.mem_cons,List.not_mem_nil,or_false]at hx
  rcases hx with rfl|rfl
  ·exact⟨_,n_UnknownStream,dn e1_OutOfRange m_OutOfRange_UnknownStream e7_UnknownStream,ek_UnknownStream⟩
  ·exact⟨_,n_Clashing,dn e1_OutOfRange m_OutOfRange_Clashing e7_Clashing,ek_Clashing⟩)⟩
 have I_UnknownDay:pf K mg "UnknownDay" (jl [("UnknownStream",false),("Clashing",false)]):=⟨_,PySem.W.mg_of X G n_UnknownDay,j5 (fun x hx=>by
  simp only[List.mem_cons,List.not_mem_nil,or_false]at hx
  rcases hx with rfl|rfl
  ·exact⟨_,n_UnknownStream,dn e1_UnknownDay m_UnknownDay_UnknownStream e7_UnknownStream,ek_UnknownStream⟩
  ·exact⟨_,n_Clashing,dn e1_UnknownDay m_UnknownDay_Clashing e7_Clashing,ek_Clashing⟩)⟩
 have I_UnknownStream:pf K mg "UnknownStream" (jl [("UnknownStream",true),("Clashing",false)]):=⟨_,PySem.W.mg_of X G n_UnknownStream,j5 (fun x hx=>by
  simp only[List.mem_cons,List.not_mem_nil,or_false]at hx
  rcases hx with rfl|rfl
  ·exact⟨_,n_UnknownStream,dn e1_UnknownStream m_UnknownStream_UnknownStream e7_UnknownStream,ek_UnknownStream⟩
  ·exact⟨_,n_Clashing,dn e1_UnknownStream m_UnknownStream_Clashing e7_Clashing,ek_Clashing⟩)⟩
 have I_ValueError:p8 K (.type "ValueError") (jl [("UnknownStream",true),("Clashing",true)]):=j5 (fun x hx=>by
  simp only[List.mem_cons,List.not_mem_nil,or_false]at hx
  rcases hx with rfl|rfl
  ·exact⟨_,n_UnknownStream,qH m_ValueError_UnknownStream,ek_UnknownStream⟩
  ·exact⟨_,n_Clashing,qH m_ValueError_Clashing,ek_Clashing⟩)
 have U_CellarError:wu K mg "CellarError" (Ar ["UnknownStream","Clashing"]):=As (PySem.W.mg_of X G n_CellarError) (fun x hx=>by
  simp only[List.mem_cons,List.not_mem_nil,or_false]at hx
  rcases hx with rfl|rfl
  ·exact⟨_,n_UnknownStream,qI e1_CellarError m_CellarError_UnknownStream e6_CellarError⟩
  ·exact⟨_,n_Clashing,qI e1_CellarError m_CellarError_Clashing e6_CellarError⟩)
 refine⟨PySem.W.fnOf "law" "law" (aP kJ) (aI kJ) (ah kJ) .none kV36 dc36 pm36 an36 cd36 ct36,fun s v=> .of_eq rfl,fun base _ _=> ?_⟩
 have G_way_over:aM l.prog w K mg base 1 "way_over" 2 db:=tP A1 B
 have G_brought_by:aM l.prog w K mg base 2 "brought_by" 3 cr:=q0 A2 B G_way_over
 have G_rise_of:aM l.prog w K mg base 1 "rise_of" 2 eg:=vo A3 B
 have G_steps_from:aM l.prog w K mg base 1 "steps_from" 2 eh:=q8 A4 B
 have G_arrivals_from:aM l.prog w K mg base 2 "arrivals_from" 2 bN:=mZ A5 B G_steps_from
 have G_bunches_of:aM l.prog w K mg base 3 "bunches_of" 2 cu:=q9 A6 B G_arrivals_from gl_OUTSIDE
 have G_path_of:aM l.prog w K mg base 3 "path_of" 3 gk:=vp A7 B G_arrivals_from
 have G_Day_stream:f_ l.prog w K mg base 1 "Day" "stream" 2 fO:=qa A8 B E_UnknownStream T_Day
 have G_Day_metered:f_ l.prog w K mg base 2 "Day" "metered" 2 du:=pw A9 B G_Day_stream T_Day
 have G_Day_without_meter:f_ l.prog w K mg base 3 "Day" "without_meter" 1 aX:=kb A10 B G_Day_metered T_Day
 have G_clashes_of:aM l.prog w K mg base 4 "clashes_of" 1 eo:=qb A11 B G_bunches_of G_Day_without_meter G_rise_of G_brought_by gl_OUTSIDE T_Day
 have G_refuse_clashes:aM l.prog w K mg base 5 "refuse_clashes" 1 bE:=lZ A12 B G_clashes_of E_Clashing
 have G_lack_of:aM l.prog w K mg base 3 "lack_of" 2 j7:=vq A13 B G_rise_of G_brought_by T_Day
 have G_setting_of:aM l.prog w K mg base 6 "setting_of" 1 bO:=qc A14 B G_refuse_clashes G_Day_without_meter G_bunches_of G_lack_of G_path_of T_Day
 have G_Day_init:p6 l.prog w K mg base 1 "Day" 4 cB:=tR A15 B
 have G_law_at:aM l.prog w K mg base 1 "_law_at" 2 eP:=y0 A16 B
 have G_law_cell:aM l.prog w K mg base 2 "_law_cell" 2 aD:=tU A17 B G_law_at
 have G_law_same:aM l.prog w K mg base 8 "_law_same" 2 bX:=tV A18 B
 have G_law_whole:aM l.prog w K mg base 1 "_law_whole" 1 gM:=r_ A19 B
 have G_law_streams:aM l.prog w K mg base 3 "_law_streams" 3 eQ:=pA A20 B G_law_cell
 have G_law_metered:aM l.prog w K mg base 3 "_law_metered" 3 eR:=pB A21 B G_law_cell
 have G_law_span:aM l.prog w K mg base 1 "_law_span" 4 im:=tW A22 B
 have G_law_flows:aM l.prog w K mg base 2 "_law_flows" 5 gO:=s9 A23 B G_law_span
 have G_law_truth:aM l.prog w K mg base 3 "_law_truth" 5 gP:=se A24 B G_law_cell G_law_flows
 have G_law_readings:aM l.prog w K mg base 3 "_law_readings" 5 dQ:=nQ A25 B G_law_cell
 have G_law_rises:aM l.prog w K mg base 3 "_law_rises" 4 gQ:=sf A26 B G_law_cell
 have G_law_case:aM l.prog w K mg base 4 "_law_case" 1 ip:=tX A27 B G_law_cell G_law_streams G_law_metered G_law_truth G_law_readings G_law_rises
 have G_law_day:aM l.prog w K mg base 3 "_law_day" 2 j8:=vt A28 B G_law_cell G_Day_init
 have G_law_kept:aM l.prog w K mg base 9 "_law_kept" 2 iq:=tY A29 B G_law_same T_Day
 have G_law_loose:aM l.prog w K mg base 1 "_law_loose" 1 gR:=sg A30 B
 have G_law_flood:aM l.prog w K mg base 1 "_law_flood" 2 fA:=sh A31 B
 have G_law_net:aM l.prog w K mg base 1 "_law_net" 3 dw:=vv A32 B
 have G_law_due_clashes:aM l.prog w K mg base 2 "_law_due_clashes" 1 cL:=lq A33 B G_law_loose G_law_flood G_law_net
 have G_law_is_setting:aM l.prog w K mg base 9 "_law_is_setting" 2 d7:=me A34 B G_law_same G_law_whole G_law_net
 have G_law_asked:aM l.prog w K mg base 7 "_law_asked" 1 fD:=si A35 B G_setting_of I_Clashing I_NothingDone I_OutOfRange I_UnknownDay I_UnknownStream I_ValueError U_CellarError
 exact Fe F36 B G_law_case G_law_day G_law_asked G_law_kept G_law_due_clashes G_law_is_setting
end
theorem walk {l:PySem.W.OpenLaw} {q:Program} {loose:List Str} {XP:(Str->Option Value)->Heap->Prop} {YP:World->Heap->Prop} {d:DefRec} {K:Params->PySem.W.Frag} (hn:l.most=some 63) (hdf:d.params.defaults=[])
  (hY:∀(w:World) (h:Heap),YP w h->(K w.params).In h) (main:∀ns:List Int,ns.length<=63->qN [.scr ns]= .ok (.bl true))
  (F:∀(w:World) (mg:Str->Option Value) (fa:Addr) (h:Heap),(K w.params).In h->h.Ns mainGlobals mg->mg d.name=some (.ref fa)->
   ∃fd:FuncData,(∀(s:Shared) (u:Value),BindsTo s fd ⟨[u],[]⟩ [("_law_script",u)])/\∀base:Heap,(K w.params).In base->base.Ns mainGlobals mg->gE l.prog w (K w.params) mg base (nN l.prog w) 10 fa fd ["_law_script"] (xE (K w.params) 1 qN)):
  PySem.W.WalkO q loose XP YP l.row.toRowW d [] (fun f vs=>PySem.call f vs):=
 L2.BY (n:=63) (k:=10) (x:="_law_script") (CX:=fun w=>nN l.prog w) (sp:=fun w=>xE (K w.params) 1 qN) hn (by decide) hdf ⟨rfl,by decide,by decide⟩ hY F (fun _ _ a ns hl _ hS=>EO (main ns hl) hS) fun _ _ _ _ _ z=>L2.Pu.EX z
end My
namespace My
open PySem PySem.Spec PyProof.Rows L2 L2.Pu
local macro_rules|`(tactic|simp! [$xs,*])=>`(tactic|simp only[aA,aT,gN,eM,bM,bi,pV,fF,hJ,uW,jD,frz,frz1,List.foldl,cW,f2,f1,cU,iM,iW,fL,aE,nj,HQ,sW,Gn,fT,i7,rK,yx,la,aa,aj,au,af,fC,Cm,ax,cJ,List.getElem?_cons_zero,List.getElem?_cons_succ,List.set_cons_zero,List.set_cons_succ,lQ,oX,Ae,List.length_cons,List.length_nil,Nat.zero_add,Nat.reduceAdd,if_true,if_false,Bool.false_eq_true,Bool.not_true,Bool.not_false,jR,decide_true,decide_false,EQ,zU,zV,zW,DA,Gu,Gv,Gw,vb,zX,ES,vc,Cq,Cr,zY,zZ,Gx,wl,List.nil_append,Option.map_some,Nat.zero_le,$xs,*])
def cel (ns:List Int) (k:Nat):Int:=ns.getD k 0
theorem wy (ns:List Int) (k:Nat):eP [.scr ns, .int (k:Int)]= .ok (.int (cel ns k)):=by
 unfold eP aW
 simp only[eF,tO,aA,eM,bM,bi,f2,cU,af,fC,fT,aa,aj,ET,DA,Gy,List.length_cons,List.length_nil,if_true,List.map_cons,List.map_nil,List.replicate,Nat.sub_self,List.append_nil,List.getElem?_cons_zero,List.getElem?_cons_succ,Slot.data,ax,cJ]
 by_cases h:k<ns.length
 ·have h':(k:Int)<(ns.length:Int):=by omega
  simp only[h',decide_true,if_true,eX h,Option.map_some,cJ,ax]
  simp[cel,h]
 ·have h':¬(k:Int)<(ns.length:Int):=by omega
  simp only[h',decide_false,if_false,Bool.false_eq_true,ax]
  simp[cel,Nat.le_of_not_lt h]
theorem IN (ns:List Int):eP [.scr ns, .int 0]= .ok (.int (cel ns 0)):=wy ns 0
def cl (ns:List Int) (k:Nat):Int:=if cel ns 0%2=0 then cel ns k else ((cel ns k+cel ns 0 / 2+7919*(k:Int)+1)*48271%2147483647+(k:Int))*69621%2147483647
theorem gw (ns:List Int) (k:Nat):aD [.scr ns, .int (k:Int)]= .ok (.int (cl ns k)):=by
 refine aV rfl ?_
 show lj [some (.val (.scr ns)),some (.val (.int (k:Int))),none]=_
 by_cases h:cel ns 0%2=0<;>simp! [lj,IN,wy,h,bI (show (0:Int)<2 by decide),dm (show (0:Int)<2/\(2:Int)<1073741824 by decide),zT (show Int.natAbs 48271<18446744073709551616 by decide),zT (show Int.natAbs 69621<18446744073709551616 by decide),va (show Int.natAbs 7919<18446744073709551616 by decide),bI (show (0:Int)<2147483647 by decide),cl]
theorem tZ {g:D->ai->R ai} {gb:ai->R bG} {n:Nat} {P:Nat->ai->Prop} (h:∀k,k<n->∀ρ,P k ρ->∃ρ1 ρ2,g (.int (k:Int)) ρ= .ok ρ1/\(gb ρ1= .ok (.nx ρ2)\/gb ρ1= .ok (.cnt ρ2))/\P (k+1) ρ2):∀(j k:Nat) (ρ:ai),k+j=n->P k ρ->∃ρ',bH g gb ((List.range' k j).map fun k:Nat=>D.int (k:Int)) ρ= .ok (.nx ρ')/\P n ρ'
 |0,k,ρ,e,hp=>⟨ρ,rfl,by rw[Nat.add_zero]at e;exact e▸hp⟩
 |j+1,k,ρ,e,hp=>by
  obtain⟨ρ1,ρ2,e1,e2,h2⟩:=h k (by omega) ρ hp
  obtain⟨ρ',e3,h3⟩:=tZ h j (k+1) ρ2 (by omega) h2
  refine⟨ρ',?_,h3⟩
  rw[List.range'_succ,List.map_cons]
  rcases e2 with e2|e2
  ·rw[ck e1 e2,e3]
  ·rw[tf e1 e2,e3]
theorem mh {g:D->ai->R ai} {gb:ai->R bG} {n:Nat} {P:Nat->ai->Prop} {fs:ai->R (List D)} {ρ:ai} (hf:fs ρ= .ok [.int (n:Int)]) (hn:n<=1000) (h0:P 0 ρ) (h:∀k,k<n->∀ρ,P k ρ->∃ρ1 ρ2,g (.int (k:Int)) ρ= .ok ρ1/\(gb ρ1= .ok (.nx ρ2)\/gb ρ1= .ok (.cnt ρ2))/\P (k+1) ρ2):∃ρ',fF (ee fs) g gb ρ= .ok (.nx ρ')/\P n ρ':=by
 obtain⟨ρ',e,hp⟩:=tZ h n 0 ρ (by omega) h0
 rw[<-List.range_eq_range']at e
 exact⟨ρ',(dH (kr hf (by unfold lim;omega))).trans e,hp⟩
theorem pE {α β:Type} (f:α->β) {l:List α} {k:Nat} (h:k<l.length):(l.take (k+1)).map f=(l.take k).map f++[f l[k]]:=by
 rw[<-List.take_append_getElem h,List.map_append];rfl
abbrev bf:=Int×Int×Int
def ay (r:bf):D:= .tup [.int r.1, .int r.2.1, .int r.2.2]
structure Good (n:Nat) (ss:List bf):Prop where
 inc:ss.Pairwise fun a b=>a.1<b.1
 num:∀r∈ss,1<=r.1/\r.1<=60
 src:∀r∈ss,0<=r.2.1/\r.2.1<=n
 tgt:∀r∈ss,0<=r.2.2/\r.2.2<=n
 ne:∀r∈ss,r.2.1≠r.2.2
def mj (ns:List Int) (c room:Int):Int:=if cl ns 4 / 8%2=1 then c%room%4 else c%room
def t_ (ns:List Int) (n num room c:Int):bf:=(num+1+mj ns c room,c / room%(n+1),(c / room%(n+1)+1+c / room / (n+1)%n)%(n+1))
theorem DF (ns:List Int):aD [.scr ns, .int 4]= .ok (.int (cl ns 4)):=gw ns 4
theorem AE {ns:List Int} {n many k:Nat} {num:Int} {acc:List D} {x6 x7 x8 x9 x10:Option Slot} (hn:0<n) (hn7:n<=7) (hr:0<61 - num - (many:Int)+(k:Int)) (hr2:61 - num - (many:Int)+(k:Int)<=100) (hlim:acc.length<lim):
  ∃y6 y7 y8 y9 y10,fP [some (.val (.scr ns)),some (.val (.int (n:Int))),some (.val (.int (many:Int))),some (.own (.lst acc)),some (.val (.int num)),some (.val (.int (k:Int))),x6,x7,x8,x9,x10]
   = .ok (.nx [some (.val (.scr ns)),some (.val (.int (n:Int))),some (.val (.int (many:Int))),some (.own (.lst (acc++[ay (t_ ns n num (61 - num - (many:Int)+(k:Int)) (cl ns (5+k)))]))),some (.val (.int (num+1+mj ns (cl ns (5+k)) (61 - num - (many:Int)+(k:Int))))),some (.val (.int (k:Int))),y6,y7,y8,y9,y10]):=by
 have hc:aD [.scr ns, .int (5+(k:Int))]= .ok (.int (cl ns (5+k))):=by
  have:=gw ns (5+k)
  rwa [show ((5+k:Nat):Int)=5+(k:Int) by omega]at this
 have hn1:(0:Int)<(n:Int)+1:=by omega
 have hn0:(0:Int)<(n:Int):=by omega
 have hl3:(3:Nat)<=lim:=by decide
 generalize he:(61 - num - (many:Int)+(k:Int))=room at*
 refine⟨some (.val (.int room)),some (.val (.int (cl ns (5+k)))),some (.val (.int (mj ns (cl ns (5+k)) room))),some (.val (.int (cl ns (5+k) / room%((n:Int)+1)))),some (.val (.int ((cl ns (5+k) / room%((n:Int)+1)+1+cl ns (5+k) / room / ((n:Int)+1)%(n:Int))%((n:Int)+1)))),?_⟩
 by_cases h:cl ns 4 / 8%2=1<;>simp! [fP,he,hc,DF,h,dm (show (0:Int)<8/\(8:Int)<1073741824 by decide),bI (show (0:Int)<2 by decide),bI (show (0:Int)<4 by decide),bI hr,dm (show 0<room/\room<1073741824 from ⟨hr,by omega⟩),bI hn1,bI hn0,dm (show 0<(n:Int)+1/\(n:Int)+1<1073741824 from ⟨hn1,by omega⟩),hlim,hl3,mj,t_,ay]
theorem Fg (ns:List Int) (c room:Int) (h:0<room):0<=mj ns c room/\mj ns c room<room:=by
 unfold mj
 have h1:=Int.emod_nonneg c (show room≠0 by omega)
 have h2:=Int.emod_lt_of_pos c h
 split<;>omega
theorem AF (ns:List Int) (n:Nat) (num room c:Int) (hn:0<n):let r:=t_ ns n num room c;(0<=r.2.1/\r.2.1<=n)/\(0<=r.2.2/\r.2.2<=n)/\r.2.1≠r.2.2:=by
 have hp:(0:Int)<(n:Int)+1:=by omega
 have h0:(0:Int)<(n:Int):=by omega
 have a1:=Int.emod_nonneg (c / room) (show (n:Int)+1≠0 by omega)
 have a2:=Int.emod_lt_of_pos (c / room) hp
 have b1:=Int.emod_nonneg (c / room / ((n:Int)+1)) (show (n:Int)≠0 by omega)
 have b2:=Int.emod_lt_of_pos (c / room / ((n:Int)+1)) h0
 have c1:=Int.emod_nonneg (c / room%((n:Int)+1)+1+c / room / ((n:Int)+1)%(n:Int)) (show (n:Int)+1≠0 by omega)
 have c2:=Int.emod_lt_of_pos (c / room%((n:Int)+1)+1+c / room / ((n:Int)+1)%(n:Int)) hp
 refine⟨⟨a1,by show c / room%((n:Int)+1)<=(n:Int);omega⟩,⟨c1,by show (c / room%((n:Int)+1)+1+c / room / ((n:Int)+1)%(n:Int))%((n:Int)+1)<=(n:Int);omega⟩,?_⟩
 show c / room%((n:Int)+1)≠(c / room%((n:Int)+1)+1+c / room / ((n:Int)+1)%(n:Int))%((n:Int)+1)
 generalize c / room%((n:Int)+1)=s at*
 generalize c / room / ((n:Int)+1)%(n:Int)=e at*
 by_cases hlt:s+1+e<(n:Int)+1
 ·rw[Int.emod_eq_of_lt (by omega) hlt];omega
 ·have:(s+1+e)%((n:Int)+1)=s+1+e - ((n:Int)+1):=by
   rw[<-Int.sub_emod_right,Int.emod_eq_of_lt (by omega) (by omega)]
  rw[this];omega
theorem Good.snoc {n:Nat} {ss:List bf} {r:bf} (g:Good n ss) (h1:∀q∈ss,q.1<r.1) (h2:1<=r.1/\r.1<=60) (h3:(0<=r.2.1/\r.2.1<=n)/\(0<=r.2.2/\r.2.2<=n)/\r.2.1≠r.2.2):Good n (ss++[r]):=by
 have key:∀{Q:bf->Prop},(∀q∈ss,Q q)->Q r->∀q∈ss++[r],Q q:=fun a b q hq=>(List.mem_append.mp hq).elim (a q) fun z=>List.mem_singleton.mp z▸b
 exact⟨List.pairwise_append.mpr ⟨g.inc,List.pairwise_singleton _ _,fun a ha b hb=>List.mem_singleton.mp hb▸h1 a ha⟩,key g.num h2,key g.src h3.1,key g.tgt h3.2.1,key g.ne h3.2.2⟩
theorem sj (ns:List Int) (n many:Nat) (hn7:n<=7) (hm:many<=12) (h0:0<n\/many=0):∃ss:List bf,eQ [.scr ns, .int (n:Int), .int (many:Int)]= .ok (.lst (ss.map ay))/\ss.length=many/\Good n ss:=by
 obtain⟨ρ',e,ss,num,y5,y6,y7,y8,y9,y10,rfl,h1,h2,_⟩:=mh (g:=gN 5) (gb:=fP) (n:=many) (fs:=aa (au 2) (aj)) (ρ:=[some (.val (.scr ns)),some (.val (.int (n:Int))),some (.val (.int (many:Int))),some (.own (.lst (([]:List bf).map ay))),some (.val (.int 0)),none,none,none,none,none,none])
  (P:=fun k ρ=>∃(ss:List bf) (num:Int) (y5 y6 y7 y8 y9 y10:Option Slot),ρ=[some (.val (.scr ns)),some (.val (.int (n:Int))),some (.val (.int (many:Int))),some (.own (.lst (ss.map ay))),some (.val (.int num)),y5,y6,y7,y8,y9,y10]/\ss.length=k/\Good n ss/\(∀r∈ss,r.1<=num)/\0<=num/\num+(many:Int) - (k:Int)<=60)
  rfl (by omega) ⟨[],0,_,_,_,_,_,_,rfl,rfl,⟨.nil,by simp,by simp,by simp,by simp⟩,by simp,Int.le_refl _,by omega⟩ (fun k hk ρ hρ=>by
   obtain⟨ss,num,y5,y6,y7,y8,y9,y10,rfl,l1,g,hb,hz,hn⟩:=hρ
   have hr:0<61 - num - (many:Int)+(k:Int):=by omega
   obtain⟨z6,z7,z8,z9,z10,es⟩:=AE (ns:=ns) (n:=n) (many:=many) (k:=k) (num:=num) (acc:=ss.map ay) (x6:=y6) (x7:=y7) (x8:=y8) (x9:=y9) (x10:=y10) (by omega) hn7 hr (by omega) (by rw[List.length_map];unfold lim;omega)
   have hg:=Fg ns (cl ns (5+k)) _ hr
   have hrow:=AF ns n num (61 - num - (many:Int)+(k:Int)) (cl ns (5+k)) (by omega)
   have hnum:(t_ ns n num (61 - num - (many:Int)+(k:Int)) (cl ns (5+k))).1=num+1+mj ns (cl ns (5+k)) (61 - num - (many:Int)+(k:Int)):=rfl
   generalize t_ ns n num (61 - num - (many:Int)+(k:Int)) (cl ns (5+k))=row at*
   generalize mj ns (cl ns (5+k)) (61 - num - (many:Int)+(k:Int))=gp at*
   refine⟨_,_,rfl, .inl es,ss++[row],_,_,_,_,_,_,_,by rw[List.map_append];rfl,by simp[l1],g.snoc (fun q hq=> ?_) (by omega) hrow,fun q hq=> ?_,by omega,by omega⟩
   ·have:=hb q hq
    omega
   ·rcases List.mem_append.mp hq with hq|hq
    ·have:=hb q hq
     omega
    ·rw[List.mem_singleton.mp hq,hnum]
     exact Int.le_refl _)
 refine⟨ss,aV rfl ?_,h1,h2⟩
 show iP [some (.val (.scr ns)),some (.val (.int (n:Int))),some (.val (.int (many:Int))),none,none,none,none,none,none,none,none]=_
 unfold iP
 rw[aw (ρ':=[some (.val (.scr ns)),some (.val (.int (n:Int))),some (.val (.int (many:Int))),some (.own (.lst (([]:List bf).map ay))),none,none,none,none,none,none,none]) rfl,
  aw (ρ':=[some (.val (.scr ns)),some (.val (.int (n:Int))),some (.val (.int (many:Int))),some (.own (.lst (([]:List bf).map ay))),some (.val (.int 0)),none,none,none,none,none,none]) rfl,aw e]
 rfl
inductive Wf:Nat->D->Prop
 |int (n:Nat) (i:Int):Wf n (.int i)
 |tup {n:Nat} {ds:List D}:ds.length<=1000->(∀d∈ds,Wf n d)->Wf (n+1) (.tup ds)
theorem Wf.up {n:Nat} {d:D} (h:Wf n d):∀k,Wf (n+k) d:=by
 induction h with
 |int n i=>exact fun k=> .int _ i
 | @tup n ds h1 h2 ih=>exact fun k=>by rw[Nat.add_right_comm];exact .tup h1 fun d hd=>ih d hd k
theorem ya {rec_:List D->R D} {ds:List D} (h:∀d∈ds,rec_ [d,d]= .ok (.bl true)) {k:Nat} (hk:k<ds.length):
  iF rec_ [some (.val (.tup ds)),some (.val (.tup ds)),some (.val (.int (k:Int)))]= .ok (.nx [some (.val (.tup ds)),some (.val (.tup ds)),some (.val (.int (k:Int)))]):=by
 have hr:=h ds[k] (List.getElem_mem hk)
 simp only[iF,eM,la,i7,aE,aa,aj,f2,af,bM,bi,fC,ax,cJ,List.getElem?_cons_zero,List.getElem?_cons_succ,Slot.data,wl,eX hk,List.length_cons,List.length_nil,if_true,hr,jR,Bool.not_true,Bool.false_eq_true,if_false]
theorem qP {rec_:List D->R D} {ds:List D} (h:∀d∈ds,rec_ [d,d]= .ok (.bl true)):∀(ks:List Nat) (x:Option Slot),(∀k∈ks,k<ds.length)->
  ∃y,bH (gN 2) (iF rec_) (ks.map fun k:Nat=>D.int (k:Int)) [some (.val (.tup ds)),some (.val (.tup ds)),x]= .ok (.nx [some (.val (.tup ds)),some (.val (.tup ds)),y])
 |[],x,_=>⟨x,rfl⟩
 |k::ks,x,hk=>by
  obtain⟨y,e⟩:=qP h ks (some (.val (.int (k:Int)))) fun j hj=>hk j (List.mem_cons_of_mem _ hj)
  exact⟨y,by rw[List.map_cons,ck rfl (ya h (hk k List.mem_cons_self)),e]⟩
theorem AG (n:Nat) (i:Int):dM (n+1) [.int i, .int i]= .ok (.bl true):=by
 refine aV rfl ?_
 show il (dM n) [some (.val (.int i)),some (.val (.int i)),none]=_
 simp only[il,aA,eM,bM,bi,i7,lO,af,nj,sW,f2,ax,cJ,List.getElem?_cons_zero,List.getElem?_cons_succ,Slot.data,EU,Aa,Ab,jR,Bool.false_eq_true,if_false,Bool.not_false,zV,decide_true]
theorem yb {n:Nat} {d:D} (h:Wf n d):dM (n+1) [d,d]= .ok (.bl true):=by
 induction h with
 |int n i=>exact AG n i
 | @tup n ds h1 h2 ih=>
  obtain⟨y,e⟩:=qP ih (List.range ds.length) none fun k hk=>List.mem_range.mp hk
  refine aV rfl ?_
  show il (dM (n+1)) [some (.val (.tup ds)),some (.val (.tup ds)),none]=_
  simp only[il,aA,eM,bM,bi,yx,la,fT,i7,lO,af,fC,f2,cU,aa,aj,ax,cJ,List.getElem?_cons_zero,List.getElem?_cons_succ,Slot.data,ve,jR,if_true,Bool.not_true,Bool.false_eq_true,if_false,vc,zW,decide_true,fF]
  rw[kr (n:=ds.length) (by simp only[aa,aj,cU,af,ax,cJ,List.getElem?_cons_zero,List.getElem?_cons_succ,Slot.data,vc]) (by unfold lim;omega),ax,e]
  simp only[ax]
theorem ml {n:Nat} (hn:n<=7) {d:D} (h:Wf n d):bX [d,d]= .ok (.bl true):=by
 have:=yb (h.up (7 - n))
 rw[show n+(7 - n)+1=8 by omega]at this
 exact this
theorem qQ (i:Int):bX [.int i, .int i]= .ok (.bl true):=ml (Nat.zero_le _) (.int 0 i)
theorem sk (ns:List Int) (h:ns.length<=1000):Wf 1 (.tup (ns.map .int)):= .tup (by simpa using h) fun d hd=>by obtain⟨i,_,rfl⟩:=List.mem_map.mp hd;exact .int 0 i
theorem yc (ns:List Int) (h:ns.length<=1000):bX [.tup (ns.map .int), .tup (ns.map .int)]= .ok (.bl true):=ml (by omega) (sk ns h)
theorem vw {ss:List bf} {k:Nat} (h:k<ss.length):L2.atI (ss.map ay) (k:Int)=some (ay ss[k]):=by
 rw[eX (by simpa using h)]
 simp
theorem fE {α:Type} {x:α} {xs:List α}:L2.atI (x::xs) 0=some x:=by
 have:=eX (xs:=x::xs) (k:=0) (by simp)
 simpa using this
theorem jy {α:Type} {x y:α} {xs:List α}:L2.atI (x::y::xs) 1=some y:=by
 have:=eX (xs:=x::y::xs) (k:=1) (by simp)
 simpa using this
theorem n_ (ns:List Int) (c k:Nat) {ci:Int} (h:ci=(c:Int)):aD [.scr ns, .int (ci+(k:Int))]= .ok (.int (cl ns (c+k))):=by
 have:=gw ns (c+k)
 rwa [show ((c+k:Nat):Int)=ci+(k:Int) by omega]at this
theorem AH {ns:List Int} {ss:List bf} {share:Int} {acc:List Int} {k:Nat} (hk:k<ss.length) (hl:acc.length<=10):∃acc':List Int,d6 [some (.val (.scr ns)),some (.val (.lst (ss.map ay))),some (.val (.int share)),some (.own (.lst (acc.map .int))),some (.val (.int (k:Int)))]
   = .ok (.nx [some (.val (.scr ns)),some (.val (.lst (ss.map ay))),some (.val (.int share)),some (.own (.lst (acc'.map .int))),some (.val (.int (k:Int)))])/\(acc'=acc\/acc'=acc++[ss[k].1])/\acc'.length<=10:=by
 have hc:aD [.scr ns, .int (17+(k:Int))]=_:=n_ ns 17 k rfl
 have hlim:acc.length<lim:=by unfold lim;omega
 have ap:acc.map D.int++[D.int ss[k].1]=(acc++[ss[k].1]).map D.int:=by simp
 by_cases h1:cl ns (17+k)%4<share
 ·by_cases h2:acc.length<10
  ·refine⟨acc++[ss[k].1],?_, .inr rfl,by simp;omega⟩
   have h2':(acc.length:Int)<10:=by omega
   simp! [d6,hc,bI (show (0:Int)<4 by decide),h1,h2',vw hk,ay,fE,hlim,List.length_map,ap]
  ·refine⟨acc,?_, .inl rfl,hl⟩
   have h2':¬(acc.length:Int)<10:=by omega
   simp! [d6,hc,bI (show (0:Int)<4 by decide),h1,h2',List.length_map]
 ·refine⟨acc,?_, .inl rfl,hl⟩
  simp! [d6,hc,bI (show (0:Int)<4 by decide),h1,List.length_map]
theorem sm (ns:List Int) (ss:List bf) (hs:ss.length<=1000) (share:Int):∃mm:List Int,eR [.scr ns, .lst (ss.map ay), .int share]= .ok (.lst (mm.map .int))/\mm.Sublist (ss.map (·.1))/\mm.length<=10:=by
 obtain⟨ρ',e,mm,y4,rfl,h1,h2⟩:=mh (g:=gN 4) (gb:=d6) (n:=ss.length) (fs:=aa (cU eW (aa (af 1) (aj))) (aj)) (ρ:=[some (.val (.scr ns)),some (.val (.lst (ss.map ay))),some (.val (.int share)),some (.own (.lst (([]:List Int).map .int))),none])
  (P:=fun k ρ=>∃(acc:List Int) (y4:Option Slot),ρ=[some (.val (.scr ns)),some (.val (.lst (ss.map ay))),some (.val (.int share)),some (.own (.lst (acc.map .int))),y4]/\acc.Sublist ((ss.take k).map (·.1))/\acc.length<=10)
  (by simp! [List.length_map]) hs ⟨_,_,rfl, .slnil,by simp⟩ (fun k hk ρ hρ=>by
   obtain⟨acc,y4,rfl,hs,hl⟩:=hρ
   obtain⟨acc1,e1,h1,h2⟩:=AH (ns:=ns) (share:=share) hk hl
   refine⟨_,_,rfl, .inl e1,acc1,_,rfl,?_,h2⟩
   rw[pE _ hk]
   rcases h1 with rfl|rfl
   ·exact hs.trans (List.sublist_append_left _ _)
   ·exact hs.append (List.Sublist.refl _))
 rw[List.take_length]at h1
 refine⟨mm,aV rfl ?_,h1,h2⟩
 show iQ [some (.val (.scr ns)),some (.val (.lst (ss.map ay))),some (.val (.int share)),none,none]=_
 unfold iQ
 rw[aw (ρ':=[some (.val (.scr ns)),some (.val (.lst (ss.map ay))),some (.val (.int share)),some (.own (.lst (([]:List Int).map .int))),none]) rfl,aw e]
 rfl
def lv (L:List Int) (i:Int):Int:=L.getD i.toNat 0
theorem wz {L:List Int} {i:Int} (h0:0<=i) (h1:i<L.length):L2.atI (L.map D.int) i=some (.int (lv L i)):=by
 obtain⟨k,rfl⟩:=Int.eq_ofNat_of_zero_le h0
 have hk:k<L.length:=by omega
 rw[eX (by simpa using hk)]
 simp[lv,hk]
theorem AI {i j:Int}:xM [.int i, .int j]=some (.int (if j>i then j else i)):=rfl
theorem AJ {i j:Int}:xL [.int i, .int j]=some (.int (if j<i then j else i)):=rfl
theorem DG {a b c:Int} (h1:a<=c) (h2:b<=c):(if b>a then b else a)<=c:=by split<;>assumption
theorem AK {a b c:Int} (h:c<=a):c<=(if b>a then b else a):=by
 split
 ·exact Int.le_trans h (Int.le_of_lt (by assumption))
 ·exact h
theorem AL {a b c:Int} (h:c<=b):c<=(if b>a then b else a):=by
 split
 ·exact h
 ·exact Int.le_trans h (Int.not_lt.mp (by assumption))
theorem DH {a b c:Int} (h1:c<=a) (h2:c<=b):c<=(if b<a then b else a):=by split<;>assumption
theorem AM {a b c:Int} (h:a<=c):(if b<a then b else a)<=c:=by
 split
 ·exact Int.le_trans (Int.le_of_lt (by assumption)) h
 ·exact h
theorem AN {a b c:Int} (h:b<=c):(if b<a then b else a)<=c:=by
 split
 ·exact h
 ·exact Int.le_trans (Int.not_lt.mp (by assumption)) h
theorem yd {L:List Int} {n:Nat} {s t most:Int} (hL:L.length=n+1) (hs:0<=s/\s<=n) (ht:0<=t/\t<=n) (hm:0<=most) (hb:∀i:Int,1<=i->i<=n-> -1000<=lv L i/\lv L i<=1000):
  ∃lo hi:Int,im [.lst (L.map .int), .int s, .int t, .int most]= .ok (.lst [.int lo, .int hi])/\lo<=0/\0<=hi/\ -most<=lo/\hi<=most/\(0<s->lv L s - 1000<=lo/\hi<=lv L s+1000)/\(0<t-> -1000 - lv L t<=lo/\hi<=1000 - lv L t):=by
 have hsl:L2.atI (L.map D.int) s=some (.int (lv L s)):=wz hs.1 (by omega)
 have htl:L2.atI (L.map D.int) t=some (.int (lv L t)):=wz ht.1 (by omega)
 have hl2:(2:Nat)<=lim:=by decide
 have hm': -most<=0:=Int.neg_nonpos_of_nonneg hm
 have r:= @Int.le_refl
 have key:∀i:Int,0<i->i<=n->(lv L i - 1000<=0/\0<=lv L i+1000)/\ -1000 - lv L i<=0/\0<=1000 - lv L i:=fun i h1 h2=>by
  have:=hb i h1 h2
  omega
 obtain⟨lo1,hi1,e1,p1,p2,p3,p4,p5⟩:∃lo1 hi1:Int,eM (fT (f2 we (af 1) (fC (.int 0)))) (aA (aT (cU xM (aa (af 4) (aa (f2 gK (f2 bT (af 0) (af 1)) (fC (.int 1000))) (aj)))) (gN 4)) (aT (cU xL (aa (af 5) (aa (f2 cH (f2 bT (af 0) (af 1)) (fC (.int 1000))) (aj)))) (gN 5))) (bi) [some (.val (.lst (L.map .int))),some (.val (.int s)),some (.val (.int t)),some (.val (.int most)),some (.val (.int (-most))),some (.val (.int most))]
   = .ok (.nx [some (.val (.lst (L.map .int))),some (.val (.int s)),some (.val (.int t)),some (.val (.int most)),some (.val (.int lo1)),some (.val (.int hi1))])/\lo1<=0/\0<=hi1/\ -most<=lo1/\hi1<=most/\(0<s->lv L s - 1000<=lo1/\hi1<=lv L s+1000):=by
  by_cases h1:0<s
  ·have k:=(key s h1 hs.2).1
   exact⟨_,_,by simp! [h1,hsl,AI,AJ],DG hm' k.1,DH hm k.2,AK (r _),AM (r _),fun _=>⟨AL (r _),AN (r _)⟩⟩
  ·exact⟨-most,most,by simp! [h1],hm',hm,r _,r _,fun z=>absurd z h1⟩
 obtain⟨lo2,hi2,e2,q1,q2,q3,q4,q5⟩:∃lo2 hi2:Int,eM (fT (f2 we (af 2) (fC (.int 0)))) (aA (aT (cU xM (aa (af 4) (aa (f2 gK (f1 v3 (fC (.int 1000))) (f2 bT (af 0) (af 2))) (aj)))) (gN 4)) (aT (cU xL (aa (af 5) (aa (f2 gK (fC (.int 1000)) (f2 bT (af 0) (af 2))) (aj)))) (gN 5))) (bi) [some (.val (.lst (L.map .int))),some (.val (.int s)),some (.val (.int t)),some (.val (.int most)),some (.val (.int lo1)),some (.val (.int hi1))]
   = .ok (.nx [some (.val (.lst (L.map .int))),some (.val (.int s)),some (.val (.int t)),some (.val (.int most)),some (.val (.int lo2)),some (.val (.int hi2))])/\lo2<=0/\0<=hi2/\lo1<=lo2/\hi2<=hi1/\(0<t-> -1000 - lv L t<=lo2/\hi2<=1000 - lv L t):=by
  by_cases h1:0<t
  ·have k:=(key t h1 ht.2).2
   exact⟨_,_,by simp! [h1,htl,AI,AJ],DG p1 k.1,DH p2 k.2,AK (r _),AM (r _),fun _=>⟨AL (r _),AN (r _)⟩⟩
  ·exact⟨lo1,hi1,by simp! [h1],p1,p2,r _,r _,fun z=>absurd z h1⟩
 refine⟨lo2,hi2,aV rfl ?_,q1,q2,Int.le_trans p3 q3,Int.le_trans q4 p4,fun z=>⟨Int.le_trans (p5 z).1 q3,Int.le_trans q4 (p5 z).2⟩,q5⟩
 show ll [some (.val (.lst (L.map .int))),some (.val (.int s)),some (.val (.int t)),some (.val (.int most)),none,none]=_
 unfold ll
 rw[aw (ρ':=[some (.val (.lst (L.map .int))),some (.val (.int s)),some (.val (.int t)),some (.val (.int most)),some (.val (.int (-most))),none]) rfl,
  aw (ρ':=[some (.val (.lst (L.map .int))),some (.val (.int s)),some (.val (.int t)),some (.val (.int most)),some (.val (.int (-most))),some (.val (.int most))]) rfl,aw e1,aw e2]
 simp! [hl2]
def aC (p:Int×Int):D:= .tup [.int p.1, .int p.2]
theorem Fh {b:Bool}:EM [.bl b]=some (.int (if b=true then 1 else 0)):=rfl
theorem vx {L:List Int} {i j v:Int} (hi:0<=i) (hl:i<L.length) (hj:0<=j):lv (L.set i.toNat v) j=if j=i then v else lv L j:=by
 unfold lv
 rw[List.getD_eq_getElem?_getD,List.getElem?_set]
 by_cases h:j=i
 ·subst h
  rw[if_pos rfl,if_pos (by omega),if_pos rfl];rfl
 ·rw[if_neg (by omega),if_neg h,List.getD_eq_getElem?_getD]
theorem AO {n:Nat} {i:Int} (h0:0<=i) (h1:i<n):L2.uI n i=some i.toNat:=by unfold L2.uI;rw[if_pos h0,if_pos h1]
theorem u0 (L:List Int) (i:Nat) (v:Int):(L.map D.int).set i (.int v)=(L.set i v).map D.int:=by rw[List.map_set]
theorem Im {i:Nat} {gs:List D->ai->R ai} {d:D} {ds:List D} {ρ:ai}:bc (gN i) gs (d::ds) ρ=gs ds (ρ.set i (some (.val d))):=rfl
theorem Io {ρ:ai}:fU [] ρ= .ok ρ:=rfl
theorem ye {n:Nat} {figs:List Int} {ss:List bf} {mm:List Int} {b0 b1:Int} {L:List Int} {rows:List (Int×Int)} {k:Nat} {x8 x9 x10 x11 x12 x13:Option Slot} (hk:k<ss.length) (hf:k<figs.length) (g:Good n ss) (hn:n<=7) (hL:L.length=n+1) (h0:0<=b0) (h1:0<=b1)
  (hb:∀i:Int,1<=i->i<=n-> -1000<=lv L i/\lv L i<=1000) (hr:rows.length<=1000):
  ∃(a:Int) (L':List Int) (y8 y9 y10 y11 y12 y13:Option Slot),hX [some (.val (.lst (figs.map .int))),some (.val (.int (n:Int))),some (.val (.lst (ss.map ay))),some (.val (.lst (mm.map .int))),some (.val (.lst [.int b0, .int b1])),some (.own (.lst (L.map .int))),some (.own (.lst (rows.map aC))),some (.val (.int (k:Int))),x8,x9,x10,x11,x12,x13]
   = .ok (.nx [some (.val (.lst (figs.map .int))),some (.val (.int (n:Int))),some (.val (.lst (ss.map ay))),some (.val (.lst (mm.map .int))),some (.val (.lst [.int b0, .int b1])),some (.own (.lst (L'.map .int))),some (.own (.lst ((rows++[(ss[k].1,a)]).map aC))),some (.val (.int (k:Int))),y8,y9,y10,y11,y12,y13])/\
   L'.length=n+1/\(∀i:Int,1<=i->i<=n-> -1000<=lv L' i/\lv L' i<=1000):=by
 have hmem:=List.getElem_mem hk
 have hrow:=vw hk
 have hs:=g.src _ hmem
 have ht:=g.tgt _ hmem
 have hne:=g.ne _ hmem
 generalize ss[k]=row at*
 obtain⟨num,s,t⟩:=row
 replace hs:0<=s/\s<=n:=hs
 replace ht:0<=t/\t<=n:=ht
 replace hne:s≠t:=hne
 have hm:0<=(if num∈mm then b1 else b0):=by split<;>omega
 obtain⟨lo,hi,e,c1,c2,c3,c4,c5,c6⟩:=yd hL hs ht hm hb
 have hfig:L2.atI (figs.map D.int) (k:Int)=some (.int figs[k]):=by
  rw[eX (by simpa using hf)];simp
 have hd:(0:Int)<hi - lo+1:=by omega
 generalize figs[k]=fg at hfig
 have a1:=Int.emod_nonneg fg (show hi - lo+1≠0 by omega)
 have a2:=Int.emod_lt_of_pos fg hd
 have hsl:L2.atI (L.map D.int) s=some (.int (lv L s)):=wz hs.1 (by omega)
 have hb2:L2.atI [D.int b0,D.int b1] (if decide (num∈mm)=true then 1 else 0)=some (.int (if num∈mm then b1 else b0)):=by
  by_cases h:num∈mm
  ·simp only[h,decide_true,if_true,jy]
  ·simp only[h,decide_false,Bool.false_eq_true,if_false,fE]
 have hixs:L2.uI (L.map D.int).length s=some s.toNat:=AO hs.1 (by rw[List.length_map];omega)
 have L1len:(L.set s.toNat (lv L s - (lo+fg%(hi - lo+1)))).length=n+1:=by rw[List.length_set];exact hL
 have htl:L2.atI ((L.set s.toNat (lv L s - (lo+fg%(hi - lo+1)))).map D.int) t=some (.int (lv L t)):=by
  rw[wz ht.1 (by omega),vx hs.1 (by omega) ht.1,if_neg (Ne.symm hne)]
 have hixt:L2.uI ((L.set s.toNat (lv L s - (lo+fg%(hi - lo+1)))).map D.int).length t=some t.toNat:=AO ht.1 (by rw[List.length_map];omega)
 have hrl:(rows.map aC).length<lim:=by rw[List.length_map];unfold lim;omega
 have hl2:(2:Nat)<=lim:=by decide
 have ap:rows.map aC++[D.tup [.int num, .int (lo+fg%(hi - lo+1))]]=(rows++[(num,lo+fg%(hi - lo+1))]).map aC:=by simp[aC]
 generalize ha:lo+fg%(hi - lo+1)=a at*
 refine⟨a,(L.set s.toNat (lv L s - a)).set t.toNat (lv L t+a),some (.val (.int num)),some (.val (.int s)),some (.val (.int t)),some (.val (.int lo)),some (.val (.int hi)),some (.val (.int a)),?_,by rw[List.length_set];exact L1len,?_⟩
 ·simp! [hX,Av,fV,Im,Io,oP,hrow,ay,e,qD,Fh,hb2,mW,List.all_cons,List.all_nil,Bool.and_true,and_self,hfig,bI hd,ha,hsl,hixs,u0,htl,hixt,hrl,hl2,ap]
 ·intro i hi1 hin
  rw[vx ht.1 (by omega) (by omega),vx hs.1 (by omega) (by omega)]
  by_cases h1:i=t
  ·subst h1
   rw[if_pos rfl]
   have:=c6 (by omega);omega
  ·rw[if_neg h1]
   by_cases h2:i=s
   ·subst h2
    rw[if_pos rfl]
    have:=c5 (by omega);omega
   ·rw[if_neg h2];exact hb i hi1 hin
theorem CK {k:Int} (h0:0<=k) (h:k<=1000):tE (.lst [.int 0]) (.int k)=some (.lst ((List.replicate k.toNat (0:Int)).map .int)):=by
 show (if k.natAbs<=lim/\[D.int 0].length*k.toNat<=lim then some (D.lst (List.replicate k.toNat [D.int 0]).flatten)else none)=_
 rw[if_pos ⟨by unfold lim;omega,by unfold lim;simp;omega⟩]
 congr 2
 induction k.toNat with
 |zero=>rfl
 |succ m ih=>rw[List.replicate_succ,List.replicate_succ,List.flatten_cons,ih];rfl
theorem HX {x:D} {ds:List D}:Cn (.lst (x::ds)) (some 1) none=some (.lst ds):=by
 show some (D.lst (L2.Pu.rQ (x::ds) (some 1) none))=_
 unfold L2.Pu.rQ HT.dE
 simp
theorem CL {m:Nat} (i:Int):lv (List.replicate m 0) i=0:=by
 unfold lv
 rw[List.getD_eq_getElem?_getD,List.getElem?_replicate]
 split<;>rfl
theorem vy {n:Nat} {figs:List Int} {ss:List bf} {mm:List Int} {b0 b1:Int} (hf:ss.length<=figs.length) (g:Good n ss) (hn:n<=7) (h0:0<=b0) (h1:0<=b1) (hs:ss.length<=1000):
  ∃(ps:List (Int×Int)) (lev:List Int),gO [.lst (figs.map .int), .int (n:Int), .lst (ss.map ay), .lst (mm.map .int), .lst [.int b0, .int b1]]= .ok (.lst [.tup (ps.map aC), .tup (lev.map .int)])/\ps.map (·.1)=ss.map (·.1)/\lev.length=n:=by
 have hd:tE (.lst [.int 0]) (.int ((n:Int)+1))=some (.lst ((List.replicate (n+1) (0:Int)).map .int)):=by
  have:=CK (k:=(n:Int)+1) (by omega) (by omega)
  rwa [show ((n:Int)+1).toNat=n+1 by omega]at this
 have hl1:(1:Nat)<=lim:=by decide
 have hl2:(2:Nat)<=lim:=by decide
 obtain⟨ρ',e,L',rows,y7,y8,y9,y10,y11,y12,y13,rfl,e2,_,e4⟩:=mh (g:=gN 7) (gb:=hX) (n:=ss.length) (fs:=aa (cU eW (aa (af 2) (aj))) (aj)) (ρ:=[some (.val (.lst (figs.map .int))),some (.val (.int (n:Int))),some (.val (.lst (ss.map ay))),some (.val (.lst (mm.map .int))),some (.val (.lst [.int b0, .int b1])),some (.own (.lst ((List.replicate (n+1) (0:Int)).map .int))),some (.own (.lst (([]:List (Int×Int)).map aC))),none,none,none,none,none,none,none])
  (P:=fun k ρ=>∃(L:List Int) (rows:List (Int×Int)) (y7 y8 y9 y10 y11 y12 y13:Option Slot),ρ=[some (.val (.lst (figs.map .int))),some (.val (.int (n:Int))),some (.val (.lst (ss.map ay))),some (.val (.lst (mm.map .int))),some (.val (.lst [.int b0, .int b1])),some (.own (.lst (L.map .int))),some (.own (.lst (rows.map aC))),y7,y8,y9,y10,y11,y12,y13]/\L.length=n+1/\(∀i:Int,1<=i->i<=n-> -1000<=lv L i/\lv L i<=1000)/\rows.map (·.1)=(ss.take k).map (·.1))
  (by simp! [List.length_map]) hs ⟨_,_,_,_,_,_,_,_,_,rfl,by simp,fun i _ _=>by rw[CL];omega,rfl⟩ (fun k hk ρ hρ=>by
   obtain⟨L,rows,y7,y8,y9,y10,y11,y12,y13,rfl,hL,hb,hr⟩:=hρ
   have hrl:rows.length<=1000:=by
    have:=congrArg List.length hr
    simp at this
    omega
   obtain⟨a,L1,z8,z9,z10,z11,z12,z13,e1,l1,b1'⟩:=ye (figs:=figs) (mm:=mm) (b0:=b0) (b1:=b1) (L:=L) (rows:=rows) (k:=k) (x8:=y8) (x9:=y9) (x10:=y10) (x11:=y11) (x12:=y12) (x13:=y13) hk (by omega) g hn hL h0 h1 hb hrl
   exact⟨_,_,rfl, .inl e1,L1,_,_,_,_,_,_,_,_,rfl,l1,b1',by rw[List.map_append,hr,pE _ hk];rfl⟩)
 rw[List.take_length]at e4
 obtain⟨z,lev,rfl⟩:∃z lev,L'=z::lev:=by
  cases L' with
  |nil=>simp at e2
  |cons z lev=>exact⟨z,lev,rfl⟩
 refine⟨rows,lev,aV rfl ?_,e4,by simpa using e2⟩
 show jW [some (.val (.lst (figs.map .int))),some (.val (.int (n:Int))),some (.val (.lst (ss.map ay))),some (.val (.lst (mm.map .int))),some (.val (.lst [.int b0, .int b1])),none,none,none,none,none,none,none,none,none]=_
 unfold jW
 rw[aw (ρ':=[some (.val (.lst (figs.map .int))),some (.val (.int (n:Int))),some (.val (.lst (ss.map ay))),some (.val (.lst (mm.map .int))),some (.val (.lst [.int b0, .int b1])),some (.own (.lst ((List.replicate (n+1) (0:Int)).map .int))),none,none,none,none,none,none,none,none]) (by simp! [qG,hd,hl1]),
  aw (ρ':=[some (.val (.lst (figs.map .int))),some (.val (.int (n:Int))),some (.val (.lst (ss.map ay))),some (.val (.lst (mm.map .int))),some (.val (.lst [.int b0, .int b1])),some (.own (.lst ((List.replicate (n+1) (0:Int)).map .int))),some (.own (.lst (([]:List (Int×Int)).map aC))),none,none,none,none,none,none,none]) rfl,aw e]
 simp! [Bm,kH,kG,List.map_cons,HX,hl2]
theorem wA {ns:List Int} {a0 a2:Option Slot}:∀(ks:List Nat) (x:Option Slot),eA (gN 1) jC (f2 fW (aE aD 2 (aa (au 3) (aa (f2 cH (fC (.int 17)) (af 1)) (aj)))) (fC (.int 4))) (ks.map fun k:Nat=>D.int (k:Int)) [a0,x,a2,some (.val (.scr ns))]
  = .ok ((ks.map fun k=>cl ns (17+k) / 4).map .int)
 |[],x=>rfl
 |k::ks,x=>by
  have hc:aD [.scr ns, .int (17+(k:Int))]=_:=n_ ns 17 k rfl
  have ih:=wA (ns:=ns) (a0:=a0) (a2:=a2) ks (some (.val (.int (k:Int))))
  rw[List.map_cons,eA]
  simp only[gN,jC,ax,List.set_cons_succ,List.set_cons_zero,if_true,ih]
  simp! [hc,dm (show (0:Int)<4/\(4:Int)<1073741824 by decide),List.map_cons]
def CM (small:Int):Int:=if small=0 then 5000 else 2
def CN (small:Int):Int:=if small=0 then 1000 else 2
theorem vz {ns:List Int} {n:Nat} {ss:List bf} {mm:List Int} {small:Int} (g:Good n ss) (hn:n<=7) (hs:ss.length<=1000) (hsm:small=0\/small=1):
  ∃(ps:List (Int×Int)) (lev:List Int),gP [.scr ns, .int (n:Int), .lst (ss.map ay), .lst (mm.map .int), .int small]= .ok (.lst [.tup (ps.map aC), .tup (lev.map .int)])/\ps.map (·.1)=ss.map (·.1)/\lev.length=n:=by
 obtain⟨ps,lev,e,h⟩:=vy (n:=n) (figs:=(List.range ss.length).map fun k=>cl ns (17+k) / 4) (ss:=ss) (mm:=mm) (b0:=CM small) (b1:=CN small) (by simp) g hn (by unfold CM;split<;>omega) (by unfold CN;split<;>omega) hs
 refine⟨ps,lev,?_,h⟩
 refine aV rfl ?_
 show jX [some (.val (.scr ns)),some (.val (.int (n:Int))),some (.val (.lst (ss.map ay))),some (.val (.lst (mm.map .int))),some (.val (.int small)),none]=_
 unfold jX
 rw[aw (ρ':=[some (.val (.scr ns)),some (.val (.int (n:Int))),some (.val (.lst (ss.map ay))),some (.val (.lst (mm.map .int))),some (.val (.int small)),some (.own (.lst (((List.range ss.length).map fun k=>cl ns (17+k) / 4).map .int)))])
  (own_of (iD (kr (n:=ss.length) (by simp! [List.length_map]) (by unfold lim;omega)) (by simp;unfold lim;omega) rfl (wA _ _)))]
 have hl2:(2:Nat)<=lim:=by decide
 rcases hsm with rfl|rfl
 ·simp! [fE,hl2]
  simp only[show CM 0=5000 from rfl,show CN 0=1000 from rfl]at e
  simp only[e,ax]
 ·simp! [jy,hl2]
  simp only[show CM 1=2 from rfl,show CN 1=2 from rfl]at e
  simp only[e,ax]
theorem wB {ps:List (Int×Int)} {k:Nat} (h:k<ps.length):L2.atI (ps.map aC) (k:Int)=some (aC ps[k]):=by
 rw[eX (by simpa using h)]
 simp
theorem qR {x:Int} {xs:List Int}:eG true (.int x) (.lst (xs.map .int))=some (.bl (!decide (x∈xs))):=by
 show EK true (.int x) (xs.map .int)=_
 rw[lP]
 simp
theorem DI {a b small:Int} (h:small=0\/small=1):L2.atI [D.int a,D.int b] small=some (.int (if small=0 then a else b)):=by
 rcases h with rfl|rfl
 ·rw[fE];rfl
 ·rw[jy];rfl
def qS (c small:Int):Int:=if small=0 then c / 3%2001 - 1000 else c / 3%5 - 2
theorem AQ {mode c:Int} {m:Int} {ρ:ai} {i j:Nat} (hi:ρ[i]? =some (some (.val (.int mode)))) (hj:ρ[j]? =some (some (.val (.int c)))):∃b,yx (fT (f2 kn (af i) (fC (.int 3)))) (rK (fT (f2 kn (af i) (fC (.int m)))) (fT (f2 kn (f2 fG (af j) (fC (.int 3))) (fC (.int 0))))) ρ= .ok b:=by
 by_cases h3:mode=3
 ·exact⟨true,by simp! [hi,h3]⟩
 ·by_cases h1:mode=m
  ·subst h1
   exact⟨decide (c%3=0),by simp! [hi,hj,h3,bI (show (0:Int)<3 by decide)]⟩
  ·exact⟨false,by simp! [hi,h3,h1]⟩
theorem CO {ns:List Int} {ps:List (Int×Int)} {mm:List Int} {mode small:Int} {acc:List (Int×Int)} {k:Nat} {x7 x8 x9:Option Slot} (hk:k<ps.length) (hsm:small=0\/small=1) (hl:acc.length<=1000):
  ∃(acc':List (Int×Int)) (ρ:ai) (y7 y8 y9:Option Slot),ρ=[some (.val (.scr ns)),some (.val (.tup (ps.map aC))),some (.val (.lst (mm.map .int))),some (.val (.int mode)),some (.val (.int small)),some (.own (.lst (acc'.map aC))),some (.val (.int (k:Int))),y7,y8,y9]/\
   (dk [some (.val (.scr ns)),some (.val (.tup (ps.map aC))),some (.val (.lst (mm.map .int))),some (.val (.int mode)),some (.val (.int small)),some (.own (.lst (acc.map aC))),some (.val (.int (k:Int))),x7,x8,x9]= .ok (.nx ρ)\/dk [some (.val (.scr ns)),some (.val (.tup (ps.map aC))),some (.val (.lst (mm.map .int))),some (.val (.int mode)),some (.val (.int small)),some (.own (.lst (acc.map aC))),some (.val (.int (k:Int))),x7,x8,x9]= .ok (.cnt ρ))/\
   acc'.map (·.1)=acc.map (·.1)++[ps[k].1].filter (fun x=>decide (x∈mm)):=by
 have hp:=wB hk
 generalize ps[k]=p at*
 obtain⟨num,am⟩:=p
 have hc:aD [.scr ns, .int (29+(k:Int))]=_:=n_ ns 29 k rfl
 have hlim:(acc.map aC).length<lim:=by rw[List.length_map];unfold lim;omega
 have hl2:(2:Nat)<=lim:=by decide
 have ap:∀r:Int,acc.map aC++[D.tup [.int num, .int r]]=(acc++[(num,r)]).map aC:=fun r=>by simp[aC]
 have e12:∀g',aA (aT (f2 bT (af 1) (af 6)) (fV 2 (bc (gN 7) (bc (gN 8) (fU))))) (aA (aT (aE aD 2 (aa (au 0) (aa (f2 cH (fC (.int 29)) (af 6)) (aj)))) (gN 9)) g') [some (.val (.scr ns)),some (.val (.tup (ps.map aC))),some (.val (.lst (mm.map .int))),some (.val (.int mode)),some (.val (.int small)),some (.own (.lst (acc.map aC))),some (.val (.int (k:Int))),x7,x8,x9]
   =g' [some (.val (.scr ns)),some (.val (.tup (ps.map aC))),some (.val (.lst (mm.map .int))),some (.val (.int mode)),some (.val (.int small)),some (.own (.lst (acc.map aC))),some (.val (.int (k:Int))),some (.val (.int num)),some (.val (.int am)),some (.val (.int (cl ns (29+k))))]:=fun g'=>by
  simp! [fV,Im,Io,hp,aC,hc]
 unfold dk
 rw[e12]
 by_cases h:num∈mm
 ·obtain⟨b,hb⟩:=AQ (m:=1) (ρ:=[some (.val (.scr ns)),some (.val (.tup (ps.map aC))),some (.val (.lst (mm.map .int))),some (.val (.int mode)),some (.val (.int small)),some (.own (.lst (acc.map aC))),some (.val (.int (k:Int))),some (.val (.int num)),some (.val (.int am)),some (.val (.int (cl ns (29+k))))]) (i:=3) (j:=9) rfl rfl
  rw[aw (ρ':=[some (.val (.scr ns)),some (.val (.tup (ps.map aC))),some (.val (.lst (mm.map .int))),some (.val (.int mode)),some (.val (.int small)),some (.own (.lst (acc.map aC))),some (.val (.int (k:Int))),some (.val (.int num)),some (.val (.int am)),some (.val (.int (cl ns (29+k))))]) (by simp! [qR,h])]
  obtain⟨r,hr⟩:∃r:Int,eM (yx (fT (f2 kn (af 3) (fC (.int 3)))) (rK (fT (f2 kn (af 3) (fC (.int 1)))) (fT (f2 kn (f2 fG (af 9) (fC (.int 3))) (fC (.int 0)))))) (aT (f2 bT (iM (aa (f2 gK (f2 fG (f2 fW (af 9) (fC (.int 3))) (fC (.int 2001))) (fC (.int 1000))) (aa (f2 gK (f2 fG (f2 fW (af 9) (fC (.int 3))) (fC (.int 5))) (fC (.int 2))) (aj)))) (af 4)) (gN 8)) (bi) [some (.val (.scr ns)),some (.val (.tup (ps.map aC))),some (.val (.lst (mm.map .int))),some (.val (.int mode)),some (.val (.int small)),some (.own (.lst (acc.map aC))),some (.val (.int (k:Int))),some (.val (.int num)),some (.val (.int am)),some (.val (.int (cl ns (29+k))))]= .ok (.nx [some (.val (.scr ns)),some (.val (.tup (ps.map aC))),some (.val (.lst (mm.map .int))),some (.val (.int mode)),some (.val (.int small)),some (.own (.lst (acc.map aC))),some (.val (.int (k:Int))),some (.val (.int num)),some (.val (.int r)),some (.val (.int (cl ns (29+k))))]):=by
   cases b with
   |true=>
    refine⟨qS (cl ns (29+k)) small,?_⟩
    unfold eM
    rw[hb]
    simp! [dm (show (0:Int)<3/\(3:Int)<1073741824 by decide),bI (show (0:Int)<2001 by decide),bI (show (0:Int)<5 by decide),DI hsm,hl2,qS]
   |false=>
    refine⟨am,?_⟩
    unfold eM
    rw[hb]
    rfl
  refine⟨acc++[(num,r)],_,some (.val (.int num)),some (.val (.int r)),some (.val (.int (cl ns (29+k)))),rfl, .inl (Eq.trans (aw hr) ?_),by simp[h]⟩
  simp! [hlim,hl2,ap]
 ·refine⟨acc,_,some (.val (.int num)),some (.val (.int am)),some (.val (.int (cl ns (29+k)))),rfl, .inr ?_,by simp[h]⟩
  simp! [xF,qR,h]
theorem qd {ns:List Int} {ps:List (Int×Int)} {mm:List Int} {mode small:Int} (hsm:small=0\/small=1) (hl:ps.length<=1000):∃rd:List (Int×Int),dQ [.scr ns, .tup (ps.map aC), .lst (mm.map .int), .int mode, .int small]= .ok (.lst (rd.map aC))/\rd.map (·.1)=(ps.map (·.1)).filter (fun x=>decide (x∈mm)):=by
 obtain⟨ρ',e,rd,y6,y7,y8,y9,rfl,e4⟩:=mh (g:=gN 6) (gb:=dk) (n:=ps.length) (fs:=aa (cU eW (aa (af 1) (aj))) (aj)) (ρ:=[some (.val (.scr ns)),some (.val (.tup (ps.map aC))),some (.val (.lst (mm.map .int))),some (.val (.int mode)),some (.val (.int small)),some (.own (.lst (([]:List (Int×Int)).map aC))),none,none,none,none])
  (P:=fun k ρ=>∃(acc:List (Int×Int)) (y6 y7 y8 y9:Option Slot),ρ=[some (.val (.scr ns)),some (.val (.tup (ps.map aC))),some (.val (.lst (mm.map .int))),some (.val (.int mode)),some (.val (.int small)),some (.own (.lst (acc.map aC))),y6,y7,y8,y9]/\acc.map (·.1)=((ps.take k).map (·.1)).filter (fun x=>decide (x∈mm)))
  (by simp! [List.length_map]) hl ⟨_,_,_,_,_,rfl,rfl⟩ (fun k hk ρ hρ=>by
   obtain⟨acc,y6,y7,y8,y9,rfl,hr⟩:=hρ
   have hrl:acc.length<=1000:=by
    have h1:=congrArg List.length hr
    have h2:=List.length_filter_le (fun x=>decide (x∈mm)) ((ps.take k).map (·.1))
    simp at h1 h2
    omega
   obtain⟨acc',ρ2,z7,z8,z9,rfl,e1,h1⟩:=CO (ns:=ns) (mm:=mm) (mode:=mode) (small:=small) (acc:=acc) (x7:=y7) (x8:=y8) (x9:=y9) hk hsm hrl
   exact⟨_,_,rfl,e1,acc',_,_,_,_,rfl,by rw[h1,hr,pE _ hk,List.filter_append]⟩)
 rw[List.take_length]at e4
 refine⟨rd,aV rfl ?_,e4⟩
 show io [some (.val (.scr ns)),some (.val (.tup (ps.map aC))),some (.val (.lst (mm.map .int))),some (.val (.int mode)),some (.val (.int small)),none,none,none,none,none]=_
 unfold io
 rw[aw (ρ':=[some (.val (.scr ns)),some (.val (.tup (ps.map aC))),some (.val (.lst (mm.map .int))),some (.val (.int mode)),some (.val (.int small)),some (.own (.lst (([]:List (Int×Int)).map aC))),none,none,none,none]) rfl,aw e]
 rfl
theorem CP {ns:List Int} {lev:List Int} {mode small:Int} {acc:List Int} {k:Nat} {x6 x7:Option Slot} (hk:k<lev.length) (hsm:small=0\/small=1) (hl:acc.length<=1000):
  ∃(r:Int) (y6 y7:Option Slot),hZ [some (.val (.scr ns)),some (.val (.tup (lev.map .int))),some (.val (.int mode)),some (.val (.int small)),some (.own (.lst (acc.map .int))),some (.val (.int (k:Int))),x6,x7]
   = .ok (.nx [some (.val (.scr ns)),some (.val (.tup (lev.map .int))),some (.val (.int mode)),some (.val (.int small)),some (.own (.lst ((acc++[r]).map .int))),some (.val (.int (k:Int))),y6,y7]):=by
 have hp:L2.atI (lev.map D.int) (k:Int)=some (.int lev[k]):=by rw[eX (by simpa using hk)];simp
 generalize lev[k]=lk at*
 have hc:aD [.scr ns, .int (41+(k:Int))]=_:=n_ ns 41 k rfl
 have hlim:(acc.map D.int).length<lim:=by rw[List.length_map];unfold lim;omega
 have hl2:(2:Nat)<=lim:=by decide
 have ap:∀r:Int,acc.map D.int++[.int r]=(acc++[r]).map .int:=fun r=>by simp
 obtain⟨b,hb⟩:=AQ (m:=2) (ρ:=[some (.val (.scr ns)),some (.val (.tup (lev.map .int))),some (.val (.int mode)),some (.val (.int small)),some (.own (.lst (acc.map .int))),some (.val (.int (k:Int))),some (.val (.int (cl ns (41+k)))),some (.val (.int lk))]) (i:=2) (j:=6) rfl rfl
 unfold hZ
 rw[aw (ρ':=[some (.val (.scr ns)),some (.val (.tup (lev.map .int))),some (.val (.int mode)),some (.val (.int small)),some (.own (.lst (acc.map .int))),some (.val (.int (k:Int))),some (.val (.int (cl ns (41+k)))),x7]) (by simp! [hc]),
  aw (ρ':=[some (.val (.scr ns)),some (.val (.tup (lev.map .int))),some (.val (.int mode)),some (.val (.int small)),some (.own (.lst (acc.map .int))),some (.val (.int (k:Int))),some (.val (.int (cl ns (41+k)))),some (.val (.int lk))]) (by simp! [hp])]
 cases b with
 |true=>
  refine⟨qS (cl ns (41+k)) small,_,some (.val (.int (qS (cl ns (41+k)) small))),Eq.trans (aw (ρ':=[some (.val (.scr ns)),some (.val (.tup (lev.map .int))),some (.val (.int mode)),some (.val (.int small)),some (.own (.lst (acc.map .int))),some (.val (.int (k:Int))),some (.val (.int (cl ns (41+k)))),some (.val (.int (qS (cl ns (41+k)) small)))]) ?_) (by simp! [hlim,ap];rfl)⟩
  unfold eM
  rw[hb]
  simp! [dm (show (0:Int)<3/\(3:Int)<1073741824 by decide),bI (show (0:Int)<2001 by decide),bI (show (0:Int)<5 by decide),DI hsm,hl2,qS]
 |false=>
  refine⟨lk,_,some (.val (.int lk)),Eq.trans (aw (ρ':=[some (.val (.scr ns)),some (.val (.tup (lev.map .int))),some (.val (.int mode)),some (.val (.int small)),some (.own (.lst (acc.map .int))),some (.val (.int (k:Int))),some (.val (.int (cl ns (41+k)))),some (.val (.int lk))]) ?_) (by simp! [hlim,ap];rfl)⟩
  unfold eM
  rw[hb]
  rfl
theorem vA {ns:List Int} {lev:List Int} {mode small:Int} (hsm:small=0\/small=1) (hl:lev.length<=1000):∃rs:List Int,gQ [.scr ns, .tup (lev.map .int), .int mode, .int small]= .ok (.lst (rs.map .int))/\rs.length=lev.length:=by
 obtain⟨ρ',e,rs,y5,y6,y7,rfl,e4⟩:=mh (g:=gN 5) (gb:=hZ) (n:=lev.length) (fs:=aa (cU eW (aa (af 1) (aj))) (aj)) (ρ:=[some (.val (.scr ns)),some (.val (.tup (lev.map .int))),some (.val (.int mode)),some (.val (.int small)),some (.own (.lst (([]:List Int).map .int))),none,none,none])
  (P:=fun k ρ=>∃(acc:List Int) (y5 y6 y7:Option Slot),ρ=[some (.val (.scr ns)),some (.val (.tup (lev.map .int))),some (.val (.int mode)),some (.val (.int small)),some (.own (.lst (acc.map .int))),y5,y6,y7]/\acc.length=k)
  (by simp! [List.length_map]) hl ⟨_,_,_,_,rfl,rfl⟩ (fun k hk ρ hρ=>by
   obtain⟨acc,y5,y6,y7,rfl,hr⟩:=hρ
   obtain⟨r,z6,z7,e1⟩:=CP (ns:=ns) (mode:=mode) (small:=small) (acc:=acc) (x6:=y6) (x7:=y7) hk hsm (by omega)
   exact⟨_,_,rfl, .inl e1,_,_,_,_,rfl,by simp[hr]⟩)
 refine⟨rs,aV rfl ?_,e4⟩
 show jY [some (.val (.scr ns)),some (.val (.tup (lev.map .int))),some (.val (.int mode)),some (.val (.int small)),none,none,none,none]=_
 unfold jY
 rw[aw (ρ':=[some (.val (.scr ns)),some (.val (.tup (lev.map .int))),some (.val (.int mode)),some (.val (.int small)),some (.own (.lst (([]:List Int).map .int))),none,none,none]) rfl,aw e]
 rfl
theorem lr:∀{l m:List Int},l.Nodup->m.Sublist l->l.filter (fun x=>decide (x∈m))=m
 |[],m,_,s=>by rw[List.sublist_nil.mp s];rfl
 |a::l,m,nd,s=>by
  obtain⟨n1,n2⟩:=List.nodup_cons.mp nd
  cases s with
  |cons _ s=>
   rw[List.filter_cons_of_neg (by simpa using fun h=>n1 (s.subset h)),lr n2 s]
  | @cons_cons m' _ _ s=>
   rw[List.filter_cons_of_pos (by simp)]
   have:l.filter (fun x=>decide (x∈a::m'))=l.filter (fun x=>decide (x∈m')):=List.filter_congr fun x hx=>by
    have:x≠a:=fun z=>n1 (z▸hx)
    simp[this]
   rw[this,lr n2 s]
theorem Good.nd {n:Nat} {ss:List bf} (g:Good n ss):(ss.map (·.1)).Nodup:=List.pairwise_map.mpr (g.inc.imp fun h=>Int.ne_of_lt h)
structure fS (n:Nat) (ss:List bf) (rs:List Int) (rd:List (Int×Int)):Prop where
 n7:n<=7
 good:Good n ss
 len:ss.length<=12
 rsl:rs.length=n
 sub:(rd.map (·.1)).Sublist (ss.map (·.1))
 ten:rd.length<=10
def aZ (n:Nat) (ss:List bf) (rs:List Int) (rd:List (Int×Int)):D:= .tup [.int (n:Int), .tup (ss.map ay), .tup (rs.map .int), .tup (rd.map aC)]
theorem GN (ns:List Int):aD [.scr ns, .int 1]= .ok (.int (cl ns 1)):=gw ns 1
theorem GO (ns:List Int):aD [.scr ns, .int 2]= .ok (.int (cl ns 2)):=gw ns 2
theorem GP (ns:List Int):aD [.scr ns, .int 3]= .ok (.int (cl ns 3)):=gw ns 3
theorem yf (ns:List Int):∃(n:Nat) (ss:List bf) (rs:List Int) (rd:List (Int×Int)),ip [.scr ns]= .ok (aZ n ss rs rd)/\fS n ss rs rd:=by
 obtain⟨n,en,hn7⟩:∃n:Nat,cl ns 1%8=(n:Int)/\n<=7:=⟨(cl ns 1%8).toNat,by omega,by omega⟩
 obtain⟨m0,em,hm⟩:∃m:Nat,cl ns 2%13=(m:Int)/\m<=12:=⟨(cl ns 2%13).toNat,by omega,by omega⟩
 obtain⟨many,hmany,hm12,h0⟩:∃many:Nat,many=(if (n:Int)>0 then m0 else 0)/\many<=12/\(0<n\/many=0):=⟨_,rfl,by split<;>omega,by split<;>omega⟩
 obtain⟨ss,e1,l1,g⟩:=sj ns n many hn7 hm12 h0
 have hsl:ss.length<=1000:=by omega
 obtain⟨mm,e2,s2,t2⟩:=sm ns ss hsl (cl ns 3%5)
 have hsm:cl ns 4 / 4%2=0\/cl ns 4 / 4%2=1:=by omega
 obtain⟨ps,lev,e3,f1,f2'⟩:=vz (ns:=ns) (mm:=mm) g hn7 hsl hsm
 have pl:ps.length=ss.length:=by have:=congrArg List.length f1;simpa using this
 obtain⟨rd,e4,f4⟩:=qd (ns:=ns) (ps:=ps) (mm:=mm) (mode:=cl ns 4%4) hsm (by omega)
 obtain⟨rs,e5,l5⟩:=vA (ns:=ns) (lev:=lev) (mode:=cl ns 4%4) hsm (by omega)
 rw[f1,lr g.nd s2]at f4
 refine⟨n,ss,rs,rd,aV rfl ?_,⟨hn7,g,by omega,by omega,by rw[f4];exact s2,by have:=congrArg List.length f4;simp at this;omega⟩⟩
 show lm [some (.val (.scr ns)),none,none,none,none,none,none,none,none,none]=_
 have hl4:(4:Nat)<=lim:=by decide
 have em2:∀x,eM (fT (f2 we (af 1) (fC (.int 0)))) (aT (f2 fG (aE aD 2 (aa (au 0) (aa (fC (.int 2)) (aj)))) (fC (.int 13))) (gN 2)) (bi) (some (.val (.scr ns))::some (.val (.int (n:Int)))::some (.val (.int 0))::x)= .ok (.nx (some (.val (.scr ns))::some (.val (.int (n:Int)))::some (.val (.int (many:Int)))::x)):=fun x=>by
  rw[hmany]
  by_cases hp:(n:Int)>0
  ·simp! [GO,bI (show (0:Int)<13 by decide),em,hp]
  ·simp! [hp]
   rfl
 unfold lm
 rw[aw (ρ':=[some (.val (.scr ns)),some (.val (.int (n:Int))),none,none,none,none,none,none,none,none]) (by simp! [GN,bI (show (0:Int)<8 by decide),en]),
  aw (ρ':=[some (.val (.scr ns)),some (.val (.int (n:Int))),some (.val (.int 0)),none,none,none,none,none,none,none]) rfl,aw (em2 _)]
 simp! [GP,DF,bI (show (0:Int)<4 by decide),dm (show (0:Int)<4/\(4:Int)<1073741824 by decide),bI (show (0:Int)<2 by decide),bI (show (0:Int)<5 by decide),e1,e2,e3,e4,e5,fE,jy,hl4,aZ]
theorem so {α:Type} {f e:α->D} {p:α->Bool} {gt:ai->R Bool} {fe:ai->R D} {a0:Option Slot} {ρ:ai}:∀(l:List α),(∀a∈l,gt (a0::some (.val (f a))::ρ)= .ok (p a))->(∀a∈l,p a=true->fe (a0::some (.val (f a))::ρ)= .ok (e a))->∀x:Option Slot,eA (gN 1) gt fe (l.map f) (a0::x::ρ)= .ok ((l.filter p).map e)
 |[],_,_,_=>rfl
 |a::l,h1,h2,x=>by
  have ih:=so l (fun b hb=>h1 b (List.mem_cons_of_mem _ hb)) (fun b hb=>h2 b (List.mem_cons_of_mem _ hb)) (some (.val (f a)))
  have g1:=h1 a List.mem_cons_self
  rw[List.map_cons,eA]
  simp only[gN,ax,List.set_cons_succ,List.set_cons_zero,g1]
  by_cases hp:p a=true
  ·simp only[hp,if_true,h2 a List.mem_cons_self hp,ax,ih,List.filter_cons,List.map_cons]
  ·simp only[hp,if_false,ih,List.filter_cons,Bool.false_eq_true]
theorem pF {α:Type} {f:α->D} {k:α->Int} (hk:∀a,pZ (f a)=some (k a)):∀l:List α,ef (l.map f)=some (l.map k)
 |[]=>rfl
 |a::l=>by
  rw[List.map_cons,ef,hk,pF hk l];rfl
theorem yg {α:Type} {f:α->D} {k:α->Int} (hk:∀a,pZ (f a)=some (k a)) {l:List α} (h:l≠[]):eI (l.map f)=none:=by
 cases l with
 |nil=>exact absurd rfl h
 |cons a l=>
  have:=hk a
  rw[List.map_cons]
  cases e:f a<;>rw[e]at this<;>first|rfl|cases this
theorem wC {α:Type} {f:α->D} {k:α->Int} (hk:∀a,pZ (f a)=some (k a)) {l m:List α} (p:l.Perm m) (inc:m.Pairwise fun a b=>k a<k b) (hl:m.length<64) {d:D} (hd:d= .lst (l.map f)\/d= .tup (l.map f)):cA [d]=some (.lst (m.map f)):=by
 by_cases h0:l=[]
 ·subst h0
  have:m=[]:=(List.Perm.nil_eq p).symm
  subst this
  rcases hd with rfl|rfl<;>rfl
 ·have hn:(l.map k).Nodup:=(p.map k).nodup_iff.mpr (List.pairwise_map.mpr (inc.imp fun h=>Int.ne_of_lt h))
  have hs:jw (l.map f)=m.map f:=pb (p.map f) (by
   rw[List.pairwise_map]
   refine inc.imp fun {a b} h=> ?_
   show (pZ (f a)).getD 0<(pZ (f b)).getD 0
   rw[hk,hk];exact h)
  have hl':(l.map k).length<64:=by rw[List.length_map,p.length_eq];exact hl
  have hr:=pF hk l
  have ha:=yg hk h0
  rcases hd with rfl|rfl
  ·have:fM [.lst (l.map f)]=none:=by simp[fM,rP,ha]
   simp only[cA,this,lV,hr,Option.bind_some,hn,hl',and_self,if_true,hs]
  ·have:fM [.tup (l.map f)]=none:=by simp[fM,rP,ha]
   simp only[cA,this,lV,hr,Option.bind_some,hn,hl',and_self,if_true,hs]
def pG (n:Nat) (ss:List bf) (rs:List Int) (rd:List (Int×Int)):List (Str×D):=[("tanks", .int (n:Int)),("streams", .tup (ss.map ay)),("rises", .tup (rs.map .int)),("readings", .tup (rd.map aC))]
def aN (n:Nat) (ss:List bf) (rs:List Int) (rd:List (Int×Int)):D:= .ins "Day" (pG n ss rs rd)
theorem fS.inc {n:Nat} {ss:List bf} {rs:List Int} {rd:List (Int×Int)} (c:fS n ss rs rd):rd.Pairwise fun a b=>a.1<b.1:=List.pairwise_map.mp ((List.pairwise_map.mpr c.good.inc).sublist c.sub)
theorem kx {n:Nat} {ss sl:List bf} {rs:List Int} {rd rl:List (Int×Int)} (c:fS n ss rs rd) (p1:sl.Perm ss) (p2:rl.Perm rd) {d1 d2 d3:D} (h1:d1= .lst (sl.map ay)\/d1= .tup (sl.map ay)) (h2:d2= .lst (rs.map .int)\/d2= .tup (rs.map .int)) (h3:d3= .lst (rl.map aC)\/d3= .tup (rl.map aC)):
  cB [.int (n:Int),d1,d2,d3]= .ok (pG n ss rs rd):=by
 have e1:=wC (f:=ay) (k:=(·.1)) (fun a=>rfl) p1 c.good.inc (by have:=c.len;omega) h1
 have e3:=wC (f:=aC) (k:=(·.1)) (fun a=>rfl) p2 c.inc (by have:=c.ten;omega) h3
 have e2:c_ [d2]=some (.tup (rs.map .int)):=by rcases h2 with rfl|rfl<;>rfl
 simp! [cB,lT,lh,eF,pi,tu,e1,e2,e3,List.map_cons,List.map_nil,List.replicate,List.cons_append,Nat.reduceSub,xR,nz,L2.Pu.fN,Option.map_some,pG]
theorem o0 {n:Nat} {ss:List bf} {rs:List Int} {rd:List (Int×Int)} {fs:ai->R (List D)} {ρ:ai} {ds:List D} (h:fs ρ= .ok ds) (h4:ds.length=4) (e:cB ds= .ok (pG n ss rs rd)):p7 "Day" 4 cB fs ρ= .ok (aN n ss rs rd):=by
 unfold p7
 simp only[h,ax,h4,if_true,e,aN]
theorem HY {a b c d:D}:L2.atI [a,b,c,d] 2=some c:=by
 have:=eX (xs:=[a,b,c,d]) (k:=2) (by simp)
 simpa using this
theorem HZ {a b c d:D}:L2.atI [a,b,c,d] 3=some d:=by
 have:=eX (xs:=[a,b,c,d]) (k:=3) (by simp)
 simpa using this
theorem Fi (ns:List Int):aD [.scr ns, .int 48]= .ok (.int (cl ns 48)):=gw ns 48
theorem wD {ds:List D} {k:Nat} (h:k<=ds.length):Cn (.tup ds) (some (k:Int)) none=some (.tup (ds.drop k)):=by
 have e:HT.dE ds.length 0 (some (k:Int))=k:=by simp only[HT.dE];rw[if_neg (by omega)];omega
 have e2:HT.dE ds.length ds.length (none:Option Int)=ds.length:=rfl
 unfold Cn
 simp only[e,e2,L2.Pu.rQ]
 split
 ·rename_i z;rw[z.1];rfl
 ·rw[List.take_of_length_le (by simp)]
theorem GQ {ds:List D} {k:Nat} (h:k<=ds.length):Cn (.tup ds) none (some (k:Int))=some (.tup (ds.take k)):=by
 have e:HT.dE ds.length ds.length (some (k:Int))=k:=by simp only[HT.dE];rw[if_neg (by omega)];omega
 have e2:HT.dE ds.length 0 (none:Option Int)=0:=rfl
 unfold Cn
 simp only[e,e2,L2.Pu.rQ]
 split
 ·rename_i z;rw[z.2,List.take_of_length_le (by omega)]
 ·simp
theorem Fj {a b:List D} (h:a.length+b.length<=lim):cH (.tup a) (.tup b)=some (.tup (a++b)):=by
 unfold cH;simp only[h,if_true]
theorem qT {α:Type} (l:List α) (k:Nat):(l.drop k++l.take k).Perm l:=by
 have:=List.perm_append_comm (l₁:=l.drop k) (l₂:=l.take k)
 rwa [List.take_append_drop]at this
theorem Hg {c:ai->R Bool} {g g':ai->R bG} {ρ:ai} (h:c ρ= .ok true):eM c g g' ρ=g ρ:=by
 unfold eM
 rw[h];rfl
theorem Hh {c:ai->R Bool} {g g':ai->R bG} {ρ:ai} (h:c ρ= .ok false):eM c g g' ρ=g' ρ:=by
 unfold eM
 rw[h];rfl
theorem H_ {i:Nat} {x y:Int} {ρ:ai} (h:af i ρ= .ok (.int x)) (n:x≠y):fT (f2 kn (af i) (fC (.int y))) ρ= .ok false:=by
 unfold fT f2
 rw[h]
 simp only[fC,ax,zV,cJ,decide_eq_false n]
theorem AR (ns:List Int) {n:Nat} {ss:List bf} {rs:List Int} {rd:List (Int×Int)} (c:fS n ss rs rd):j8 [.scr ns,aZ n ss rs rd]= .ok (aN n ss rs rd):=by
 have l1:=c.len
 have l2:=c.ten
 refine aV rfl ?_
 show mX [some (.val (.scr ns)),some (.val (aZ n ss rs rd)),none,none,none]=_
 unfold mX
 rw[aw (ρ':=[some (.val (.scr ns)),some (.val (aZ n ss rs rd)),some (.val (.int (cl ns 48%4))),none,none]) (by simp! [Fi,bI (show (0:Int)<4 by decide)])]
 generalize cl ns 48%4=tn
 have i0:bT (aZ n ss rs rd) (.int 0)=some (.int (n:Int)):=rfl
 have i1:bT (aZ n ss rs rd) (.int 1)=some (.tup (ss.map ay)):=rfl
 have i2:bT (aZ n ss rs rd) (.int 2)=some (.tup (rs.map .int)):=rfl
 have i3:bT (aZ n ss rs rd) (.int 3)=some (.tup (rd.map aC)):=rfl
 generalize aZ n ss rs rd=cd at*
 by_cases h0:tn=0
 ·subst h0
  refine kq ((Hg rfl).trans (ic (o0 (ds:=[.int (n:Int), .lst (ss.map ay), .lst (rs.map .int), .lst (rd.map aC)]) ?_ rfl (kx c (.refl _) (.refl _) (.inl rfl) (.inl rfl) (.inl rfl)))))
  simp! [i0,i1,i2,i3]
 refine Eq.trans (aw (Hh (H_ rfl h0))) ?_
 by_cases h1:tn=1
 ·subst h1
  refine kq ((Hg rfl).trans (ic (o0 (ds:=[.int (n:Int), .lst (ss.reverse.map ay), .lst (rs.map .int), .lst (rd.reverse.map aC)]) ?_ rfl (kx c (List.reverse_perm _) (List.reverse_perm _) (.inl rfl) (.inl rfl) (.inl rfl)))))
  simp! [i0,i1,i2,i3,List.map_reverse]
 refine Eq.trans (aw (Hh (H_ rfl h1))) ?_
 by_cases h2:tn=2
 ·subst h2
  refine kq ((Hg rfl).trans (ic (o0 (ds:=[.int (n:Int), .tup (ss.map ay), .tup (rs.map .int), .tup (rd.map aC)]) ?_ rfl (kx c (.refl _) (.refl _) (.inr rfl) (.inr rfl) (.inr rfl)))))
  simp! [i0,i1,i2,i3]
 refine Eq.trans (aw (Hh (H_ rfl h2))) ?_
 have sp:∀{α:Type} (f:α->D) (l:List α),l.length<=1000->Cn (.tup (l.map f)) (some ((l.length / 2:Nat):Int)) none=some (.tup ((l.drop (l.length / 2)).map f))/\Cn (.tup (l.map f)) none (some ((l.length / 2:Nat):Int))=some (.tup ((l.take (l.length / 2)).map f))/\cH (.tup ((l.drop (l.length / 2)).map f)) (.tup ((l.take (l.length / 2)).map f))=some (.tup ((l.drop (l.length / 2)++l.take (l.length / 2)).map f)):=fun f l hl=>by
  have hk:l.length / 2<=(l.map f).length:=by rw[List.length_map];omega
  rw[wD hk,GQ hk,List.map_drop,List.map_take,List.map_append,List.map_drop,List.map_take]
  refine⟨rfl,rfl,Fj ?_⟩
  rw[List.length_drop,List.length_take,List.length_map]
  unfold lim
  omega
 obtain⟨a1,a2,a5⟩:=sp ay ss (by omega)
 obtain⟨a3,a4,a6⟩:=sp aC rd (by omega)
 have q1:((ss.length:Int)) / 2=((ss.length / 2:Nat):Int):=rfl
 have q2:((rd.length:Int)) / 2=((rd.length / 2:Nat):Int):=rfl
 rw[aw (ρ':=[some (.val (.scr ns)),some (.val cd),some (.val (.int tn)),some (.val (.int ((ss.length / 2:Nat):Int))),none]) (by simp! [i1,List.length_map,dm (show (0:Int)<2/\(2:Int)<1073741824 by decide),q1]),
  aw (ρ':=[some (.val (.scr ns)),some (.val cd),some (.val (.int tn)),some (.val (.int ((ss.length / 2:Nat):Int))),some (.val (.int ((rd.length / 2:Nat):Int)))]) (by simp! [i3,List.length_map,dm (show (0:Int)<2/\(2:Int)<1073741824 by decide),q2])]
 refine ic (o0 (ds:=[.int (n:Int), .tup ((ss.drop (ss.length / 2)++ss.take (ss.length / 2)).map ay), .tup (rs.map .int), .tup ((rd.drop (rd.length / 2)++rd.take (rd.length / 2)).map aC)]) ?_ rfl (kx c (qT _ _) (qT _ _) (.inr rfl) (.inr rfl) (.inr rfl)))
 simp! [i0,i1,i2,i3,Bm,kH,kG,a1,a2,a3,a4,a5,a6]
theorem CQ (ss:List bf) (h:ss.length<=1000):Wf 2 (.tup (ss.map ay)):= .tup (by simpa using h) fun d hd=>by
 obtain⟨r,_,rfl⟩:=List.mem_map.mp hd
 exact sk [r.1,r.2.1,r.2.2] (by simp)
theorem yh (ss:List bf) (h:ss.length<=1000):bX [.tup (ss.map ay), .tup (ss.map ay)]= .ok (.bl true):=ml (by omega) (CQ ss h)
theorem AS (ss:List (Int×Int)) (h:ss.length<=1000):Wf 2 (.tup (ss.map aC)):= .tup (by simpa using h) fun d hd=>by
 obtain⟨r,_,rfl⟩:=List.mem_map.mp hd
 exact sk [r.1,r.2] (by simp)
theorem vB (ss:List (Int×Int)) (h:ss.length<=1000):bX [.tup (ss.map aC), .tup (ss.map aC)]= .ok (.bl true):=ml (by omega) (AS ss h)
theorem m_ {n:Nat} {ss:List bf} {rs:List Int} {rd:List (Int×Int)} {f:Str} {fa:ai->R D} {ρ:ai} {d:D} (h:fa ρ= .ok (aN n ss rs rd)) (e:(pG n ss rs rd).lookup f=some d):d0 "Day" f fa ρ= .ok d:=by
 unfold d0
 simp only[h,ax,aN,if_true,e,cJ]
theorem Fk {n:Nat} {ss:List bf} {rs:List Int} {rd:List (Int×Int)}:(pG n ss rs rd).lookup ("tanks":Str)=some (D.int (n:Int)):=rfl
theorem yi {n:Nat} {ss:List bf} {rs:List Int} {rd:List (Int×Int)}:(pG n ss rs rd).lookup ("streams":Str)=some (D.tup (ss.map ay)):=rfl
theorem Fn {n:Nat} {ss:List bf} {rs:List Int} {rd:List (Int×Int)}:(pG n ss rs rd).lookup ("rises":Str)=some (D.tup (rs.map .int)):=rfl
theorem AT {n:Nat} {ss:List bf} {rs:List Int} {rd:List (Int×Int)}:(pG n ss rs rd).lookup ("readings":Str)=some (D.tup (rd.map aC)):=rfl
theorem yj {n:Nat} {ss:List bf} {rs:List Int} {rd:List (Int×Int)} (c:fS n ss rs rd):iq [aN n ss rs rd,aZ n ss rs rd]= .ok (.bl true):=by
 have l1:=c.len
 have l2:=c.ten
 have l3:=c.rsl
 have l4:=c.n7
 refine aV rfl ?_
 show lp [some (.val (aN n ss rs rd)),some (.val (aZ n ss rs rd))]=_
 have s1:=qQ (n:Int)
 have s2:=yh ss (by omega)
 have s3:=yc rs (by omega)
 have s4:=vB rd (by omega)
 simp! [lp,d0,aN,aZ,Fk,yi,Fn,AT,fE,jy,HY,HZ,s1,s2,s3,s4]
theorem wF {a0:Option Slot} {k:Int}:∀(ss:List bf) (x:Option Slot),(∃r∈ss,r.1=k/\bH (gN 2) dr (ss.map ay) [a0,some (.val (.int k)),x]= .ok (.ret (ay r)))\/((∀r∈ss,r.1≠k)/\∃y,bH (gN 2) dr (ss.map ay) [a0,some (.val (.int k)),x]= .ok (.nx [a0,some (.val (.int k)),y]))
 |[],x=> .inr ⟨by simp,x,rfl⟩
 |r::ss,x=>by
  by_cases h:r.1=k
  ·refine .inl ⟨r,List.mem_cons_self,h,?_⟩
   rw[List.map_cons]
   exact Ad rfl (by simp! [dr,ay,fE,h])
  ·have e:dr [a0,some (.val (.int k)),some (.val (ay r))]= .ok (.nx [a0,some (.val (.int k)),some (.val (ay r))]):=by simp! [dr,ay,fE,h]
   rcases wF (a0:=a0) (k:=k) ss (some (.val (ay r)))with ⟨q,h1,h2,h3⟩|⟨h1,y,h2⟩
   ·exact .inl ⟨q,List.mem_cons_of_mem _ h1,h2,by rw[List.map_cons,ck rfl e,h3]⟩
   ·exact .inr ⟨fun q hq=>(List.mem_cons.mp hq).elim (fun z=>z▸h) (h1 q),y,by rw[List.map_cons,ck rfl e,h2]⟩
theorem GR {ss:List bf} (h:(ss.map (·.1)).Nodup) {r q:bf} (hr:r∈ss) (hq:q∈ss) (e:r.1=q.1):r=q:=by
 induction ss with
 |nil=>cases hr
 |cons a ss ih=>
  rw[List.map_cons]at h
  obtain⟨h1,h2⟩:=List.nodup_cons.mp h
  rcases List.mem_cons.mp hr with hr1|hr1<;>rcases List.mem_cons.mp hq with hq1|hq1
  ·rw[hr1,hq1]
  ·exact(h1 (List.mem_map.mpr ⟨q,hq1,by rw[<-e,hr1]⟩)).elim
  ·exact(h1 (List.mem_map.mpr ⟨r,hr1,by rw[e,hq1]⟩)).elim
  ·exact ih h2 hr1 hq1
theorem wG {k n:Nat} {g:ai->R bG} {ds:List D} {x:Str} {ρ:ai} (h:ds.length=k) (e:g (eF n ds)= .err x ρ):aW k n g ds= .err x ρ:=by
 unfold aW
 rw[if_pos h,e];rfl
theorem CS {g g':ai->R bG} {ρ ρ':ai} {x:Str} (h:g ρ= .err x ρ'):aA g g' ρ= .err x ρ':=by
 unfold aA
 rw[h];rfl
section
variable {n:Nat} {ss:List bf} {rs:List Int} {rd:List (Int×Int)}
theorem yk (c:fS n ss rs rd) {r:bf} (hr:r∈ss):fO [aN n ss rs rd, .int r.1]= .ok (ay r):=by
 refine aV rfl ?_
 show lY [some (.val (aN n ss rs rd)),some (.val (.int r.1)),none]=_
 have e0:cW (d0 "Day" "streams" (af 0)) [some (.val (aN n ss rs rd)),some (.val (.int r.1)),none]= .ok (ss.map ay):=by simp! [d0,aN,yi]
 rcases wF (a0:=some (.val (aN n ss rs rd))) (k:=r.1) ss none with ⟨q,h1,h2,h3⟩|⟨h1,_⟩
 ·rw[GR c.good.nd h1 hr h2]at h3
  exact kq ((dH e0).trans h3)
 ·exact absurd rfl (h1 r hr)
theorem I0 {m:Str} (h:m≠"tanks"/\m≠"streams"/\m≠"rises"/\m≠"readings":=by decide):(pG n ss rs rd).lookup m=none:=by
 obtain⟨h1,h2,h3,h4⟩:=h
 simp[pG,List.lookup_cons,beq_eq_false_iff_ne.mpr h1,beq_eq_false_iff_ne.mpr h2,beq_eq_false_iff_ne.mpr h3,beq_eq_false_iff_ne.mpr h4]
theorem sq {m:Str} {k:Nat} {r:List D->R D} {fo:ai->R D} {fs:ai->R (List D)} {ρ:ai} {ds:List D} {z:D} (h1:fo ρ= .ok (aN n ss rs rd)) (h2:fs ρ= .ok ds) (hl:ds.length+1=k) (e:r (aN n ss rs rd::ds)= .ok z) (hm:m≠"tanks"/\m≠"streams"/\m≠"rises"/\m≠"readings":=by decide):j4 "Day" m k r fo fs ρ= .ok z:=by
 unfold j4
 simp only[h1,ax]
 unfold aN at e ⊢
 simp only[I0 hm,and_self,if_true,h2,ax,hl,e]
theorem GS {m:Str} {r:List D->R D} {fo f:ai->R D} {ρ:ai} {d z:D} (h1:fo ρ= .ok (aN n ss rs rd)) (h2:f ρ= .ok d) (e:r [aN n ss rs rd,d]= .ok z) (hm:m≠"tanks"/\m≠"streams"/\m≠"rises"/\m≠"readings":=by decide):j4 "Day" m 2 r fo (aa f aj) ρ= .ok z:=sq (ds:=[d]) h1 (bQ h2 rfl) rfl e hm
theorem DJ {m:Str} {r:List D->R D} {fo:ai->R D} {ρ:ai} {z:D} (h1:fo ρ= .ok (aN n ss rs rd)) (e:r [aN n ss rs rd]= .ok z) (hm:m≠"tanks"/\m≠"streams"/\m≠"rises"/\m≠"readings":=by decide):j4 "Day" m 1 r fo aj ρ= .ok z:=sq (ds:=[]) h1 rfl rfl e hm
theorem GU {f:ai->R D} {ρ:ai} {d:D} {i:Nat} (h:f ρ= .ok d):aT f (gN i) ρ= .ok (.nx (ρ.set i (some (.val d)))):=by
 unfold aT gN
 rw[h];rfl
end
def vC (x:Int×Int):D:= .tup [.int x.1, .int x.2]
def d9 (ps:List (Int×Int)):List (a_×D):=ps.map fun x=>(Sum.inl x.1, .int x.2)
theorem u3 (ps:List (Int×Int)):ig (ps.map vC)=some (d9 ps):=by
 induction ps with
 |nil=>rfl
 |cons x r ih=>
  show (cF (.int x.1)).bind (fun key=>(ig (r.map vC)).map fun ps=>(key,D.int x.2)::ps)=_
  rw[ih]
  rfl
def n0 (ps:List (Int×Int)):List (a_×D):=dG [] (d9 ps)
theorem kg {pd:D} {ps:List (Int×Int)} (h:pd= .lst (ps.map vC)\/pd= .tup (ps.map vC)):jv [pd]=some (.dic (n0 ps)):=by
 rcases h with rfl|rfl
 ·show (ig (ps.map vC)).map (fun qs=>D.dic (dG [] qs))=_
  rw[u3];rfl
 ·show (ig (ps.map vC)).map (fun qs=>D.dic (dG [] qs))=_
  rw[u3];rfl
def yl (kds:List (a_×D)):Prop:=∀kv∈kds,∃i,kv.2=D.int i
theorem yl.put {kds:List (a_×D)} (h:yl kds) (k:a_) (i:Int):yl (ji kds k (.int i)):=by
 unfold ji
 split
 ·intro kv hkv
  obtain⟨x,hx,rfl⟩:=List.mem_map.mp hkv
  split
  ·exact⟨i,rfl⟩
  ·exact h x hx
 ·intro kv hkv
  rcases List.mem_append.mp hkv with hkv|hkv
  ·exact h kv hkv
  ·rw[List.mem_singleton.mp hkv];exact⟨i,rfl⟩
theorem pH:∀(ps:List (Int×Int)) {kds:List (a_×D)},yl kds->yl (dG kds (d9 ps))
 |[],_,h=>h
 |x::r,_,h=>pH r (h.put (Sum.inl x.1) x.2)
def kD (ps:List (Int×Int)) (n:Int):Int:=match bV (n0 ps) (Sum.inl n)with
 |some (.int i)=>i
 |_=>0
theorem wH (ps:List (Int×Int)) (n:Int):(bV (n0 ps) (Sum.inl n)).getD (.int 0)= .int (kD ps n):=by
 unfold kD
 cases h:bV (n0 ps) (Sum.inl n)with
 |none=>rfl
 |some d=>
  have hv:yl (n0 ps):=pH ps (kds:=[]) fun kv hkv=>by cases hkv
  unfold bV at h
  cases hf:(n0 ps).find? fun kv=>decide (kv.1=Sum.inl n)with
  |none=>rw[hf]at h;cases h
  |some kv=>
   rw[hf]at h
   cases h
   obtain⟨i,hi⟩:=hv kv (List.mem_of_find?_eq_some hf)
   show (some kv.2).getD (D.int 0)=D.int (match (some kv.2:Option D)with|some (.int i)=>i|_=>0)
   rw[hi]
   rfl
theorem CT {kds:List (a_×D)} {k:a_} {v:D} (h:k∉kds.map (·.1)):ji kds k v=kds++[(k,v)]:=by
 unfold ji
 rw[if_neg]
 intro z
 obtain⟨kv,h1,h2⟩:=List.any_eq_true.mp z
 exact h (List.mem_map.mpr ⟨kv,h1,by simpa using h2⟩)
theorem AU (ps:List (Int×Int)) (n:Int):(Sum.inl n:a_)∈(d9 ps).map (·.1)<->n∈ps.map (·.1):=by
 unfold d9
 rw[List.map_map]
 constructor
 ·intro h
  obtain⟨p,hp,e⟩:=List.mem_map.mp h
  cases e
  exact List.mem_map_of_mem hp
 ·intro h
  obtain⟨p,hp,rfl⟩:=List.mem_map.mp h
  exact List.mem_map.mpr ⟨p,hp,rfl⟩
theorem wI {ps:List (Int×Int)} {p:Int×Int} (h:p.1∉ps.map (·.1)):ji (d9 ps) (Sum.inl p.1) (.int p.2)=d9 (ps++[p]):=by
 rw[CT (fun z=>h ((AU ps p.1).mp z))]
 simp[d9]
theorem mn {ps:List (Int×Int)} (nd:(ps.map (·.1)).Nodup):n0 ps=d9 ps:=by
 have key:∀(b a:List (Int×Int)),((a++b).map (·.1)).Nodup->dG (d9 a) (d9 b)=d9 (a++b):=by
  intro b
  induction b with
  |nil=>intro a _;simp[dG,d9]
  |cons p b ih=>
   intro a nd
   show dG (ji (d9 a) (Sum.inl p.1) (.int p.2)) (d9 b)=_
   have hp:p.1∉a.map (·.1):=by
    rw[List.map_append,List.map_cons]at nd
    have:=(List.nodup_append.mp nd).2.2
    intro z
    exact this _ z p.1 List.mem_cons_self rfl
   rw[wI hp,ih (a++[p]) (by rw[List.append_assoc];exact nd),List.append_assoc]
   rfl
 exact key ps [] nd
theorem wJ {ps:List (Int×Int)} (nd:(ps.map (·.1)).Nodup) {p:Int×Int} (h:p∈ps):bV (d9 ps) (Sum.inl p.1)=some (.int p.2):=by
 induction ps with
 |nil=>cases h
 |cons q ps ih=>
  obtain⟨n1,n2⟩:=List.nodup_cons.mp nd
  unfold bV d9
  rw[List.map_cons,List.find?_cons]
  rcases List.mem_cons.mp h with rfl|h
  ·simp
  ·have hne:q.1≠p.1:=fun z=>n1 (by show q.1∈ps.map (·.1);rw[z];exact List.mem_map_of_mem h)
   have:decide ((Sum.inl q.1:a_)=Sum.inl p.1)=false:=by simpa using hne
   simp only[this]
   exact ih n2 h
theorem wK {ps:List (Int×Int)} (nd:(ps.map (·.1)).Nodup) {p:Int×Int} (h:p∈ps):kD ps p.1=p.2:=by
 unfold kD
 rw[mn nd,wJ nd h]
def aO (ss:List bf) (rd:List (Int×Int)):List bf:=ss.filter fun r=>decide (r.1∉rd.map (·.1))
theorem wL {a0:Option Slot}:∀(rd:List (Int×Int)) (x:Option Slot),eA (gN 1) jC (f2 bT (af 1) (fC (.int 0))) (rd.map aC) [a0,x]= .ok ((rd.map (·.1)).map .int)
 |[],x=>rfl
 |p::rd,x=>by
  have ih:=wL (a0:=a0) rd (some (.val (aC p)))
  rw[List.map_cons,eA]
  simp only[gN,jC,ax,List.set_cons_succ,List.set_cons_zero,if_true,ih]
  simp! [aC,fE,List.map_cons]
theorem wM {a0:Option Slot} {rr:List Int}:∀(ss:List bf) (x:Option Slot),eA (gN 1) (fT (f2 (eG true) (f2 bT (af 1) (fC (.int 0))) (af 2))) (au 1) (ss.map ay) [a0,x,some (.bor (.lst (rr.map .int)))]= .ok ((ss.filter fun r=>decide (r.1∉rr)).map ay)
 |[],x=>rfl
 |r::ss,x=>by
  have ih:=wM (a0:=a0) (rr:=rr) ss (some (.val (ay r)))
  rw[List.map_cons,eA]
  simp only[gN,ax,List.set_cons_succ,List.set_cons_zero,ih]
  by_cases h:r.1∈rr
  ·simp! [ay,fE,j3,h,not_true,List.filter_cons,decide_false]
  ·simp! [ay,fE,j3,h,not_false_eq_true,List.filter_cons,decide_true,List.map_cons]
theorem vD {n:Nat} {ss:List bf} {rs:List Int} {rd:List (Int×Int)} (h1:ss.length<=1000) (h2:rd.length<=1000):gR [aZ n ss rs rd]= .ok (.lst ((aO ss rd).map ay)):=by
 refine aV rfl ?_
 show jZ [some (.val (aZ n ss rs rd)),none]=_
 have e3:L2.atI [D.int (n:Int), .tup (ss.map ay), .tup (rs.map .int), .tup (rd.map aC)] 3=some (.tup (rd.map aC)):=by
  have:=eX (xs:=[D.int (n:Int), .tup (ss.map ay), .tup (rs.map .int), .tup (rd.map aC)]) (k:=3) (by simp)
  simpa using this
 unfold jZ
 rw[aw (ρ':=[some (.val (aZ n ss rs rd)),some (.own (.lst ((rd.map (·.1)).map .int)))]) (own_of (iD (ds:=rd.map aC) (τ:=[none,none]) (by simp! [aZ,e3]) (by simp;unfold lim;omega) rfl (wL _ _)))]
 refine ic (xQ (iD (ds:=ss.map ay) (τ:=[none,none,some (.bor (.lst ((rd.map (·.1)).map .int)))]) (by simp! [aZ,jy]) (by simp;unfold lim;omega) rfl (wM _ _)))
theorem fS.rnd {n:Nat} {ss:List bf} {rs:List Int} {rd:List (Int×Int)} (c:fS n ss rs rd):(rd.map (·.1)).Nodup:=List.Nodup.sublist c.sub c.good.nd
theorem u4 (ps:List (Int×Int)) (k:Int):(bV (d9 ps) (Sum.inl k)).isSome=decide (k∈ps.map (·.1)):=by
 induction ps with
 |nil=>rfl
 |cons x r ih=>
  unfold bV d9 at ih ⊢
  rw[List.map_cons,List.find?_cons,List.map_cons]
  by_cases h:x.1=k
  ·simp[h]
  ·have e:decide ((Sum.inl x.1:a_)=Sum.inl k)=false:=by simpa using h
   simp only[e]
   rw[ih]
   have:¬k=x.1:=fun z=>h z.symm
   simp[this]
theorem Fo {ps:List (Int×Int)} (nd:(ps.map (·.1)).Nodup) (k:Int):eG false (.int k) (.dic (n0 ps))=some (.bl (decide (k∈ps.map (·.1)))):=by
 show some (D.bl (bV (n0 ps) (Sum.inl k)).isSome)=_
 rw[mn nd,u4]
section
variable {n:Nat} {ss:List bf} {rs:List Int} {rd:List (Int×Int)}
theorem vE (c:fS n ss rs rd) {r:bf} (hr:r∈ss):du [aN n ss rs rd, .int r.1]= .ok (.bl (decide (r.1∈rd.map (·.1)))):=by
 refine aV rfl ?_
 show iN [some (.val (aN n ss rs rd)),some (.val (.int r.1)),none]=_
 unfold iN
 refine Eq.trans (aw (GU (GS rfl rfl (yk c hr)))) ?_
 have e:=kg (pd:= .tup (rd.map aC)) (ps:=rd) (.inr rfl)
 have e2:=Fo c.rnd r.1
 simp! [d0,aN,AT,ay,fE,e,e2]
theorem mq (c:fS n ss rs rd):aX [aN n ss rs rd]= .ok (.tup ((aO ss rd).map ay)):=by
 refine aV rfl (ic (jS (bQ (xQ (iD (ds:=ss.map ay) (τ:=[none,none,some (.val (aN n ss rs rd))]) ?_ ?_ rfl (so (e:=ay) (p:=fun r:bf=>decide (r.1∉rd.map (·.1))) ss ?_ ?_ _))) rfl) rfl))
 ·show cW (d0 "Day" "streams" (af 0)) [some (.val (aN n ss rs rd))]=_
  simp! [d0,aN,yi]
 ·have:=c.len
  simp[lim];omega
 ·intro r hr
  have e:=sq (m:="metered") (k:=2) (r:=du) (fo:=au 2) (fs:=aa (f2 bT (af 1) (fC (.int 0))) (aj)) (ρ:=[none,some (.val (ay r)),some (.val (aN n ss rs rd))]) (ds:=[.int r.1]) rfl (by simp! [ay,fE]) rfl (vE c hr)
  simp only[la,i7,e,ax,jR,cJ,decide_not]
 ·intro r hr _
  rfl
end
def Bo (ss:List bf) (a b:Int):Prop:=∃r∈ss,(r.2.1=a/\r.2.2=b)\/(r.2.2=a/\r.2.1=b)
inductive kE (ss:List bf) (a:Int):Int->Prop
 |refl:kE ss a a
 |step {b c:Int}:kE ss a b->Bo ss b c->kE ss a c
theorem Bo.symm {ss:List bf} {a b:Int} (h:Bo ss a b):Bo ss b a:=by
 obtain⟨r,hr,h|h⟩:=h
 ·exact⟨r,hr, .inr ⟨h.2,h.1⟩⟩
 ·exact⟨r,hr, .inl ⟨h.2,h.1⟩⟩
theorem kE.trans {ss:List bf} {a b c:Int} (h:kE ss a b) (g:kE ss b c):kE ss a c:=by
 induction g with
 |refl=>exact h
 |step _ e ih=>exact .step ih e
theorem kE.symm {ss:List bf} {a b:Int} (h:kE ss a b):kE ss b a:=by
 induction h with
 |refl=>exact .refl
 |step _ e ih=>exact(kE.step .refl e.symm).trans ih
structure vF (n:Nat) (ss:List bf):Prop where
 src:∀r∈ss,0<=r.2.1/\r.2.1<=n
 tgt:∀r∈ss,0<=r.2.2/\r.2.2<=n
theorem kE.range {n:Nat} {ss:List bf} (g:vF n ss) {a b:Int} (ha:0<=a/\a<=n) (h:kE ss a b):0<=b/\b<=n:=by
 induction h with
 |refl=>exact ha
 |step _ e _=>
  obtain⟨r,hr,h|h⟩:=e
  ·rw[<-h.2];exact g.tgt r hr
  ·rw[<-h.2];exact g.src r hr
theorem pI {ss:List bf} {a:Int} {S:Int->Prop} (ha:S a) (hc:∀b c,S b->Bo ss b c->S c) {b:Int} (h:kE ss a b):S b:=by
 induction h with
 |refl=>exact ha
 |step _ e ih=>exact hc _ _ ih e
theorem kQ (a:Int):∀{l:List Int},l.Nodup->l.length<=(l.filter fun x=>decide (x≠a)).length+1
 |[],_=>by simp
 |x::r,h=>by
  obtain⟨h1,h2⟩:=List.nodup_cons.mp h
  by_cases e:x=a
  ·subst e
   have:r.filter (fun y=>decide (y≠x))=r:=List.filter_eq_self.mpr fun y hy=>by simp;intro z;subst z;exact h1 hy
   rw[List.filter_cons,if_neg (by simp),this]
   simp
  ·have ih:=kQ a h2
   rw[List.filter_cons,if_pos (by simpa using e)]
   simp only[List.length_cons]
   omega
theorem i4:∀(n:Nat) {l:List Int},l.Nodup->(∀x∈l,0<=x/\x<n)->l.length<=n
 |0,l,_,h=>by
  cases l with
  |nil=>simp
  |cons x r=>have:=h x List.mem_cons_self;omega
 |n+1,l,hn,h=>by
  have h1:=kQ (n:Int) hn
  have h2:=i4 n (l:=l.filter fun x=>decide (x≠(n:Int))) (List.Nodup.sublist List.filter_sublist hn) fun x hx=>by
   obtain⟨a,b⟩:=List.mem_filter.mp hx
   have:=h x a
   simp at b
   omega
  omega
theorem wN {n:Nat} {ss:List bf} (h:Good n ss):vF n ss:=⟨h.src,h.tgt⟩
def ls (seen:List Int) (a b:Int):List Int:=if a∈seen/\b∉seen then seen++[b]else seen
def d8 (seen:List Int) (r:bf):List Int:=ls (ls seen r.2.1 r.2.2) r.2.2 r.2.1
def cV (ss:List bf) (seen:List Int):List Int:=ss.foldl d8 seen
theorem mr (seen:List Int) (a b:Int):seen.length<=(ls seen a b).length:=by
 unfold ls;split<;>simp
theorem ky (seen:List Int) (r:bf):seen.length<=(d8 seen r).length:=Nat.le_trans (mr _ _ _) (mr _ _ _)
theorem ja:∀(ss:List bf) (seen:List Int),seen.length<=(cV ss seen).length
 |[],_=>Nat.le_refl _
 |r::ss,seen=>Nat.le_trans (ky seen r) (ja ss _)
theorem qU {seen:List Int} {a b:Int} (h:(ls seen a b).length=seen.length):ls seen a b=seen/\(a∈seen->b∈seen):=by
 unfold ls at h ⊢
 split at h
 ·simp at h
 ·rename_i hc
  rw[if_neg hc]
  exact⟨rfl,fun ha=>Classical.byContradiction fun hb=>hc ⟨ha,hb⟩⟩
theorem pJ {seen:List Int} {r:bf} (h:(d8 seen r).length=seen.length):d8 seen r=seen/\(r.2.1∈seen->r.2.2∈seen)/\(r.2.2∈seen->r.2.1∈seen):=by
 have a1:=mr seen r.2.1 r.2.2
 have a2:=mr (ls seen r.2.1 r.2.2) r.2.2 r.2.1
 unfold d8 at h ⊢
 obtain⟨e1,h1⟩:=qU (show (ls seen r.2.1 r.2.2).length=seen.length by omega)
 rw[e1]at h ⊢
 obtain⟨e2,h2⟩:=qU h
 exact⟨e2,h1,h2⟩
theorem pK:∀{ss:List bf} {seen:List Int},(cV ss seen).length=seen.length->∀r∈ss,(r.2.1∈seen->r.2.2∈seen)/\(r.2.2∈seen->r.2.1∈seen)
 |[],_,_=>fun r hr=>by cases hr
 |r::ss,seen,h=>by
  have a1:=ky seen r
  have a2:=ja ss (d8 seen r)
  replace h:(cV ss (d8 seen r)).length=seen.length:=h
  obtain⟨e1,h1⟩:=pJ (show (d8 seen r).length=seen.length by omega)
  rw[e1]at h
  intro r' hr'
  rcases List.mem_cons.mp hr' with rfl|hr'
  ·exact h1
  ·exact pK h r' hr'
structure nR (ss:List bf) (p:Int) (seen:List Int):Prop where
 nd:seen.Nodup
 tied:∀q∈seen,kE ss p q
 here:p∈seen
theorem nR.add {ss:List bf} {p:Int} {seen:List Int} (s:nR ss p seen) {a b:Int} (h:Bo ss a b):nR ss p (ls seen a b):=by
 unfold ls
 split
 ·rename_i hc
  refine⟨List.nodup_append.mpr ⟨s.nd,by simp,fun x hx y hy=> ?_⟩,fun q hq=> ?_,List.mem_append_left _ s.here⟩
  ·have:y=b:=by simpa using hy
   subst this
   intro z;subst z;exact hc.2 hx
  ·rcases List.mem_append.mp hq with hq|hq
   ·exact s.tied q hq
   ·have:q=b:=by simpa using hq
    subst this
    exact .step (s.tied a hc.1) h
 ·exact s
theorem nR.pass {ss0:List bf} {p:Int}:∀{ss:List bf} {seen:List Int},(∀r∈ss,r∈ss0)->nR ss0 p seen->nR ss0 p (cV ss seen)
 |[],_,_,s=>s
 |r::ss,seen,h,s=>nR.pass (ss:=ss) (fun x hx=>h x (List.mem_cons_of_mem _ hx)) ((s.add ⟨r,h r List.mem_cons_self, .inl ⟨rfl,rfl⟩⟩).add ⟨r,h r List.mem_cons_self, .inr ⟨rfl,rfl⟩⟩)
theorem CU {a0 a1:Option Slot} {seen:List Int} {g:Bool} {r:bf} (hl:seen.length<=100):
  dj [a0,a1,some (.own (.lst (seen.map .int))),some (.val (.bl g)),some (.val (.int r.1)),some (.val (.int r.2.1)),some (.val (.int r.2.2))]
   = .ok (.nx [a0,a1,some (.own (.lst ((d8 seen r).map .int))),some (.val (.bl (g||decide (seen.length<(d8 seen r).length)))),some (.val (.int r.1)),some (.val (.int r.2.1)),some (.val (.int r.2.2))]):=by
 have l1:(seen.map D.int).length<lim:=by rw[List.length_map];unfold lim;omega
 have l2:((seen++[r.2.2]).map D.int).length<lim:=by rw[List.length_map,List.length_append];simp;unfold lim;omega
 have ap:∀x:Int,seen.map D.int++[D.int x]=(seen++[x]).map D.int:=fun x=>by simp
 unfold d8
 by_cases h1:r.2.1∈seen<;>by_cases h2:r.2.2∈seen
 ·simp! [dj,qD,j3,h1,h2,ls,not_true,and_false,Nat.lt_irrefl,Bool.or_false]
 ·have h3:r.2.1∈seen++[r.2.2]:=List.mem_append_left _ h1
  have h4:r.2.2∈seen++[r.2.2]:=List.mem_append_right _ (by simp)
  have h5:seen.length<(seen++[r.2.2]).length:=by simp
  simp! [dj,qD,j3,h1,h2,h3,h4,h5,l1,ap,ls,not_true,not_false_eq_true,and_self,and_false,Bool.or_true]
 ·have h5:seen.length<(seen++[r.2.1]).length:=by simp
  simp! [dj,qD,j3,h1,h2,h5,l1,ap,ls,not_true,not_false_eq_true,and_self,and_false,false_and,Bool.or_true]
 ·simp! [dj,qD,j3,h1,h2,ls,false_and,Nat.lt_irrefl,Bool.or_false]
theorem wO {a0 a1:Option Slot}:∀(ss:List bf) (seen:List Int) (g:Bool) (x4 x5 x6:Option Slot),(cV ss seen).length<=100->
  ∃y4 y5 y6,bH (fV 3 (bc (gN 4) (bc (gN 5) (bc (gN 6) (fU))))) dj (ss.map ay) [a0,a1,some (.own (.lst (seen.map .int))),some (.val (.bl g)),x4,x5,x6]
   = .ok (.nx [a0,a1,some (.own (.lst ((cV ss seen).map .int))),some (.val (.bl (g||decide (seen.length<(cV ss seen).length)))),y4,y5,y6])
 |[],seen,g,x4,x5,x6,_=>⟨x4,x5,x6,by simp[bH,cV]⟩
 |r::ss,seen,g,x4,x5,x6,hl=>by
  have a1':=ky seen r
  have a2':=ja ss (d8 seen r)
  have hl':(cV ss (d8 seen r)).length<=100:=hl
  obtain⟨y4,y5,y6,e⟩:=wO (a0:=a0) (a1:=a1) ss (d8 seen r) (g||decide (seen.length<(d8 seen r).length)) (some (.val (.int r.1))) (some (.val (.int r.2.1))) (some (.val (.int r.2.2))) hl'
  refine⟨y4,y5,y6,?_⟩
  rw[List.map_cons,ck rfl (CU (by omega)),e]
  have:(cV (r::ss) seen)=cV ss (d8 seen r):=rfl
  rw[this]
  congr 5
  by_cases c1:seen.length<(d8 seen r).length<;>by_cases c2:(d8 seen r).length<(cV ss (d8 seen r)).length
  ·simp[c1,c2,show seen.length<(cV ss (d8 seen r)).length by omega]
  ·simp[c1,c2,show seen.length<(cV ss (d8 seen r)).length by omega]
  ·simp[c1,c2,show seen.length<(cV ss (d8 seen r)).length by omega]
  ·simp[c1,c2,show ¬seen.length<(cV ss (d8 seen r)).length by omega]
theorem AV {n:Nat} {ss:List bf} {p:Int} {sd:D} (hsd:sd= .lst (ss.map ay)\/sd= .tup (ss.map ay)) (g:vF n ss) (hn:n<=7) (hp:0<=p/\p<=n) (a1:Option Slot):∀(m:Nat) (seen:List Int) (x4 x5 x6:Option Slot),nR ss p seen->9<=m+seen.length->
  ∃seen' g' y4 y5 y6,cz (i7 (af 3)) fQ (m+1) [some (.val sd),a1,some (.own (.lst (seen.map .int))),some (.val (.bl true)),x4,x5,x6]
   = .ok (.nx [some (.val sd),a1,some (.own (.lst (seen'.map .int))),g',y4,y5,y6])/\nR ss p seen'/\∀r∈ss,(r.2.1∈seen'->r.2.2∈seen')/\(r.2.2∈seen'->r.2.1∈seen'):=by
 have bound:∀seen,nR ss p seen->seen.length<=8:=fun seen s=>Nat.le_trans (i4 (n+1) s.nd fun x hx=>by have:=(s.tied x hx).range g hp;omega) (by omega)
 intro m
 induction m with
 |zero=>intro seen x4 x5 x6 s h;have:=bound seen s;omega
 |succ m ih=>
  intro seen x4 x5 x6 s h
  have s':=nR.pass (ss:=ss) (fun r hr=>hr) s
  have b':=bound _ s'
  obtain⟨y4,y5,y6,e⟩:=wO (a0:=some (.val sd)) (a1:=a1) ss seen false x4 x5 x6 (by omega)
  have hq:cW (au 0) [some (.val sd),a1,some (.own (.lst (seen.map .int))),some (.val (.bl false)),x4,x5,x6]= .ok (ss.map ay):=by rcases hsd with rfl|rfl<;>rfl
  have hb:fQ [some (.val sd),a1,some (.own (.lst (seen.map .int))),some (.val (.bl true)),x4,x5,x6]= .ok (.nx [some (.val sd),a1,some (.own (.lst ((cV ss seen).map .int))),some (.val (.bl (false||decide (seen.length<(cV ss seen).length)))),y4,y5,y6]):=by
   unfold fQ
   rw[aw (ρ':=[some (.val sd),a1,some (.own (.lst (seen.map .int))),some (.val (.bl false)),x4,x5,x6]) rfl,dH hq,e]
  rw[lg (by rfl) hb]
  by_cases hlt:seen.length<(cV ss seen).length
  ·obtain⟨seen',g',z4,z5,z6,e',h1,h2⟩:=ih (cV ss seen) y4 y5 y6 s' (by omega)
   refine⟨seen',g',z4,z5,z6,?_,h1,h2⟩
   rw[show (false||decide (seen.length<(cV ss seen).length))=true by simp[hlt]]
   exact e'
  ·have he:(cV ss seen).length=seen.length:=by have:=ja ss seen;omega
   refine⟨cV ss seen,some (.val (.bl false)),y4,y5,y6,?_,s',?_⟩
   ·rw[show (false||decide (seen.length<(cV ss seen).length))=false by simp[hlt]]
    exact mR rfl
   ·
    have hc:=pK he
    have heq:∀(ss:List bf) (seen:List Int),(cV ss seen).length=seen.length->cV ss seen=seen:=by
     intro ss
     induction ss with
     |nil=>intro seen _;rfl
     |cons r ss ihh=>
      intro seen h
      have a1:=ky seen r
      have a2:=ja ss (d8 seen r)
      replace h:(cV ss (d8 seen r)).length=seen.length:=h
      obtain⟨e1,_⟩:=pJ (show (d8 seen r).length=seen.length by omega)
      show cV ss (d8 seen r)=seen
      rw[e1]at h ⊢
      exact ihh seen h
    rw[heq ss seen he]
    exact hc
theorem lw {n:Nat} {ss:List bf} {p:Int} {sd:D} (hsd:sd= .lst (ss.map ay)\/sd= .tup (ss.map ay)) (g:vF n ss) (hn:n<=7) (hp:0<=p/\p<=n):
  ∃seen:List Int,fA [sd, .int p]= .ok (.lst (seen.map .int))/\seen.Nodup/\∀q,q∈seen<->kE ss p q:=by
 have s0:nR ss p [p]:=⟨by simp,fun q hq=>by rw[List.mem_singleton.mp hq];exact .refl,by simp⟩
 obtain⟨seen,g',y4,y5,y6,e,s,hc⟩:=AV hsd g hn hp (some (.val (.int p))) 9 [p] none none none s0 (by simp)
 refine⟨seen,?_,s.nd,fun q=>⟨s.tied q,fun h=>pI (S:=fun q=>q∈seen) s.here (fun b c hb had=> ?_) h⟩⟩
 ·refine aV rfl ?_
  show j_ [some (.val sd),some (.val (.int p)),none,none,none,none,none]=_
  have e':cz (i7 (af 3)) fQ 100 [some (.val sd),some (.val (.int p)),some (.own (.lst [.int p])),some (.val (.bl true)),none,none,none]=_:=ie 90 e
  have hl1:(1:Nat)<=lim:=by decide
  unfold j_
  rw[aw (ρ':=[some (.val sd),some (.val (.int p)),some (.own (.lst [.int p])),none,none,none,none]) (by simp! [hl1]),
   aw (ρ':=[some (.val sd),some (.val (.int p)),some (.own (.lst [.int p])),some (.val (.bl true)),none,none,none]) rfl,aw e']
  simp! []
 ·obtain⟨r,hr,h|h⟩:=had
  ·have:=(hc r hr).1 (by rw[h.1];exact hb)
   rwa [h.2]at this
  ·have:=(hc r hr).2 (by rw[h.1];exact hb)
   rwa [h.2]at this
structure o1 (ss:List bf) (p:Int) (l:List Int):Prop where
 mem:∀q,q∈l<->kE ss p q
 nd:l.Nodup
 srt:l.Pairwise (·<=·)
theorem pL {ss:List bf} {p:Int} {l:List Int} (hm:∀q,q∈l<->kE ss p q) (hn:l.Nodup):o1 ss p (cI l):=
 ⟨fun q=>by rw[(eV l).mem_iff];exact hm q,(eV l).nodup_iff.mpr hn,hU l⟩
theorem o1.uniq {ss:List bf} {p:Int} {a b:List Int} (ha:o1 ss p a) (hb:o1 ss p b):a=b:=
 gx ((List.perm_ext_iff_of_nodup ha.nd hb.nd).mpr fun q=>by rw[ha.mem,hb.mem]) ha.srt hb.srt
theorem o1.len {n:Nat} {ss:List bf} {p:Int} {a:List Int} (h:o1 ss p a) (g:vF n ss) (hn:n<=7) (hp:0<=p/\p<=n):a.length<=8:=
 Nat.le_trans (i4 (n+1) h.nd fun x hx=>by have:=((h.mem x).mp hx).range g hp;omega) (by omega)
theorem o1.head {ss:List bf} {p:Int} {a:List Int} (h:o1 ss p a):∃x r,a=x::r/\kE ss p x/\∀q,kE ss p q->x<=q:=by
 cases a with
 |nil=>exact absurd ((h.mem p).mpr .refl) (by simp)
 |cons x r=>
  refine⟨x,r,rfl,(h.mem x).mp List.mem_cons_self,fun q hq=> ?_⟩
  rcases List.mem_cons.mp ((h.mem q).mpr hq)with rfl|hq
  ·exact Int.le_refl _
  ·exact(List.pairwise_cons.mp h.srt).1 q hq
def bF (B:Int->List Int) (ps:List Int):List (List Int):=(ps.filter fun p=>decide ((B p).head? =some p)).map B
def bD (l:List Int):D:= .tup (l.map .int)
theorem kR (B:Int->List Int) (a b:List Int):bF B (a++b)=bF B a++bF B b:=by simp[bF]
theorem n4 (xs:List Int):xK [.lst (xs.map .int)]=some (.int xs.sum):=by
 show (eI (xs.map D.int)).map (fun ns=>D.int ns.sum)=_
 rw[oS]
 rfl
def rs (rises gi:List Int):Int:=(gi.map fun t=>rises.getD (t - 1).toNat 0).sum
theorem sr {rises:List Int} {t:Int} (h:1<=t/\t<=rises.length):L2.atI (rises.map D.int) (t - 1)=some (.int (rises.getD (t - 1).toNat 0)):=by
 have hk:(t - 1).toNat<rises.length:=by omega
 rw[Cs,show t - 1=(((t - 1).toNat:Nat):Int) by omega,eX hk]
 show some (D.int rises[(t - 1).toNat])=_
 rw[show ((((t - 1).toNat:Nat):Int)).toNat=(t - 1).toNat by omega,List.getD_eq_getElem?_getD,List.getElem?_eq_getElem hk]
 rfl
def eJ (am:Int->Int) (ss:List bf) (t:Int):Int:=(ss.map fun r=>(if r.2.2=t then am r.1 else 0) - (if r.2.1=t then am r.1 else 0)).sum
theorem CV {a0 a1 a2:Option Slot} {ps:List (Int×Int)} {tot tank:Int} {r:bf}:js [a0,a1,a2,some (.val (.int tot)),some (.val (.dic (n0 ps))),some (.val (.int tank)),some (.val (.int r.1)),some (.val (.int r.2.1)),some (.val (.int r.2.2))]
  = .ok (.nx [a0,a1,a2,some (.val (.int (tot+((if r.2.2=tank then kD ps r.1 else 0) - (if r.2.1=tank then kD ps r.1 else 0))))),some (.val (.dic (n0 ps))),some (.val (.int tank)),some (.val (.int r.1)),some (.val (.int r.2.1)),some (.val (.int r.2.2))]):=by
 by_cases h1:r.2.2=tank<;>by_cases h2:r.2.1=tank<;>simp! [js,nq,cF,h1,h2,wH]
 all_goals (refine congrArg (fun z:Int=>R.ok (bG.nx [a0,a1,a2,some (.val (.int z)),some (.val (.dic (n0 ps))),some (.val (.int _)),some (.val (.int r.1)),some (.val (.int _)),some (.val (.int _))])) ?_;omega)
theorem AW {a0 a1 a2:Option Slot} {ps:List (Int×Int)} {tank:Int}:∀(ss:List bf) (tot:Int) (x6 x7 x8:Option Slot),∃y6 y7 y8,bH (fV 3 (bc (gN 6) (bc (gN 7) (bc (gN 8) (fU))))) js (ss.map ay) [a0,a1,a2,some (.val (.int tot)),some (.val (.dic (n0 ps))),some (.val (.int tank)),x6,x7,x8]
  = .ok (.nx [a0,a1,a2,some (.val (.int (tot+eJ (kD ps) ss tank))),some (.val (.dic (n0 ps))),some (.val (.int tank)),y6,y7,y8])
 |[],tot,x6,x7,x8=>⟨x6,x7,x8,by simp[bH,eJ]⟩
 |r::ss,tot,x6,x7,x8=>by
  obtain⟨y6,y7,y8,e⟩:=AW (a0:=a0) (a1:=a1) (a2:=a2) (ps:=ps) (tank:=tank) ss (tot+((if r.2.2=tank then kD ps r.1 else 0) - (if r.2.1=tank then kD ps r.1 else 0))) (some (.val (.int r.1))) (some (.val (.int r.2.1))) (some (.val (.int r.2.2)))
  refine⟨y6,y7,y8,?_⟩
  rw[List.map_cons,ck rfl CV,e]
  have:eJ (kD ps) (r::ss) tank=(if r.2.2=tank then kD ps r.1 else 0) - (if r.2.1=tank then kD ps r.1 else 0)+eJ (kD ps) ss tank:=rfl
  rw[this,Int.add_assoc]
theorem wQ {sd:D} {ss:List bf} {a1 a2:Option Slot} {ps:List (Int×Int)} (hs:sd= .lst (ss.map ay)\/sd= .tup (ss.map ay)):∀(gi:List Int) (tot:Int) (x5 x6 x7 x8:Option Slot),∃y5 y6 y7 y8,bH (gN 5) jt (gi.map .int) [some (.val sd),a1,a2,some (.val (.int tot)),some (.val (.dic (n0 ps))),x5,x6,x7,x8]
  = .ok (.nx [some (.val sd),a1,a2,some (.val (.int (tot+(gi.map (eJ (kD ps) ss)).sum))),some (.val (.dic (n0 ps))),y5,y6,y7,y8])
 |[],tot,x5,x6,x7,x8=>⟨x5,x6,x7,x8,by simp[bH]⟩
 |t::gi,tot,x5,x6,x7,x8=>by
  obtain⟨z6,z7,z8,e1⟩:=AW (a0:=some (.val sd)) (a1:=a1) (a2:=a2) (ps:=ps) (tank:=t) ss tot x6 x7 x8
  obtain⟨y5,y6,y7,y8,e2⟩:=wQ (a1:=a1) (a2:=a2) (ps:=ps) hs gi (tot+eJ (kD ps) ss t) (some (.val (.int t))) z6 z7 z8
  refine⟨y5,y6,y7,y8,?_⟩
  have hq:cW (au 0) [some (.val sd),a1,a2,some (.val (.int tot)),some (.val (.dic (n0 ps))),some (.val (.int t)),x6,x7,x8]= .ok (ss.map ay):=by rcases hs with rfl|rfl<;>rfl
  have hb:jt [some (.val sd),a1,a2,some (.val (.int tot)),some (.val (.dic (n0 ps))),some (.val (.int t)),x6,x7,x8]= .ok (.nx [some (.val sd),a1,a2,some (.val (.int (tot+eJ (kD ps) ss t))),some (.val (.dic (n0 ps))),some (.val (.int t)),z6,z7,z8]):=by
   unfold jt
   rw[dH hq,e1]
  rw[List.map_cons,ck rfl hb,e2,List.map_cons,List.sum_cons,Int.add_assoc]
theorem u5 {sd pd gd:D} {ss:List bf} {ps:List (Int×Int)} {gi:List Int} (hs:sd= .lst (ss.map ay)\/sd= .tup (ss.map ay)) (hp:pd= .lst (ps.map vC)\/pd= .tup (ps.map vC)) (hg:gd= .lst (gi.map .int)\/gd= .tup (gi.map .int)):
  dw [sd,pd,gd]= .ok (.int ((gi.map (eJ (kD ps) ss)).sum)):=by
 obtain⟨y5,y6,y7,y8,e⟩:=wQ (a1:=some (.val pd)) (a2:=some (.val gd)) (ps:=ps) hs gi 0 none none none none
 refine aV rfl ?_
 show mY [some (.val sd),some (.val pd),some (.val gd),none,none,none,none,none,none]=_
 have hq:cW (au 2) [some (.val sd),some (.val pd),some (.val gd),some (.val (.int 0)),some (.val (.dic (n0 ps))),none,none,none,none]= .ok (gi.map .int):=by rcases hg with rfl|rfl<;>rfl
 unfold mY
 rw[aw (ρ':=[some (.val sd),some (.val pd),some (.val gd),some (.val (.int 0)),none,none,none,none,none]) rfl,
  aw (ρ':=[some (.val sd),some (.val pd),some (.val gd),some (.val (.int 0)),some (.val (.dic (n0 ps))),none,none,none,none]) (oW (jS (bQ rfl rfl) (kg hp)) rfl)]
 rw[aw (by rw[dH hq];exact e)]
 simp! [Int.zero_add]
def jb (ss:List bf) (rd:List (Int×Int)) (g:List Int):Int:=(g.map (eJ (kD rd) ss)).sum
def bP (B:Int->List Int) (rises:List Int) (ss:List bf) (rd:List (Int×Int)) (ts:List Int):List (List Int×Int×Int):=((bF B ts).map fun g=>(g,rs rises g,jb ss rd g)).filter fun x=>decide (x.2.1≠x.2.2)
def mz (x:List Int×Int×Int):D:= .tup [bD x.1, .int x.2.1, .int x.2.2]
theorem qe (B:Int->List Int) (rises:List Int) (ss:List bf) (rd:List (Int×Int)) (a b:List Int):bP B rises ss rd (a++b)=bP B rises ss rd a++bP B rises ss rd b:=by
 unfold bP
 rw[kR,List.map_append,List.filter_append]
theorem Ip {a b c d:D}:L2.atI [a,b,c,d] 2=some c:=by
 have:=eX (xs:=[a,b,c,d]) (k:=2) (by simp)
 simpa using this
theorem Iq {a b c d:D}:L2.atI [a,b,c,d] 3=some d:=by
 have:=eX (xs:=[a,b,c,d]) (k:=3) (by simp)
 simpa using this
theorem ym:aC=vC:=rfl
theorem u6 {n:Nat} {ss:List bf} {rises:List Int} {rd:List (Int×Int)} {z0:Option Slot}:∀(gi:List Int) (x:Option Slot),(∀t∈gi,1<=t/\t<=rises.length)->
  eA (gN 1) jC (f2 bT (f2 bT (af 2) (fC (.int 2))) (f2 gK (af 1) (fC (.int 1)))) (gi.map .int) [z0,x,some (.val (aZ n ss rises rd))]= .ok ((gi.map fun t=>rises.getD (t - 1).toNat 0).map .int)
 |[],x,_=>rfl
 |t::gi,x,h=>by
  have ih:=u6 (n:=n) (ss:=ss) (rises:=rises) (rd:=rd) (z0:=z0) gi (some (.val (.int t))) fun q hq=>h q (List.mem_cons_of_mem _ hq)
  rw[List.map_cons,eA]
  simp only[gN,jC,ax,List.set_cons_succ,List.set_cons_zero,if_true,ih]
  simp! [aZ,Ip,sr (h t List.mem_cons_self),List.map_cons]
theorem AX {n:Nat} {ss lo:List bf} {rises:List Int} {rd:List (Int×Int)} (g:vF n lo) (hn:n<=7) (hr:rises.length=n) {B:Int->List Int} (hB:∀p:Int,0<=p/\p<=n->o1 lo p (B p)) {x4 x5 x6:Option Slot} {acc:List (List Int×Int×Int)} {p:Int} (hp:1<=p/\p<=n) (hl:acc.length<=100):
  ∃(y4 y5 y6:Option Slot) (o:ai->bG),(o= .nx\/o= .cnt)/\cD [some (.val (aZ n ss rises rd)),some (.own (.lst (acc.map mz))),some (.val (.lst (lo.map ay))),some (.val (.int p)),x4,x5,x6]
   = .ok (o [some (.val (aZ n ss rises rd)),some (.own (.lst ((acc++bP B rises ss rd [p]).map mz))),some (.val (.lst (lo.map ay))),some (.val (.int p)),y4,y5,y6]):=by
 have hp0:0<=p/\p<=n:=⟨by omega,hp.2⟩
 obtain⟨seen,hf,hnd,hm⟩:=lw (ss:=lo) (p:=p) (.inl rfl) g hn hp0
 have hb:cI seen=B p:=(pL hm hnd).uniq (hB p hp0)
 have hlen:=(hB p hp0).len g hn hp0
 have hsl:seen.length<64:=by have:=(eV seen).length_eq;rw[hb]at this;omega
 have hso:cA [.lst (seen.map .int)]=some (.lst ((B p).map .int)):=by
  have:fM [.lst (seen.map .int)]=some (.lst ((B p).map .int)):=by
   show ((eI (seen.map D.int)).bind fun ns=>if ns.length<64 then some (D.lst ((cI ns).map .int))else none)=_
   rw[oS]
   show (if seen.length<64 then some (D.lst ((cI seen).map .int))else none)=_
   rw[if_pos hsl,hb]
  unfold cA
  rw[this]
 obtain⟨x,r,hx,ht,hle⟩:=(hB p hp0).head
 have l1:(acc.map mz).length<lim:=by rw[List.length_map];unfold lim;omega
 have hl3:(3:Nat)<=lim:=by decide
 have hix:L2.atI ((B p).map D.int) 0=some (.int x):=by rw[hx,List.map_cons];exact fE
 have h1:cU cA (aa (aE fA 2 (aa (au 2) (aa (au 3) (aj)))) (aj)) [some (.val (aZ n ss rises rd)),some (.own (.lst (acc.map mz))),some (.val (.lst (lo.map ay))),some (.val (.int p)),x4,x5,x6]= .ok (.lst ((B p).map .int)):=by simp! [hf,hso]
 by_cases e:x=p
 ·have hle1:bF B [p]=[B p]:=by simp[bF,List.filter_cons,hx,e]
  have hin:∀t∈B p,1<=t/\t<=rises.length:=fun t ht'=>by
   have q:=((hB p hp0).mem t).mp ht'
   have:=hle t q
   have:=q.range g hp0
   omega
  have h2:cU xK (aa (fL (ib ["_law_case_here","_law_found","_law_loose_here","_law_tank","_law_group","_law_rise","_law_came"] [(".0", .local),("_law_one", .local),("_law_case_here", .free)] (cW (au 4)) (gN 1) (jC) (f2 bT (f2 bT (af 2) (fC (.int 2))) (f2 gK (af 1) (fC (.int 1)))))) (aj)) [some (.val (aZ n ss rises rd)),some (.own (.lst (acc.map mz))),some (.val (.lst (lo.map ay))),some (.val (.int p)),some (.val (.lst ((B p).map .int))),x5,x6]= .ok (.int (rs rises (B p))):=
   jS (bQ (xQ (iD (ds:=(B p).map .int) (τ:=[none,none,some (.val (aZ n ss rises rd))]) rfl (by rw[List.length_map];unfold lim;omega) rfl (u6 (B p) none hin))) rfl) (n4 _)
  have hnet:dw [.tup (ss.map ay), .tup (rd.map aC), .lst ((B p).map .int)]= .ok (.int (jb ss rd (B p))):=u5 (.inr rfl) (.inr rfl) (.inl rfl)
  have h3:aE dw 3 (aa (f2 bT (af 0) (fC (.int 1))) (aa (f2 bT (af 0) (fC (.int 3))) (aa (au 4) (aj)))) [some (.val (aZ n ss rises rd)),some (.own (.lst (acc.map mz))),some (.val (.lst (lo.map ay))),some (.val (.int p)),some (.val (.lst ((B p).map .int))),some (.val (.int (rs rises (B p)))),x6]= .ok (.int (jb ss rd (B p))):=by
   simp! [aZ,jy,Iq,hnet]
  refine⟨some (.val (.lst ((B p).map .int))),some (.val (.int (rs rises (B p)))),some (.val (.int (jb ss rd (B p)))), .nx, .inl rfl,?_⟩
  unfold cD
  rw[aw (ρ':=[some (.val (aZ n ss rises rd)),some (.own (.lst (acc.map mz))),some (.val (.lst (lo.map ay))),some (.val (.int p)),some (.val (.lst ((B p).map .int))),x5,x6]) (oW (g:=gN 4) h1 rfl)]
  rw[aw (ρ':=[some (.val (aZ n ss rises rd)),some (.own (.lst (acc.map mz))),some (.val (.lst (lo.map ay))),some (.val (.int p)),some (.val (.lst ((B p).map .int))),x5,x6]) (by simp! [gN,xF,hix,e,not_true])]
  rw[aw (ρ':=[some (.val (aZ n ss rises rd)),some (.own (.lst (acc.map mz))),some (.val (.lst (lo.map ay))),some (.val (.int p)),some (.val (.lst ((B p).map .int))),some (.val (.int (rs rises (B p)))),x6]) (oW (g:=gN 5) h2 rfl)]
  rw[aw (ρ':=[some (.val (aZ n ss rises rd)),some (.own (.lst (acc.map mz))),some (.val (.lst (lo.map ay))),some (.val (.int p)),some (.val (.lst ((B p).map .int))),some (.val (.int (rs rises (B p)))),some (.val (.int (jb ss rd (B p))))]) (oW (g:=gN 6) h3 rfl)]
  by_cases hc:rs rises (B p)=jb ss rd (B p)
  ·have:bP B rises ss rd [p]=[]:=by simp[bP,hle1,hc]
   rw[this,List.append_nil]
   simp! [gN,hc,not_true]
  ·have:bP B rises ss rd [p]=[(B p,rs rises (B p),jb ss rd (B p))]:=by simp[bP,hle1,hc]
   rw[this,List.map_append]
   simp! [gN,hc,not_false_eq_true,l1,hl3,List.map_cons,List.map_nil,mz,bD]
 ·have hle1:bF B [p]=[]:=by simp[bF,List.filter_cons,hx,e]
  have:bP B rises ss rd [p]=[]:=by simp[bP,hle1]
  rw[this,List.append_nil]
  refine⟨some (.val (.lst ((B p).map .int))),x5,x6, .cnt, .inr rfl,?_⟩
  unfold cD
  rw[aw (ρ':=[some (.val (aZ n ss rises rd)),some (.own (.lst (acc.map mz))),some (.val (.lst (lo.map ay))),some (.val (.int p)),some (.val (.lst ((B p).map .int))),x5,x6]) (oW (g:=gN 4) h1 rfl)]
  simp! [gN,xF,hix,e,not_false_eq_true]
theorem u7 {n:Nat} {ss lo:List bf} {rises:List Int} {rd:List (Int×Int)} (g:vF n lo) (hn:n<=7) (hr:rises.length=n) {B:Int->List Int} (hB:∀p:Int,0<=p/\p<=n->o1 lo p (B p)):∀(ts:List Int) (acc:List (List Int×Int×Int)) (x3 x4 x5 x6:Option Slot),(∀t∈ts,1<=t/\t<=n)->acc.length+ts.length<=100->
  ∃y3 y4 y5 y6,bH (gN 3) cD (ts.map .int) [some (.val (aZ n ss rises rd)),some (.own (.lst (acc.map mz))),some (.val (.lst (lo.map ay))),x3,x4,x5,x6]
   = .ok (.nx [some (.val (aZ n ss rises rd)),some (.own (.lst ((acc++bP B rises ss rd ts).map mz))),some (.val (.lst (lo.map ay))),y3,y4,y5,y6])
 |[],acc,x3,x4,x5,x6,_,_=>⟨x3,x4,x5,x6,by simp[bH,bP,bF]⟩
 |t::ts,acc,x3,x4,x5,x6,ht,hl=>by
  obtain⟨z4,z5,z6,o,ho,e1⟩:=AX (ss:=ss) (rd:=rd) g hn hr hB (x4:=x4) (x5:=x5) (x6:=x6) (acc:=acc) (p:=t) (ht t List.mem_cons_self) (by simp at hl;omega)
  have hcl:(bP B rises ss rd [t]).length<=1:=by
   unfold bP bF
   refine Nat.le_trans (List.length_filter_le _ _) ?_
   rw[List.length_map,List.length_map]
   exact List.length_filter_le _ _
  obtain⟨y3,y4,y5,y6,e2⟩:=u7 (ss:=ss) (rd:=rd) g hn hr hB ts (acc++bP B rises ss rd [t]) (some (.val (.int t))) z4 z5 z6 (fun q hq=>ht q (List.mem_cons_of_mem _ hq)) (by simp at hl ⊢;omega)
  refine⟨y3,y4,y5,y6,?_⟩
  have ec:bP B rises ss rd (t::ts)=bP B rises ss rd [t]++bP B rises ss rd ts:=qe B rises ss rd [t] ts
  rw[ec,<-List.append_assoc,List.map_cons]
  rcases ho with rfl|rfl
  ·rw[ck rfl e1,e2]
  ·rw[tf rfl e1,e2]
def bw (n:Nat):List Int:=(List.range n).map fun k:Nat=>1+(k:Int)
theorem cS {n:Nat} {t:Int}:t∈bw n<->1<=t/\t<=n:=by
 unfold bw
 rw[List.mem_map]
 constructor
 ·rintro⟨k,hk,rfl⟩
  have:=List.mem_range.mp hk
  omega
 ·intro h
  exact⟨(t - 1).toNat,List.mem_range.mpr (by omega),by omega⟩
theorem mw (n:Nat):ia 1 ((n:Int)+1)=(bw n).map .int:=by
 unfold ia bw
 rw[show ((n:Int)+1 - 1).toNat=n by omega,List.map_map]
 rfl
theorem AY {n:Nat} {lo:List bf} (g:vF n lo) (hn:n<=7):∃B:Int->List Int,∀p:Int,0<=p/\p<=n->o1 lo p (B p):=by
 classical
 refine⟨fun p=>if h:0<=p/\p<=n then cI (lw (ss:=lo) (sd:= .lst (lo.map ay)) (.inl rfl) g hn h).choose else [],fun p h=> ?_⟩
 have:=(lw (ss:=lo) (sd:= .lst (lo.map ay)) (.inl rfl) g hn h).choose_spec
 simp only[dif_pos h]
 exact pL this.2.2 this.2.1
theorem fS.loose {n:Nat} {ss:List bf} {rises:List Int} {rd:List (Int×Int)} (c:fS n ss rises rd):Good n (aO ss rd):=
 ⟨c.good.inc.sublist List.filter_sublist,fun r hr=>c.good.num r ((List.mem_filter.mp hr).1),fun r hr=>c.good.src r ((List.mem_filter.mp hr).1),fun r hr=>c.good.tgt r ((List.mem_filter.mp hr).1),fun r hr=>c.good.ne r ((List.mem_filter.mp hr).1)⟩
theorem AZ {n:Nat} {ss:List bf} {rises:List Int} {rd:List (Int×Int)} (c:fS n ss rises rd) {B:Int->List Int} (hB:∀p:Int,0<=p/\p<=n->o1 (aO ss rd) p (B p)):
  cL [aZ n ss rises rd]= .ok (.tup ((bP B rises ss rd (bw n)).map mz)):=by
 have hn:=c.n7
 have h12:=c.len
 have h10:=c.ten
 obtain⟨y3,y4,y5,y6,e⟩:=u7 (ss:=ss) (rd:=rd) (wN c.loose) hn c.rsl hB (bw n) [] none none none none (fun t ht=>cS.mp ht) (by simp[bw];omega)
 rw[List.nil_append]at e
 refine aV rfl ?_
 show fR [some (.val (aZ n ss rises rd)),none,none,none,none,none,none]=_
 have hl:=vD (n:=n) (ss:=ss) (rs:=rises) (rd:=rd) (by omega) (by omega)
 have h0:(0:Nat)<=lim:=Nat.zero_le _
 unfold fR
 rw[aw (ρ':=[some (.val (aZ n ss rises rd)),some (.own (.lst [])),none,none,none,none,none]) (by simp! []),
  aw (ρ':=[some (.val (aZ n ss rises rd)),some (.own (.lst [])),some (.val (.lst ((aO ss rd).map ay))),none,none,none,none]) (by simp! [hl])]
 have hq:jh (aa (fC (.int 1)) (aa (f2 cH (f2 bT (af 0) (fC (.int 0))) (fC (.int 1))) (aj))) [some (.val (aZ n ss rises rd)),some (.own (.lst [])),some (.val (.lst ((aO ss rd).map ay))),none,none,none,none]= .ok ((bw n).map .int):=by
  have hb:(1:Int).natAbs<=lim/\((n:Int)+1).natAbs<=lim:=⟨by decide,by unfold lim;omega⟩
  rw[<-mw]
  simp! [jh,aZ,fE,hb,and_self]
 rw[aw (by rw[dH hq];exact e)]
 simp! []
abbrev kz:=Int×Option (Int×Int×Int)
def qf:Option (Int×Int×Int)->D
 |none=> .non
 |some (u,n,d)=> .tup [.int u, .tup [.int n, .int d]]
def cn (es:List kz):List (a_×D):=es.map fun e=>((Sum.inl e.1:a_),qf e.2)
def gZ (es:List kz):List Int:=es.map (·.1)
theorem u8 (es:List kz) (x:Int):(bV (cn es) (Sum.inl x)).isSome=decide (x∈gZ es):=by
 induction es with
 |nil=>rfl
 |cons e r ih=>
  show (bV ((Sum.inl e.1,qf e.2)::cn r) (Sum.inl x)).isSome=_
  by_cases h:e.1=x
  ·have:bV ((Sum.inl e.1,qf e.2)::cn r) (Sum.inl x)=some (qf e.2):=by simp[bV,h]
   rw[this]
   simp[gZ,h]
  ·have h1:bV ((Sum.inl e.1,qf e.2)::cn r) (Sum.inl x)=bV (cn r) (Sum.inl x):=by simp[bV,h]
   rw[h1,ih]
   show decide (x∈gZ r)=decide (x∈e.1::gZ r)
   rw[decide_eq_decide]
   exact⟨List.mem_cons_of_mem _,fun z=>(List.mem_cons.mp z).resolve_left (Ne.symm h)⟩
theorem A_ (es:List kz) (x:Int) (o:Option (Int×Int×Int)) (h:x∉gZ es):ji (cn es) (Sum.inl x) (qf o)=cn (es++[(x,o)]):=by
 unfold ji
 rw[if_neg]
 ·simp[cn]
 ·intro z
  obtain⟨kv,h1,h2⟩:=List.any_eq_true.mp z
  obtain⟨e,he,rfl⟩:=List.mem_map.mp h1
  have:e.1=x:=by simpa using h2
  exact h (List.mem_map.mpr ⟨e,he,this⟩)
theorem yn (es:List kz):gB (cn es)=some (gZ es):=by
 induction es with
 |nil=>rfl
 |cons e r ih=>show (gB (cn r)).map (e.1::·)=_;rw[ih];rfl
def iu (p:Int) (r:bf):Option bf:=if r.2.1=p then some (r.1,1,r.2.2)else if r.2.2=p then some (r.1,-1,r.2.1)else none
def cM (ss:List bf) (p:Int):List bf:=ss.filterMap (iu p)
theorem CW {a0:Option Slot} {p:Int} {acc:List bf} {r:bf} (hl:acc.length<=1000):
  dq [a0,some (.val (.int p)),some (.own (.lst (acc.map ay))),some (.val (.int r.1)),some (.val (.int r.2.1)),some (.val (.int r.2.2))]
   = .ok (.nx [a0,some (.val (.int p)),some (.own (.lst ((acc++(iu p r).toList).map ay))),some (.val (.int r.1)),some (.val (.int r.2.1)),some (.val (.int r.2.2))]):=by
 have l1:(acc.map ay).length<lim:=by rw[List.length_map];unfold lim;omega
 have l3:(3:Nat)<=lim:=by decide
 unfold iu
 by_cases h1:r.2.1=p
 ·simp! [dq,h1,l1,l3,Option.toList,List.map_append,List.map_cons,List.map_nil,ay]
 ·by_cases h2:r.2.2=p
  ·simp! [dq,h1,h2,l1,l3,Option.toList,List.map_append,List.map_cons,List.map_nil,ay]
  ·simp! [dq,h1,h2,Option.toList,List.append_nil]
theorem wR {a0:Option Slot} {p:Int}:∀(ss:List bf) (acc:List bf) (x3 x4 x5:Option Slot),acc.length+ss.length<=1000->
  ∃y3 y4 y5,bH (fV 3 (bc (gN 3) (bc (gN 4) (bc (gN 5) (fU))))) dq (ss.map ay) [a0,some (.val (.int p)),some (.own (.lst (acc.map ay))),x3,x4,x5]
   = .ok (.nx [a0,some (.val (.int p)),some (.own (.lst ((acc++cM ss p).map ay))),y3,y4,y5])
 |[],acc,x3,x4,x5,_=>⟨x3,x4,x5,by simp[bH,cM]⟩
 |r::ss,acc,x3,x4,x5,hl=>by
  simp only[List.length_cons]at hl
  have h1:(iu p r).toList.length<=1:=by cases iu p r<;>simp
  obtain⟨y3,y4,y5,e⟩:=wR (a0:=a0) (p:=p) ss (acc++(iu p r).toList) (some (.val (.int r.1))) (some (.val (.int r.2.1))) (some (.val (.int r.2.2))) (by rw[List.length_append];omega)
  refine⟨y3,y4,y5,?_⟩
  rw[List.map_cons,ck rfl (CW (by omega)),e]
  have:cM (r::ss) p=(iu p r).toList++cM ss p:=by
   unfold cM
   rw[List.filterMap_cons]
   cases iu p r<;>rfl
  rw[this,List.append_assoc]
theorem vG {ss:List bf} {p:Int} {sd:D} (hsd:sd= .lst (ss.map ay)\/sd= .tup (ss.map ay)) (hl:ss.length<=1000):eh [sd, .int p]= .ok (.lst ((cM ss p).map ay)):=by
 obtain⟨y3,y4,y5,e⟩:=wR (a0:=some (.val sd)) (p:=p) ss [] none none none (by simpa using hl)
 have hq:cW (au 0) [some (.val sd),some (.val (.int p)),some (.own (.lst [])),none,none,none]= .ok (ss.map ay):=by rcases hsd with rfl|rfl<;>rfl
 refine aV rfl ?_
 show jn [some (.val sd),some (.val (.int p)),none,none,none,none]=_
 unfold jn
 rw[aw (ρ':=[some (.val sd),some (.val (.int p)),some (.own (.lst [])),none,none,none]) (by simp! []),aw ((dH hq).trans e)]
 simp! []
theorem yo (ss:List bf) (p:Int):(cM ss p).length<=ss.length:=List.length_filterMap_le _ _
def CY (ss:List bf) (u n d q:Int):Prop:=∃r∈ss,r.1=n/\((d=1/\r.2.1=u/\r.2.2=q)\/(d= -1/\r.2.2=u/\r.2.1=q))
theorem Fp {ss:List bf} {p:Int} {st:bf} (h:st∈cM ss p):CY ss p st.1 st.2.1 st.2.2:=by
 obtain⟨r,hr,e⟩:=List.mem_filterMap.mp h
 unfold iu at e
 split at e
 ·rename_i h1
  cases e
  exact⟨r,hr,rfl, .inl ⟨rfl,h1,rfl⟩⟩
 ·split at e
  ·rename_i h1 h2
   cases e
   exact⟨r,hr,rfl, .inr ⟨rfl,h2,rfl⟩⟩
  ·cases e
theorem CY.adj {ss:List bf} {u n d q:Int} (h:CY ss u n d q):Bo ss u q:=by
 obtain⟨r,hr,_,h|h⟩:=h
 ·exact⟨r,hr, .inl ⟨h.2.1,h.2.2⟩⟩
 ·exact⟨r,hr, .inr ⟨h.2.1,h.2.2⟩⟩
theorem yp {ss:List bf} {p c:Int} (h:Bo ss p c):c=p\/∃st∈cM ss p,st.2.2=c:=by
 obtain⟨r,hr,h|h⟩:=h
 ·exact .inr ⟨(r.1,1,r.2.2),List.mem_filterMap.mpr ⟨r,hr,by unfold iu;rw[if_pos h.1]⟩,h.2⟩
 ·by_cases e:r.2.1=p
  ·exact .inl (by rw[<-h.2];exact e)
  ·exact .inr ⟨(r.1,-1,r.2.1),List.mem_filterMap.mpr ⟨r,hr,by unfold iu;rw[if_neg e,if_pos h.1]⟩,h.2⟩
inductive iw (ss:List bf) (p:Int):List kz->Prop
 |one:iw ss p [(p,none)]
 |snoc {es:List kz} {q u n d:Int}:iw ss p es->u∈gZ es->q∉gZ es->CY ss u n d q->iw ss p (es++[(q,some (u,n,d))])
theorem eS (es:List kz) (e:kz):gZ (es++[e])=gZ es++[e.1]:=by simp[gZ]
theorem iw.nd {ss:List bf} {p:Int} {es:List kz} (h:iw ss p es):(gZ es).Nodup:=by
 induction h with
 |one=>simp[gZ]
 |snoc _ _ hq _ ih=>
  rw[eS]
  refine List.nodup_append.mpr ⟨ih,by simp,fun a ha b hb=> ?_⟩
  have:b=_:=List.mem_singleton.mp hb
  subst this
  intro z;subst z;exact hq ha
theorem iw.tied {ss:List bf} {p:Int} {es:List kz} (h:iw ss p es):∀q∈gZ es,kE ss p q:=by
 induction h with
 |one=>
  intro q hq
  have:q=p:=by simpa[gZ]using hq
  rw[this];exact .refl
 |snoc _ hu _ hs ih=>
  intro x hx
  rw[eS]at hx
  rcases List.mem_append.mp hx with hx|hx
  ·exact ih x hx
  ·have:x=_:=List.mem_singleton.mp hx
   rw[this]
   exact .step (ih _ hu) hs.adj
theorem iw.here {ss:List bf} {p:Int} {es:List kz} (h:iw ss p es):p∈gZ es:=by
 induction h with
 |one=>simp[gZ]
 |snoc _ _ _ _ ih=>rw[eS];exact List.mem_append_left _ ih
def ju (u:Int) (s:List kz×List Int) (st:bf):List kz×List Int:=if st.2.2∈gZ s.1 then s else (s.1++[(st.2.2,some (u,st.1,st.2.1))],s.2++[st.2.2])
def fu (u:Int) (sts:List bf) (s:List kz×List Int):List kz×List Int:=sts.foldl (ju u) s
theorem CZ {a0 a1:Option Slot} {u:Int} {es:List kz} {w:List Int} {st:bf} (h1:es.length<=1000) (h2:w.length<=1000):
  d4 [a0,a1,some (.own (.dic (cn es))),some (.own (.lst (w.map .int))),some (.val (.int u)),some (.val (.int st.1)),some (.val (.int st.2.1)),some (.val (.int st.2.2))]
   = .ok (.nx [a0,a1,some (.own (.dic (cn (ju u (es,w) st).1))),some (.own (.lst ((ju u (es,w) st).2.map .int))),some (.val (.int u)),some (.val (.int st.1)),some (.val (.int st.2.1)),some (.val (.int st.2.2))]):=by
 have hin:eG true (.int st.2.2) (.dic (cn es))=some (.bl (!decide (st.2.2∈gZ es))):=by
  show some (D.bl (if true then !(bV (cn es) (Sum.inl st.2.2)).isSome else (bV (cn es) (Sum.inl st.2.2)).isSome))=_
  rw[u8];rfl
 have l1:(w.map D.int).length<lim:=by rw[List.length_map];unfold lim;omega
 have l2:(cn es).length<lim:=by unfold cn;rw[List.length_map];unfold lim;omega
 have l3:(2:Nat)<=lim:=by decide
 unfold ju
 by_cases h:st.2.2∈gZ es
 ·simp! [d4,hin,h]
 ·have hp:=A_ es st.2.2 (some (u,st.1,st.2.1)) h
  simp only[qf]at hp
  simp! [d4,hin,h,oP,cF,l1,l2,l3,hp,List.map_append,List.map_cons,List.map_nil]
theorem u9 (u:Int) (s:List kz×List Int) (st:bf):(ju u s st).1.length<=s.1.length+1/\(ju u s st).2.length<=s.2.length+1/\(ju u s st).1.length+s.2.length=s.1.length+(ju u s st).2.length/\s.1.length<=(ju u s st).1.length:=by
 unfold ju
 split
 ·exact⟨by omega,by omega,by omega,by omega⟩
 ·simp;omega
theorem wU {a0 a1:Option Slot} {u:Int}:∀(sts:List bf) (s:List kz×List Int) (x5 x6 x7:Option Slot),s.1.length+sts.length<=500->s.2.length+sts.length<=500->
  ∃y5 y6 y7,bH (fV 3 (bc (gN 5) (bc (gN 6) (bc (gN 7) (fU))))) d4 (sts.map ay) [a0,a1,some (.own (.dic (cn s.1))),some (.own (.lst (s.2.map .int))),some (.val (.int u)),x5,x6,x7]
   = .ok (.nx [a0,a1,some (.own (.dic (cn (fu u sts s).1))),some (.own (.lst ((fu u sts s).2.map .int))),some (.val (.int u)),y5,y6,y7])
 |[],s,x5,x6,x7,_,_=>⟨x5,x6,x7,rfl⟩
 |st::sts,s,x5,x6,x7,h1,h2=>by
  simp only[List.length_cons]at h1 h2
  obtain⟨q1,q2,_,_⟩:=u9 u s st
  obtain⟨y5,y6,y7,e⟩:=wU (a0:=a0) (a1:=a1) (u:=u) sts (ju u s st) (some (.val (.int st.1))) (some (.val (.int st.2.1))) (some (.val (.int st.2.2))) (by omega) (by omega)
  exact⟨y5,y6,y7,by rw[List.map_cons,ck rfl (CZ (by omega) (by omega)),e];rfl⟩
structure yy (ss:List bf) (p:Int) (s:List kz×List Int) (skip:Int->Prop):Prop where
 ok:iw ss p s.1
 sub:∀x∈s.2,x∈gZ s.1
 cl:∀b∈gZ s.1,b∉s.2->¬skip b->∀c,Bo ss b c->c∈gZ s.1
theorem yy.add {ss:List bf} {p:Int} {s:List kz×List Int} {skip:Int->Prop} (b:yy ss p s skip) {u:Int} (hu:u∈gZ s.1) {st:bf} (hs:CY ss u st.1 st.2.1 st.2.2):
  yy ss p (ju u s st) skip/\st.2.2∈gZ (ju u s st).1/\∀x∈gZ s.1,x∈gZ (ju u s st).1:=by
 unfold ju
 split
 ·rename_i h
  exact⟨b,h,fun x hx=>hx⟩
 ·rename_i h
  refine⟨⟨.snoc b.ok hu h hs,fun x hx=> ?_,fun x hx hw hk c hc=> ?_⟩,by rw[eS];exact List.mem_append_right _ (by simp),fun x hx=>by rw[eS];exact List.mem_append_left _ hx⟩
  ·rw[eS]
   rcases List.mem_append.mp hx with hx|hx
   ·exact List.mem_append_left _ (b.sub x hx)
   ·exact List.mem_append_right _ hx
  ·rw[eS]at hx ⊢
   rcases List.mem_append.mp hx with hx|hx
   ·exact List.mem_append_left _ (b.cl x hx (fun z=>hw (List.mem_append_left _ z)) hk c hc)
   ·exact absurd (List.mem_append_right _ hx) hw
theorem yy.all {ss:List bf} {p u:Int} {skip:Int->Prop}:∀{sts:List bf} {s:List kz×List Int},(∀st∈sts,CY ss u st.1 st.2.1 st.2.2)->u∈gZ s.1->yy ss p s skip->
  yy ss p (fu u sts s) skip/\(∀st∈sts,st.2.2∈gZ (fu u sts s).1)/\∀x∈gZ s.1,x∈gZ (fu u sts s).1
 |[],s,_,_,b=>⟨b,fun st h=>by(cases h),fun x hx=>hx⟩
 |st::sts,s,h,hu,b=>by
  obtain⟨b1,b2,b3⟩:=b.add hu (h st List.mem_cons_self)
  obtain⟨c1,c2,c3⟩:=yy.all (sts:=sts) (fun x hx=>h x (List.mem_cons_of_mem _ hx)) (b3 u hu) b1
  refine⟨c1,fun x hx=> ?_,fun x hx=>c3 x (b3 x hx)⟩
  rcases List.mem_cons.mp hx with rfl|hx
  ·exact c3 _ b2
  ·exact c2 x hx
theorem pM (u:Int):∀(sts:List bf) (s:List kz×List Int),(fu u sts s).1.length+s.2.length=s.1.length+(fu u sts s).2.length/\s.1.length<=(fu u sts s).1.length
 |[],s=>⟨rfl,Nat.le_refl _⟩
 |st::sts,s=>by
  obtain⟨_,_,h3,h4⟩:=u9 u s st
  obtain⟨g1,g2⟩:=pM u sts (ju u s st)
  show (fu u sts (ju u s st)).1.length+s.2.length=s.1.length+(fu u sts (ju u s st)).2.length/\s.1.length<=(fu u sts (ju u s st)).1.length
  omega
theorem B0 {n:Nat} {ss:List bf} {p:Int} {sd:D} (hsd:sd= .lst (ss.map ay)\/sd= .tup (ss.map ay)) (hl:ss.length<=100) (g:vF n ss) (hn:n<=7) (hp:0<=p/\p<=n) (a1:Option Slot):
  ∀(m:Nat) (s:List kz×List Int) (x4 x5 x6 x7:Option Slot),yy ss p s (fun _=>False)->9+s.2.length<=m+s.1.length->s.2.length<=s.1.length->
  ∃es y4 y5 y6 y7,cz (fT (f2 we (cU eW (aa (af 3) (aj))) (fC (.int 0)))) d5 (m+1) [some (.val sd),a1,some (.own (.dic (cn s.1))),some (.own (.lst (s.2.map .int))),x4,x5,x6,x7]
   = .ok (.nx [some (.val sd),a1,some (.own (.dic (cn es))),some (.own (.lst [])),y4,y5,y6,y7])/\iw ss p es/\∀b∈gZ es,∀c,Bo ss b c->c∈gZ es:=by
 have bound:∀es,iw ss p es->es.length<=8:=fun es h=>by
  have:=i4 (n+1) h.nd fun x hx=>by have:=(h.tied x hx).range g hp;omega
  unfold gZ at this
  rw[List.length_map]at this
  omega
 intro m
 induction m with
 |zero=>intro s x4 x5 x6 x7 b h _;have:=bound _ b.ok;omega
 |succ m ih=>
  intro s x4 x5 x6 x7 b h hws
  obtain⟨es,w⟩:=s
  cases w with
  |nil=>
   refine⟨es,x4,x5,x6,x7,mR rfl,b.ok,fun q hq c hc=>b.cl q hq (by simp) (fun z=>z) c hc⟩
  |cons u w=>
   have hu:u∈gZ es:=b.sub u List.mem_cons_self
   have b1:yy ss p (es,w) (fun q=>q=u):=⟨b.ok,fun x hx=>b.sub x (List.mem_cons_of_mem _ hx),fun q hq hw hk c hc=>b.cl q hq (fun z=>(List.mem_cons.mp z).elim hk hw) (fun z=>z) c hc⟩
   obtain⟨c1,c2,c3⟩:=yy.all (sts:=cM ss u) (fun st hst=>Fp hst) hu b1
   have hlen:=pM u (cM ss u) (es,w)
   have hb8:es.length<=8:=bound _ b.ok
   have hb8':=bound _ c1.ok
   have hsl:=yo ss u
   simp only[List.length_cons]at h hws
   have hw9:w.length<=200:=by omega
   obtain⟨y5,y6,y7,e⟩:=wU (a0:=some (.val sd)) (a1:=a1) (u:=u) (cM ss u) (es,w) x5 x6 x7 (by show es.length+_<=500;omega) (by show w.length+_<=500;omega)
   have hpop:zK 4 3 (fC (.int 0)) [some (.val sd),a1,some (.own (.dic (cn es))),some (.own (.lst ((u::w).map .int))),x4,x5,x6,x7]= .ok (.nx [some (.val sd),a1,some (.own (.dic (cn es))),some (.own (.lst (w.map .int))),some (.val (.int u)),x5,x6,x7]):=by
    have hi:seqIndex? 0 ((w.map D.int).length+1)=some 0:=by
     unfold seqIndex?
     simp
    have hz:Int.natAbs 0<=lim:=Nat.zero_le _
    simp! [zK,hi,hz,List.map_cons,List.eraseIdx_cons_zero]
   have hcall:cW (aE eh 2 (aa (au 0) (aa (au 4) (aj)))) [some (.val sd),a1,some (.own (.dic (cn es))),some (.own (.lst (w.map .int))),some (.val (.int u)),x5,x6,x7]= .ok ((cM ss u).map ay):=by
    simp! [vG hsd (show ss.length<=1000 by omega)]
   have hbody:d5 [some (.val sd),a1,some (.own (.dic (cn es))),some (.own (.lst ((u::w).map .int))),x4,x5,x6,x7]= .ok (.nx [some (.val sd),a1,some (.own (.dic (cn (fu u (cM ss u) (es,w)).1))),some (.own (.lst ((fu u (cM ss u) (es,w)).2.map .int))),some (.val (.int u)),y5,y6,y7]):=by
    unfold d5
    rw[aw hpop,dH hcall,e]
   have htest:fT (f2 we (cU eW (aa (af 3) (aj))) (fC (.int 0))) [some (.val sd),a1,some (.own (.dic (cn es))),some (.own (.lst ((u::w).map .int))),x4,x5,x6,x7]= .ok true:=by
    simp! [List.map_cons]
    simp
   have b2:yy ss p (fu u (cM ss u) (es,w)) (fun _=>False):=⟨c1.ok,c1.sub,fun q hq hw _ c hc=>by
    by_cases hqu:q=u
    ·subst hqu
     rcases yp hc with rfl|⟨st,hst,rfl⟩
     ·exact hq
     ·exact c2 st hst
    ·exact c1.cl q hq hw hqu c hc⟩
   obtain⟨es',z4,z5,z6,z7,e',r1,r2⟩:=ih (fu u (cM ss u) (es,w)) (some (.val (.int u))) y5 y6 y7 b2 (by
    have:=hlen.1
    simp only at this
    omega) (by
    have:=hlen.1
    simp only at this
    omega)
   exact⟨es',z4,z5,z6,z7,by rw[lg htest hbody];exact e',r1,r2⟩
theorem ua {n:Nat} {ss:List bf} {p:Int} {sd:D} (hsd:sd= .lst (ss.map ay)\/sd= .tup (ss.map ay)) (hl:ss.length<=100) (g:vF n ss) (hn:n<=7) (hp:0<=p/\p<=n):
  ∃es:List kz,bN [sd, .int p]= .ok (.dic (cn es))/\iw ss p es/\∀q,q∈gZ es<->kE ss p q:=by
 have b0:yy ss p ([(p,none)],[p]) (fun _=>False):=⟨.one,fun x hx=>by simpa[gZ]using hx,fun b hb hw=>absurd (by simpa[gZ]using hb) hw⟩
 obtain⟨es,y4,y5,y6,y7,e,h1,h2⟩:=B0 hsd hl g hn hp (some (.val (.int p))) 9 ([(p,none)],[p]) none none none none b0 (by simp) (by simp)
 refine⟨es,?_,h1,fun q=>⟨h1.tied q,fun h=>pI (S:=fun q=>q∈gZ es) h1.here (fun b c hb=>h2 b hb c) h⟩⟩
 refine aV rfl ?_
 show gY [some (.val sd),some (.val (.int p)),none,none,none,none,none,none]=_
 have e':cz (fT (f2 we (cU eW (aa (af 3) (aj))) (fC (.int 0)))) d5 100 [some (.val sd),some (.val (.int p)),some (.own (.dic [(Sum.inl p, .non)])),some (.own (.lst [.int p])),none,none,none,none]=_:=ie 90 e
 have hl1:(1:Nat)<=lim:=by decide
 unfold gY
 rw[aw (ρ':=[some (.val sd),some (.val (.int p)),some (.own (.dic [(Sum.inl p, .non)])),none,none,none,none,none]) (by simp! [v9,lf,cF];rfl),
  aw (ρ':=[some (.val sd),some (.val (.int p)),some (.own (.dic [(Sum.inl p, .non)])),some (.own (.lst [.int p])),none,none,none,none]) (by simp! [hl1]),aw e']
 simp! []
theorem pN (B:Int->List Int) (a:List Int):(bF B a).length<=a.length:=by
 unfold bF
 rw[List.length_map]
 exact List.length_filter_le _ _
def tbl (ps:List Int):List (a_×D):=ps.map fun p=>((Sum.inl p:a_),D.bl true)
theorem C_ (ps:List Int) (x:Int):(bV (tbl ps) (Sum.inl x)).isSome=decide (x∈ps):=by
 induction ps with
 |nil=>rfl
 |cons e r ih=>
  show (bV ((Sum.inl e,D.bl true)::tbl r) (Sum.inl x)).isSome=_
  by_cases h:e=x
  ·have:bV ((Sum.inl e,D.bl true)::tbl r) (Sum.inl x)=some (D.bl true):=by simp[bV,h]
   rw[this]
   simp[h]
  ·have h1:bV ((Sum.inl e,D.bl true)::tbl r) (Sum.inl x)=bV (tbl r) (Sum.inl x):=by simp[bV,h]
   rw[h1,ih,decide_eq_decide]
   exact⟨List.mem_cons_of_mem _,fun z=>(List.mem_cons.mp z).resolve_left (Ne.symm h)⟩
theorem D0 (ps:List Int) (x:Int) (h:x∉ps):ji (tbl ps) (Sum.inl x) (D.bl true)=tbl (ps++[x]):=by
 unfold ji
 rw[if_neg]
 ·simp[tbl]
 ·intro z
  obtain⟨kv,h1,h2⟩:=List.any_eq_true.mp z
  obtain⟨e,he,rfl⟩:=List.mem_map.mp h1
  have:e=x:=by simpa using h2
  exact h (this▸he)
theorem qV {a0 a1 a2 a4 a5:Option Slot}:∀(xs pl:List Int) (x6:Option Slot),(pl++xs).Nodup->(pl++xs).length<=1000->
  ∃y6,bH (gN 6) eN (xs.map .int) [a0,a1,a2,some (.own (.dic (tbl pl))),a4,a5,x6]= .ok (.nx [a0,a1,a2,some (.own (.dic (tbl (pl++xs)))),a4,a5,y6])
 |[],pl,x6,_,_=>⟨x6,by simp[bH]⟩
 |x::xs,pl,x6,hn,hl=>by
  have hx:x∉pl:=fun z=>by
   obtain⟨_,_,h⟩:=List.nodup_append.mp hn
   exact h x z x List.mem_cons_self rfl
  obtain⟨y6,e⟩:=qV (a0:=a0) (a1:=a1) (a2:=a2) (a4:=a4) (a5:=a5) xs (pl++[x]) (some (.val (.int x))) (by simpa using hn) (by simpa using hl)
  have l1:(tbl pl).length<lim:=by
   unfold tbl
   rw[List.length_map]
   rw[List.length_append,List.length_cons]at hl
   unfold lim
   omega
  have es:eN [a0,a1,a2,some (.own (.dic (tbl pl))),a4,a5,some (.val (.int x))]= .ok (.nx [a0,a1,a2,some (.own (.dic (tbl (pl++[x])))),a4,a5,some (.val (.int x))]):=by
   simp! [eN,oP,cF,l1,D0 pl x hx]
  refine⟨y6,?_⟩
  rw[List.map_cons,ck rfl es,e]
  simp
structure Pl (ss:List bf) (ps pl:List Int):Prop where
 nd:pl.Nodup
 mem:∀x,x∈pl<->∃p∈ps,kE ss p x
theorem B1 {n:Nat} {ss:List bf} {sd:D} (hsd:sd= .lst (ss.map ay)\/sd= .tup (ss.map ay)) (hs:ss.length<=100) (g:vF n ss) (hn:n<=7) {B:Int->List Int} (hB:∀p:Int,0<=p/\p<=n->o1 ss p (B p))
  {a0 x5 x6:Option Slot} {acc:List (List Int)} {ps pl:List Int} {p:Int} (hp:0<=p/\p<=n) (hps:∀q,q∈ps<->0<=q/\q<p) (P:Pl ss ps pl) (hl:acc.length<=100):
  ∃pl' y5 y6,eO [a0,some (.val sd),some (.own (.lst (acc.map bD))),some (.own (.dic (tbl pl))),some (.val (.int p)),x5,x6]
   = .ok (.nx [a0,some (.val sd),some (.own (.lst ((acc++bF B [p]).map bD))),some (.own (.dic (tbl pl'))),some (.val (.int p)),y5,y6])/\Pl ss (ps++[p]) pl':=by
 have hin:eG true (.int p) (.dic (tbl pl))=some (.bl (!decide (p∈pl))):=by
  show some (D.bl (if true then !(bV (tbl pl) (Sum.inl p)).isSome else (bV (tbl pl) (Sum.inl p)).isSome))=_
  rw[C_];rfl
 obtain⟨x,r,hx,htx,hleast⟩:=(hB p hp).head
 have hlb:=(hB p hp).len g hn hp
 have hxr:=htx.range g hp
 by_cases hin':p∈pl
 ·
  obtain⟨q,hq,hqt⟩:=(P.mem p).mp hin'
  have hqp:=(hps q).mp hq
  have hne:x≠p:=fun z=>by have:=hleast q hqt.symm;omega
  have h0:bF B [p]=[]:=by simp[bF,List.filter_cons,hx,hne]
  refine⟨pl,x5,x6,?_,P.nd,fun y=> ?_⟩
  ·rw[h0,List.append_nil]
   simp only[eO,eM,bi,fT,f2,af,ax,cJ,List.getElem?_cons_zero,List.getElem?_cons_succ,lQ,oX,hin,hin',decide_true,Bool.not_true,Bool.false_eq_true,if_false]
  ·rw[P.mem y]
   constructor
   ·rintro⟨z,hz,ht⟩;exact⟨z,List.mem_append_left _ hz,ht⟩
   ·rintro⟨z,hz,ht⟩
    rcases List.mem_append.mp hz with hz|hz
    ·exact⟨z,hz,ht⟩
    ·rw[List.mem_singleton.mp hz]at ht
     exact⟨q,hq,hqt.trans ht⟩
 ·have hep:x=p:=by
   have h1:=hleast p .refl
   by_cases hlt:x<p
   ·exact absurd ((P.mem p).mpr ⟨x,(hps x).mpr ⟨hxr.1,hlt⟩,htx.symm⟩) hin'
   ·omega
  have h0:bF B [p]=[B p]:=by simp[bF,List.filter_cons,hx,hep]
  obtain⟨es,he,hok,hm⟩:=ua (p:=p) hsd hs g hn hp
  have hb:cI (gZ es)=B p:=(pL hm hok.nd).uniq (hB p hp)
  have hsl:(gZ es).length<64:=by have:=(eV (gZ es)).length_eq;rw[hb]at this;omega
  have hso:fM [.dic (cn es)]=some (.lst ((B p).map .int)):=by
   show ((gB (cn es)).bind fun ns=>if ns.length<64 then some (D.lst ((cI ns).map .int))else none)=_
   rw[yn]
   show (if (gZ es).length<64 then some (D.lst ((cI (gZ es)).map .int))else none)=_
   rw[if_pos hsl,hb]
  replace hso:cA [.dic (cn es)]=some (.lst ((B p).map .int)):=by unfold cA;rw[hso]
  have hnd:(pl++B p).Nodup:=List.nodup_append.mpr ⟨P.nd,(hB p hp).nd,fun a ha b hb' z=>by
   subst z
   obtain⟨q,hq,hqt⟩:=(P.mem a).mp ha
   exact hin' ((P.mem p).mpr ⟨q,hq,hqt.trans (((hB p hp).mem a).mp hb').symm⟩)⟩
  have hpl8:pl.length<=8:=Nat.le_trans (i4 (n+1) P.nd fun y hy=>by
   obtain⟨q,hq,hqt⟩:=(P.mem y).mp hy
   have hq':=(hps q).mp hq
   have:=hqt.range g (by omega)
   omega) (by omega)
  obtain⟨y6,em⟩:=qV (a0:=a0) (a1:=some (.val sd)) (a2:=some (.own (.lst ((acc++[B p]).map bD)))) (a4:=some (.val (.int p))) (a5:=some (.val (.lst ((B p).map .int)))) (B p) pl x6 hnd (by rw[List.length_append];omega)
  have l1:(acc.map bD).length<lim:=by rw[List.length_map];unfold lim;omega
  refine⟨pl++B p,some (.val (.lst ((B p).map .int))),y6,?_,hnd,fun y=> ?_⟩
  ·rw[h0]
   have s1:aT (cU cA (aa (aE bN 2 (aa (au 1) (aa (au 4) (aj)))) (aj))) (gN 5) [a0,some (.val sd),some (.own (.lst (acc.map bD))),some (.own (.dic (tbl pl))),some (.val (.int p)),x5,x6]
     = .ok (.nx [a0,some (.val sd),some (.own (.lst (acc.map bD))),some (.own (.dic (tbl pl))),some (.val (.int p)),some (.val (.lst ((B p).map .int))),x6]):=by simp! [he,hso]
   have s2:jD 2 (cU c_ (aa (af 5) (aj))) [a0,some (.val sd),some (.own (.lst (acc.map bD))),some (.own (.dic (tbl pl))),some (.val (.int p)),some (.val (.lst ((B p).map .int))),x6]
     = .ok (.nx [a0,some (.val sd),some (.own (.lst ((acc++[B p]).map bD))),some (.own (.dic (tbl pl))),some (.val (.int p)),some (.val (.lst ((B p).map .int))),x6]):=by
    simp! [l1,List.map_append,List.map_cons,List.map_nil,bD]
   have s3:fF (cW (au 5)) (gN 6) eN [a0,some (.val sd),some (.own (.lst ((acc++[B p]).map bD))),some (.own (.dic (tbl pl))),some (.val (.int p)),some (.val (.lst ((B p).map .int))),x6]
     = .ok (.nx [a0,some (.val sd),some (.own (.lst ((acc++[B p]).map bD))),some (.own (.dic (tbl (pl++B p)))),some (.val (.int p)),some (.val (.lst ((B p).map .int))),y6]):=(dH rfl).trans em
   have tst:fT (f2 (eG true) (af 4) (af 3)) [a0,some (.val sd),some (.own (.lst (acc.map bD))),some (.own (.dic (tbl pl))),some (.val (.int p)),x5,x6]= .ok true:=by
    simp! [hin,hin']
   unfold eO eM
   rw[tst,ax,if_pos rfl,aw s1,aw s2,s3]
  ·rw[List.mem_append,P.mem y,(hB p hp).mem y]
   constructor
   ·rintro(⟨z,hz,ht⟩|ht)
    ·exact⟨z,List.mem_append_left _ hz,ht⟩
    ·exact⟨p,List.mem_append_right _ (by simp),ht⟩
   ·rintro⟨z,hz,ht⟩
    rcases List.mem_append.mp hz with hz|hz
    ·exact .inl ⟨z,hz,ht⟩
    ·rw[List.mem_singleton.mp hz]at ht
     exact .inr ht
theorem ub {n:Nat} {ss:List bf} {sd:D} (hsd:sd= .lst (ss.map ay)\/sd= .tup (ss.map ay)) (hs:ss.length<=100) (g:vF n ss) (hn:n<=7) {B:Int->List Int} (hB:∀p:Int,0<=p/\p<=n->o1 ss p (B p)) {a0:Option Slot}:
  ∀(j k:Nat) (acc:List (List Int)) (pl:List Int) (x4 x5 x6:Option Slot),k+j=n+1->Pl ss ((List.range k).map fun i:Nat=>(i:Int)) pl->acc.length<=k->
  ∃pl' y4 y5 y6,bH (gN 4) eO (((List.range' k j).map fun i:Nat=>(i:Int)).map .int) [a0,some (.val sd),some (.own (.lst (acc.map bD))),some (.own (.dic (tbl pl))),x4,x5,x6]
   = .ok (.nx [a0,some (.val sd),some (.own (.lst ((acc++bF B ((List.range' k j).map fun i:Nat=>(i:Int))).map bD))),some (.own (.dic (tbl pl'))),y4,y5,y6])
 |0,k,acc,pl,x4,x5,x6,_,_,_=>⟨pl,x4,x5,x6,by simp[bH,bF]⟩
 |j+1,k,acc,pl,x4,x5,x6,hk,P,ha=>by
  obtain⟨pl1,z5,z6,es,P1⟩:=B1 hsd hs g hn hB (a0:=a0) (x5:=x5) (x6:=x6) (acc:=acc) (ps:=(List.range k).map fun i:Nat=>(i:Int)) (p:=(k:Int)) (by omega) (fun q=>by
   constructor
   ·intro hq
    obtain⟨i,hi,rfl⟩:=List.mem_map.mp hq
    have:=List.mem_range.mp hi
    omega
   ·rintro⟨h1,h2⟩
    exact List.mem_map.mpr ⟨q.toNat,List.mem_range.mpr (by omega),by omega⟩) P (by omega)
  have h1:=pN B [(k:Int)]
  simp only[List.length_cons,List.length_nil]at h1
  obtain⟨pl',y4,y5,y6,e⟩:=ub hsd hs g hn hB (a0:=a0) j (k+1) (acc++bF B [(k:Int)]) pl1 (some (.val (.int (k:Int)))) z5 z6 (by omega) (by rw[List.range_succ,List.map_append];exact P1) (by rw[List.length_append];omega)
  refine⟨pl',y4,y5,y6,?_⟩
  rw[List.range'_succ,List.map_cons,List.map_cons,ck rfl es,e,List.append_assoc,<-kR]
  rfl
theorem rW (n:Nat):[(0:Int)]++fX 1 ((n:Int)+1)=(List.range' 0 (n+1)).map fun i:Nat=>(i:Int):=by
 unfold fX
 rw[show ((n:Int)+1 - 1).toNat=n by omega,List.range'_succ,List.map_cons,List.range_eq_range']
 rw[List.range'_eq_map_range,List.range'_eq_map_range,List.map_map,List.map_map]
 refine congrArg (List.cons (0:Int)) (List.map_congr_left fun k _=> ?_)
 show (1:Int)+((0+k:Nat):Int)=((0+1+k:Nat):Int)
 omega
theorem mx {n:Nat} {ss:List bf} {sd:D} (hsd:sd= .lst (ss.map ay)\/sd= .tup (ss.map ay)) (hs:ss.length<=100) (g:vF n ss) (hn:n<=7) {B:Int->List Int} (hB:∀p:Int,0<=p/\p<=n->o1 ss p (B p)):
  cu [.int (n:Int),sd]= .ok (.tup ((bF B ((List.range (n+1)).map fun i:Nat=>(i:Int))).map bD)):=by
 obtain⟨pl',y4,y5,y6,e⟩:=ub hsd hs g hn hB (a0:=some (.val (.int (n:Int)))) (n+1) 0 [] [] none none none (by omega) ⟨List.nodup_nil,fun x=>by simp⟩ (by simp)
 have h1:(1:Int).natAbs<=lim:=by decide
 have h2:((n:Int)+1).natAbs<=lim:=by unfold lim;omega
 have hl1:(1:Nat)<=lim:=by decide
 have hrl:(fX 1 ((n:Int)+1)).length<=8:=by
  unfold fX
  rw[List.length_map,List.length_range]
  omega
 have hq:cW (f2 cH (iM (aa (fC (.int 0)) (aj))) (jk (aa (fC (.int 1)) (aa (f2 cH (af 0) (fC (.int 1))) (aj))))) [some (.val (.int (n:Int))),some (.val sd),some (.own (.lst [])),some (.own (.dic [])),none,none,none]
   = .ok (((List.range' 0 (n+1)).map fun i:Nat=>(i:Int)).map .int):=by
  have hadd:cH (.lst [.int 0]) (.lst ((fX 1 ((n:Int)+1)).map .int))=some (.lst (((List.range' 0 (n+1)).map fun i:Nat=>(i:Int)).map .int)):=by
   rw[ER (by rw[List.length_map];simp only[List.length_cons,List.length_nil];unfold lim;omega),<-rW]
   rfl
  simp! [jk,h1,h2,hl1,and_self,hadd]
 refine aV rfl ?_
 show jp [some (.val (.int (n:Int))),some (.val sd),none,none,none,none,none]=_
 unfold jp
 rw[aw (ρ':=[some (.val (.int (n:Int))),some (.val sd),some (.own (.lst [])),none,none,none,none]) (by simp! []),
  aw (ρ':=[some (.val (.int (n:Int))),some (.val sd),some (.own (.lst [])),some (.own (.dic [])),none,none,none]) rfl,aw ((dH hq).trans e)]
 simp! [List.range_eq_range']
def lx (s t:Int) (g:List Int):Int:=if decide (s∈g)=decide (t∈g)then 0 else if t∈g then 1 else -1
theorem B2 (n s t:Int) (g:List Int):db [.tup [.int n, .int s, .int t], .lst (g.map .int)]= .ok (.int (lx s t g)):=by
 have i1:L2.atI [D.int n, .int s, .int t] 1=some (.int s):=rfl
 have i2:L2.atI [D.int n, .int s, .int t] 2=some (.int t):=rfl
 refine aV rfl ?_
 show ii [some (.val (.tup [.int n, .int s, .int t])),some (.val (.lst (g.map .int))),none,none]=_
 by_cases a:s∈g<;>by_cases b:t∈g<;>simp only[ii,aA,aT,gN,eM,bM,bi,fT,Gn,i7,f2,f1,af,fC,ax,cJ,List.getElem?_cons_zero,List.getElem?_cons_succ,List.set_cons_zero,List.set_cons_succ,Slot.data,wl,i1,i2,qD,zX,vb,a,b,decide_true,decide_false,jR,if_true,if_false,Bool.false_eq_true,lx,reduceCtorEq,Bool.true_eq_false]
theorem D1 (n s t:Int) (g:List Int):db [.tup [.int n, .int s, .int t], .tup (g.map .int)]= .ok (.int (lx s t g)):=by
 have i1:L2.atI [D.int n, .int s, .int t] 1=some (.int s):=rfl
 have i2:L2.atI [D.int n, .int s, .int t] 2=some (.int t):=rfl
 refine aV rfl ?_
 show ii [some (.val (.tup [.int n, .int s, .int t])),some (.val (.tup (g.map .int))),none,none]=_
 by_cases a:s∈g<;>by_cases b:t∈g<;>simp only[ii,aA,aT,gN,eM,bM,bi,fT,Gn,i7,f2,f1,af,fC,ax,cJ,List.getElem?_cons_zero,List.getElem?_cons_succ,List.set_cons_zero,List.set_cons_succ,Slot.data,wl,i1,i2,Gz,zX,vb,a,b,decide_true,decide_false,jR,if_true,if_false,Bool.false_eq_true,lx,reduceCtorEq,Bool.true_eq_false]
theorem qW {g:D->ai->R ai} {gt:ai->R Bool} {fe:ai->R D} {d y:D} {r:List D} {τ τ1:ai} (h1:g d τ= .ok τ1) (h2:gt τ1= .ok true) (h3:fe τ1= .ok y):eA g gt fe (d::r) τ=(eA g gt fe r τ1>>=fun ys=> .ok (y::ys)):=by
 rw[eA,h1,ax,h2,ax,if_pos rfl,h3,ax]
def br (am:Int->Int) (g:List Int) (ss:List bf):Int:=(ss.map fun r=>lx r.2.1 r.2.2 g*am r.1).sum
theorem B3 (s t:Int) (g:List Int):(lx s t g).natAbs<18446744073709551616:=by
 unfold lx
 split
 ·decide
 ·split<;>decide
theorem wV {gd:D} {gi:List Int} {ps:List (Int×Int)} (hg:gd= .lst (gi.map .int)\/gd= .tup (gi.map .int)) {z0 z2:Option Slot}:∀(ss:List bf) (x:Option Slot),
  eA (gN 1) jC (f2 pX (aE db 2 (aa (au 1) (aa (au 4) (aj)))) (nq (af 3) (f2 bT (af 1) (fC (.int 0))) (fC (.int 0)))) (ss.map ay) [z0,x,z2,some (.val (.dic (n0 ps))),some (.val gd)]
   = .ok ((ss.map fun r=>lx r.2.1 r.2.2 gi*kD ps r.1).map .int)
 |[],x=>rfl
 |r::ss,x=>by
  have hw:db [ay r,gd]= .ok (.int (lx r.2.1 r.2.2 gi)):=by
   rcases hg with rfl|rfl
   ·exact B2 r.1 r.2.1 r.2.2 gi
   ·exact D1 r.1 r.2.1 r.2.2 gi
  have h0:L2.atI [D.int r.1,D.int r.2.1,D.int r.2.2] 0=some (.int r.1):=nV (j:=0) rfl
  have ih:=wV hg (ps:=ps) (z0:=z0) (z2:=z2) ss (some (.val (ay r)))
  have e1:aE db 2 (aa (au 1) (aa (au 4) (aj))) [z0,some (.val (ay r)),z2,some (.val (.dic (n0 ps))),some (.val gd)]= .ok (.int (lx r.2.1 r.2.2 gi)):=kt rfl rfl hw
  have e2:nq (af 3) (f2 bT (af 1) (fC (.int 0))) (fC (.int 0)) [z0,some (.val (ay r)),z2,some (.val (.dic (n0 ps))),some (.val gd)]= .ok (.int (kD ps r.1)):=by
   simp! [nq,ay,h0,cF,wH]
  rw[List.map_cons,qW (τ1:=[z0,some (.val (ay r)),z2,some (.val (.dic (n0 ps))),some (.val gd)]) (y:= .int (lx r.2.1 r.2.2 gi*kD ps r.1)) rfl rfl (DB e1 e2 (va (B3 _ _ _))),ih]
  rfl
theorem B4 (a0 a1 a2 a3:Option Slot):lL ["streams","amounts","group","amount_by_number"] [(".0", .local),("stream", .local),("way_over", .globalImplicit),("amount_by_number", .free),("group", .free)] [a0,a1,a2,a3]=[none,none,none,a3.map Slot.toBor,a2.map Slot.toBor]:=by
 cases a2<;>cases a3<;>rfl
theorem my {sd pd gd:D} {ss:List bf} {ps:List (Int×Int)} {gi:List Int} (hs:sd= .lst (ss.map ay)\/sd= .tup (ss.map ay)) (hp:pd= .lst (ps.map vC)\/pd= .tup (ps.map vC)) (hg:gd= .lst (gi.map .int)\/gd= .tup (gi.map .int)) (hl:ss.length<=1000):
  cr [sd,pd,gd]= .ok (.int (br (kD ps) gi ss)):=by
 have hc:=wV hg (ps:=ps) (z0:=none) (z2:=none) ss none
 have hlim:(ss.map ay).length<=lim:=by rw[List.length_map];unfold lim;omega
 have hq:cW (au 0) [some (.val sd),some (.val pd),some (.val gd),some (.val (.dic (n0 ps)))]= .ok (ss.map ay):=by
  rcases hs with rfl|rfl<;>rfl
 refine aV rfl ?_
 show jm [some (.val sd),some (.val pd),some (.val gd),none]=_
 unfold jm
 rw[aw (ρ':=[some (.val sd),some (.val pd),some (.val gd),some (.val (.dic (n0 ps)))]) (by simp! [kg hp])]
 exact ic (jS (bQ (xQ (iD hq hlim (B4 _ _ _ _) hc)) rfl) (n4 _))
theorem qX {rd:D} {rises:List Int} (hr:rd= .lst (rises.map .int)\/rd= .tup (rises.map .int)) {z0:Option Slot}:∀(gi:List Int) (x:Option Slot),(∀t∈gi,1<=t/\t<=rises.length)->
  eA (gN 1) jC (f2 bT (af 2) (f2 gK (af 1) (fC (.int 1)))) (gi.map .int) [z0,x,some (.val rd)]= .ok ((gi.map fun t=>rises.getD (t - 1).toNat 0).map .int)
 |[],x,_=>rfl
 |t::gi,x,h=>by
  have ih:=qX hr (z0:=z0) gi (some (.val (.int t))) fun y hy=>h y (List.mem_cons_of_mem _ hy)
  have ha:=sr (h t List.mem_cons_self)
  have hix:bT rd (.int (t - 1))=some (.int (rises.getD (t - 1).toNat 0)):=by
   rcases hr with rfl|rfl<;>exact ha
  rw[List.map_cons,qW (τ1:=[z0,some (.val (.int t)),some (.val rd)]) (y:= .int (rises.getD (t - 1).toNat 0)) rfl rfl (by simp! [hix]),ih]
  rfl
theorem D3 (a0 a1:Option Slot):lL ["rises","group"] [(".0", .local),("tank", .local),("rises", .free)] [a0,a1]=[none,none,a0.map Slot.toBor]:=by
 cases a0<;>rfl
theorem qY {rd gd:D} {rises gi:List Int} (hr:rd= .lst (rises.map .int)\/rd= .tup (rises.map .int)) (hg:gd= .lst (gi.map .int)\/gd= .tup (gi.map .int)) (h:∀t∈gi,1<=t/\t<=rises.length) (hl:gi.length<=1000):
  eg [rd,gd]= .ok (.int (rs rises gi)):=by
 have hc:=qX hr (z0:=none) gi none h
 have hlim:(gi.map D.int).length<=lim:=by rw[List.length_map];unfold lim;omega
 have hq:cW (au 1) [some (.val rd),some (.val gd)]= .ok (gi.map .int):=by
  rcases hg with rfl|rfl<;>rfl
 refine aV rfl ?_
 show qL [some (.val rd),some (.val gd)]=_
 exact ic (jS (bQ (xQ (iD hq hlim (D3 _ _) hc)) rfl) (n4 _))
def d1 (am:Int->Int) (x:Int) (r:bf):Int:=(if r.2.2=x then am r.1 else 0) - (if r.2.1=x then am r.1 else 0)
theorem B5 {s t x:Int} {g:List Int} (hx:x∉g) (a:Int):lx s t (x::g)*a=((if t=x then a else 0) - (if s=x then a else 0))+lx s t g*a:=by
 have ex:∀{y:Int},y=x->y∉g:=fun h=>by rw[h];exact hx
 unfold lx
 by_cases h1:s=x<;>by_cases h2:t=x
 ·subst h1;subst h2;simp
 ·by_cases h3:t∈g<;>simp[h1,h2,h3,hx,ex h1,Int.add_left_neg]
 ·by_cases h3:s∈g<;>simp[h1,h2,h3,hx,ex h2,Int.add_right_neg]
 ·by_cases h3:s∈g<;>by_cases h4:t∈g<;>simp[h1,h2,h3,h4]
theorem wW (am:Int->Int) {x:Int} {g:List Int} (hx:x∉g):∀ss:List bf,br am (x::g) ss=(ss.map (d1 am x)).sum+br am g ss
 |[]=>rfl
 |r::ss=>by
  have ih:=wW am hx ss
  unfold br at ih ⊢
  rw[List.map_cons,List.sum_cons,ih,B5 hx,List.map_cons,List.sum_cons,List.map_cons,List.sum_cons]
  unfold d1
  omega
theorem B6 (am:Int->Int):∀ss:List bf,br am [] ss=0
 |[]=>rfl
 |r::ss=>by
  have ih:=B6 am ss
  unfold br at ih ⊢
  rw[List.map_cons,List.sum_cons,ih]
  simp[lx]
inductive Wy (ss:List bf):Int->List Int->List (Int×Int)->Int->List Int->Prop
 |nil {u:Int} {ps:List Int}:Wy ss u ps [] u ps
 |cons {u n d q v:Int} {ps qs:List Int} {st:List (Int×Int)}:CY ss u n d q->q∉ps->Wy ss q (ps++[q]) st v qs->Wy ss u ps ((n,d)::st) v qs
theorem Wy.snoc {ss:List bf} {u v n d q:Int} {ps qs:List Int} {st:List (Int×Int)} (h:Wy ss u ps st v qs) (hs:CY ss v n d q) (hq:q∉qs):Wy ss u ps (st++[(n,d)]) q (qs++[q]):=by
 induction h with
 |nil=>exact .cons hs hq .nil
 |cons a b _ ih=>exact .cons a b (ih hs hq)
theorem Wy.len {ss:List bf} {u v:Int} {ps qs:List Int} {st:List (Int×Int)} (h:Wy ss u ps st v qs):qs.length=ps.length+st.length:=by
 induction h with
 |nil=>simp
 |cons _ _ _ ih=>rw[ih];simp;omega
theorem Wy.nd {ss:List bf} {u v:Int} {ps qs:List Int} {st:List (Int×Int)} (h:Wy ss u ps st v qs) (hn:ps.Nodup):qs.Nodup:=by
 induction h with
 |nil=>exact hn
 |cons _ hq _ ih=>exact ih (List.nodup_append.mpr ⟨hn,by simp,fun a ha b hb=>by
   have:b=_:=List.mem_singleton.mp hb
   subst this
   intro z;subst z;exact hq ha⟩)
def yz (es:List kz) (q:Int):Option (Option (Int×Int×Int)):=(es.find? fun e=>decide (e.1=q)).map (·.2)
theorem D4 (es:List kz) (q:Int):bV (cn es) (Sum.inl q)=(yz es q).map qf:=by
 induction es with
 |nil=>rfl
 |cons e r ih=>
  show bV ((Sum.inl e.1,qf e.2)::cn r) (Sum.inl q)=_
  by_cases h:e.1=q
  ·simp[bV,yz,h]
  ·have h1:bV ((Sum.inl e.1,qf e.2)::cn r) (Sum.inl q)=bV (cn r) (Sum.inl q):=by simp[bV,h]
   have h2:yz (e::r) q=yz r q:=by simp[yz,h]
   rw[h1,h2,ih]
theorem D5 {es fs:List kz} {q:Int} {x:Option (Int×Int×Int)} (h:yz es q=some x):yz (es++fs) q=some x:=by
 unfold yz at h ⊢
 rw[List.find?_append]
 cases e:es.find? fun e=>decide (e.1=q)with
 |none=>rw[e]at h;cases h
 |some y=>rw[e]at h;simpa using h
theorem D6 {es:List kz} {q:Int} {x:Option (Int×Int×Int)} (h:q∉gZ es):yz (es++[(q,x)]) q=some x:=by
 unfold yz
 rw[List.find?_append]
 have:es.find? (fun e=>decide (e.1=q))=none:=List.find?_eq_none.mpr fun e he=>by
  simp only[decide_eq_true_eq]
  intro z
  exact h (List.mem_map.mpr ⟨e,he,z⟩)
 rw[this]
 simp
inductive Bk (es:List kz) (p:Int):Int->List (Int×Int)->Prop
 |nil:Bk es p p []
 |step {q u n d:Int} {st:List (Int×Int)}:q≠p->yz es q=some (some (u,n,d))->Bk es p u st->Bk es p q (st++[(n,d)])
theorem Bk.app {es fs:List kz} {p q:Int} {st:List (Int×Int)} (h:Bk es p q st):Bk (es++fs) p q st:=by
 induction h with
 |nil=>exact .nil
 |step a b _ ih=>exact .step a (D5 b) ih
theorem iw.way {ss:List bf} {p:Int} {es:List kz} (h:iw ss p es):∀q∈gZ es,∃st qs,Bk es p q st/\Wy ss p [p] st q qs/\∀x∈qs,x∈gZ es:=by
 induction h with
 |one=>
  intro q hq
  have:q=p:=by simpa[gZ]using hq
  subst this
  exact⟨[],[q], .nil, .nil,fun x hx=>by simpa[gZ]using hx⟩
 | @snoc es q u n d h hu hq hs ih=>
  intro x hx
  rw[eS]at hx
  rcases List.mem_append.mp hx with hx|hx
  ·obtain⟨st,qs,h1,h2,h3⟩:=ih x hx
   exact⟨st,qs,h1.app,h2,fun y hy=>by rw[eS];exact List.mem_append_left _ (h3 y hy)⟩
  ·have:x=q:=List.mem_singleton.mp hx
   subst this
   obtain⟨st,qs,h1,h2,h3⟩:=ih u hu
   refine⟨st++[(n,d)],qs++[x], .step (fun z=>hq (by rw[z];exact h.here)) (D6 hq) h1.app,h2.snoc hs fun z=>hq (h3 x z),fun y hy=> ?_⟩
   rw[eS]
   rcases List.mem_append.mp hy with hy|hy
   ·exact List.mem_append_left _ (h3 y hy)
   ·exact List.mem_append_right _ hy
def ut (x:Int×Int):D:= .tup [.int x.1, .int x.2]
theorem D7 {a0 a2 x6:Option Slot} {es:List kz} {p q u n d:Int} {acc:List (Int×Int)} (hl:yz es q=some (some (u,n,d))) (ha:acc.length<=100):
  ij [a0,some (.val (.int p)),a2,some (.val (.dic (cn es))),some (.own (.lst (acc.map ut))),some (.val (.int q)),x6]
   = .ok (.nx [a0,some (.val (.int p)),a2,some (.val (.dic (cn es))),some (.own (.lst ((acc++[(n,d)]).map ut))),some (.val (.int u)),some (.val (.tup [.int u,ut (n,d)]))]):=by
 have hix:bT (.dic (cn es)) (.int q)=some (.tup [.int u,ut (n,d)]):=by
  show (cF (.int q)).bind (fun key=>bV (cn es) key)=_
  show bV (cn es) (Sum.inl q)=_
  rw[D4,hl]
  rfl
 have h0:L2.atI [D.int u,ut (n,d)] 0=some (.int u):=nV (j:=0) rfl
 have h1:L2.atI [D.int u,ut (n,d)] 1=some (ut (n,d)):=nV (j:=1) rfl
 have l1:(acc.map ut).length<lim:=by rw[List.length_map];unfold lim;omega
 simp! [ij,hix,h0,h1,l1,List.map_append,List.map_cons,List.map_nil]
theorem B7 {a0 a2:Option Slot} {es:List kz} {p q:Int} {st:List (Int×Int)} (h:Bk es p q st):∀(acc:List (Int×Int)) (x6:Option Slot),acc.length+st.length<=100->
  ∃y5 y6,cz (fT (f2 wg (af 5) (af 1))) ij (st.length+1) [a0,some (.val (.int p)),a2,some (.val (.dic (cn es))),some (.own (.lst (acc.map ut))),some (.val (.int q)),x6]
   = .ok (.nx [a0,some (.val (.int p)),a2,some (.val (.dic (cn es))),some (.own (.lst ((acc++st.reverse).map ut))),y5,y6]):=by
 induction h with
 |nil=>intro acc x6 _;exact⟨some (.val (.int p)),x6,by
   rw[List.reverse_nil,List.append_nil]
   exact mR (by simp! [])⟩
 | @step q u n d st hq hl _ ih=>
  intro acc x6 ha
  rw[List.length_append]at ha
  simp only[List.length_cons,List.length_nil]at ha
  obtain⟨y5,y6,e⟩:=ih (acc++[(n,d)]) (some (.val (.tup [.int u,ut (n,d)]))) (by simp;omega)
  refine⟨y5,y6,?_⟩
  rw[show (st++[(n,d)]).length+1=st.length+1+1 by simp,lg (by simp! [hq]) (D7 hl (by omega)),e]
  simp
theorem yq {n:Nat} {ss:List bf} {p q:Int} {sd:D} (hsd:sd= .lst (ss.map ay)\/sd= .tup (ss.map ay)) (hl:ss.length<=100) (g:vF n ss) (hn:n<=7) (hp:0<=p/\p<=n):
  (¬kE ss p q/\gk [sd, .int p, .int q]= .ok .non)\/(kE ss p q/\∃st qs,gk [sd, .int p, .int q]= .ok (.tup (st.map ut))/\Wy ss p [p] st q qs/\st.length<=7):=by
 obtain⟨es,he,hok,hm⟩:=ua hsd hl g hn hp
 have hin:eG true (.int q) (.dic (cn es))=some (.bl (!decide (q∈gZ es))):=by
  show some (D.bl (if true then !(bV (cn es) (Sum.inl q)).isSome else (bV (cn es) (Sum.inl q)).isSome))=_
  rw[u8];rfl
 have s1:aT (aE bN 2 (aa (au 0) (aa (au 1) (aj)))) (gN 3) [some (.val sd),some (.val (.int p)),some (.val (.int q)),none,none,none,none]= .ok (.nx [some (.val sd),some (.val (.int p)),some (.val (.int q)),some (.val (.dic (cn es))),none,none,none]):=by simp! [he]
 by_cases hq:q∈gZ es
 ·obtain⟨st,qs,h1,h2,h3⟩:=hok.way q hq
  have hlen:=h2.len
  have hb:qs.length<=n+1:=i4 (n+1) (h2.nd (by simp)) fun x hx=>by
   have:=(hok.tied x (h3 x hx)).range g hp
   omega
  simp only[List.length_cons,List.length_nil]at hlen
  refine .inr ⟨(hm q).mp hq,st,qs,?_,h2,by omega⟩
  obtain⟨y5,y6,e⟩:=B7 (a0:=some (.val sd)) (a2:=some (.val (.int q))) h1 [] none (by simp;omega)
  rw[List.nil_append]at e
  have e':cz (fT (f2 wg (af 5) (af 1))) ij 100 [some (.val sd),some (.val (.int p)),some (.val (.int q)),some (.val (.dic (cn es))),some (.own (.lst [])),some (.val (.int q)),none]
    = .ok (.nx [some (.val sd),some (.val (.int p)),some (.val (.int q)),some (.val (.dic (cn es))),some (.own (.lst (st.reverse.map ut))),y5,y6]):=by
   have:=ie (99 - st.length) e
   rwa [show st.length+1+(99 - st.length)=100 by omega]at this
  refine aV rfl ?_
  show j6 [some (.val sd),some (.val (.int p)),some (.val (.int q)),none,none,none,none]=_
  unfold j6
  rw[aw s1,aw (ρ':=[some (.val sd),some (.val (.int p)),some (.val (.int q)),some (.val (.dic (cn es))),none,none,none]) (by simp! [hin,hq]),
   aw (ρ':=[some (.val sd),some (.val (.int p)),some (.val (.int q)),some (.val (.dic (cn es))),some (.own (.lst [])),none,none]) (by simp! []),
   aw (ρ':=[some (.val sd),some (.val (.int p)),some (.val (.int q)),some (.val (.dic (cn es))),some (.own (.lst [])),some (.val (.int q)),none]) (by simp! []),aw e']
  simp! [rS]
  rw[<-List.map_reverse,List.reverse_reverse]
 ·refine .inl ⟨fun z=>hq ((hm q).mpr z),?_⟩
  refine aV rfl ?_
  show j6 [some (.val sd),some (.val (.int p)),some (.val (.int q)),none,none,none,none]=_
  unfold j6
  rw[aw s1,kq (d:= .non) (by simp! [hin,hq])]
theorem yr (i:Int):gM [.int i]= .ok (.bl true):=by
 refine aV rfl ?_
 show jV [some (.val (.int i))]=_
 simp! [jV,lO,Aa,Ab]
theorem su {ss:List bf} {rd:List (Int×Int)}:∀{g:List Int},g.Nodup->jb ss rd g=br (kD rd) g ss
 |[],_=>by rw[B6];rfl
 |x::g,h=>by
  obtain⟨h1,h2⟩:=List.nodup_cons.mp h
  have ih:=su (ss:=ss) (rd:=rd) h2
  rw[wW _ h1,<-ih]
  rfl
theorem nJ (n:Nat):((List.range (n+1)).map fun i:Nat=>(i:Int))=0::bw n:=by
 unfold bw
 rw[List.range_succ_eq_map,List.map_cons,List.map_map]
 have:(List.range n).map ((fun i:Nat=>(i:Int))∘Nat.succ)=(List.range n).map fun k:Nat=>1+(k:Int):=List.map_congr_left fun k _=>by
  show ((k+1:Nat):Int)=1+(k:Int)
  omega
 rw[this];rfl
section
variable {n:Nat} {ss:List bf} {rs':List Int} {rd:List (Int×Int)}
theorem fS.lol (c:fS n ss rs' rd):(aO ss rd).length<=12:=Nat.le_trans (List.length_filter_le _ _) c.len
theorem yt {B:Int->List Int} (hB:∀p:Int,0<=p/\p<=n->o1 (aO ss rd) p (B p)) {g:List Int} (hg:g∈bF B (bw n)):g.Nodup/\0∉g/\∃p,1<=p/\p<=(n:Int)/\g=B p/\p∈g:=by
 obtain⟨p,hp,rfl⟩:=List.mem_map.mp hg
 obtain⟨hp1,hp2⟩:=List.mem_filter.mp hp
 have hr:=cS.mp hp1
 have b:=hB p (by omega)
 obtain⟨x,r,e,h1,h2⟩:=b.head
 have hx:x=p:=by
  have:=of_decide_eq_true hp2
  rw[e]at this
  simpa using this
 subst hx
 refine⟨b.nd,fun z=> ?_,x,hr.1,hr.2,rfl,(b.mem x).mpr .refl⟩
 have:=h2 0 ((b.mem 0).mp z)
 omega
theorem fS.inRl (c:fS n ss rs' rd):vF n (aO ss rd):=wN c.loose
theorem D8 (c:fS n ss rs' rd) {B:Int->List Int} (hB:∀p:Int,0<=p/\p<=n->o1 (aO ss rd) p (B p)) {g:List Int} (hg:g∈bF B (bw n)) {acc:List (List Int×Int×Int)} (hl:acc.length<=100) {x3 x4:Option Slot}:
  ∃y3 y4,dv [some (.val (aN n ss rs' rd)),some (.own (.lst (acc.map mz))),some (.val (bD g)),x3,x4]
   = .ok (.nx [some (.val (aN n ss rs' rd)),some (.own (.lst ((acc++([(g,rs rs' g,jb ss rd g)].filter fun x=>decide (x.2.1≠x.2.2))).map mz))),some (.val (bD g)),y3,y4]):=by
 obtain⟨nd,h0,p,p1,p2,rfl,hpg⟩:=yt hB hg
 have b:=hB p (by omega)
 have hlen:=b.len c.inRl c.n7 (by omega)
 have hrise:=qY (rd:= .tup (rs'.map .int)) (gd:= .tup ((B p).map .int)) (.inr rfl) (.inr rfl) (fun t ht=>by
  have:=kE.range c.inRl (by omega) ((b.mem t).mp ht)
  have hne:t≠0:=fun z=>h0 (z▸ht)
  rw[c.rsl];omega) (by omega)
 have hbr:=my (sd:= .tup (ss.map ay)) (pd:= .tup (rd.map vC)) (gd:= .tup ((B p).map .int)) (.inr rfl) (.inr rfl) (.inr rfl) (by have:=c.len;omega)
 rw[<-su nd]at hbr
 have hn0:eG true (.int 0) (bD (B p))=some (.bl true):=by
  unfold bD
  rw[t9];simp[h0]
 have l3:(3:Nat)<=lim:=by decide
 have l1:(acc.map mz).length<lim:=by rw[List.length_map];unfold lim;omega
 refine⟨some (.val (.int (rs rs' (B p)))),some (.val (.int (jb ss rd (B p)))),?_⟩
 have e0:eM (fT (f2 (eG true) (fC (.int 0)) (af 2)))=fun (g g':ai->R bG) ρ=>(fT (f2 (eG true) (fC (.int 0)) (af 2)) ρ)>>=fun b=>if b=true then g ρ else g' ρ:=rfl
 unfold dv
 rw[e0]
 simp only[fT,f2,fC,af,ax,cJ,List.getElem?_cons_zero,List.getElem?_cons_succ,lQ,hn0,if_true]
 have ea:aT (aE eg 2 (aa (d0 "Day" "rises" (af 0)) (aa (au 2) (aj)))) (gN 3) [some (.val (aN n ss rs' rd)),some (.own (.lst (acc.map mz))),some (.val (bD (B p))),x3,x4]= .ok (.nx [some (.val (aN n ss rs' rd)),some (.own (.lst (acc.map mz))),some (.val (bD (B p))),some (.val (.int (rs rs' (B p)))),x4]):=by
  unfold bD
  simp! [d0,aN,Fn,hrise]
 have eb:aT (aE cr 3 (aa (d0 "Day" "streams" (af 0)) (aa (d0 "Day" "readings" (af 0)) (aa (au 2) (aj))))) (gN 4) [some (.val (aN n ss rs' rd)),some (.own (.lst (acc.map mz))),some (.val (bD (B p))),some (.val (.int (rs rs' (B p)))),x4]= .ok (.nx [some (.val (aN n ss rs' rd)),some (.own (.lst (acc.map mz))),some (.val (bD (B p))),some (.val (.int (rs rs' (B p)))),some (.val (.int (jb ss rd (B p))))]):=by
  unfold bD
  rw[<-ym]at hbr
  simp! [d0,aN,yi,AT,hbr]
 refine Eq.trans (aw ea) (Eq.trans (aw eb) ?_)
 by_cases hc:rs rs' (B p)=jb ss rd (B p)
 ·simp! [hc,List.filter_cons,ne_eq,not_true,List.filter_nil,List.append_nil]
 ·simp! [hc,List.filter_cons,ne_eq,not_false_eq_true,List.filter_nil,List.map_append,List.map_cons,List.map_nil,l1,l3,mz]
theorem wX (c:fS n ss rs' rd) {B:Int->List Int} (hB:∀p:Int,0<=p/\p<=n->o1 (aO ss rd) p (B p)):∀(gs:List (List Int)) (acc:List (List Int×Int×Int)) (x2 x3 x4:Option Slot),(∀g∈gs,g∈bF B (bw n))->acc.length+gs.length<=100->
  ∃y2 y3 y4,bH (gN 2) dv (gs.map bD) [some (.val (aN n ss rs' rd)),some (.own (.lst (acc.map mz))),x2,x3,x4]
   = .ok (.nx [some (.val (aN n ss rs' rd)),some (.own (.lst ((acc++((gs.map fun g=>(g,rs rs' g,jb ss rd g)).filter fun x=>decide (x.2.1≠x.2.2))).map mz))),y2,y3,y4])
 |[],acc,x2,x3,x4,_,_=>⟨x2,x3,x4,by simp[bH]⟩
 |g::gs,acc,x2,x3,x4,hg,hl=>by
  simp only[List.length_cons]at hl
  obtain⟨z3,z4,e1⟩:=D8 c hB (hg g List.mem_cons_self) (acc:=acc) (x3:=x3) (x4:=x4) (by omega)
  obtain⟨y2,y3,y4,e2⟩:=wX c hB gs (acc++([(g,rs rs' g,jb ss rd g)].filter fun x=>decide (x.2.1≠x.2.2))) (some (.val (bD g))) z3 z4 (fun q hq=>hg q (List.mem_cons_of_mem _ hq)) (by
   have:=List.length_filter_le (fun x:List Int×Int×Int=>decide (x.2.1≠x.2.2)) [(g,rs rs' g,jb ss rd g)]
   simp only[List.length_append,List.length_cons,List.length_nil]at this ⊢
   omega)
  refine⟨y2,y3,y4,?_⟩
  rw[List.map_cons,ck rfl e1,e2,List.append_assoc,<-List.filter_append]
  rfl
theorem sv (c:fS n ss rs' rd) {B:Int->List Int} (hB:∀p:Int,0<=p/\p<=n->o1 (aO ss rd) p (B p)):eo [aN n ss rs' rd]= .ok (.tup ((bP B rs' ss rd (bw n)).map mz)):=by
 have hb:=mx (sd:= .tup ((aO ss rd).map ay)) (.inr rfl) (by have:=c.lol;omega) c.inRl c.n7 hB
 rw[nJ]at hb
 have b0:=hB 0 (by omega)
 obtain⟨x,r,e,h1,h2⟩:=b0.head
 have hx:x=0:=by
  have q1:=h2 0 .refl
  have q2:=kE.range c.inRl (by omega) h1
  omega
 subst hx
 have hsplit:bF B (0::bw n)=B 0::bF B (bw n):=by
  unfold bF
  rw[List.filter_cons_of_pos (by simp[e]),List.map_cons]
 rw[hsplit,List.map_cons]at hb
 have hw:=mq c
 have hm:=DJ (m:="without_meter") (r:=aX) (fo:=au 0) (ρ:=[some (.val (aN n ss rs' rd)),some (.own (.lst [])),none,none,none]) rfl hw
 have hf:cW (aE cu 2 (aa (d0 "Day" "tanks" (af 0)) (aa (j4 "Day" "without_meter" 1 aX (au 0) aj) (aj)))) [some (.val (aN n ss rs' rd)),some (.own (.lst [])),none,none,none]= .ok (bD (B 0)::(bF B (bw n)).map bD):=by
  unfold cW aE
  rw[bQ (m_ rfl Fk) (bQ hm rfl)]
  simp only[ax,List.length_cons,List.length_nil,if_true,hb]
 have e1:dv [some (.val (aN n ss rs' rd)),some (.own (.lst [])),some (.val (bD (B 0))),none,none]= .ok (.nx [some (.val (aN n ss rs' rd)),some (.own (.lst [])),some (.val (bD (B 0))),none,none]):=by
  have:(0:Int)∈B 0:=(b0.mem 0).mpr .refl
  unfold dv bD
  simp only[eM,fT,f2,fC,af,ax,cJ,List.getElem?_cons_zero,List.getElem?_cons_succ,lQ,t9,this,decide_true,Bool.not_true,Bool.false_eq_true,if_false,bi]
 have hll:(bF B (bw n)).length<=7:=by
  have:=pN B (bw n)
  have h3:(bw n).length=n:=by simp[bw]
  have:=c.n7
  omega
 obtain⟨y2,y3,y4,el⟩:=wX c hB (bF B (bw n)) [] (some (.val (bD (B 0)))) none none (fun g hg=>hg) (by simp;omega)
 refine aV rfl ?_
 show jq [some (.val (aN n ss rs' rd)),none,none,none,none]=_
 unfold jq
 rw[aw (ρ':=[some (.val (aN n ss rs' rd)),some (.own (.lst [])),none,none,none]) rfl]
 refine Eq.trans (aw ((dH hf).trans ((ck rfl e1).trans el))) ?_
 simp! [bP]
end
theorem D9 {kds:List (a_×D)} {i:Int}:bT (.dic kds) (.int i)=bV kds (Sum.inl i):=rfl
theorem B8 {n:Nat} {ss:List bf} {rises:List Int} {rd ps:List (Int×Int)} {k:Nat} {x4 x5 x6 x7:Option Slot} (h1:ps.map (·.1)=ss.map (·.1)) (nd:(ps.map (·.1)).Nodup) (hk:k<ps.length) (hl:ps.length<=1000):
  ∃y4,dA [some (.val (aZ n ss rises rd)),some (.val (.tup (ps.map aC))),some (.own (.dic (d9 (ps.take k)))),some (.val (.int (k:Int))),x4,x5,x6,x7]
   = .ok (.nx [some (.val (aZ n ss rises rd)),some (.val (.tup (ps.map aC))),some (.own (.dic (d9 (ps.take (k+1))))),some (.val (.int (k:Int))),y4,x5,x6,x7]):=by
 have hlen:ss.length=ps.length:=by have:=congrArg List.length h1;simpa using this.symm
 have hks:k<ss.length:=by omega
 have hnum:ss[k].1=ps[k].1:=by
  have:=congrArg (fun l=>l[k]?) h1
  simp[hk,hks]at this
  exact this.symm
 have hp:=wB hk
 have hrow:=vw hks
 have hput:ji (d9 (ps.take k)) (Sum.inl ps[k].1) (.int ps[k].2)=d9 (ps.take (k+1)):=by
  rw[wI,List.take_succ_eq_append_getElem hk]
  intro z
  rw[List.map_take]at z
  obtain⟨i,hi,e⟩:=List.getElem_of_mem z
  rw[List.length_take,List.length_map]at hi
  rw[List.getElem_take]at e
  have:=(List.getElem_inj nd (i:=i) (j:=k) (h₀:=by simp;omega) (h₁:=by simpa using hk)).mp (by rw[e];simp)
  omega
 have hll:(d9 (ps.take k)).length<lim:=by unfold d9;rw[List.length_map,List.length_take];unfold lim;omega
 have hs:=qQ ps[k].1
 have hw:=yr ps[k].2
 rw[show ay ss[k]= .tup [.int ps[k].1, .int ss[k].2.1, .int ss[k].2.2] by rw[ay,hnum]]at hrow
 generalize ps[k]=p at*
 obtain⟨num,am⟩:=p
 refine⟨some (.val (aC (num,am))),?_⟩
 simp! [dA,oP,lO,aZ,hp,aC,ve,zW,not_true,fE,jy,hrow,hs,hw,cF,hll,hput,show ((2:Nat):Int)=2 from rfl,ne_eq]
theorem uc {n:Nat} {ss:List bf} {rises:List Int} {rd ps:List (Int×Int)} {x5 x6 x7:Option Slot} (h1:ps.map (·.1)=ss.map (·.1)) (nd:(ps.map (·.1)).Nodup) (hl:ps.length<=1000):∀(j k:Nat) (x3 x4:Option Slot),k+j=ps.length->
  ∃y3 y4,bH (gN 3) dA ((List.range' k j).map fun k:Nat=>D.int (k:Int)) [some (.val (aZ n ss rises rd)),some (.val (.tup (ps.map aC))),some (.own (.dic (d9 (ps.take k)))),x3,x4,x5,x6,x7]
   = .ok (.nx [some (.val (aZ n ss rises rd)),some (.val (.tup (ps.map aC))),some (.own (.dic (d9 ps))),y3,y4,x5,x6,x7])
 |0,k,x3,x4,hk=>⟨x3,x4,by rw[show k=ps.length by omega,List.take_length];simp[bH]⟩
 |j+1,k,x3,x4,hk=>by
  obtain⟨z4,e1⟩:=B8 (n:=n) (rises:=rises) (rd:=rd) (x4:=x4) (x5:=x5) (x6:=x6) (x7:=x7) h1 nd (show k<ps.length by omega) hl
  obtain⟨y3,y4,e2⟩:=uc (n:=n) (rises:=rises) (rd:=rd) (x5:=x5) (x6:=x6) (x7:=x7) h1 nd hl j (k+1) (some (.val (.int (k:Int)))) z4 (by omega)
  exact⟨y3,y4,by rw[List.range'_succ,List.map_cons,ck rfl e1,e2]⟩
theorem ud {ps:List (Int×Int)} (nd:(ps.map (·.1)).Nodup) {a0 a1 a3 a4 a7:Option Slot}:∀(rd:List (Int×Int)) (x5 x6:Option Slot),(∀p∈rd,p∈ps)->
  ∃y5 y6,bH (fV 2 (bc (gN 5) (bc (gN 6) (fU)))) dB (rd.map aC) [a0,a1,some (.own (.dic (d9 ps))),a3,a4,x5,x6,a7]
   = .ok (.nx [a0,a1,some (.own (.dic (d9 ps))),a3,a4,y5,y6,a7])
 |[],x5,x6,_=>⟨x5,x6,rfl⟩
 |p::rd,x5,x6,h=>by
  obtain⟨y5,y6,e⟩:=ud nd (a0:=a0) (a1:=a1) (a3:=a3) (a4:=a4) (a7:=a7) rd (some (.val (.int p.1))) (some (.val (.int p.2))) fun q hq=>h q (List.mem_cons_of_mem _ hq)
  refine⟨y5,y6,?_⟩
  have hg:=wJ nd (h p List.mem_cons_self)
  have hb:dB [a0,a1,some (.own (.dic (d9 ps))),a3,a4,some (.val (.int p.1)),some (.val (.int p.2)),a7]= .ok (.nx [a0,a1,some (.own (.dic (d9 ps))),a3,a4,some (.val (.int p.1)),some (.val (.int p.2)),a7]):=by
   simp! [dB,D9,hg]
  rw[List.map_cons,ck rfl hb,e]
theorem ue {n:Nat} {ss:List bf} {rises:List Int} {rd ps:List (Int×Int)} (hr:rises.length=n) {a2 a3 a4 a5 a6:Option Slot}:∀(ts:List Int) (x7:Option Slot),(∀t∈ts,1<=t/\t<=n)->(∀t∈ts,eJ (kD ps) ss t=rises.getD (t - 1).toNat 0)->
  ∃y7,bH (gN 7) dC (ts.map .int) [some (.val (aZ n ss rises rd)),some (.val (.tup (ps.map aC))),a2,a3,a4,a5,a6,x7]= .ok (.nx [some (.val (aZ n ss rises rd)),some (.val (.tup (ps.map aC))),a2,a3,a4,a5,a6,y7])
 |[],x7,_,_=>⟨x7,rfl⟩
 |t::ts,x7,h,hs=>by
  obtain⟨y7,e⟩:=ue (rd:=rd) hr (a2:=a2) (a3:=a3) (a4:=a4) (a5:=a5) (a6:=a6) ts (some (.val (.int t))) (fun q hq=>h q (List.mem_cons_of_mem _ hq)) fun q hq=>hs q (List.mem_cons_of_mem _ hq)
  refine⟨y7,?_⟩
  have hnet:dw [.tup (ss.map ay), .tup (ps.map aC), .lst [.int t]]= .ok (.int (rises.getD (t - 1).toNat 0)):=by
   have:=u5 (sd:= .tup (ss.map ay)) (pd:= .tup (ps.map aC)) (gd:= .lst ([t].map .int)) (ss:=ss) (ps:=ps) (gi:=[t]) (.inr rfl) (.inr rfl) (.inl rfl)
   rw[show ([t].map (eJ (kD ps) ss)).sum=rises.getD (t - 1).toNat 0 by rw[List.map_cons,List.map_nil,List.sum_cons,List.sum_nil,Int.add_zero,hs t List.mem_cons_self]]at this
   exact this
  have hl1:(1:Nat)<=lim:=by decide
  have hb:dC [some (.val (aZ n ss rises rd)),some (.val (.tup (ps.map aC))),a2,a3,a4,a5,a6,some (.val (.int t))]= .ok (.nx [some (.val (aZ n ss rises rd)),some (.val (.tup (ps.map aC))),a2,a3,a4,a5,a6,some (.val (.int t))]):=by
   simp! [dC,aZ,jy,Ip,hl1,hnet,sr (rises:=rises) (t:=t) (by have:=h t List.mem_cons_self;omega)]
  rw[List.map_cons,ck rfl hb,e]
theorem nS {n:Nat} {ss:List bf} {rises:List Int} {rd ps:List (Int×Int)} (c:fS n ss rises rd) (h1:ps.map (·.1)=ss.map (·.1)) (h2:∀p∈rd,p∈ps) (h3:∀t:Int,1<=t->t<=n->eJ (kD ps) ss t=rises.getD (t - 1).toNat 0):
  d7 [aZ n ss rises rd, .tup (ps.map aC)]= .ok (.bl true):=by
 have nd:(ps.map (·.1)).Nodup:=by rw[h1];exact c.good.nd
 have hlen:ps.length=ss.length:=by have:=congrArg List.length h1;simpa using this
 have h12:=c.len
 have hn:=c.n7
 obtain⟨z3,z4,e1⟩:=uc (n:=n) (rises:=rises) (rd:=rd) (x5:=none) (x6:=none) (x7:=none) h1 nd (by omega) ps.length 0 none none (by omega)
 rw[<-List.range_eq_range',List.take_zero]at e1
 obtain⟨z5,z6,e2⟩:=ud nd (a0:=some (.val (aZ n ss rises rd))) (a1:=some (.val (.tup (ps.map aC)))) (a3:=z3) (a4:=z4) (a7:=none) rd none none h2
 obtain⟨z7,e3⟩:=ue (ss:=ss) (ps:=ps) (rd:=rd) c.rsl (a2:=some (.own (.dic (d9 ps)))) (a3:=z3) (a4:=z4) (a5:=z5) (a6:=z6) (bw n) none (fun t ht=>cS.mp ht) fun t ht=>h3 t (cS.mp ht).1 (cS.mp ht).2
 refine aV rfl ?_
 show gu [some (.val (aZ n ss rises rd)),some (.val (.tup (ps.map aC))),none,none,none,none,none,none]=_
 unfold gu
 rw[aw (ρ':=[some (.val (aZ n ss rises rd)),some (.val (.tup (ps.map aC))),none,none,none,none,none,none]) (by simp! [aZ,lO,ve,jy,List.length_map,hlen]),
  aw (ρ':=[some (.val (aZ n ss rises rd)),some (.val (.tup (ps.map aC))),some (.own (.dic [])),none,none,none,none,none]) rfl]
 have q1:ee (aa (cU eW (aa (af 1) (aj))) (aj)) [some (.val (aZ n ss rises rd)),some (.val (.tup (ps.map aC))),some (.own (.dic [])),none,none,none,none,none]=_:=kr (n:=ps.length) (by simp! [List.length_map]) (by unfold lim;omega)
 rw[aw (by rw[dH q1];exact e1)]
 have q2:cW (f2 bT (af 0) (fC (.int 3))) [some (.val (aZ n ss rises rd)),some (.val (.tup (ps.map aC))),some (.own (.dic (d9 ps))),z3,z4,none,none,none]= .ok (rd.map aC):=by simp! [aZ,Iq]
 rw[aw (by rw[dH q2];exact e2)]
 have q3:jh (aa (fC (.int 1)) (aa (f2 cH (f2 bT (af 0) (fC (.int 0))) (fC (.int 1))) (aj))) [some (.val (aZ n ss rises rd)),some (.val (.tup (ps.map aC))),some (.own (.dic (d9 ps))),z3,z4,z5,z6,none]= .ok ((bw n).map .int):=by
  have hb:(1:Int).natAbs<=lim/\((n:Int)+1).natAbs<=lim:=⟨by decide,by unfold lim;omega⟩
  rw[<-mw]
  simp! [jh,aZ,fE,hb,and_self]
 rw[aw (by rw[dH q3];exact e3)]
 simp! []
def dz (ss:List bf) (a:Int->Int):List (a_×D):=ss.map fun r=>((Sum.inl r.1:a_),D.int (a r.1))
theorem uf {a:Int->Int} {k:Int}:∀{ss:List bf},k∈ss.map (·.1)->bV (dz ss a) (Sum.inl k)=some (.int (a k))
 |[],h=>by cases h
 |r::ss,h=>by
  unfold bV dz
  rw[List.map_cons,List.find?_cons]
  by_cases e:r.1=k
  ·simp[e]
  ·have:decide ((Sum.inl r.1:a_)=Sum.inl k)=false:=by simpa using e
   simp only[this]
   refine uf (ss:=ss) ?_
   rcases List.mem_cons.mp h with z|z
   ·exact absurd z.symm e
   ·exact z
theorem ug {ss:List bf} {a:Int->Int} {k v:Int} (h:k∈ss.map (·.1)):ji (dz ss a) (Sum.inl k) (.int v)=dz ss (fun x=>if x=k then v else a x):=by
 unfold ji
 rw[if_pos (by
  obtain⟨r,hr,rfl⟩:=List.mem_map.mp h
  exact List.any_eq_true.mpr ⟨(Sum.inl r.1, .int (a r.1)),List.mem_map.mpr ⟨r,hr,rfl⟩,by simp⟩)]
 unfold dz
 rw[List.map_map]
 refine List.map_congr_left fun r _=> ?_
 show (if (Sum.inl r.1:a_)=Sum.inl k then ((Sum.inl r.1:a_),D.int v)else (Sum.inl r.1, .int (a r.1)))=(Sum.inl r.1, .int (if r.1=k then v else a r.1))
 by_cases e:r.1=k
 ·simp[e]
 ·have:¬(Sum.inl r.1:a_)=Sum.inl k:=fun z=>e (by simpa using z)
  rw[if_neg this,if_neg e]
def lz (a:Int->Int) (k v:Int):Int->Int:=fun x=>if x=k then a x+v else a x
theorem i5 {a:Int->Int} {r:bf} {ss:List bf} {t:Int}:eJ a (r::ss) t=((if r.2.2=t then a r.1 else 0) - (if r.2.1=t then a r.1 else 0))+eJ a ss t:=by
 unfold eJ
 rw[List.map_cons,List.sum_cons]
theorem wY {a:Int->Int} {k v t:Int}:∀{ss:List bf},k∉ss.map (·.1)->eJ (lz a k v) ss t=eJ a ss t
 |[],_=>rfl
 |r::ss,h=>by
  have h1:r.1≠k:=fun z=>h (by rw[List.map_cons,z];exact List.mem_cons_self)
  have h2:k∉ss.map (·.1):=fun z=>h (List.mem_cons_of_mem _ z)
  rw[i5,i5,wY h2]
  simp only[lz,if_neg h1]
theorem uh {a:Int->Int} {v t:Int}:∀{ss:List bf},(ss.map (·.1)).Nodup->∀{r:bf},r∈ss->eJ (lz a r.1 v) ss t=eJ a ss t+(if r.2.2=t then v else 0) - (if r.2.1=t then v else 0)
 |[],_,r,h=>by cases h
 |q::ss,nd,r,h=>by
  obtain⟨n1,n2⟩:=List.nodup_cons.mp (show (q.1::ss.map (·.1)).Nodup from nd)
  rw[i5,i5]
  rcases List.mem_cons.mp h with rfl|h
  ·rw[wY n1]
   simp only[lz,if_true]
   split<;>split<;>omega
  ·have hne:q.1≠r.1:=fun z=>n1 (by rw[z];exact List.mem_map_of_mem h)
   rw[uh n2 h]
   simp only[lz,if_neg hne]
   omega
def lA (a:Int->Int) (st:List (Int×Int)) (l:Int):Int->Int:=st.foldl (fun a x=>lz a x.1 (x.2*l)) a
theorem B9 {a:Int->Int} {lo ss:List bf} (sub:∀r∈lo,r∈ss) (nd:(ss.map (·.1)).Nodup) {u k d q l t:Int} (h:CY lo u k d q):eJ (lz a k (d*l)) ss t=eJ a ss t+(if q=t then l else 0) - (if u=t then l else 0):=by
 obtain⟨r,hr,rfl,h⟩:=h
 rw[uh nd (sub r hr)]
 rcases h with ⟨rfl,rfl,rfl⟩|⟨rfl,rfl,rfl⟩
 ·rw[Int.one_mul]
 ·rw[show (-1:Int)*l= -l by omega]
  split<;>split<;>omega
theorem Ba {lo ss:List bf} (sub:∀r∈lo,r∈ss) (nd:(ss.map (·.1)).Nodup) {u v l t:Int} {ps qs:List Int} {st:List (Int×Int)} (h:Wy lo u ps st v qs):∀a:Int->Int,eJ (lA a st l) ss t=eJ a ss t+(if v=t then l else 0) - (if u=t then l else 0):=by
 induction h with
 |nil=>intro a;show eJ a ss t=_;omega
 | @cons u k d q v ps qs st hs _ _ ih=>
  intro a
  show eJ (lA (lz a k (d*l)) st l) ss t=_
  rw[ih (lz a k (d*l)),B9 sub nd hs]
  omega
theorem ui {lo:List bf} {u v:Int} {ps qs:List Int} {st:List (Int×Int)} (h:Wy lo u ps st v qs):∀x∈st,x.1∈lo.map (·.1):=by
 induction h with
 |nil=>intro x hx;cases hx
 |cons hs _ _ ih=>
  intro x hx
  rcases List.mem_cons.mp hx with rfl|hx
  ·obtain⟨r,hr,e,_⟩:=hs
   exact List.mem_map.mpr ⟨r,hr,e⟩
  ·exact ih x hx
theorem sx {a:Int->Int} {l k:Int}:∀{st:List (Int×Int)},(∀x∈st,x.1≠k)->lA a st l k=a k:=by
 intro st
 induction st generalizing a with
 |nil=>intro _;rfl
 |cons x st ih=>
  intro h
  show lA (lz a x.1 (x.2*l)) st l k=a k
  rw[ih fun y hy=>h y (List.mem_cons_of_mem _ hy)]
  have:k≠x.1:=fun z=>h x List.mem_cons_self z.symm
  simp[lz,this]
section
variable {n:Nat} {ss:List bf} {rises:List Int} {rd:List (Int×Int)}
def ix (rises:List Int) (ss:List bf) (rd:List (Int×Int)) (t:Int):Int:=rs rises [t] - br (kD rd) [t] ss
theorem yu (c:fS n ss rises rd) {t:Int} (h1:1<=t) (h2:t<=n):j7 [aN n ss rises rd, .int t]= .ok (.int (ix rises ss rd t)):=by
 have len:=c.len
 have rsl:=c.rsl
 have e1:=qY (rd:= .tup (rises.map .int)) (gd:= .tup ([t].map .int)) (rises:=rises) (gi:=[t]) (.inr rfl) (.inr rfl) (fun x hx=>by rw[List.mem_singleton.mp hx];omega) (by simp)
 have e2:=my (sd:= .tup (ss.map ay)) (pd:= .tup (rd.map vC)) (gd:= .tup ([t].map .int)) (ss:=ss) (ps:=rd) (gi:=[t]) (.inr rfl) (.inr rfl) (.inr rfl) (by omega)
 have q1:aE eg 2 (aa (d0 "Day" "rises" (af 0)) (aa (iW (aa (au 1) (aj))) (aj))) [some (.val (aN n ss rises rd)),some (.val (.int t))]= .ok (.int (rs rises [t])):=
  kt (ds:=[.tup (rises.map .int), .tup [.int t]]) (bQ (m_ rfl Fn) (bQ (fs:=aj) (d:= .tup [.int t]) rfl rfl)) rfl e1
 have q2:aE cr 3 (aa (d0 "Day" "streams" (af 0)) (aa (d0 "Day" "readings" (af 0)) (aa (iW (aa (au 1) (aj))) (aj)))) [some (.val (aN n ss rises rd)),some (.val (.int t))]= .ok (.int (br (kD rd) [t] ss)):=
  kt (ds:=[.tup (ss.map ay), .tup (rd.map aC), .tup [.int t]]) (bQ (m_ rfl yi) (bQ (m_ rfl AT) (bQ (fs:=aj) (d:= .tup [.int t]) rfl rfl))) rfl e2
 refine aV rfl ?_
 show qM [some (.val (aN n ss rises rd)),some (.val (.int t))]=_
 exact ic (DB q1 q2 zU)
theorem uj {a0 a2 a3 a4:Option Slot} {l:Int} (hs:ss.length<=100):∀(st:List (Int×Int)) (a:Int->Int) (x6 x7:Option Slot),(∀x∈st,x.1∈ss.map (·.1)/\x.2.natAbs<18446744073709551616)->
  ∃y6 y7,bH (fV 2 (bc (gN 6) (bc (gN 7) (fU)))) gC (st.map ut) [a0,some (.own (.dic (dz ss a))),a2,a3,a4,some (.val (.int l)),x6,x7]
   = .ok (.nx [a0,some (.own (.dic (dz ss (lA a st l)))),a2,a3,a4,some (.val (.int l)),y6,y7])
 |[],a,x6,x7,_=>⟨x6,x7,rfl⟩
 |x::st,a,x6,x7,h=>by
  obtain⟨h1,h2⟩:=h x List.mem_cons_self
  have hg:=uf (a:=a) h1
  have hp:=ug (a:=a) (v:=a x.1+x.2*l) h1
  have hl:(dz ss a).length<lim:=by unfold dz;rw[List.length_map];unfold lim;omega
  have hf:(fun y=>if y=x.1 then a x.1+x.2*l else a y)=lz a x.1 (x.2*l):=by
   funext y
   unfold lz
   by_cases e:y=x.1
   ·rw[if_pos e,if_pos e,e]
   ·rw[if_neg e,if_neg e]
  rw[hf]at hp
  obtain⟨y6,y7,e⟩:=uj (a0:=a0) (a2:=a2) (a3:=a3) (a4:=a4) (l:=l) hs st (lz a x.1 (x.2*l)) (some (.val (.int x.1))) (some (.val (.int x.2))) fun y hy=>h y (List.mem_cons_of_mem _ hy)
  refine⟨y6,y7,?_⟩
  have hb:gC [a0,some (.own (.dic (dz ss a))),a2,a3,a4,some (.val (.int l)),some (.val (.int x.1)),some (.val (.int x.2))]= .ok (.nx [a0,some (.own (.dic (dz ss (lz a x.1 (x.2*l))))),a2,a3,a4,some (.val (.int l)),some (.val (.int x.1)),some (.val (.int x.2))]):=by
   simp! [gC,ww,cF,hg,va h2,hl,hp]
  rw[List.map_cons,ck rfl hb,e]
  rfl
theorem Fq {lo:List bf} {u v:Int} {ps qs:List Int} {st:List (Int×Int)} (h:Wy lo u ps st v qs):∀x∈st,x.2.natAbs<18446744073709551616:=by
 induction h with
 |nil=>intro x hx;cases hx
 |cons hs _ _ ih=>
  intro x hx
  rcases List.mem_cons.mp hx with rfl|hx
  ·obtain⟨r,_,_,h⟩:=hs
   rcases h with ⟨rfl,_⟩|⟨rfl,_⟩
   ·exact(by decide:(1:Int).natAbs<18446744073709551616)
   ·exact(by decide:(-1:Int).natAbs<18446744073709551616)
  ·exact ih x hx
theorem qZ (c:fS n ss rises rd) {f:Int} {rest:List Int} (hf:0<=f/\f<=n):∀(ts:List Int) (a:Int->Int) (x4 x5 x6 x7:Option Slot),(∀t∈ts,1<=t/\t<=(n:Int)/\kE (aO ss rd) f t)->
  ∃a' y4 y5 y6 y7,bH (gN 4) gD (ts.map .int) [some (.val (aN n ss rises rd)),some (.own (.dic (dz ss a))),some (.val (.tup ((aO ss rd).map ay))),some (.val (bD (f::rest))),x4,x5,x6,x7]
   = .ok (.nx [some (.val (aN n ss rises rd)),some (.own (.dic (dz ss a'))),some (.val (.tup ((aO ss rd).map ay))),some (.val (bD (f::rest))),y4,y5,y6,y7])/\
   (∀t,eJ a' ss t=eJ a ss t+(ts.map fun q=>if q=t then ix rises ss rd q else 0).sum - (if f=t then (ts.map (ix rises ss rd)).sum else 0))/\∀k∈rd.map (·.1),a' k=a k
 |[],a,x4,x5,x6,x7,_=>⟨a,x4,x5,x6,x7,rfl,fun t=>by simp,fun _ _=>rfl⟩
 |t::ts,a,x4,x5,x6,x7,h=>by
  obtain⟨h1,h2,h3⟩:=h t List.mem_cons_self
  have len:=c.len
  have lol:=c.lol
  have hl:=yu c h1 h2
  have sub:∀r∈aO ss rd,r∈ss:=fun r hr=>(List.mem_filter.mp hr).1
  obtain⟨st,qs,e1,w,_⟩:∃st qs,gk [.tup ((aO ss rd).map ay), .int f, .int t]= .ok (.tup (st.map ut))/\Wy (aO ss rd) f [f] st t qs/\st.length<=7:=by
   rcases yq (p:=f) (q:=t) (sd:= .tup ((aO ss rd).map ay)) (.inr rfl) (by omega) c.inRl c.n7 hf with ⟨z,_⟩|⟨_,z⟩
   ·exact absurd h3 z
   ·exact z
  have hin:∀x∈st,x.1∈ss.map (·.1)/\x.2.natAbs<18446744073709551616:=fun x hx=>by
   obtain⟨r,hr,e⟩:=List.mem_map.mp (ui w x hx)
   exact⟨List.mem_map.mpr ⟨r,sub r hr,e⟩,Fq w x hx⟩
  obtain⟨y6,y7,e2⟩:=uj (a0:=some (.val (aN n ss rises rd))) (a2:=some (.val (.tup ((aO ss rd).map ay)))) (a3:=some (.val (bD (f::rest)))) (a4:=some (.val (.int t))) (l:=ix rises ss rd t) (ss:=ss) (by omega) st a x6 x7 hin
  obtain⟨a',z4,z5,z6,z7,e3,e4,e5⟩:=qZ c (rest:=rest) hf ts (lA a st (ix rises ss rd t)) (some (.val (.int t))) (some (.val (.int (ix rises ss rd t)))) y6 y7 fun q hq=>h q (List.mem_cons_of_mem _ hq)
  have hi:f2 bT (af 3) (fC (.int 0)) [some (.val (aN n ss rises rd)),some (.own (.dic (dz ss a))),some (.val (.tup ((aO ss rd).map ay))),some (.val (bD (f::rest))),some (.val (.int t)),some (.val (.int (ix rises ss rd t))),x6,x7]= .ok (.int f):=by simp! [bD,List.map_cons,fE]
  have hb:gD [some (.val (aN n ss rises rd)),some (.own (.dic (dz ss a))),some (.val (.tup ((aO ss rd).map ay))),some (.val (bD (f::rest))),some (.val (.int t)),x5,x6,x7]
    = .ok (.nx [some (.val (aN n ss rises rd)),some (.own (.dic (dz ss (lA a st (ix rises ss rd t))))),some (.val (.tup ((aO ss rd).map ay))),some (.val (bD (f::rest))),some (.val (.int t)),some (.val (.int (ix rises ss rd t))),y6,y7]):=by
   unfold gD
   rw[aw (ρ':=[some (.val (aN n ss rises rd)),some (.own (.dic (dz ss a))),some (.val (.tup ((aO ss rd).map ay))),some (.val (bD (f::rest))),some (.val (.int t)),some (.val (.int (ix rises ss rd t))),x6,x7]) (by simp! [hl])]
   refine(dH (ds:=st.map ut) ?_).trans e2
   unfold cW
   rw[kt (n:=3) (ds:=[.tup ((aO ss rd).map ay), .int f, .int t]) (bQ (f:=au 2) rfl (bQ hi (bQ (f:=au 4) (fs:=aj) (d:= .int t) rfl rfl))) rfl e1]
   rfl
  refine⟨a',z4,z5,z6,z7,by rw[List.map_cons,ck rfl hb,e3],fun x=> ?_,fun k hk=> ?_⟩
  ·rw[e4 x,Ba sub c.good.nd w,List.map_cons,List.map_cons,List.sum_cons,List.sum_cons]
   by_cases q1:f=x<;>by_cases q2:t=x<;>simp only[q1,q2,if_true,if_false]<;>omega
  ·rw[e5 k hk]
   refine sx fun x hx z=> ?_
   obtain⟨r,hr,e⟩:=List.mem_map.mp (ui w x hx)
   have:=(List.mem_filter.mp hr).2
   rw[decide_eq_true_eq]at this
   exact this (by rw[e,z];exact hk)
end
section
variable {n:Nat} {ss:List bf} {rises:List Int} {rd:List (Int×Int)}
theorem sy {α:Type} [DecidableEq α] {f:α->Int} {h:α}:∀{l:List α},l.Nodup->h∈l->(∀p∈l,p≠h->f p=0)->(l.map f).sum=f h
 |[],_,hm,_=>by cases hm
 |p::l,nd,hm,hz=>by
  obtain⟨n1,n2⟩:=List.nodup_cons.mp nd
  rw[List.map_cons,List.sum_cons]
  rcases List.mem_cons.mp hm with rfl|hm
  ·have:∀(l:List α),(∀p∈l,f p=0)->(l.map f).sum=0:=fun l=>by
    induction l with
    |nil=>intro _;rfl
    |cons a l ih=>intro hz;rw[List.map_cons,List.sum_cons,hz a List.mem_cons_self,ih fun p hp=>hz p (List.mem_cons_of_mem _ hp)];rfl
   rw[this l fun p hp=>hz p (List.mem_cons_of_mem _ hp) fun z=>n1 (z▸hp)]
   omega
  ·rw[hz p List.mem_cons_self fun z=>n1 (z▸hm),sy n2 hm fun q hq=>hz q (List.mem_cons_of_mem _ hq)]
   omega
theorem uk {α:Type} {f:α->Int} {l:List α} (h:∀p∈l,f p=0):(l.map f).sum=0:=by
 induction l with
 |nil=>rfl
 |cons a l ih=>rw[List.map_cons,List.sum_cons,h a List.mem_cons_self,ih fun p hp=>h p (List.mem_cons_of_mem _ hp)];rfl
theorem pO (c:fS n ss rises rd):∀(gs:List (Int×List Int)) (a:Int->Int) (x3 x4 x5 x6 x7:Option Slot),(∀g∈gs,(0<=g.1/\g.1<=(n:Int))/\∀t∈g.2,1<=t/\t<=(n:Int)/\kE (aO ss rd) g.1 t)->
  ∃a' y3 y4 y5 y6 y7,bH (gN 3) iO (gs.map fun g=>bD (g.1::g.2)) [some (.val (aN n ss rises rd)),some (.own (.dic (dz ss a))),some (.val (.tup ((aO ss rd).map ay))),x3,x4,x5,x6,x7]
   = .ok (.nx [some (.val (aN n ss rises rd)),some (.own (.dic (dz ss a'))),some (.val (.tup ((aO ss rd).map ay))),y3,y4,y5,y6,y7])/\
   (∀t,eJ a' ss t=eJ a ss t+(gs.map fun g=>(g.2.map fun q=>if q=t then ix rises ss rd q else 0).sum - (if g.1=t then (g.2.map (ix rises ss rd)).sum else 0)).sum)/\∀k∈rd.map (·.1),a' k=a k
 |[],a,x3,x4,x5,x6,x7,_=>⟨a,x3,x4,x5,x6,x7,rfl,fun t=>by simp,fun _ _=>rfl⟩
 |g::gs,a,x3,x4,x5,x6,x7,h=>by
  obtain⟨h1,h2⟩:=h g List.mem_cons_self
  obtain⟨a1,y4,y5,y6,y7,e1,e2,e3⟩:=qZ c (rest:=g.2) h1 g.2 a x4 x5 x6 x7 h2
  obtain⟨a',z3,z4,z5,z6,z7,e4,e5,e6⟩:=pO c gs a1 (some (.val (bD (g.1::g.2)))) y4 y5 y6 y7 fun q hq=>h q (List.mem_cons_of_mem _ hq)
  have hb:iO [some (.val (aN n ss rises rd)),some (.own (.dic (dz ss a))),some (.val (.tup ((aO ss rd).map ay))),some (.val (bD (g.1::g.2))),x4,x5,x6,x7]
    = .ok (.nx [some (.val (aN n ss rises rd)),some (.own (.dic (dz ss a1))),some (.val (.tup ((aO ss rd).map ay))),some (.val (bD (g.1::g.2))),y4,y5,y6,y7]):=by
   refine(dH (ds:=g.2.map .int) ?_).trans e1
   have q:Cn (.tup ((g.1::g.2).map D.int)) (some 1) none=some (.tup (g.2.map .int)):=wD (k:=1) (by simp)
   simp! [Bm,kH,kG,bD,q]
  refine⟨a',z3,z4,z5,z6,z7,by rw[List.map_cons,ck rfl hb,e4],fun t=> ?_,fun k hk=>by rw[e6 k hk,e3 k hk]⟩
  rw[e5 t,e2 t,List.map_cons,List.sum_cons]
  omega
theorem Bb {t:Int}:ix rises ss rd t=rises.getD (t - 1).toNat 0 - eJ (kD rd) ss t:=by
 have h:=su (ss:=ss) (rd:=rd) (g:=[t]) (by simp)
 unfold ix
 rw[<-h]
 unfold jb rs
 simp
theorem Bc:∀(g:List Int),(g.map (ix rises ss rd)).sum=rs rises g - jb ss rd g
 |[]=>rfl
 |t::g=>by
  have ih:=Bc g
  unfold rs jb at ih ⊢
  rw[List.map_cons,List.sum_cons,ih,Bb,List.map_cons,List.sum_cons,List.map_cons,List.sum_cons]
  omega
def vH (n:Nat) (B:Int->List Int):List (Int×List Int):=((0::bw n).filter fun p=>decide ((B p).head? =some p)).map fun p=>(p,(B p).tail)
theorem Bd {B:Int->List Int}:(bF B (0::bw n))=(vH n B).map fun g=>g.1::g.2:=by
 unfold vH bF
 rw[List.map_map]
 refine List.map_congr_left fun p hp=> ?_
 have:=of_decide_eq_true (List.mem_filter.mp hp).2
 show B p=p::(B p).tail
 cases e:B p with
 |nil=>rw[e]at this;cases this
 |cons x r=>rw[e]at this;simp at this;rw[this];rfl
theorem Be:(0::bw n).Nodup:=by
 refine List.nodup_cons.mpr ⟨fun z=>by have:=(cS.mp z).1;omega,?_⟩
 unfold bw
 rw[List.nodup_iff_pairwise_ne,List.pairwise_map]
 exact List.nodup_range.imp fun h z=>h (by omega)
theorem Bf (c:fS n ss rises rd) {B:Int->List Int} (hB:∀p:Int,0<=p/\p<=n->o1 (aO ss rd) p (B p)) (nc:bP B rises ss rd (bw n)=[]) {t:Int} (h1:1<=t) (h2:t<=n):
  ((vH n B).map fun g=>(g.2.map fun q=>if q=t then ix rises ss rd q else 0).sum - (if g.1=t then (g.2.map (ix rises ss rd)).sum else 0)).sum=ix rises ss rd t:=by
 have bt:=hB t (by omega)
 obtain⟨h,r,eB,th,hl⟩:=bt.head
 have hr:=kE.range c.inRl (by omega:(0:Int)<=t/\t<=n) th
 have bh:=hB h hr
 have eBh:B h=B t:=(o1.uniq (ss:=aO ss rd) (p:=t) ⟨fun q=>(bh.mem q).trans ⟨fun z=>th.trans z,fun z=>th.symm.trans z⟩,bh.nd,bh.srt⟩ bt)
 unfold vH
 rw[List.map_map]
 have hm:h∈(0::bw n).filter fun p=>decide ((B p).head? =some p):=by
  refine List.mem_filter.mpr ⟨?_,decide_eq_true (by rw[eBh,eB];rfl)⟩
  by_cases z:h=0
  ·rw[z];exact List.mem_cons_self
  ·exact List.mem_cons_of_mem _ (cS.mpr ⟨by omega,hr.2⟩)
 rw[sy (h:=h) (Be.filter _) hm (fun p hp hne=> ?_)]
 ·show ((B h).tail.map fun q=>if q=t then ix rises ss rd q else 0).sum - (if h=t then ((B h).tail.map (ix rises ss rd)).sum else 0)=_
  rw[eBh,eB,List.tail_cons]
  have nd:(h::r).Nodup:=eB▸bt.nd
  obtain⟨n1,n2⟩:=List.nodup_cons.mp nd
  by_cases z:h=t
  ·subst z
   rw[if_pos rfl,uk (fun q hq=>if_neg fun (y:q=h)=>n1 (y▸hq))]
   have hg:B h∈bF B (bw n):=List.mem_map.mpr ⟨h,List.mem_filter.mpr ⟨cS.mpr ⟨h1,h2⟩,decide_eq_true (by rw[eB];rfl)⟩,rfl⟩
   have hno:rs rises (B h)=jb ss rd (B h):=Classical.byContradiction fun y=>by
    have:(B h,rs rises (B h),jb ss rd (B h))∈bP B rises ss rd (bw n):=List.mem_filter.mpr ⟨List.mem_map.mpr ⟨B h,hg,rfl⟩,decide_eq_true y⟩
    rw[nc]at this
    cases this
   have hs:=Bc (rises:=rises) (ss:=ss) (rd:=rd) (B h)
   rw[hno,eB,List.map_cons,List.sum_cons]at hs
   omega
  ·rw[if_neg z]
   have ht:t∈r:=by
    have:t∈B t:=(bt.mem t).mpr .refl
    rw[eB]at this
    rcases List.mem_cons.mp this with y|y
    ·exact absurd y.symm z
    ·exact y
   rw[sy (f:=fun q=>if q=t then ix rises ss rd q else 0) n2 ht (fun q _ hq=>if_neg hq),if_pos rfl]
   omega
 ·have hp0:0<=p/\p<=(n:Int):=by
   rcases List.mem_cons.mp (List.mem_filter.mp hp).1 with y|y
   ·omega
   ·have:=cS.mp y;omega
  have bp:=hB p hp0
  have hpH:=of_decide_eq_true (List.mem_filter.mp hp).2
  have nt:t∉B p:=fun z=>by
   have tie:kE (aO ss rd) t p:=((bp.mem t).mp z).symm
   have:B p=B t:=o1.uniq (ss:=aO ss rd) (p:=t) ⟨fun q=>(bp.mem q).trans ⟨fun y=>tie.trans y,fun y=>tie.symm.trans y⟩,bp.nd,bp.srt⟩ bt
   rw[this,eB]at hpH
   simp at hpH
   exact hne hpH.symm
  show ((B p).tail.map fun q=>if q=t then ix rises ss rd q else 0).sum - (if p=t then ((B p).tail.map (ix rises ss rd)).sum else 0)=0
  rw[uk (fun q hq=>if_neg fun (y:q=t)=>nt (List.mem_of_mem_tail (y▸hq))),if_neg (fun y=>nt (by rw[<-y];exact(bp.mem p).mpr .refl))]
  rfl
end
section
variable {n:Nat} {ss:List bf} {rises:List Int} {rd:List (Int×Int)}
def Bg (a:Int->Int) (ps:List (Int×Int)):Int->Int:=ps.foldl (fun a p=>fun x=>if x=p.1 then p.2 else a x) a
theorem wZ:∀(ps:List (Int×Int)) (a:Int->Int),(∀p∈ps,p.1∈ss.map (·.1))->dG (dz ss a) (d9 ps)=dz ss (Bg a ps)
 |[],a,_=>rfl
 |p::ps,a,h=>by
  show dG (ji (dz ss a) (Sum.inl p.1) (.int p.2)) (d9 ps)=_
  rw[ug (h p List.mem_cons_self),wZ ps _ fun q hq=>h q (List.mem_cons_of_mem _ hq)]
  rfl
theorem Bh {a:Int->Int} {k:Int}:∀{ps:List (Int×Int)},k∉ps.map (·.1)->Bg a ps k=a k:=by
 intro ps
 induction ps generalizing a with
 |nil=>intro _;rfl
 |cons p ps ih=>
  intro h
  show Bg (fun x=>if x=p.1 then p.2 else a x) ps k=a k
  rw[ih fun z=>h (List.mem_cons_of_mem _ z)]
  exact if_neg fun z=>h (by rw[z];exact List.mem_cons_self)
theorem Bi {a:Int->Int} {p:Int×Int}:∀{ps:List (Int×Int)},(ps.map (·.1)).Nodup->p∈ps->Bg a ps p.1=p.2:=by
 intro ps
 induction ps generalizing a with
 |nil=>intro _ h;cases h
 |cons q ps ih=>
  intro nd h
  obtain⟨n1,n2⟩:=List.nodup_cons.mp (show (q.1::ps.map (·.1)).Nodup from nd)
  show Bg (fun x=>if x=q.1 then q.2 else a x) ps p.1=p.2
  rcases List.mem_cons.mp h with rfl|h
  ·rw[Bh n1]
   exact if_pos rfl
  ·exact ih n2 h
theorem Dc (nd:(rd.map (·.1)).Nodup) (k:Int):Bg (fun _=>0) rd k=kD rd k:=by
 by_cases h:k∈rd.map (·.1)
 ·obtain⟨p,hp,rfl⟩:=List.mem_map.mp h
  rw[Bi nd hp,wK nd hp]
 ·rw[Bh h]
  unfold kD
  have:=u4 rd k
  rw[decide_eq_false h]at this
  rw[mn nd,Option.isSome_eq_false_iff.mp this|>Option.isNone_iff_eq_none.mp]
theorem lB {a b:Int->Int} {t:Int}:∀{ss:List bf},(∀r∈ss,a r.1=b r.1)->eJ a ss t=eJ b ss t
 |[],_=>rfl
 |r::ss,h=>by rw[i5,i5,h r List.mem_cons_self,lB fun q hq=>h q (List.mem_cons_of_mem _ hq)]
def ul (ss:List bf) (a:Int->Int):List (Int×Int):=ss.map fun r=>(r.1,a r.1)
theorem w_ {a:Int->Int}:∀ss:List bf,gf (dz ss a)=some (ss.map (·.1),(ul ss a).map aC)
 |[]=>rfl
 |r::ss=>by
  show (gf (dz ss a)).map _=_
  rw[w_ ss]
  rfl
theorem nK (c:fS n ss rises rd) {B:Int->List Int} (hB:∀p:Int,0<=p/\p<=n->o1 (aO ss rd) p (B p)):
  (bP B rises ss rd (bw n)=[]->bE [aN n ss rises rd]= .ok .non)/\(bP B rises ss rd (bw n)≠[]->∃ρ,bE [aN n ss rises rd]= .err "Clashing" ρ):=by
 have hc:=sv c hB
 have t:fT (f2 we (cU eW (aa (aE eo 1 (aa (au 0) (aj))) (aj))) (fC (.int 0))) [some (.val (aN n ss rises rd))]= .ok (decide (((bP B rises ss rd (bw n)).length:Int)>0)):=by
  simp! [hc,List.length_map]
 refine⟨fun h=> ?_,fun h=>⟨[some (.val (aN n ss rises rd))],wG rfl ?_⟩⟩
 ·rw[h]at t
  show aW 1 1 gl [aN n ss rises rd]=_
  have e:gl [some (.val (aN n ss rises rd))]= .ok (.nx [some (.val (aN n ss rises rd))]):=(Hh t).trans rfl
  unfold aW
  rw[if_pos (show [aN n ss rises rd].length=1 from rfl),show eF 1 [aN n ss rises rd]=[some (.val (aN n ss rises rd))]from rfl,e]
  rfl
 ·have:0<(bP B rises ss rd (bw n)).length:=List.length_pos_iff.mpr h
  rw[decide_eq_true (by omega)]at t
  exact(Hg t).trans rfl
theorem vI (c:fS n ss rises rd) {B:Int->List Int} (hB:∀p:Int,0<=p/\p<=n->o1 (aO ss rd) p (B p)) (nc:bP B rises ss rd (bw n)=[]):
  ∃ps:List (Int×Int),bO [aN n ss rises rd]= .ok (.tup (ps.map aC))/\ps.map (·.1)=ss.map (·.1)/\(∀p∈rd,p∈ps)/\∀t:Int,1<=t->t<=n->eJ (kD ps) ss t=rises.getD (t - 1).toNat 0:=by
 have len:=c.len
 have ten:=c.ten
 have lol:=c.lol
 have hr:=(nK c hB).1 nc
 have hw:=mq c
 have hb:=mx (sd:= .tup ((aO ss rd).map ay)) (.inr rfl) (by omega) c.inRl c.n7 hB
 rw[nJ,Bd,List.map_map]at hb
 have good:∀g∈vH n B,(0<=g.1/\g.1<=(n:Int))/\∀t∈g.2,1<=t/\t<=(n:Int)/\kE (aO ss rd) g.1 t:=fun g hg=>by
  obtain⟨p,hp,rfl⟩:=List.mem_map.mp hg
  have hp0:0<=p/\p<=(n:Int):=by
   rcases List.mem_cons.mp (List.mem_filter.mp hp).1 with y|y
   ·omega
   ·have:=cS.mp y;omega
  have bp:=hB p hp0
  have hpH:=of_decide_eq_true (List.mem_filter.mp hp).2
  refine⟨hp0,fun t ht=> ?_⟩
  have tie:=(bp.mem t).mp (List.mem_of_mem_tail ht)
  have hrg:=kE.range c.inRl hp0 tie
  refine⟨?_,hrg.2,tie⟩
  obtain⟨x,r,e,_,hl⟩:=bp.head
  rw[e]at hpH ht
  have ex:x=p:=by simpa using hpH
  subst ex
  have ht':t∈r:=ht
  have nd:(x::r).Nodup:=e▸bp.nd
  have h3:=hl t tie
  have h4:t≠x:=fun z=>(List.nodup_cons.mp nd).1 (z▸ht')
  omega
 obtain⟨a',y3,y4,y5,y6,y7,el,e1,e2⟩:=pO c (vH n B) (Bg (fun _=>0) rd) none none none none none good
 have agree:∀r∈ss,kD (ul ss a') r.1=a' r.1:=fun r hr=>by
  have nd:((ul ss a').map (·.1)).Nodup:=by
   unfold ul
   rw[List.map_map]
   exact c.good.nd
  exact wK (p:=(r.1,a' r.1)) nd (List.mem_map.mpr ⟨r,hr,rfl⟩)
 refine⟨ul ss a',aV rfl ?_,by unfold ul;rw[List.map_map];rfl,fun p hp=> ?_,fun t h1 h2=> ?_⟩
 ·show jr [some (.val (aN n ss rises rd)),none,none,none,none,none,none,none]=_
  unfold jr
  have s1:qK (aE bE 1 (aa (au 0) (aj))) [some (.val (aN n ss rises rd)),none,none,none,none,none,none,none]= .ok (.nx [some (.val (aN n ss rises rd)),none,none,none,none,none,none,none]):=by
   unfold qK
   rw[kt (n:=1) (ds:=[aN n ss rises rd]) (bQ (f:=au 0) (fs:=aj) rfl rfl) rfl hr]
   rfl
  have p0:(ul ss fun _=>0).map vC=ss.map fun r=>D.tup [.int r.1, .int 0]:=by unfold ul;rw[List.map_map];rfl
  have d1:=kg (pd:= .lst ((ul ss fun _=>0).map vC)) (ps:=ul ss fun _=>0) (.inl rfl)
  rw[mn (by unfold ul;rw[List.map_map];exact c.good.nd)]at d1
  have pe:d9 (ul ss fun _=>0)=dz ss fun _=>0:=by unfold d9 ul dz;rw[List.map_map];rfl
  rw[pe,p0]at d1
  have s2:qG 1 (cU jv (aa (fL (ib ["day","amounts","unmetered","bunch","tank","lack","number","direction"] [(".0", .local),("stream", .local)] (cW (d0 "Day" "streams" (af 0))) (gN 1) (jC) (iW (aa (f2 bT (af 1) (fC (.int 0))) (aa (fC (.int 0)) (aj)))))) (aj))) [some (.val (aN n ss rises rd)),none,none,none,none,none,none,none]
    = .ok (.nx [some (.val (aN n ss rises rd)),some (.own (.dic (dz ss fun _=>0))),none,none,none,none,none,none]):=by
   have lm2:(2:Nat)<=lim:=by decide
   have e:=jS (g:=jv) (bQ (xQ (iD (N:=["day","amounts","unmetered","bunch","tank","lack","number","direction"]) (names:=[(".0", .local),("stream", .local)]) (fi:=cW (d0 "Day" "streams" (af 0))) (g:=gN 1) (ρ:=[some (.val (aN n ss rises rd)),none,none,none,none,none,none,none]) (ds:=ss.map ay) (τ:=[none,none]) (by simp! [d0,aN,yi]) (by simp[lim];omega) rfl
    (so (gt:=jC) (fe:=iW (aa (f2 bT (af 1) (fC (.int 0))) (aa (fC (.int 0)) (aj)))) (e:=fun r:bf=>D.tup [.int r.1, .int 0]) (p:=fun _=>true) ss (fun _ _=>rfl) (fun r _ _=>by simp! [ay,fE,lm2]) none))) (fs:=aj) rfl) (by rw[List.filter_eq_self.mpr (fun _ _=>rfl)];exact d1)
   unfold qG
   rw[e]
   rfl
  have d2:=kg (pd:= .tup (rd.map aC)) (ps:=rd) (.inr rfl)
  rw[mn c.rnd]at d2
  have hll:(dz ss fun _=>0).length+(d9 rd).length<lim:=by unfold dz d9;rw[List.length_map,List.length_map];unfold lim;omega
  have hmg:=wZ (ss:=ss) rd (fun _=>0) fun p hp=>c.sub.subset (List.mem_map_of_mem hp)
  have s3:Az 1 (cU jv (aa (d0 "Day" "readings" (af 0)) (aj))) [some (.val (aN n ss rises rd)),some (.own (.dic (dz ss fun _=>0))),none,none,none,none,none,none]
    = .ok (.nx [some (.val (aN n ss rises rd)),some (.own (.dic (dz ss (Bg (fun _=>0) rd)))),none,none,none,none,none,none]):=by
   have e:=jS (g:=jv) (ρ:=[some (.val (aN n ss rises rd)),some (.own (.dic (dz ss fun _=>0))),none,none,none,none,none,none]) (bQ (fs:=aj) (m_ (fa:=af 0) rfl AT) rfl) d2
   simp only[Az,List.getElem?_cons_succ,List.getElem?_cons_zero,e,ax,hll,if_true,hmg,List.set_cons_succ,List.set_cons_zero]
  have s4:aT (j4 "Day" "without_meter" 1 aX (au 0) aj) (gN 2) [some (.val (aN n ss rises rd)),some (.own (.dic (dz ss (Bg (fun _=>0) rd)))),none,none,none,none,none,none]
    = .ok (.nx [some (.val (aN n ss rises rd)),some (.own (.dic (dz ss (Bg (fun _=>0) rd)))),some (.val (.tup ((aO ss rd).map ay))),none,none,none,none,none]):=GU (DJ rfl hw)
  have hf:cW (aE cu 2 (aa (d0 "Day" "tanks" (af 0)) (aa (au 2) (aj)))) [some (.val (aN n ss rises rd)),some (.own (.dic (dz ss (Bg (fun _=>0) rd)))),some (.val (.tup ((aO ss rd).map ay))),none,none,none,none,none]= .ok ((vH n B).map fun g=>bD (g.1::g.2)):=by
   unfold cW
   rw[kt (n:=2) (ds:=[.int (n:Int), .tup ((aO ss rd).map ay)]) (bQ (m_ rfl Fk) (bQ (f:=au 2) (fs:=aj) rfl rfl)) rfl hb]
   rfl
  rw[aw s1,aw s2,aw s3,aw s4,aw ((dH hf).trans el)]
  refine ic (jS (bQ (fs:=aj) (d:= .lst ((ul ss a').map aC)) ?_ rfl) rfl)
  have hs:jw ((ul ss a').map aC)=(ul ss a').map aC:=pb (.refl _) (by
   unfold ul
   rw[List.map_map,List.pairwise_map]
   exact c.good.inc)
  unfold rZ
  simp only[af,List.getElem?_cons_succ,List.getElem?_cons_zero,oX,ax,w_]
  rw[if_pos ⟨c.good.nd,by rw[List.length_map];omega⟩,hs]
 ·have hk:p.1∈rd.map (·.1):=List.mem_map_of_mem hp
  obtain⟨r,hr',e⟩:=List.mem_map.mp (c.sub.subset hk)
  refine List.mem_map.mpr ⟨r,hr',?_⟩
  rw[e,e2 _ hk,Bi c.rnd hp]
 ·rw[lB agree,e1 t,Bf c hB nc h1 h2,Bb,lB fun r _=>Dc c.rnd r.1]
  omega
end
theorem Bj {ds:List D}:CF (.tup ds) (.tup [])=some (.bl (!ds.isEmpty)):=rfl
theorem q_ {m:List D->R D} {k:Nat} {fs:ai->R (List D)} {ρ ρ':ai} {ds:List D} {x:Str} (h:fs ρ= .ok ds) (hl:ds.length=k) (e:m ds= .err x ρ'):aE m k fs ρ= .err x ρ:=by
 unfold aE
 rw[h]
 simp only[ax,hl,if_true,e]
section
variable {n:Nat} {ss:List bf} {rises:List Int} {rd:List (Int×Int)}
theorem um {ρ':ai} (h:bE [aN n ss rises rd]= .err "Clashing" ρ'):∃ρ,bO [aN n ss rises rd]= .err "Clashing" ρ:=by
 refine⟨[some (.val (aN n ss rises rd)),none,none,none,none,none,none,none],wG rfl (CS ?_)⟩
 have e:aE bE 1 (aa (au 0) (aj)) [some (.val (aN n ss rises rd)),none,none,none,none,none,none,none]= .err "Clashing" [some (.val (aN n ss rises rd)),none,none,none,none,none,none,none]:=q_ (ds:=[aN n ss rises rd]) (bQ (f:=au 0) (fs:=aj) rfl rfl) rfl h
 show qK _ [some (.val (aN n ss rises rd)),none,none,none,none,none,none,none]=_
 unfold qK
 rw[e]
 rfl
theorem vJ:(∀z,bO [aN n ss rises rd]= .ok z->fD [aN n ss rises rd]= .ok (.lst [z, .str ""]))/\
  (∀ρ,bO [aN n ss rises rd]= .err "Clashing" ρ->fD [aN n ss rises rd]= .ok (.lst [.non, .str "Clashing"])):=by
 have l2:(2:Nat)<=lim:=by decide
 refine⟨fun z hz=>aV rfl ?_,fun ρ hz=>aV rfl ?_⟩
 ·show gS [some (.val (aN n ss rises rd)),none,none,none]=_
  unfold gS
  rw[aw (ρ':=[some (.val (aN n ss rises rd)),some (.own (.lst [])),none,none]) rfl]
  refine kq ?_
  have e:iM (aa (aE bO 1 (aa (au 0) (aj))) (aa (fC (.str "")) (aj))) [some (.val (aN n ss rises rd)),some (.own (.lst [])),none,none]= .ok (.lst [z, .str ""]):=by
   simp! [hz,l2]
  unfold Ak
  rw[ic e]
 ·show gS [some (.val (aN n ss rises rd)),none,none,none]=_
  have e:bM (iM (aa (aE bO 1 (aa (au 0) (aj))) (aa (fC (.str "")) (aj)))) [some (.val (aN n ss rises rd)),some (.own (.lst [])),none,none]= .err "Clashing" [some (.val (aN n ss rises rd)),some (.own (.lst [])),none,none]:=by
   have e0:aE bO 1 (aa (au 0) (aj)) [some (.val (aN n ss rises rd)),some (.own (.lst [])),none,none]= .err "Clashing" [some (.val (aN n ss rises rd)),some (.own (.lst [])),none,none]:=q_ (ds:=[aN n ss rises rd]) (bQ (f:=au 0) (fs:=aj) rfl rfl) rfl hz
   unfold bM iM
   rw[show aa (aE bO 1 (aa (au 0) (aj))) (aa (fC (.str "")) (aj)) [some (.val (aN n ss rises rd)),some (.own (.lst [])),none,none]= .err "Clashing" [some (.val (aN n ss rises rd)),some (.own (.lst [])),none,none] by
    rw[aa,e0];rfl]
   rfl
  unfold gS
  rw[aw (ρ':=[some (.val (aN n ss rises rd)),some (.own (.lst [])),none,none]) rfl,
   aw (ρ':=[some (.val (aN n ss rises rd)),some (.val (.lst [.bl true, .bl true, .bl false, .bl false, .bl false, .bl false])),none,none]) (by unfold Ak;rw[e];rfl)]
  rfl
end
theorem main (ns:List Int) (_:ns.length<=63):qN [.scr ns]= .ok (.bl true):=by
 obtain⟨n,ss,rises,rd,ec,c⟩:=yf ns
 have hd:=AR ns c
 have hk:=yj c
 obtain⟨B,hB⟩:=AY c.inRl c.n7
 have hdue:=AZ c hB
 obtain⟨A0,A1⟩:=vJ (n:=n) (ss:=ss) (rises:=rises) (rd:=rd)
 refine aV rfl ?_
 show wx [some (.val (.scr ns)),none,none,none]=_
 by_cases nc:bP B rises ss rd (bw n)=[]
 ·obtain⟨ps,e,h1,h2,h3⟩:=vI c hB nc
  have ha:=A0 _ e
  have hs:=nS c h1 h2 h3
  rw[nc]at hdue
  have q:kn (.str "") (.str "")=some (.bl true):=rfl
  have m:([]:List (List Int×Int×Int)).map mz=[]:=rfl
  rw[m]at hdue
  simp! [wx,ec,hd,ha,hk,hdue,Bj,List.isEmpty_nil,jy,fE,q,hs]
 ·obtain⟨ρ,e⟩:=(nK c hB).2 nc
  obtain⟨ρ',e2⟩:=um e
  have ha:=A1 _ e2
  have q:kn (.str "Clashing") (.str "Clashing")=some (.bl true):=rfl
  have ne:(((bP B rises ss rd (bw n)).map mz).isEmpty)=false:=by
   rw[List.isEmpty_map]
   exact List.isEmpty_eq_false_iff.mpr nc
  simp! [wx,ec,hd,ha,hk,hdue,Bj,ne,jy,q]
end My
end
namespace PySem.W.Fast
theorem tw10108017560226249678:True:=.intro
theorem tw10252278317276740515:True:=.intro
theorem tw10457074717996920652:True:=.intro
theorem tw10476467832421667267:True:=.intro
theorem tw10539943431363647093:True:=.intro
theorem tw10609477335065727016:True:=.intro
theorem tw1084942141997272716:True:=.intro
theorem tw10864830601426183517:True:=.intro
theorem tw11120599761560757071:True:=.intro
theorem tw11693044972786502437:True:=.intro
theorem tw12414771184404371030:True:=.intro
theorem tw12577988842206515111:True:=.intro
theorem tw12580199383771721865:True:=.intro
theorem tw1267470493737679002:True:=.intro
theorem tw12749999871527862768:True:=.intro
theorem tw12985310144583244889:True:=.intro
theorem tw13007255315051598652:True:=.intro
theorem tw13154336396836805164:True:=.intro
theorem tw13243152236636145283:True:=.intro
theorem tw13990875483652762022:True:=.intro
theorem tw14066137167322501940:True:=.intro
theorem tw14292578890670258975:True:=.intro
theorem tw14930582809238527467:True:=.intro
theorem tw14990377076783186096:True:=.intro
theorem tw15240015011158768375:True:=.intro
theorem tw15378031837289549223:True:=.intro
theorem tw15390182996324741251:True:=.intro
theorem tw15531134170008567023:True:=.intro
theorem tw15788438415802566366:True:=.intro
theorem tw15887090744761841518:True:=.intro
theorem tw15890071667014220924:True:=.intro
theorem tw1626554166497991260:True:=.intro
theorem tw1678050249319591572:True:=.intro
theorem tw17010465464859878944:True:=.intro
theorem tw17111319842645967690:True:=.intro
theorem tw17341658186110577177:True:=.intro
theorem tw1737842561056726331:True:=.intro
theorem tw17551863401298470795:True:=.intro
theorem tw17579294555990186216:True:=.intro
theorem tw17887730980648175791:True:=.intro
theorem tw182566197529004212:True:=.intro
theorem tw2534719600802860430:True:=.intro
theorem tw2571690180998178528:True:=.intro
theorem tw2645618710297396894:True:=.intro
theorem tw3107735153602363863:True:=.intro
theorem tw3143967453410308036:True:=.intro
theorem tw3167594092191687549:True:=.intro
theorem tw3228221803075128439:True:=.intro
theorem tw3383712865086984204:True:=.intro
theorem tw3619591735898325592:True:=.intro
theorem tw3868682770779331935:True:=.intro
theorem tw3980763527367496559:True:=.intro
theorem tw4066544473684130790:True:=.intro
theorem tw4075882946675252595:True:=.intro
theorem tw4211118216430827789:True:=.intro
theorem tw4238260256440535997:True:=.intro
theorem tw4416900050868039649:True:=.intro
theorem tw458362687754099230:True:=.intro
theorem tw4822332095850666340:True:=.intro
theorem tw5103586032014661052:True:=.intro
theorem tw5511376897707491413:True:=.intro
theorem tw5670457417679272117:True:=.intro
theorem tw6980413614034079903:True:=.intro
theorem tw7201535167097027213:True:=.intro
theorem tw7441590989337042671:True:=.intro
theorem tw7477580328314432058:True:=.intro
theorem tw7482159196157469033:True:=.intro
theorem tw7558677122375769310:True:=.intro
theorem tw8115449776934870466:True:=.intro
theorem tw8188136114452905150:True:=.intro
theorem tw8660867442877957602:True:=.intro
theorem tw8666036147981996875:True:=.intro
theorem tw8863564833207505047:True:=.intro
theorem tw90285244307276082:True:=.intro
theorem tw9187887231014418226:True:=.intro
theorem tw9213491027096812085:True:=.intro
theorem tw9296370427260013898:True:=.intro
theorem tw9305657354851944570:True:=.intro
theorem tw9407304103209215764:True:=.intro
theorem tw9552462677854980932:True:=.intro
theorem tw959510284947147065:True:=.intro
theorem tw9748601192143200456:True:=.intro
theorem tw9816534285281693004:True:=.intro
end PySem.W.Fast
open PySem PySem.W PyProof.Rows
set_option maxRecDepth 100000 in
set_option maxHeartbeats 0 in
theorem PySem.Challenge.cw_tankbalance_k10_setting_holds : PySem.Challenge.rw_tankbalance_k10_setting.Holds := by
  w_on; o_law; k_head; (case hw => w_witness2)
  k_fill
  refine My.walk (l := PySem.Challenge.rw_tankbalance_k10_setting) rfl rfl (fun w h Y => PySem.W.kIn_of Y) My.main ?F
  case F =>
    intro w mg fa h KX G hmg
    refine' My.Ff KX G hmg ?_ ?_ ?_ ?_ ?_ ?_ ?_ ?_ ?_ ?_ ?_ ?_ ?_ ?_ ?_ ?_ ?_ ?_ ?_ ?_ ?_ ?_ ?_ ?_ ?_ ?_ ?_ ?_ ?_ ?_ ?_ ?_ ?_ ?_ ?_ ?_ ?_ ?_ ?_ ?_ ?_ ?_ ?_ ?_ ?_ ?_ ?_ ?_ ?_ ?_ ?_ ?_ ?_ ?_ ?_ ?_ ?_ ?_ ?_ ?_ ?_ ?_ ?_ ?_ ?_ ?_ ?_ ?_ ?_ ?_ ?_ ?_ ?_ ?_ ?_ ?_ ?_ ?_ ?_ ?_ ?_ ?_ ?_ ?_ ?_ ?_ ?_ ?_ ?_ ?_ ?_ ?_ ?_ ?_ ?_ ?_ ?_ ?_ ?_ ?_ ?_ ?_ ?_ ?_ ?_ ?_ ?_ ?_ ?_ ?_ ?_ ?_ ?_ ?_ ?_ ?_ ?_ ?_ ?_ ?_ ?_ ?_ ?_ ?_ ?_ ?_ ?_ ?_ ?_ ?_ ?_ ?_ ?_ ?_ ?_ ?_ ?_ ?_ ?_ ?_ ?_ ?_ ?_ ?_ ?_ ?_ ?_ ?_ ?_ ?_ ?_ ?_ ?_ ?_ ?_ ?_ ?_ ?_ ?_ ?_ ?_ ?_ ?_ ?_ ?_ ?_ ?_ ?_ ?_ ?_ ?_ ?_ ?_ ?_ ?_ ?_ ?_ ?_ ?_ ?_ ?_ ?_ ?_ ?_ ?_ ?_ ?_ ?_ ?_ ?_ ?_ ?_ ?_ ?_ ?_ ?_ ?_ ?_ ?_ ?_ ?_ ?_ ?_ ?_ ?_ ?_ ?_ ?_ ?_ ?_ ?_ ?_ ?_ ?_ ?_ ?_ ?_ ?_
    all_goals try first | k_is | k_exc
