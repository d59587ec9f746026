import PyProof.Rows.All
import Wide.All
import OpenK.AllK
import Wide.FinOn
import Lean
import PyProof.EqAt
import PyProof.EqKinds
import PyProof.TupleCall
import PyProof.NeKinds
import PySem.Challenge.RW_tankbalance_k12_ring
set_option Elab.async false
set_option linter.all false
set_option maxRecDepth 100000
set_option maxHeartbeats 4000000
local macro_rules | `(tactic| omega) => `(tactic| lia)
namespace L2
open PySem PySem.Spec PyProof.Rows
noncomputable abbrev Key:=Sum Int Str
noncomputable def keyIs:Key->Value->Bool
 | .inl k,v=>Value.isInt k v
 | .inr x,v=>Value.isStrOf x v
noncomputable def keyH (w:World):Key->Int
 | .inl k=>hashInt k
 | .inr x=>hashStr w x
theorem keyIs_shape:∀{k:Key} {v:Value},keyIs k v=true->(∃i t,k=Sum.inl i/\v=Value.int i t)\/(∃x t,k=Sum.inr x/\v=Value.str x t)
 | .inl i,v,h=>by
  obtain⟨t,e⟩:=Value.isInt_shape (k:=i) (v:=v) h
  exact .inl ⟨i,t,rfl,e⟩
 | .inr x,v,h=>by
  obtain⟨t,e⟩:=Value.isStrOf_shape (x:=x) (v:=v) h
  exact .inr ⟨x,t,rfl,e⟩
theorem keyIs_int (i:Int) (t:Tok):keyIs (.inl i) (.int i t)=true:=by simp[keyIs,Value.isInt]
theorem keyIs_str (x:Str) (t:Tok):keyIs (.inr x) (.str x t)=true:=by simp[keyIs,Value.isStrOf]
theorem key_ll (a b:Int):decide ((Sum.inl a:Key)=Sum.inl b)=(a==b):=by
 by_cases e:a=b
 ·subst e;simp
 ·have h:¬(Sum.inl a:Key)=Sum.inl b:=fun q=>e (Sum.inl.inj q)
  rw[decide_eq_false h]
  exact(beq_eq_false_iff_ne.mpr e).symm
theorem key_rr (a b:Str):decide ((Sum.inr a:Key)=Sum.inr b)=decide (a=b):=by
 by_cases e:a=b
 ·subst e;simp
 ·have h:¬(Sum.inr a:Key)=Sum.inr b:=fun q=>e (Sum.inr.inj q)
  rw[decide_eq_false h,decide_eq_false e]
theorem key_lr (a:Int) (b:Str):decide ((Sum.inl a:Key)=Sum.inr b)=false:=decide_eq_false (fun q=>nomatch q)
theorem key_rl (a:Str) (b:Int):decide ((Sum.inr a:Key)=Sum.inl b)=false:=decide_eq_false (fun q=>nomatch q)
noncomputable def mixKind (prog:Program) (w:World):PySem.KeyKind prog w Key where
 is:=keyIs
 hash:=keyH w
 inj:=fun v a b ha hb=>by
  rcases keyIs_shape ha with ⟨i,t,rfl,rfl⟩|⟨x,t,rfl,rfl⟩
  ·rcases keyIs_shape hb with ⟨j,u,rfl,e⟩|⟨y,u,rfl,e⟩
   ·injection e with e1 _;rw[e1]
   ·exact nomatch e
  ·rcases keyIs_shape hb with ⟨j,u,rfl,e⟩|⟨y,u,rfl,e⟩
   ·exact nomatch e
   ·injection e with e1 _;rw[e1]
 byValue:=fun k v h=>by
  rcases keyIs_shape h with ⟨i,t,rfl,rfl⟩|⟨x,t,rfl,rfl⟩<;>rfl
 pyHash:=fun hv h=>by
  rcases keyIs_shape hv with ⟨i,t,rfl,rfl⟩|⟨x,t,rfl,rfl⟩
  ·exact wpAny_pyHash_int h
  ·exact wpAny_pyHash_str h
 eqBool:=fun hu hv h=>by
  rcases keyIs_shape hu with ⟨i,t,rfl,rfl⟩|⟨x,t,rfl,rfl⟩
  ·rcases keyIs_shape hv with ⟨j,u,rfl,rfl⟩|⟨y,u,rfl,rfl⟩
   ·rw[key_ll]at h;exact wpAny_eqBool_int h
   ·rw[key_lr]at h;exact SeqAt.EqAt.int_str i t y u _ _ _ _ h
  ·rcases keyIs_shape hv with ⟨j,u,rfl,rfl⟩|⟨y,u,rfl,rfl⟩
   ·rw[key_rl]at h;exact SeqAt.EqAt.str_int x t j u _ _ _ _ h
   ·rw[key_rr]at h;exact wpAny_eqBool_str h
 «strs»:=fun k x t v h=>by
  rcases keyIs_shape h with ⟨i,u,rfl,e⟩|⟨y,u,rfl,e⟩
  ·exact nomatch e
  ·injection e with e1 _
   subst e1
   cases v<;>rfl
theorem mixKind_int (prog:Program) (w:World) (i:Int) (t:Tok):(mixKind prog w).is (.inl i) (.int i t)=true:=keyIs_int i t
theorem mixKind_str (prog:Program) (w:World) (x:Str) (t:Tok):(mixKind prog w).is (.inr x) (.str x t)=true:=keyIs_str x t
end L2
namespace L2
open PySem PySem.Spec PyProof.Rows
inductive V where
 |non|bl (b:Bool)|int (i:Int)|str (x:Str)|byt (b:Array UInt8)|flt (b:UInt64)|ref (a:Addr)|ty (n:String)
 deriving DecidableEq
noncomputable def RelV:V->Value->Prop
 | .non,u=>u=Value.none
 | .bl b,u=>u=Value.bool b
 | .int i,u=>∃t,u=Value.int i t
 | .str x,u=>∃t,u=Value.str x t
 | .byt b,u=>∃t,u=Value.bytes b t
 | .flt b,u=>∃t,u=Value.float b t
 | .ref a,u=>u=Value.ref a
 | .ty n,u=>u=Value.type n
noncomputable abbrev Vals:List V->List Value->Prop:=Paired RelV
theorem Vals.length {xs:List V} {us:List Value} (r:Vals xs us):xs.length=us.length:=Paired.length r
theorem Vals.get:∀{xs:List V} {us:List Value} {i:Nat} {x:V},Vals xs us->xs[i]? =some x->∃u,us[i]? =some u/\RelV x u
 |_,_,_,_, .nil,e=>by simp at e
 |_,_,0,_, .cons r _,e=>by simp at e;subst e;exact⟨_,rfl,r⟩
 |_,_,i+1,x, .cons _ t,e=>by
  obtain⟨u,h1,h2⟩:=Vals.get (i:=i) (x:=x) t (by simpa using e)
  exact⟨u,by simpa using h1,h2⟩
theorem Vals.set {x:V} {u:Value} (r:RelV x u):∀{xs:List V} {us:List Value} (i:Nat),Vals xs us->Vals (xs.set i x) (us.set i u)
 |_,_,_, .nil=> .nil
 |_,_,0, .cons _ t=> .cons r t
 |_,_,i+1, .cons q t=> .cons q (Vals.set r i t)
theorem Vals.append:∀{xs ys:List V} {us ws:List Value},Vals xs us->Vals ys ws->Vals (xs++ys) (us++ws)
 |_,_,_,_, .nil,s=>s
 |_,_,_,_, .cons r t,s=> .cons r (Vals.append t s)
theorem Vals.take:∀{xs:List V} {us:List Value} (n:Nat),Vals xs us->Vals (xs.take n) (us.take n)
 |_,_,0,_=> .nil
 |_,_,_+1, .nil=> .nil
 |_,_,n+1, .cons r t=> .cons r (Vals.take n t)
theorem Vals.drop:∀{xs:List V} {us:List Value} (n:Nat),Vals xs us->Vals (xs.drop n) (us.drop n)
 |_,_,0,r=>r
 |_,_,_+1, .nil=> .nil
 |_,_,n+1, .cons _ t=>Vals.drop n t
noncomputable def RelO:Option V->Option Value->Prop
 |some v,some u=>RelV v u
 |none,none=>True
 |_,_=>False
noncomputable def KV {κ:Type}:List (κ×V)->List (κ×Value)->Prop:=Paired fun (p:κ×V) (q:κ×Value)=>p.1=q.1/\RelV p.2 q.2
noncomputable def kV:Key->V
 | .inl i=> .int i
 | .inr x=> .str x
inductive HO where
 |lst (xs:List V)
 |tup (xs:List V)
 |dK (kvs:List (Key×V))|dT (kvs:List (List Key×V))
 |set (S:Int->Bool) (n:Nat)
 |ins (C dx:Addr) (fs:List (Str×V))
 |own (x:Addr)
 |xd (fs:List (Str×V))
 |met (f x:Addr)
 |rng (lo hi:Int)
 |frz (o:Obj) (u:HO)
 |tbl (ps:Array Value)
 |ext (φ:Heap->Prop)
noncomputable abbrev Hp:=Addr->Option HO
noncomputable def upd (H:Hp) (a:Addr) (o:HO):Hp:=fun b=>if b=a then some o else H b
theorem upd_same {H:Hp} {a:Addr} {o:HO}:upd H a o a=some o:=by unfold upd;rw[if_pos rfl]
theorem upd_ne {H:Hp} {a b:Addr} {o:HO} (h:b≠a):upd H a o b=H b:=by unfold upd;rw[if_neg h]
theorem ne_of {H:Hp} {a b:Addr} {o u:HO} (h:H a=some o) (h':H b=some u) (d:o≠u):a≠b:=by
 intro e;subst e;rw[h]at h';exact d (Option.some.inj h')
theorem ne_of_none {H:Hp} {a b:Addr} {o:HO} (h:H a=some o) (h':H b=none):a≠b:=by
 intro e;subst e;rw[h]at h';cases h'
noncomputable def IsTupD (h:Heap) (a:Addr) (items:Array Value):Prop:=∃o,h.get? a=some o/\o.cls= .type "tuple"/\∃n,o.data= .seq items n/\o.dict=none
theorem IsTupD.tup {h:Heap} {a:Addr} {items:Array Value} (x:IsTupD h a items):IsTup h a items:=let ⟨o,ho,hc,n,hd,_⟩:=x;⟨o,ho,hc,n,hd⟩
theorem IsTupD.lt {h:Heap} {a:Addr} {items:Array Value} (x:IsTupD h a items):a<h.objs.size:=x.tup.lt
theorem IsTupD.new (h:Heap) (items:Array Value):IsTupD (h.push {cls:= .type "tuple",data:= .seq items}) h.objs.size items:=⟨_,Heap.get?_push_size _ rfl,rfl,_,rfl,rfl⟩
section
variable (P:Program) (w:World)
noncomputable def ObjOk (H:Hp) (h:Heap) (a:Addr):HO->Prop
 | .lst xs=>xs.length<=sizeLine/\∃(its:List Value) (n:Nat),Vals xs its/\h.get? a=some {cls:= .type "list",data:= .seq its.toArray n}
 | .tup xs=>xs.length<=sizeLine/\∃its:List Value,Vals xs its/\IsTupD h a its.toArray
 | .dK kvs=>kvs.length<=sizeLine/\(a==sysModules)=false/\∃vs,KV kvs vs/\h.DictOf (mixKind P w) a vs
 | .dT kvs=>kvs.length<=sizeLine/\(a==sysModules)=false/\∃xs:List (List Key×Addr×Value),
   Paired (fun (p:List Key×V) (q:List Key×Addr×Value)=>p.1=q.1/\H q.2.1=some (.tup (p.1.map kV))/\RelV p.2 q.2.2) kvs xs/\
   ∃o es ep,h.get? a=some o/\o.ExactDict/\o.data= .dict es ep/\es.toList=xs.map (entryOfKey (tupleKind (mixKind P w)))/\(xs.map (·.1)).Nodup
 | .set S n=>h.SetOf (intKind P w) a S n
 | .ins C dx fs=>H dx=some (.own a)/\fs.length<=1000/\dx≠a/\h.get? a=some (PySem.W.instObj C dx)/\
   ∃mA,h.Ns1 dx mA/\(∀f,RelO (fs.lookup f) (mA f))/\PySem.Within mA (fs.map (·.1))
 | .own _=>∃o,h.get? a=some o
 | .xd fs=>∃mA,h.Ns1 a mA/\∀f,RelO (fs.lookup f) (mA f)
 | .rng lo hi=>∃t u v,h.get? a=some {cls:= .type "range",data:= .fields #[.int lo t, .int hi u, .int 1 v]}
 | .frz o u=>h.get? a=some o/\ObjOk H h a u
 | .tbl ps=>h.get? a=some {cls:= .none,data:= .fields ps}
 | .met f x=>h.get? a=some (PySem.W.methodObj (.ref f) (.ref x))
 | .ext φ=>φ h/\(∃o,h.get? a=some o)/\∀h1 h2:Heap,φ h1->(∀o,h1.get? a=some o->h2.get? a=some o)->φ h2
noncomputable def HOk (H:Hp) (h:Heap):Prop:=∀a o,H a=some o->ObjOk P w H h a o
end
section
variable {P:Program} {w:World} {H H':Hp} {h h':Heap} {a:Addr} {o:HO}
theorem ObjOk.lt (x:ObjOk P w H h a o):a<h.objs.size:=by
 cases o with
 |lst xs=>obtain⟨_,_,_,_,e⟩:=x;exact Heap.lt_size e
 |tup xs=>obtain⟨_,_,_,p⟩:=x;exact p.lt
 |dK kvs=>obtain⟨_,_,_,_,o,_,_,e,_⟩:=x;exact Heap.lt_size e
 |dT kvs=>obtain⟨_,_,_,_,o,_,_,e,_⟩:=x;exact Heap.lt_size e
 |set S n=>obtain⟨o,_,_,_,e,_⟩:=x;exact Heap.lt_size e
 |ins C dx fs=>obtain⟨_,_,_,e,_⟩:=x;exact Heap.lt_size e
 |own y=>obtain⟨_,e⟩:=x;exact Heap.lt_size e
 |xd fs=>obtain⟨_,⟨_,_,_,e,_⟩,_⟩:=x;exact Heap.lt_size e
 |rng lo hi=>obtain⟨_,_,_,e⟩:=x;exact Heap.lt_size e
 |frz ob u=>obtain⟨e,_⟩:=x;exact Heap.lt_size e
 |tbl ps=>exact Heap.lt_size (show h.get? a=some _ from x)
 |met f y=>exact Heap.lt_size (show h.get? a=some _ from x)
 |ext φ=>obtain⟨_,⟨_,e⟩,_⟩:=x;exact Heap.lt_size e
theorem Paired.mapP {α β:Type} {F G:α->β->Prop}:∀{l₁:List α} {l₂:List β},Paired F l₁ l₂->(∀a b,F a b->G a b)->Paired G l₁ l₂
 |_,_, .nil,_=> .nil
 |_,_, .cons r t,f=> .cons (f _ _ r) (Paired.mapP t f)
theorem ObjOk.stay (x:ObjOk P w H h a o) (k:∀b u,(b=a\/H b=some (.own a))->h.get? b=some u->h'.get? b=some u)
  (ho:∀b,H b=some (.own a)->H' b=some (.own a)) (ht:∀b xs,H b=some (.tup xs)->H' b=some (.tup xs)):ObjOk P w H' h' a o:=by
 induction o with
 |lst xs=>obtain⟨z,its,n,r,e⟩:=x;exact⟨z,its,n,r,k _ _ (.inl rfl) e⟩
 |tup xs=>obtain⟨z,its,r,ob,e,c⟩:=x;exact⟨z,its,r,ob,k _ _ (.inl rfl) e,c⟩
 |dK kvs=>obtain⟨z,y,vs,r,ob,es,ep,e,c⟩:=x;exact⟨z,y,vs,r,ob,es,ep,k _ _ (.inl rfl) e,c⟩
 |dT kvs=>
  obtain⟨z,y,xs,r,ob,es,ep,e,c⟩:=x
  exact⟨z,y,xs,Paired.mapP r fun p q z=>⟨z.1,ht _ _ z.2.1,z.2.2⟩,ob,es,ep,k _ _ (.inl rfl) e,c⟩
 |set S n=>obtain⟨ob,es,ep,t,e,c⟩:=x;exact⟨ob,es,ep,t,k _ _ (.inl rfl) e,c⟩
 |ins C dx fs=>
  obtain⟨d,z,ne,e,mA,⟨od,es,ep,e2,c⟩,r⟩:=x
  exact⟨ho _ d,z,ne,k _ _ (.inl rfl) e,mA,⟨od,es,ep,k _ _ (.inr d) e2,c⟩,r⟩
 |own y=>obtain⟨ob,e⟩:=x;exact⟨ob,k _ _ (.inl rfl) e⟩
 |xd fs=>obtain⟨mA,⟨od,es,ep,e,c⟩,r⟩:=x;exact⟨mA,⟨od,es,ep,k _ _ (.inl rfl) e,c⟩,r⟩
 |rng lo hi=>obtain⟨t,u,v,e⟩:=x;exact⟨t,u,v,k _ _ (.inl rfl) e⟩
 |frz ob u ih=>obtain⟨e,q⟩:=x;exact⟨k _ _ (.inl rfl) e,ih q⟩
 |tbl ps=>
  have e:h.get? a=some {cls:= .none,data:= .fields ps}:=x
  show h'.get? a=some {cls:= .none,data:= .fields ps}
  exact k a _ (.inl rfl) e
 |met f y=>
  have e:h.get? a=some (PySem.W.methodObj (.ref f) (.ref y)):=x
  show h'.get? a=some (PySem.W.methodObj (.ref f) (.ref y))
  exact k a _ (.inl rfl) e
 |ext φ=>obtain⟨p,⟨o,e⟩,st⟩:=x;exact⟨st _ _ p fun o q=>k _ _ (.inl rfl) q,⟨o,k _ _ (.inl rfl) e⟩,st⟩
theorem HOk.lt (x:HOk P w H h) (e:H a=some o):a<h.objs.size:=(x a o e).lt
theorem HOk.fresh (x:HOk P w H h) (e:h.objs.size<=a):H a=none:=by
 cases q:H a with
 |none=>rfl
 |some u=>exact absurd (Nat.lt_of_lt_of_le (x.lt q) e) (Nat.lt_irrefl _)
theorem HOk.kept (x:HOk P w H h) (k:∀b u,h.get? b=some u->h'.get? b=some u):HOk P w H h':=fun a o e=>
 (x a o e).stay (fun b u _ q=>k b u q) (fun _ q=>q) fun _ _ q=>q
theorem HOk.laid (x:HOk P w H h) (k:∀b u,h.get? b=some u->h'.get? b=some u) (hp:h.objs.size<=a) (new:ObjOk P w (upd H a o) h' a o):HOk P w (upd H a o) h':=fun b u e=>by
 have hn:=x.fresh hp
 by_cases hb:b=a
 ·subst hb;rw[upd_same]at e;cases e;exact new
 ·rw[upd_ne hb]at e
  exact(x b u e).stay (fun c v _ q=>k c v q) (fun c q=>by rw[upd_ne (ne_of_none q hn)];exact q) fun c xs q=>by rw[upd_ne (ne_of_none q hn)];exact q
end
noncomputable def Rd (H:Hp) (a:Addr) (u:HO):Prop:=H a=some u\/∃o,H a=some (.frz o u)
theorem Rd.ok {P:Program} {w:World} {H:Hp} {h:Heap} {a:Addr} {u:HO} (r:Rd H a u) (x:HOk P w H h):ObjOk P w H h a u:=by
 rcases r with r|⟨o,r⟩
 ·exact x a u r
 ·obtain⟨_,q⟩:=x a _ r
  exact q
noncomputable def Mut:Option HO->Prop
 |some (.lst _)=>True
 |some (.dK _)=>True
 |some (.dT _)=>True
 |some (.set _ _)=>True
 |some (.ins _ _ _)=>True
 |some (.ext _)=>True
 |_=>False
section
variable {P:Program} {w:World} {H:Hp} {h h':Heap} {x e:Addr} {o':HO}
theorem HOk.write (ok:HOk P w H h) (mu:Mut (H x)) (he:e=x\/H e=some (.own x)) (k:∀b u,b≠e->h.get? b=some u->h'.get? b=some u) (heo:∃u,h'.get? e=some u)
  (new:ObjOk P w (upd H x o') h' x o'):HOk P w (upd H x o') h':=fun b u q=>by
 have nown:∀c y,H c=some (.own y)->c≠x:=fun c y r z=>by subst z;rw[r]at mu;exact mu
 have ntup:∀c xs,H c=some (.tup xs)->c≠x:=fun c xs r z=>by subst z;rw[r]at mu;exact mu
 by_cases hb:b=x
 ·subst hb;rw[upd_same]at q;cases q;exact new
 ·rw[upd_ne hb]at q
  by_cases hbe:b=e
  ·have q':H b=some (.own x):=by
    rcases he with z|z
    ·exact absurd (hbe.trans z) hb
    ·rw[hbe];exact z
   rw[q]at q';cases q'
   obtain⟨v,hv⟩:=heo
   exact⟨v,by rw[hbe];exact hv⟩
  ·refine(ok b u q).stay (fun c v hc r=>k c v ?_ r) (fun c r=>by rw[upd_ne (nown c b r)];exact r) fun c xs r=>by rw[upd_ne (ntup c xs r)];exact r
   rcases hc with rfl|hc
   ·exact hbe
   ·rintro rfl
    rcases he with z|z
    ·exact nown c b hc z
    ·rw[hc]at z;cases z;exact hb rfl
end
structure Un (fs ex:List Addr) (H H':Hp) (h h':Heap):Prop where
 keep:∀b o,h.get? b=some o->H b=none->b∉fs->b∉ex->h'.get? b=some o
 slot:∀b o,h.get? b=some o->H b=none->b∈fs->b∉ex->∃sl,h'.get? b=some {o with slots:=sl}
 free:∀b o,h.get? b=some o->H b=none->b∉ex->H' b=none
 there:∀b o,h.get? b=some o->b∉ex->∃o',h'.get? b=some o'
 tups:∀b xs,H b=some (.tup xs)->H' b=some (.tup xs)
 frzs:∀b o u,H b=some (.frz o u)->H' b=some (.frz o u)
 tbls:∀b ps,H b=some (.tbl ps)->∃more,H' b=some (.tbl (ps++more))
section
variable {fs fs' ex ex':List Addr} {H H1 H2:Hp} {h h1 h2 h':Heap} {a x e:Addr} {o:HO}
theorem Un.any (u:Un fs ex H H1 h h1) {b:Addr} {ob:Obj} (q:h.get? b=some ob) (n:H b=none) (hx:b∉ex):∃sl,h1.get? b=some {ob with slots:=sl}:=by
 by_cases hb:b∈fs
 ·exact u.slot b ob q n hb hx
 ·exact⟨ob.slots,u.keep b ob q n hb hx⟩
theorem Un.trans (a:Un fs ex H H1 h h1) (b:Un fs ex H1 H2 h1 h2):Un fs ex H H2 h h2 where
 keep:=fun c ob q n hc hx=>b.keep c ob (a.keep c ob q n hc hx) (a.free c ob q n hx) hc hx
 slot:=fun c ob q n hc hx=>by
  obtain⟨sl,e1⟩:=a.slot c ob q n hc hx
  obtain⟨sl',e2⟩:=b.slot c _ e1 (a.free c ob q n hx) hc hx
  exact⟨sl',e2⟩
 free:=fun c ob q n hx=>by
  obtain⟨o',e1⟩:=a.there c ob q hx
  exact b.free c o' e1 (a.free c ob q n hx) hx
 there:=fun c ob q hx=>by
  obtain⟨o',e1⟩:=a.there c ob q hx
  exact b.there c o' e1 hx
 tups:=fun c xs q=>b.tups c xs (a.tups c xs q)
 frzs:=fun c ob xs q=>b.frzs c ob xs (a.frzs c ob xs q)
 tbls:=fun c ps q=>by
  obtain⟨m1,e1⟩:=a.tbls c ps q
  obtain⟨m2,e2⟩:=b.tbls c _ e1
  exact⟨m1++m2,by rw[e2,Array.append_assoc]⟩
theorem Un.kept (k:∀b u,h.get? b=some u->h'.get? b=some u):Un fs ex H H h h':=
 ⟨fun b ob q _ _ _=>k b ob q,fun b ob q _ _ _=>⟨ob.slots,k b ob q⟩,fun _ _ _ n _=>n,fun b ob q _=>⟨ob,k b ob q⟩,fun _ _ q=>q,fun _ _ _ q=>q,fun _ ps q=>⟨#[],by rw[q];simp⟩⟩
theorem Un.refl:Un fs ex H H h h:=Un.kept fun _ _ q=>q
theorem Un.laid (k:∀b u,h.get? b=some u->h'.get? b=some u) (hp:h.objs.size<=a) (hn:H a=none):Un fs ex H (upd H a o) h h' where
 keep:=fun b u q _ _ _=>k b u q
 slot:=fun b u q _ _ _=>⟨u.slots,k b u q⟩
 free:=fun b u q n _=>by rw[upd_ne (Nat.ne_of_lt (Nat.lt_of_lt_of_le (Heap.lt_size q) hp))];exact n
 there:=fun b u q _=>⟨u,k b u q⟩
 tups:=fun b xs q=>by rw[upd_ne (ne_of_none q hn)];exact q
 frzs:=fun b u xs q=>by rw[upd_ne (ne_of_none q hn)];exact q
 tbls:=fun b ps q=>⟨#[],by rw[upd_ne (ne_of_none q hn),q];simp⟩
theorem Un.write (mu:Mut (H x)) (he:e=x\/H e=some (.own x)) (k:∀b u,b≠e->h.get? b=some u->h'.get? b=some u) (heo:∃u,h'.get? e=some u):Un fs ex H (upd H x o) h h':=by
 have hx:∀b,H b=none->b≠x:=fun b n z=>by subst z;rw[n]at mu;exact mu
 have hb:∀b,H b=none->b≠e:=fun b n z=>by
  subst z
  rcases he with r|r
  ·exact hx b n r
  ·rw[n]at r;cases r
 have hm:∀b u,H b=some u->¬Mut (some u)->b≠x:=fun b u q nm z=>by subst z;rw[q]at mu;exact nm mu
 refine⟨fun b u q n _ _=>k b u (hb b n) q,fun b u q n _ _=>⟨u.slots,k b u (hb b n) q⟩,fun b u q n _=>by rw[upd_ne (hx b n)];exact n,fun b u q _=> ?_,
  fun b xs q=>by rw[upd_ne (hm b _ q fun z=>z)];exact q,fun b u xs q=>by rw[upd_ne (hm b _ q fun z=>z)];exact q,fun b ps q=>⟨#[],by rw[upd_ne (hm b _ q fun z=>z),q];simp⟩⟩
 by_cases hbe:b=e
 ·subst hbe;exact heo
 ·exact⟨u,k b u hbe q⟩
end
noncomputable def trk (h:Heap) (H:Hp):List Addr:=(List.range h.objs.size).filter fun a=>(H a).isSome
noncomputable def hidT (h:Heap) (H:Hp):Heap:=PySem.W.hideAll h (trk h H)
theorem hidT_size (h:Heap) (H:Hp):(hidT h H).objs.size=h.objs.size:=PySem.W.hideAll_size _ _
theorem hidT_get {h:Heap} {H:Hp} {b:Addr} {o:Obj} (e:h.get? b=some o) (n:H b=none):(hidT h H).get? b=some o:=
 PySem.W.hideAll_get _ e fun hm=>by
  have q:(H b).isSome=true:=(List.mem_filter.mp hm).2
  rw[n]at q;simp at q
theorem of_hidT {h:Heap} {H:Hp} {b:Addr} {o:Obj} (e:(hidT h H).get? b=some o):h.get? b=some o/\H b=none:=by
 have e':h.get? b=some o:=PySem.W.of_hideAll (trk h H) e
 refine⟨e',?_⟩
 cases q:H b with
 |none=>rfl
 |some x=>
  have hm:b∈trk h H:=List.mem_filter.mpr ⟨List.mem_range.mpr (Heap.lt_size e'),by simp[q]⟩
  have z:(hidT h H).get? b=none:=PySem.W.hideAll_none (trk h H) hm
  rw[z]at e;cases e
end L2
namespace L2
open PySem PySem.Spec PyProof.Rows
structure Mod (K:PySem.W.Frag) (mg:Str->Option Value) (base:Heap):Prop where
 kin:K.In base
 glob:base.Ns mainGlobals mg
 blt:∃mb,base.Ns builtinsNs mb/\∀x:Str,x≠"__name__"->mb x=bootBuiltins x
 nolimit:base.NoLimit
structure Cx where
 prog:Program
 w:World
 K:PySem.W.Frag
 mg:Str->Option Value
 base:Heap
 A:Around
 N:List Str
 s₀:Shared
 H₀:Hp
 env:Env
 outer:List Env
 stack:List Env
 ex:List Addr
 fn:Str->Bool
 calm:Bool
 pn:List (Addr×Obj)
 xe:Value->Shared->Prop
noncomputable def frs (l:List Env):List Addr:=l.filterMap (·.frame)
noncomputable abbrev Cx.fs (X:Cx):List Addr:=frs X.outer
noncomputable def Vis (sc:Scope) (x:Str):Prop:=sc.names.lookup x=some .local\/sc.names.lookup x=some .cell\/sc.names.lookup x=some .free
noncomputable def Loc (sc:Scope) (x:Str):Prop:=sc.names.lookup x=some .local\/sc.names.lookup x=some .cell
noncomputable def Look (env:Env) (h:Heap) (m:Str->Option Value) (x:Str) (u:Value):Prop:=
 (env.kindOf x=some .local/\m x=some u)\/((env.kindOf x=some .cell\/env.kindOf x=some .free)/\∃c,env.cells.lookup x=some c/\h.IsCell c (some u))
structure Cx.Ok (X:Cx):Prop where
 mod:Mod X.K X.mg X.base
 kind:X.env.scope.kind= .function
 glob:X.env.globals=mainGlobals
 blt:X.env.builtins=builtinsNs
 above:X.s₀.heap.objs.size<=X.env.locals
 inj:∀x y c,X.env.cells.lookup x=some c->X.env.cells.lookup y=some c->x=y
 has:∀x,(X.env.kindOf x=some .cell\/X.env.kindOf x=some .free)->∃c,X.env.cells.lookup x=some c
 cab:∀x c,X.fn x=true->X.env.cells.lookup x=some c->X.s₀.heap.objs.size<=c
 hd:X.calm=true->X.A.handled=none
 frames:X.A.frames=some X.stack
 stk:X.stack=X.outer\/(X.stack=X.env::X.outer/\X.env.frame=some X.env.locals)
 exf:∀b∈X.ex,b≠X.env.locals/\∀x c,X.env.cells.lookup x=some c->c≠b
 bs:∀b o,X.base.get? b=some o->X.s₀.heap.get? b=some o/\X.H₀ b=none
 bsz:X.base.objs.size<=X.s₀.heap.objs.size
 noex:∀b o,X.base.get? b=some o->b∉X.ex
 exfs:∀b∈X.ex,b∉X.fs
 funs:X.s₀.heap.FunFrames X.base X.outer
 frf:∀b∈X.fs,X.H₀ b=none
structure Inv (X:Cx) (pins:List (Addr×Obj)) (σ:List (Option V)) (H:Hp) (s:Shared):Prop where
 ok:X.Ok
 os:s.os=X.s₀.os
 bare:AllBare s.gens
 base:Un X.fs X.ex X.H₀ H X.s₀.heap s.heap
 loc:∃m,s.heap.Ns X.env.locals m/\∀(i:Nat) (x:Str) (v:V),X.N[i]? =some x->σ[i]? =some (some v)->Vis X.env.scope x->∃u,RelV v u/\Look X.env s.heap m x u
 cell:∀x c,X.env.cells.lookup x=some c->∃v,s.heap.IsCell c v
 free:H X.env.locals=none
 freeC:∀x c,X.env.cells.lookup x=some c->H c=none
 pin:∀p∈X.pn++pins,s.heap.get? p.1=some p.2/\H p.1=none/\p.1≠X.env.locals/\p.1∉X.fs/\∀v,p.2.data≠ .cell v
 hok:HOk X.prog X.w H s.heap
 len:σ.length=X.N.length
section
variable {X:Cx} {pins:List (Addr×Obj)} {σ:List (Option V)} {H H':Hp} {s:Shared} {h':Heap}
theorem Cx.Ok.nofr (ok:X.Ok) {b:Addr} {o:Obj} (e:X.base.get? b=some o):b∉X.fs:=fun hb=>by
 have:=(ok.funs.mem hb).1
 rw[e]at this;cases this
theorem Inv.bs (I:Inv X pins σ H s):∀b o,X.base.get? b=some o->s.heap.get? b=some o/\H b=none:=fun b o e=>
 ⟨I.base.keep b o (I.ok.bs b o e).1 (I.ok.bs b o e).2 (I.ok.nofr e) (I.ok.noex b o e),I.base.free b o (I.ok.bs b o e).1 (I.ok.bs b o e).2 (I.ok.noex b o e)⟩
theorem Inv.bk (I:Inv X pins σ H s):∀b o,X.base.get? b=some o->s.heap.get? b=some o:=fun b o e=>(I.bs b o e).1
theorem Inv.mod (I:Inv X pins σ H s):Mod X.K X.mg X.base:=I.ok.mod
theorem Inv.kIn (I:Inv X pins σ H s):X.K.In s.heap:=I.ok.mod.kin.keeps I.bk
theorem Inv.lt (I:Inv X pins σ H s):X.env.locals<s.heap.objs.size:=let ⟨_,hn,_⟩:=I.loc;hn.lt
theorem Inv.sz (I:Inv X pins σ H s):X.s₀.heap.objs.size<=s.heap.objs.size:=Nat.le_trans I.ok.above (Nat.le_of_lt I.lt)
theorem Inv.nofs (I:Inv X pins σ H s) {a:Addr} (h:s.heap.objs.size<=a):a∉X.fs:=fun hb=>by
 obtain⟨_,o,ho,_⟩:=I.ok.funs.mem hb
 exact absurd (Nat.lt_of_lt_of_le (Heap.lt_size ho) (Nat.le_trans I.sz h)) (Nat.lt_irrefl _)
theorem Inv.cne (I:Inv X pins σ H s):∀x c,X.env.cells.lookup x=some c->c≠X.env.locals:=fun x c e z=>by
 obtain⟨v,o,ho,hd⟩:=I.cell x c e
 obtain⟨m,⟨o',es,ep,ho',hd',_⟩,_⟩:=I.loc
 rw[z,ho']at ho;cases ho;rw[hd']at hd;cases hd
theorem Inv.funs (I:Inv X pins σ H s):s.heap.FunFrames X.base X.outer:=by
 have all:∀(l:List Env),(∀b∈frs l,b∈X.fs)->X.s₀.heap.FunFrames X.base l->s.heap.FunFrames X.base l:=by
  intro l
  induction l with
  |nil=>intro _ _;trivial
  |cons env r ih=>
   intro hs hl
   obtain⟨hk,⟨L,o,hf,hn,ho,hd⟩,hr⟩:=hl
   have hL:L∈X.fs:=hs L (by unfold frs;rw[List.filterMap_cons,hf];exact List.mem_cons_self)
   obtain⟨sl,e⟩:=I.base.slot L o ho (I.ok.frf L hL) hL fun z=>I.ok.exfs L z hL
   exact⟨hk,⟨L,_,hf,hn,e,hd⟩,ih (fun b hb=>hs b (by unfold frs;rw[List.filterMap_cons,hf];exact List.mem_cons_of_mem _ hb)) hr⟩
 exact all X.outer (fun _ hb=>hb) I.ok.funs
theorem Inv.stack (I:Inv X pins σ H s):s.heap.FunFrames X.base X.stack:=by
 rcases I.ok.stk with e|⟨e,hf⟩
 ·rw[e];exact I.funs
 ·rw[e]
  obtain⟨m,hn,_⟩:=I.loc
  refine .cons (by rw[I.ok.kind];decide) hf hn ?_ I.funs
  exact Heap.get?_none_of_le (Nat.le_trans I.ok.bsz I.ok.above)
theorem Inv.stkSub (I:Inv X pins σ H s):∀b∈frs X.stack,b∈X.env.locals::X.fs:=fun b hb=>by
 rcases I.ok.stk with e|⟨e,hf⟩
 ·rw[e]at hb;exact List.mem_cons_of_mem _ hb
 ·rw[e]at hb
  unfold frs at hb
  rw[List.filterMap_cons,hf]at hb
  exact hb
theorem Inv.stkFree (I:Inv X pins σ H s):∀b∈frs X.stack,H b=none:=fun b hb=>by
 rcases List.mem_cons.mp (I.stkSub b hb)with e|hb
 ·rw[e];exact I.free
 ·obtain⟨_,o,ho,_⟩:=I.ok.funs.mem hb
  exact I.base.free b o ho (I.ok.frf b hb) fun z=>I.ok.exfs b z hb
theorem Inv.step {g':Array GenState} {t':Nat} {d':Drawn} {ch:List Addr} (I:Inv X pins σ H s)
  (hch:∀b∈ch,(b∈X.ex\/X.s₀.heap.get? b=none)/\b≠X.env.locals/\(∀x c,X.env.cells.lookup x=some c->c≠b)/\∀p∈X.pn++pins,p.1≠b)
  (keep:∀b o,b≠X.env.locals->b∉X.fs->b∉ch->s.heap.get? b=some o->H b=none->h'.get? b=some o)
  (slot:∀b o,b≠X.env.locals->b∈X.fs->b∉ch->s.heap.get? b=some o->H b=none->∃sl,h'.get? b=some {o with slots:=sl}) (free:∀b o,b∉ch->s.heap.get? b=some o->H b=none->H' b=none)
  (there:∀b o,b∉ch->s.heap.get? b=some o->∃o',h'.get? b=some o')
  (tups:∀b xs,H b=some (.tup xs)->H' b=some (.tup xs)) (frzs:∀b o u,H b=some (.frz o u)->H' b=some (.frz o u)) (tbls:∀b ps,H b=some (.tbl ps)->∃more,H' b=some (.tbl (ps++more)))
  (ns:∀m,s.heap.Ns X.env.locals m->h'.Ns X.env.locals m) (hok:HOk X.prog X.w H' h') (hg:AllBare g'):
  Inv X pins σ H' {s with heap:=h',gens:=g',drawn:=d',toks:=t'}:=by
 have neL:∀b o,X.s₀.heap.get? b=some o->b≠X.env.locals:=fun b o e=>Nat.ne_of_lt (Nat.lt_of_lt_of_le (Heap.lt_size e) I.ok.above)
 have neC:∀b o,X.s₀.heap.get? b=some o->b∉X.ex->b∉ch:=fun b o e hx hb=>by
  rcases(hch b hb).1 with z|z
  ·exact hx z
  ·rw[e]at z;cases z
 have cellK:∀x c,X.env.cells.lookup x=some c->∀v,s.heap.IsCell c v->h'.IsCell c v:=fun x c e v ⟨o,ho,hd⟩=>by
  have nch:c∉ch:=fun z=>(hch c z).2.2.1 x c e rfl
  by_cases hc:c∈X.fs
  ·obtain⟨sl,q⟩:=slot c o (I.cne x c e) hc nch ho (I.freeC x c e)
   exact⟨_,q,hd⟩
  ·exact⟨o,keep c o (I.cne x c e) hc nch ho (I.freeC x c e),hd⟩
 refine⟨I.ok,I.os,hg,⟨fun b o e n hb hx=> ?_,fun b o e n hb hx=> ?_,fun b o e n hx=> ?_,fun b o e hx=> ?_,fun b xs e=>tups b xs (I.base.tups b xs e),fun b o xs e=>frzs b o xs (I.base.frzs b o xs e),fun b ps e=> ?_⟩,?_,fun x c e=> ?_,?_,fun x c e=> ?_,fun p hp=> ?_,hok,I.len⟩
 ·exact keep b o (neL b o e) hb (neC b o e hx) (I.base.keep b o e n hb hx) (I.base.free b o e n hx)
 ·obtain⟨sl,e1⟩:=I.base.slot b o e n hb hx
  obtain⟨sl',e2⟩:=slot b _ (neL b o e) hb (neC b o e hx) e1 (I.base.free b o e n hx)
  exact⟨sl',e2⟩
 ·obtain⟨o',e1⟩:=I.base.there b o e hx
  exact free b o' (neC b o e hx) e1 (I.base.free b o e n hx)
 ·obtain⟨o',e1⟩:=I.base.there b o e hx
  exact there b o' (neC b o e hx) e1
 ·obtain⟨m1,e1⟩:=I.base.tbls b ps e
  obtain⟨m2,e2⟩:=tbls b _ e1
  exact⟨m1++m2,by rw[e2,Array.append_assoc]⟩
 ·obtain⟨m,hn,hl⟩:=I.loc
  refine⟨m,ns m hn,fun i x v e1 e2 e3=> ?_⟩
  obtain⟨u,r,l⟩:=hl i x v e1 e2 e3
  refine⟨u,r,?_⟩
  rcases l with l|⟨k,c,e,z⟩
  ·exact .inl l
  ·exact .inr ⟨k,c,e,cellK x c e _ z⟩
 ·obtain⟨v,z⟩:=I.cell x c e
  exact⟨v,cellK x c e v z⟩
 ·obtain⟨m,⟨o,_,_,ho,_⟩,_⟩:=I.loc
  exact free _ o (fun z=>(hch _ z).2.1 rfl) ho I.free
 ·obtain⟨v,o,ho,hd⟩:=I.cell x c e
  exact free c o (fun z=>(hch c z).2.2.1 x c e rfl) ho (I.freeC x c e)
 ·obtain⟨e,n,ne,nf,d⟩:=I.pin p hp
  have nch:p.1∉ch:=fun z=>(hch p.1 z).2.2.2 p hp rfl
  exact⟨keep p.1 p.2 ne nf nch e n,free p.1 p.2 nch e n,ne,nf,d⟩
theorem Inv.un {t':Nat} (I:Inv X pins σ H s) (u:Un X.fs [] H H' s.heap h') (hok:HOk X.prog X.w H' h'):Inv X pins σ H' {s with heap:=h',toks:=t'}:=by
 obtain⟨m,⟨o,es,ep,ho,r⟩,_⟩:=id I.loc
 obtain⟨sl,hL⟩:=u.any ho I.free (by simp)
 exact I.step (g':=s.gens) (d':=s.drawn) (ch:=[]) (fun _ z=>nomatch z) (fun b o _ hb _ e n=>u.keep b o e n hb (by simp)) (fun b o _ hb _ e n=>u.slot b o e n hb (by simp)) (fun b o _ e n=>u.free b o e n (by simp)) (fun b o _ e=>u.there b o e (by simp)) u.tups u.frzs u.tbls (fun m' hm=>by
  obtain⟨o',es',ep',ho',r'⟩:=hm
  rw[ho]at ho';cases ho'
  exact⟨_,es',ep',hL,r'⟩) hok I.bare
theorem Inv.call {g':Array GenState} {t':Nat} {d':Drawn} {ch:List Addr} (I:Inv X pins σ H s) (u:Un (frs X.stack) ch H H' s.heap h') (hok:HOk X.prog X.w H' h') (hg:AllBare g')
  (hch:∀b∈ch,(b∈X.ex\/X.s₀.heap.objs.size<=b)/\b≠X.env.locals/\(∀x c,X.env.cells.lookup x=some c->c≠b)/\∀p∈X.pn++pins,p.1≠b):
  Inv X pins σ H' {s with heap:=h',gens:=g',drawn:=d',toks:=t'}:=by
 obtain⟨m,⟨o,es,ep,ho,r⟩,_⟩:=id I.loc
 obtain⟨sl,hL⟩:=u.any ho I.free fun z=>(hch _ z).2.1 rfl
 exact I.step (ch:=ch) (fun b hb=>⟨(hch b hb).1.imp id Heap.get?_none_of_le,(hch b hb).2⟩) (fun b o hL hb hc e n=>u.keep b o e n (fun z=>(List.mem_cons.mp (I.stkSub b z)).elim hL hb) hc) (fun b o _ _ hc e n=>u.any e n hc) (fun b o hc e n=>u.free b o e n hc) (fun b o hc e=>u.there b o e hc) u.tups u.frzs u.tbls (fun m' hm=>by
  obtain⟨o',es',ep',ho',r'⟩:=hm
  rw[ho]at ho';cases ho'
  exact⟨_,es',ep',hL,r'⟩) hok hg
theorem Inv.turned {t':Nat} {it:Addr} (I:Inv X pins σ H s) (k:∀b o,b≠it->s.heap.get? b=some o->h'.get? b=some o) (hn:H it=none) (hL:it≠X.env.locals)
  (h1:it∈X.ex\/X.s₀.heap.objs.size<=it) (h2:∀x c,X.env.cells.lookup x=some c->c≠it) (h3:∀p∈X.pn++pins,p.1≠it):Inv X pins σ H {s with heap:=h',toks:=t'}:=by
 have nit:∀b u,H b=some u->b≠it:=fun b u e z=>by rw[z,hn]at e;cases e
 refine I.step (g':=s.gens) (d':=s.drawn) (ch:=[it]) (fun b hb=> ?_) (fun b o _ _ hc e _=>k b o (fun z=>hc (by simp[z])) e) (fun b o _ _ hc e _=>⟨o.slots,k b o (fun z=>hc (by simp[z])) e⟩) (fun _ _ _ _ n=>n)
  (fun b o hc e=>⟨o,k b o (fun z=>hc (by simp[z])) e⟩) (fun _ _ e=>e) (fun _ _ _ e=>e) (fun b ps e=>⟨#[],by rw[e];simp⟩) (fun m hm=> ?_) (fun b u e=> ?_) I.bare
 ·have e:b=it:=by simpa using hb
  subst e
  exact⟨h1.imp id Heap.get?_none_of_le,hL,h2,h3⟩
 ·obtain⟨o,es,ep,ho,r⟩:=hm
  exact⟨o,es,ep,k _ o (Ne.symm hL) ho,r⟩
 ·refine(I.hok b u e).stay (fun c v hc q=>k c v ?_ q) (fun _ q=>q) fun _ _ q=>q
  rcases hc with z|z
  ·rw[z];exact nit b u e
  ·exact nit c _ z
theorem Inv.tok (I:Inv X pins σ H s) (t:Nat):Inv X pins σ H {s with toks:=t}:=I.un (h':=s.heap) (t':=t) Un.refl I.hok
theorem Inv.kept {t':Nat} (I:Inv X pins σ H s) (k:∀b u,s.heap.get? b=some u->h'.get? b=some u):Inv X pins σ H {s with heap:=h',toks:=t'}:=I.un (Un.kept k) (I.hok.kept k)
theorem Inv.laid {a:Addr} {o:HO} {t':Nat} (I:Inv X pins σ H s) (k:∀b u,s.heap.get? b=some u->h'.get? b=some u) (hp:s.heap.objs.size<=a) (new:ObjOk X.prog X.w (upd H a o) h' a o):
  Inv X pins σ (upd H a o) {s with heap:=h',toks:=t'}:=I.un (Un.laid k hp (I.hok.fresh hp)) (I.hok.laid k hp new)
theorem Inv.write {x e:Addr} {o:HO} {t':Nat} (I:Inv X pins σ H s) (mu:Mut (H x)) (he:e=x\/H e=some (.own x)) (k:∀b u,b≠e->s.heap.get? b=some u->h'.get? b=some u) (heo:∃u,h'.get? e=some u)
  (new:ObjOk X.prog X.w (upd H x o) h' x o):Inv X pins σ (upd H x o) {s with heap:=h',toks:=t'}:=I.un (Un.write mu he k heo) (I.hok.write mu he k heo new)
theorem Inv.pins_of {pins':List (Addr×Obj)} (I:Inv X pins σ H s) (h:∀p∈pins',s.heap.get? p.1=some p.2/\H p.1=none/\p.1≠X.env.locals/\p.1∉X.fs/\∀v,p.2.data≠ .cell v):Inv X pins' σ H s:=
 ⟨I.ok,I.os,I.bare,I.base,I.loc,I.cell,I.free,I.freeC,fun p hp=>(List.mem_append.mp hp).elim (fun z=>I.pin p (List.mem_append_left _ z)) (h p),I.hok,I.len⟩
theorem nodup_ix {N:List Str} (hN:N.Nodup) {i j:Nat} {x:Str} (a:N[i]? =some x) (b:N[j]? =some x):i=j:=by
 obtain⟨h1,e1⟩:=List.getElem?_eq_some_iff.mp a
 obtain⟨h2,e2⟩:=List.getElem?_eq_some_iff.mp b
 exact(List.getElem_inj hN).mp (e1.trans e2.symm)
theorem store_ok2 {M:Model} {A:Around} {E:Value->Shared->Prop} {i:Nat} {x:Str} {v:V} {u:Value} {Q:Unit->Shared->Prop} (I:Inv X pins σ H s) (hN:X.N.Nodup) (hi:X.N[i]? =some x) (hx:Loc X.env.scope x) (r:RelV v u)
  (h:∀s',Inv X pins (σ.set i (some v)) H s'->(∃a,Heap.SameBut a s.heap s'.heap/\(a=X.env.locals\/X.env.cells.lookup x=some a))->Q () s') (hf:X.fn x=true\/X.env.scope.names.lookup x=some .local:=by first|exact .inl rfl|exact .inr rfl|assumption):wpAny M A (storeName X.env x u) Q E s:=by
 obtain⟨m,hn,hl⟩:=id I.loc
 have hcls:(X.env.scope.kind== .class||(X.env.scope.kind== .module&&X.env.locals != X.env.globals))=false:=by rw[I.ok.kind];rfl
 have hiσ:i<σ.length:=by rw[I.len];exact(List.getElem?_eq_some_iff.mp hi).1
 have cne:=I.cne
 have tracked:∀{a:Addr} {h':Heap},(∃o,s.heap.get? a=some o/\H a=none)->Heap.SameBut a s.heap h'->HOk X.prog X.w H h':=fun {a h'} ha hs b ob e=>by
  obtain⟨_,_,hfree⟩:=ha
  refine(I.hok b ob e).stay (fun c w' hc q=>(hs.2 c ?_).trans q) (fun _ q=>q) fun _ _ q=>q
  rintro rfl
  rcases hc with rfl|hc
  ·rw[hfree]at e;cases e
  ·rw[hfree]at hc;cases hc
 rcases hx with hk|hk
 ·refine wpAny_storeName_local hk hn (fun h' hn' hs=> ?_) hcls
  obtain⟨oL,_,_,hoL,_⟩:=id hn
  refine h _ ⟨I.ok,I.os,I.bare,⟨fun b o e n hb hx=> ?_,fun b o e n hb hx=> ?_,I.base.free,fun b o e hx=> ?_,I.base.tups,I.base.frzs,I.base.tbls⟩,⟨_,hn',fun j y v' e1 e2 e3=> ?_⟩,fun y c e=> ?_,I.free,I.freeC,fun p hp=> ?_,tracked ⟨oL,hoL,I.free⟩ hs,by simpa using I.len⟩ ⟨_,hs, .inl rfl⟩
  ·exact(hs.2 b (Nat.ne_of_lt (Nat.lt_of_lt_of_le (Heap.lt_size e) I.ok.above))).trans (I.base.keep b o e n hb hx)
  ·obtain⟨sl,e1⟩:=I.base.slot b o e n hb hx
   exact⟨sl,(hs.2 b (Nat.ne_of_lt (Nat.lt_of_lt_of_le (Heap.lt_size e) I.ok.above))).trans e1⟩
  ·obtain⟨o',e1⟩:=I.base.there b o e hx
   exact⟨o',(hs.2 b (Nat.ne_of_lt (Nat.lt_of_lt_of_le (Heap.lt_size e) I.ok.above))).trans e1⟩
  ·by_cases hj:j=i
   ·subst hj
    rw[hi]at e1;cases e1
    rw[List.getElem?_set_self hiσ]at e2
    cases e2
    exact⟨u,r, .inl ⟨hk,by simp⟩⟩
   ·rw[List.getElem?_set_ne (Ne.symm hj)]at e2
    obtain⟨u',r',q⟩:=hl j y v' e1 e2 e3
    refine⟨u',r',?_⟩
    rcases q with ⟨k,e⟩|⟨k,c,e,z⟩
    ·refine .inl ⟨k,?_⟩
     have:y≠x:=fun e=>hj (nodup_ix hN e1 (e▸hi))
     simp[this,e]
    ·exact .inr ⟨k,c,e,z.sameBut hs (cne y c e)⟩
  ·obtain⟨w',z⟩:=I.cell y c e
   exact⟨w',z.sameBut hs (cne y c e)⟩
  ·obtain⟨e,n,ne,nf,d⟩:=I.pin p hp
   exact⟨(hs.2 p.1 ne).trans e,n,ne,nf,d⟩
 ·have hfn:X.fn x=true:=by
   rcases hf with z|z
   ·exact z
   ·rw[z]at hk;cases hk
  obtain⟨c,hc⟩:=I.ok.has x (.inl hk)
  obtain⟨w',z⟩:=I.cell x c hc
  refine wpAny_storeName_cell I.ok.kind hk hc z (fun h' hc' hs=> ?_)
  obtain⟨oc,hoc,hocd⟩:=id z
  refine h {s with heap:=h'} ⟨I.ok,I.os,I.bare,⟨fun b o e n hb hx=> ?_,fun b o e n hb hx=> ?_,I.base.free,fun b o e hx=> ?_,I.base.tups,I.base.frzs,I.base.tbls⟩,⟨m,hn.sameBut hs (Ne.symm (cne x c hc)),fun j y v' e1 e2 e3=> ?_⟩,fun y c' e=> ?_,I.free,I.freeC,fun p hp=> ?_,tracked ⟨oc,hoc,I.freeC x c hc⟩ hs,by simpa using I.len⟩ ⟨c,hs, .inr hc⟩
  ·exact(hs.2 b (Nat.ne_of_lt (Nat.lt_of_lt_of_le (Heap.lt_size e) (I.ok.cab x c hfn hc)))).trans (I.base.keep b o e n hb hx)
  ·obtain⟨sl,e1⟩:=I.base.slot b o e n hb hx
   exact⟨sl,(hs.2 b (Nat.ne_of_lt (Nat.lt_of_lt_of_le (Heap.lt_size e) (I.ok.cab x c hfn hc)))).trans e1⟩
  ·obtain⟨o',e1⟩:=I.base.there b o e hx
   exact⟨o',(hs.2 b (Nat.ne_of_lt (Nat.lt_of_lt_of_le (Heap.lt_size e) (I.ok.cab x c hfn hc)))).trans e1⟩
  ·by_cases hj:j=i
   ·subst hj
    rw[hi]at e1;cases e1
    rw[List.getElem?_set_self hiσ]at e2
    cases e2
    exact⟨u,r, .inr ⟨.inl hk,c,hc,hc'⟩⟩
   ·rw[List.getElem?_set_ne (Ne.symm hj)]at e2
    obtain⟨u',r',q⟩:=hl j y v' e1 e2 e3
    refine⟨u',r',?_⟩
    rcases q with q|⟨k,c',e,z'⟩
    ·exact .inl q
    ·refine .inr ⟨k,c',e,z'.sameBut hs ?_⟩
     rintro rfl
     exact hj (nodup_ix hN e1 (I.ok.inj _ _ _ e hc▸hi))
  ·by_cases hcc:c'=c
   ·subst hcc;exact⟨_,hc'⟩
   ·obtain⟨w2,z2⟩:=I.cell y c' e
    exact⟨w2,z2.sameBut hs hcc⟩
  ·obtain⟨e,n,ne,nf,d⟩:=I.pin p hp
   refine⟨(hs.2 p.1 ?_).trans e,n,ne,nf,d⟩
   intro q
   rw[q,hoc]at e
   have q':oc=p.2:=Option.some.inj e
   exact d w' (by rw[<-q'];exact hocd)
theorem store_ok {M:Model} {A:Around} {E:Value->Shared->Prop} {i:Nat} {x:Str} {v:V} {u:Value} {Q:Unit->Shared->Prop} (I:Inv X pins σ H s) (hN:X.N.Nodup) (hi:X.N[i]? =some x) (hx:Loc X.env.scope x) (r:RelV v u)
  (h:∀s',Inv X pins (σ.set i (some v)) H s'->Q () s') (hf:X.fn x=true\/X.env.scope.names.lookup x=some .local:=by first|exact .inl rfl|exact .inr rfl|assumption):wpAny M A (storeName X.env x u) Q E s:=
 store_ok2 I hN hi hx r (fun s' I' _=>h s' I') hf
theorem Inv.call' {s':Shared} {ch:List Addr} (I:Inv X pins σ H s) (ho:s'.os=s.os) (u:Un (frs X.stack) ch H H' s.heap s'.heap) (hok:HOk X.prog X.w H' s'.heap) (hg:AllBare s'.gens)
  (hch:∀b∈ch,(b∈X.ex\/X.s₀.heap.objs.size<=b)/\b≠X.env.locals/\(∀x c,X.env.cells.lookup x=some c->c≠b)/\∀p∈X.pn++pins,p.1≠b):Inv X pins σ H' s':=by
 obtain⟨h',g',d',t',o'⟩:=s'
 have e:o'=s.os:=ho
 subst e
 exact I.call (g':=g') (t':=t') (d':=d') u hok hg hch
end
noncomputable abbrev XK:=Value->Option Addr->Hp->Prop
noncomputable abbrev St:=List (Option V)
noncomputable abbrev VK:=V->Hp->Prop
noncomputable abbrev TE:=St->Hp->VK->Prop
noncomputable abbrev TT:=St->Hp->(Bool->Hp->Prop)->Prop
noncomputable abbrev TA:=St->Hp->(List V->Hp->Prop)->Prop
structure Ends where
 nx:St->Hp->Prop
 rt:VK
 bk:St->Hp->Prop:=fun _ _=>False
 ct:St->Hp->Prop:=fun _ _=>False
noncomputable abbrev TS:=Ends->St->Hp->Prop
noncomputable def EP (X:Cx) (pins:List (Addr×Obj)) (σ:St) (Q:VK) (u:Value) (s':Shared):Prop:=∃v H',Inv X pins σ H' s'/\RelV v u/\Q v H'
noncomputable def TP (X:Cx) (pins:List (Addr×Obj)) (σ:St) (Q:Bool->Hp->Prop) (b:Bool) (s':Shared):Prop:=∃H',Inv X pins σ H' s'/\Q b H'
noncomputable def AP (X:Cx) (pins:List (Addr×Obj)) (σ:St) (Q:List V->Hp->Prop) (us:List Value) (s':Shared):Prop:=∃vs H',Inv X pins σ H' s'/\Vals vs us/\Q vs H'
noncomputable def SP (X:Cx) (pins:List (Addr×Obj)) (D:Ends) (f:Flow) (s':Shared):Prop:=
 match f with
 | .next=>∃σ' H',Inv X pins σ' H' s'/\D.nx σ' H'
 | .brk=>∃σ' H',Inv X pins σ' H' s'/\D.bk σ' H'
 | .cont=>∃σ' H',Inv X pins σ' H' s'/\D.ct σ' H'
 | .ret u=>∃v σ' H',Inv X pins σ' H' s'/\RelV v u/\D.rt v H'
noncomputable def PE (X:Cx) (e:Expr) (t:TE):Prop:=
 ∀(pins:List (Addr×Obj)) (s:Shared) (σ:St) (H:Hp) (Q:VK),Inv X pins σ H s->t σ H Q->wpAny (model X.prog X.w) X.A (eval e X.env) (EP X pins σ Q) X.xe s
noncomputable def PT (X:Cx) (e:Expr) (t:TT):Prop:=
 ∀(pins:List (Addr×Obj)) (s:Shared) (σ:St) (H:Hp) (Q:Bool->Hp->Prop),Inv X pins σ H s->t σ H Q->wpAny (model X.prog X.w) X.A (isTrue e X.env (eval e X.env)) (TP X pins σ Q) X.xe s
noncomputable def PW (X:Cx) (e:Expr) (t:TT):Prop:=
 ∀(whole:Sem Value) (pins:List (Addr×Obj)) (s:Shared) (σ:St) (H:Hp) (Q:Bool->Hp->Prop),Inv X pins σ H s->t σ H Q->wpAny (model X.prog X.w) X.A (isTrue e X.env whole) (TP X pins σ Q) X.xe s
theorem PW.pt {X:Cx} {e:Expr} {t:TT} (h:PW X e t):PT X e t:=h _
noncomputable def PA (X:Cx) (es:List Expr) (t:TA):Prop:=
 ∀(pos:Pos) (pins:List (Addr×Obj)) (s:Shared) (σ:St) (H:Hp) (Q:List V->Hp->Prop),Inv X pins σ H s->t σ H Q->wpAny (model X.prog X.w) X.A (spliced (backTo pos (starEach es X.env))) (AP X pins σ Q) X.xe s
noncomputable def PS (X:Cx) (st:Stmt) (t:TS):Prop:=
 ∀(pins:List (Addr×Obj)) (s:Shared) (σ:St) (H:Hp) (D:Ends),Inv X pins σ H s->t D σ H->wpAny (model X.prog X.w) X.A (exec st X.env) (SP X pins D) X.xe s
noncomputable def PSs (X:Cx) (st:List Stmt) (t:TS):Prop:=
 ∀(pins:List (Addr×Obj)) (s:Shared) (σ:St) (H:Hp) (D:Ends),Inv X pins σ H s->t D σ H->wpAny (model X.prog X.w) X.A (execs st X.env) (SP X pins D) X.xe s
theorem thn {α:Type} {t:Sem α} {Q Q':α->Shared->Prop} {M:Model} {A:Around} {E:Value->Shared->Prop} {s:Shared} (h:wpAny M A t Q E s) (hQ:∀a s,Q a s->Q' a s):wpAny M A t Q' E s:=wpAny_mono h hQ fun _ _ x=>x
end L2
namespace L2
open PySem PySem.Spec PyProof.Rows
section
variable {X:Cx}
noncomputable def tVar (i:Nat):TE:=fun σ H Q=>∃v,σ[i]? =some (some v)/\Q v H
noncomputable def tC (v:V):TE:=fun _ H Q=>Q v H
theorem pe_var {i:Nat} {x:Str} {pos:Pos} (hN:X.N[i]? =some x) (hv:Vis X.env.scope x) (hd:(x==("__debug__":Str))=false:=by decide) (hcd:(x==("__classdict__":Str))=false:=by decide):PE X (.Name x pos) (tVar i):=by
 intro pins s σ H Q I h
 obtain⟨v,e,h⟩:=h
 obtain⟨m,hn,hl⟩:=I.loc
 obtain⟨u,r,l⟩:=hl i x v hN e hv
 have fin:EP X pins σ Q u s:=⟨v,H,I,r,h⟩
 rcases l with ⟨hk,hm⟩|⟨hk,c,hc,hcell⟩
 ·exact wpAny_Name (wpAny_loadName_local I.ok.kind hk hn hm fin) hd
 ·rcases hk with hk|hk
  ·exact wpAny_Name (wpAny_loadName_cell I.ok.kind hk hc hcell fin) hd
  ·exact wpAny_Name (wpAny_loadName_free I.ok.kind hk hc hcell fin hcd) hd
theorem pe_int {i j pos}:PE X (.Constant (.int i) j pos) (tC (.int i)):=fun _ _ _ H _ I h=>wpAny_Constant_int ⟨.int i,H,I.tok _,⟨_,rfl⟩,h⟩
theorem pe_bl {b j pos}:PE X (.Constant (.bool b) j pos) (tC (.bl b)):=fun _ _ _ H _ I h=>Constant_bool ⟨.bl b,H,I,rfl,h⟩
theorem pe_non {j pos}:PE X (.Constant .none j pos) (tC .non):=fun _ _ _ H _ I h=>Constant_none ⟨.non,H,I,rfl,h⟩
theorem pe_str {x j pos}:PE X (.Constant (.str x) j pos) (tC (.str x)):=fun _ _ _ H _ I h=>Calls.Constant_str ⟨.str x,H,I.tok _,⟨_,rfl⟩,h⟩
noncomputable def Gl (X:Cx) (x:Str):Prop:=X.env.kindOf x=some .globalImplicit
theorem ld_glob {E:Value->Shared->Prop} {pins:List (Addr×Obj)} {s:Shared} {σ:St} {H:Hp} {x:Str} {u:Value} {pos:Pos} {Q:Value->Shared->Prop} (I:Inv X pins σ H s) (hg:Gl X x) (hm:X.mg x=some u) (h:Q u s)
  (hd:(x==("__debug__":Str))=false:=by decide):wpAny (model X.prog X.w) X.A (eval (.Name x pos) X.env) Q E s:=
 Calls.Name_function_global I.ok.kind hg (Calls.loadGlobal_global (by rw[I.ok.glob];exact I.mod.glob.keeps I.bk) hm h) hd
theorem ld_blt {E:Value->Shared->Prop} {pins:List (Addr×Obj)} {s:Shared} {σ:St} {H:Hp} {x:Str} {u:Value} {pos:Pos} {Q:Value->Shared->Prop} (I:Inv X pins σ H s) (hg:Gl X x) (hm:X.mg x=none) (hv:bootBuiltins x=some u) (h:Q u s)
  (hn:x≠"__name__":=by decide) (hd:(x==("__debug__":Str))=false:=by decide):wpAny (model X.prog X.w) X.A (eval (.Name x pos) X.env) Q E s:=by
 obtain⟨mb,h1,h2⟩:=I.mod.blt
 exact Calls.Name_function_global I.ok.kind hg (Calls.loadGlobal_builtin (by rw[I.ok.glob];exact I.mod.glob.keeps I.bk) hm (by rw[I.ok.blt];exact h1.keeps I.bk) ((h2 x hn).trans hv) h) hd
theorem pe_glob {x:Str} {v:V} {u:Value} {pos:Pos} (hg:Gl X x) (hm:X.mg x=some u) (r:RelV v u) (hd:(x==("__debug__":Str))=false:=by decide):PE X (.Name x pos) (tC v):=
 fun _ _ _ H _ I h=>ld_glob I hg hm ⟨v,H,I,r,h⟩ hd
theorem pe_bltn {x:Str} {v:V} {u:Value} {pos:Pos} (hg:Gl X x) (hm:X.mg x=none) (hv:bootBuiltins x=some u) (r:RelV v u) (hn:x≠"__name__":=by decide) (hd:(x==("__debug__":Str))=false:=by decide):PE X (.Name x pos) (tC v):=
 fun _ _ _ H _ I h=>ld_blt I hg hm hv ⟨v,H,I,r,h⟩ hn hd
variable {a b:Expr} {ta tb:TE} {pos:Pos}
noncomputable def PC (X:Cx) (op:CmpOp) (a b:Expr) (t:TE):Prop:=
 ∀(pins:List (Addr×Obj)) (s:Shared) (σ:St) (H:Hp) (Q:VK),Inv X pins σ H s->t σ H Q->
  wpAny (model X.prog X.w) X.A (eval a X.env) (fun v s₁=>wpAny (model X.prog X.w) X.A (eval b X.env) (fun u s₂=>wpAny (model X.prog X.w) X.A (compareOp op v u) (EP X pins σ Q) X.xe s₂) X.xe s₁) X.xe s
noncomputable def tB (t:TE):TT:=fun σ H Q=>t σ H fun x H1=>∃c,x= .bl c/\Q c H1
theorem pe_cmp {op:CmpOp} {t:TE} (h:PC X op a b t) (h1:behindInMarks op b=false:=by first|exact nobehind _ (by decide) (by decide)|rfl):PE X (.Compare a [op] [b] pos) t:=fun pins s σ H Q I hw=>wpAny_Compare1 (h pins s σ H Q I hw) h1
theorem pt_cmp {op:CmpOp} {t:TE} (h:PC X op a b t) (h1:behindInMarks op b=false:=by first|exact nobehind _ (by decide) (by decide)|rfl):PT X (.Compare a [op] [b] pos) (tB t):=by
 intro pins s σ H Q I hw
 refine wpAny_isTrue_Compare1 (thn (h pins s σ H _ I hw) fun v s1 h1=>thn h1 fun u s2 h2=>thn h2 fun c s3 z_=> ?_) h1
 obtain⟨x,H1,I1,r1,q1⟩:=z_
 obtain⟨d,rfl,q⟩:=q1
 cases r1
 exact wpAny_truthy_bool ⟨H1,I1,q⟩
variable {tA tB':TT} {rest:List Expr}
noncomputable def tAnd (t u:TT):TT:=fun σ H Q=>t σ H fun c H1=>if c=true then u σ H1 Q else Q false H1
noncomputable def tOr (t u:TT):TT:=fun σ H Q=>t σ H fun c H1=>if c=true then Q true H1 else u σ H1 Q
noncomputable def tNot (t:TT):TT:=fun σ H Q=>t σ H fun c H1=>Q (!c) H1
theorem pw_and1 (ha:PT X a tA):PW X (.BoolOp .And [a] pos) tA:=by
 intro wh pins s σ H Q I h
 refine isTrue_and (thn (ha pins s σ H Q I h) fun c s1 e=> ?_)
 cases c with
 |true=>exact isTrue_and_nil e
 |false=>exact e
theorem pw_or1 (ha:PT X a tA):PW X (.BoolOp .Or [a] pos) tA:=by
 intro wh pins s σ H Q I h
 refine isTrue_or (thn (ha pins s σ H Q I h) fun c s1 e=> ?_)
 cases c with
 |false=>exact isTrue_or_nil e
 |true=>exact e
theorem pw_and (ha:PT X a tA) (hb:PW X (.BoolOp .And (b::rest) pos) tB'):PW X (.BoolOp .And (a::b::rest) pos) (tAnd tA tB'):=by
 intro wh pins s σ H Q I h
 refine isTrue_and (thn (ha pins s σ H _ I h) fun c s1 z_=> ?_)
 obtain⟨H1,I1,q1⟩:=z_
 cases c with
 |true=>exact hb wh pins s1 σ H1 Q I1 q1
 |false=>exact⟨H1,I1,q1⟩
theorem pw_or (ha:PT X a tA) (hb:PW X (.BoolOp .Or (b::rest) pos) tB'):PW X (.BoolOp .Or (a::b::rest) pos) (tOr tA tB'):=by
 intro wh pins s σ H Q I h
 refine isTrue_or (thn (ha pins s σ H _ I h) fun c s1 z_=> ?_)
 obtain⟨H1,I1,q1⟩:=z_
 cases c with
 |true=>exact⟨H1,I1,q1⟩
 |false=>exact hb wh pins s1 σ H1 Q I1 q1
theorem pt_not (ha:PT X a tA):PT X (.UnaryOp .Not a pos) (tNot tA):=by
 intro pins s σ H Q I h
 exact isTrue_not (ha pins s σ H (fun c H1=>Q (!c) H1) I h)
noncomputable def tAndV (ta tb:TE):TE:=fun σ H Q=>ta σ H fun x H1=>∃c,x= .bl c/\if c=true then tb σ H1 Q else Q (.bl false) H1
noncomputable def tNotV (ta:TE):TE:=fun σ H Q=>ta σ H fun x H1=>∃c,x= .bl c/\Q (.bl (!c)) H1
theorem pe_one {op} {t:TE} (h:PE X a t):PE X (.BoolOp op [a] pos) t:=fun pins s σ H Q I hw=>BoolOp_one (h pins s σ H Q I hw)
theorem pe_and (ha:PE X a ta) (hb:PE X (.BoolOp .And (b::rest) pos) tb):PE X (.BoolOp .And (a::b::rest) pos) (tAndV ta tb):=by
 intro pins s σ H Q I h
 refine BoolOp_and (thn (ha pins s σ H _ I h) fun v s1 z_=> ?_)
 obtain⟨x,H1,I1,r1,q1⟩:=z_
 obtain⟨c,rfl,q1⟩:=q1
 cases r1
 refine wpAny_truthy_bool ?_
 cases c with
 |true=>exact hb pins s1 σ H1 Q I1 q1
 |false=>exact⟨.bl false,H1,I1,rfl,q1⟩
theorem pe_not (ha:PE X a ta):PE X (.UnaryOp .Not a pos) (tNotV ta):=by
 intro pins s σ H Q I h
 refine UnaryOp_ (thn (ha pins s σ H _ I h) fun v s1 z_=> ?_)
 obtain⟨x,H1,I1,r1,q1⟩:=z_
 obtain⟨c,rfl,q1⟩:=q1
 cases r1
 exact not_of (wpAny_truthy_bool ⟨.bl (!c),H1,I1,rfl,q1⟩)
end
end L2
namespace L2
open PySem PySem.Spec PyProof.Rows
noncomputable def SqL (K:PySem.W.Frag) (H:Hp) (a:Addr) (xs:List V):Prop:=
 Rd H a (.lst xs)\/
  ∃(o:Obj) (its:Array Value) (n:Nat),K.lookup a=some o/\o.cls= .type "list"/\o.dict=none/\o.data= .seq its n/\its.size<=sizeLine/\Vals xs its.toList
noncomputable def SqT (K:PySem.W.Frag) (H:Hp) (a:Addr) (xs:List V):Prop:=
 Rd H a (.tup xs)\/
  ∃(o:Obj) (its:Array Value) (n:Nat),K.lookup a=some o/\o.cls= .type "tuple"/\o.data= .seq its n/\its.size<=sizeLine/\Vals xs its.toList
noncomputable def absV:Value->Option V
 | .none=>some .non
 | .bool b=>some (.bl b)
 | .int i _=>some (.int i)
 | .str x _=>some (.str x)
 | .bytes b _=>some (.byt b)
 | .float b _=>some (.flt b)
 | .ref a=>some (.ref a)
 | .type n=>some (.ty n)
 |_=>none
theorem RelV.abs {x:V} {u:Value} (r:RelV x u):absV u=some x:=by
 cases x with
 |non=>cases r;rfl
 |bl _=>cases r;rfl
 |int _=>obtain⟨t,rfl⟩:=r;rfl
 |str _=>obtain⟨t,rfl⟩:=r;rfl
 |byt _=>obtain⟨t,rfl⟩:=r;rfl
 |flt _=>obtain⟨t,rfl⟩:=r;rfl
 |ref _=>cases r;rfl
 |ty _=>cases r;rfl
theorem RelV.inj {x y:V} {u:Value} (r:RelV x u) (q:RelV y u):x=y:=Option.some.inj (r.abs.symm.trans q.abs)
theorem Vals.inj:∀{xs ys:List V} {us:List Value},Vals xs us->Vals ys us->xs=ys
 |_,_,_, .nil, .nil=>rfl
 |_,_,_, .cons r t, .cons r' t'=>by rw[r.inj r',Vals.inj t t']
section
variable {X:Cx} {pins:List (Addr×Obj)} {σ:St} {H:Hp} {s:Shared} {a:Addr} {xs ys:List V}
theorem SqL.of {K:PySem.W.Frag} (h:H a=some (.lst xs)):SqL K H a xs:= .inl (.inl h)
theorem SqT.of {K:PySem.W.Frag} (h:H a=some (.tup xs)):SqT K H a xs:= .inl (.inl h)
theorem Inv.list (I:Inv X pins σ H s) (h:SqL X.K H a xs):∃its:List Value,Vals xs its/\PlainL s.heap a its.toArray/\xs.length<=sizeLine:=by
 rcases h with h|⟨o,its,n,hk,hc,hd,hs,hz,r⟩
 ·obtain⟨z,its,n,r,e⟩:=h.ok I.hok
  exact⟨its,r,⟨_,n,e,rfl,rfl,rfl⟩,z⟩
 ·refine⟨its.toList,r,⟨o,n,I.kIn a o hk,hc,hd,by simpa using hs⟩,?_⟩
  have e:=r.length
  simp only[Array.length_toList]at e
  omega
theorem Inv.tuple (I:Inv X pins σ H s) (h:SqT X.K H a xs):∃its:List Value,Vals xs its/\IsTup s.heap a its.toArray/\xs.length<=sizeLine:=by
 rcases h with h|⟨o,its,n,hk,hc,hs,hz,r⟩
 ·obtain⟨z,its,r,p⟩:=h.ok I.hok
  exact⟨its,r,p.tup,z⟩
 ·refine⟨its.toList,r,⟨o,I.kIn a o hk,hc,n,by simpa using hs⟩,?_⟩
  have e:=r.length
  simp only[Array.length_toList]at e
  omega
theorem Inv.list_inj (I:Inv X pins σ H s) (h:SqL X.K H a xs) (h':SqL X.K H a ys):xs=ys:=by
 obtain⟨its,r,⟨o,n,e,_,_,d⟩,_⟩:=I.list h
 obtain⟨its',r',⟨o',n',e',_,_,d'⟩,_⟩:=I.list h'
 rw[e]at e';cases e'
 rw[d]at d'
 injection d' with d1 _
 have:its=its':=by simpa using congrArg Array.toList d1
 subst this
 exact r.inj r'
theorem Inv.tuple_inj (I:Inv X pins σ H s) (h:SqT X.K H a xs) (h':SqT X.K H a ys):xs=ys:=by
 obtain⟨its,r,⟨o,e,_,n,d⟩,_⟩:=I.tuple h
 obtain⟨its',r',⟨o',e',_,n',d'⟩,_⟩:=I.tuple h'
 rw[e]at e';cases e'
 rw[d]at d'
 injection d' with d1 _
 have:its=its':=by simpa using congrArg Array.toList d1
 subst this
 exact r.inj r'
end
noncomputable abbrev Cx.wish (X:Cx) (E:Value->Shared->Prop):Cx:={X with xe:=E}
noncomputable abbrev Cx.nox (X:Cx):Cx:=X.wish fun _ _=>False
theorem Cx.Ok.wish {X:Cx} (ok:X.Ok) (E:Value->Shared->Prop):(X.wish E).Ok:=
 ⟨ok.mod,ok.kind,ok.glob,ok.blt,ok.above,ok.inj,ok.has,ok.cab,ok.hd,ok.frames,ok.stk,ok.exf,ok.bs,ok.bsz,ok.noex,ok.exfs,ok.funs,ok.frf⟩
theorem Cx.Ok.unwish {X:Cx} {E:Value->Shared->Prop} (ok:(X.wish E).Ok):X.Ok:=
 ⟨ok.mod,ok.kind,ok.glob,ok.blt,ok.above,ok.inj,ok.has,ok.cab,ok.hd,ok.frames,ok.stk,ok.exf,ok.bs,ok.bsz,ok.noex,ok.exfs,ok.funs,ok.frf⟩
section
variable {X:Cx} {pins:List (Addr×Obj)} {σ:St} {H:Hp} {s:Shared} {E:Value->Shared->Prop}
theorem Inv.wish (I:Inv X pins σ H s) (E:Value->Shared->Prop):Inv (X.wish E) pins σ H s:=⟨I.ok.wish E,I.os,I.bare,I.base,I.loc,I.cell,I.free,I.freeC,I.pin,I.hok,I.len⟩
theorem Inv.unwish (I:Inv (X.wish E) pins σ H s):Inv X pins σ H s:=⟨I.ok.unwish,I.os,I.bare,I.base,I.loc,I.cell,I.free,I.freeC,I.pin,I.hok,I.len⟩
theorem SP.unwish {D:Ends} {f:Flow} {s':Shared} (h:SP (X.wish E) pins D f s'):SP X pins D f s':=by
 cases f with
 |next=>obtain⟨σ',H',I,q⟩:=h;exact⟨σ',H',I.unwish,q⟩
 |brk=>obtain⟨σ',H',I,q⟩:=h;exact⟨σ',H',I.unwish,q⟩
 |cont=>obtain⟨σ',H',I,q⟩:=h;exact⟨σ',H',I.unwish,q⟩
 |ret u=>obtain⟨v,σ',H',I,r,q⟩:=h;exact⟨v,σ',H',I.unwish,r,q⟩
theorem PE.nox {e:Expr} {t:TE} (h:PE X.nox e t):PE X e t:=fun pins s σ H Q I hw=>
 wpAny_mono (h pins s σ H Q (I.wish _) hw) (fun _ _ ⟨v,H',I',r,q⟩=>⟨v,H',I'.unwish,r,q⟩) fun _ _ z=>False.elim z
theorem PT.nox {e:Expr} {t:TT} (h:PT X.nox e t):PT X e t:=fun pins s σ H Q I hw=>
 wpAny_mono (h pins s σ H Q (I.wish _) hw) (fun _ _ ⟨H',I',q⟩=>⟨H',I'.unwish,q⟩) fun _ _ z=>False.elim z
theorem PSs.nox {st:List Stmt} {t:TS} (h:PSs X.nox st t):PSs X st t:=fun pins s σ H D I hw=>
 wpAny_mono (h pins s σ H D (I.wish _) hw) (fun _ _ q=>q.unwish) fun _ _ z=>False.elim z
end
section
variable {X:Cx} {st:Stmt} {rest:List Stmt} {t u:TS} {e:Expr} {te:TE} {pos:Pos}
noncomputable def tNext:TS:=fun D σ H=>D.nx σ H
noncomputable def tSeq (t u:TS):TS:=fun D σ H=>t {D with nx:=u D} σ H
theorem pss_nil:PSs X [] tNext:=fun _ _ σ H _ I h=>wpAny_execs_nil ⟨σ,H,I,h⟩
theorem pss_cons (h1:PS X st t) (h2:PSs X rest u):PSs X (st::rest) (tSeq t u):=by
 intro pins s σ H D I h
 refine wpAny_execs_cons (thn (h1 pins s σ H {D with nx:=u D} I h) fun f s1 q=> ?_)
 cases f with
 |next=>
  obtain⟨σ',H',I',q⟩:=q
  exact h2 pins s1 σ' H' D I' q
 |ret v=>exact q
 |brk=>exact q
 |cont=>exact q
theorem pss_one (h1:PS X st t):PSs X [st] t:=by
 intro pins s σ H D I h
 refine wpAny_execs_cons (thn (h1 pins s σ H D I h) fun f s1 q=> ?_)
 cases f with
 |next=>exact wpAny_execs_nil q
 |ret v=>exact q
 |brk=>exact q
 |cont=>exact q
noncomputable def tCont:TS:=fun D σ H=>D.ct σ H
theorem ps_continue:PS X (.Continue pos) tCont:=fun _ _ σ H _ I h=>wpAny_Continue ⟨σ,H,I,h⟩
theorem Inv.quiet {pins:List (Addr×Obj)} {σ:St} {H:Hp} {s:Shared} (I:Inv X pins σ H s):interactive X.env=false:=by simp[interactive,I.ok.kind]
noncomputable def tDrop (te:TE):TS:=fun D σ H=>te σ H fun _ H1=>D.nx σ H1
theorem ps_expr (he:PE X e te) (hs:swapsWith e none pos.line X.env=pure false:=by rfl):PS X (.Expr e pos) (tDrop te):=by
 intro pins s σ H D I h
 exact wpAny_Expr_any (thn (he pins s σ H _ I h) fun v s1 ⟨x,H1,I1,r1,q1⟩=>⟨σ,H1,I1,q1⟩) I.quiet hs
noncomputable def tRet (te:TE):TS:=fun D σ H=>te σ H D.rt
theorem ps_ret (he:PE X e te):PS X (.Return (some e) pos) (tRet te):=by
 intro pins s σ H D I h
 exact wpAny_Return_some (thn (he pins s σ H _ I h) fun v s1 ⟨x,H1,I1,r1,q1⟩=>⟨x,σ,H1,I1,r1,q1⟩)
noncomputable def tIfS (c:TT) (t u:TS):TS:=fun D σ H=>c σ H fun b H1=>if b=true then t D σ H1 else u D σ H1
theorem ps_if {c:Expr} {a b:List Stmt} {tc:TT} (hc:PT X c tc) (ha:PSs X a t) (hb:PSs X b u):PS X (.If c a b pos) (tIfS tc t u):=by
 intro pins s σ H D I h
 refine wpAny_If (thn (hc pins s σ H _ I h) fun d s1 z_=> ?_)
 obtain⟨H1,I1,q1⟩:=z_
 cases d with
 |true=>exact ha pins s1 σ H1 D I1 q1
 |false=>exact hb pins s1 σ H1 D I1 q1
end
noncomputable abbrev TG:=V->St->Hp->(St->Hp->Prop)->Prop
noncomputable abbrev TGs:=List V->St->Hp->(St->Hp->Prop)->Prop
noncomputable def PG (X:Cx) (target:Expr) (t:TG):Prop:=
 ∀(pins:List (Addr×Obj)) (s:Shared) (σ:St) (H:Hp) (v:V) (u:Value) (Q:St->Hp->Prop),Inv X pins σ H s->RelV v u->t v σ H Q->
  wpAny (model X.prog X.w) X.A (assign target X.env u) (fun _ s'=>∃σ' H',Inv X pins σ' H' s'/\Q σ' H') X.xe s
noncomputable def PGs (X:Cx) (ts:List Expr) (t:TGs):Prop:=
 ∀(pins:List (Addr×Obj)) (s:Shared) (σ:St) (H:Hp) (vs:List V) (us:List Value) (Q:St->Hp->Prop),Inv X pins σ H s->Vals vs us->t vs σ H Q->
  wpAny (model X.prog X.w) X.A (assignInOrder ((assignEach ts X.env).map (·.2)) us) (fun _ s'=>∃σ' H',Inv X pins σ' H' s'/\Q σ' H') X.xe s
noncomputable abbrev TSet:=V->V->V->Hp->(Hp->Prop)->Prop
noncomputable def PSet (X:Cx) (t:TSet):Prop:=
 ∀(pins:List (Addr×Obj)) (s:Shared) (σ:St) (H:Hp) (o i v:V) (ov iv u:Value) (Q:Hp->Prop),Inv X pins σ H s->RelV o ov->RelV i iv->RelV v u->t o i v H Q->
  wpAny (model X.prog X.w) X.A (setItem ov iv u) (fun _ s'=>∃H',Inv X pins σ H' s'/\Q H') X.xe s
section
variable {X:Cx} {pos:Pos}
noncomputable def gName (i:Nat):TG:=fun v σ H Q=>Q (σ.set i (some v)) H
theorem pg_name {i:Nat} {x:Str} (hN:X.N.Nodup) (hi:X.N[i]? =some x) (hx:Loc X.env.scope x) (hf:X.fn x=true\/X.env.scope.names.lookup x=some .local:=by first|exact .inl rfl|exact .inr rfl|assumption):PG X (.Name x pos) (gName i):=by
 intro pins s σ H v u Q I r h
 exact wpAny_assign_Name (store_ok I hN hi hx r (fun s' I'=>⟨_,H,I',h⟩) hf)
noncomputable def gNil:TGs:=fun vs σ H Q=>vs=[]/\Q σ H
noncomputable def gCons (t:TG) (u:TGs):TGs:=fun vs σ H Q=>∃v r,vs=v::r/\t v σ H fun σ' H'=>u r σ' H' Q
theorem pgs_nil:PGs X [] gNil:=by
 intro pins s σ H vs us Q I r h
 obtain⟨e,h⟩:=h
 subst e
 cases r
 exact assignInOrder_nil ⟨σ,H,I,h⟩
theorem pgs_cons {e:Expr} {es:List Expr} {t:TG} {u:TGs} (h1:PG X e t) (h2:PGs X es u)
  (hs:(assignEach (e::es) X.env).map (·.2)=assign e X.env::(assignEach es X.env).map (·.2):=by rfl):PGs X (e::es) (gCons t u):=by
 intro pins s σ H vs us Q I r h
 obtain⟨v,vr,e1,h⟩:=h
 subst e1
 cases r with
 |cons r rr=>
  rw[hs]
  refine assignInOrder_cons (thn (h1 pins s σ H _ _ _ I r h) fun _ s1 z_=> ?_)
  obtain⟨σ1,H1,I1,q1⟩:=z_
  exact h2 pins s1 σ1 H1 _ _ Q I1 rr q1
noncomputable def gTup (K:PySem.W.Frag) (n:Nat) (t:TGs):TG:=fun v σ H Q=>∃a xs,v= .ref a/\SqT K H a xs/\xs.length=n/\t xs σ H Q
theorem pg_tup {es:List Expr} {k:Nat} {t:TGs} {n:Nat} (hc:X.calm=true) (h:PGs X es t)
  (hn:(assignEach es X.env).length=n:=by rfl) (hst:(assignEach es X.env).findIdx? (·.1)=none:=by rfl):PG X (.Tuple es k pos) (gTup X.K n t):=by
 intro pins s σ H v u Q I r hw
 obtain⟨a,xs,e1,hq,hl,hw⟩:=hw
 subst e1
 cases r
 obtain⟨its,rv,ht,hz⟩:=I.tuple hq
 refine assign_Tuple_tuple (I.ok.hd hc) ht (by simp[hn,<-hl,rv.length]) hst fun h' hx=> ?_
 have I1:Inv X pins σ H {s with heap:=h'}:=I.kept (t':=s.toks) fun b o e=>hx b o (Nat.ne_of_lt (Heap.lt_size e)) e
 exact h pins _ σ H xs _ Q I1 (by simpa using rv) hw
noncomputable def gSub (to ti:TE) (t:TSet):TG:=fun v σ H Q=>to σ H fun o H1=>ti σ H1 fun i H2=>t o i v H2 fun H3=>Q σ H3
theorem pg_sub {o i:Expr} {to ti:TE} {t:TSet} (ho:PE X o to) (hi:PE X i ti) (hs:PSet X t)
  (ha:∀v,assign (.Subscript o i pos) X.env v=(do
   let ov<-holding [v] (eval o X.env)
   let iv<-holding [v,ov] (eval i X.env)
   standAt pos
   holding [v,ov,iv] (setItem ov iv v)
   release [v,ov,iv] []):=by intro _;rfl):PG X (.Subscript o i pos) (gSub to ti t):=by
 intro pins s σ H v u Q I r h
 rw[ha]
 refine wpAny_bind (wpAny_holding (thn (ho pins s σ H _ I h) fun ov s1 z_=> ?_))
 obtain⟨x,H1,I1,r1,q1⟩:=z_
 refine wpAny_bind (wpAny_holding (thn (hi pins s1 σ H1 _ I1 q1) fun iv s2 z_=> ?_))
 obtain⟨y,H2,I2,r2,q2⟩:=z_
 refine wpAny_bind (wpAny_standAt (wpAny_bind (wpAny_holding (thn (hs pins s2 σ H2 x y v ov iv u _ I2 r1 r2 r q2) fun _ s3 z_=> ?_))))
 obtain⟨H3,I3,q3⟩:=z_
 exact wpAny_release ⟨σ,H3,I3,q3⟩
noncomputable def tAsg (te:TE) (g:TG):TS:=fun D σ H=>te σ H fun x H1=>g x σ H1 D.nx
theorem ps_asg {tg e:Expr} {te:TE} {g:TG} (he:PE X e te) (hg:PG X tg g) (hs:swapsWithSole [tg] e pos.line X.env=pure false:=by rfl) (hw:swappedStores [tg] e X.env=pure none:=by rfl)
  (h1:(assignEach [tg] X.env).map (·.2)=[assign tg X.env]:=by rfl):PS X (.Assign [tg] e pos) (tAsg te g):=by
 intro pins s σ H D I h
 refine wpAny_Assign_stores (thn (he pins s σ H _ I h) fun v s1 z_=> ?_) hs hw
 obtain⟨x,H1,I1,r1,q1⟩:=z_
 rw[h1]
 exact thn (hg pins s1 σ H1 x v _ I1 r1 q1) fun _ s2 q=>q
theorem ps_set {i:Nat} {x:Str} {e:Expr} {te:TE} {pos':Pos} (hN:X.N.Nodup) (hi:X.N[i]? =some x) (hx:Loc X.env.scope x) (he:PE X e te) (hs:swapsWith e (some (.Name x pos')) pos.line X.env=pure false:=by rfl) (hf:X.fn x=true\/X.env.scope.names.lookup x=some .local:=by first|exact .inl rfl|exact .inr rfl|assumption):
  PS X (.Assign [.Name x pos'] e pos) (tAsg te (gName i)):=by
 intro pins s σ H D I h
 refine wpAny_Assign_Name (thn (he pins s σ H _ I h) fun v s1 z_=> ?_) hs
 obtain⟨y,H1,I1,r1,q1⟩:=z_
 exact store_ok I1 hN hi hx r1 (fun s2 I2=>⟨_,H1,I2,q1⟩) hf
noncomputable def tPar (i j:Nat) (ta:TA):TS:=fun D σ H=>ta σ H fun vs H1=>∃v w,vs=[v,w]/\D.nx ((σ.set i (some v)).set j (some w)) H1
theorem ps_par {i j:Nat} {x y:Str} {a b:Expr} {ta:TA} {px py pt:Pos} {kt k2 pt2} (hc:X.calm=true) (hN:X.N.Nodup) (hi:X.N[i]? =some x) (hj:X.N[j]? =some y) (hij:i≠j)
  (hx:X.env.scope.names.lookup x=some .local) (hy:X.env.scope.names.lookup y=some .local) (ha:PA X [a,b] ta)
  (hw:swappedStores [.Tuple [.Name x px, .Name y py] kt pt] (.Tuple [a,b] k2 pt2) X.env=pure (some [x,y]))
  (hs:swapsWithSole [.Tuple [.Name x px, .Name y py] kt pt] (.Tuple [a,b] k2 pt2) pos.line X.env=pure false:=by rfl):
  PS X (.Assign [.Tuple [.Name x px, .Name y py] kt pt] (.Tuple [a,b] k2 pt2) pos) (tPar i j ta):=by
 intro pins s σ H D I h
 rw[exec_Assign_arm]
 refine wpAny_bind (wpAny_standAt ?_)
 rw[hs]
 refine wpAny_bind (wpAny_pure ?_)
 rw[if_neg (by decide)]
 refine wpAny_bind (Tuple_ (thn (ha _ pins s σ H _ I h) fun us s1 z_=> ?_))
 obtain⟨vs,H1,I1,r1,q1⟩:=z_
 obtain⟨v,w,e1,q1⟩:=q1
 subst e1
 obtain⟨u1,u2,rfl,rv,rw'⟩:∃u1 u2,us=[u1,u2]/\RelV v u1/\RelV w u2:=by
  cases r1 with
  |cons p q=>
   cases q with
   |cons p' q'=>
    cases q'
    exact⟨_,_,rfl,p,p'⟩
 refine wpAny_newObj_type ?_ (by show 2<=sizeLine;decide)
 have I2:Inv X pins σ H1 {s1 with heap:=s1.heap.push {cls:= .type "tuple",data:= .seq [u1,u2].toArray}}:=I1.kept (t':=s1.toks) fun b o e=>Heap.get?_push_of_some _ e
 rw[hw]
 refine wpAny_bind (wpAny_pure ?_)
 show wpAny (model X.prog X.w) X.A (do rule "assign.swapped-stores";let items<-unpackItems (.ref s1.heap.objs.size) 2 none;assignInOrder [fun v=>bindName X.env y v,fun v=>bindName X.env x v] items.reverse;pure Flow.next) _ _ _
 refine wpAny_bind (wpAny_rule (wpAny_bind (unpackItems_tuple (items:= #[u1,u2]) (I.ok.hd hc) (IsTup.new s1.heap _) fun h' hx'=> ?_)))
 have I3:=I2.kept (h':=h') (t':=s1.toks) fun b o e=>hx' b o (Nat.ne_of_lt (Heap.lt_size e)) e
 show wpAny _ _ (assignInOrder [fun v=>bindName X.env y v,fun v=>bindName X.env x v] [u2,u1]>>=fun _=>pure Flow.next) _ _ _
 refine wpAny_bind (assignInOrder_cons (wpAny_bindName (store_ok I3 hN hj (.inl hy) rw' (fun s2 I4=> ?_) (.inr hy))))
 refine assignInOrder_cons (wpAny_bindName (store_ok I4 hN hi (.inl hx) rv (fun s3 I5=>assignInOrder_nil (wpAny_pure ?_)) (.inr hx)))
 rw[List.set_comm _ _ (Ne.symm hij)]at I5
 exact⟨_,H1,I5,q1⟩
end
section
variable {X:Cx} {pos:Pos}
noncomputable def tWhile (c:TT) (tb:TS):TS:=fun D σ H=>∃W:Nat->St->Hp->Prop,(∃m,W m σ H)/\∀m σ H,W m σ H->
 c σ H fun b H1=>if b=true then ∃N:St->Hp->Prop,(∀σ' H',N σ' H'->∃m',m'<m/\W m' σ' H')/\tb {D with nx:=N,ct:=N,bk:=D.nx} σ H1 else D.nx σ H1
theorem ps_while {c:Expr} {body:List Stmt} {tc:TT} {tb:TS} (hp:PassesOwn (model X.prog X.w) X.A X.env X.xe) (hc:PT X c tc) (hb:PSs X body tb):PS X (.While c body [] pos) (tWhile tc tb):=by
 intro pins s σ H D I h
 obtain⟨W,⟨m0,w0⟩,turn⟩:=h
 refine wpAny_While (codeAny_whileLoop (fun n s'=>∃σ' H',Inv X pins σ' H' s'/\W n σ' H') ?_ m0 ⟨σ,H,I,w0⟩)
 rintro n s1 ⟨σ1,H1,I1,w1⟩
 refine wpAny_passesOwn hp (thn (hc pins s1 σ1 H1 _ I1 (turn n σ1 H1 w1)) fun b s2 z_=> ?_)
 obtain⟨H2,I2,q2⟩:=z_
 cases b with
 |true=>
  obtain⟨N,hN,q2⟩:=q2
  rw[if_pos rfl]
  refine wpAny_passesOwn hp (thn (hb pins s2 σ1 H2 _ I2 q2) fun f s3 q3=> ?_)
  cases f with
  |next=>
   obtain⟨σ3,H3,I3,n3⟩:=q3
   obtain⟨m',hm,w3⟩:=hN σ3 H3 n3
   exact⟨m',hm,σ3,H3,I3,w3⟩
  |cont=>
   obtain⟨σ3,H3,I3,n3⟩:=q3
   obtain⟨m',hm,w3⟩:=hN σ3 H3 n3
   exact⟨m',hm,σ3,H3,I3,w3⟩
  |brk=>exact q3
  |ret v=>exact q3
 |false=>
  rw[if_neg Bool.false_ne_true]
  exact wpAny_execs_nil ⟨σ1,H2,I2,q2⟩
end
structure It where
 go:Nat->Hp->Prop
 yld:Nat->Hp->V->Hp->Prop
 stop:Nat->Hp->Prop
noncomputable def FpOk (X:Cx) (pins:List (Addr×Obj)) (H:Hp) (b:Addr):Prop:=
 H b=none/\b≠X.env.locals/\b∉X.fs/\(b∈X.ex\/X.s₀.heap.objs.size<=b)/\(∀x c,X.env.cells.lookup x=some c->c≠b)/\∀p∈X.pn++pins,p.1≠b
theorem Inv.fpOk {X:Cx} {pins:List (Addr×Obj)} {σ:St} {H H':Hp} {s:Shared} {b:Addr} (I:Inv X pins σ H s) (hb:s.heap.objs.size<=b) (hn:H' b=none):FpOk X pins H' b:=by
 refine⟨hn,Nat.ne_of_gt (Nat.lt_of_lt_of_le I.lt hb),I.nofs hb, .inr (Nat.le_trans I.sz hb),fun x c e z=> ?_,fun p hp z=> ?_⟩
 ·obtain⟨v,q⟩:=I.cell x c e
  exact absurd (Nat.lt_of_lt_of_le q.lt (by rw[z];exact hb)) (Nat.lt_irrefl _)
 ·exact absurd (Nat.lt_of_lt_of_le (Heap.lt_size (I.pin p hp).1) (by rw[z];exact hb)) (Nat.lt_irrefl _)
structure Turn (P:Program) (w:World) (K:PySem.W.Frag) (tg:Expr) (J:It) (fp:List Addr) (it:Addr) (tn:Nat->Heap->Prop):Prop where
 mem:it∈fp
 obj:∀i h,tn i h->∀b∈fp,∃o,h.get? b=some o/\∀v,o.data≠ .cell v
 keep:∀i h h',tn i h->(∀b∈fp,∀o,h.get? b=some o->h'.get? b=some o)->tn i h'
 item:∀(X:Cx),X.prog=P->X.w=w->X.K=K->X.calm=true->∀(i:Nat) (pins:List (Addr×Obj)) (s:Shared) (σ:St) (H:Hp) (E:Value->Shared->Prop),Inv X pins σ H s->(∀b∈fp,FpOk X pins H b)->tn i s.heap->J.go i H->
  wpAny (model P w) X.A (pyNext (.ref it)) (fun r s1=>∃u,r=some u/\
   wpAny (model P w) X.A (letOwnedTupleGo tg (.ref it) u) (fun _ s2=>∃x H',Inv X pins σ H' s2/\RelV x u/\J.yld i H x H'/\tn (i+1) s2.heap/\∀b∈fp,H' b=none) E s1) E s
 done:∀(X:Cx),X.prog=P->X.w=w->X.K=K->X.calm=true->∀(i:Nat) (pins:List (Addr×Obj)) (s:Shared) (σ:St) (H:Hp) (E:Value->Shared->Prop),Inv X pins σ H s->(∀b∈fp,FpOk X pins H b)->tn i s.heap->J.stop i H->
  wpAny (model P w) X.A (pyNext (.ref it)) (fun r s1=>r=none/\Inv X pins σ H s1) E s
 self:∀(A:Around) (i:Nat) (s:Shared) (Q:Value->Shared->Prop) (E:Value->Shared->Prop),tn i s.heap->Q (.ref it) s->wpAny (model P w) A (pyIter (.ref it)) Q E s
noncomputable abbrev TI:=St->Hp->(It->Hp->Prop)->Prop
noncomputable def PIE (X:Cx) (pins:List (Addr×Obj)) (σ:St) (tg:Expr) (R:It->Hp->Prop) (itv:Value) (s2:Shared):Prop:=
 ∃(it:Addr) (fp:List Addr) (tn:Nat->Heap->Prop) (J:It) (H':Hp),itv= .ref it/\Inv X pins σ H' s2/\Turn X.prog X.w X.K tg J fp it tn/\tn 0 s2.heap/\(∀b∈fp,FpOk X pins H' b)/\R J H'
noncomputable def PI (X:Cx) (tg iter:Expr) (wi:TI):Prop:=
 ∀(pins:List (Addr×Obj)) (s:Shared) (σ:St) (H:Hp) (R:It->Hp->Prop),Inv X pins σ H s->wi σ H R->
  wpAny (model X.prog X.w) X.A (eval iter X.env) (fun v s1=>wpAny (model X.prog X.w) X.A (pyIter v) (PIE X pins σ tg R) X.xe s1) X.xe s
theorem go_of {M:Model} {A:Around} {E:Value->Shared->Prop} {s:Shared} {tg:Expr} {it:Addr} {u:Value} {o:Obj} {n:String} {vs:Array Value} {Q:Unit->Shared->Prop} (ho:s.heap.get? it=some o) (hc:o.cls= .type n) (hd:o.data= .fields vs)
  (hn:["enumerate","zip","dict_itemiterator","dict_reverseitemiterator","odict_iterator","itertools.zip_longest","itertools.pairwise"].contains n=false) (hQ:Q () s):wpAny M A (letOwnedTupleGo tg (.ref it) u) Q E s:=by
 unfold letOwnedTupleGo
 cases tg<;>first
  |exact wpAny_pure hQ
  |(cases u<;>first
    |exact wpAny_pure hQ
    |(refine wpAny_bind (wpAny_load ho ?_)
      rw[hc,hd]
      show wpAny M A (if (["enumerate","zip","dict_itemiterator","dict_reverseitemiterator","odict_iterator","itertools.zip_longest","itertools.pairwise"].contains n&&vs[0]? ==some (rawInt _))=true then _ else _) Q E s
      rw[if_neg (by intro h;rw[hn,Bool.false_and]at h;cases h)]
      exact wpAny_pure hQ))
noncomputable def Itl (K:PySem.W.Frag) (a:Addr):It:=
 ⟨fun i H=>∃xs x,SqL K H a xs/\xs[i]? =some x,fun i H x H'=>H'=H/\∀xs,SqL K H a xs->xs[i]? =some x,fun i H=>∃xs,SqL K H a xs/\xs.length<=i⟩
noncomputable def Itt (K:PySem.W.Frag) (a:Addr):It:=
 ⟨fun i H=>∃xs x,SqT K H a xs/\xs[i]? =some x,fun i H x H'=>H'=H/\∀xs,SqT K H a xs->xs[i]? =some x,fun i H=>∃xs,SqT K H a xs/\xs.length<=i⟩
noncomputable def Itr (lo:Int) (n:Nat):It:=⟨fun i _=>i<n,fun i H x H'=>H'=H/\x= .int (lo+i),fun i _=>n<=i⟩
theorem turn_list {P:Program} {w:World} {K:PySem.W.Frag} {tg:Expr} (a it:Addr):Turn P w K tg (Itl K a) [it] it (fun i h=>h.IsListIter it a i)where
 mem:=by simp
 obj:=fun i h st b hb=>by
  have e:b=it:=by simpa using hb
  subst e
  obtain⟨o,e,c,d⟩:=st
  exact⟨o,e,fun v z=>by rw[d]at z;cases z⟩
 keep:=fun i h h' st k=>st.at fun o e=>k it (by simp) o e
 item:=by
  intro X hP hw hK hc i pins s σ H E I hf st hg
  subst hP hw hK
  obtain⟨xs,x,hq,hx⟩:=hg
  obtain⟨its,rv,p,hz⟩:=I.list hq
  obtain⟨u,hu,ru⟩:=rv.get hx
  obtain⟨f0,f1,f2,f3,f4,f5⟩:=hf it (by simp)
  refine wpAny_pyNext_list_item st p.isList (x:=u) (by simpa using hu) fun h' st' sb=> ?_
  have I1:Inv X pins σ H {s with heap:=h'}:=I.turned (t':=s.toks) (fun b o hb e=>(sb.2 b hb).trans e) f0 f1 f3 f4 f5
  obtain⟨o,e,c,d⟩:=id st'
  exact⟨u,rfl,go_of (s:={s with heap:=h'}) e c d (by decide) ⟨x,H,I1,ru,⟨rfl,fun ys hy=>by rw[I.list_inj hy hq];exact hx⟩,st',fun b hb=>(hf b hb).1⟩⟩
 done:=by
  intro X hP hw hK hc i pins s σ H E I hf st hg
  subst hP hw hK
  obtain⟨xs,hq,hx⟩:=hg
  obtain⟨its,rv,p,hz⟩:=I.list hq
  obtain⟨f0,f1,f2,f3,f4,f5⟩:=hf it (by simp)
  have hl:=rv.length
  exact wpAny_pyNext_list_end (I.ok.hd hc) st p.isList (by simp;omega) fun h' eb=>⟨rfl,I.turned (t':=s.toks) (fun b o hb e=>eb b o hb e) f0 f1 f3 f4 f5⟩
 self:=fun _ _ _ _ _ st h=>wpAny_pyIter_listiter st h
theorem turn_tuple {P:Program} {w:World} {K:PySem.W.Frag} {tg:Expr} (a it:Addr):Turn P w K tg (Itt K a) [it] it (fun i h=>h.IsTupleIter it a i)where
 mem:=by simp
 obj:=fun i h st b hb=>by
  have e:b=it:=by simpa using hb
  subst e
  obtain⟨o,e,c,d⟩:=st
  exact⟨o,e,fun v z=>by rw[d]at z;cases z⟩
 keep:=fun i h h' st k=>st.at fun o e=>k it (by simp) o e
 item:=by
  intro X hP hw hK hc i pins s σ H E I hf st hg
  subst hP hw hK
  obtain⟨xs,x,hq,hx⟩:=hg
  obtain⟨its,rv,p,hz⟩:=I.tuple hq
  obtain⟨u,hu,ru⟩:=rv.get hx
  obtain⟨f0,f1,f2,f3,f4,f5⟩:=hf it (by simp)
  refine wpAny_pyNext_tuple_item st (show s.heap.IsTuple a its.toArray from p) (x:=u) (by simpa using hu) fun h' st' sb=> ?_
  have I1:Inv X pins σ H {s with heap:=h'}:=I.turned (t':=s.toks) (fun b o hb e=>(sb.2 b hb).trans e) f0 f1 f3 f4 f5
  obtain⟨o,e,c,d⟩:=id st'
  exact⟨u,rfl,go_of (s:={s with heap:=h'}) e c d (by decide) ⟨x,H,I1,ru,⟨rfl,fun ys hy=>by rw[I.tuple_inj hy hq];exact hx⟩,st',fun b hb=>(hf b hb).1⟩⟩
 done:=by
  intro X hP hw hK hc i pins s σ H E I hf st hg
  subst hP hw hK
  obtain⟨xs,hq,hx⟩:=hg
  obtain⟨its,rv,p,hz⟩:=I.tuple hq
  obtain⟨f0,f1,f2,f3,f4,f5⟩:=hf it (by simp)
  have hl:=rv.length
  exact wpAny_pyNext_tuple_end (I.ok.hd hc) st (show s.heap.IsTuple a its.toArray from p) (by simp;omega) fun h' eb=>⟨rfl,I.turned (t':=s.toks) (fun b o hb e=>eb b o hb e) f0 f1 f3 f4 f5⟩
 self:=fun _ _ _ _ _ st h=>wpAny_pyIter_tupleiter st h
theorem turn_range {P:Program} {w:World} {K:PySem.W.Frag} {tg:Expr} (it:Addr) (lo:Int) (n:Nat):Turn P w K tg (Itr lo n) [it] it (fun i h=>IsRangeIter h it (lo+(i:Nat)*1) ((n:Int) - (i:Nat)) 1)where
 mem:=by simp
 obj:=fun i h st b hb=>by
  have e:b=it:=by simpa using hb
  subst e
  exact⟨_,st,fun v z=>by
   have z':Data.fields _=Data.cell v:=z
   cases z'⟩
 keep:=fun i h h' st k=>k it (by simp) _ st
 item:=by
  intro X hP hw hK hc i pins s σ H E I hf st hg
  subst hP hw hK
  obtain⟨f0,f1,f2,f3,f4,f5⟩:=hf it (by simp)
  have W:=Walks.range (prog:=X.prog) (w:=X.w) (I.ok.hd hc) it lo 1 n
  refine W.item i s _ _ hg st fun v h' tk hv st' kk=> ?_
  obtain⟨t,rfl⟩:=hv
  have I1:Inv X pins σ H {s with heap:=h',toks:=tk}:=I.turned (fun b o hb e=>kk b o (by simpa using hb) e) f0 f1 f3 f4 f5
  refine⟨_,rfl,go_of (s:={s with heap:=h',toks:=tk}) (n:="range_iterator") st' rfl rfl (by decide) ⟨.int (lo+i),H,I1,⟨t,?_⟩,⟨rfl,rfl⟩,st',fun b hb=>(hf b hb).1⟩⟩
  rw[Int.mul_one]
 done:=by
  intro X hP hw hK hc i pins s σ H E I hf st hg
  subst hP hw hK
  obtain⟨f0,f1,f2,f3,f4,f5⟩:=hf it (by simp)
  exact wpAny_pyNext_range_end (I.ok.hd hc) st (by have:n<=i:=hg;omega) fun h' eb=>⟨rfl,I.turned (t':=s.toks) (fun b o hb e=>eb b o hb e) f0 f1 f3 f4 f5⟩
 self:=fun _ _ _ _ _ st h=>wpAny_pyIter_rangeiter st h
end L2
namespace L2
open PySem PySem.Spec PyProof.Rows
section
variable {X:Cx} {tg:Expr}
noncomputable def iList (K:PySem.W.Frag) (tl:TE):TI:=fun σ H R=>tl σ H fun x H1=>∃a,x= .ref a/\(∃xs,SqL K H1 a xs)/\R (Itl K a) H1
noncomputable def iTup (K:PySem.W.Frag) (tl:TE):TI:=fun σ H R=>tl σ H fun x H1=>∃a,x= .ref a/\(∃xs,SqT K H1 a xs)/\R (Itt K a) H1
theorem pi_list {l:Expr} {tl:TE} (hl:PE X l tl):PI X tg l (iList X.K tl):=by
 intro pins s σ H R I h
 refine thn (hl pins s σ H _ I h) fun v s1 z_=> ?_
 obtain⟨x,H1,I1,r1,q1⟩:=z_
 obtain⟨a,e,⟨xs,hq⟩,q⟩:=q1
 subst e
 cases r1
 obtain⟨its,rv,p,hz⟩:=I1.list hq
 refine wpAny_pyIter_list p.isList ?_
 refine⟨s1.heap.objs.size,[s1.heap.objs.size],_,_,H1,rfl,I1.kept (t':=s1.toks) fun b o e=>Heap.get?_push_of_some _ e,turn_list a _,⟨_,Heap.get?_push_size _ rfl,rfl,rfl⟩,fun b hb=> ?_,q⟩
 have e:b=s1.heap.objs.size:=by simpa using hb
 subst e
 exact I1.fpOk (Nat.le_refl _) (I1.hok.fresh (Nat.le_refl _))
theorem pi_tup {l:Expr} {tl:TE} (hl:PE X l tl):PI X tg l (iTup X.K tl):=by
 intro pins s σ H R I h
 refine thn (hl pins s σ H _ I h) fun v s1 z_=> ?_
 obtain⟨x,H1,I1,r1,q1⟩:=z_
 obtain⟨a,e,⟨xs,hq⟩,q⟩:=q1
 subst e
 cases r1
 obtain⟨its,rv,p,hz⟩:=I1.tuple hq
 refine wpAny_pyIter_tuple (show s1.heap.IsTuple a its.toArray from p) ?_
 refine⟨s1.heap.objs.size,[s1.heap.objs.size],_,_,H1,rfl,I1.kept (t':=s1.toks) fun b o e=>Heap.get?_push_of_some _ e,turn_tuple a _,⟨_,Heap.get?_push_size _ rfl,rfl,rfl⟩,fun b hb=> ?_,q⟩
 have e:b=s1.heap.objs.size:=by simpa using hb
 subst e
 exact I1.fpOk (Nat.le_refl _) (I1.hok.fresh (Nat.le_refl _))
theorem range_it {pins:List (Addr×Obj)} {σ:St} {H:Hp} {s:Shared} {R:It->Hp->Prop} {E:Value->Shared->Prop} {lo hi:Int} {t u v:Tok} {tk:Nat} (I:Inv X pins σ H s) (h1: -(2 ^62)<=lo) (h2:lo<2 ^62) (h3: -(2 ^62)<=hi) (h4:hi<2 ^62)
  (q:R (Itr lo (hi - lo).toNat) H):wpAny (model X.prog X.w) X.A (pyIter (.ref s.heap.objs.size)) (PIE X pins σ tg R) E {s with heap:=s.heap.push {cls:= .type "range",data:= .fields #[.int lo t, .int hi u, .int 1 v]},toks:=tk}:=by
 refine wpAny_pyIter_range (IsRange.new ..) (small_one h1 h2 h3 h4) ?_
 have I1:Inv X pins σ H {s with heap:=s.heap.push {cls:= .type "range",data:= .fields #[.int lo t, .int hi u, .int 1 v]},toks:=tk}:=I.kept fun b o e=>Heap.get?_push_of_some _ e
 refine⟨(s.heap.push {cls:= .type "range",data:= .fields #[.int lo t, .int hi u, .int 1 v]}).objs.size,[(s.heap.push {cls:= .type "range",data:= .fields #[.int lo t, .int hi u, .int 1 v]}).objs.size],_,_,H,rfl,
  I1.kept (t':=tk) fun b o e=>Heap.get?_push_of_some _ e,turn_range _ lo (hi - lo).toNat,?_,fun b hb=> ?_,q⟩
 ·have e1:lo+((0:Nat):Int)*1=lo:=by simp
  have e2:(((hi - lo).toNat:Nat):Int) - ((0:Nat):Int)=Builtin.Range.rangeSize lo hi 1:=by rw[rangeSize_one];split<;>omega
  show IsRangeIter _ _ (lo+((0:Nat):Int)*1) ((((hi - lo).toNat:Nat):Int) - ((0:Nat):Int)) 1
  rw[e1,e2]
  exact Heap.get?_push_size _ rfl
 ·have e:b=(s.heap.push {cls:= .type "range",data:= .fields #[.int lo t, .int hi u, .int 1 v]}).objs.size:=by simpa using hb
  subst e
  exact I1.fpOk (Nat.le_refl _) (I1.hok.fresh (Nat.le_refl _))
noncomputable def iRng1 (ta:TA):TI:=fun σ H R=>ta σ H fun vs H1=>∃j:Int,vs=[.int j]/\ -(2 ^62)<=j/\j<2 ^62/\R (Itr 0 j.toNat) H1
noncomputable def iRng2 (ta:TA):TI:=fun σ H R=>ta σ H fun vs H1=>∃i j:Int,vs=[.int i, .int j]/\(-(2 ^62)<=i/\i<2 ^62/\ -(2 ^62)<=j/\j<2 ^62)/\R (Itr i (j - i).toNat) H1
theorem pi_range1 {a:Expr} {ta:TA} {p pos:Pos} (hg:Gl X "range") (hm:X.mg "range"=none) (ha:PA X [a] ta) (hs:starEach [a] X.env=[(false,eval a X.env)]:=by rfl):PI X tg (.Call (.Name "range" p) [a] [] pos) (iRng1 ta):=by
 intro pins s σ H R I h
 refine Call_ (ld_blt I hg hm boot_range (PyProof.Rows.callWith_type1 (thn (ha pos pins s σ H _ I h) fun us s1 z_=> ?_) hs rfl))
 obtain⟨vs,H1,I1,r1,q1⟩:=z_
 obtain⟨j,e,q1,q2,q⟩:=q1
 subst e
 cases r1 with
 |cons r rr=>
  cases rr
  obtain⟨t,rfl⟩:=r
  exact call_range_1 (range_it I1 (by omega) (by omega) q1 q2 (by simpa using q))
theorem pi_range2 {a b:Expr} {ta:TA} {p pos:Pos} (hg:Gl X "range") (hm:X.mg "range"=none) (ha:PA X [a,b] ta) (hs:starEach [a,b] X.env=[(false,eval a X.env),(false,eval b X.env)]:=by rfl) (hs2:starEach [b] X.env=[(false,eval b X.env)]:=by rfl):
  PI X tg (.Call (.Name "range" p) [a,b] [] pos) (iRng2 ta):=by
 intro pins s σ H R I h
 refine Call_ (ld_blt I hg hm boot_range (PyProof.Rows.callWith_type1 (thn (ha pos pins s σ H _ I h) fun us s1 z_=> ?_) (by rw[hs,hs2]) (by rw[hs2];rfl)))
 obtain⟨vs,H1,I1,r1,q1⟩:=z_
 obtain⟨i,j,e,⟨q1,q2,q3,q4⟩,q⟩:=q1
 subst e
 cases r1 with
 |cons r rr=>
  cases rr with
  |cons r' rr=>
   cases rr
   obtain⟨t,rfl⟩:=r
   obtain⟨t',rfl⟩:=r'
   exact call_range_2 (range_it I1 q1 q2 q3 q4 q)
noncomputable def tFor (wi:TI) (g:TG) (tb:TS):TS:=fun D σ H=>wi σ H fun J H1=>∃W:Nat->Nat->St->Hp->Prop,(∃m,W 0 m σ H1)/\∀i m σ H,W i m σ H->
 (J.stop i H/\D.nx σ H)\/(J.go i H/\∃N:St->Hp->Prop,(∀σ' H',N σ' H'->∃m',m'<m/\W (i+1) m' σ' H')/\∀x H',J.yld i H x H'->g x σ H' fun σ2 H2=>tb {D with nx:=N,ct:=N,bk:=D.nx} σ2 H2)
noncomputable def pinsAt (fp:List Addr) (h:Heap):List (Addr×Obj):=fp.filterMap fun b=>(h.get? b).map fun o=>(b,o)
theorem mem_pinsAt {fp:List Addr} {h:Heap} {b:Addr} {o:Obj} (hb:b∈fp) (e:h.get? b=some o):(b,o)∈pinsAt fp h:=List.mem_filterMap.mpr ⟨b,hb,by rw[e];rfl⟩
theorem of_pinsAt {fp:List Addr} {h:Heap} {p:Addr×Obj} (hp:p∈pinsAt fp h):p.1∈fp/\h.get? p.1=some p.2:=by
 obtain⟨b,hb,e⟩:=List.mem_filterMap.mp hp
 cases q:h.get? b with
 |none=>rw[q]at e;cases e
 |some o=>
  rw[q]at e
  have e':(b,o)=p:=Option.some.inj e
  subst e'
  exact⟨hb,q⟩
theorem Inv.pinned {pins:List (Addr×Obj)} {σ:St} {H:Hp} {s:Shared} {fp:List Addr} (I:Inv X pins σ H s) (hf:∀b∈fp,FpOk X pins H b) (ho:∀b∈fp,∃o,s.heap.get? b=some o/\∀v,o.data≠ .cell v):Inv X (pins++pinsAt fp s.heap) σ H s:=
 I.pins_of fun p hp=>(List.mem_append.mp hp).elim (fun z=>I.pin p (List.mem_append_right _ z)) fun z=>by
  obtain⟨hb,e⟩:=of_pinsAt z
  obtain⟨f0,f1,f2,_⟩:=hf p.1 hb
  obtain⟨o,e',d⟩:=ho p.1 hb
  rw[e]at e';cases e'
  exact⟨e,f0,f1,f2,d⟩
theorem Inv.unpinned {pins pl:List (Addr×Obj)} {σ:St} {H:Hp} {s:Shared} (I:Inv X (pins++pl) σ H s):Inv X pins σ H s:=I.pins_of fun p hp=>I.pin p (List.mem_append_right _ (List.mem_append_left _ hp))
theorem ps_for {iter:Expr} {body:List Stmt} {wi:TI} {g:TG} {tb:TS} {pos:Pos} (hp:PassesOwn (model X.prog X.w) X.A X.env X.xe) (hc:X.calm=true) (hi:PI X tg iter wi) (hg:PG X tg g) (hb:PSs X body tb)
  (hs:∀x,foldedSetIterable iter X.env x=pure x:=by intro _;rfl):PS X (.For tg iter body [] pos) (tFor wi g tb):=by
 intro pins s σ H D I h
 refine wpAny_For (thn (hi pins s σ H _ I h) fun v s1 h1=>thn h1 fun itv s2 h2=> ?_) hs
 obtain⟨it,fp,tn,J,H2,e,I2,T,st2,f2,W,⟨m0,w0⟩,turn⟩:=h2
 subst e
 have stat:∀{H':Hp},(∀b∈fp,H' b=none)->∀b∈fp,FpOk X pins H' b:=fun hn b hb=>⟨hn b hb,(f2 b hb).2⟩
 refine codeAny_forLoop_any (fun n s'=>∃i σ' H',Inv X pins σ' H' s'/\tn i s'.heap/\(∀b∈fp,H' b=none)/\W i n σ' H') ?_ m0 ⟨0,σ,H2,I2,st2,fun b hb=>(f2 b hb).1,w0⟩
 rintro n s3 ⟨i,σ3,H3,I3,st3,fr3,w3⟩
 rcases turn i n σ3 H3 w3 with ⟨stop,qn⟩|⟨go,N,hN,step⟩
 ·refine wpAny_passesOwn hp (thn (T.done X rfl rfl rfl hc i pins s3 σ3 H3 X.xe I3 (stat fr3) st3 stop) fun r s4 z_=> ?_)
  obtain⟨hr,I4⟩:=z_
  subst hr
  exact wpAny_execs_nil ⟨σ3,H3,I4,qn⟩
 ·refine wpAny_passesOwn hp (thn (T.item X rfl rfl rfl hc i pins s3 σ3 H3 X.xe I3 (stat fr3) st3 go) fun r s4 z_=> ?_)
  obtain⟨u,hr,h4⟩:=z_
  subst hr
  refine wpAny_passesOwn hp (thn h4 fun _ s5 z_=> ?_)
  obtain⟨x,H5,I5,r5,y5,st5,fr5⟩:=z_
  have I5':=I5.pinned (stat fr5) (T.obj _ _ st5)
  refine wpAny_passesOwn hp (thn (hg _ s5 σ3 H5 x u _ I5' r5 (step x H5 y5)) fun _ s6 z_=> ?_)
  obtain⟨σ6,H6,I6,q6⟩:=z_
  refine wpAny_passesOwn hp (thn (hb _ s6 σ6 H6 _ I6 q6) fun f s7 q7=> ?_)
  have again:∀{σ7:St} {H7:Hp},Inv X (pins++pinsAt fp s5.heap) σ7 H7 s7->N σ7 H7->∃m,m<n/\∃i σ' H',Inv X pins σ' H' s7/\tn i s7.heap/\(∀b∈fp,H' b=none)/\W i m σ' H':=fun {σ7 H7} I7 n7=>by
   obtain⟨m',hm,w7⟩:=hN σ7 H7 n7
   refine⟨m',hm,i+1,σ7,H7,I7.unpinned,T.keep _ _ _ st5 fun b hb o e=>(I7.pin (b,o) (List.mem_append_right _ (List.mem_append_right _ (mem_pinsAt hb e)))).1,fun b hb=> ?_,w7⟩
   obtain⟨o,e,d⟩:=T.obj _ _ st5 b hb
   exact(I7.pin (b,o) (List.mem_append_right _ (List.mem_append_right _ (mem_pinsAt hb e)))).2.1
  cases f with
  |next=>obtain⟨σ7,H7,I7,n7⟩:=q7;exact again I7 n7
  |cont=>obtain⟨σ7,H7,I7,n7⟩:=q7;exact again I7 n7
  |brk=>obtain⟨σ7,H7,I7,q7⟩:=q7;exact⟨σ7,H7,I7.unpinned,q7⟩
  |ret v=>obtain⟨x7,σ7,H7,I7,r7,q7⟩:=q7;exact⟨x7,σ7,H7,I7.unpinned,r7,q7⟩
end
end L2
namespace L2
open PySem PySem.Spec PyProof.Rows
noncomputable abbrev R2:=V->V->Hp->VK->Prop
noncomputable def OpR (X:Cx) (f:Value->Value->Sem Value) (r:R2):Prop:=
 ∀(pins:List (Addr×Obj)) (s:Shared) (σ:St) (H:Hp) (x y:V) (v u:Value) (Q:VK),Inv X pins σ H s->RelV x v->RelV y u->r x y H Q->
  wpAny (model X.prog X.w) X.A (f v u) (EP X pins σ Q) X.xe s
noncomputable def UnR (X:Cx) (f:Value->Sem Value) (r:V->Hp->VK->Prop):Prop:=
 ∀(pins:List (Addr×Obj)) (s:Shared) (σ:St) (H:Hp) (x:V) (v:Value) (Q:VK),Inv X pins σ H s->RelV x v->r x H Q->
  wpAny (model X.prog X.w) X.A (f v) (EP X pins σ Q) X.xe s
noncomputable def CallR (X:Cx) (f:Value) (r:List V->Hp->VK->Prop):Prop:=
 ∀(pins:List (Addr×Obj)) (s:Shared) (σ:St) (H:Hp) (xs:List V) (us:List Value) (Q:VK),Inv X pins σ H s->Vals xs us->r xs H Q->
  wpAny (model X.prog X.w) X.A (call f us) (EP X pins σ Q) X.xe s
noncomputable def TruR (X:Cx) (r:V->Hp->(Bool->Hp->Prop)->Prop):Prop:=
 ∀(pins:List (Addr×Obj)) (s:Shared) (σ:St) (H:Hp) (x:V) (v:Value) (Q:Bool->Hp->Prop),Inv X pins σ H s->RelV x v->r x H Q->
  wpAny (model X.prog X.w) X.A (truthy v) (TP X pins σ Q) X.xe s
noncomputable def tOp (r:R2) (ta tb:TE):TE:=fun σ H Q=>ta σ H fun x H1=>tb σ H1 fun y H2=>r x y H2 Q
noncomputable def tUn (r:V->Hp->VK->Prop) (ta:TE):TE:=fun σ H Q=>ta σ H fun x H1=>r x H1 Q
noncomputable def rI (C:Int->Int->Prop) (g:Int->Int->V):R2:=fun x y H Q=>∃i j,x= .int i/\y= .int j/\C i j/\Q (g i j) H
noncomputable def rI0 (g:Int->Int->V):R2:=fun x y H Q=>∃i j,x= .int i/\y= .int j/\Q (g i j) H
noncomputable def rU (g:Int->V):V->Hp->VK->Prop:=fun x H Q=>∃i,x= .int i/\Q (g i) H
section
variable {X:Cx} {a b c:Expr} {ta tb tc:TE} {pos:Pos}
theorem binT (ha:PE X a ta) (hb:PE X b tb) {pins:List (Addr×Obj)} {s:Shared} {σ:St} {H:Hp} {R:V->V->Hp->Prop} (I:Inv X pins σ H s)
  (h:ta σ H fun x H1=>tb σ H1 fun y H2=>R x y H2) {Q:Value->Shared->Prop} {f:Value->Value->Sem Value}
  (hf:∀v u s2 x y H2,Inv X pins σ H2 s2->RelV x v->RelV y u->R x y H2->wpAny (model X.prog X.w) X.A (f v u) Q X.xe s2):
  wpAny (model X.prog X.w) X.A (eval a X.env) (fun v s₁=>wpAny (model X.prog X.w) X.A (eval b X.env) (fun u s₂=>wpAny (model X.prog X.w) X.A (f v u) Q X.xe s₂) X.xe s₁) X.xe s:=by
 refine thn (ha pins s σ H _ I h) fun v s1 z_=> ?_
 obtain⟨x,H1,I1,r1,q1⟩:=z_
 refine thn (hb pins s1 σ H1 _ I1 q1) fun u s2 z_=> ?_
 obtain⟨y,H2,I2,r2,q2⟩:=z_
 exact hf v u s2 x y H2 I2 r1 r2 q2
theorem pe_op {op:Operator} {r:R2} (ho:OpR X (binaryOp op) r) (ha:PE X a ta) (hb:PE X b tb):PE X (.BinOp a op b pos) (tOp r ta tb):=by
 intro pins s σ H Q I h
 exact wpAny_BinOp (binT ha hb I h fun v u s2 x y H2 I2 rx ry q=>ho pins s2 σ H2 x y v u Q I2 rx ry q)
theorem pe_un {op:UnaryOp} {r:V->Hp->VK->Prop} (ho:UnR X (unaryOp op) r) (ha:PE X a ta):PE X (.UnaryOp op a pos) (tUn r ta):=by
 intro pins s σ H Q I h
 exact UnaryOp_ (thn (ha pins s σ H _ I h) fun v s1 ⟨x,H1,I1,r1,q1⟩=>ho pins s1 σ H1 x v Q I1 r1 q1)
theorem opI {f:Value->Value->Sem Value} {C:Int->Int->Prop} {g:Int->Int->Int}
  (rule:∀(i j:Int) (t u:Tok) (s:Shared) (Q:Value->Shared->Prop) (E:Value->Shared->Prop),C i j->Q (.int (g i j) s.toks) {s with toks:=s.toks+1}->wpAny (model X.prog X.w) X.A (f (.int i t) (.int j u)) Q E s):
  OpR X f (rI C fun i j=> .int (g i j)):=by
 intro pins s σ H x y v u Q I rx ry h
 obtain⟨i,j,rfl,rfl,hc,q⟩:=h
 obtain⟨t,rfl⟩:=rx
 obtain⟨t',rfl⟩:=ry
 exact rule i j t t' s _ _ hc ⟨.int (g i j),H,I.tok _,⟨_,rfl⟩,q⟩
theorem opI0 {f:Value->Value->Sem Value} {g:Int->Int->Int}
  (rule:∀(i j:Int) (t u:Tok) (s:Shared) (Q:Value->Shared->Prop) (E:Value->Shared->Prop),Q (.int (g i j) s.toks) {s with toks:=s.toks+1}->wpAny (model X.prog X.w) X.A (f (.int i t) (.int j u)) Q E s):
  OpR X f (rI0 fun i j=> .int (g i j)):=by
 intro pins s σ H x y v u Q I rx ry h
 obtain⟨i,j,rfl,rfl,q⟩:=h
 obtain⟨t,rfl⟩:=rx
 obtain⟨t',rfl⟩:=ry
 exact rule i j t t' s _ _ ⟨.int (g i j),H,I.tok _,⟨_,rfl⟩,q⟩
theorem opB0 {f:Value->Value->Sem Value} {g:Int->Int->Bool}
  (rule:∀(i j:Int) (t u:Tok) (s:Shared) (Q:Value->Shared->Prop) (E:Value->Shared->Prop),Q (.bool (g i j)) s->wpAny (model X.prog X.w) X.A (f (.int i t) (.int j u)) Q E s):
  OpR X f (rI0 fun i j=> .bl (g i j)):=by
 intro pins s σ H x y v u Q I rx ry h
 obtain⟨i,j,rfl,rfl,q⟩:=h
 obtain⟨t,rfl⟩:=rx
 obtain⟨t',rfl⟩:=ry
 exact rule i j t t' s _ _ ⟨.bl (g i j),H,I,rfl,q⟩
noncomputable def CDiv (i j:Int):Prop:=0<j/\j<1073741824
noncomputable def CPow (i j:Int):Prop:=0<=j/\j<=1000000/\i.natAbs<2 ^64
noncomputable def CMul (i j:Int):Prop:=(-(2 ^64)<i/\i<2 ^64)\/(-(2 ^64)<j/\j<2 ^64)
theorem CMul.ok {i j:Int} (h:CMul i j):IntMulOk i j:=by
 rcases h with ⟨h1,h2⟩|⟨h1,h2⟩
 ·exact .of_left (intBits_le_64 h1 h2)
 ·exact .of_right (intBits_le_64 h1 h2)
theorem op_add:OpR X (binaryOp .Add) (rI0 fun i j=> .int (i+j)):=opI0 fun _ _ _ _ _ _ _ q=>add_int q
theorem op_sub:OpR X (binaryOp .Sub) (rI0 fun i j=> .int (i - j)):=opI0 fun _ _ _ _ _ _ _ q=>sub_int q
theorem op_mul:OpR X (binaryOp .Mult) (rI CMul fun i j=> .int (i*j)):=opI fun _ _ _ _ _ _ _ hc q=>mul_int q hc.ok
theorem op_fdiv:OpR X (binaryOp .FloorDiv) (rI CDiv fun i j=> .int (i / j)):=opI fun i j _ _ _ _ _ hc q=>by
 have h1:(0:Int)<j:=hc.1
 have h2:j<1073741824:=hc.2
 exact floordiv_int (by omega) (by rw[Int.fdiv_eq_ediv_of_nonneg i (by omega)];exact q) (.inl (PyProof.noPylong_small (by omega)))
theorem op_mod:OpR X (binaryOp .Mod) (rI (fun _ j=>0<j) fun i j=> .int (i%j)):=opI fun i j _ _ _ _ _ hc q=>by
 have h1:(0:Int)<j:=hc
 exact mod_int' (by omega) (by rw[Int.fmod_eq_emod_of_nonneg i (by omega)];exact q)
theorem unI {f:Value->Sem Value} {g:Int->Int}
  (rule:∀(i:Int) (t:Tok) (s:Shared) (Q:Value->Shared->Prop) (E:Value->Shared->Prop),Q (.int (g i) s.toks) {s with toks:=s.toks+1}->wpAny (model X.prog X.w) X.A (f (.int i t)) Q E s):
  UnR X f (rU fun i=> .int (g i)):=by
 intro pins s σ H x v Q I rx h
 obtain⟨i,rfl,q⟩:=h
 obtain⟨t,rfl⟩:=rx
 exact rule i t s _ _ ⟨.int (g i),H,I.tok _,⟨_,rfl⟩,q⟩
theorem un_neg:UnR X (unaryOp .USub) (rU fun i=> .int (-i)):=unI fun _ _ _ _ _ q=>neg_int q
end
noncomputable def scal:V->V->Bool
 | .non, .non=>true| .non, .int _=>true| .int _, .non=>true| .non, .bl _=>true| .bl _, .non=>true| .non, .str _=>true| .str _, .non=>true
 | .int _, .int _=>true| .bl _, .bl _=>true| .str _, .str _=>true| .byt _, .byt _=>true
 | .int _, .str _=>true| .str _, .int _=>true| .bl _, .str _=>true| .str _, .bl _=>true
 |_,_=>false
noncomputable def rEq:R2:=fun x y H Q=>scal x y=true/\Q (.bl (decide (x=y))) H
noncomputable def rNe:R2:=fun x y H Q=>scal x y=true/\Q (.bl (!decide (x=y))) H
theorem dec_int {i j:Int}:decide (V.int i=V.int j)=(i==j):=by
 rw[Bool.eq_iff_iff]
 simp
theorem dec_bl {i j:Bool}:decide (V.bl i=V.bl j)=(i==j):=by
 rw[Bool.eq_iff_iff]
 simp
theorem dec_str {i j:Str}:decide (V.str i=V.str j)=(i==j):=by
 rw[Bool.eq_iff_iff]
 simp
theorem dec_byt {i j:Array UInt8}:decide (V.byt i=V.byt j)=(i.toList==j.toList):=by
 rw[Bool.eq_iff_iff]
 cases i
 cases j
 simp
section
variable {X:Cx} {a b c:Expr} {ta tb tc:TE} {pos:Pos}
theorem fin_bl {pins:List (Addr×Obj)} {σ:St} {H:Hp} {s:Shared} {Q:VK} {k k':Bool} (I:Inv X pins σ H s) (q:Q (.bl k) H) (e:k=k'):EP X pins σ Q (.bool k') s:=by
 subst e
 exact⟨.bl k,H,I,rfl,q⟩
theorem op_eq:OpR X (compareOp .Eq) rEq:=by
 intro pins s σ H x y v u Q I rx ry h
 obtain⟨hs,q⟩:=h
 cases x with
 |non=>
  cases rx
  cases y with
  |non=>cases ry;exact PySem.EqNone.eq_none_none (fin_bl I q (by simp))
  |bl j=>cases ry;exact PySem.EqNone.eq_none_bool (fin_bl I q (by simp))
  |int j=>obtain⟨t',rfl⟩:=ry;exact PySem.EqNone.eq_none_int (fin_bl I q (by simp))
  |str j=>obtain⟨t',rfl⟩:=ry;exact PySem.EqNone.eq_none_str (fin_bl I q (by simp))
  |_=>exact absurd (show false=true from hs) Bool.false_ne_true
 |bl i=>
  cases rx
  cases y with
  |non=>cases ry;exact PySem.EqNone.eq_bool_none (fin_bl I q (by simp))
  |bl j=>cases ry;exact eq_bool (fin_bl I q dec_bl)
  |str j=>obtain⟨t',rfl⟩:=ry;exact PySem.EqMixed.eq_bool_str (fin_bl I q (by simp))
  |_=>exact absurd (show false=true from hs) Bool.false_ne_true
 |int i=>
  obtain⟨t,rfl⟩:=rx
  cases y with
  |non=>cases ry;exact PySem.EqNone.eq_int_none (fin_bl I q (by simp))
  |int j=>obtain⟨t',rfl⟩:=ry;exact eq_int (fin_bl I q dec_int)
  |str j=>obtain⟨t',rfl⟩:=ry;exact PySem.EqMixed.eq_int_str (fin_bl I q (by simp))
  |_=>exact absurd (show false=true from hs) Bool.false_ne_true
 |str i=>
  obtain⟨t,rfl⟩:=rx
  cases y with
  |non=>cases ry;exact PySem.EqNone.eq_str_none (fin_bl I q (by simp))
  |bl j=>cases ry;exact PySem.EqMixed.eq_str_bool (fin_bl I q (by simp))
  |int j=>obtain⟨t',rfl⟩:=ry;exact PySem.EqMixed.eq_str_int (fin_bl I q (by simp))
  |str j=>obtain⟨t',rfl⟩:=ry;exact eq_str (fin_bl I q dec_str)
  |_=>exact absurd (show false=true from hs) Bool.false_ne_true
 |byt i=>
  obtain⟨t,rfl⟩:=rx
  cases y with
  |byt j=>obtain⟨t',rfl⟩:=ry;exact PySem.W.eq_bytes (fin_bl I q dec_byt)
  |_=>exact absurd (show false=true from hs) Bool.false_ne_true
 |_=>cases y<;>exact absurd (show false=true from hs) Bool.false_ne_true
theorem op_ne:OpR X (compareOp .NotEq) rNe:=by
 intro pins s σ H x y v u Q I rx ry h
 obtain⟨hs,q⟩:=h
 cases x with
 |non=>
  cases rx
  cases y with
  |non=>cases ry;exact PySem.EqNone.ne_none_none (fin_bl I q (by simp))
  |bl j=>cases ry;exact PySem.EqNone.ne_none_bool (fin_bl I q (by simp))
  |int j=>obtain⟨t',rfl⟩:=ry;exact PySem.EqNone.ne_none_int (fin_bl I q (by simp))
  |str j=>obtain⟨t',rfl⟩:=ry;exact PySem.EqNone.ne_none_str (fin_bl I q (by simp))
  |_=>exact absurd (show false=true from hs) Bool.false_ne_true
 |bl i=>
  cases rx
  cases y with
  |non=>cases ry;exact PySem.EqNone.ne_bool_none (fin_bl I q (by simp))
  |bl j=>cases ry;exact ne_bool (fin_bl I q (congrArg not dec_bl))
  |str j=>obtain⟨t',rfl⟩:=ry;exact PySem.EqMixed.ne_bool_str (fin_bl I q (by simp))
  |_=>exact absurd (show false=true from hs) Bool.false_ne_true
 |int i=>
  obtain⟨t,rfl⟩:=rx
  cases y with
  |non=>cases ry;exact PySem.EqNone.ne_int_none (fin_bl I q (by simp))
  |int j=>obtain⟨t',rfl⟩:=ry;exact ne_int (fin_bl I q (congrArg not dec_int))
  |str j=>obtain⟨t',rfl⟩:=ry;exact PySem.EqMixed.ne_int_str (fin_bl I q (by simp))
  |_=>exact absurd (show false=true from hs) Bool.false_ne_true
 |str i=>
  obtain⟨t,rfl⟩:=rx
  cases y with
  |non=>cases ry;exact PySem.EqNone.ne_str_none (fin_bl I q (by simp))
  |bl j=>cases ry;exact PySem.EqMixed.ne_str_bool (fin_bl I q (by simp))
  |int j=>obtain⟨t',rfl⟩:=ry;exact PySem.EqMixed.ne_str_int (fin_bl I q (by simp))
  |str j=>obtain⟨t',rfl⟩:=ry;exact ne_str (fin_bl I q (congrArg not dec_str))
  |_=>exact absurd (show false=true from hs) Bool.false_ne_true
 |byt i=>
  obtain⟨t,rfl⟩:=rx
  cases y with
  |byt j=>obtain⟨t',rfl⟩:=ry;exact PySem.W.ne_bytes (fin_bl I q (congrArg not dec_byt))
  |_=>exact absurd (show false=true from hs) Bool.false_ne_true
 |_=>cases y<;>exact absurd (show false=true from hs) Bool.false_ne_true
theorem op_lt:OpR X (compareOp .Lt) (rI0 fun i j=> .bl (decide (i<j))):=opB0 fun _ _ _ _ _ _ _ q=>lt_int q
theorem op_gt:OpR X (compareOp .Gt) (rI0 fun i j=> .bl (decide (j<i))):=opB0 fun _ _ _ _ _ _ _ q=>gt_int q
theorem op_isN:OpR X (compareOp .Is) (fun x y H Q=>y= .non/\Q (.bl (decide (x= .non))) H):=by
 intro pins s σ H x y v u Q I rx ry h
 obtain⟨rfl,q⟩:=h
 cases ry
 refine is_none_gen (fin_bl I q ?_)
 cases x<;>first
  |(cases rx;rfl)
  |(obtain⟨t,rfl⟩:=rx;rfl)
theorem OpR.or {f:Value->Value->Sem Value} {r r':R2} (h:OpR X f r) (h':OpR X f r'):OpR X f (fun x y H Q=>r x y H Q\/r' x y H Q):=by
 intro pins s σ H x y v u Q I rx ry q
 rcases q with q|q
 ·exact h pins s σ H x y v u Q I rx ry q
 ·exact h' pins s σ H x y v u Q I rx ry q
theorem nomark (b:Expr) {op:CmpOp} (h:op≠ .In:=by decide) (h2:op≠ .NotIn:=by decide):behindInMarks op b=false:=by
 have e1:(op==CmpOp.In)=false:=by cases op<;>first|rfl|exact absurd rfl h
 have e2:(op==CmpOp.NotIn)=false:=by cases op<;>first|rfl|exact absurd rfl h2
 cases b<;>simp[behindInMarks,e1,e2]
theorem pe_cmpR {op:CmpOp} {r:R2} (ho:OpR X (compareOp op) r) (ha:PE X a ta) (hb:PE X b tb) (hm:behindInMarks op b=false):PE X (.Compare a [op] [b] pos) (tOp r ta tb):=by
 intro pins s σ H Q I h
 exact wpAny_Compare1 (binT ha hb I h fun v u s2 x y H2 I2 rx ry q=>ho pins s2 σ H2 x y v u Q I2 rx ry q) hm
noncomputable def tTest (t:TE):TT:=fun σ H Q=>t σ H fun x H'=>∃k,x= .bl k/\Q k H'
theorem pt_cmpR {op:CmpOp} {r:R2} (ho:OpR X (compareOp op) r) (ha:PE X a ta) (hb:PE X b tb) (hm:behindInMarks op b=false):PT X (.Compare a [op] [b] pos) (tTest (tOp r ta tb)):=by
 intro pins s σ H Q I h
 refine wpAny_isTrue_Compare1 (thn (ha pins s σ H _ I h) fun v s1 ⟨x,H1,I1,r1,q1⟩=>thn (hb pins s1 σ H1 _ I1 q1) fun u s2 ⟨y,H2,I2,r2,q2⟩=>
  thn (ho pins s2 σ H2 x y v u _ I2 r1 r2 q2) fun c s3 ⟨z,H3,I3,r3,k,e,q3⟩=> ?_) hm
 subst e
 cases r3
 exact wpAny_truthy_bool ⟨H3,I3,q3⟩
noncomputable def TruV (K:PySem.W.Frag) (x:V) (H:Hp) (k:Bool):Prop:=
 match x with
 | .non=>k=false
 | .bl b=>k=b
 | .int i=>k=(i != 0)
 | .str y=>y.length<=sizeLine/\k=((y.length:Int) != 0)
 | .byt y=>y.size<=sizeLine/\k=((y.size:Int) != 0)
 | .ref p=>(∃xs,SqL K H p xs/\k= !xs.isEmpty)\/(∃xs,SqT K H p xs/\k= !xs.isEmpty)\/∃kvs,H p=some (.dK kvs)/\k= !kvs.isEmpty
 |_=>False
theorem isEmpty_kv {κ:Type} {kvs:List (κ×V)} {vs:List (κ×Value)} (r:KV kvs vs):(!vs.isEmpty)= !kvs.isEmpty:=by
 cases r<;>rfl
theorem isEmpty_of {xs:List V} {its:List Value} (r:Vals xs its):(!its.toArray.isEmpty)= !xs.isEmpty:=by
 cases r<;>simp
theorem line63:(sizeLine:Nat)<2 ^63:=by rw[sizeLine_eq];decide
theorem tru_ok:TruR X (fun x H Q=>∃k,TruV X.K x H k/\Q k H):=by
 intro pins s σ H x v Q I rx h
 obtain⟨k,e,q⟩:=h
 have hl:=line63
 have hs:sizeLine=16777216:=sizeLine_eq
 cases x with
 |non=>
  cases rx
  have e':k=false:=e
  subst e'
  exact truthy_none ⟨H,I,q⟩
 |bl b=>
  cases rx
  have e':k=b:=e
  subst e'
  exact wpAny_truthy_bool ⟨H,I,q⟩
 |int i=>
  obtain⟨t,rfl⟩:=rx
  have e':k=(i != 0):=e
  subst e'
  exact PySem.P.truthy_int ⟨H,I,q⟩
 |str y=>
  obtain⟨t,rfl⟩:=rx
  obtain⟨hy,e'⟩:y.length<=sizeLine/\k=((y.length:Int) != 0):=e
  subst e'
  exact PySem.P.truthy_str (by omega) ⟨H,I.tok _,q⟩
 |byt y=>
  obtain⟨t,rfl⟩:=rx
  obtain⟨hy,e'⟩:y.size<=sizeLine/\k=((y.size:Int) != 0):=e
  subst e'
  exact PySem.W.truthy_bytes (by omega) ⟨H,I.tok _,q⟩
 |ref p=>
  cases rx
  have e':(∃xs,SqL X.K H p xs/\k= !xs.isEmpty)\/(∃xs,SqT X.K H p xs/\k= !xs.isEmpty)\/∃kvs,H p=some (.dK kvs)/\k= !kvs.isEmpty:=e
  rcases e' with ⟨xs,hx,e'⟩|⟨xs,hx,e'⟩|⟨kvs,hx,e'⟩
  ·subst e'
   obtain⟨its,r,pl,hz⟩:=I.list hx
   have hlen:=r.length
   exact wpAny_truthy_list pl.isList (by simp only[List.size_toArray];omega) ⟨H,I.tok _,by rw[isEmpty_of r];exact q⟩
  ·subst e'
   obtain⟨its,r,pl,hz⟩:=I.tuple hx
   have hlen:=r.length
   exact truthy_tuple pl (by simp only[List.size_toArray];omega) ⟨H,I.tok _,by rw[isEmpty_of r];exact q⟩
  ·subst e'
   obtain⟨hz,hS,vs,r,m⟩:kvs.length<=sizeLine/\(p==sysModules)=false/\∃vs,KV kvs vs/\s.heap.DictOf (mixKind X.prog X.w) p vs:=I.hok p _ hx
   have hlen:kvs.length=vs.length:=Paired.length r
   exact wpAny_truthy_dict hS m (by omega) ⟨H,I.tok _,by rw[isEmpty_kv r];exact q⟩
 |_=>exact(show False from e).elim
theorem pt_truth (ha:PE X a ta) (he:∀whole,isTrue a X.env whole=(do let v<-whole;standAt a.pos;holding [v] (truthy v))):
  PT X a (fun σ H Q=>ta σ H fun x H'=>∃k,TruV X.K x H' k/\Q k H'):=by
 intro pins s σ H Q I h
 exact isTrue_plain (thn (ha pins s σ H _ I h) fun v s1 ⟨x,H1,I1,r1,q1⟩=>tru_ok pins s1 σ H1 x v Q I1 r1 q1) (he _)
theorem vals1 {x:V} {us:List Value} (r:Vals [x] us):∃u,us=[u]/\RelV x u:=by
 cases r with
 |cons r1 r2=>cases r2;exact⟨_,rfl,r1⟩
theorem vals2 {x y:V} {us:List Value} (r:Vals [x,y] us):∃u w',us=[u,w']/\RelV x u/\RelV y w':=by
 cases r with
 |cons r1 r2=>
  cases r2 with
  |cons r3 r4=>cases r4;exact⟨_,_,rfl,r1,r3⟩
theorem call_max2 (hc:X.calm=true):CallR X (.builtin "max") (fun xs H Q=>∃i j,xs=[.int i, .int j]/\Q (.int (if j>i then j else i)) H):=by
 intro pins s σ H xs us Q I r h
 obtain⟨i,j,rfl,q⟩:=h
 obtain⟨u,w',rfl,⟨t,rfl⟩,⟨t',rfl⟩⟩:=vals2 r
 refine max_two_ints (I.ok.hd hc) fun h' tk k=>⟨_,H,I.kept k,?_,q⟩
 by_cases hj:j>i
 ·rw[if_pos hj,if_pos hj];exact⟨_,rfl⟩
 ·rw[if_neg hj,if_neg hj];exact⟨_,rfl⟩
theorem call_min2 (hc:X.calm=true):CallR X (.builtin "min") (fun xs H Q=>∃i j,xs=[.int i, .int j]/\Q (.int (if j<i then j else i)) H):=by
 intro pins s σ H xs us Q I r h
 obtain⟨i,j,rfl,q⟩:=h
 obtain⟨u,w',rfl,⟨t,rfl⟩,⟨t',rfl⟩⟩:=vals2 r
 refine min_two_ints (I.ok.hd hc) fun h' tk k=>⟨_,H,I.kept k,?_,q⟩
 by_cases hj:j<i
 ·rw[if_pos hj,if_pos hj];exact⟨_,rfl⟩
 ·rw[if_neg hj,if_neg hj];exact⟨_,rfl⟩
theorem call_int1:CallR X (.type "int") (fun xs H Q=>(∃i,xs=[.int i]/\Q (.int i) H)\/∃k,xs=[.bl k]/\Q (.int (if k then 1 else 0)) H):=by
 intro pins s σ H xs us Q I r h
 rcases h with ⟨i,rfl,q⟩|⟨k,rfl,q⟩
 ·obtain⟨u,rfl,t,rfl⟩:=vals1 r
  exact call_int_int ⟨.int i,H,I,⟨_,rfl⟩,q⟩
 ·obtain⟨u,rfl,r1⟩:=vals1 r
  cases r1
  exact call_int_bool ⟨.int (if k then 1 else 0),H,I.tok _,⟨_,rfl⟩,q⟩
end
end L2
namespace L2
open PySem PySem.Spec PyProof.Rows
structure ObjM (h:Heap) (x dx C:Addr) (mA:Str->Option Value):Prop where
 obj:h.get? x=some (PySem.W.instObj C dx)
 ns:h.Ns1 dx mA
 ne:dx≠x
theorem lookIn_ns {h:Heap} {dx:Addr} {mA:Str->Option Value} (n:h.Ns1 dx mA):∃od,h.get? dx=some od/\∀name,PySem.W.lookIn name od=some (mA name):=by
 obtain⟨o,es,ep,ho,hd,hk,_,hm⟩:=n
 refine⟨o,ho,fun name=> ?_⟩
 have e:=hm name
 unfold nsFind findBy at e
 rw[<-Array.find?_toList]at e
 unfold PySem.W.lookIn
 rw[hd]
 dsimp only
 split
 ·rename_i y q
  rw[q]at e
  exact congrArg some e
 ·rename_i q
  rw[q]at e
  have a:es.toList.any (·.refKey)=false:=by
   rw[List.any_eq_false]
   intro y hy
   obtain⟨z,t,hkey⟩:=hk y (Array.mem_toList_iff.mp hy)
   simp[DictEntry.refKey,hkey]
  have a':¬es.toList.any (·.refKey)=true:=by rw[a];exact Bool.false_ne_true
  rw[if_neg a']
  exact congrArg some e
theorem ObjM.look {h:Heap} {x dx C:Addr} {mA:Str->Option Value} (I:ObjM h x dx C mA):∃od,PySem.W.InstAt h x (PySem.W.instObj C dx) C (some od)/\∀name,PySem.W.lookIn name od=some (mA name):=
 let ⟨od,ho,hl⟩:=lookIn_ns I.ns
 ⟨od,⟨I.obj,rfl,rfl,ho⟩,hl⟩
section
variable {prog:Program} {w:World} {A:Around} {E:Value->Shared->Prop} {s:Shared} {K:PySem.W.Frag} {x dx C f:Addr} {mA:Str->Option Value} {name:Str} {v:Value}
theorem get_map {expr:Bool} {Q:Value->Shared->Prop} (X:K.In s.heap) (I:ObjM s.heap x dx C mA) (hg:PySem.W.plainGet K C name=true) (hh:PySem.W.hasDictIn K C=true)
  (ha:PySem.W.findIn K (.ref C) name=some none) (hv:mA name=some v) (hv':PySem.W.handedIn v=true) (h:Q v {s with toks:=s.toks+1}):
  wpAny (model prog w) A (getAttr (.ref x) name expr) Q E s:=by
 obtain⟨od,J,hl⟩:=I.look
 exact PySem.W.get_value X J (PySem.W.plainGet_of hg).1 (PySem.W.findObj_own hh ha rfl (by rw[hl,hv])) hv' h
theorem get_meth {pl:Sem Bool} {Q:Value×List Value->Shared->Prop} (X:K.In s.heap) (I:ObjM s.heap x dx C mA) (hg:PySem.W.plainGet K C name=true)
  (hf:PySem.W.findIn K (.ref C) name=some (some (.ref f))) (ht:PySem.W.isFn K (.ref f)=true) (hv:mA name=none) (h:Q (.ref f,[.ref x]) s):
  wpAny (model prog w) A (getMethod (.ref x) name pl) Q E s:=by
 obtain⟨od,J,hl⟩:=I.look
 exact PySem.W.method_fn X J (PySem.W.plainGet_of hg).1 (PySem.W.plainGet_of hg).2 hf (beq_iff_eq.mp ht) (by show (PySem.W.lookIn name od).map (·.isSome)=some false;rw[hl,hv];rfl) h
theorem set_map {ns:List Str} {Q:Unit->Shared->Prop} (X:K.In s.heap) (I:ObjM s.heap x dx C mA)
  (hs:PySem.W.findIn K (.ref C) "__setattr__"=some (some (.builtin "object.__setattr__"))) (hp:PySem.W.plainOver K C=true) (ht:PySem.W.takerIn K C name=some none) (hh:PySem.W.hasDictIn K C=true)
  (hw:PySem.Within mA ns) (hsz:ns.length<=sizeLine)
  (h:∀h',ObjM h' x dx C (fun y=>if y=name then some v else mA y)->Heap.SameBut dx s.heap h'->Q () {s with heap:=h',toks:=s.toks+2}):
  wpAny (model prog w) A (setAttr (.ref x) name v) Q E s:=by
 obtain⟨od,J,hl⟩:=I.look
 refine PySem.W.set_plain X J hs (PySem.W.osa_open (s:={s with toks:=s.toks+1}) (r:=none) X J hp ht fun b=> ?_)
 obtain⟨cd,hc,hd'⟩:=PySem.W.any_some hh
 have hx:s.heap.get? x=some ⟨.ref C,some dx, .plain,#[]⟩:=I.obj
 refine wpAny_bind (wpAny_pure (wpAny_bind (wpAny_bind (wpAny_loadPart hx (wpAny_bind (PySem.W.Looks.here (s:={s with toks:=s.toks+1}) (PySem.W.looks_clsIn X hc) ?_))))))
 rw[hd']
 refine wpAny_pure (a:=some dx) (wpAny_bind (wpAny_pure (wpAny_bind ?_)))
 refine wpAny_nsSet1 (s:={s with toks:=s.toks+1}) I.ns fun h' hn2 hs2=> ?_
 obtain⟨oD,esD,epD,hoD,hdD,hcD⟩:=hn2.count (PySem.Within.cons name v hw)
 refine wpAny_bind (wpAny_lookBehind hoD (by rw[hdD];exact pastItsLine_dict (Nat.le_trans hcD (by rw[List.length_cons];omega))) ?_)
 exact wpAny_pure (h _ ⟨(hs2.2 _ (Ne.symm I.ne)).trans I.obj,hn2,I.ne⟩ hs2)
theorem make_map {R:Result->Shared->Prop} {vs:List Value} {kw:List (Str×Value)} (X:K.In s.heap) (hm:PySem.W.makesIn K C=true)
  (hi:PySem.W.findIn K (.ref C) "__init__"=some (some (.ref f))) (hf:PySem.W.typeIn K (.ref f)=some (.type "function"))
  (h:codeAny (model prog w) (A.under (.builtin "type.__call__" ⟨.ref C::vs,kw⟩)) (.call (.ref f) ⟨.ref (s.heap.objs.size+1)::vs,kw⟩) (PySem.W.InitBack (s.heap.objs.size+1) R)
   {s with heap:=(s.heap.push PySem.W.emptyDict).push (PySem.W.instObj C s.heap.objs.size)}):
  codeAny (model prog w) A (.call (.ref C) ⟨vs,kw⟩) R s:=by
 obtain⟨hh,g,d,t,os⟩:=s
 exact PySem.W.make_core (PySem.W.makes_of X hm) (PySem.W.looks_findIn X hi) (fun self=>PySem.W.bind_fn X self hf) (.inl rfl) h
end
noncomputable def putF (f:Str) (v:V):List (Str×V)->List (Str×V)
 |[]=>[(f,v)]
 |(g,x)::r=>if g=f then (g,v)::r else (g,x)::putF f v r
theorem lookup_putF (f g:Str) (v:V):∀fs:List (Str×V),(putF f v fs).lookup g=if g=f then some v else fs.lookup g
 |[]=>by
  show List.lookup g [(f,v)]=_
  by_cases h:g=f
  ·have hb:(g==f)=true:=beq_iff_eq.mpr h
   simp only[List.lookup,hb,if_pos h]
  ·have hb:(g==f)=false:=beq_eq_false_iff_ne.mpr h
   simp only[List.lookup,hb,if_neg h]
 |(k,x)::r=>by
  have ih:=lookup_putF f g v r
  rw[show putF f v ((k,x)::r)=(if k=f then (k,v)::r else (k,x)::putF f v r)from rfl]
  by_cases hk:k=f
  ·rw[if_pos hk]
   by_cases h:g=k
   ·have hb:(g==k)=true:=beq_iff_eq.mpr h
    simp only[List.lookup,hb,if_pos (h.trans hk)]
   ·have hb:(g==k)=false:=beq_eq_false_iff_ne.mpr h
    simp only[List.lookup,hb,if_neg (fun e:g=f=>h (e.trans hk.symm))]
  ·rw[if_neg hk]
   by_cases h:g=k
   ·have hb:(g==k)=true:=beq_iff_eq.mpr h
    simp only[List.lookup,hb,if_neg (fun e:g=f=>hk (h.symm.trans e))]
   ·have hb:(g==k)=false:=beq_eq_false_iff_ne.mpr h
    simp only[List.lookup,hb]
    exact ih
theorem keys_putF (f:Str) (v:V):∀fs:List (Str×V),f∈(putF f v fs).map (·.1)/\∀g,g∈fs.map (·.1)->g∈(putF f v fs).map (·.1)
 |[]=>⟨by simp[putF],fun g h=>by simp at h⟩
 |(k,x)::r=>by
  obtain⟨i1,i2⟩:=keys_putF f v r
  rw[show putF f v ((k,x)::r)=(if k=f then (k,v)::r else (k,x)::putF f v r)from rfl]
  by_cases hk:k=f
  ·rw[if_pos hk]
   subst hk
   exact⟨by simp,fun g h=>by simpa using h⟩
  ·rw[if_neg hk]
   refine⟨?_,fun g h=> ?_⟩
   ·rw[List.map_cons]
    exact List.mem_cons_of_mem _ i1
   ·rw[List.map_cons]at h ⊢
    rcases List.mem_cons.mp h with e|e
    ·exact List.mem_cons.mpr (.inl e)
    ·exact List.mem_cons_of_mem _ (i2 g e)
theorem length_putF (f:Str) (v:V):∀fs:List (Str×V),(putF f v fs).length<=fs.length+1
 |[]=>by simp[putF]
 |(k,x)::r=>by
  have ih:=length_putF f v r
  rw[show putF f v ((k,x)::r)=(if k=f then (k,v)::r else (k,x)::putF f v r)from rfl]
  by_cases hk:k=f
  ·rw[if_pos hk,List.length_cons,List.length_cons];omega
  ·rw[if_neg hk,List.length_cons,List.length_cons];omega
theorem RelO.some_of {v:V} {o:Option Value} (r:RelO (some v) o):∃u,o=some u/\RelV v u:=by
 cases o with
 |none=>exact(show False from r).elim
 |some u=>exact⟨u,rfl,r⟩
theorem RelO.none_of {o:Option Value} (r:RelO none o):o=none:=by
 cases o with
 |none=>rfl
 |some u=>exact(show False from r).elim
theorem handed_of {v:V} {u:Value} (r:RelV v u):PySem.W.handedIn u=true:=by
 cases v with
 |non=>cases (show u=Value.none from r);rfl
 |bl b=>cases (show u=Value.bool b from r);rfl
 |int i=>obtain⟨t,e⟩:=(show ∃t,u=Value.int i t from r);cases e;rfl
 |str x=>obtain⟨t,e⟩:=(show ∃t,u=Value.str x t from r);cases e;rfl
 |byt b=>obtain⟨t,e⟩:=(show ∃t,u=Value.bytes b t from r);cases e;rfl
 |flt b=>obtain⟨t,e⟩:=(show ∃t,u=Value.float b t from r);cases e;rfl
 |ref a=>cases (show u=Value.ref a from r);rfl
 |ty n=>cases (show u=Value.type n from r);rfl
section
variable {P:Program} {w:World} {H H':Hp} {h h':Heap} {a C dx:Addr} {fs fs':List (Str×V)}
theorem ins_get (hok:HOk P w H h) (e:H a=some (.ins C dx fs)):∃mA,ObjM h a dx C mA/\(∀f,RelO (fs.lookup f) (mA f))/\PySem.Within mA (fs.map (·.1))/\fs.length<=1000/\H dx=some (.own a):=by
 obtain⟨d,z,ne,ob,mA,n,r,q⟩:=(show ObjOk P w H h a (.ins C dx fs)from hok a _ e)
 exact⟨mA,⟨ob,n,ne⟩,r,q,z,d⟩
end
structure Cls (K:PySem.W.Frag) (C:Addr):Prop where
 pg:PySem.W.plainGet K C Str.empty=true
 hd:PySem.W.hasDictIn K C=true
 po:PySem.W.plainOver K C=true
 sa:PySem.W.findIn K (.ref C) "__setattr__"=some (some (.builtin "object.__setattr__"))
theorem Cls.get {K:PySem.W.Frag} {C:Addr} (c:Cls K C) (f:Str):PySem.W.plainGet K C f=true:=c.pg
noncomputable def NoAttr (K:PySem.W.Frag) (C:Addr) (f:Str):Prop:=PySem.W.findIn K (.ref C) f=some none
theorem NoAttr.taker {K:PySem.W.Frag} {C:Addr} {f:Str} (n:NoAttr K C f):PySem.W.takerIn K C f=some none:=by
 unfold PySem.W.takerIn
 rw[show PySem.W.findIn K (.ref C) f=some none from n]
 rfl
structure Meth (K:PySem.W.Frag) (C:Addr) (m:Str) (f:Addr):Prop where
 at_:PySem.W.findIn K (.ref C) m=some (some (.ref f))
 fn:PySem.W.isFn K (.ref f)=true
 kp:PySem.W.keepIn K (.ref f)=true
section
variable {X:Cx} {pins:List (Addr×Obj)} {σ:St} {H:Hp} {s:Shared} {a C dx:Addr} {fs:List (Str×V)} {f:Str} {v:V} {A:Around} {E:Value->Shared->Prop}
theorem getattr_ok {b:Bool} {Q:Value->Shared->Prop} (I:Inv X pins σ H s) (e:H a=some (.ins C dx fs)) (c:Cls X.K C) (n:NoAttr X.K C f) (l:fs.lookup f=some v)
  (h:∀u s',Inv X pins σ H s'->RelV v u->Q u s'):wpAny (model X.prog X.w) A (getAttr (.ref a) f b) Q E s:=by
 obtain⟨mA,O,r,_,_,_⟩:=ins_get I.hok e
 obtain⟨u,hu,ru⟩:=RelO.some_of (v:=v) (o:=mA f) (by rw[<-l];exact r f)
 exact get_map I.kIn O (c.get f) c.hd n hu (handed_of ru) (h u _ (I.tok _) ru)
theorem getmeth_ok {m:Str} {g:Addr} {pl:Sem Bool} {Q:Value×List Value->Shared->Prop} (I:Inv X pins σ H s) (e:H a=some (.ins C dx fs)) (c:Cls X.K C) (k:Meth X.K C m g) (l:fs.lookup m=none)
  (h:Q (.ref g,[.ref a]) s):wpAny (model X.prog X.w) A (getMethod (.ref a) m pl) Q E s:=by
 obtain⟨mA,O,r,_,_,_⟩:=ins_get I.hok e
 have hn:mA m=none:=RelO.none_of (by rw[<-l];exact r m)
 exact get_meth I.kIn O (c.get m) k.at_ k.fn hn h
theorem setattr_ok {y:V} {u:Value} {Q:Unit->Shared->Prop} (I:Inv X pins σ H s) (e:H a=some (.ins C dx fs)) (c:Cls X.K C) (n:NoAttr X.K C f) (hl:fs.length<1000) (ry:RelV y u)
  (h:∀s',Inv X pins σ (upd H a (.ins C dx (putF f y fs))) s'->Q () s'):wpAny (model X.prog X.w) A (setAttr (.ref a) f u) Q E s:=by
 obtain⟨mA,O,r,wi,_,ho⟩:=ins_get I.hok e
 have hz:(fs.map (·.1)).length<=sizeLine:=by rw[List.length_map,sizeLine_eq];omega
 refine set_map I.kIn O c.sa c.po n.taker c.hd wi hz fun h' O' sb=>h _ ?_
 have hd:∃o,h'.get? dx=some o:=let ⟨o,_,_,e',_⟩:=O'.ns;⟨o,e'⟩
 refine I.write (x:=a) (e:=dx) (by rw[e];exact True.intro) (.inr ho) (fun b q hb z=>(sb.2 b hb).trans z) hd ?_
 refine⟨by rw[upd_ne O.ne];exact ho,?_,O.ne,O'.obj,_,O'.ns,fun g=> ?_,fun g hg=> ?_⟩
 ·have:=length_putF f y fs;omega
 ·show RelO ((putF f y fs).lookup g) (if g=f then some u else mA g)
  rw[lookup_putF]
  by_cases q:g=f
  ·rw[if_pos q,if_pos q];exact ry
  ·rw[if_neg q,if_neg q];exact r g
 ·by_cases q:g=f
  ·rw[q];exact(keys_putF f y fs).1
  ·refine(keys_putF f y fs).2 g (wi g fun z=>hg ?_)
   show (if g=f then some u else mA g)=none
   rw[if_neg q];exact z
theorem Inv.made (I:Inv X pins σ H s):Inv X pins σ (upd (upd H s.heap.objs.size (.own (s.heap.objs.size+1))) (s.heap.objs.size+1) (.ins C s.heap.objs.size []))
  {s with heap:=(s.heap.push PySem.W.emptyDict).push (PySem.W.instObj C s.heap.objs.size)}:=by
 have e1:(s.heap.push PySem.W.emptyDict).get? s.heap.objs.size=some PySem.W.emptyDict:=Heap.get?_push_size s.heap rfl
 have e2:((s.heap.push PySem.W.emptyDict).push (PySem.W.instObj C s.heap.objs.size)).get? (s.heap.objs.size+1)=some (PySem.W.instObj C s.heap.objs.size):=by
  have:=Heap.get?_push_size (s.heap.push PySem.W.emptyDict) (o:=PySem.W.instObj C s.heap.objs.size) rfl
  rwa [Heap.size_push]at this
 have e3:(s.heap.push PySem.W.emptyDict).Ns s.heap.objs.size (fun _=>none):=⟨PySem.W.emptyDict,#[],_,e1,rfl,(fun e he=>absurd he (by simp)),fun _=>rfl⟩
 have I1:=I.laid (a:=s.heap.objs.size) (o:= .own (s.heap.objs.size+1)) (h':=s.heap.push PySem.W.emptyDict) (t':=s.toks) (fun b u q=>Heap.get?_push_of_some _ q) (Nat.le_refl _) ⟨_,e1⟩
 refine I1.laid (a:=s.heap.objs.size+1) (o:= .ins C s.heap.objs.size []) (t':=s.toks) (fun b u q=>Heap.get?_push_of_some _ q) (Nat.le_of_eq (Heap.size_push _ _)) ?_
 have ne:s.heap.objs.size≠s.heap.objs.size+1:=Nat.ne_of_lt (Nat.lt_succ_self _)
 refine⟨by rw[upd_ne ne,upd_same],Nat.zero_le _,ne,e2,fun _=>none,(Heap.Ns1.of_empty e3).at fun o q=>Heap.get?_push_of_some _ q,fun _=>True.intro,fun y hy=>absurd rfl hy⟩
theorem attr_of {prog:Program} {w:World} {env:Env} {e:Expr} {f:Str} {pos:Pos} {s:Shared} {Q:Value->Shared->Prop} (hb:attributeBase e f env (eval e env)=eval e env)
  (h:wpAny (model prog w) A (eval e env) (fun o s₁=>wpAny (model prog w) A (getAttr o f true) Q E s₁) E s):wpAny (model prog w) A (eval (.Attribute e f pos) env) Q E s:=
 Attribute_any_ h (by rw[arm_eval_Attribute,hb])
end
noncomputable def tFld (K:PySem.W.Frag) (ta:TE) (f:Str):TE:=fun σ H Q=>ta σ H fun x H1=>∃a C dx fs v,x= .ref a/\H1 a=some (.ins C dx fs)/\Cls K C/\NoAttr K C f/\fs.lookup f=some v/\Q v H1
section
variable {X:Cx} {o e value:Expr} {f:Str} {pos pos' tpos:Pos} {ta tv:TE}
theorem pe_fld (he:PE X e ta) (hb:attributeBase e f X.env (eval e X.env)=eval e X.env):PE X (.Attribute e f pos) (tFld X.K ta f):=by
 intro pins s σ H Q I h
 refine attr_of hb (thn (he pins s σ H _ I h) fun u s1 z_=> ?_)
 obtain⟨x,H1,I1,rx,a,C,dx,fs,v,ex,ea,c,n,l,q⟩:=z_
 subst ex
 obtain rfl:u=Value.ref a:=rx
 exact getattr_ok I1 ea c n l fun u' s2 I2 ru=>⟨v,H1,I2,ru,q⟩
theorem methcall_of {pl:Sem Bool} {m:Str} {apos:Pos} {args:List Expr} {pins:List (Addr×Obj)} {s:Shared} {σ:St} {H:Hp} {Q:Value->Shared->Prop} {te:TE} (he:PE X e te) (I:Inv X pins σ H s)
  (h:te σ H fun x H1=>∃a C dx fs g,x= .ref a/\H1 a=some (.ins C dx fs)/\Cls X.K C/\Meth X.K C m g/\fs.lookup m=none/\
   ∀s1,Inv X pins σ H1 s1->wpAny (model X.prog X.w) X.A (callWith pos (.ref g) [.ref a] (backTo pos (starEach args X.env)) (backToKw pos (keywordEach [] X.env))) Q X.xe s1)
  (ht:eval (.Call (.Attribute e m apos) args [] pos) X.env=(do
   let ov<-eval e X.env
   standAt apos.atName
   let (f,first)<-holding [ov] (getMethod ov m pl)
   callWith pos f first (backTo pos (starEach args X.env)) (backToKw pos (keywordEach [] X.env)))):
  wpAny (model X.prog X.w) X.A (eval (.Call (.Attribute e m apos) args [] pos) X.env) Q X.xe s:=by
 refine PySem.W.methodCall_KW (pl:=pl) (thn (he pins s σ H _ I h) fun u s1 z_=> ?_) ht
 obtain⟨x,H1,I1,rx,a,C,dx,fs,g,ex,ea,c,k,l,q⟩:=z_
 subst ex
 obtain rfl:u=Value.ref a:=rx
 exact getmeth_ok I1 ea c k l (q s1 I1)
end
section
variable {X:Cx} {pins:List (Addr×Obj)} {σ:St} {H:Hp} {s:Shared} {A:Around} {E:Value->Shared->Prop} {Q:Value->Shared->Prop} {c:Value} {b:Bool}
inductive TyOf (K:PySem.W.Frag) (H:Hp):V->Value->Prop where
 |non:TyOf K H .non (.type "NoneType")
 |bl (x:Bool):TyOf K H (.bl x) (.type "bool")
 |int (i:Int):TyOf K H (.int i) (.type "int")
 |str (x:Str):TyOf K H (.str x) (.type "str")
 |flt (x:UInt64):TyOf K H (.flt x) (.type "float")
 |lst {a:Addr} {xs:List V} (e:H a=some (.lst xs)):TyOf K H (.ref a) (.type "list")
 |frz {a:Addr} {o:Obj} {xs:List V} (e:H a=some (.frz o (.lst xs))):TyOf K H (.ref a) (.type "list")
 |tup {a:Addr} {xs:List V} (e:H a=some (.tup xs)):TyOf K H (.ref a) (.type "tuple")
 |dK {a:Addr} {kvs:List (Key×V)} (e:H a=some (.dK kvs)):TyOf K H (.ref a) (.type "dict")
 |dT {a:Addr} {kvs:List (List Key×V)} (e:H a=some (.dT kvs)):TyOf K H (.ref a) (.type "dict")
 |ins {a C dx:Addr} {fs:List (Str×V)} (e:H a=some (.ins C dx fs)) (cl:Cls K C) (ha:PySem.W.findIn K (.ref C) "__class__"=some (some (.builtin "object.__class__")))
   (hn:PySem.W.specialIn K (.builtin "object.__class__") "__get__"=some (some (.builtin "getset_descriptor.__get__"))) (htk:PySem.W.takesIn K (.builtin "object.__class__")=some true)
   (hm:PySem.W.mroIn K C (.type "object")=some true):TyOf K H (.ref a) (.ref C)
theorem isinst_ok {x:V} {u t:Value} (I:Inv X pins σ H s) (rx:RelV x u) (ty:TyOf X.K H x t) (e:PySem.W.kitOne X.K t c=some b) (h:∀tk,Q (.bool b) {s with toks:=tk}):
  wpAny (model X.prog X.w) A (call (.builtin "isinstance") [u,c]) Q E s:=by
 cases ty with
 |non=>cases (show u=Value.none from rx);exact PySem.W.kia_one PySem.W.kitx_none I.kIn True.intro e (fun z=>nomatch z) h
 |bl y=>cases (show u=Value.bool y from rx);exact PySem.W.kia_one PySem.W.kitx_bool I.kIn True.intro e (fun z=>nomatch z) h
 |int i=>obtain⟨t,q⟩:=(show ∃t,u=Value.int i t from rx);cases q;exact PySem.W.kia_one PySem.W.kitx_int I.kIn True.intro e (fun z=>nomatch z) h
 |str y=>obtain⟨t,q⟩:=(show ∃t,u=Value.str y t from rx);cases q;exact PySem.W.kia_one PySem.W.kitx_str I.kIn True.intro e (fun z=>nomatch z) h
 |flt y=>obtain⟨t,q⟩:=(show ∃t,u=Value.float y t from rx);cases q;exact PySem.W.kia_one PySem.W.kitx_float I.kIn True.intro e (fun z=>nomatch z) h
 | @lst a xs ea=>
  cases (show u=Value.ref a from rx)
  obtain⟨_,_,n,_,h1⟩:=(show ObjOk X.prog X.w H s.heap a (.lst xs)from I.hok a _ ea)
  exact PySem.W.kia_one PySem.W.kitx_list I.kIn ⟨_,h1,rfl⟩ e (fun z=>nomatch z) h
 | @frz a ob xs ea=>
  cases (show u=Value.ref a from rx)
  obtain⟨_,_,_,n,_,h1⟩:=(show ObjOk X.prog X.w H s.heap a (.frz ob (.lst xs))from I.hok a _ ea)
  exact PySem.W.kia_one PySem.W.kitx_list I.kIn ⟨_,h1,rfl⟩ e (fun z=>nomatch z) h
 | @tup a xs ea=>
  cases (show u=Value.ref a from rx)
  obtain⟨_,_,_,p⟩:=(show ObjOk X.prog X.w H s.heap a (.tup xs)from I.hok a _ ea)
  obtain⟨o,h1,h2,_⟩:=p
  exact PySem.W.kia_one PySem.W.kitx_tuple I.kIn ⟨o,h1,h2⟩ e (fun z=>nomatch z) h
 | @dK a kvs ea=>
  cases (show u=Value.ref a from rx)
  obtain⟨_,_,vs,_,p⟩:=(show ObjOk X.prog X.w H s.heap a (.dK kvs)from I.hok a _ ea)
  obtain⟨o,es,ep,h1,h2,_⟩:=p
  exact PySem.W.kia_one PySem.W.kitx_dict I.kIn ⟨o,h1,h2.1⟩ e (fun z=>nomatch z) h
 | @dT a kvs ea=>
  cases (show u=Value.ref a from rx)
  obtain⟨_,_,xs,_,o,es,ep,h1,h2,_⟩:=(show ObjOk X.prog X.w H s.heap a (.dT kvs)from I.hok a _ ea)
  exact PySem.W.kia_one PySem.W.kitx_dict I.kIn ⟨o,h1,h2.1⟩ e (fun z=>nomatch z) h
 | @ins a C dx fs ea cl ha hn htk hm=>
  cases (show u=Value.ref a from rx)
  obtain⟨mA,O,_⟩:=ins_get I.hok ea
  obtain⟨od,J,_⟩:=O.look
  exact PySem.W.kia_one (PySem.W.kitx_own (cl.get _) cl.hd ha hn htk hm) I.kIn J e (fun z=>nomatch z) h
end
end L2
namespace L2
open PySem PySem.Spec PyProof.Rows
structure Room (k:Nat) (A:Around):Prop where
 hd:A.handled=none
 dp:A.depth+3*k+5<recursionLimit
 un:A.units+16*k+200<cLine
theorem Room.mono {j k:Nat} {A:Around} (r:Room k A) (h:j<=k):Room j A:=⟨r.hd,by have:=r.dp;omega,by have:=r.un;omega⟩
theorem Room.deeper {k:Nat} {A:Around} (r:Room (k+1) A) (env:Env):Room k (A.deeper env):=
 ⟨r.hd,by have:=r.dp;show A.depth+1+3*k+5<_;omega,by have:=r.un;show A.units+3+16*k+200<_;omega⟩
theorem make_depth {A:Around} {C:Addr} {us:List Value} {kw:List (Str×Value)}:(A.under (.builtin "type.__call__" ⟨.ref C::us,kw⟩)).depth=A.depth+1:=by
 first|rfl|simp[Around.under,Code.weight,Code.isCreation,Code.isGuard,Code.isCaller,Code.frames,Code.isFrame,guardIds]
theorem make_units {A:Around} {C:Addr} {us:List Value} {kw:List (Str×Value)}:(A.under (.builtin "type.__call__" ⟨.ref C::us,kw⟩)).units=A.units+1:=by
 first|rfl|simp[Around.under,Code.cUnits,Code.frames,Code.isFrame]
theorem Room.make {k:Nat} {A:Around} (r:Room (k+1) A) (C:Addr) (us:List Value) (kw:List (Str×Value)):Room k (A.under (.builtin "type.__call__" ⟨.ref C::us,kw⟩)):=
 ⟨r.hd,by have:=r.dp;rw[make_depth];omega,by have:=r.un;rw[make_units];omega⟩
theorem Room.depth {k:Nat} {A:Around} (r:Room k A):A.depth<recursionLimit:=by have:=r.dp;omega
theorem Room.units {k:Nat} {A:Around} (r:Room k A):A.units+64<cLine:=by have:=r.un;omega
noncomputable def tNil:TA:=fun _ H Q=>Q [] H
noncomputable def tCons (ta:TE) (tr:TA):TA:=fun σ H Q=>ta σ H fun x H1=>tr σ H1 fun xs H2=>Q (x::xs) H2
section
variable {X:Cx} {e:Expr} {es:List Expr} {te:TE} {t:TA} {pos:Pos}
theorem pa_nil:PA X [] tNil:=fun _ _ _ _ H Q I h=>Calls.spliced_nil ⟨[],H,I, .nil,h⟩
theorem pa_cons (ha:PE X e te) (hr:PA X es t) (hs:starEach (e::es) X.env=(false,eval e X.env)::starEach es X.env:=by rfl):PA X (e::es) (tCons te t):=by
 intro pos pins s σ H Q I h
 rw[hs]
 show wpAny _ _ (spliced ((false,eval e X.env)::backTo pos (starEach es X.env))) _ _ s
 refine Calls.spliced_cons (thn (ha pins s σ H _ I h) fun u s1 z_=> ?_)
 obtain⟨x,H1,I1,r1,q1⟩:=z_
 exact thn (hr pos pins s1 σ H1 _ I1 q1) fun us s2 ⟨xs,H2,I2,r2,q2⟩=>⟨x::xs,H2,I2, .cons r1 r2,q2⟩
noncomputable def tTup (t:TA):TE:=fun σ H Q=>t σ H fun xs H1=>xs.length<=sizeLine/\∀p,H1 p=none->Q (.ref p) (upd H1 p (.tup xs))
noncomputable def tLst (t:TA):TE:=fun σ H Q=>t σ H fun xs H1=>xs.length<=sizeLine/\∀p,H1 p=none->Q (.ref p) (upd H1 p (.lst xs))
theorem pe_tup {x1} (h:PA X es t):PE X (.Tuple es x1 pos) (tTup t):=by
 intro pins s σ H Q I hq
 refine wpAny_Tuple_spliced (thn (h pos pins s σ H _ I hq) fun us s1 ⟨xs,H1,I1,r,z,q⟩=>⟨by rw[<-r.length];exact z,?_⟩)
 have hf:H1 s1.heap.objs.size=none:=I1.hok.fresh (Nat.le_refl _)
 refine⟨.ref s1.heap.objs.size,upd H1 s1.heap.objs.size (.tup xs),I1.laid (t':=s1.toks) (fun b u e=>Heap.get?_push_of_some _ e) (Nat.le_refl _) ?_,rfl,q _ hf⟩
 exact⟨z,us,r,⟨_,Heap.get?_push_size _ rfl,rfl,_,rfl,rfl⟩⟩
theorem pe_lst (h:PA X es t):PE X (.List es pos) (tLst t):=by
 intro pins s σ H Q I hq
 refine wpAny_List_spliced (thn (h pos pins s σ H _ I hq) fun us s1 ⟨xs,H1,I1,r,z,q⟩=>⟨by rw[<-r.length];exact z,?_⟩)
 have hf:H1 s1.heap.objs.size=none:=I1.hok.fresh (Nat.le_refl _)
 refine⟨.ref s1.heap.objs.size,upd H1 s1.heap.objs.size (.lst xs),I1.laid (t':=s1.toks) (fun b u e=>Heap.get?_push_of_some _ e) (Nat.le_refl _) ?_,rfl,q _ hf⟩
 exact⟨z,us,0,r,Heap.get?_push_size _ rfl⟩
end
noncomputable abbrev Sp:=List V->Hp->VK->XK->Prop
noncomputable abbrev CXT:=List Env->Hp->Shared->XK->Value->Shared->Prop
structure Env0 (P:Program) (w:World) (K:PySem.W.Frag) (mg:Str->Option Value) (base:Heap) (A:Around) (outer:List Env) (s:Shared) (H:Hp):Prop where
 frames:A.frames=some outer
 mod:Mod K mg base
 bs:∀b o,base.get? b=some o->s.heap.get? b=some o/\H b=none
 bsz:base.objs.size<=s.heap.objs.size
 funs:s.heap.FunFrames base outer
 frf:∀b∈frs outer,H b=none
 hok:HOk P w H s.heap
 bare:AllBare s.gens
noncomputable def CE (outer:List Env) (P:Program) (w:World) (H:Hp) (s:Shared) (Q:VK) (u:Value) (s':Shared):Prop:=
 ∃v H',s'.os=s.os/\AllBare s'.gens/\Un (frs outer) [] H H' s.heap s'.heap/\HOk P w H' s'.heap/\RelV v u/\Q v H'
noncomputable def CR (CX:CXT) (outer:List Env) (P:Program) (w:World) (H:Hp) (s:Shared) (Q:VK) (E:XK) (r:Result) (s':Shared):Prop:=
 match r with
 | .ok (.ret u)=>CE outer P w H s Q u s'
 | .ok _=>False
 | .error e=>CX outer H s E e s'
structure FnOk (P:Program) (w:World) (K:PySem.W.Frag) (mg:Str->Option Value) (base:Heap) (CX:CXT) (k:Nat) (f:Addr) (fd:FuncData) (ps:List Str) (sp:Sp):Prop where
 len:∀vs H Q E,sp vs H Q E->vs.length=ps.length
 run:∀(A:Around) (outer:List Env) (s:Shared) (H:Hp) (args:Args) (us:List Value) (vs:List V) (Q:VK) (E:XK),Room k A->Env0 P w K mg base A outer s H->BindsTo s fd args (ps.zip us)->Vals vs us->sp vs H Q E->
  codeAny (model P w) A (.call (.ref f) args) (CR CX outer P w H s Q E) s
theorem FnOk.mono {P:Program} {w:World} {K:PySem.W.Frag} {mg:Str->Option Value} {base:Heap} {CX:CXT} {j k:Nat} {f:Addr} {fd:FuncData} {ps:List Str} {sp:Sp} (F:FnOk P w K mg base CX j f fd ps sp) (h:j<=k):
  FnOk P w K mg base CX k f fd ps sp:=⟨F.len,fun A outer s H args us vs Q E hr=>F.run A outer s H args us vs Q E (hr.mono h)⟩
theorem FnOk.imp {P:Program} {w:World} {K:PySem.W.Frag} {mg:Str->Option Value} {base:Heap} {CX:CXT} {k:Nat} {f:Addr} {fd:FuncData} {ps:List Str} {sp sp':Sp} (F:FnOk P w K mg base CX k f fd ps sp)
  (h:∀vs H Q E,sp' vs H Q E->sp vs H Q E):FnOk P w K mg base CX k f fd ps sp':=
 ⟨fun vs H Q E q=>F.len vs H Q E (h _ _ _ _ q),fun A outer s H args us vs Q E hr he hb hv hs=>F.run A outer s H args us vs Q E hr he hb hv (h _ _ _ _ hs)⟩
theorem Env0.make {P:Program} {w:World} {K:PySem.W.Frag} {mg:Str->Option Value} {base:Heap} {A:Around} {outer:List Env} {s:Shared} {H:Hp} (e:Env0 P w K mg base A outer s H) (C:Addr) (us:List Value) (kw:List (Str×Value)):
  Env0 P w K mg base (A.under (.builtin "type.__call__" ⟨.ref C::us,kw⟩)) outer s H:=⟨by first|exact e.frames|(simpa[Around.under,Code.envs,Code.isFrame,pushEnvs]using e.frames),e.mod,e.bs,e.bsz,e.funs,e.frf,e.hok,e.bare⟩
section
variable {X:Cx} {pins:List (Addr×Obj)} {σ:St} {H:Hp} {s s':Shared}
theorem Inv.env0 (I:Inv X pins σ H s):Env0 X.prog X.w X.K X.mg X.base X.A X.stack s H:=
 ⟨I.ok.frames,I.ok.mod,I.bs,Nat.le_trans I.ok.bsz I.sz,I.stack,I.stkFree,I.hok,I.bare⟩
theorem Inv.after {Q:VK} {u:Value} (I:Inv X pins σ H s) (h:CE X.stack X.prog X.w H s Q u s'):EP X pins σ Q u s':=by
 obtain⟨v,H',os,bare,un,hok,r,q⟩:=h
 obtain⟨hh,g,d,t,os'⟩:=s'
 obtain rfl:os'=s.os:=os
 exact⟨v,H',I.call (h':=hh) (g':=g) (d':=d) (t':=t) (ch:=[]) un hok bare (fun b z=>absurd z (by simp)),r,q⟩
end
noncomputable def tCall (sp:Sp) (dvs:List V) (E:St->XK) (t:TA):TE:=fun σ H Q=>t σ H fun vs H1=>sp (vs++dvs) H1 Q (E σ)
noncomputable def tMeth (C:Addr) (m:Str) (sp:Sp) (dvs:List V) (E:St->XK) (ta:TE) (t:TA):TE:=fun σ H Q=>ta σ H fun x H1=>∃a dx fs,x= .ref a/\H1 a=some (.ins C dx fs)/\fs.lookup m=none/\
 t σ H1 fun vs H2=>sp (x::(vs++dvs)) H2 Q (E σ)
noncomputable def tMake (C:Addr) (sp:Sp) (dvs:List V) (E:St->XK) (t:TA):TE:=fun σ H Q=>t σ H fun vs H1=>∀x dx,H1 x=none->H1 dx=none->dx≠x->
 sp (.ref x::(vs++dvs)) (upd (upd H1 dx (.own x)) x (.ins C dx [])) (fun v H2=>v= .non/\Q (.ref x) H2) (E σ)
noncomputable def Binds (K:PySem.W.Frag) (fd:FuncData) (ps:List Str) (ds:List Value):Prop:=
 ∀(s:Shared) (us:List Value),K.In s.heap->(us++ds).length=ps.length->BindsTo s fd ⟨us,[]⟩ (ps.zip (us++ds))
theorem Binds.all {K:PySem.W.Frag} {fd:FuncData} {ps:List Str} (h:∀us:List Value,us.length=ps.length->bindArgs fd ⟨us,[]⟩=pure (ps.zip us)):Binds K fd ps []:=fun s us _ hl=>by
 rw[List.append_nil]at hl ⊢
 exact .of_eq (h us hl)
noncomputable def Passes (CX:CXT) (X:Cx) (E:St->XK):Prop:=∀(pins:List (Addr×Obj)) (σ:St) (H:Hp) (s:Shared) (e:Value) (s':Shared),Inv X pins σ H s->CX X.stack H s (E σ) e s'->X.xe e s'
section
variable {X:Cx} {CX:CXT} {k:Nat} {f C:Addr} {fd:FuncData} {ps:List Str} {sp:Sp} {dvs:List V} {ds:List Value} {E:St->XK} {x m:Str} {p pos apos:Pos} {e o:Expr} {es:List Expr} {ta:TE} {t:TA}
theorem run_fn {pins:List (Addr×Obj)} {σ:St} {H:Hp} {s:Shared} {Q:VK} {us:List Value} {vs:List V} (F:FnOk X.prog X.w X.K X.mg X.base CX k f fd ps sp) (hr:Room k X.A) (hb:Binds X.K fd ps ds) (hd:Vals dvs ds) (hx:Passes CX X E)
  (I:Inv X pins σ H s) (r:Vals vs us) (h:sp (vs++dvs) H Q (E σ)):wpAny (model X.prog X.w) X.A (call (.ref f) us) (EP X pins σ Q) X.xe s:=by
 have r2:Vals (vs++dvs) (us++ds):=r.append hd
 have hl:(us++ds).length=ps.length:=by rw[<-r2.length];exact F.len _ _ _ _ h
 refine wpAny_call (codeAny_mono (F.run X.A X.stack s H ⟨us,[]⟩ (us++ds) (vs++dvs) Q (E σ) hr I.env0 (hb s us I.kIn hl) r2 h) fun r s' hq=> ?_)
 cases r with
 |error e=>exact hx pins σ H s e s' I hq
 |ok fl=>
  cases fl with
  |ret u=>exact I.after hq
  |next=>exact False.elim hq
  |brk=>exact False.elim hq
  |cont=>exact False.elim hq
theorem pe_call (F:FnOk X.prog X.w X.K X.mg X.base CX k f fd ps sp) (hr:Room k X.A) (hg:Gl X x) (hm:X.mg x=some (.ref f)) (hk:PySem.W.keepIn X.K (.ref f)=true) (hb:Binds X.K fd ps ds) (hd:Vals dvs ds) (hx:Passes CX X E)
  (ha:PA X (e::es) t) (hdb:(x==("__debug__":Str))=false:=by decide) (he:starEach (e::es) X.env=(false,eval e X.env)::starEach es X.env:=by rfl) (hpl:(backTo pos (starEach es X.env)).any (·.1)=false:=by rfl):
  PE X (.Call (.Name x p) (e::es) [] pos) (tCall sp dvs E t):=by
 intro pins s σ H Q I h
 refine wpAny_Call_Name_kw (ld_glob I hg hm ?_ hdb)
 refine PySem.W.callWith_K (h₀:=X.base) I.ok.mod.kin hk (thn (ha pos pins s σ H _ I h) fun us s1 ⟨vs,H1,I1,r,q⟩=>⟨I1.kIn,?_⟩) he hpl
 exact run_fn F hr hb hd hx I1 r q
theorem pe_meth {pl:Sem Bool} (he:PE X o ta) (c:Cls X.K C) (hm:Meth X.K C m f) (F:FnOk X.prog X.w X.K X.mg X.base CX k f fd ps sp) (hr:Room k X.A) (hb:Binds X.K fd ps ds) (hd:Vals dvs ds) (hx:Passes CX X E) (ha:PA X (e::es) t)
  (hst:starEach (e::es) X.env=(false,eval e X.env)::starEach es X.env:=by rfl) (hpl:(backTo pos (starEach es X.env)).any (·.1)=false:=by rfl)
  (ht:eval (.Call (.Attribute o m apos) (e::es) [] pos) X.env=(do
   let ov<-eval o X.env
   standAt apos.atName
   let (f,first)<-holding [ov] (getMethod ov m pl)
   callWith pos f first (backTo pos (starEach (e::es) X.env)) (backToKw pos (keywordEach [] X.env))):=by rfl):
  PE X (.Call (.Attribute o m apos) (e::es) [] pos) (tMeth C m sp dvs E ta t):=by
 intro pins s σ H Q I h
 refine PySem.W.methodCall_KW (pl:=pl) (thn (he pins s σ H _ I h) fun u s1 z_=> ?_) ht
 obtain⟨x,H1,I1,rx,a,dx,fs,ex,ea,l,q⟩:=z_
 subst ex
 obtain rfl:u=Value.ref a:=rx
 refine getmeth_ok I1 ea c hm l ?_
 refine PySem.W.callWith_K (first:=[.ref a]) (h₀:=X.base) I.ok.mod.kin hm.kp (thn (ha pos pins s1 σ H1 _ I1 q) fun us s2 ⟨vs,H2,I2,r,q2⟩=>⟨I2.kIn,?_⟩) hst hpl
 exact run_fn (us:= .ref a::us) (vs:= .ref a::vs) F hr hb hd hx I2 (.cons rfl r) q2
theorem pe_meth0 {pl:Sem Bool} (he:PE X o ta) (c:Cls X.K C) (hm:Meth X.K C m f) (F:FnOk X.prog X.w X.K X.mg X.base CX k f fd ps sp) (hr:Room k X.A) (hb:Binds X.K fd ps ds) (hd:Vals dvs ds) (hx:Passes CX X E)
  (ht:eval (.Call (.Attribute o m apos) [] [] pos) X.env=(do
   let ov<-eval o X.env
   standAt apos.atName
   let (f,first)<-holding [ov] (getMethod ov m pl)
   callWith pos f first (backTo pos (starEach [] X.env)) (backToKw pos (keywordEach [] X.env))):=by rfl):
  PE X (.Call (.Attribute o m apos) [] [] pos) (tMeth C m sp dvs E ta tNil):=by
 intro pins s σ H Q I h
 refine PySem.W.methodCall_KW (pl:=pl) (thn (he pins s σ H _ I h) fun u s1 z_=> ?_) ht
 obtain⟨x,H1,I1,rx,a,dx,fs,ex,ea,l,q⟩:=z_
 subst ex
 obtain rfl:u=Value.ref a:=rx
 refine getmeth_ok I1 ea c hm l ?_
 exact PySem.W.callWith_K0 (first:=[.ref a]) I1.kIn hm.kp (run_fn (us:=[.ref a]) (vs:=[.ref a]) F hr hb hd hx I1 (.cons rfl .nil) q)
structure Mk (K:PySem.W.Frag) (C f:Addr):Prop where
 makes:PySem.W.makesIn K C=true
 init:PySem.W.findIn K (.ref C) "__init__"=some (some (.ref f))
 fn:PySem.W.isFn K (.ref f)=true
 kp:PySem.W.keepIn K (.ref C)=true
theorem run_make {pins:List (Addr×Obj)} {σ:St} {H:Hp} {s:Shared} {Q:VK} {us:List Value} {vs:List V} (M:Mk X.K C f) (F:FnOk X.prog X.w X.K X.mg X.base CX k f fd ps sp) (hr:Room (k+1) X.A) (hb:Binds X.K fd ps ds) (hd:Vals dvs ds)
  (hx:Passes CX X E) (I:Inv X pins σ H s) (r:Vals vs us)
  (h:∀x dx,H x=none->H dx=none->dx≠x->sp (.ref x::(vs++dvs)) (upd (upd H dx (.own x)) x (.ins C dx [])) (fun v H2=>v= .non/\Q (.ref x) H2) (E σ)):
  wpAny (model X.prog X.w) X.A (call (.ref C) us) (EP X pins σ Q) X.xe s:=by
 have hq:=h (s.heap.objs.size+1) s.heap.objs.size (I.hok.fresh (Nat.le_succ _)) (I.hok.fresh (Nat.le_refl _)) (Nat.ne_of_lt (Nat.lt_succ_self _))
 have I2:=Inv.made (C:=C) I
 have r2:Vals (V.ref (s.heap.objs.size+1)::(vs++dvs)) (Value.ref (s.heap.objs.size+1)::(us++ds)):= .cons rfl (r.append hd)
 have hl:(Value.ref (s.heap.objs.size+1)::us++ds).length=ps.length:=by
  have e:=r2.length
  rw[F.len _ _ _ _ hq]at e
  exact e.symm
 refine wpAny_call (make_map (f:=f) I.kIn M.makes M.init (beq_iff_eq.mp M.fn) (codeAny_mono (F.run _ X.stack _ _ ⟨Value.ref (s.heap.objs.size+1)::us,[]⟩ (Value.ref (s.heap.objs.size+1)::(us++ds)) _ _ (E σ) (hr.make C us [])
  (I2.env0.make C us []) (hb _ (Value.ref (s.heap.objs.size+1)::us) I2.kIn hl) r2 hq) fun r s' hq'=> ?_))
 cases r with
 |error e=>exact hx pins σ _ _ e s' I2 hq'
 |ok fl=>
  cases fl with
  |ret u=>
   obtain⟨v,H',I3,rv,ev,q3⟩:=I2.after hq'
   subst ev
   exact⟨rv,⟨V.ref (s.heap.objs.size+1),H',I3,rfl,q3⟩⟩
  |next=>exact False.elim hq'
  |brk=>exact False.elim hq'
  |cont=>exact False.elim hq'
theorem pe_make (M:Mk X.K C f) (F:FnOk X.prog X.w X.K X.mg X.base CX k f fd ps sp) (hr:Room (k+1) X.A) (hg:Gl X x) (hm:X.mg x=some (.ref C)) (hb:Binds X.K fd ps ds) (hd:Vals dvs ds) (hx:Passes CX X E)
  (ha:PA X (e::es) t) (hdb:(x==("__debug__":Str))=false:=by decide) (he:starEach (e::es) X.env=(false,eval e X.env)::starEach es X.env:=by rfl) (hpl:(backTo pos (starEach es X.env)).any (·.1)=false:=by rfl):
  PE X (.Call (.Name x p) (e::es) [] pos) (tMake C sp dvs E t):=by
 intro pins s σ H Q I h
 refine wpAny_Call_Name_kw (ld_glob I hg hm ?_ hdb)
 refine PySem.W.callWith_K (h₀:=X.base) I.ok.mod.kin M.kp (thn (ha pos pins s σ H _ I h) fun us s1 ⟨vs,H1,I1,r,q⟩=>⟨I1.kIn,?_⟩) he hpl
 exact run_make M F hr hb hd hx I1 r q
end
section
variable {X:Cx} {CX:CXT} {k:Nat} {f C:Addr} {fd:FuncData} {ps ks:List Str} {sp:Sp} {E:St->XK} {x m:Str} {p pos apos kpos:Pos} {e o:Expr} {es:List Expr} {kws:List Keyword} {te ta:TE} {t tk:TA} {nm:Option Str}
variable {g:List Value->List Value->List Value} {gV:List V->List V->List V}
end
structure FnScope (N P:List Str) (sc:Scope):Prop where
 kind:sc.kind= .function
 co:sc.isCoroutine=false
 gen:sc.isGenerator=false
 nd:N.Nodup
 pre:N.take P.length=P
 par:∀x∈P,sc.names.lookup x=some .local\/sc.names.lookup x=some .cell
 nofree:∀y∈sc.names,y.2≠ .free
theorem bindL_out {kindOf:Str->Option NameKind} {x:Str}:∀{binds:List (Str×Value)} {m:Str->Option Value},(∀v,(x,v)∉binds)->bindL kindOf binds m x=m x
 |[],_,_=>rfl
 |(n,v)::r,m,h=>by
  unfold bindL
  rw[bindL_out fun w hw=>h w (List.mem_cons_of_mem _ hw)]
  split
  ·have:x≠n:=by rintro rfl;exact h v List.mem_cons_self
   simp[this]
  ·rfl
theorem bindC_out {kindOf:Str->Option NameKind} {x:Str}:∀{binds:List (Str×Value)} {m:Str->Option Value},(∀v,(x,v)∉binds)->bindC kindOf binds m x=m x
 |[],_,_=>rfl
 |(n,v)::r,m,h=>by
  unfold bindC
  rw[bindC_out fun w hw=>h w (List.mem_cons_of_mem _ hw)]
  split
  ·rfl
  ·have:x≠n:=by rintro rfl;exact h v List.mem_cons_self
   simp[this]
theorem bindL_get {kindOf:Str->Option NameKind} {x:Str} {v:Value}:∀{P:List Str} {vs:List Value} {i:Nat} {m:Str->Option Value},P.Nodup->P[i]? =some x->vs[i]? =some v->kindOf x=some .local->
  bindL kindOf (P.zip vs) m x=some v
 |[],_,_,_,_,h,_,_=>by simp at h
 |_::_,[],_,_,_,_,h,_=>by simp at h
 |p::P,w::vs,0,m,nd,h1,h2,hk=>by
  simp at h1 h2;subst h1;subst h2
  show bindL kindOf ((p,w)::P.zip vs) m p=_
  unfold bindL
  rw[bindL_out fun v hv=>(List.nodup_cons.mp nd).1 (List.of_mem_zip hv).1,if_pos hk]
  simp
 |p::P,w::vs,i+1,m,nd,h1,h2,hk=>by
  show bindL kindOf ((p,w)::P.zip vs) m x=_
  unfold bindL
  exact bindL_get (i:=i) (List.nodup_cons.mp nd).2 (by simpa using h1) (by simpa using h2) hk
theorem bindC_get {kindOf:Str->Option NameKind} {x:Str} {v:Value}:∀{P:List Str} {vs:List Value} {i:Nat} {m:Str->Option Value},P.Nodup->P[i]? =some x->vs[i]? =some v->kindOf x≠some .local->
  bindC kindOf (P.zip vs) m x=some v
 |[],_,_,_,_,h,_,_=>by simp at h
 |_::_,[],_,_,_,_,h,_=>by simp at h
 |p::P,w::vs,0,m,nd,h1,h2,hk=>by
  simp at h1 h2;subst h1;subst h2
  show bindC kindOf ((p,w)::P.zip vs) m p=_
  unfold bindC
  rw[bindC_out fun v hv=>(List.nodup_cons.mp nd).1 (List.of_mem_zip hv).1,if_neg hk]
  simp
 |p::P,w::vs,i+1,m,nd,h1,h2,hk=>by
  show bindC kindOf ((p,w)::P.zip vs) m x=_
  unfold bindC
  exact bindC_get (i:=i) (List.nodup_cons.mp nd).2 (by simpa using h1) (by simpa using h2) hk
noncomputable def start (N:List Str) (vs:List V):St:=vs.map some++List.replicate (N.length - vs.length) none
noncomputable def cxOf (CX:CXT) (P:Program) (w:World) (K:PySem.W.Frag) (mg:Str->Option Value) (base:Heap) (N:List Str) (qual:Str) (scope:Scope) (f:Addr) (cd:Value) (A:Around) (outer:List Env) (s:Shared) (H:Hp) (E:XK):Cx where
 prog:=P
 w:=w
 K:=K
 mg:=mg
 base:=base
 A:=A.deeper (envOfC qual scope s.heap.objs.size f cd)
 N:=N
 s₀:=s
 H₀:=H
 env:=envOfC qual scope s.heap.objs.size f cd
 outer:=outer
 stack:=envOfC qual scope s.heap.objs.size f cd::outer
 ex:=[]
 calm:=true
 fn:=fun _=>true
 pn:=[]
 xe:=fun e s'=>wpAny (model P w) (A.deeper (envOfC qual scope s.heap.objs.size f cd)) (leaving (envOfC qual scope s.heap.objs.size f cd) e) (fun _ s''=>CX outer H s E e s'') (fun e' s''=>CX outer H s E e' s'') s'
theorem cell_has {sc:Scope} {n:Nat} {x:Str} (h:sc.names.lookup x=some .cell):∃c,(cellsFrom n sc.names []).lookup x=some c:=by
 have q:=PySem.W.cellsFrom_some sc.names n [] (.inl h)
 exact Option.isSome_iff_exists.mp q
theorem inv_start {CX:CXT} {P:Program} {w:World} {K:PySem.W.Frag} {mg:Str->Option Value} {base:Heap} {N ps:List Str} {qual:Str} {scope:Scope} {f:Addr} {cd:Value} {A:Around} {outer:List Env} {s s1:Shared} {H:Hp} {E:XK} {us:List Value} {vs:List V}
  (S:FnScope N ps scope) (hd:A.handled=none) (e0:Env0 P w K mg base A outer s H) (hl:vs.length=ps.length) (r:Vals vs us)
  (x:InCallC s s.heap.objs.size (bindL (envOfC qual scope s.heap.objs.size f cd).kindOf (ps.zip us) fun _=>none) (cellsFrom (s.heap.objs.size+1) scope.names []) (bindC (envOfC qual scope s.heap.objs.size f cd).kindOf (ps.zip us) fun _=>none) s1):
  Inv (cxOf CX P w K mg base N qual scope f cd A outer s H E) [] (start N vs) H s1:=by
 have hpl:ps.length<=N.length:=by have:=congrArg List.length S.pre;rw[List.length_take]at this;omega
 obtain⟨h1,tk,rfl,hk⟩:=x.done
 have noA:∀b:Addr,b∉(cxOf CX P w K mg base N qual scope f cd A outer s H E).ex:=fun b z=>absurd (show b∈([]:List Addr)from z) (by simp)
 refine⟨⟨e0.mod,S.kind,rfl,rfl,Nat.le_refl _,fun y z c h1 h2=> ?_,fun y hy=> ?_,fun y c _ h=> ?_,fun _=>hd,Around.frames_deeper e0.frames, .inr ⟨rfl,rfl⟩,fun b z=>absurd z (noA b),e0.bs,e0.bsz,fun b _ _=>noA b,fun b z=>absurd z (noA b),e0.funs,e0.frf⟩,
  rfl,e0.bare,Un.kept hk,⟨_,x.toInCall.ns,fun i y v h1 h2 h3=> ?_⟩,fun y c h=>⟨_,x.cell y c h⟩,e0.hok.fresh (Nat.le_refl _),fun y c h=> ?_,fun p hp=>absurd (show p∈([]:List (Addr×Obj))from hp) (by simp),e0.hok.kept hk,?_⟩
 ·exact name_of_addr x.apart (PySem.mem_of_lookup h1) (PySem.mem_of_lookup h2)
 ·have hy:scope.names.lookup y=some .cell\/scope.names.lookup y=some .free:=hy
  rcases hy with hy|hy
  ·exact cell_has hy
  ·exact absurd rfl (S.nofree _ (PySem.mem_of_lookup hy))
 ·exact Nat.le_of_lt (x.above y c (PySem.mem_of_lookup h))
 ·have hi:i<vs.length:=by
   unfold start at h2
   by_cases hi:i<vs.length
   ·exact hi
   ·rw[List.getElem?_append_right (by simpa using hi)]at h2
    rw[List.getElem?_replicate]at h2
    split at h2<;>cases h2
  have ha:vs[i]? =some v:=by
   unfold start at h2
   rw[List.getElem?_append_left (by simpa using hi),List.getElem?_map]at h2
   cases e:vs[i]? with
   |none=>rw[e]at h2;cases h2
   |some a=>rw[e]at h2;cases h2;rfl
  obtain⟨u,hu,rv⟩:=r.get ha
  have hp:ps[i]? =some y:=by
   rw[<-S.pre,List.getElem?_take_of_lt (by omega)];exact h1
  have ndP:ps.Nodup:=by rw[<-S.pre];exact S.nd.sublist (List.take_sublist _ _)
  refine⟨u,rv,?_⟩
  rcases S.par y (List.mem_of_getElem? hp)with k|k
  ·exact .inl ⟨k,bindL_get ndP hp hu k⟩
  ·obtain⟨c,e⟩:=cell_has (n:=s.heap.objs.size+1) k
   refine .inr ⟨.inl k,c,e,?_⟩
   have q:=x.cell y c e
   rw[bindC_get ndP hp hu (by show scope.names.lookup y≠_;rw[k];decide)]at q
   exact q
 ·exact e0.hok.fresh (Nat.le_of_lt (x.above y c (PySem.mem_of_lookup h)))
 ·unfold start
  show _=N.length
  rw[List.length_append,List.length_map,List.length_replicate]
  omega
theorem fn_of {CX:CXT} {P:Program} {w:World} {K:PySem.W.Frag} {mg:Str->Option Value} {base:Heap} {k:Nat} {f:Addr} {name qual:Str} {params:Arguments} {body:List Stmt} {scope:Scope} {dV kV doc pm cdv ct oc:Value} {an od:Option Addr}
  {osl:Array (Option Value)} {N ps:List Str} {sp:Sp} (lk:K.lookup f=some ⟨oc,od, .func (PySem.W.fnOf name qual params body scope dV kV doc pm an cdv ct),osl⟩) (hcd:PySem.W.codeIn K cdv qual=true) (S:FnScope N ps scope)
  (len:∀vs H Q E,sp vs H Q E->vs.length=ps.length)
  (hbody:∀(A:Around) (outer:List Env) (s:Shared) (H:Hp) (vs:List V) (Q:VK) (E:XK),Room k (A.deeper (envOfC qual scope s.heap.objs.size f cdv))->sp vs H Q E->
   ∃t,PSs (cxOf CX P w K mg base N qual scope f cdv A outer s H E) body t/\t {nx:=fun _ H'=>Q .non H',rt:=Q} (start N vs) H):
  FnOk P w K mg base CX (k+1) f (PySem.W.fnOf name qual params body scope dV kV doc pm an cdv ct) ps sp:=by
 refine⟨len,fun A outer s H args us vs Q E hr e0 hb r hsp=> ?_⟩
 have hl:=len _ _ _ _ hsp
 have KX:K.In s.heap:=e0.mod.kin.keeps fun b o e=>(e0.bs b o e).1
 have lim:s.heap.NoLimit:=e0.mod.nolimit.keeps fun b o e=>(e0.bs b o e).1
 have hkind:∀y∈ps.zip us,scope.names.lookup y.1=some .local\/(scope.names.lookup y.1=some .cell/\((cellsFrom (s.heap.objs.size+1) scope.names []).lookup y.1).isSome=true):=fun ⟨n,v⟩ hy=>by
  rcases S.par n (List.of_mem_zip hy).1 with q|q
  ·exact .inl q
  ·exact .inr ⟨q,PySem.W.cellsFrom_some _ _ _ (.inl q)⟩
 refine codeAny_call_function hr.depth (KX _ _ lk) rfl S.co S.gen rfl (PySem.W.codeRec_of KX hcd) (hb _ _ _ _ ?_)
 refine wpAny_newFunctionEnv_cells S.kind hkind fun env he s1 x=> ?_
 subst he
 refine⟨lim.keeps x.toInCall.keep,codeAny_func ?_⟩
 obtain⟨t,ht,hq⟩:=hbody A outer s H vs Q E (hr.deeper _) hsp
 have I:Inv (cxOf CX P w K mg base N qual scope f cdv A outer s H E) [] (start N vs) H s1:=inv_start S hr.hd e0 hl r x
 refine wpAny_mono (ht [] s1 (start N vs) H _ I hq) (fun fl s' hs=> ?_) fun e s' hs=>hs
 have fin:∀{σ':St} {H':Hp} {v:V} {u:Value},Inv (cxOf CX P w K mg base N qual scope f cdv A outer s H E) [] σ' H' s'->RelV v u->Q v H'->CE outer P w H s Q u s':=
  fun {σ' H' v u} J rv q=>⟨v,H',J.os,J.bare,J.base,J.hok,rv,q⟩
 cases fl with
 |ret u=>
  obtain⟨v,σ',H',J,rv,q⟩:=hs
  exact fin J rv q
 |next=>
  obtain⟨σ',H',J,q⟩:=hs
  exact fin (v:=V.non) (u:=Value.none) J rfl q
 |brk=>
  obtain⟨_,_,_,q⟩:=hs
  exact False.elim q
 |cont=>
  obtain⟨_,_,_,q⟩:=hs
  exact False.elim q
end L2
namespace L2
open PySem PySem.Spec PyProof.Rows
section
variable {X:Cx} {x:Str} {p pos:Pos} {e:Expr} {es:List Expr} {t:TA} {id T:String} {r:List V->Hp->VK->Prop}
noncomputable def tCB (r:List V->Hp->VK->Prop) (t:TA):TE:=fun σ H Q=>t σ H fun vs H1=>r vs H1 Q
theorem pe_callB (hc:CallR X (.builtin id) r) (hg:Gl X x) (hm:X.mg x=none) (hv:bootBuiltins x=some (.builtin id)) (ha:PA X (e::es) t) (hn:x≠"__name__":=by decide) (hdb:(x==("__debug__":Str))=false:=by decide)
  (he:starEach (e::es) X.env=(false,eval e X.env)::starEach es X.env:=by rfl) (hpl:(backTo pos (starEach es X.env)).any (·.1)=false:=by rfl):PE X (.Call (.Name x p) (e::es) [] pos) (tCB r t):=by
 intro pins s σ H Q I h
 refine wpAny_Call_Name_kw (ld_blt I hg hm hv ?_ hn hdb)
 exact PyProof.Rows.callWith_builtin1 (thn (ha pos pins s σ H _ I h) fun us s1 ⟨vs,H1,I1,r1,q1⟩=>hc pins s1 σ H1 vs us Q I1 r1 q1) he hpl
theorem pe_callTy (hc:CallR X (.type T) r) (hg:Gl X x) (hm:X.mg x=none) (hv:bootBuiltins x=some (.type T)) (ha:PA X (e::es) t) (hn:x≠"__name__":=by decide) (hdb:(x==("__debug__":Str))=false:=by decide)
  (he:starEach (e::es) X.env=(false,eval e X.env)::starEach es X.env:=by rfl) (hpl:(backTo pos (starEach es X.env)).any (·.1)=false:=by rfl):PE X (.Call (.Name x p) (e::es) [] pos) (tCB r t):=by
 intro pins s σ H Q I h
 refine wpAny_Call_Name_kw (ld_blt I hg hm hv ?_ hn hdb)
 exact PyProof.Rows.callWith_type1 (thn (ha pos pins s σ H _ I h) fun us s1 ⟨vs,H1,I1,r1,q1⟩=>hc pins s1 σ H1 vs us Q I1 r1 q1) he hpl
end
end L2
namespace HT
open PySem PyProof.Rows
section
open PySem.SeqAt
open PySem.AutoSeq1 (wpAny_loadPart')
open PySem.MeetsSeq PySem.MeetsSeq2 PySem.MeetsSeq3
end
section
variable {prog:Program} {w:World} {A:Around} {E:Value->Shared->Prop} {s:Shared}
theorem cat_tup {t b:Addr} {vs ws:List Value} {Q:Value->Shared->Prop} (ht:IsTup s.heap t vs.toArray) (hb:IsTup s.heap b ws.toArray) (hv:vs≠[])
  (h1:ws=[]->Q (.ref t) s) (h2:ws≠[]->Q (.ref s.heap.objs.size) {s with heap:=s.heap.push {cls:= .type "tuple",data:= .seq (vs++ws).toArray}})
  (hsz:vs.length+ws.length<=sizeLine):wpAny (model prog w) A (binaryOp .Add (.ref t) (.ref b)) Q E s:=by
 obtain⟨⟨cls,dd,data,sl⟩,ho,hc,n,hd⟩:=id ht
 obtain⟨⟨cls2,dd2,data2,sl2⟩,ho2,hc2,n2,hd2⟩:=id hb
 simp only at hc hd hc2 hd2
 subst hc hd hc2 hd2
 have e:vs.toArray++ws.toArray=(vs++ws).toArray:=by simp
 by_cases hw:ws=[]
 ·exact concat_meets ⟨_,ho,rfl⟩ ⟨_,ho2,rfl⟩ noFill_tuple_add seq_tuple_add PySem.F.slot_tuple_add PySem.F.entry_tuple_add (PySem.F.args_tuple_add_2 _ _)
   (tuple_addW1 t b vs.toArray ws.toArray n n2 dd dd2 sl sl2 (by simpa using hv) (by simp[hw])) ⟨ho,ho2,h1 hw⟩
 ·refine concat_meets ⟨_,ho,rfl⟩ ⟨_,ho2,rfl⟩ noFill_tuple_add seq_tuple_add PySem.F.slot_tuple_add PySem.F.entry_tuple_add (PySem.F.args_tuple_add_2 _ _)
   (tuple_addW2 t b vs.toArray ws.toArray n n2 dd dd2 sl sl2 (by simpa using hv) (by simpa using hw) (by rw[List.size_toArray,List.size_toArray];exact hsz)) ⟨ho,ho2,?_⟩
  rw[e]
  exact h2 hw
noncomputable def sIx (n d:Nat):Option Int->Nat
 |none=>d
 |some v=>if v<0 then (v+(n:Int)).toNat else min v.toNat n
theorem sIx_le (n d:Nat) (hd:d<=n) (o:Option Int):sIx n d o<=n:=by
 cases o with
 |none=>exact hd
 |some v=>
  show (if v<0 then (v+(n:Int)).toNat else min v.toNat n)<=n
  by_cases hv:v<0
  ·rw[if_pos hv];omega
  ·rw[if_neg hv];exact Nat.min_le_right _ _
theorem clip_eq (v:Int) (n d:Nat):(if v<0 then max (v+(n:Int)) 0 else min v (n:Int))=((sIx n d (some v):Nat):Int):=by
 show (if v<0 then max (v+(n:Int)) 0 else min v (n:Int))=(((if v<0 then (v+(n:Int)).toNat else min v.toNat n):Nat):Int)
 by_cases hv:v<0
 ·simp only[if_pos hv];omega
 ·simp only[if_neg hv];omega
theorem adjust_gen (lo hi:Option Int) (n:Nat):Builtin.Slice.sliceAdjust lo hi 1 (n:Int)=(((sIx n 0 lo:Nat):Int),((sIx n n hi:Nat):Int)):=by
 have h1:¬((1:Int)<0):=by omega
 unfold Builtin.Slice.sliceAdjust
 simp only[h1,if_false]
 refine Prod.ext ?_ ?_
 ·cases lo with
  |none=>rfl
  |some v=>exact clip_eq v n 0
 ·cases hi with
  |none=>rfl
  |some v=>exact clip_eq v n n
theorem places_gen (i j:Nat):Builtin.Slice.slicePlaces (i:Int) (j:Int) 1=j - i:=by
 unfold Builtin.Slice.slicePlaces
 have h1:(1:Int)>0:=by omega
 simp only[h1,if_true,Int.ediv_one]
 split<;>omega
theorem slicePart_ {v:Value} {o:Option Int} {Q:Option Int->Shared->Prop} (p:IsPart v o) (h:Q o s):wpAny (model prog w) A (Builtin.Slice.slicePartIndex v) Q E s:=by
 cases p with
 |none=>exact slicePart_none h
 |int i t=>exact slicePart_int h
theorem sliceApplied_gen {sl:Addr} {vl vu:Value} {lo hi:Option Int} {n:Nat} {Q:Int×Int×Nat->Shared->Prop} (hs:s.heap.IsSliceOf sl vl vu .none) (pl:IsPart vl lo) (pu:IsPart vu hi)
  (h:Q (((sIx n 0 lo:Nat):Int),1,sIx n n hi - sIx n 0 lo) s):wpAny (model prog w) A (Builtin.Slice.sliceApplied (.ref sl) (pure (n:Int))) Q E s:=by
 obtain⟨os,hos,hcs,hds⟩:=id hs
 unfold Builtin.Slice.sliceApplied Builtin.Slice.sliceFields
 refine wpAny_bind (wpAny_bind (wpAny_field hos hds (x:=vl) rfl (wpAny_bind (wpAny_field hos hds (x:=vu) rfl (wpAny_bind (wpAny_field hos hds (x:= .none) rfl (wpAny_pure ?_)))))))
 refine wpAny_bind (slicePart_none ?_)
 show wpAny _ _ (if ((1:Int)==0)=true then _ else _) _ _ s
 rw[if_neg (by decide)]
 refine wpAny_bind (slicePart_ pl (wpAny_bind (slicePart_ pu (wpAny_bind (wpAny_pure ?_)))))
 show wpAny _ _ (match Builtin.Slice.sliceAdjust lo hi 1 (n:Int)with|(lo,hi)=>pure (lo,(1:Int),Builtin.Slice.slicePlaces lo hi 1)) _ _ s
 rw[adjust_gen lo hi n]
 show wpAny _ _ (pure (((sIx n 0 lo:Nat):Int),(1:Int),Builtin.Slice.slicePlaces ((sIx n 0 lo:Nat):Int) ((sIx n n hi:Nat):Int) 1)) _ _ s
 rw[places_gen]
 exact wpAny_pure h
theorem pick_gen (xs:Array Value) (i k:Nat):((List.range k).filterMap fun (m:Nat)=>xs[((i:Int)+(m:Int)*1).toNat]?).toArray=((xs.toList.drop i).take k).toArray:=by
 have e:(fun (m:Nat)=>xs[((i:Int)+(m:Int)*1).toNat]?)=fun m=>xs[i+m]? :=by
  funext m
  have:((i:Int)+(m:Int)*1).toNat=i+m:=by omega
  rw[this]
 rw[e]
 have:=pick_run xs i k
 rw[List.filterMap_map]at this
 have e2:((fun x=>xs[x]?)∘fun x=>i+x)=fun m=>xs[i+m]? :=rfl
 rw[e2]at this
 rw[this]
theorem getItem_tuple_cut {t sl:Addr} {items:Array Value} {vl vu:Value} {lo hi:Option Int} {Q:Value->Shared->Prop} (ht:IsTup s.heap t items) (hs:s.heap.IsSliceOf sl vl vu .none) (pl:IsPart vl lo) (pu:IsPart vu hi)
  (hw:¬(sIx items.size 0 lo=0/\sIx items.size items.size hi=items.size))
  (h:Q (.ref s.heap.objs.size) {s with heap:=s.heap.push {cls:= .type "tuple",data:= .seq ((items.toList.drop (sIx items.size 0 lo)).take (sIx items.size items.size hi - sIx items.size 0 lo)).toArray}})
  (hsz:items.size<=sizeLine):wpAny (model prog w) A (getItem (.ref t) (.ref sl)) Q E s:=by
 have htake:sizeOk (.seq ((items.toList.drop (sIx items.size 0 lo)).take (sIx items.size items.size hi - sIx items.size 0 lo)).toArray):=by
  show ((items.toList.drop (sIx items.size 0 lo)).take (sIx items.size items.size hi - sIx items.size 0 lo)).toArray.size<=sizeLine
  rw[List.size_toArray,List.length_take,List.length_drop,Array.length_toList]
  omega
 have hj:sIx items.size items.size hi<=items.size:=sIx_le _ _ (Nat.le_refl _) hi
 obtain⟨os,hos,hcs,hds⟩:=id hs
 have hTs:s.TypeIs (.ref sl) "slice":=⟨os,hos,hcs⟩
 unfold getItem
 try with_reducible refine wpAny_holding ?_
 first|refine wpAny_bind (wpAny_pure ?_)|skip
 refine wpAny_bind (wpAny_sequenceKey ht.typeIs (by decide) ?_)
 refine wpAny_bind (wpAny_callSpecial?_slot (name:=Str.ofString "__getitem__") ht.typeIs PyProof.Rows.slot_tuple_getitem
  (wpAny_call_entry PyProof.Rows.slot_tuple_getitem ht.typeIs entry_tuple_getitem ?_ (args_tuple_getitem _ _)))
 show wpAny _ _ (Builtin.Tuple.tupleItemsOf (.ref t)>>=_) _ _ s
 refine wpAny_bind (tupleItemsOf_ ht ?_)
 refine wpAny_bind (wpAny_typeOf hTs ?_)
 rw[if_pos (by decide)]
 refine wpAny_bind (sliceApplied_gen hs pl pu ?_)
 have hno:¬((((sIx items.size 0 lo:Nat):Int)==0&&(1:Int)==1&&(sIx items.size items.size hi - sIx items.size 0 lo)==items.size)=true):=by
  intro q
  rw[Bool.and_eq_true,Bool.and_eq_true]at q
  have q1:((sIx items.size 0 lo:Nat):Int)=0:=eq_of_beq q.1.1
  have q2:sIx items.size items.size hi - sIx items.size 0 lo=items.size:=eq_of_beq q.2
  exact hw ⟨by omega,by omega⟩
 show wpAny _ _ (if (((sIx items.size 0 lo:Nat):Int)==0&&(1:Int)==1&&(sIx items.size items.size hi - sIx items.size 0 lo)==items.size)=true then _ else _) _ _ s
 rw[if_neg hno,pick_gen]
 first
  |exact wpAny_bind (m:=Builtin.Tuple.tupleExact _) (wpAny_newObj_type (wpAny_pure ⟨_,rfl,wpAny_pure h⟩) htake)
  |exact wpAny_bind (m:=Builtin.Tuple.tupleExact _) (wpAny_newObj_type (wpAny_bind (wpAny_pure (wpAny_pure ⟨_,rfl,wpAny_pure h⟩))) htake)
  |exact wpAny_bind (wpAny_bind (m:=Builtin.Tuple.tupleExact _) (wpAny_newObj_type (wpAny_pure (wpAny_pure ⟨_,rfl,wpAny_pure h⟩)) htake))
  |exact wpAny_bind (wpAny_bind (m:=Builtin.Tuple.tupleExact _) (wpAny_newObj_type (wpAny_pure ⟨_,rfl,wpAny_pure h⟩) htake))
end
end HT
namespace L2
open PySem PySem.Spec PyProof.Rows
noncomputable abbrev TO:=St->Hp->(Option Int->Hp->Prop)->Prop
noncomputable def PO (X:Cx) (e:Option Expr) (t:TO):Prop:=
 ∀(pins:List (Addr×Obj)) (s:Shared) (σ:St) (H:Hp) (Q:Option Int->Hp->Prop),Inv X pins σ H s->t σ H Q->
  wpAny (model X.prog X.w) X.A (evalPart e X.env) (fun u s'=>∃o H',Inv X pins σ H' s'/\IsPart u o/\Q o H') X.xe s
noncomputable def tNoPart:TO:=fun _ H Q=>Q none H
noncomputable def tPart (t:TE):TO:=fun σ H Q=>t σ H fun x H1=>∃i,x= .int i/\Q (some i) H1
theorem intsAre_of {ns:List Int}:∀{us:List Value},Vals (ns.map V.int) us->IntsAre us ns:=by
 induction ns with
 |nil=>intro us r;rw[List.map_nil]at r;cases r;exact .nil
 |cons n ns ih=>
  intro us r
  rw[List.map_cons]at r
  cases r with
  |cons r1 r2=>
   obtain⟨t,e⟩:=r1
   subst e
   exact .cons n t (ih r2)
section
variable {X:Cx} {e:Expr} {te:TE} {lo hi:Option Expr} {tl th:TO} {pos p2:Pos}
theorem po_none:PO X none tNoPart:=by
 intro pins s σ H Q I h
 rw[evalPart_none]
 exact wpAny_pure ⟨none,H,I, .none,h⟩
theorem po_some (h:PE X e te):PO X (some e) (tPart te):=by
 intro pins s σ H Q I hw
 rw[evalPart_some]
 refine thn (h pins s σ H _ I hw) fun u s1 z_=> ?_
 obtain⟨x,H1,I1,r1,q1⟩:=z_
 obtain⟨i,rfl,q⟩:=q1
 obtain⟨t,rfl⟩:=r1
 exact⟨some i,H1,I1, .int i t,q⟩
noncomputable def SlR (X:Cx) (r:V->Option Int->Option Int->Hp->VK->Prop):Prop:=
 ∀(pins:List (Addr×Obj)) (s:Shared) (σ:St) (H:Hp) (x:V) (v vl vu:Value) (lo hi:Option Int) (sl:Addr) (Q:VK),Inv X pins σ H s->RelV x v->s.heap.IsSliceOf sl vl vu .none->IsPart vl lo->IsPart vu hi->r x lo hi H Q->
  ∃T id,typeLookup (.type T) "__getitem__"=pure (some (.builtin id))/\s.TypeIs v T/\wpAny (model X.prog X.w) X.A (getItem v (.ref sl)) (EP X pins σ Q) X.xe s
theorem SlR.or {r r':V->Option Int->Option Int->Hp->VK->Prop} (h:SlR X r) (h':SlR X r'):SlR X (fun x lo hi H Q=>r x lo hi H Q\/r' x lo hi H Q):=by
 intro pins s σ H x v vl vu lo hi sl Q I rx hs pl pu q
 rcases q with q|q
 ·exact h pins s σ H x v vl vu lo hi sl Q I rx hs pl pu q
 ·exact h' pins s σ H x v vl vu lo hi sl Q I rx hs pl pu q
noncomputable def tSl (r:V->Option Int->Option Int->Hp->VK->Prop) (te:TE) (tl th:TO):TE:=fun σ H Q=>te σ H fun x H1=>tl σ H1 fun l H2=>th σ H2 fun u H3=>r x l u H3 Q
theorem pe_slice {r:V->Option Int->Option Int->Hp->VK->Prop} (hr:SlR X r) (he:PE X e te) (hl:PO X lo tl) (hu:PO X hi th):PE X (.Subscript e (.Slice lo hi none p2) pos) (tSl r te tl th):=by
 intro pins s σ H Q I h
 refine Subscript_ (thn (he pins s σ H _ I h) fun v s1 z_=> ?_)
 obtain⟨x,H1,I1,r1,q1⟩:=z_
 refine wpAny_Slice (thn (hl pins s1 σ H1 _ I1 q1) fun vl s2 ⟨l,H2,I2,pl,q2⟩=>thn (hu pins s2 σ H2 _ I2 q2) fun vu s3 z_=> ?_)
 obtain⟨u,H3,I3,pu,q3⟩:=z_
 rw[evalPart_none]
 refine wpAny_pure ?_
 have I4:Inv X pins σ H3 {s3 with heap:=s3.heap.push {cls:= .type "slice",data:= .fields #[vl,vu, .none]}}:=I3.kept (t':=s3.toks) fun b ob q=>Heap.get?_push_of_some _ q
 obtain⟨T,id,hT,ht,hg⟩:=hr pins {s3 with heap:=s3.heap.push {cls:= .type "slice",data:= .fields #[vl,vu, .none]}} σ H3 x v vl vu l u s3.heap.objs.size Q I4 r1 (Heap.IsSliceOf.new ..) pl pu q3
 show wpAny (model X.prog X.w) X.A (subscriptTail e (.Slice lo hi none p2) v (.ref s3.heap.objs.size)) (EP X pins σ Q) X.xe {s3 with heap:=s3.heap.push {cls:= .type "slice",data:= .fields #[vl,vu, .none]}}
 exact tail_any (ops:=[.ref s3.heap.objs.size,v]) ht hT hg (by with_unfolding_all rfl)
noncomputable def cutV (xs:List V) (lo hi:Option Int):List V:=(xs.drop (HT.sIx xs.length 0 lo)).take (HT.sIx xs.length xs.length hi - HT.sIx xs.length 0 lo)
theorem cutV_length (xs:List V) (lo hi:Option Int):(cutV xs lo hi).length<=xs.length:=by
 unfold cutV
 rw[List.length_take,List.length_drop]
 omega
noncomputable def rSlT (K:PySem.W.Frag):V->Option Int->Option Int->Hp->VK->Prop:=fun x lo hi H Q=>∃a xs,x= .ref a/\SqT K H a xs/\
 ¬(HT.sIx xs.length 0 lo=0/\HT.sIx xs.length xs.length hi=xs.length)/\∀p,H p=none->Q (.ref p) (upd H p (.tup (cutV xs lo hi)))
theorem sl_tup:SlR X (rSlT X.K):=by
 intro pins s σ H x v vl vu lo hi sl Q I rx hs pl pu h
 obtain⟨a,xs,rfl,hx,hw,q⟩:=h
 cases rx
 obtain⟨its,r,ht,hz⟩:=I.tuple hx
 have hlen:its.toArray.size=xs.length:=by rw[List.size_toArray];exact r.length.symm
 refine⟨"tuple",_,PyProof.Rows.slot_tuple_getitem.lookup,ht.typeIs,?_⟩
 refine HT.getItem_tuple_cut ht hs pl pu (by rw[hlen];exact hw) ?_ (by rw[hlen];exact hz)
 rw[hlen]
 refine⟨.ref s.heap.objs.size,_,I.laid (t':=s.toks) (o:= .tup (cutV xs lo hi)) (fun b ob q=>Heap.get?_push_of_some _ q) (Nat.le_refl _) ?_,rfl,q _ (I.hok.fresh (Nat.le_refl _))⟩
 exact⟨Nat.le_trans (cutV_length xs lo hi) hz,_,(r.drop (HT.sIx xs.length 0 lo)).take (HT.sIx xs.length xs.length hi - HT.sIx xs.length 0 lo),IsTupD.new _ _⟩
noncomputable def rCatT (K:PySem.W.Frag):R2:=fun x y H Q=>∃a b xs ys,x= .ref a/\y= .ref b/\SqT K H a xs/\SqT K H b ys/\xs≠[]/\xs.length+ys.length<=sizeLine/\
 (ys=[]->Q (.ref a) H)/\(ys≠[]->∀p,H p=none->Q (.ref p) (upd H p (.tup (xs++ys))))
theorem Vals.nil_iff {xs:List V} {us:List Value} (r:Vals xs us):us=[]<->xs=[]:=by
 cases r with
 |nil=>simp
 |cons _ _=>simp
theorem op_catT:OpR X (binaryOp .Add) (rCatT X.K):=by
 intro pins s σ H x y v u Q I rx ry h
 obtain⟨a,b,xs,ys,rfl,rfl,ha,hb,hx,hz,q1,q2⟩:=h
 cases rx
 cases ry
 obtain⟨its,r1,p1,_⟩:=I.tuple ha
 obtain⟨its2,r2,p2,_⟩:=I.tuple hb
 refine HT.cat_tup p1 p2 (fun z=>hx (r1.nil_iff.mp z)) (fun z=>⟨.ref a,H,I,rfl,q1 (r2.nil_iff.mp z)⟩) (fun z=> ?_) (by rw[<-r1.length,<-r2.length];exact hz)
 refine⟨.ref s.heap.objs.size,_,I.laid (t':=s.toks) (o:= .tup (xs++ys)) (fun b ob q=>Heap.get?_push_of_some _ q) (Nat.le_refl _) ?_,rfl,q2 (fun w=>z (r2.nil_iff.mpr w)) _ (I.hok.fresh (Nat.le_refl _))⟩
 exact⟨by rw[List.length_append];exact hz,_,r1.append r2,IsTupD.new _ _⟩
end
end L2
namespace L2
open PySem PySem.Spec PyProof.Rows
noncomputable def ixN (n:Nat) (i:Int):Option Nat:=if 0<=i then (if i<n then some i.toNat else none)else if -(n:Int)<=i then some (i+n).toNat else none
noncomputable def atI {α:Type} (xs:List α) (i:Int):Option α:=(ixN xs.length i).bind fun j=>xs[j]?
theorem ixN_seq {n:Nat} {i:Int} {j:Nat} (h:ixN n i=some j):seqIndex? i n=some j/\j<n/\ -(n:Int)<=i/\i<n:=by
 unfold ixN at h
 by_cases h0:0<=i
 ·rw[if_pos h0]at h
  by_cases h1:i<n
  ·rw[if_pos h1]at h
   have e:i.toNat=j:=Option.some.inj h
   exact⟨by rw[seqIndex_of h0 h1,e],by omega,by omega,h1⟩
  ·rw[if_neg h1]at h;cases h
 ·rw[if_neg h0]at h
  by_cases h1: -(n:Int)<=i
  ·rw[if_pos h1]at h
   have e:(i+n).toNat=j:=Option.some.inj h
   exact⟨by rw[seqIndex_neg (by omega) h1,e],by omega,h1,by omega⟩
  ·rw[if_neg h1]at h;cases h
theorem atI_get {α:Type} {xs:List α} {i:Int} {v:α} (h:atI xs i=some v):∃j,seqIndex? i xs.length=some j/\xs[j]? =some v/\j<xs.length/\ -(xs.length:Int)<=i/\i<xs.length:=by
 unfold atI at h
 cases e:ixN xs.length i with
 |none=>rw[e]at h;cases h
 |some j=>
  rw[e]at h
  obtain⟨h1,h2,h3,h4⟩:=ixN_seq e
  exact⟨j,h1,h,h2,h3,h4⟩
theorem atI_nat {α:Type} {xs:List α} {j:Nat} {v:α} (h:xs[j]? =some v):atI xs (j:Int)=some v:=by
 have hj:j<xs.length:=(List.getElem?_eq_some_iff.mp h).1
 have e:ixN xs.length (j:Int)=some j:=by
  unfold ixN
  rw[if_pos (by omega),if_pos (by omega)];simp
 unfold atI;rw[e];exact h
theorem atI_last {α:Type} (xs:List α) (v:α):atI (xs++[v]) (-1)=some v:=by
 have hl:(xs++[v]).length=xs.length+1:=by simp
 have e:ixN (xs++[v]).length (-1)=some xs.length:=by
  unfold ixN
  rw[hl,if_neg (by decide),if_pos (by omega)]
  congr 1
  omega
 unfold atI
 rw[e]
 show (xs++[v])[xs.length]? =some v
 simp
noncomputable def PlainIx (b:Expr):Prop:=∀o i,subscripted b false o i=operate [o,i] (getItem o i)
noncomputable def IxR (X:Cx) (r:R2):Prop:=
 ∀(value slice:Expr) (pins:List (Addr×Obj)) (s:Shared) (σ:St) (H:Hp) (x y:V) (v u:Value) (Q:VK),Inv X pins σ H s->RelV x v->RelV y u->r x y H Q->
  subscripted slice false v u=operate [v,u] (getItem v u)->wpAny (model X.prog X.w) X.A (subscriptTail value slice v u) (EP X pins σ Q) X.xe s
noncomputable def MtR (X:Cx) (id:String) (r:V->List V->Hp->VK->Prop):Prop:=
 ∀(pins:List (Addr×Obj)) (s:Shared) (σ:St) (H:Hp) (x:V) (xs:List V) (v:Value) (us:List Value) (Q:VK),Inv X pins σ H s->RelV x v->Vals xs us->r x xs H Q->
  wpAny (model X.prog X.w) X.A (call (.builtin id) (v::us)) (EP X pins σ Q) X.xe s
section
variable {X:Cx} {a b:Expr} {ta tb:TE} {pos:Pos}
theorem IxR.or {r r':R2} (h:IxR X r) (h':IxR X r'):IxR X (fun x y H Q=>r x y H Q\/r' x y H Q):=by
 intro value slice pins s σ H x y v u Q I rx ry q hs
 rcases q with q|q
 ·exact h value slice pins s σ H x y v u Q I rx ry q hs
 ·exact h' value slice pins s σ H x y v u Q I rx ry q hs
theorem pe_ix {r:R2} (hr:IxR X r) (ha:PE X a ta) (hb:PE X b tb) (hs:PlainIx b):PE X (.Subscript a b pos) (tOp r ta tb):=by
 intro pins s σ H Q I h
 exact Subscript_ (binT ha hb I h fun v u s2 x y H2 I2 rx ry q=>hr a b pins s2 σ H2 x y v u Q I2 rx ry q (hs _ _))
noncomputable def rIxL (K:PySem.W.Frag):R2:=fun x y H Q=>∃p xs i v,x= .ref p/\y= .int i/\SqL K H p xs/\atI xs i=some v/\Q v H
noncomputable def rIxT (K:PySem.W.Frag):R2:=fun x y H Q=>∃p xs i v,x= .ref p/\y= .int i/\SqT K H p xs/\atI xs i=some v/\Q v H
noncomputable def rIxS:R2:=fun x y H Q=>∃z i c,x= .str z/\y= .int i/\z.length<=sizeLine/\atI z.cps.toList i=some c/\Q (.str ⟨#[c]⟩) H
theorem ix_list:IxR X (rIxL X.K):=by
 intro value slice pins s σ H x y v u Q I rx ry h hs
 obtain⟨p,xs,i,z,rfl,rfl,hq,he,q⟩:=h
 cases rx
 obtain⟨t,rfl⟩:=ry
 obtain⟨its,r,pl,hz⟩:=I.list hq
 obtain⟨j,h1,h2,h3,h4,h5⟩:=atI_get he
 obtain⟨w,ew,rw'⟩:=r.get h2
 have hl:=r.length
 have hn:=line63
 have fin:EP X pins σ Q w s:=⟨z,H,I,rw',q⟩
 by_cases h0:0<=i
 ·have hj:i.toNat=j:=by
   rw[seqIndex_of h0 h5]at h1
   exact Option.some.inj h1
  exact item_listR pl.isList h0 (by omega) (by rw[hj];simpa using ew) fin hs
 ·have hj:(i+(its.toArray.size:Int)).toNat=j:=by
   rw[seqIndex_neg (by omega) h4]at h1
   rw[List.size_toArray,<-hl]
   exact Option.some.inj h1
  exact subscriptTail_builtinR (x:=w) pl.isList.typeIs slot_list_getitem.lookup
   (wpAny_getItem_list_neg (Q:=fun r s'=>r=w/\EP X pins σ Q r s') pl.isList (by omega) (by rw[List.size_toArray]<;>omega) (by omega) (by rw[hj];simpa using ew) ⟨rfl,fin⟩) hs
theorem ix_tup:IxR X (rIxT X.K):=by
 intro value slice pins s σ H x y v u Q I rx ry h hs
 obtain⟨p,xs,i,z,rfl,rfl,hq,he,q⟩:=h
 cases rx
 obtain⟨t,rfl⟩:=ry
 obtain⟨its,r,pl,hz⟩:=I.tuple hq
 obtain⟨j,h1,h2,h3,h4,h5⟩:=atI_get he
 obtain⟨w,ew,rw'⟩:=r.get h2
 have hl:=r.length
 have hn:=line63
 have fin:EP X pins σ Q w s:=⟨z,H,I,rw',q⟩
 exact subscriptTail_builtinR (x:=w) pl.typeIs slot_tuple_getitem.lookup
  (getItem_tuple (j:=j) (Q:=fun r s'=>r=w/\EP X pins σ Q r s') pl (by omega) (by omega) (by rw[List.size_toArray,<-hl];exact h1) (by simpa using ew) ⟨rfl,fin⟩) hs
theorem ix_str:IxR X rIxS:=by
 intro value slice pins s σ H x y v u Q I rx ry h hs
 obtain⟨z,i,c,rfl,rfl,hz,he,q⟩:=h
 obtain⟨t,rfl⟩:=rx
 obtain⟨t',rfl⟩:=ry
 obtain⟨j,h1,h2,h3,h4,h5⟩:=atI_get he
 have hl:z.cps.toList.length=z.length:=by simp[Str.length]
 rw[hl]at h1 h4 h5
 have hn:=line63
 exact tail_any (typeIs_str s z t) slot_str_getitem.lookup (getItem_str (c:=c) (by
  have e1:decide (i< -(2 ^63:Int))=false:=decide_eq_false (by omega)
  have e2:decide (i>=2 ^63)=false:=decide_eq_false (by omega)
  rw[e1,e2,Bool.or_false]) (by rw[h1];simpa using h2) ⟨.str ⟨#[c]⟩,H,I.tok _,⟨_,rfl⟩,q⟩) hs
noncomputable def rIx (K:PySem.W.Frag):R2:=fun x y H Q=>rIxL K x y H Q\/rIxT K x y H Q\/rIxS x y H Q
theorem ix_seq:IxR X (rIx X.K):=ix_list.or (ix_tup.or ix_str)
theorem mapSeq_set (its:List Value) (n j:Nat) (u:Value):Obj.mapSeq (·.setIfInBounds j u) {cls:= .type "list",data:= .seq its.toArray n}={cls:= .type "list",data:= .seq (its.set j u).toArray n}:=by
 simp[Obj.mapSeq]
theorem Inv.lst {pins:List (Addr×Obj)} {σ:St} {H:Hp} {s:Shared} {p:Addr} {xs:List V} (I:Inv X pins σ H s) (h:H p=some (.lst xs)):
  ∃(its:List Value) (n:Nat),Vals xs its/\s.heap.get? p=some {cls:= .type "list",data:= .seq its.toArray n}/\xs.length<=sizeLine:=by
 obtain⟨z,its,n,r,e⟩:=I.hok p _ h
 exact⟨its,n,r,e,z⟩
theorem Inv.lstUpd {pins:List (Addr×Obj)} {σ:St} {H:Hp} {s:Shared} {p:Addr} {xs ys:List V} {its its':List Value} {n n':Nat} {f:Obj->Obj} (I:Inv X pins σ H s) (h:H p=some (.lst xs))
  (ho:s.heap.get? p=some {cls:= .type "list",data:= .seq its.toArray n}) (hf:f {cls:= .type "list",data:= .seq its.toArray n}={cls:= .type "list",data:= .seq its'.toArray n'}) (r:Vals ys its') (hz:ys.length<=sizeLine) (t:Nat):
  Inv X pins σ (upd H p (.lst ys)) {s with heap:=s.heap.update p f,toks:=t}:=by
 have e:(s.heap.update p f).get? p=some {cls:= .type "list",data:= .seq its'.toArray n'}:=by
  rw[Heap.get?_update_self f ho (by rw[hf]<;>rfl),hf]
 refine I.write (x:=p) (e:=p) (by rw[h];trivial) (.inl rfl) (fun b u hb q=>(Heap.get?_update_other _ _ (Ne.symm hb)).trans q) ⟨_,e⟩ ?_
 exact⟨hz,its',n',r,e⟩
noncomputable def rSetL:V->V->V->Hp->(Hp->Prop)->Prop:=fun o i v H Q=>∃p xs k j,o= .ref p/\i= .int k/\H p=some (.lst xs)/\ixN xs.length k=some j/\Q (upd H p (.lst (xs.set j v)))
theorem set_list:PSet X rSetL:=by
 intro pins s σ H o i v ov iv u Q I ro ri rv h
 obtain⟨p,xs,k,j,rfl,rfl,hp,hj,q⟩:=h
 cases ro
 obtain⟨t,rfl⟩:=ri
 obtain⟨its,n,r,ho,hz⟩:=I.lst hp
 obtain⟨h1,h2,h3,h4⟩:=ixN_seq hj
 have hl:=r.length
 have hn:=line63
 have I':Inv X pins σ (upd H p (.lst (xs.set j v))) {s with heap:=s.heap.update p (Obj.mapSeq (·.setIfInBounds j u))}:=
  I.lstUpd hp ho (mapSeq_set its n j u) (r.set rv j) (by rw[List.length_set];exact hz) s.toks
 by_cases h0:0<=k
 ·have hk:k.toNat=j:=by
   rw[seqIndex_of h0 h4]at h1
   exact Option.some.inj h1
  exact PySem.W.ki_setAt ho h0 (by omega) (by rw[List.size_toArray,<-hl];exact h4) (by rw[hk];exact⟨_,I',q⟩)
 ·have hk:(k+(its.toArray.size:Int)).toNat=j:=by
   rw[seqIndex_neg (by omega) h3]at h1
   rw[List.size_toArray,<-hl]
   exact Option.some.inj h1
  exact PySem.W.ki_setBack ho (by omega) (by rw[List.size_toArray,<-hl];exact h3) (by omega) (by rw[hk];exact⟨_,I',q⟩)
theorem slice_bounds (lo hi:Option Int) (n:Nat):(sliceBounds lo hi none n).1=((HT.sIx n 0 lo:Nat):Int)/\(sliceBounds lo hi none n).2.1=((HT.sIx n n hi:Nat):Int)/\(sliceBounds lo hi none n).2.2=1:=by
 refine⟨?_,?_,rfl⟩
 ·cases lo with
  |none=>simp[sliceBounds,HT.sIx]
  |some i=>
   simp only[sliceBounds,HT.sIx,Option.getD_none,show (1:Int)>0 by decide,if_true]
   by_cases h:i<0
   ·simp only[h,if_true]<;>omega
   ·simp only[h,if_false]<;>omega
 ·cases hi with
  |none=>simp[sliceBounds,HT.sIx]
  |some i=>
   simp only[sliceBounds,HT.sIx,Option.getD_none,show (1:Int)>0 by decide,if_true]
   by_cases h:i<0
   ·simp only[h,if_true]<;>omega
   ·simp only[h,if_false]<;>omega
theorem slicePick_cut (its:List Value) (lo hi:Option Int):slicePick its.toArray lo hi none=((its.drop (HT.sIx its.length 0 lo)).take (HT.sIx its.length its.length hi - HT.sIx its.length 0 lo)).toArray:=by
 obtain⟨h1,h2,h3⟩:=slice_bounds lo hi its.toArray.size
 unfold slicePick
 rw[h1,h2,h3]
 simp only[sliceRange_one,pick_run,List.size_toArray]<;>rfl
noncomputable def rSlL (K:PySem.W.Frag):V->Option Int->Option Int->Hp->VK->Prop:=fun x lo hi H Q=>∃a xs,x= .ref a/\SqL K H a xs/\∀p,H p=none->Q (.ref p) (upd H p (.lst (cutV xs lo hi)))
theorem sl_list:SlR X (rSlL X.K):=by
 intro pins s σ H x v vl vu lo hi sl Q I rx hs pl pu h
 obtain⟨a,xs,rfl,hx,q⟩:=h
 cases rx
 obtain⟨its,r,ht,hz⟩:=I.list hx
 have hlen:=r.length
 refine⟨"list",_,slot_list_getitem.lookup,ht.isList.typeIs,?_⟩
 refine wpAny_getItem_list_slice ht.isList hs pl pu .none (by simp) ?_ (by rw[List.size_toArray]<;>omega)
 rw[slicePick_cut,<-hlen]
 refine⟨.ref s.heap.objs.size,_,I.laid (t':=s.toks) (o:= .lst (cutV xs lo hi)) (fun b ob q=>Heap.get?_push_of_some _ q) (Nat.le_refl _) ?_,rfl,q _ (I.hok.fresh (Nat.le_refl _))⟩
 exact⟨Nat.le_trans (cutV_length xs lo hi) hz,_,0,(r.drop (HT.sIx xs.length 0 lo)).take (HT.sIx xs.length xs.length hi - HT.sIx xs.length 0 lo),Heap.get?_push_size _ rfl⟩
noncomputable def flatV:V->Bool
 | .non=>true
 | .bl _=>true
 | .int _=>true
 | .str _=>true
 |_=>false
noncomputable def eqV:V->V->Bool
 | .non, .non=>true
 | .bl a, .bl b=>a==b
 | .bl a, .int b=>(if a then 1 else 0)==b
 | .int a, .bl b=>a==(if b then 1 else 0)
 | .int a, .int b=>a==b
 | .str a, .str b=>a==b
 |_,_=>false
theorem eqAt_V {A:Around} {s:Shared} {y x:V} {u v:Value} (ry:RelV y u) (rx:RelV x v) (fy:flatV y=true) (fx:flatV x=true):SeqAt.EqAt A s u v (eqV y x):=by
 cases y with
 |non=>
  cases ry
  cases x with
  |non=>cases rx;exact SeqAt.EqAt.same _
  |bl b=>cases rx;exact SeqAt.EqAt.none_bool b
  |int b=>obtain⟨t,rfl⟩:=rx;exact SeqAt.EqAt.none_int b t
  |str b=>obtain⟨t,rfl⟩:=rx;exact SeqAt.EqAt.none_str b t
  |_=>exact absurd (show false=true from fx) Bool.false_ne_true
 |bl a=>
  cases ry
  cases x with
  |non=>cases rx;exact SeqAt.EqAt.bool_none a
  |bl b=>cases rx;exact SeqAt.EqAt.bool_bool a b
  |int b=>obtain⟨t,rfl⟩:=rx;exact SeqAt.EqAt.bool_int a b t
  |str b=>obtain⟨t,rfl⟩:=rx;exact SeqAt.EqAt.bool_str a b t
  |_=>exact absurd (show false=true from fx) Bool.false_ne_true
 |int a=>
  obtain⟨t',rfl⟩:=ry
  cases x with
  |non=>cases rx;exact SeqAt.EqAt.int_none a t'
  |bl b=>cases rx;exact SeqAt.EqAt.int_bool a t' b
  |int b=>obtain⟨t,rfl⟩:=rx;exact SeqAt.EqAt.int_int a t' b t
  |str b=>obtain⟨t,rfl⟩:=rx;exact SeqAt.EqAt.int_str a t' b t
  |_=>exact absurd (show false=true from fx) Bool.false_ne_true
 |str a=>
  obtain⟨t',rfl⟩:=ry
  cases x with
  |non=>cases rx;exact SeqAt.EqAt.str_none a t'
  |bl b=>cases rx;exact SeqAt.EqAt.str_bool a t' b
  |int b=>obtain⟨t,rfl⟩:=rx;exact SeqAt.EqAt.str_int a t' b t
  |str b=>obtain⟨t,rfl⟩:=rx;exact SeqAt.EqAt.str_str a t' b t
  |_=>exact absurd (show false=true from fx) Bool.false_ne_true
 |_=>exact absurd (show false=true from fy) Bool.false_ne_true
noncomputable def eqU (x:V) (u:Value):Bool:=match u with
 | .none=>eqV .non x
 | .bool b=>eqV (.bl b) x
 | .int i _=>eqV (.int i) x
 | .str z _=>eqV (.str z) x
 |_=>false
theorem eqU_of {x y:V} {u:Value} (r:RelV y u) (f:flatV y=true):eqU x u=eqV y x:=by
 cases y with
 |non=>cases r;rfl
 |bl b=>cases r;rfl
 |int i=>obtain⟨t,rfl⟩:=r;rfl
 |str z=>obtain⟨t,rfl⟩:=r;rfl
 |_=>exact absurd (show false=true from f) Bool.false_ne_true
theorem any_eqU {x:V}:∀{xs:List V} {us:List Value},Vals xs us->xs.all flatV=true->us.any (eqU x)=xs.any fun y=>eqV y x
 |_,_, .nil,_=>rfl
 |y::xs,u::us, .cons r t,f=>by
  rw[List.all_cons,Bool.and_eq_true]at f
  rw[List.any_cons,List.any_cons,eqU_of r f.1,any_eqU t f.2]
theorem mem_eqAt {A:Around} {s:Shared} {x:V} {v:Value} (rx:RelV x v) (fx:flatV x=true):∀{xs:List V} {us:List Value},Vals xs us->xs.all flatV=true->∀u∈us,SeqAt.EqAt A s u v (eqU x u)
 |_,_, .nil,_=>fun u hu=>by cases hu
 |y::xs,u::us, .cons r t,f=>fun u' hu=>by
  rw[List.all_cons,Bool.and_eq_true]at f
  rcases List.mem_cons.mp hu with rfl|hu
  ·rw[eqU_of r f.1];exact eqAt_V r rx f.1 fx
  ·exact mem_eqAt rx fx t f.2 u' hu
noncomputable def inV (x:V) (xs:List V):Bool:=xs.any fun y=>eqV y x
noncomputable def rIn (K:PySem.W.Frag) (neg:Bool):R2:=fun x y H Q=>∃p xs,y= .ref p/\(SqL K H p xs\/SqT K H p xs)/\flatV x=true/\xs.all flatV=true/\Q (.bl (if neg then !inV x xs else inV x xs)) H
theorem op_in_seq:OpR X (compareOp .In) (rIn X.K false):=by
 intro pins s σ H x y v u Q I rx ry h
 obtain⟨p,xs,rfl,hq,fx,fs,q⟩:=h
 cases ry
 rcases hq with hq|hq
 ·obtain⟨its,r,pl,hz⟩:=I.list hq
  refine SeqAt.in_listAt (eqU x) pl.isList (fun w hw=>mem_eqAt rx fx r fs w (by simpa using hw)) ⟨.bl _,H,I,rfl,?_⟩
  rw[show its.toArray.any (eqU x)=its.any (eqU x) by simp,any_eqU r fs]
  exact q
 ·obtain⟨its,r,pl,hz⟩:=I.tuple hq
  refine SeqAt.in_tupleAt (eqU x) pl (fun w hw=>mem_eqAt rx fx r fs w (by simpa using hw)) ⟨.bl _,H,I,rfl,?_⟩
  rw[show its.toArray.any (eqU x)=its.any (eqU x) by simp,any_eqU r fs]
  exact q
theorem op_notIn_seq:OpR X (compareOp .NotIn) (rIn X.K true):=by
 intro pins s σ H x y v u Q I rx ry h
 obtain⟨p,xs,rfl,hq,fx,fs,q⟩:=h
 cases ry
 rcases hq with hq|hq
 ·obtain⟨its,r,pl,hz⟩:=I.list hq
  refine SeqAt.notIn_listAt (eqU x) pl.isList (fun w hw=>mem_eqAt rx fx r fs w (by simpa using hw)) ⟨.bl _,H,I,rfl,?_⟩
  rw[show its.toArray.any (eqU x)=its.any (eqU x) by simp,any_eqU r fs]
  exact q
 ·obtain⟨its,r,pl,hz⟩:=I.tuple hq
  refine SeqAt.notIn_tupleAt (eqU x) pl (fun w hw=>mem_eqAt rx fx r fs w (by simpa using hw)) ⟨.bl _,H,I,rfl,?_⟩
  rw[show its.toArray.any (eqU x)=its.any (eqU x) by simp,any_eqU r fs]
  exact q
theorem call_len_seq:CallR X (.builtin "len") (fun xs H Q=>∃p ys,xs=[.ref p]/\(SqL X.K H p ys\/SqT X.K H p ys)/\Q (.int ys.length) H):=by
 intro pins s σ H xs us Q I r h
 obtain⟨p,ys,rfl,hq,q⟩:=h
 obtain⟨u,rfl,rx⟩:=vals1 r
 cases rx
 have hn:=line63
 rcases hq with hq|hq
 ·obtain⟨its,r',pl,hz⟩:=I.list hq
  have hlen:=r'.length
  exact Calls.call_len_list pl.isList (by simp only[List.size_toArray]<;>omega) ⟨.int ys.length,H,I.tok _,⟨s.toks+1,by rw[List.size_toArray,hlen]⟩,q⟩
 ·obtain⟨its,r',pl,hz⟩:=I.tuple hq
  have hlen:=r'.length
  exact len_tuple pl (by simp only[List.size_toArray]<;>omega) ⟨.int ys.length,H,I.tok _,⟨s.toks+1,by rw[List.size_toArray,hlen]⟩,q⟩
theorem CallR.or {f:Value} {r r':List V->Hp->VK->Prop} (h:CallR X f r) (h':CallR X f r'):CallR X f (fun xs H Q=>r xs H Q\/r' xs H Q):=by
 intro pins s σ H xs us Q I rs q
 rcases q with q|q
 ·exact h pins s σ H xs us Q I rs q
 ·exact h' pins s σ H xs us Q I rs q
theorem call_list_of:CallR X (.type "list") (fun xs H Q=>∃p ys,xs=[.ref p]/\(SqL X.K H p ys\/SqT X.K H p ys)/\∀l,H l=none->Q (.ref l) (upd H l (.lst ys))):=by
 intro pins s σ H xs us Q I r h
 obtain⟨p,ys,rfl,hq,q⟩:=h
 obtain⟨u,rfl,rx⟩:=vals1 r
 cases rx
 have fin:∀(its:List Value),Vals ys its->ys.length<=sizeLine->∀(h':Heap) (c':Nat),(∀b o',s.heap.get? b=some o'->h'.get? b=some o')->
   h'.get? s.heap.objs.size=some {cls:= .type "list",dict:=none,data:= .seq its.toArray c',slots:= #[]}->EP X pins σ Q (.ref s.heap.objs.size) {s with heap:=h'}:=fun its r' hz h' c' kp e=>
  ⟨.ref s.heap.objs.size,_,I.laid (t':=s.toks) kp (Nat.le_refl _) (show ObjOk X.prog X.w _ h' _ (.lst ys)from ⟨hz,its,c',r',e⟩),rfl,q _ (I.hok.fresh (Nat.le_refl _))⟩
 rcases hq with hq|hq
 ·obtain⟨its,r',pl,hz⟩:=I.list hq
  have hlen:=r'.length
  obtain⟨o,ho,hc,n,hd⟩:=pl.isList
  exact call_list_seq p (.inl rfl) ho hc hd (fun h' c' kp e=>fin its r' hz h' c' kp e) (by simp only[List.size_toArray]<;>omega)
 ·obtain⟨its,r',pl,hz⟩:=I.tuple hq
  have hlen:=r'.length
  obtain⟨o,ho,hc,n,hd⟩:=pl
  exact call_list_seq p (.inr rfl) ho hc hd (fun h' c' kp e=>fin its r' hz h' c' kp e) (by simp only[List.size_toArray]<;>omega)
theorem call_tuple_of:CallR X (.type "tuple") (fun xs H Q=>∃p ys,xs=[.ref p]/\((SqL X.K H p ys/\∀l,H l=none->Q (.ref l) (upd H l (.tup ys)))\/(SqT X.K H p ys/\Q (.ref p) H))):=by
 intro pins s σ H xs us Q I r h
 obtain⟨p,ys,rfl,h⟩:=h
 obtain⟨u,rfl,rx⟩:=vals1 r
 cases rx
 rcases h with ⟨hq,q⟩|⟨hq,q⟩
 ·obtain⟨its,r',pl,hz⟩:=I.list hq
  have hlen:=r'.length
  refine call_tuple_list pl.isList (fun h' kp=> ?_) (by simp only[List.size_toArray]<;>omega)
  have I1:Inv X pins σ H {s with heap:=h'}:=I.kept (t':=s.toks) kp
  have I2:Inv X pins σ (upd H h'.objs.size (.tup ys)) {s with heap:=h'.push {cls:= .type "tuple",data:= .seq its.toArray}}:=
   I1.laid (t':=s.toks) (fun b o e=>Heap.get?_push_of_some _ e) (Nat.le_refl _) (show ObjOk X.prog X.w _ _ _ (.tup ys)from ⟨hz,its,r',IsTupD.new _ _⟩)
  exact⟨.ref h'.objs.size,_,I2,rfl,q _ (I1.hok.fresh (Nat.le_refl _))⟩
 ·obtain⟨its,r',pl,hz⟩:=I.tuple hq
  exact call_tuple_same pl ⟨.ref p,H,I,rfl,q⟩
noncomputable def tyV (K:PySem.W.Frag) (T:String) (x:V) (H:Hp):Prop:=match x with
 | .str _=>T="str"
 | .int _=>T="int"
 | .ref p=>(T="list"/\∃xs,SqL K H p xs)\/(T="tuple"/\∃o,K.lookup p=some o/\o.cls= .type "tuple"/\o.dict=none)\/
   (T="dict"/\((∃kvs,H p=some (.dK kvs))\/∃kvs,H p=some (.dT kvs)))\/(T="set"/\∃S n,H p=some (.set S n))
 |_=>False
theorem tyV_is {pins:List (Addr×Obj)} {σ:St} {H:Hp} {s:Shared} {T:String} {x:V} {v:Value} (I:Inv X pins σ H s) (r:RelV x v) (ty:tyV X.K T x H):
  s.TypeIs v T/\∀a,v= .ref a->∃ob,s.heap.get? a=some ob/\ob.dict=none:=by
 cases x with
 |str z=>
  obtain⟨t,rfl⟩:=r
  cases (show T="str" from ty)
  exact⟨typeIs_str s z t,fun _ e=>nomatch e⟩
 |int i=>
  obtain⟨t,rfl⟩:=r
  cases (show T="int" from ty)
  exact⟨typeIs_int s i t,fun _ e=>nomatch e⟩
 |ref p=>
  cases r
  rcases ty with ⟨rfl,xs,hq⟩|⟨rfl,o,hk,hc,hd⟩|⟨rfl,hk⟩|⟨rfl,S,n,hk⟩
  ·obtain⟨its,_,pl,_⟩:=I.list hq
   refine⟨pl.isList.typeIs,fun a e=> ?_⟩
   cases e
   obtain⟨o,n,e,c,hd,_⟩:=pl
   exact⟨o,e,hd⟩
  ·refine⟨⟨o,I.kIn p o hk,hc⟩,fun a e=> ?_⟩
   cases e
   exact⟨o,I.kIn _ o hk,hd⟩
  ·have z:∃o,s.heap.get? p=some o/\o.ExactDict:=by
    rcases hk with ⟨kvs,hk⟩|⟨kvs,hk⟩
    ·obtain⟨_,_,_,_,o,_,_,e,ex,_⟩:=I.hok p _ hk
     exact⟨o,e,ex⟩
    ·obtain⟨_,_,_,_,o,_,_,e,ex,_⟩:=I.hok p _ hk
     exact⟨o,e,ex⟩
   obtain⟨o,e,ex⟩:=z
   refine⟨⟨o,e,ex.1⟩,fun a e2=> ?_⟩
   cases e2
   exact⟨o,e,ex.2.1⟩
  ·obtain⟨o,_,_,_,e,ex,_⟩:=I.hok p _ hk
   refine⟨⟨o,e,ex.1⟩,fun a e2=> ?_⟩
   cases e2
   exact⟨o,e,ex.2.1⟩
 |_=>exact False.elim ty
noncomputable def tBM (K:PySem.W.Frag) (T:String) (r:V->List V->Hp->VK->Prop) (to:TE) (t:TA):TE:=fun σ H Q=>to σ H fun x H1=>tyV K T x H1/\t σ H1 fun xs H2=>r x xs H2 Q
variable {o e:Expr} {es:List Expr} {to:TE} {t:TA} {name:Str} {apos cpos:Pos} {T id:String} {r:V->List V->Hp->VK->Prop}
theorem pe_bm (pa:PlainAttrs T) (slot:Slot T name id) (hty:typeOf (.builtin id)=pure (.type "method_descriptor")) (hm:MtR X id r) (ho:PE X o to) (ha:PA X (e::es) t)
  (hbase:attributeBase o name X.env (eval o X.env)=eval o X.env:=by rfl)
  (hfew:((backTo cpos (starEach (e::es) X.env)).all (fun x=> !x.1)&&(backToKw cpos (keywordEach [] X.env)).all (fun x=>x.1.isSome)
   &&decide ((e::es).length+([]:List Keyword).length+(if ([]:List Keyword).isEmpty then 0 else 1)<30))=true:=by rfl)
  (hline:(apos.endLine==cpos.line)=true:=by rfl) (hs:starEach (e::es) X.env=(false,eval e X.env)::starEach es X.env:=by rfl) (hplain:(backTo cpos (starEach es X.env)).any (·.1)=false:=by rfl):
  PE X (.Call (.Attribute o name apos) (e::es) [] cpos) (tBM X.K T r to t):=by
 intro pins s σ H Q I h
 refine wpAny_Call_method_late hbase hfew hline rfl (thn (ho pins s σ H _ I h) fun v s1 z_=> ?_)
 obtain⟨x,H1,I1,r1,ty,q1⟩:=z_
 obtain⟨h1,h2⟩:=tyV_is I1 r1 ty
 refine⟨T,id,pa,slot,hty,h1,h2,?_⟩
 have hA:=ha cpos pins s1 σ H1 _ I1 q1
 rw[hs]at hA ⊢
 refine Calls.callWith_builtin (by show (false||(backTo cpos (starEach es X.env)).any (·.1))=false;rw[hplain]<;>rfl) (Calls.evalArgs_plain ?_)
 exact thn hA fun us s2 ⟨vs,H2,I2,r2,q2⟩=>hm pins s2 σ H2 x vs v us Q I2 r1 r2 q2
end
end L2
namespace L2
open PySem PySem.Spec PyProof.Rows
noncomputable def MtM (X:Cx) (id:String) (r:V->List V->Hp->VK->Prop):Prop:=
 ∀(pins:List (Addr×Obj)) (s:Shared) (σ:St) (H:Hp) (x:V) (xs:List V) (v:Value) (us:List Value) (Q:VK),Inv X pins σ H s->RelV x v->Vals xs us->r x xs H Q->
  wpAny (model X.prog X.w) X.A (call (.builtin id) (v::us)) (EP X pins σ Q) X.xe s
theorem Vals.one:∀{x:V} {us:List Value},Vals [x] us->∃u,us=[u]/\RelV x u:=fun h=>by
 cases h with
 |cons r t=>cases t;exact⟨_,rfl,r⟩
theorem Vals.two:∀{x y:V} {us:List Value},Vals [x,y] us->∃u v,us=[u,v]/\RelV x u/\RelV y v:=fun h=>by
 cases h with
 |cons r t=>
  obtain⟨v,e,q⟩:=Vals.one t
  exact⟨_,v,by rw[e],r,q⟩
theorem Vals.zero:∀{us:List Value},Vals [] us->us=[]
 |_, .nil=>rfl
theorem Vals.eraseIdx:∀{xs:List V} {us:List Value} (i:Nat),Vals xs us->Vals (xs.eraseIdx i) (us.eraseIdx i)
 |_,_,_, .nil=> .nil
 |_,_,0, .cons _ t=>t
 |_,_,i+1, .cons r t=> .cons r (Vals.eraseIdx i t)
theorem Vals.reverse {xs:List V} {us:List Value} (h:Vals xs us):Vals xs.reverse us.reverse:=by
 induction h with
 |nil=>exact .nil
 |cons r t ih=>rw[List.reverse_cons,List.reverse_cons];exact Vals.append ih (.cons r .nil)
theorem Vals.rep {xs:List V} {us:List Value} (h:Vals xs us):∀k:Nat,Vals (List.replicate k xs).flatten (List.replicate k us).flatten
 |0=> .nil
 |k+1=>by
  rw[List.replicate_succ,List.replicate_succ,List.flatten_cons,List.flatten_cons]
  exact Vals.append h (Vals.rep h k)
theorem len_erase {α:Type}:∀(l:List α) (i:Nat),(l.eraseIdx i).length<=l.length
 |[],_=>Nat.le_refl _
 |_::_,0=>Nat.le_succ _
 |_::r,i+1=>Nat.succ_le_succ (len_erase r i)
theorem foldl_rep (its:List Value):∀(k:Nat) (acc:List Value),
  List.foldl (fun x1 x2=>x1++x2) acc.toArray (List.replicate k its.toArray)=(acc++(List.replicate k its).flatten).toArray
 |0,acc=>by simp
 |k+1,acc=>by
  have e:acc.toArray++its.toArray=(acc++its).toArray:=by simp
  have e2:(acc++its)++(List.replicate k its).flatten=acc++(List.replicate (k+1) its).flatten:=by
   rw[List.replicate_succ,List.flatten_cons,List.append_assoc]
  rw[<-e2,<-foldl_rep its k (acc++its),<-e,List.replicate_succ,List.foldl_cons]
section
variable {X:Cx} {pins:List (Addr×Obj)} {σ:St} {H:Hp} {s:Shared} {l b:Addr} {xs ys zs:List V}
theorem Inv.lset {its its':List Value} {n:Nat} {f:Array Value->Array Value} {t':Nat} (I:Inv X pins σ H s) (hH:H l=some (.lst xs))
  (e:s.heap.get? l=some {cls:= .type "list",data:= .seq its.toArray n}) (hf:f its.toArray=its'.toArray) (hv:Vals ys its') (hz:ys.length<=sizeLine):
  Inv X pins σ (upd H l (.lst ys)) {s with heap:=s.heap.update l (Obj.mapSeq f),toks:=t'}:=by
 have q:=PySem.IsL.update e f
 rw[hf]at q
 refine I.write (x:=l) (e:=l) (by rw[hH];exact trivial) (.inl rfl) (fun b' u hb hu=>(Heap.get?_update_other s.heap (Obj.mapSeq f) (Ne.symm hb)).trans hu) ⟨_,q⟩ ?_
 exact⟨hz,its',_,hv,q⟩
theorem Inv.lnew {its:List Value} {t':Nat} (I:Inv X pins σ H s) (hv:Vals ys its) (hz:ys.length<=sizeLine):
  Inv X pins σ (upd H s.heap.objs.size (.lst ys)) {s with heap:=s.heap.push {cls:= .type "list",data:= .seq its.toArray},toks:=t'}:=
 I.laid (fun _ _ q=>Heap.get?_push_of_some _ q) (Nat.le_refl _) ⟨hz,its,0,hv,Heap.get?_push_size _ rfl⟩
theorem Inv.fresh (I:Inv X pins σ H s):H s.heap.objs.size=none:=I.hok.fresh (Nat.le_refl _)
theorem Inv.lstM (I:Inv X pins σ H s) (hH:H l=some (.lst xs)):xs.length<=sizeLine/\∃(its:List Value) (n:Nat),Vals xs its/\xs.length=its.length/\s.heap.get? l=some {cls:= .type "list",data:= .seq its.toArray n}:=by
 obtain⟨z,its,n,r,e⟩:=I.hok l _ hH
 exact⟨z,its,n,r,r.length,e⟩
theorem notLongL {n:Nat} (h:n<=sizeLine):Builtin.List.listTooLong n=false:=by
 unfold Builtin.List.listTooLong
 exact decide_eq_false (by omega)
end
section
variable {X:Cx}
noncomputable def rAppend:V->List V->Hp->VK->Prop:=fun x vs H Q=>∃l xs y,x= .ref l/\vs=[y]/\H l=some (.lst xs)/\xs.length<sizeLine/\Q .non (upd H l (.lst (xs++[y])))
theorem mt_append:MtM X "list.append" rAppend:=by
 intro pins s σ H x vs v us Q I rx rv h
 obtain⟨l,xs,y,rfl,rfl,hH,hz,q⟩:=h
 cases rx
 obtain⟨u,rfl,ru⟩:=rv.one
 obtain⟨z,its,n,r,hl,e⟩:=I.lstM hH
 refine call_meets F.slot_list_append ⟨_,e,rfl⟩ F.entry_list_append (F.args_list_append_2 _ _) (PySem.list_append l its.toArray n u (by rw[List.size_toArray];omega)) ⟨e,?_⟩
 refine⟨.non,_,I.lset (its':=its++[u]) hH e (by simp) (r.append (.cons ru .nil)) ?_,rfl,q⟩
 rw[List.length_append,List.length_singleton]
 omega
noncomputable def rExtend:V->List V->Hp->VK->Prop:=fun x vs H Q=>∃l b xs zs,x= .ref l/\vs=[.ref b]/\H l=some (.lst xs)/\H b=some (.lst zs)/\xs.length+zs.length<=sizeLine/\Q .non (upd H l (.lst (xs++zs)))
theorem mt_extend:MtM X "list.extend" rExtend:=by
 intro pins s σ H x vs v us Q I rx rv h
 obtain⟨l,b,xs,zs,rfl,rfl,hH,hB,hz,q⟩:=h
 cases rx
 obtain⟨u,rfl,ru⟩:=rv.one
 cases ru
 obtain⟨z,its,n,r,hl,e⟩:=I.lstM hH
 obtain⟨z2,its2,n2,r2,hl2,e2⟩:=I.lstM hB
 have hsz:its.toArray.size+its2.toArray.size<=sizeLine:=by rw[List.size_toArray,List.size_toArray];omega
 have hlong:¬(!its.toArray.isEmpty&&Builtin.List.listTooLong (its.toArray.size+its2.toArray.size))=true:=by
  rw[notLongL hsz,Bool.and_false]
  exact Bool.false_ne_true
 refine call_meets F.slot_list_extend ⟨_,e,rfl⟩ F.entry_list_extend (F.args_list_extend_2 _ _)
  (AutoSeq1.list_extend_list_list_0 l its.toArray n b its2.toArray n2 hlong (by rw[List.size_toArray];omega) (by omega)) ⟨e,e2,?_⟩
 refine⟨.non,_,I.lset (its':=its++its2) hH e (by simp) (r.append r2) ?_,rfl,q⟩
 rw[List.length_append]
 omega
noncomputable def rPopAt:V->List V->Hp->VK->Prop:=fun x vs H Q=>∃l xs i k y,x= .ref l/\vs=[.int i]/\H l=some (.lst xs)/\ -(2 ^63)<=i/\i<2 ^63/\seqIndex? i xs.length=some k/\xs[k]? =some y/\Q y (upd H l (.lst (xs.eraseIdx k)))
theorem mt_popAt:MtM X "list.pop" rPopAt:=by
 intro pins s σ H x vs v us Q I rx rv h
 obtain⟨l,xs,i,k,y,rfl,rfl,hH,h1,h2,hk,hy,q⟩:=h
 cases rx
 obtain⟨u,rfl,ru⟩:=rv.one
 obtain⟨t,rfl⟩:=ru
 obtain⟨z,its,n,r,hl,e⟩:=I.lstM hH
 obtain⟨w,hw,rw'⟩:=r.get hy
 refine call_meets F.slot_list_pop ⟨_,e,rfl⟩ F.entry_list_pop (F.args_list_pop_2 _ _)
  (MeetsSeq.list_pop_at l its.toArray n i t k w (fitsIndex_both h1 h2) (by rw[List.size_toArray,<-hl];exact hk) (by rw[<-Array.getElem?_toList];exact hw) (by rw[List.size_toArray];omega)) ⟨e,?_⟩
 refine⟨y,_,I.lset (its':=its.eraseIdx k) hH e ?_ (r.eraseIdx k) ?_,rw',q⟩
 ·show its.toArray.eraseIdxIfInBounds k=(its.eraseIdx k).toArray
  rw[List.eraseIdxIfInBounds_toArray]
 ·have:=len_erase xs k
  omega
noncomputable def rCat:R2:=fun x y H Q=>∃l b xs zs,x= .ref l/\y= .ref b/\H l=some (.lst xs)/\H b=some (.lst zs)/\xs.length+zs.length<=sizeLine/\∀p,H p=none->Q (.ref p) (upd H p (.lst (xs++zs)))
theorem op_cat:OpR X (binaryOp .Add) rCat:=by
 intro pins s σ H x y v u Q I rx ry h
 obtain⟨l,b,xs,zs,rfl,rfl,hH,hB,hz,q⟩:=h
 cases rx
 cases ry
 obtain⟨z,its,n,r,hl,e⟩:=I.lstM hH
 obtain⟨z2,its2,n2,r2,hl2,e2⟩:=I.lstM hB
 refine PySem.P.add_list e e2 ?_ (by rw[List.size_toArray,List.size_toArray];omega)
 have ea:its.toArray++its2.toArray=(its++its2).toArray:=by simp
 rw[ea]
 exact⟨.ref _,_,I.lnew (t':=s.toks) (r.append r2) (by rw[List.length_append];omega),rfl,q _ I.fresh⟩
noncomputable def rRep:R2:=fun x y H Q=>∃l k xs,x= .ref l/\y= .int k/\H l=some (.lst xs)/\ -(2 ^63)<=k/\k<2 ^63/\xs.length*k.toNat<=sizeLine/\
 ∀p,H p=none->Q (.ref p) (upd H p (.lst (List.replicate k.toNat xs).flatten))
theorem len_rep {α:Type} (xs:List α) (k:Nat):(List.replicate k xs).flatten.length=k*xs.length:=by
 induction k with
 |zero=>simp
 |succ k ih=>rw[List.replicate_succ,List.flatten_cons,List.length_append,ih,Nat.succ_mul,Nat.add_comm]
theorem op_rep:OpR X (binaryOp .Mult) rRep:=by
 intro pins s σ H x y v u Q I rx ry h
 obtain⟨l,k,xs,rfl,rfl,hH,h1,h2,hz,q⟩:=h
 cases rx
 obtain⟨t,rfl⟩:=ry
 obtain⟨z,its,n,r,hl,e⟩:=I.lstM hH
 have hlen:its.toArray.size*k.toNat<=sizeLine:=by rw[List.size_toArray,<-hl];exact hz
 have hcap:¬its.toArray.size*k.toNat>(2 ^63 - 1) / 8:=by
  have:(sizeLine:Nat)<=(2 ^63 - 1) / 8:=by decide
  omega
 have hfit:¬(!Builtin.List.listFitsIndex k)=true:=by
  rw[fitsIndex_both h1 h2]
  exact Bool.false_ne_true
 have hlong:¬Builtin.List.listTooLong (its.toArray.size*k.toNat)=true:=by
  rw[notLongL hlen]
  exact Bool.false_ne_true
 have hnew:List.foldl (fun x1 x2=>x1++x2) #[] (List.replicate (if its.toArray.isEmpty=true then 0 else k.toNat) its.toArray)=(List.replicate k.toNat its).flatten.toArray:=by
  have f0:∀m:Nat,List.foldl (fun x1 x2=>x1++x2) #[] (List.replicate m its.toArray)=(List.replicate m its).flatten.toArray:=fun m=>by
   have:=foldl_rep its m []
   rw[List.nil_append]at this
   exact this
  rw[f0]
  cases its with
  |nil=>simp
  |cons a r'=>rw[if_neg (by simp)]
 refine wpAny_binaryOp_repeat_ref (T:="list") (U:="int") (by decide) ⟨_,e,rfl⟩ (fun s'=>typeIs_int s' k t) noFill_list_mul F.fills_int_mul F.slot_int_rmul repeat_list F.slot_int_index.lookup
  (call_meets F.slot_int_rmul (typeIs_int s k t) F.entry_int_rmul (F.args_int_rmul_2 _ _) (int___rmul___int_list k t l its.toArray n)
   ⟨e,rfl,⟨_,e,rfl⟩,call_meets F.slot_list_mul ⟨_,e,rfl⟩ F.entry_list_mul (F.args_list_mul_2 _ _) (AutoListH.list___mul___list_int_3 l its.toArray n k t hfit hcap hlong) ⟨e,?_⟩⟩)
 rw[hnew]
 exact⟨.ref _,_,I.lnew (t':=s.toks) (r.rep k.toNat) (by rw[len_rep,Nat.mul_comm];exact hz),rfl,q _ I.fresh⟩
end
section
variable {prog:Program} {w:World} {A:Around} {E:Value->Shared->Prop} {s:Shared}
end
section
variable {X:Cx}
end
end L2
namespace L2
open PySem PySem.Spec PyProof.Rows
section
variable {κ:Type} [DecidableEq κ]
noncomputable def valV (kvs:List (κ×V)) (k:κ):Option V:=(kvs.find? fun kv=>decide (kv.1=k)).map (·.2)
noncomputable def putK (kvs:List (κ×V)) (k:κ) (v:V):List (κ×V):=
 if (kvs.any fun kv=>decide (kv.1=k))=true then kvs.map (fun kv=>if kv.1=k then (kv.1,v)else kv)else kvs++[(k,v)]
noncomputable def dropK (kvs:List (κ×V)) (k:κ):List (κ×V):=kvs.filter fun kv=>decide (kv.1≠k)
theorem valV_pos {p:κ×V} {r:List (κ×V)} {k:κ} (e:p.1=k):valV (p::r) k=some p.2:=by simp[valV,List.find?_cons,e]
theorem valV_neg {p:κ×V} {r:List (κ×V)} {k:κ} (e:¬p.1=k):valV (p::r) k=valV r k:=by simp[valV,List.find?_cons,e]
theorem valV_any (k:κ):∀kvs:List (κ×V),(kvs.any fun kv=>decide (kv.1=k))=(valV kvs k).isSome
 |[]=>rfl
 |p::r=>by
  rw[List.any_cons]
  by_cases e:p.1=k
  ·simp only[valV_pos e,decide_eq_true e,Bool.true_or,Option.isSome_some]
  ·rw[valV_neg e,decide_eq_false e,Bool.false_or];exact valV_any k r
theorem length_putK (kvs:List (κ×V)) (k:κ) (v:V):(putK kvs k v).length<=kvs.length+1:=by
 unfold putK
 split
 ·rw[List.length_map];omega
 ·rw[List.length_append,List.length_cons,List.length_nil];omega
theorem RelO.isSome_eq {o:Option V} {u:Option Value} (r:RelO o u):o.isSome=u.isSome:=by
 cases o with
 |none=>cases u with
  |none=>rfl
  |some _=>exact(show False from r).elim
 |some _=>cases u with
  |none=>exact(show False from r).elim
  |some _=>rfl
theorem RelO.getD {o:Option V} {u:Option Value} {d:V} {d':Value} (r:RelO o u) (rd:RelV d d'):RelV (o.getD d) (u.getD d'):=by
 cases o with
 |none=>cases u with
  |none=>exact rd
  |some _=>exact(show False from r).elim
 |some _=>cases u with
  |none=>exact(show False from r).elim
  |some _=>exact r
theorem KV.val {kvs:List (κ×V)} {vs:List (κ×Value)} (r:KV kvs vs) (k:κ):RelO (valV kvs k) (valueAt vs k):=by
 unfold KV at r
 induction r with
 |nil=>exact True.intro
 | @cons p q ps qs h t ih=>
  obtain⟨h1,h2⟩:=h
  by_cases e:p.1=k
  ·have e':q.1=k:=h1.symm.trans e
   have b:valueAt (q::qs) k=some q.2:=by simp[valueAt,List.find?_cons,e']
   rw[valV_pos e,b];exact h2
  ·have e':¬q.1=k:=fun z=>e (h1.trans z)
   have b:valueAt (q::qs) k=valueAt qs k:=by simp[valueAt,List.find?_cons,e']
   rw[valV_neg e,b];exact ih
theorem KV.any {kvs:List (κ×V)} {vs:List (κ×Value)} (r:KV kvs vs) (k:κ):(kvs.any fun kv=>decide (kv.1=k))=vs.any fun kv=>decide (kv.1=k):=by
 unfold KV at r
 induction r with
 |nil=>rfl
 |cons h t ih=>rw[List.any_cons,List.any_cons,ih,h.1]
theorem KV.repl {kvs:List (κ×V)} {vs:List (κ×Value)} (r:KV kvs vs) (k:κ) {y:V} {u:Value} (ry:RelV y u):
  KV (kvs.map fun kv=>if kv.1=k then (kv.1,y)else kv) (vs.map fun kv=>if kv.1=k then (kv.1,u)else kv):=by
 unfold KV at r ⊢
 induction r with
 |nil=>exact .nil
 | @cons p q ps qs h t ih=>
  rw[List.map_cons,List.map_cons]
  refine .cons ?_ ih
  obtain⟨h1,h2⟩:=h
  by_cases e:p.1=k
  ·rw[if_pos e,if_pos (h1.symm.trans e)];exact⟨h1,ry⟩
  ·rw[if_neg e,if_neg (fun z=>e (h1.trans z))];exact⟨h1,h2⟩
theorem KV.put {kvs:List (κ×V)} {vs:List (κ×Value)} (r:KV kvs vs) (k:κ) {y:V} {u:Value} (ry:RelV y u):KV (putK kvs k y) (stored vs k u):=by
 unfold putK stored
 rw[r.any k]
 by_cases e:(vs.any fun kv=>decide (kv.1=k))=true
 ·rw[if_pos e,if_pos e];exact r.repl k ry
 ·rw[if_neg e,if_neg e];exact Paired.snoc r ⟨rfl,ry⟩
theorem KV.drop {kvs:List (κ×V)} {vs:List (κ×Value)} (r:KV kvs vs) (k:κ):KV (dropK kvs k) (without vs k):=by
 unfold KV at r ⊢
 unfold dropK without
 induction r with
 |nil=>exact .nil
 | @cons p q ps qs h t ih=>
  obtain⟨h1,h2⟩:=h
  rw[List.filter_cons,List.filter_cons]
  by_cases e:p.1=k
  ·have a:¬decide (p.1≠k)=true:=by simp[e]
   have b:¬decide (q.1≠k)=true:=by simp[h1.symm.trans e]
   rw[if_neg a,if_neg b];exact ih
  ·have e':¬q.1=k:=fun z=>e (h1.trans z)
   have a:decide (p.1≠k)=true:=by simp[e]
   have b:decide (q.1≠k)=true:=by simp[e']
   rw[if_pos a,if_pos b];exact .cons ⟨h1,h2⟩ ih
theorem KV.keys {kvs:List (κ×V)} {vs:List (κ×Value)} (r:KV kvs vs):kvs.map (·.1)=vs.map (·.1):=by
 unfold KV at r
 induction r with
 |nil=>rfl
 |cons h t ih=>rw[List.map_cons,List.map_cons,ih,h.1]
theorem KV.length {kvs:List (κ×V)} {vs:List (κ×Value)} (r:KV kvs vs):kvs.length=vs.length:=Paired.length r
end
theorem kV_is {P:Program} {w:World} {k:Key} {u:Value} (r:RelV (kV k) u):(mixKind P w).is k u=true:=by
 cases k with
 |inl i=>obtain⟨t,e⟩:=(show ∃t,u=Value.int i t from r);subst e;exact mixKind_int P w i t
 |inr x=>obtain⟨t,e⟩:=(show ∃t,u=Value.str x t from r);subst e;exact mixKind_str P w x t
theorem items_are {P:Program} {w:World}:∀{ks:List Key} {us:List Value},Vals (ks.map kV) us->ItemsAre (mixKind P w) ks us
 |[],_,r=>by rw[List.map_nil]at r;cases r;exact .nil
 |k::ks,_,r=>by
  rw[List.map_cons]at r
  cases r with
  |cons h t=>exact .cons (kV_is h) (items_are t)
noncomputable abbrev KT (H:Hp):List (List Key×V)->List (List Key×Addr×Value)->Prop:=Paired fun p q=>p.1=q.1/\H q.2.1=some (.tup (p.1.map kV))/\RelV p.2 q.2.2
theorem KT.val {H:Hp} {kvs:List (List Key×V)} {xs:List (List Key×Addr×Value)} (r:KT H kvs xs) (k:List Key):RelO (valV kvs k) ((atKey xs k).map (·.2)):=by
 induction r with
 |nil=>exact True.intro
 | @cons p q ps qs h t ih=>
  obtain⟨h1,_,h2⟩:=h
  by_cases e:p.1=k
  ·have e':q.1=k:=h1.symm.trans e
   have b:atKey (q::qs) k=some q.2:=by simp[atKey,List.find?_cons,e']
   rw[valV_pos e,b];exact h2
  ·have e':¬q.1=k:=fun z=>e (h1.trans z)
   have b:atKey (q::qs) k=atKey qs k:=by simp[atKey,List.find?_cons,e']
   rw[valV_neg e,b];exact ih
theorem KT.repl {H:Hp} {kvs:List (List Key×V)} {xs:List (List Key×Addr×Value)} (r:KT H kvs xs) (k:List Key) {y:V} {u:Value} (ry:RelV y u):
  KT H (kvs.map fun kv=>if kv.1=k then (kv.1,y)else kv) (xs.map (putAt k u)):=by
 induction r with
 |nil=>exact .nil
 | @cons p q ps qs h t ih=>
  rw[List.map_cons,List.map_cons]
  refine .cons ?_ ih
  obtain⟨h1,h2,h3⟩:=h
  unfold putAt
  by_cases e:p.1=k
  ·rw[if_pos e,if_pos (h1.symm.trans e)];exact⟨h1,h2,ry⟩
  ·rw[if_neg e,if_neg (fun z=>e (h1.trans z))];exact⟨h1,h2,h3⟩
theorem KT.put {H:Hp} {kvs:List (List Key×V)} {xs:List (List Key×Addr×Value)} (r:KT H kvs xs) (k:List Key) {b:Addr} {y:V} {u:Value} (hb:H b=some (.tup (k.map kV))) (ry:RelV y u):
  KT H (putK kvs k y) (storedH xs k b u):=by
 have e:(kvs.any fun kv=>decide (kv.1=k))=(atKey xs k).isSome:=by
  rw[valV_any,(r.val k).isSome_eq,Option.isSome_map]
 unfold putK storedH
 rw[e]
 by_cases q:(atKey xs k).isSome=true
 ·rw[if_pos q,if_pos q];exact r.repl k ry
 ·rw[if_neg q,if_neg q];exact Paired.snoc r ⟨rfl,hb,ry⟩
theorem KT.keeps {H H':Hp} {kvs:List (List Key×V)} {xs:List (List Key×Addr×Value)} (r:KT H kvs xs) (ht:∀b ys,H b=some (.tup ys)->H' b=some (.tup ys)):KT H' kvs xs:=
 Paired.mapP r fun _ _ z=>⟨z.1,ht _ _ z.2.1,z.2.2⟩
section
variable {P:Program} {w:World} {H:Hp} {h:Heap} {a:Addr}
theorem rd_of {u:HO} (ok:HOk P w H h) (e:Rd H a u):ObjOk P w H h a u:=e.ok ok
theorem dk_rd {kvs:List (Key×V)} (ok:HOk P w H h) (e:Rd H a (.dK kvs)):kvs.length<=sizeLine/\(a==sysModules)=false/\∃vs,KV kvs vs/\h.DictOf (mixKind P w) a vs:=
 show ObjOk P w H h a (.dK kvs)from rd_of ok e
theorem dk_of {kvs:List (Key×V)} (ok:HOk P w H h) (e:H a=some (.dK kvs)):kvs.length<=sizeLine/\(a==sysModules)=false/\∃vs,KV kvs vs/\h.DictOf (mixKind P w) a vs:=dk_rd ok (.inl e)
theorem key_of {ks:List Key} (ok:HOk P w H h) (e:H a=some (.tup (ks.map kV))):(tupleKind (mixKind P w)).is h ks a:=by
 obtain⟨_,its,r,o,h1,h2,n,h3,_⟩:=(show ObjOk P w H h a (.tup (ks.map kV))from ok a _ e)
 exact⟨o,its.toArray,n,h1,h2,h3,by simpa using items_are r⟩
theorem dt_rd {kvs:List (List Key×V)} (ok:HOk P w H h) (e:Rd H a (.dT kvs)):kvs.length<=sizeLine/\(a==sysModules)=false/\
  ∃xs,KT H kvs xs/\h.DictOfH (tupleKind (mixKind P w)) a xs:=by
 obtain⟨z,y,xs,r,o,es,ep,h1,h2,h3,h4,h5⟩:=(show ObjOk P w H h a (.dT kvs)from rd_of ok e)
 refine⟨z,y,xs,r,o,es,ep,h1,h2,h3,h4,fun x hx=> ?_,h5⟩
 have all:∀{l:List (List Key×V)} {m:List (List Key×Addr×Value)},KT H l m->∀x∈m,(tupleKind (mixKind P w)).is h x.1 x.2.1:=by
  intro l m q
  induction q with
  |nil=>intro x hx;exact nomatch hx
  | @cons p q ps qs hq t ih=>
   intro x hx
   rcases List.mem_cons.mp hx with e|hx
   ·subst e
    exact key_of ok (by rw[<-hq.1];exact hq.2.1)
   ·exact ih x hx
 exact all r x hx
theorem dt_of {kvs:List (List Key×V)} (ok:HOk P w H h) (e:H a=some (.dT kvs)):kvs.length<=sizeLine/\(a==sysModules)=false/\
  ∃xs,KT H kvs xs/\h.DictOfH (tupleKind (mixKind P w)) a xs:=dt_rd ok (.inl e)
end
noncomputable def DGet (H:Hp) (a:Addr) (y:V) (r:Option V):Prop:=
 (∃kvs k,Rd H a (.dK kvs)/\y=kV k/\r=valV kvs k)\/∃kvs k b,Rd H a (.dT kvs)/\y= .ref b/\H b=some (.tup (k.map kV))/\r=valV kvs k
noncomputable def DPut (H:Hp) (a:Addr) (y v:V) (H':Hp):Prop:=
 (∃kvs k,H a=some (.dK kvs)/\y=kV k/\kvs.length<sizeLine/\H'=upd H a (.dK (putK kvs k v)))\/
 ∃kvs k b,H a=some (.dT kvs)/\y= .ref b/\H b=some (.tup (k.map kV))/\kvs.length<sizeLine/\H'=upd H a (.dT (putK kvs k v))
theorem DGet.k {H:Hp} {a:Addr} {kvs:List (Key×V)} {k:Key} (e:H a=some (.dK kvs)):DGet H a (kV k) (valV kvs k):= .inl ⟨kvs,k, .inl e,rfl,rfl⟩
theorem DGet.t {H:Hp} {a b:Addr} {kvs:List (List Key×V)} {k:List Key} (e:H a=some (.dT kvs)) (eb:H b=some (.tup (k.map kV))):DGet H a (.ref b) (valV kvs k):= .inr ⟨kvs,k,b, .inl e,rfl,eb,rfl⟩
theorem DPut.k {H:Hp} {a:Addr} {kvs:List (Key×V)} {k:Key} {v:V} (e:H a=some (.dK kvs)) (hl:kvs.length<sizeLine):DPut H a (kV k) v (upd H a (.dK (putK kvs k v))):= .inl ⟨kvs,k,e,rfl,hl,rfl⟩
theorem DPut.t {H:Hp} {a b:Addr} {kvs:List (List Key×V)} {k:List Key} {v:V} (e:H a=some (.dT kvs)) (eb:H b=some (.tup (k.map kV))) (hl:kvs.length<sizeLine):
  DPut H a (.ref b) v (upd H a (.dT (putK kvs k v))):= .inr ⟨kvs,k,b,e,rfl,eb,hl,rfl⟩
section
variable {X:Cx} {pins:List (Addr×Obj)} {σ:St} {H:Hp} {s:Shared} {a:Addr} {y v:V} {u r:Value} {o:Option V} {A:Around} {E:Value->Shared->Prop}
theorem Inv.big (I:Inv X pins σ H s):sysModules<s.heap.objs.size:=by
 have h:mainGlobals<s.heap.objs.size:=(I.mod.glob.keeps I.bk).lt
 exact Nat.lt_trans (by decide) h
theorem d_getItem {Q:Value->Shared->Prop} (hu:A.units+1<cLine) (I:Inv X pins σ H s) (g:DGet H a y (some v)) (ry:RelV y u) (h:∀w' s',Inv X pins σ H s'->RelV v w'->Q w' s'):
  wpAny (model X.prog X.w) A (getItem (.ref a) u) Q E s:=by
 rcases g with ⟨kvs,k,e,ey,l⟩|⟨kvs,k,b,e,ey,eb,l⟩
 ·subst ey
  obtain⟨z,hd,vs,rel,dd⟩:=dk_rd I.hok e
  obtain⟨w',hw,rw'⟩:=RelO.some_of (v:=v) (o:=valueAt vs k) (by rw[l];exact rel.val k)
  exact wpAny_getItem_of (kV_is ry) dd.mapOf hw (h w' _ (I.tok _) rw')
 ·subst ey
  cases (show u=Value.ref b from ry)
  obtain⟨z,hd,xs,rel,dd⟩:=dt_rd I.hok e
  obtain⟨w',hw,rw'⟩:=RelO.some_of (v:=v) (o:=(atKey xs k).map (·.2)) (by rw[l];exact rel.val k)
  obtain⟨p,hp,hp2⟩:=Option.map_eq_some_iff.mp hw
  refine wpAny_getItem_heap (tupleKind_room_in1 hu) (key_of I.hok eb) dd hp ?_
  rw[hp2]
  exact h w' _ (I.tok _) rw'
theorem d_in {Q:Value->Shared->Prop} (hu:A.units+1<cLine) (I:Inv X pins σ H s) (g:DGet H a y o) (ry:RelV y u) (h:∀s',Inv X pins σ H s'->Q (.bool o.isSome) s'):
  wpAny (model X.prog X.w) A (compareOp .In u (.ref a)) Q E s:=by
 rcases g with ⟨kvs,k,e,ey,l⟩|⟨kvs,k,b,e,ey,eb,l⟩
 ·subst ey
  obtain⟨z,hd,vs,rel,dd⟩:=dk_rd I.hok e
  refine wpAny_in_of (kV_is ry) hd dd.mapOf ?_
  rw[<-(rel.val k).isSome_eq,<-l]
  exact h _ (I.tok _)
 ·subst ey
  cases (show u=Value.ref b from ry)
  obtain⟨z,hd,xs,rel,dd⟩:=dt_rd I.hok e
  refine wpAny_in_heap (tupleKind_room_in1 hu) (key_of I.hok eb) hd dd ?_
  have q:=(rel.val k).isSome_eq
  rw[Option.isSome_map]at q
  rw[<-q,<-l]
  exact h _ (I.tok _)
theorem d_notIn {Q:Value->Shared->Prop} (hu:A.units+1<cLine) (I:Inv X pins σ H s) (g:DGet H a y o) (ry:RelV y u) (h:∀s',Inv X pins σ H s'->Q (.bool (!o.isSome)) s'):
  wpAny (model X.prog X.w) A (compareOp .NotIn u (.ref a)) Q E s:=by
 rcases g with ⟨kvs,k,e,ey,l⟩|⟨kvs,k,b,e,ey,eb,l⟩
 ·subst ey
  obtain⟨z,hd,vs,rel,dd⟩:=dk_rd I.hok e
  refine wpAny_notIn_of (kV_is ry) hd dd.mapOf ?_
  rw[<-(rel.val k).isSome_eq,<-l]
  exact h _ (I.tok _)
 ·subst ey
  cases (show u=Value.ref b from ry)
  obtain⟨z,hd,xs,rel,dd⟩:=dt_rd I.hok e
  refine wpAny_notIn_heap (tupleKind_room_in1 hu) (key_of I.hok eb) hd dd ?_
  have q:=(rel.val k).isSome_eq
  rw[Option.isSome_map]at q
  rw[<-q,<-l]
  exact h _ (I.tok _)
theorem d_write {h':Heap} {t':Nat} {ob:HO} (I:Inv X pins σ H s) (mu:Mut (H a)) (hs:Heap.SameBut a s.heap h') (he:∃q,h'.get? a=some q) (new:ObjOk X.prog X.w (upd H a ob) h' a ob):
  Inv X pins σ (upd H a ob) {s with heap:=h',toks:=t'}:=
 I.write (x:=a) (e:=a) mu (.inl rfl) (fun b q hb z=>(hs.2 b hb).trans z) he new
theorem dk_new {P:Program} {w:World} {H':Hp} {h':Heap} {kvs:List (Key×V)} {vs:List (Key×Value)} (z:kvs.length<=sizeLine) (hd:(a==sysModules)=false) (rel:KV kvs vs) (dd:h'.DictOf (mixKind P w) a vs):
  ObjOk P w H' h' a (.dK kvs):=⟨z,hd,vs,rel,dd⟩
theorem d_setItem {H':Hp} {Q:Unit->Shared->Prop} (hu:A.units+1<cLine) (I:Inv X pins σ H s) (g:DPut H a y v H') (ry:RelV y u) (rv:RelV v r) (h:∀s',Inv X pins σ H' s'->Q () s'):
  wpAny (model X.prog X.w) A (setItem (.ref a) u r) Q E s:=by
 rcases g with ⟨kvs,k,e,ey,l,eH⟩|⟨kvs,k,b,e,ey,eb,l,eH⟩
 ·subst ey eH
  obtain⟨z,hd,vs,rel,dd⟩:=dk_of I.hok e
  have hz:vs.length<=sizeLine:=by rw[<-rel.length];exact z
  have hl:(putK kvs k v).length<=sizeLine:=by have:=length_putK kvs k v;omega
  refine wpAny_setItem_pairs (hsz:=hz) (kV_is ry) dd fun h' dd' hs=>h _ ?_
  have he:∃q,h'.get? a=some q:=let ⟨q,_,_,hq,_⟩:=dd';⟨q,hq⟩
  exact d_write I (by rw[e];exact True.intro) hs he (dk_new hl hd (rel.put k rv) dd')
 ·subst ey eH
  cases (show u=Value.ref b from ry)
  obtain⟨z,hd,xs,rel,dd⟩:=dt_of I.hok e
  have hz:xs.length<=sizeLine:=by rw[<-Paired.length rel];exact z
  have hl:(putK kvs k v).length<=sizeLine:=by have:=length_putK kvs k v;omega
  refine wpAny_setItem_heap (hsz:=hz) (tupleKind_room_in1 hu) (key_of I.hok eb) dd fun h' dd' hs=>h _ ?_
  obtain⟨q,es,ep,hq,h2,h3,h4,_,h5⟩:=dd'
  refine d_write I (by rw[e];exact True.intro) hs ⟨q,hq⟩ ⟨hl,hd,_,(rel.put k eb rv).keeps fun c ys ec=> ?_,q,es,ep,hq,h2,h3,h4,h5⟩
  rw[upd_ne (ne_of ec e (fun z=>nomatch z))]
  exact ec
end
section
variable {X:Cx} {pins:List (Addr×Obj)} {σ:St} {H:Hp} {s:Shared} {a:Addr} {kvs:List (Key×V)} {k:Key} {u:Value} {A:Around} {E:Value->Shared->Prop}
theorem d_len {Q:Value->Shared->Prop} (I:Inv X pins σ H s) (e:Rd H a (.dK kvs)) (h:∀t s',Inv X pins σ H s'->Q (.int kvs.length t) s'):wpAny (model X.prog X.w) A (call (.builtin "len") [.ref a]) Q E s:=by
 obtain⟨z,hd,vs,rel,dd⟩:=dk_rd I.hok e
 refine call_len_dict hd dd (by rw[<-rel.length];rw[sizeLine_eq]at z;omega) ?_
 rw[<-rel.length]
 exact h _ _ (I.tok _)
end
noncomputable def NoSl (i:Expr):Prop:=∀ov iv,subscripted i false ov iv=operate [ov,iv] (getItem ov iv)
theorem subD_of {prog:Program} {w:World} {A:Around} {E:Value->Shared->Prop} {s:Shared} {env:Env} {value slice:Expr} {pos:Pos} {T id:String} {Q:Value->Shared->Prop}
  (hl:typeLookup (.type T) "__getitem__"=pure (some (.builtin id))) (hs:NoSl slice)
  (h:wpAny (model prog w) A (eval value env) (fun o s₁=>wpAny (model prog w) A (eval slice env) (fun i s₂=>s₂.TypeIs o T/\wpAny (model prog w) A (getItem o i) Q E s₂) E s₁) E s):
  wpAny (model prog w) A (eval (.Subscript value slice pos) env) Q E s:=by
 refine Subscript_ (wpAny_mono h (fun o s₁ h₁=>wpAny_mono h₁ (fun i s₂ h₂=> ?_) fun _ _ x=>x) fun _ _ x=>x)
 obtain⟨hT,h₂⟩:=h₂
 unfold subscriptTail
 refine wpAny_bind ?_
 rw[getitemInPython_of_ne hT.not_modules]
 refine wpAny_bind (wpAny_specialOf hT hl ?_)
 have fin:wpAny (model prog w) A (subscripted slice false o i) (fun r s₃=>wpAny (model prog w) A (letTemporaryGo value o r>>=fun _=>pure r) Q E s₃) E s₂:=by
  rw[hs o i]
  exact wpAny_operating (wpAny_mono h₂ (fun r s₃ h₃=>wpAny_bind (wpAny_letTemporaryGo (wpAny_pure h₃))) fun _ _ x=>x)
 first
  |exact wpAny_pure (wpAny_bind fin)
  |exact wpAny_bind (wpAny_pure (wpAny_bind fin))
  |exact wpAny_bind fin
theorem dict_typeIs {X:Cx} {pins:List (Addr×Obj)} {σ:St} {H:Hp} {s:Shared} {a:Addr} {y:V} {o:Option V} (I:Inv X pins σ H s) (g:DGet H a y o):s.TypeIs (.ref a) "dict":=by
 rcases g with ⟨kvs,k,e,_,_⟩|⟨kvs,k,b,e,_,_,_⟩
 ·obtain⟨_,_,vs,_,dd⟩:=dk_rd I.hok e
  exact dd.typeIs
 ·obtain⟨_,_,xs,_,dd⟩:=dt_rd I.hok e
  exact dd.typeIs
noncomputable def tDGet (td ty:TE):TE:=fun σ H Q=>td σ H fun x H1=>ty σ H1 fun y H2=>∃a v,x= .ref a/\DGet H2 a y (some v)/\Q v H2
noncomputable def tDIn (ty td:TE):TE:=fun σ H Q=>ty σ H fun y H1=>td σ H1 fun x H2=>∃a o,x= .ref a/\DGet H2 a y o/\Q (.bl o.isSome) H2
noncomputable def tDNotIn (ty td:TE):TE:=fun σ H Q=>ty σ H fun y H1=>td σ H1 fun x H2=>∃a o,x= .ref a/\DGet H2 a y o/\Q (.bl (!o.isSome)) H2
noncomputable def sDPut (td ty tv:TE):TS:=fun D σ H=>tv σ H fun v H1=>td σ H1 fun x H2=>ty σ H2 fun y H3=>∃a H4,x= .ref a/\DPut H3 a y v H4/\D.nx σ H4
section
variable {X:Cx} {o i e value:Expr} {pos pos' tpos:Pos} {td ty tv:TE}
theorem pe_dget (hu:X.A.units+1<cLine) (ho:PE X o td) (hi:PE X i ty) (hs:NoSl i):PE X (.Subscript o i pos) (tDGet td ty):=by
 intro pins s σ H Q I h
 refine subD_of PySem.F.slot_dict_getitem.lookup hs (thn (ho pins s σ H _ I h) fun u s1 ⟨x,H1,I1,rx,q1⟩=>thn (hi pins s1 σ H1 _ I1 q1) fun iv s2 z_=> ?_)
 obtain⟨y,H2,I2,ry,a,v,ex,g,q2⟩:=z_
 subst ex
 obtain rfl:u=Value.ref a:=rx
 exact⟨dict_typeIs I2 g,d_getItem hu I2 g ry fun w' s3 I3 rw'=>⟨v,H2,I3,rw',q2⟩⟩
theorem pc_din (hu:X.A.units+1<cLine) (hi:PE X i ty) (ho:PE X o td):PC X .In i o (tDIn ty td):=by
 intro pins s σ H Q I h
 refine thn (hi pins s σ H _ I h) fun iv s1 ⟨y,H1,I1,ry,q1⟩=>thn (ho pins s1 σ H1 _ I1 q1) fun u s2 z_=> ?_
 obtain⟨x,H2,I2,rx,a,ov,ex,g,q2⟩:=z_
 subst ex
 obtain rfl:u=Value.ref a:=rx
 exact d_in hu I2 g ry fun s3 I3=>⟨.bl ov.isSome,H2,I3,rfl,q2⟩
theorem pc_dnotin (hu:X.A.units+1<cLine) (hi:PE X i ty) (ho:PE X o td):PC X .NotIn i o (tDNotIn ty td):=by
 intro pins s σ H Q I h
 refine thn (hi pins s σ H _ I h) fun iv s1 ⟨y,H1,I1,ry,q1⟩=>thn (ho pins s1 σ H1 _ I1 q1) fun u s2 z_=> ?_
 obtain⟨x,H2,I2,rx,a,ov,ex,g,q2⟩:=z_
 subst ex
 obtain rfl:u=Value.ref a:=rx
 exact d_notIn hu I2 g ry fun s3 I3=>⟨.bl (!ov.isSome),H2,I3,rfl,q2⟩
theorem ps_dput (hu:X.A.units+1<cLine) (ho:PE X o td) (hi:PE X i ty) (hv:PE X value tv) (hs:swapsWith value (some (.Subscript o i pos')) pos.line X.env=pure false):
  PS X (.Assign [.Subscript o i pos'] value pos) (sDPut td ty tv):=by
 intro pins s σ H D I h
 refine wpAny_Assign_Subscript (thn (hv pins s σ H _ I h) fun r s1 ⟨v,H1,I1,rv,q1⟩=>thn (ho pins s1 σ H1 _ I1 q1) fun u s2 ⟨x,H2,I2,rx,q2⟩=>thn (hi pins s2 σ H2 _ I2 q2) fun iv s3 z_=> ?_) hs
 obtain⟨y,H3,I3,ry,a,H4,ex,g,q3⟩:=z_
 subst ex
 obtain rfl:u=Value.ref a:=rx
 exact d_setItem hu I3 g ry rv fun s4 I4=>⟨σ,H4,I4,q3⟩
end
theorem dk_empty {P:Program} {w:World} {H:Hp} (h:Heap) (hb:sysModules<h.objs.size):ObjOk P w H (h.push {cls:= .type "dict",data:= .dict #[]}) h.objs.size (.dK []):=
 ⟨Nat.zero_le _,beq_eq_false_iff_ne.mpr (Ne.symm (Nat.ne_of_lt hb)),[], .nil,Heap.DictOf.new h⟩
noncomputable def tDNewK:TE:=fun _ H Q=>∀p,H p=none->Q (.ref p) (upd H p (.dK []))
section
variable {X:Cx} {pos:Pos}
theorem pe_dnewK:PE X (.Dict [] [] pos) tDNewK:=fun pins s σ H Q I h=>
 wpAny_Dict_empty ⟨.ref s.heap.objs.size,_,I.laid (a:=s.heap.objs.size) (o:= .dK []) (t':=s.toks) (fun _ _ q=>Heap.get?_push_of_some _ q) (Nat.le_refl _) (dk_empty s.heap I.big),rfl,h _ (I.hok.fresh (Nat.le_refl _))⟩
end
noncomputable def tPairs:List (TE×TE)->St->Hp->(List (V×V)->Hp->Prop)->Prop
 |[],_,H,Q=>Q [] H
 |(tk,tv)::r,σ,H,Q=>tk σ H fun x H1=>tv σ H1 fun y H2=>tPairs r σ H2 fun ps H3=>Q ((x,y)::ps) H3
noncomputable abbrev VV:List (V×V)->List (Value×Value)->Prop:=Paired fun p q=>RelV p.1 q.1/\RelV p.2 q.2
noncomputable def PPs (X:Cx) (pos:Pos) (keys:List (Option Expr)) (values:List Expr) (trs:List (TE×TE)):Prop:=
 ∀(pins:List (Addr×Obj)) (s:Shared) (σ:St) (H:Hp) (Q:List (V×V)->Hp->Prop),Inv X pins σ H s->tPairs trs σ H Q->
  wpAny (model X.prog X.w) X.A (evalPairs (pairTrees keys values X.env pos)) (fun vs s'=>∃ps H',Inv X pins σ H' s'/\VV ps vs/\Q ps H') X.xe s
theorem pps_nil {X:Cx} {pos:Pos}:PPs X pos [] [] []:=fun pins s σ H Q I h=>pairTrees_nil_walk ⟨[],H,I, .nil,h⟩
theorem pps_cons {X:Cx} {pos:Pos} {k v:Expr} {ks:List (Option Expr)} {vs:List Expr} {tk tv:TE} {trs:List (TE×TE)} (hk:PE X k tk) (hv:PE X v tv) (hr:PPs X pos ks vs trs):
  PPs X pos (some k::ks) (v::vs) ((tk,tv)::trs):=fun pins s σ H Q I h=>
 pairTrees_cons_walk (thn (hk pins s σ H _ I h) fun u s1 ⟨x,H1,I1,rx,q1⟩=>thn (hv pins s1 σ H1 _ I1 q1) fun w2 s2 ⟨y,H2,I2,ry,q2⟩=>
  thn (hr pins s2 σ H2 _ I2 q2) fun ws s3 ⟨ps,H3,I3,rel,q3⟩=>⟨(x,y)::ps,H3,I3, .cons ⟨rx,ry⟩ rel,q3⟩)
noncomputable def mergeK (kvs more:List (Key×V)):List (Key×V):=more.foldl (fun acc kv=>putK acc kv.1 kv.2) kvs
theorem KV.merge:∀{more:List (Key×V)} {rs:List (Key×Value)} {kvs:List (Key×V)} {vs:List (Key×Value)},KV more rs->KV kvs vs->KV (mergeK kvs more) (merged vs rs):=by
 intro more rs kvs vs r
 unfold KV at r
 induction r generalizing kvs vs with
 |nil=>intro q;exact q
 | @cons p q ps qs h t ih=>
  intro r0
  have e:KV (putK kvs p.1 p.2) (stored vs q.1 q.2):=by
   have:=r0.put p.1 h.2
   rw[<-h.1];exact this
  exact ih e
theorem length_mergeK:∀(more kvs:List (Key×V)),(mergeK kvs more).length<=kvs.length+more.length
 |[],kvs=>by show kvs.length<=kvs.length+0;omega
 |p::r,kvs=>by
  have h1:=length_mergeK r (putK kvs p.1 p.2)
  have h2:=length_putK kvs p.1 p.2
  show (mergeK (putK kvs p.1 p.2) r).length<=_
  rw[List.length_cons];omega
theorem carries_of {P:Program} {w:World}:∀{kvs:List (Key×V)} {ws:List (Value×Value)},VV (kvs.map fun kv=>(kV kv.1,kv.2)) ws->∃rs,Carries (mixKind P w) ws rs/\KV kvs rs
 |[],_,r=>by rw[List.map_nil]at r;cases r;exact⟨[],True.intro, .nil⟩
 |p::kvs,_,r=>by
  rw[List.map_cons]at r
  cases r with
  | @cons a b as bs h t=>
   obtain⟨rs,c,q⟩:=carries_of (P:=P) (w:=w) t
   obtain⟨b1,b2⟩:=b
   exact⟨(p.1,b2)::rs,⟨kV_is h.1,rfl,c⟩, .cons ⟨rfl,h.2⟩ q⟩
noncomputable def tDisp (trs:List (TE×TE)):TE:=fun σ H Q=>∀p,H p=none->tPairs trs σ (upd H p (.dK [])) fun ps H2=>H2 p=some (.dK [])/\∃kvs:List (Key×V),ps=kvs.map (fun kv=>(kV kv.1,kv.2))/\kvs.length<=15/\Q (.ref p) (upd H2 p (.dK (mergeK [] kvs)))
theorem pe_disp {X:Cx} {pos:Pos} {keys:List (Option Expr)} {values:List Expr} {trs:List (TE×TE)} (h:PPs X pos keys values trs) (hall:keys.all (·.isSome)=true) (hl:keys.length=values.length) (h0:keys≠[])
  (h15:keys.length<=15):PE X (.Dict keys values pos) (tDisp trs):=by
 intro pins s σ H Q I q
 have hn:=I.hok.fresh (Nat.le_refl s.heap.objs.size)
 have I1:=I.laid (a:=s.heap.objs.size) (o:= .dK []) (h':=s.heap.push {cls:= .type "dict",data:= .dict #[]}) (t':=s.toks) (fun _ _ q=>Heap.get?_push_of_some _ q) (Nat.le_refl _) (dk_empty s.heap I.big)
 refine wpAny_Dict_walk (knd:=mixKind X.prog X.w) hall hl h0 h15 (thn (h pins _ σ _ _ I1 (q _ hn)) fun ws s2 z_=> ?_)
 obtain⟨ps,H2,I2,rel,e,kvs,ep,lk,q2⟩:=z_
 subst ep
 obtain⟨rs,c,rk⟩:=carries_of (P:=X.prog) (w:=X.w) rel
 obtain⟨z,hd,vs0,r0,dd⟩:=dk_of I2.hok e
 cases r0
 refine⟨rs,c,dd,fun h' dd' hs=>⟨.ref s.heap.objs.size,_,?_,rfl,q2⟩⟩
 have hz:(mergeK [] kvs).length<=sizeLine:=by
  have h1:=length_mergeK kvs []
  rw[List.length_nil]at h1
  rw[sizeLine_eq];omega
 have he:∃q,h'.get? s.heap.objs.size=some q:=let ⟨q,_,_,hq,_⟩:=dd';⟨q,hq⟩
 exact d_write I2 (by rw[e];exact True.intro) hs he (dk_new hz hd (rk.merge .nil) dd')
section
variable {X:Cx} {pins:List (Addr×Obj)} {σ:St} {H:Hp} {s:Shared} {a:Addr} {y d:V} {u r:Value} {o:Option V} {A:Around} {E:Value->Shared->Prop}
end
section
variable {X:Cx} {o e f:Expr} {apos cpos:Pos} {td ty tx:TE}
end
section
variable {X:Cx} {pins:List (Addr×Obj)} {σ:St} {H:Hp} {s:Shared} {a:Addr} {kvs:List (Key×V)} {A:Around} {E:Value->Shared->Prop}
end
section
variable {X:Cx} {pins:List (Addr×Obj)} {σ:St} {H:Hp} {s:Shared} {a:Addr} {y:V} {u:Value} {A:Around} {E:Value->Shared->Prop}
end
end L2
namespace Att
open PySem PySem.W PySem.Calls PyProof.Rows
theorem ints_of_wellAll {P:Params} {h:Heap}:∀(ns:List Int) (vs:List Value),WellAll P h vs (ns.map WData.int)->IntsAre vs ns:=by
 intro ns
 induction ns with
 |nil=>
  intro vs w
  rw[List.map_nil]at w
  cases w
  exact .nil
 |cons n ns ih=>
  intro vs w
  rw[List.map_cons]at w
  cases w with
  |cons a b=>
   cases a
   exact .cons _ _ (ih _ b)
theorem script_of {l:OpenLaw} {n:Nat} (hn:l.most=some n) {P:Params} {h:Heap} {args:List WData} {vals:List Value}
  (hpre:l.row.toRowW.claim.pre args=true) (hwl:WellAll P h vals args):
  ∃a vs ns,vals=[Value.ref a]/\args=[WData.list (ns.map WData.int)]/\h.get? a=some {cls:= .type "list",data:= .seq vs.toArray}/\IntsAre vs ns/\ns.length<=n:=by
 have hsh:WShape.hasAll [] args [.list .int]=true:=(pre_splitW hpre).1
 have hc:l.pre.holds [] {args:=args}=true:=(pre_splitW hpre).2
 obtain⟨d,r,rfl,h1,h2⟩:=hasAllW_cons hsh
 obtain rfl:=hasAllW_nil h2
 obtain⟨xs,rfl,h3⟩:=hasW_list h1
 obtain⟨ns,rfl⟩:=items_int h3
 have hlen:ns.length<=n:=by
  unfold OpenLaw.pre at hc
  have h4:(WTm.not (.lt (.lit (.int (n:Int))) (.len (.arg 0)))).holds [] {args:=[.list (ns.map .int)]}=true:=by
   have h4:=(holds_andW hc).1
   rw[hn]at h4
   exact h4
  have h5:=condW_of h4 (w_not (w_lt w_lit (w_len_list (w_arg rfl))))
  rw[List.length_map]at h5
  refine Nat.le_of_not_lt fun q=> ?_
  have q':(n:Int)<((ns.length:Nat):Int):=by omega
  first
   |(rw[decide_eq_true q']at h5;exact absurd h5 (by decide))
   |(simp at h5;omega)
 cases hwl with
 |cons w1 w2=>
  cases w2
  cases w1 with
  |list ho hall=>exact⟨_,_,ns,rfl,rfl,ho,ints_of_wellAll ns _ hall,hlen⟩
theorem post_true (l:OpenLaw) (args:List WData):l.row.toRowW.claim.post args (.bool true) args=true:=
 postW_of (r:=l.row.toRowW) (X:=(true==true))
  (show WShape.has [] (.bool true) .bool=true by first|rfl|decide|simp[WShape.has,WShape.arms,WShape.armsAll])
  (show (WTm.eq .res (.lit (.bool true))).value [] {args:=args,res:=some (.bool true),after:=args}=some (.bool (true==true))from w_eq_bool (w_res rfl) w_lit) rfl
theorem attach_call {l:OpenLaw} {n:Nat} {q:Program} {loose:List Str} {XP:(Str->Option Value)->Heap->Prop} {YP:World->Heap->Prop} {d:DefRec}
  (hn:l.most=some n) (hdf:d.params.defaults=[])
  (call:∀(w:World) (s₀ s₁:Shared) (mg mb:Str->Option Value) (fa:Addr) (o:Obj) (pm cd doc:Value) (a:Addr) (vs:List Value) (ns:List Int),
   Ground q loose [] XP w s₀ mg mb s₁.heap->YP w s₁.heap->
   s₁.heap.get? fa=some o->o.data= .func (docDef d.name d.params d.body d.scope pm cd doc)->s₁.heap.CodeRec cd d.name->mg d.name=some (.ref fa)->
   s₁.heap.get? a=some {cls:= .type "list",data:= .seq vs.toArray}->IntsAre vs ns->ns.length<=n->s₁.gens= #[]->
   codeAny (model l.prog w) callerA (.call (.ref fa) ⟨[.ref a],[]⟩) (fun r s'=>r= .ok (.ret (.bool true))/\OldK s₁.heap s'.heap/\s'.os=s₁.os/\AllBare s'.gens) s₁):
  WalkO q loose XP YP l.row.toRowW d [] (fun f vs=>PySem.call f vs):=by
 intro w s₀ s₁ mg mb G Y fa o pm cd doc dV kV ho hd hcd hD hmg hg args vals as hpre hlay hrd hwl hlo
 obtain rfl:dV= .none:=Dflts.none hD hdf
 obtain rfl:kV= .none:=Dflts.noKw hD
 obtain⟨a,vs,ns,rfl,rfl,hobj,hints,hlen⟩:=script_of hn hpre hwl
 refine enter_call (codeAny_mono (call w s₀ s₁ mg mb fa o pm cd doc a vs ns G Y ho (fd_plain hd) hcd hmg hobj hints hlen hg) fun r s' hq=> ?_)
 obtain⟨rfl,h2,h3,h4⟩:=hq
 exact⟨.inl ⟨.bool true, .bool true,[],rfl,fun _=>rfl, .bool true,post_true l _,fun _=>⟨List.Pairwise.nil,fun _ hm=>(nomatch hm)⟩⟩,h2,h3,h4⟩
section
variable {prog:Program} {w:World} {A:Around} {E:Value->Shared->Prop} {s:Shared} {K:Frag}
end
end Att
namespace L2
open PySem PySem.Spec PyProof.Rows
theorem vals_ints:∀{vs:List Value} {ns:List Int},IntsAre vs ns->Vals (ns.map V.int) vs
 |_,_, .nil=> .nil
 |_,_, .cons n t h=> .cons ⟨t,rfl⟩ (vals_ints h)
noncomputable def Only (H:Hp):Prop:=∀b,H b=none\/∃o xs,H b=some (.frz o (.lst xs))
theorem law_call {P:Program} {w:World} {K:PySem.W.Frag} {mg mb:Str->Option Value} {CX:CXT} {k:Nat} {fa a:Addr} {fd:FuncData} {x:Str} {sp:Sp} {s₁:Shared} {vs:List Value} {ns:List Int}
  (KX:K.In s₁.heap) (hns:s₁.heap.Ns mainGlobals mg) (hb:s₁.heap.Ns builtinsNs mb) (hbb:∀x:Str,x≠"__name__"->mb x=bootBuiltins x) (hlim:s₁.heap.NoLimit) (hg:s₁.gens= #[])
  (ha:s₁.heap.get? a=some {cls:= .type "list",data:= .seq vs.toArray}) (hi:IntsAre vs ns) (hl:ns.length<=sizeLine) (hr:Room k callerA)
  (F:∀base:Heap,K.In base->base.Ns mainGlobals mg->FnOk P w K mg base CX k fa fd [x] sp) (hbind:∀(s:Shared) (u:Value),BindsTo s fd ⟨[u],[]⟩ [(x,u)])
  (hsp:∀H:Hp,Only H->SqL K H a (ns.map V.int)->sp [.ref a] H (fun v _=>v= .bl true) fun _ _ _=>False)
  (hCX:∀H e s',CX [] H s₁ (fun _ _ _=>False) e s'->False):
  codeAny (model P w) callerA (.call (.ref fa) ⟨[.ref a],[]⟩) (fun r s'=>r= .ok (.ret (.bool true))/\OldK s₁.heap s'.heap/\s'.os=s₁.os/\AllBare s'.gens) s₁:=by
 have rv:=vals_ints hi
 have lenV:=hi.length
 have core:∀H:Hp,Only H->SqL K H a (ns.map V.int)->HOk P w H s₁.heap->(∀b,H b≠none->b=a)->(H a≠none->K.lookup a=none)->
   codeAny (model P w) callerA (.call (.ref fa) ⟨[.ref a],[]⟩) (fun r s'=>r= .ok (.ret (.bool true))/\OldK s₁.heap s'.heap/\s'.os=s₁.os/\AllBare s'.gens) s₁:=by
  intro H hO hS hok hA hK
  have base_of:∀{b:Addr} {o:Obj},s₁.heap.get? b=some o->H b=none->(hidT s₁.heap H).get? b=some o:=fun e n=>hidT_get e n
  have noA:∀{b:Addr} {o:Obj} {es:Array DictEntry} {ep:Nat},s₁.heap.get? b=some o->o.data= .dict es ep->H b=none:=fun {b o es ep} e d=>by
   cases q:H b with
   |none=>rfl
   |some u=>
    have e':b=a:=hA b (by rw[q];simp)
    subst e'
    rw[ha]at e;cases e
    have d':Data.seq vs.toArray _=Data.dict es ep:=d
    cases d'
  have nsK:∀{b:Addr} {m:Str->Option Value},s₁.heap.Ns b m->(hidT s₁.heap H).Ns b m:=fun {b m} ⟨o,es,ep,e,d,r⟩=>⟨o,es,ep,base_of e (noA e d),d,r⟩
  have hKb:K.In (hidT s₁.heap H):=fun b o e=>base_of (KX b o e) (by
   cases q:H b with
   |none=>rfl
   |some u=>
    have e':b=a:=hA b (by rw[q];simp)
    subst e'
    rw[hK (by rw[q];simp)]at e;cases e)
  have hM:Mod K mg (hidT s₁.heap H):=⟨hKb,nsK hns,⟨mb,nsK hb,hbb⟩,let ⟨mc,h1,h2⟩:=hlim;⟨mc,nsK h1,h2⟩⟩
  have e0:Env0 P w K mg (hidT s₁.heap H) callerA [] s₁ H:=⟨rfl,hM,fun b o e=>of_hidT e,Nat.le_of_eq (hidT_size _ _),trivial,fun b hb=>absurd (show b∈([]:List Addr)from hb) (by simp),hok, .of_eq hg⟩
  refine codeAny_mono ((F _ hKb (nsK hns)).run callerA [] s₁ H ⟨[.ref a],[]⟩ [.ref a] [.ref a] _ _ hr e0 (hbind s₁ (.ref a)) (.cons rfl .nil) (hsp H hO hS)) fun r s' h=> ?_
  cases r with
  |error e=>exact(hCX H e s' h).elim
  |ok fl=>
   cases fl with
   |next=>exact False.elim h
   |brk=>exact False.elim h
   |cont=>exact False.elim h
   |ret u=>
    obtain⟨v,H',os,bare,un,hok',r',q⟩:=h
    have q':v= .bl true:=q
    subst q'
    obtain rfl:u=Value.bool true:=r'
    refine⟨rfl,OldK.of_keep fun b o e=> ?_,os,bare⟩
    cases q:H b with
    |none=>exact un.keep b o e q (by intro z;exact absurd (show b∈([]:List Addr)from z) (by simp)) (by simp)
    |some u=>
     rcases hO b with z|⟨ob,xs,z⟩
     ·rw[q]at z;cases z
     ·have z2:=un.frzs b ob _ z
      obtain⟨e1,_⟩:=hok b _ z
      obtain⟨e2,_⟩:=hok' b _ z2
      rw[e]at e1;cases e1
      exact e2
 cases hk:K.lookup a with
 |some o=>
  have e:=KX a o hk
  rw[ha]at e
  cases e
  refine core (fun _=>none) (fun _=> .inl rfl) (.inr ⟨_,vs.toArray,_,hk,rfl,rfl,rfl,by rw[List.size_toArray,lenV];exact hl,by simpa using rv⟩) (fun b u z=>by have z':(none:Option HO)=some u:=z;cases z') (fun b z=>absurd rfl z) fun z=>absurd rfl z
 |none=>
  refine core (fun b=>if b=a then some (.frz {cls:= .type "list",data:= .seq vs.toArray} (.lst (ns.map V.int)))else none) (fun b=> ?_) (.inl (.inr ⟨{cls:= .type "list",data:= .seq vs.toArray},if_pos rfl⟩)) (fun b u z=> ?_) (fun b z=> ?_) fun _=>hk
  ·by_cases hb:b=a
   ·exact .inr ⟨_,_,if_pos hb⟩
   ·exact .inl (if_neg hb)
  ·by_cases hb:b=a
   ·have z':=(if_pos hb).symm.trans z
    cases z'
    subst hb
    exact⟨ha,by rw[List.length_map];exact hl,vs,_,rv,ha⟩
   ·have z':=(if_neg hb).symm.trans z
    cases z'
  ·by_cases hb:b=a
   ·exact hb
   ·exact absurd (if_neg hb) z
end L2
namespace L2
open PySem PySem.Spec PyProof.Rows
theorem walk_of {l:PySem.W.OpenLaw} {n k:Nat} {q:Program} {loose:List Str} {XP:(Str->Option Value)->Heap->Prop} {YP:World->Heap->Prop} {d:DefRec} {K:Params->PySem.W.Frag} {CX:World->CXT} {sp:World->Sp} {x:Str}
  (hn:l.most=some n) (hn2:n<=sizeLine) (hdf:d.params.defaults=[]) (hr:Room k callerA)
  (hY:∀(w:World) (h:Heap),YP w h->(K w.params).In h)
  (F:∀(w:World) (mg:Str->Option Value) (fa:Addr) (h:Heap),(K w.params).In h->h.Ns mainGlobals mg->mg d.name=some (.ref fa)->
   ∃fd:FuncData,(∀(s:Shared) (u:Value),BindsTo s fd ⟨[u],[]⟩ [(x,u)])/\
    ∀base:Heap,(K w.params).In base->base.Ns mainGlobals mg->FnOk l.prog w (K w.params) mg base (CX w) k fa fd [x] (sp w))
  (hsp:∀(w:World) (H:Hp) (a:Addr) (ns:List Int),ns.length<=n->Only H->SqL (K w.params) H a (ns.map V.int)->sp w [.ref a] H (fun v _=>v= .bl true) fun _ _ _=>False)
  (hCX:∀(w:World) (H:Hp) (s:Shared) (e:Value) (s':Shared),CX w [] H s (fun _ _ _=>False) e s'->False):
  PySem.W.WalkO q loose XP YP l.row.toRowW d [] (fun f vs=>PySem.call f vs):=by
 refine Att.attach_call hn hdf fun w s₀ s₁ mg mb fa o pm cd doc a vs ns G Y ho hd hcd hmg hobj hints hlen hg=> ?_
 have KX:=hY w _ Y
 obtain⟨fd,hb,hF⟩:=F w mg fa _ KX G.T.g hmg
 exact law_call KX G.T.g G.T.b G.T.builtins G.T.nolimit hg hobj hints (Nat.le_trans hlen hn2) hr hF hb (fun H hO hS=>hsp w H a ns hlen hO hS) fun H e s'=>hCX w H s₁ e s'
end L2
namespace L2
open PySem PySem.Spec PyProof.Rows
noncomputable def inClass (s:Stmt) (j:Nat):Stmt:=match s with
 | .ClassDef _ _ _ body _ _ _ _ _ _ _=>body.getD j (.Pass ⟨0,0,0,0⟩)
 |_=> .Pass ⟨0,0,0,0⟩
noncomputable def defArgs (s:Stmt):Arguments:=match s with
 | .FunctionDef _ a _ _ _ _ _ _ _ _=>a
 |_=>{posonlyargs:=[],args:=[],vararg:=none,kwonlyargs:=[],kw_defaults:=[],kwarg:=none,defaults:=[]}
noncomputable def defBody (s:Stmt):List Stmt:=match s with
 | .FunctionDef _ _ b _ _ _ _ _ _ _=>b
 |_=>[]
noncomputable def defScope (s:Stmt):Scope:=match s with
 | .FunctionDef _ _ _ _ _ _ sc _ _ _=>sc
 |_=>{kind:= .function,names:=[],isGenerator:=false,isCoroutine:=false}
noncomputable abbrev CX0:CXT:=fun _ _ _ _ _ _=>False
structure Fun (K:PySem.W.Frag) (x qual:Str) (st:Stmt) (f:Addr) (fd:FuncData):Prop where
 ex:∃(oc:Value) (od:Option Addr) (kV doc pm:Value) (an:Option Addr) (cdv ct:Value) (osl:Array (Option Value)),
  fd=PySem.W.fnOf x qual (defArgs st) (defBody st) (defScope st) .none kV doc pm an cdv ct/\K.lookup f=some ⟨oc,od, .func fd,osl⟩/\PySem.W.codeIn K cdv qual=true
 kp:PySem.W.keepIn K (.ref f)=true
section
variable {P:Program} {w:World} {K:PySem.W.Frag} {mg:Str->Option Value} {base:Heap}
theorem Fun.ok {x qual:Str} {st:Stmt} {f:Addr} {fd:FuncData} {N ps:List Str} {k:Nat} {sp:Sp} (F:Fun K x qual st f fd) (S:FnScope N ps (defScope st)) (len:∀vs H Q E,sp vs H Q E->vs.length=ps.length)
  (hbody:∀(cdv:Value) (A:Around) (outer:List Env) (s:Shared) (H:Hp) (vs:List V) (Q:VK) (E:XK),Room k (A.deeper (envOfC qual (defScope st) s.heap.objs.size f cdv))->sp vs H Q E->
   ∃t,PSs (cxOf CX0 P w K mg base N qual (defScope st) f cdv A outer s H E).nox (defBody st) t/\t {nx:=fun _ H'=>Q .non H',rt:=Q} (start N vs) H):FnOk P w K mg base CX0 (k+1) f fd ps sp:=by
 obtain⟨oc,od,kV,doc,pm,an,cdv,ct,osl,rfl,lk,hcd⟩:=F.ex
 refine fn_of lk hcd S len fun A outer s H vs Q E hr hsp=> ?_
 obtain⟨t,h,q⟩:=hbody cdv A outer s H vs Q E hr hsp
 exact⟨t,h.nox,q⟩
theorem Fun.binds {x qual:Str} {st:Stmt} {f:Addr} {fd:FuncData} {ps:List Str} (F:Fun K x qual st f fd)
  (h:∀(kV doc pm:Value) (an:Option Addr) (cdv ct:Value) (us:List Value),us.length=ps.length->bindArgs (PySem.W.fnOf x qual (defArgs st) (defBody st) (defScope st) .none kV doc pm an cdv ct) ⟨us,[]⟩=pure (ps.zip us)):Binds K fd ps []:=by
 obtain⟨oc,od,kV,doc,pm,an,cdv,ct,osl,rfl,lk,hcd⟩:=F.ex
 exact .all (h kV doc pm an cdv ct)
theorem fun_mk {x qual:Str} {st:Stmt} {f:Addr} {oc:Value} {od an:Option Addr} {osl:Array (Option Value)} {kV doc pm cdv ct:Value} (l:K.lookup f=some ⟨oc,od, .func (PySem.W.fnOf x qual (defArgs st) (defBody st) (defScope st) .none kV doc pm an cdv ct),osl⟩)
  (c:PySem.W.codeIn K cdv qual=true) (k:PySem.W.keepIn K (.ref f)=true):Fun K x qual st f (PySem.W.fnOf x qual (defArgs st) (defBody st) (defScope st) .none kV doc pm an cdv ct):=⟨⟨oc,od,kV,doc,pm,an,cdv,ct,osl,rfl,l,c⟩,k⟩
end
theorem hu_of {A:Around} {k:Nat} (hr:Room k A):A.units+1<cLine:=Nat.lt_of_le_of_lt (Nat.add_le_add_left (by decide:1<=64) _) hr.units
section
variable {X:Cx}
theorem pv (i:Nat) {x:Str} {pos:Pos} (hN:X.N[i]? =some x:=by rfl) (hv:Vis X.env.scope x:=by first|exact Or.inl rfl|exact Or.inr (Or.inl rfl)|exact Or.inr (Or.inr rfl)) (hd:(x==("__debug__":Str))=false:=by decide)
  (hcd:(x==("__classdict__":Str))=false:=by decide):PE X (.Name x pos) (tVar i):=pe_var hN hv hd hcd
end
noncomputable def Same (H H':Hp):Prop:=∀b o,H b=some o->H' b=some o
theorem Same.refl (H:Hp):Same H H:=fun _ _ h=>h
theorem Same.trans {H H1 H2:Hp} (a:Same H H1) (b:Same H1 H2):Same H H2:=fun c o h=>b c o (a c o h)
theorem Same.free {H H':Hp} (e:Same H H') {l:Addr} (h:H' l=Option.none):H l=Option.none:=by
 cases q:H l with
 |none=>rfl
 |some o=>
  rw[e l o q]at h
  cases h
theorem Same.seq {K:PySem.W.Frag} {H H':Hp} {a:Addr} {xs:List V} (e:Same H H') (h:SqL K H a xs):SqL K H' a xs:=by
 rcases h with (h|⟨o,h⟩)|h
 ·exact .inl (.inl (e _ _ h))
 ·exact .inl (.inr ⟨o,e _ _ h⟩)
 ·exact .inr h
section
variable {κ:Type} [DecidableEq κ]
end
end L2
namespace L2
open PySem PySem.Spec PyProof.Rows
noncomputable def clOf (env:Env):List (Str×NameKind)->List (Str×Addr)->List (Str×Addr)
 |[],cs=>cs
 |(n,k)::r,cs=>clOf env r (if k= .free then (match env.cells.lookup n with|some c=>(n,c)::cs|none=>cs)else cs)
theorem clos_run (env:Env):∀(names:List (Str×NameKind)) (cs:List (Str×Addr)),(∀y∈names,y.2= .free->∃c,env.cells.lookup y.1=some c)->
  (forIn names cs fun (x:Str×NameKind) (r:List (Str×Addr))=>(if (x.2==NameKind.free)=true then do
    let a<-cellOf env x.1
    pure (ForInStep.yield ((x.1,a)::r))else pure (ForInStep.yield r):Sem (ForInStep (List (Str×Addr)))))=pure (clOf env names cs)
 |[],cs,_=>rfl
 |(n,k)::r,cs,h=>by
  rw[List.forIn_cons]
  by_cases hk:k= .free
  ·subst hk
   obtain⟨c,hc⟩:=h (n, .free) List.mem_cons_self rfl
   have e:cellOf env n=pure c:=by unfold cellOf;rw[hc]
   simp only[beq_self_eq_true,if_true,e]
   unfold clOf
   simp only[if_true,hc]
   exact clos_run env r ((n,c)::cs) fun y hy=>h y (List.mem_cons_of_mem _ hy)
  ·have hb:(k==NameKind.free)=false:=by simpa using hk
   simp only[hb,Bool.false_eq_true,if_false]
   unfold clOf
   rw[if_neg hk]
   exact clos_run env r cs fun y hy=>h y (List.mem_cons_of_mem _ hy)
theorem clos_eq {scope:Scope} {env:Env} (h:∀y∈scope.names,y.2= .free->∃c,env.cells.lookup y.1=some c):closureFor scope env=pure (clOf env scope.names []):=by
 have:=clos_run env scope.names [] h
 unfold closureFor
 simp only[bind_pure]
 exact this
theorem clOf_sub {env:Env} {x:Str} {c:Addr}:∀{names:List (Str×NameKind)} {cs:List (Str×Addr)},(∀c,cs.lookup x=some c->env.cells.lookup x=some c)->(clOf env names cs).lookup x=some c->env.cells.lookup x=some c
 |[],cs,h,e=>h c e
 |(n,k)::r,cs,h,e=>by
  unfold clOf at e
  refine clOf_sub (names:=r) (fun d hd=> ?_) e
  split at hd
  ·split at hd
   ·rename_i c' hc
    rw[List.lookup_cons]at hd
    cases hx:x==n with
    |true=>rw[hx]at hd;have:=eq_of_beq hx;subst this;rw[hc];exact hd
    |false=>rw[hx]at hd;exact h d hd
   ·exact h d hd
  ·exact h d hd
theorem clOf_keep {env:Env} {x:Str}:∀{names:List (Str×NameKind)} {cs:List (Str×Addr)},(∃c,cs.lookup x=some c)->∃c,(clOf env names cs).lookup x=some c
 |[],cs,h=>h
 |(n,k)::r,cs,h=>by
  unfold clOf
  refine clOf_keep (names:=r) ?_
  split
  ·split
   ·rename_i c' hc
    rw[List.lookup_cons]
    cases x==n with
    |true=>exact⟨_,rfl⟩
    |false=>exact h
   ·exact h
  ·exact h
theorem clOf_has {env:Env} {x:Str}:∀{names:List (Str×NameKind)} {cs:List (Str×Addr)},(x,NameKind.free)∈names->(∃c,env.cells.lookup x=some c)->∃c,(clOf env names cs).lookup x=some c
 |(n,k)::r,cs,h,hc=>by
  unfold clOf
  rcases List.mem_cons.mp h with h|h
  ·cases h
   obtain⟨c,hc⟩:=hc
   refine clOf_keep (names:=r) ?_
   rw[if_pos rfl,hc]
   exact⟨c,by simp⟩
  ·exact clOf_has h hc
noncomputable def inSt (N:List Str) (names:List (Str×NameKind)) (σ:St):St:=
 names.map fun x=>if x.2= .free then ((N.findIdx? (·==x.1)).bind fun i=>(σ[i]?).join)else none
noncomputable def cxIn (X:Cx) (scope:Scope) (s:Shared) (H:Hp) (ex:List Addr):Cx:=
 {X with N:=scope.names.map (·.1),s₀:=s,H₀:=H,env:=compEnvC scope (clOf X.env scope.names []) s.heap.objs.size X.env,outer:=X.stack,ex:=ex,fn:=fun _=>false,pn:=[],xe:=fun _ _=>False}
structure InScope (X:Cx) (scope:Scope):Prop where
 kind:scope.kind= .function
 nocell:∀y∈scope.names,y.2≠ .cell
 loc:∀y∈scope.names,y.2= .local->scope.names.lookup y.1=some .local
 free:∀y∈scope.names,y.2= .free->X.env.kindOf y.1=some .cell\/X.env.kindOf y.1=some .free
 nd:(scope.names.map (·.1)).Nodup
theorem relabel_lookup {env:Env} {x:Str}:∀{names:List (Str×NameKind)} {k:NameKind},
  (names.map fun (n,k)=>if (k==NameKind.free&&env.scope.kind== .function&&env.kindOf n==some .cell)then (n,NameKind.cell)else (n,k)).lookup x=some k->
  names.lookup x=some k\/(names.lookup x=some .free/\k= .cell)
 |[],k,h=>by simp at h
 |(n,j)::r,k,h=>by
  have ih:= @relabel_lookup env x r k
  rw[List.map_cons,List.lookup_cons]at h
  rw[List.lookup_cons]
  by_cases hc:(j==NameKind.free&&env.scope.kind== .function&&env.kindOf n==some .cell)=true
  ·rw[if_pos hc]at h
   have hj:j= .free:=by
    simp only[Bool.and_eq_true]at hc
    exact eq_of_beq hc.1.1
   cases hx:x==n with
   |true=>rw[hx]at h;simp at h;exact .inr ⟨by rw[hj],h.symm⟩
   |false=>rw[hx]at h;exact ih h
  ·rw[if_neg hc]at h
   cases hx:x==n with
   |true=>rw[hx]at h;exact .inl h
   |false=>rw[hx]at h;exact ih h
theorem lookup_mem' {α β:Type} [BEq α] [LawfulBEq α] {x:α} {b:β}:∀{l:List (α×β)},l.lookup x=some b->(x,b)∈l
 |[],h=>by simp at h
 |(a,c)::r,h=>by
  rw[List.lookup_cons]at h
  cases hx:x==a with
  |true=>rw[hx]at h;have:=eq_of_beq hx;subst this;cases h;exact List.mem_cons_self
  |false=>rw[hx]at h;exact List.mem_cons_of_mem _ (lookup_mem' h)
section
variable {X:Cx} {pins:List (Addr×Obj)} {σ:St} {H:Hp} {s:Shared} {scope:Scope}
theorem InScope.cellOf (S:InScope X scope) (ok:X.Ok):∀y∈scope.names,y.2= .free->∃c,X.env.cells.lookup y.1=some c:=fun y hy hf=>ok.has y.1 (S.free y hy hf)
theorem cxIn_ok (S:InScope X scope) (I:Inv X pins σ H s) {fp:List Addr} (hfp:∀b∈fp,FpOk X pins H b/\b<s.heap.objs.size):(cxIn X scope s H fp).Ok where
 mod:=I.mod
 kind:=S.kind
 glob:=I.ok.glob
 blt:=I.ok.blt
 above:=Nat.le_refl _
 inj:=fun x y c hx hy=>I.ok.inj x y c (clOf_sub (by intro c h;simp at h) hx) (clOf_sub (by intro c h;simp at h) hy)
 has:=fun x hx=>by
  have hm:(x,NameKind.free)∈scope.names:=by
   rcases hx with hx|hx
   ·rcases relabel_lookup hx with h|⟨h,_⟩
    ·exact absurd rfl (S.nocell _ (lookup_mem' h))
    ·exact lookup_mem' h
   ·rcases relabel_lookup hx with h|⟨h,_⟩<;>exact lookup_mem' h
  exact clOf_has hm (S.cellOf I.ok _ hm rfl)
 cab:=fun x c h=>by cases h
 hd:=I.ok.hd
 frames:=I.ok.frames
 stk:= .inl rfl
 exf:=fun b hb=>⟨Nat.ne_of_lt (hfp b hb).2,fun x c hx=>(hfp b hb).1.2.2.2.2.1 x c (clOf_sub (by intro c h;simp at h) hx)⟩
 bs:=I.bs
 bsz:=Nat.le_trans I.ok.bsz I.sz
 noex:=fun b o e hb=>by
  rcases(hfp b hb).1.2.2.2.1 with h|h
  ·exact I.ok.noex b o e h
  ·have h1:b<X.base.objs.size:=Heap.lt_size e
   exact Nat.lt_irrefl _ (Nat.lt_of_lt_of_le h1 (Nat.le_trans I.ok.bsz h))
 exfs:=fun b hb hc=>by
  have:=I.stkSub b hc
  rcases List.mem_cons.mp this with h|h
  ·exact(hfp b hb).1.2.1 h
  ·exact(hfp b hb).1.2.2.1 h
 funs:=I.stack
 frf:=I.stkFree
theorem inv_in (S:InScope X scope) (I:Inv X pins σ H s) {fp:List Addr} (hfp:∀b∈fp,FpOk X pins H b/\b<s.heap.objs.size) {h':Heap} {t':Nat}
  (hn:h'.Ns s.heap.objs.size fun _=>none) (k:∀b o,s.heap.get? b=some o->h'.get? b=some o):
  Inv (cxIn X scope s H fp) [] (inSt X.N scope.names σ) H {s with heap:=h',toks:=t'}where
 ok:=cxIn_ok S I hfp
 os:=rfl
 bare:=I.bare
 base:=Un.kept k
 loc:=by
  refine⟨_,hn,fun i x v hi hv _=> ?_⟩
  have hi':(scope.names.map (·.1))[i]? =some x:=hi
  rw[List.getElem?_map]at hi'
  unfold inSt at hv
  rw[List.getElem?_map]at hv
  cases e:scope.names[i]? with
  |none=>rw[e]at hi';cases hi'
  |some y=>
   rw[e]at hi' hv
   have hx:y.1=x:=by simpa using hi'
   have hy:y∈scope.names:=List.mem_of_getElem? e
   simp only[Option.map_some,Option.some.injEq]at hv
   by_cases hf:y.2= .free
   ·rw[if_pos hf]at hv
    cases ei:X.N.findIdx? (·==y.1)with
    |none=>rw[ei]at hv;cases hv
    |some j=>
     rw[ei]at hv
     have hj:σ[j]? =some (some v):=by
      cases e2:σ[j]? with
      |none=>simp[e2]at hv
      |some o=>simp only[Option.bind_some,e2,Option.join_some]at hv;rw[hv]
     obtain⟨hl,hp,_⟩:=List.findIdx?_eq_some_iff_getElem.mp ei
     have hN:X.N[j]? =some x:=by
      rw[List.getElem?_eq_getElem hl]
      have:=eq_of_beq hp
      rw[this,hx]
     have hk:=S.free y hy hf
     rw[hx]at hk
     obtain⟨m,_,hm⟩:=I.loc
     obtain⟨u,ru,lu⟩:=hm j x v hN hj (by
      rcases hk with q|q
      ·exact .inr (.inl q)
      ·exact .inr (.inr q))
     refine⟨u,ru,?_⟩
     rcases lu with ⟨q,_⟩|⟨_,c,hc,hcell⟩
     ·rcases hk with z|z<;>rw[z]at q<;>cases q
     ·have hmem:(x,NameKind.free)∈scope.names:=by
       have:y=(x,NameKind.free):=by cases y;simp at hx hf;rw[hx,hf]
       rw[<-this];exact hy
      obtain⟨d,hd⟩:=clOf_has (cs:=[]) hmem (S.cellOf I.ok _ hmem rfl)
      have hdc:d=c:=by
       have:=clOf_sub (cs:=[]) (by intro c h;simp at h) hd
       rw[this]at hc
       exact Option.some.inj hc
      refine .inr ⟨?_,d,hd,?_⟩
      ·show (relabel scope X.env).names.lookup x=some .cell\/(relabel scope X.env).names.lookup x=some .free
       have hlk:∃k,(relabel scope X.env).names.lookup x=some k:=by
        unfold relabel
        cases el:(scope.names.map fun (n,k)=>if (k==NameKind.free&&X.env.scope.kind== .function&&X.env.kindOf n==some .cell)then (n,NameKind.cell)else (n,k)).lookup x with
        |some k=>exact⟨k,rfl⟩
        |none=>
         exfalso
         rw[List.lookup_eq_none_iff]at el
         have:=el (if (NameKind.free==NameKind.free&&X.env.scope.kind== .function&&X.env.kindOf x==some .cell)then (x,NameKind.cell)else (x,NameKind.free)) (List.mem_map.mpr ⟨_,hmem,rfl⟩)
         split at this<;>simp at this
       obtain⟨k,hk2⟩:=hlk
       rcases relabel_lookup hk2 with h|⟨_,h⟩
       ·have hm2:=lookup_mem' h
        have:k= .free:=by
         have nd:=S.nd
         obtain⟨a,ha,e1⟩:=List.mem_iff_getElem.mp hmem
         obtain⟨b,hb,e2⟩:=List.mem_iff_getElem.mp hm2
         have:a=b:=by
          refine(List.getElem_inj (h₀:=by simpa using ha) (h₁:=by simpa using hb) nd).mp ?_
          rw[List.getElem_map,List.getElem_map,e1,e2]
         subst this
         rw[e1]at e2
         cases e2;rfl
        subst this
        exact .inr hk2
       ·subst h;exact .inl hk2
      ·rw[hdc];exact hcell.keeps k
   ·rw[if_neg hf]at hv;cases hv
 cell:=fun x c hx=>by
  obtain⟨v,hv⟩:=I.cell x c (clOf_sub (cs:=[]) (by intro c h;simp at h) hx)
  exact⟨v,hv.keeps k⟩
 free:=I.hok.fresh (Nat.le_refl _)
 freeC:=fun x c hx=>I.freeC x c (clOf_sub (cs:=[]) (by intro c h;simp at h) hx)
 pin:=fun p hp=>by cases hp
 hok:=I.hok.kept k
 len:=by simp[cxIn,inSt]
theorem inv_out (I:Inv X pins σ H s) {fp:List Addr} (hfp:∀b∈fp,FpOk X pins H b/\b<s.heap.objs.size) {τ:St} {H':Hp} {s':Shared} (I':Inv (cxIn X scope s H fp) [] τ H' s') {h':Heap} {t':Nat}
  (hs:∀b o,b≠s.heap.objs.size->s'.heap.get? b=some o->h'.get? b=some o):Inv X pins σ H' {s' with heap:=h',toks:=t'}:=by
 have u:Un (frs X.stack) fp H H' s.heap s'.heap:=I'.base
 have hC:H' s.heap.objs.size=none:=I'.free
 have nC:∀b o,s.heap.get? b=some o->b≠s.heap.objs.size:=fun b o e=>Nat.ne_of_lt (Heap.lt_size e)
 refine I.call' (ch:=fp) I'.os ⟨?_,?_,u.free,?_,u.tups,u.frzs,u.tbls⟩ (fun b o e=> ?_) I'.bare fun b hb=> ?_
 ·exact fun b o e n a c=>hs b o (nC b o e) (u.keep b o e n a c)
 ·intro b o e n a c
  obtain⟨sl,q⟩:=u.slot b o e n a c
  exact⟨sl,hs b _ (nC b o e) q⟩
 ·intro b o e a
  obtain⟨o',q⟩:=u.there b o e a
  exact⟨o',hs b _ (nC b o e) q⟩
 ·refine(I'.hok b o e).stay (fun c v hc q=>hs c v ?_ q) (fun _ q=>q) fun _ _ q=>q
  intro z
  subst z
  rcases hc with z|z
  ·rw[z]at hC;rw[hC]at e;cases e
  ·rw[hC]at z;cases z
 ·obtain⟨h1,h2,h3,h4,h5,h6⟩:=(hfp b hb).1
  exact⟨h4,h2,h5,h6⟩
end
noncomputable def PIf (X:Cx) (ifs:List Expr) (t:TT):Prop:=
 ∀(pins:List (Addr×Obj)) (s:Shared) (σ:St) (H:Hp) (Q:Bool->Hp->Prop),Inv X pins σ H s->t σ H Q->
  wpAny (model X.prog X.w) X.A (forIn ifs true fun c r=>if r=true then do let ok<-isTrue c X.env (eval c X.env);pure (ForInStep.yield ok)else pure (ForInStep.yield r)) (TP X pins σ Q) X.xe s
theorem pif_nil {X:Cx}:PIf X [] (fun _ H Q=>Q true H):=fun _ _ _ H _ I h=>wpAny_tests_nil ⟨H,I,h⟩
theorem pif_one {X:Cx} {c:Expr} {t:TT} (h:PT X c t):PIf X [c] t:=fun pins s σ H Q I q=>wpAny_tests_one (h pins s σ H Q I q)
noncomputable def cBlock (J:It) (g:TG) (tt:TT) (te:TE) (D:Addr) (τ0:St) (Q:Hp->Prop) (H1:Hp):Prop:=
 ∃W:Nat->Nat->List V->St->Hp->Prop,(∃m,W 0 m [] τ0 H1)/\∀i m ys τ H,W i m ys τ H->H D=some (.lst ys)/\
  ((J.stop i H/\Q H)\/(J.go i H/\ys.length<sizeLine/\∀x H',J.yld i H x H'->g x τ H' fun τ2 H2=>tt τ2 H2 fun b H3=>
   if b=true then te τ2 H3 fun y H4=>H4 D=some (.lst ys)/\∃m',m'<m/\W (i+1) m' (ys++[y]) τ2 (upd H4 D (.lst (ys++[y])))else ∃m',m'<m/\W (i+1) m' ys τ2 H3))
noncomputable def tComp (N:List Str) (names:List (Str×NameKind)) (wi:TI) (g:TG) (tt:TT) (te:TE):TE:=fun σ H Q=>
 wi σ H fun J H1=>∀D,H1 D=none->cBlock J g tt te D (inSt N names σ) (fun H2=>Q (.ref D) H2) (upd H1 D (.lst []))
section
variable {X:Cx} {elt tg iter:Expr} {ifs:List Expr} {scope:Scope} {pos:Pos} {wi:TI} {g:TG} {tt:TT} {te:TE}
theorem loop_in (S:InScope X scope) (hc:X.calm=true) (hg:∀s H ex,PG (cxIn X scope s H ex) tg g) (hif:∀s H ex,PIf (cxIn X scope s H ex) ifs tt) (hel:∀s H ex,PE (cxIn X scope s H ex) elt te)
  {pins:List (Addr×Obj)} {σ:St} {H:Hp} {s:Shared} (I:Inv X pins σ H s) {fp:List Addr} {it D:Addr} {tn:Nat->Heap->Prop} {J:It} (T:Turn X.prog X.w X.K tg J fp it tn)
  (hfp:∀b∈fp,FpOk X pins H b/\b<s.heap.objs.size) {Q:Hp->Prop} {R:Result->Shared->Prop}
  (hR:∀τ H' s',Inv (cxIn X scope s H fp) [] τ H' s'->Q H'->R (.ok .next) s')
  {s1:Shared} {τ0:St} (I1:Inv (cxIn X scope s H fp) [] τ0 H s1) (ht:tn 0 s1.heap) (q:cBlock J g tt te D τ0 Q H):
  codeAny (model X.prog X.w) X.A (.compLoop (.ListComp elt [⟨tg,iter,ifs,0⟩] scope pos) 0 (.ref it) (.ref D) (cxIn X scope s H fp).env) R s1:=by
 obtain⟨W,⟨m0,w0⟩,turn⟩:=q
 have stat:∀{H':Hp},(∀b∈fp,H' b=none)->∀b∈fp,FpOk (cxIn X scope s H fp) [] H' b:=fun {H'} hn b hb=>
  ⟨hn b hb,Nat.ne_of_lt (hfp b hb).2,(cxIn_ok S I hfp).exfs b hb, .inl hb,fun x c hx=>(hfp b hb).1.2.2.2.2.1 x c (clOf_sub (cs:=[]) (by intro c h;simp at h) hx),fun p hp=>by cases hp⟩
 refine codeAny_loop rfl (fun n s'=>∃i ys τ H',Inv (cxIn X scope s H fp) [] τ H' s'/\tn i s'.heap/\(∀b∈fp,H' b=none)/\W i n ys τ H') (fun n s2 hI=> ?_) m0 ⟨0,[],τ0,H,I1,ht,fun b hb=>(hfp b hb).1.1,w0⟩
 obtain⟨i,ys,τ,H2,I2,st2,fr2,w2⟩:=hI
 show wpAny _ X.A ((compTurn (.ListComp elt [⟨tg,iter,ifs,0⟩] scope pos) 0 (.ref it) (.ref D) (cxIn X scope s H fp).env).onRaise (fun x=>do noteFrame x (cxIn X scope s H fp).env;theTreesLotGoes x)) _ _ s2
 refine wpAny_noted ?_
 rw[compTurn_list]
 have up:∀{α:Type} {t:Sem α} {Q:α->Shared->Prop} {E:Value->Shared->Prop} {s:Shared},wpAny (model X.prog X.w) X.A t Q (fun _ _=>False) s->wpAny (model X.prog X.w) X.A t Q E s:=fun h=>wpAny_mono h (fun _ _ q=>q) fun _ _ f=>f.elim
 obtain⟨hD,alt⟩:=turn i n ys τ H2 w2
 rcases alt with ⟨stop,qn⟩|⟨go,hz,step⟩
 ·refine wpAny_bind (wpAny_standAt (wpAny_bind (up (thn (T.done (cxIn X scope s H fp) rfl rfl rfl hc i [] s2 τ H2 (fun _ _=>False) I2 (stat fr2) st2 stop) fun r s3 z_=> ?_))))
  obtain⟨hr,I3⟩:=z_
  subst hr
  exact wpAny_pure (hR _ _ _ I3 qn)
 ·refine wpAny_bind (wpAny_standAt (wpAny_bind (up (thn (T.item (cxIn X scope s H fp) rfl rfl rfl hc i [] s2 τ H2 (fun _ _=>False) I2 (stat fr2) st2 go) fun r s3 z_=> ?_))))
  obtain⟨u,hr,h3⟩:=z_
  subst hr
  refine wpAny_bind (up (thn h3 fun _ s4 z_=> ?_))
  obtain⟨x,H4,I4,r4,y4,st4,fr4⟩:=z_
  have I4':=I4.pinned (stat fr4) (T.obj _ _ st4)
  have back:∀{τ7:St} {H7:Hp} {s7:Shared},Inv (cxIn X scope s H fp) ([]++pinsAt fp s4.heap) τ7 H7 s7->Inv (cxIn X scope s H fp) [] τ7 H7 s7/\tn (i+1) s7.heap/\∀b∈fp,H7 b=none:=fun I7=>
   ⟨I7.unpinned,T.keep _ _ _ st4 fun b hb o e=>(I7.pin (b,o) (List.mem_append_right _ (List.mem_append_right _ (mem_pinsAt hb e)))).1,fun b hb=>by
    obtain⟨o,e,d⟩:=T.obj _ _ st4 b hb
    exact(I7.pin (b,o) (List.mem_append_right _ (List.mem_append_right _ (mem_pinsAt hb e)))).2.1⟩
  refine wpAny_bind (up (thn (hg s H fp _ s4 τ H4 x u _ I4' r4 (step x H4 y4)) fun _ s5 z_=> ?_))
  obtain⟨τ5,H5,I5,q5⟩:=z_
  refine wpAny_bind (up (thn (hif s H fp _ s5 τ5 H5 _ I5 q5) fun ok s6 z_=> ?_))
  obtain⟨H6,I6,q6⟩:=z_
  cases ok with
  |false=>
   obtain⟨m',hm,w'⟩:=q6
   obtain⟨a,b,c⟩:=back I6
   exact wpAny_pure ⟨rfl,m',hm,i+1,ys,τ5,H6,a,b,c,w'⟩
  |true=>
   rw[if_pos rfl]at q6
   refine wpAny_bind (wpAny_bind (up (thn (hel s H fp _ s6 τ5 H6 _ I6 q6) fun v s7 z_=> ?_)))
   obtain⟨y,H7,I7,r7,hD7,m',hm,w'⟩:=z_
   refine wpAny_bind (up (thn (mt_append (X:=cxIn X scope s H fp) _ s7 τ5 H7 (.ref D) [y] (.ref D) [v] (fun _ H8=>H8=upd H7 D (.lst (ys++[y]))) I7 rfl (.cons r7 .nil) ⟨D,ys,y,rfl,rfl,hD7,hz,rfl⟩) fun _ s8 z_=> ?_))
   obtain⟨_,H8,I8,_,e8⟩:=z_
   subst e8
   obtain⟨a,b,c⟩:=back I8
   exact wpAny_pure (wpAny_pure ⟨rfl,m',hm,i+1,ys++[y],τ5,_,a,b,c,w'⟩)
theorem block_in (S:InScope X scope) (hc:X.calm=true) (hg:∀s H ex,PG (cxIn X scope s H ex) tg g) (hif:∀s H ex,PIf (cxIn X scope s H ex) ifs tt) (hel:∀s H ex,PE (cxIn X scope s H ex) elt te)
  {pins:List (Addr×Obj)} {σ:St} {H:Hp} {s:Shared} {E:Value->Shared->Prop} (I:Inv X pins σ H s) {fp:List Addr} {it:Addr} {tn:Nat->Heap->Prop} {J:It} (T:Turn X.prog X.w X.K tg J fp it tn)
  (hfp:∀b∈fp,FpOk X pins H b) (ht:tn 0 s.heap) {Q:Addr->Hp->Prop} {RR:Value->Addr->Result->Shared->Prop}
  (hR:∀(D:Addr) (H3:Hp) (s3:Shared) (τ:St) (H':Hp) (s':Shared),Inv X pins σ H3 s3->(∀b∈fp,FpOk X pins H3 b/\b<s3.heap.objs.size)->Inv (cxIn X scope s3 H3 fp) [] τ H' s'->Q D H'->RR (.ref D) s3.heap.objs.size (.ok .next) s')
  (q:∀D,H D=none->cBlock J g tt te D (inSt X.N scope.names σ) (Q D) (upd H D (.lst []))):
  wpAny (model X.prog X.w) X.A (newList []) (fun acc s₃=>wpAny (model X.prog X.w) X.A (newFunctionEnv scope X.env.globals (clOf X.env scope.names []) [] X.env.qual none .none (some X.env)) (fun cenv s₄=>
   codeAny (model X.prog X.w) X.A (.compStart (.ListComp elt [⟨tg,iter,ifs,0⟩] scope pos) 0 (.ref it) acc {cenv with scope:=relabel scope X.env}) (RR acc cenv.locals) s₄) E s₃) E s:=by
 have hlt:∀b∈fp,b<s.heap.objs.size:=fun b hb=>by
  obtain⟨o,e,_⟩:=T.obj _ _ ht b hb
  exact Heap.lt_size e
 refine wpAny_newList ?_
 have I3:=I.lnew (ys:=[]) (its:=[]) (t':=s.toks) .nil (Nat.zero_le _)
 have hD:H s.heap.objs.size=none:=I.hok.fresh (Nat.le_refl _)
 have hsz3:(s.heap.push {cls:= .type "list",data:= .seq ([]:List Value).toArray}).objs.size=s.heap.objs.size+1:=Heap.size_push ..
 have hfp3:∀b∈fp,FpOk X pins (upd H s.heap.objs.size (.lst [])) b/\b<({s with heap:=s.heap.push {cls:= .type "list",data:= .seq ([]:List Value).toArray},toks:=s.toks}:Shared).heap.objs.size:=fun b hb=>by
  refine⟨⟨?_,(hfp b hb).2⟩,?_⟩
  ·rw[upd_ne (Nat.ne_of_lt (hlt b hb))];exact(hfp b hb).1
  ·show b<(s.heap.push _).objs.size
   rw[hsz3]
   exact Nat.lt_succ_of_lt (hlt b hb)
 refine wpAny_newFunctionEnv S.nocell (by intro y hy;simp at hy) (fun h₁ hns₁ hsb₁=> ?_) S.kind
 dsimp only at hns₁ hsb₁ ⊢
 have k1:∀b o,(s.heap.push {cls:= .type "list",data:= .seq ([]:List Value).toArray}).get? b=some o->h₁.get? b=some o:=fun b o e=>hsb₁.extBut b o (Nat.ne_of_lt (Heap.lt_size e)) (Heap.get?_push_of_some _ e)
 have I4:=inv_in (t':=s.toks) S I3 hfp3 (h':=h₁) hns₁ k1
 have ht1:tn 0 h₁:=T.keep _ _ _ ht fun b hb o e=>k1 b o (Heap.get?_push_of_some _ e)
 have loop:codeAny (model X.prog X.w) X.A (.compLoop (.ListComp elt [⟨tg,iter,ifs,0⟩] scope pos) 0 (.ref it) (.ref s.heap.objs.size) (cxIn X scope {s with heap:=s.heap.push {cls:= .type "list",data:= .seq ([]:List Value).toArray},toks:=s.toks} (upd H s.heap.objs.size (.lst [])) fp).env)
   (RR (.ref s.heap.objs.size) (s.heap.push {cls:= .type "list",data:= .seq ([]:List Value).toArray}).objs.size) {s with heap:=h₁,toks:=s.toks}:=
  loop_in S hc hg hif hel I3 T hfp3 (fun τ H' s' I' q'=>hR _ _ _ τ H' s' I3 hfp3 I' q') I4 ht1 (q _ hD)
 exact codeAny_compStart_list loop (T.self _ 0 _ _ _ ht1 loop)
theorem pe_comp (S:InScope X scope) (hc:X.calm=true) (hi:PI X tg iter wi) (hg:∀s H ex,PG (cxIn X scope s H ex) tg g) (hif:∀s H ex,PIf (cxIn X scope s H ex) ifs tt) (hel:∀s H ex,PE (cxIn X scope s H ex) elt te)
  (hs:∀x,foldedSetIterable iter X.env x=pure x:=by intro _;rfl):PE X (.ListComp elt [⟨tg,iter,ifs,0⟩] scope pos) (tComp X.N scope.names wi g tt te):=by
 intro pins s σ H Q I h
 rw[eval_ListComp]
 refine wpAny_comprehension_free (use:=none) rfl hs (clos_eq (S.cellOf I.ok)) S.kind S.loc (thn (hi pins s σ H _ I h) fun v s1 h1=>thn h1 fun itv s2 h2=> ?_)
 obtain⟨it,fp,tn,J,H2,e,I2,T,st2,f2,q⟩:=h2
 subst e
 refine block_in (Q:=fun D H2=>Q (.ref D) H2) (RR:=fun acc C=>compPost (model X.prog X.w) X.A X.xe none (EP X pins σ Q) acc C) S hc hg hif hel I2 T f2 st2 ?_ q
 intro D H3 s3 τ H' s' I3 f3 I' q'
 obtain⟨m,hm,_⟩:=I'.loc
 refine⟨m,hm,fun h' hs'=> ?_⟩
 exact⟨.ref D,H',inv_out (t':=s'.toks) I3 f3 I' fun b o hb e=>hs'.extBut b o hb e,rfl,q'⟩
noncomputable def sComp (N:List Str) (names:List (Str×NameKind)) (wi:TI) (g:TG) (tt:TT) (te:TE) (gy:TG):TS:=fun D σ H=>
 wi σ H fun J H1=>∀p,H1 p=none->cBlock J g tt te p (inSt N names σ) (fun H2=>gy (.ref p) σ H2 D.nx) (upd H1 p (.lst []))
theorem ps_comp {y:Str} {py spos:Pos} {gy:TG} (S:InScope X scope) (hc:X.calm=true) (hi:PI X tg iter wi) (hg:∀s H ex,PG (cxIn X scope s H ex) tg g) (hif:∀s H ex,PIf (cxIn X scope s H ex) ifs tt)
  (hel:∀s H ex,PE (cxIn X scope s H ex) elt te) (hy:PG X (.Name y py) gy) (hsw:swapsWith (.ListComp elt [⟨tg,iter,ifs,0⟩] scope pos) (some (.Name y py)) spos.line X.env=pure true:=by rfl)
  (hs:∀x,foldedSetIterable iter X.env x=pure x:=by intro _;rfl):PS X (.Assign [.Name y py] (.ListComp elt [⟨tg,iter,ifs,0⟩] scope pos) spos) (sComp X.N scope.names wi g tt te gy):=by
 intro pins s σ H D I h
 rw[exec_Assign_Name_used _ _ _ _ hsw]
 refine wpAny_bind (wpAny_standAt (wpAny_bind ?_))
 show wpAny _ X.A (do let _<-comprehension (.ListComp elt [⟨tg,iter,ifs,0⟩] scope pos) scope X.env _ (newList []) false (eval iter X.env) (some (assign (.Name y py) X.env))) _ _ s
 refine wpAny_bind (wpAny_mono (wpAny_comprehension_free (use:=some (assign (.Name y py) X.env)) (Q:=fun _ s'=>SP X pins D .next s') rfl hs (clos_eq (S.cellOf I.ok)) S.kind S.loc
  (thn (hi pins s σ H _ I h) fun v s1 h1=>thn h1 fun itv s2 h2=> ?_)) (fun _ s' hq=>wpAny_pure (wpAny_pure hq)) fun _ _ e=>e)
 obtain⟨it,fp,tn,J,H2,e,I2,T,st2,f2,q⟩:=h2
 subst e
 refine block_in (Q:=fun p H2=>gy (.ref p) σ H2 D.nx) (RR:=fun acc C=>compPost (model X.prog X.w) X.A X.xe (some (assign (.Name y py) X.env)) (fun _ s'=>SP X pins D .next s') acc C) S hc hg hif hel I2 T f2 st2 ?_ q
 intro p H3 s3 τ H' s' I3 f3 I' q'
 obtain⟨m,hm,_⟩:=I'.loc
 obtain⟨oC,es,ep,hoC,hdC,hkC,hmC⟩:=hm
 have J1:Inv X pins σ H' s':=inv_out (t':=s'.toks) (h':=s'.heap) I3 f3 I' fun b o _ e=>e
 have hC0:H' s3.heap.objs.size=none:=I'.free
 have hCl:s3.heap.objs.size≠X.env.locals:=fun z=>by have:=I3.lt;rw[<-z]at this;exact Nat.lt_irrefl _ this
 have J2:Inv X (pins++[(s3.heap.objs.size,oC)]) σ H' s':=J1.pins_of fun q hq=>by
  rcases List.mem_append.mp hq with hq|hq
  ·exact J1.pin q (List.mem_append_right _ hq)
  ·have e:q=(s3.heap.objs.size,oC):=by simpa using hq
   subst e
   exact⟨hoC,hC0,hCl,I3.nofs (Nat.le_refl _),fun v z=>by rw[hdC]at z;cases z⟩
 refine thn (hy _ s' σ H' (.ref p) (.ref p) D.nx J2 rfl q') fun _ s'' z_=> ?_
 obtain⟨σ5,H5,I5,q5⟩:=z_
 have hp:=I5.pin (s3.heap.objs.size,oC) (List.mem_append_right _ (List.mem_append_right _ List.mem_cons_self))
 refine⟨m,⟨oC,es,ep,hp.1,hdC,hkC,hmC⟩,fun h' hs'=> ?_⟩
 refine⟨σ5,H5,(I5.unpinned).turned (it:=s3.heap.objs.size) (t':=s''.toks) (fun b o hb e=>hs'.extBut b o hb e) hp.2.1 hCl (.inr I3.sz) (fun x c hx z=> ?_) (fun q hq z=> ?_),q5⟩
 ·obtain⟨v,o,ho,_⟩:=I3.cell x c hx
  have:=Heap.lt_size ho
  rw[z]at this
  exact Nat.lt_irrefl _ this
 ·have:=(I3.pin q hq).1
  have:=Heap.lt_size this
  rw[z]at this
  exact Nat.lt_irrefl _ this
end
end L2
namespace L2
open PySem PySem.Spec PyProof.Rows
section
variable {X:Cx} {e a b st:Expr} {te ta tb:TE} {tst:TO} {pos p2 p:Pos}
noncomputable def tRev (K:PySem.W.Frag) (te:TE) (tst:TO):TE:=fun σ H Q=>te σ H fun x H1=>tst σ H1 fun o H2=>o=some (-1)/\∃a xs,x= .ref a/\SqL K H2 a xs/\∀p,H2 p=none->Q (.ref p) (upd H2 p (.lst xs.reverse))
theorem pe_rev (he:PE X e te) (hst:PO X (some st) tst):PE X (.Subscript e (.Slice none none (some st) p2) pos) (tRev X.K te tst):=by
 intro pins s σ H Q I h
 refine Subscript_ (thn (he pins s σ H _ I h) fun v s1 z_=> ?_)
 obtain⟨x,H1,I1,r1,q1⟩:=z_
 refine wpAny_Slice ?_
 rw[evalPart_none]
 refine wpAny_pure ?_
 try rw[evalPart_none]
 refine wpAny_pure ?_
 refine thn (hst pins s1 σ H1 _ I1 q1) fun vk s2 z_=> ?_
 obtain⟨o,H2,I2,pk,ho,a,xs,ex,hx,q⟩:=z_
 subst ho
 subst ex
 cases r1
 have I3:Inv X pins σ H2 {s2 with heap:=s2.heap.push {cls:= .type "slice",data:= .fields #[.none, .none,vk]}}:=I2.kept (t':=s2.toks) fun b ob q=>Heap.get?_push_of_some _ q
 obtain⟨its,r,ht,hz⟩:=I3.list hx
 have hlen:=r.length
 show wpAny (model X.prog X.w) X.A (subscriptTail e (.Slice none none (some st) p2) (.ref a) (.ref s2.heap.objs.size)) (EP X pins σ Q) X.xe {s2 with heap:=s2.heap.push {cls:= .type "slice",data:= .fields #[.none, .none,vk]}}
 refine tail_any (ops:=[.ref a, .ref s2.heap.objs.size]) ht.isList.typeIs slot_list_getitem.lookup ?_ (by with_unfolding_all rfl)
 refine wpAny_getItem_list_slice ht.isList (Heap.IsSliceOf.new ..) .none .none pk (by decide) ?_ (by rw[List.size_toArray]<;>omega)
 rw[PySem.W.krv_pick]
 refine⟨.ref _,_,I3.laid (t':=s2.toks) (o:= .lst xs.reverse) (fun b ob q=>Heap.get?_push_of_some _ q) (Nat.le_refl _) ?_,rfl,q _ (I3.hok.fresh (Nat.le_refl _))⟩
 exact⟨by rw[List.length_reverse];exact hz,its.reverse,0,r.reverse,Heap.get?_push_size _ rfl⟩
noncomputable def rIsi (K:PySem.W.Frag):List V->Hp->VK->Prop:=fun xs H Q=>∃x T t k,xs=[x, .ty T]/\TyOf K H x t/\PySem.W.kitOne K t (.type T)=some k/\Q (.bl k) H
theorem call_isi:CallR X (.builtin "isinstance") (rIsi X.K):=by
 intro pins s σ H xs us Q I rv h
 obtain⟨x,T,t,k,rfl,ty,e,q⟩:=h
 obtain⟨u,w',rfl,ru,rw'⟩:=vals2 rv
 cases rw'
 exact isinst_ok I ru ty e fun tk=>⟨.bl k,H,I.tok tk,rfl,q⟩
theorem boot_isi:bootBuiltins "isinstance"=some (.builtin "isinstance"):=by decide+kernel
noncomputable def insI (x:Int):List Int->List Int
 |[]=>[x]
 |y::r=>if x<=y then x::y::r else y::insI x r
noncomputable def sortI:List Int->List Int
 |[]=>[]
 |x::r=>insI x (sortI r)
theorem insI_perm (x:Int):∀l:List Int,(insI x l).Perm (x::l)
 |[]=>List.Perm.refl _
 |y::r=>by
  unfold insI
  split
  ·exact List.Perm.refl _
  ·exact(List.Perm.cons y (insI_perm x r)).trans (List.Perm.swap x y r)
theorem sortI_perm:∀l:List Int,(sortI l).Perm l
 |[]=>List.Perm.refl _
 |x::r=>(insI_perm x _).trans (List.Perm.cons x (sortI_perm r))
theorem insI_sorted (x:Int):∀{l:List Int},l.Pairwise (·<=·)->(insI x l).Pairwise (·<=·)
 |[],_=>by simp[insI]
 |y::r,h=>by
  obtain⟨h1,h2⟩:=List.pairwise_cons.mp h
  unfold insI
  split
  ·rename_i hxy
   refine List.pairwise_cons.mpr ⟨fun z hz=> ?_,h⟩
   rcases List.mem_cons.mp hz with rfl|hz
   ·exact hxy
   ·exact Int.le_trans hxy (h1 z hz)
  ·rename_i hxy
   refine List.pairwise_cons.mpr ⟨fun z hz=> ?_,insI_sorted x h2⟩
   rcases List.mem_cons.mp ((insI_perm x r).mem_iff.mp hz)with rfl|hz
   ·omega
   ·exact h1 z hz
theorem sortI_sorted:∀l:List Int,(sortI l).Pairwise (·<=·)
 |[]=>List.Pairwise.nil
 |x::r=>insI_sorted x (sortI_sorted r)
theorem sorted_unique:∀{a b:List Int},a.Perm b->a.Pairwise (·<=·)->b.Pairwise (·<=·)->a=b
 |[],b,p,_,_=>(List.nil_perm.mp p).symm
 |x::a,[],p,_,_=>(List.perm_nil.mp p)
 |x::a,y::b,p,h1,h2=>by
  obtain⟨a1,a2⟩:=List.pairwise_cons.mp h1
  obtain⟨b1,b2⟩:=List.pairwise_cons.mp h2
  have e:x=y:=by
   have hx:x∈y::b:=p.mem_iff.mp List.mem_cons_self
   have hy:y∈x::a:=p.mem_iff.mpr List.mem_cons_self
   rcases List.mem_cons.mp hx with h|h
   ·exact h
   ·rcases List.mem_cons.mp hy with h'|h'
    ·exact h'.symm
    ·exact Int.le_antisymm (a1 y h') (b1 x h)
  subst e
  rw[sorted_unique ((List.perm_cons x).mp p) a2 b2]
theorem call_sortedI:CallR X (.builtin "sorted") (fun xs H Q=>∃p ns,xs=[.ref p]/\SqL X.K H p (ns.map V.int)/\ns.length<64/\∀l,H l=none->Q (.ref l) (upd H l (.lst ((sortI ns).map V.int)))):=by
 intro pins s σ H xs us Q I rv h
 obtain⟨p,ns,rfl,hx,hl,q⟩:=h
 obtain⟨u,rfl,ru⟩:=vals1 rv
 cases ru
 obtain⟨its,r,ht,hz⟩:=I.list hx
 have hi:=intsAre_of r
 have hlen:=r.length
 rw[List.length_map]at hlen
 refine sorted_ints ht.isList hi (by omega) fun out ns' a1 a2 a3=> ?_
 obtain⟨e,he⟩:=sortedAll_at s.heap its out
 have en:ns'=sortI ns:=sorted_unique (a2.trans (sortI_perm ns).symm) a3 (sortI_sorted ns)
 subst en
 have k:∀b o,s.heap.get? b=some o->(sortedAll s.heap its out).get? b=some o:=fun b o e=>sortedAll_old e
 refine⟨.ref (s.heap.objs.size+1),_,I.laid (t':=s.toks) (o:= .lst ((sortI ns).map V.int)) k (Nat.le_succ _) ?_,rfl,q _ (I.hok.fresh (Nat.le_succ _))⟩
 refine⟨?_,out.toList,e,vals_ints a1,by simpa[seqObj]using he⟩
 have h1:=a2.length_eq
 rw[List.length_map]at hz ⊢
 omega
end
end L2
namespace L2
open PySem PySem.Spec PyProof.Rows
section
variable {P:Program} {w:World} {H:Hp} {h h':Heap} {a:Addr} {o:HO}
theorem ObjOk.got (x:ObjOk P w H h a o):∃u,h.get? a=some u:=by
 cases o with
 |lst xs=>obtain⟨_,_,_,_,e⟩:=x;exact⟨_,e⟩
 |tup xs=>obtain⟨_,_,_,p⟩:=x;obtain⟨o,e,_⟩:=p;exact⟨_,e⟩
 |dK kvs=>obtain⟨_,_,_,_,o,_,_,e,_⟩:=x;exact⟨_,e⟩
 |dT kvs=>obtain⟨_,_,_,_,o,_,_,e,_⟩:=x;exact⟨_,e⟩
 |set S n=>obtain⟨o,_,_,_,e,_⟩:=x;exact⟨_,e⟩
 |ins C dx fs=>obtain⟨_,_,_,e,_⟩:=x;exact⟨_,e⟩
 |own y=>obtain⟨_,e⟩:=x;exact⟨_,e⟩
 |xd fs=>obtain⟨_,⟨_,_,_,e,_⟩,_⟩:=x;exact⟨_,e⟩
 |rng lo hi=>obtain⟨_,_,_,e⟩:=x;exact⟨_,e⟩
 |frz ob u=>obtain⟨e,_⟩:=x;exact⟨_,e⟩
 |tbl ps=>exact⟨_,x⟩
 |met f y=>exact⟨_,x⟩
 |ext φ=>obtain⟨_,e,_⟩:=x;exact e
theorem HOk.nowhere (x:HOk P w H h) (hn:h.get? a=none):H a=none:=by
 cases e:H a with
 |none=>rfl
 |some o=>obtain⟨u,q⟩:=(x a o e).got;rw[hn]at q;cases q
end
section
variable {X:Cx} {pins:List (Addr×Obj)} {σ:List (Option V)} {H:Hp} {s:Shared} {h':Heap}
theorem Inv.laidAt {a:Addr} {o:HO} {t':Nat} (I:Inv X pins σ H s) (k:∀b u,s.heap.get? b=some u->h'.get? b=some u) (hn:s.heap.get? a=none) (new:ObjOk X.prog X.w (upd H a o) h' a o):
  Inv X pins σ (upd H a o) {s with heap:=h',toks:=t'}:=by
 have hH:=I.hok.nowhere hn
 have hne:∀b u,s.heap.get? b=some u->b≠a:=fun b u q z=>by rw[z,hn]at q;cases q
 refine I.un ⟨fun b u q _ _ _=>k b u q,fun b u q _ _ _=>⟨u.slots,k b u q⟩,fun b u q n _=>by rw[upd_ne (hne b u q)];exact n,fun b u q _=>⟨u,k b u q⟩,fun b xs q=>by rw[upd_ne (ne_of_none q hH)];exact q,
  fun b u xs q=>by rw[upd_ne (ne_of_none q hH)];exact q,fun b ps q=>⟨#[],by rw[upd_ne (ne_of_none q hH),q];simp⟩⟩ fun b u e=> ?_
 by_cases hb:b=a
 ·subst hb;rw[upd_same]at e;cases e;exact new
 ·rw[upd_ne hb]at e
  exact(I.hok b u e).stay (fun c v _ q=>k c v q) (fun c q=>by rw[upd_ne (ne_of_none q hH)];exact q) fun c xs q=>by rw[upd_ne (ne_of_none q hH)];exact q
end
section
variable {X:Cx}
theorem vals_items {ns:List Int} {acc:Array Value} (h:ItemsOf (fun i v=>∃n t,ns[i]? =some n/\v= .int n t) acc ns.length):Vals (ns.map V.int) acc.toList:=by
 have key:∀(vs:List Value) (ns:List Int),vs.length=ns.length->(∀(j:Nat) v,vs[j]? =some v->∃n t,ns[j]? =some n/\v= .int n t)->Vals (ns.map V.int) vs:=by
  intro vs
  induction vs with
  |nil=>intro ns h1 _;cases ns with
   |nil=>exact .nil
   |cons _ _=>cases h1
  |cons v r ih=>
   intro ns h1 h2
   cases ns with
   |nil=>cases h1
   |cons n ns=>
    obtain⟨m,t,e1,e2⟩:=h2 0 v rfl
    simp at e1
    subst e1
    refine .cons ⟨t,e2⟩ (ih ns (by simpa using h1) fun j v hv=> ?_)
    have:=h2 (j+1) v (by simpa using hv)
    simpa using this
 refine key acc.toList ns (by rw[Array.length_toList];exact h.1) fun j v hv=>h.2 j v (by rw[<-Array.getElem?_toList];exact hv)
theorem call_sortedD (hc:X.calm=true):CallR X (.builtin "sorted") (fun xs H Q=>∃p kvs ns,xs=[.ref p]/\H p=some (.dK kvs)/\kvs.map (·.1)=ns.map Sum.inl/\ns.length<64/\∀l,H l=none->Q (.ref l) (upd H l (.lst ((sortI ns).map V.int)))):=by
 intro pins s σ H xs us Q I rv h
 obtain⟨p,kvs,ns,rfl,hp,hk,hl,q⟩:=h
 obtain⟨u,rfl,ru⟩:=vals1 rv
 cases ru
 obtain⟨z,hd,vs,rel,dd⟩:=dk_of I.hok hp
 obtain⟨ep,hat⟩:=dd.dictAt
 have hlen:vs.length=ns.length:=by
  rw[<-rel.length]
  have:=congrArg List.length hk
  simpa using this
 refine Calls.call_function_entry kind_sorted plain_sorted entry_sorted (args_sorted1 _) ?_
 unfold Builtin.«sorted»
 refine wpAny_bind (m:=checkCount "sorted" 1 1 _) (wpAny_pure ?_)
 refine wpAny_bind (PySem.W.kdu_collect (A:=X.A.in1) (PySem.W.kdl_dict (knd:=mixKind X.prog X.w) (kvs:=vs) (ep:=ep) hd) (I.ok.hd hc) hat (by rw[<-rel.length];exact z) fun h' tk acc hk' hacc=> ?_)
 have hI:IntsAre acc.toList ns:=by
  refine intsAre_of (vals_items ⟨by rw[hacc.1];exact hlen,fun j v hv=> ?_⟩)
  obtain⟨k,x,hx,hkey⟩:=hacc.2 j v hv
  have hkk:(vs.map (·.1))[j]? =some k:=by rw[List.getElem?_map,hx];rfl
  rw[<-rel.keys,hk,List.getElem?_map]at hkk
  cases e:ns[j]? with
  |none=>rw[e]at hkk;cases hkk
  |some n=>
   rw[e]at hkk
   cases hkk
   rcases keyIs_shape (show keyIs (Sum.inl n) v=true from hkey)with ⟨i,t,e1,e2⟩|⟨x',t,e1,e2⟩
   ·cases e1;exact⟨n,t,rfl,e2⟩
   ·cases e1
 have hl2:acc.toList.length=ns.length:=by rw[Array.length_toList,hacc.1];exact hlen
 refine wpAny_bind (wpAny_newList ?_ (by rw[hl2];have:sizeLine=16777216:=sizeLine_eq;omega))
 have hoL:(h'.push (seqObj "list" acc.toList.toArray 0)).get? h'.objs.size=some (seqObj "list" acc.toList.toArray 0):=Heap.get?_push_size _ rfl
 refine wpAny_bind (wpAny_holding (wpAny_call_entry slot_list_sort ⟨_,hoL,rfl⟩ entry_list_sort (list_sort_tree hoL hI (by omega) fun out ns' a1 a2 a3=>⟨_,rfl,?_⟩) (args_list_sort _)))
 refine wpAny_pure ⟨_,rfl,?_⟩
 have en:ns'=sortI ns:=sorted_unique (a2.trans (sortI_perm ns).symm) a3 (sortI_sorted ns)
 subst en
 obtain⟨e,he⟩:=sortedHeap_at (out:=out) hoL
 have hfr:s.heap.get? h'.objs.size=none:=by
  cases e:s.heap.get? h'.objs.size with
  |none=>rfl
  |some o=>exact absurd (Heap.lt_size (hk' _ _ e)) (Nat.lt_irrefl _)
 have kk:∀b o,s.heap.get? b=some o->(sortedHeap (h'.push (seqObj "list" acc.toList.toArray 0)) h'.objs.size acc.toList out).get? b=some o:=fun b o eb=>by
  have hb:=hk' b o eb
  have hlt:b<h'.objs.size:=Heap.lt_size hb
  rw[sortedHeap_old (Nat.ne_of_lt hlt) (by rw[size_push'];exact Nat.lt_succ_of_lt hlt)]
  exact Heap.get?_push_of_some _ hb
 refine⟨.ref h'.objs.size,_,I.laidAt (o:= .lst ((sortI ns).map V.int)) kk hfr ⟨?_,out.toList,e,vals_ints a1,by simpa[seqObj]using he⟩,rfl,q _ (I.hok.nowhere hfr)⟩
 have:=a2.length_eq
 rw[List.length_map]
 have:sizeLine=16777216:=sizeLine_eq
 omega
end
end L2
namespace L2
open PySem PySem.Spec PyProof.Rows
theorem nolen_lri:typeLookup (.type "list_reverseiterator") "__len__"=pure none:=by rw[typeLookup_type,builtinLookup_eq_fast];kernel_rfl
theorem hint_lri:typeLookup (.type "list_reverseiterator") "__length_hint__"=pure (some (.builtin "list_reverseiterator.__length_hint__")):=by rw[typeLookup_type,builtinLookup_eq_fast];kernel_rfl
section
variable {prog:Program} {w:World} {A:Around} {E:Value->Shared->Prop} {s:Shared} {I:Addr} {fp wr:List Addr} {G:Array GenState->Array GenState->Prop} {n:Nat} {P:Nat->Value->Prop} {St:Nat->Shared->Prop}
theorem collect_lri {Q:List Value->Shared->Prop} (W:WalksS prog w A.in1 I fp wr G n P St) (hT:∀i s,St i s->s.TypeIs (.ref I) "list_reverseiterator") (hst:St 0 s) (hfp:∀b∈fp,b<s.heap.objs.size) (hI:I∈fp)
  (hQ:∀s' acc,Moved wr G s s'->ItemsOf P acc n->Q acc.toList s') (hn:n<=sizeLine):wpAny (model prog w) A (collect (.ref I)) Q E s:=by
 have hSf:s.heap.objs.size∉fp:=fun hm=>Nat.lt_irrefl _ (hfp _ hm)
 have hSI:s.heap.objs.size≠I:=fun e=>hSf (e▸hI)
 unfold collect
 refine wpAny_bind (wpAny_runValue (codeAny_builtin PySem.F.entry_proto_collect ?_))
 rw[Around.under_plainId PySem.F.plain_proto_collect _]
 show wpAny _ A.in1 (newList []>>=fun l=>again (.builtin "list.__iadd__" ⟨[l, .ref I],[]⟩)) _ _ s
 refine wpAny_bind (wpAny_newObj_type ?_)
 refine wpAny_pure ⟨plainId_quiet PySem.F.plain_list_iadd _,codeAny_builtin PySem.F.entry_list_iadd ?_⟩
 rw[Around.under_plainId PySem.F.plain_list_iadd _]
 have hst₁:=W.frame 0 s (s.heap.push {cls:= .type "list",data:= .seq ([]:List Value).toArray}) s.toks hst (Nat.le_refl _) fun b _ o e=>Heap.get?_push_of_some _ e
 have hS₁:(s.heap.push {cls:= .type "list",data:= .seq ([]:List Value).toArray}).get? s.heap.objs.size=some {cls:= .type "list",data:= .seq ([]:List Value).toArray}:=Heap.get?_push_size _ rfl
 have h1:Builtin.List.listSameRef (.ref s.heap.objs.size) (.ref I)=false:=by simp[Builtin.List.listSameRef,hSI]
 show wpAny _ A.in1 (Builtin.List.listExtendWith (.ref s.heap.objs.size) (.ref I) (.ref s.heap.objs.size)) _ _ _
 unfold Builtin.List.listExtendWith
 refine wpAny_bind (wpAny_typeOf (hT 0 _ hst₁) ?_)
 rw[if_neg (by rw[h1];decide)]
 refine wpAny_bind (W.self 0 _ _ _ hst₁ ?_)
 refine wpAny_bind (wpAny_holding ?_)
 unfold Builtin.List.listLengthHint
 refine wpAny_bind (wpAny_specialOf (hT 0 _ hst₁) nolen_lri ?_)
 show wpAny _ A.in1 (specialOf (Value.ref I) (Str.ofString "__length_hint__")>>=_) _ _ _
 refine wpAny_bind (wpAny_specialOf (hT 0 _ hst₁) hint_lri ?_)
 (generalize hid:("list_reverseiterator.__length_hint__":String)=id0;(fail_if_success (clear hid id0));wp_delta;rw[show splitId id0=some ("list_reverseiterator","__length_hint__")from by subst hid;decide+kernel];subst hid)
 refine wpAny_bind (wpAny_isInstance (b:=true) (hT 0 _ hst₁) (by rw[isSubtype_type];kernel_rfl) ?_)
 refine wpAny_pure ?_
 rw[if_neg (by decide)]
 refine wpAny_pure ⟨plainId_quiet PySem.F.plain_extend_loop _,codeAny_extend_loopS W hn _ hSf _ n 0 _ _ _ rfl (Nat.zero_le _) hst₁ hS₁ (ItemsOf.nil P) fun s' acc' c' hm hS' hacc=> ?_⟩
 show wpAny _ A (load s.heap.objs.size>>=_) _ _ s'
 refine wpAny_bind (wpAny_load hS' ?_)
 exact wpAny_pure (hQ s' acc' (Moved.drop_new (o:={cls:= .type "list",data:= .seq ([]:List Value).toArray}) (tk:=s.toks) hm (Nat.le_refl _)) hacc)
theorem code_tuple_new_lri {Q₁:Value->Shared->Prop} (W:WalksS prog w A.in1.in1 I fp wr G n P St) (hT:∀i s,St i s->s.TypeIs (.ref I) "list_reverseiterator") (hst:St 0 s) (hfp:∀b∈fp,b<s.heap.objs.size) (hI:I∈fp)
  (h:∀s' acc,Moved wr G s s'->ItemsOf P acc n->Q₁ (.ref s'.heap.objs.size) {s' with heap:=s'.heap.push {cls:= .type "tuple",data:= .seq acc}}) (hsz:n<=sizeLine):
  codeAny (model prog w) A (.call (.builtin "tuple.__new__") ⟨[.type "tuple", .ref I],[]⟩) (wants Q₁ E) s:=by
 refine codeAny_of_tree ?_
 show wpAny _ A.in1 (do checkBuiltinCall "tuple.__new__" ⟨[.type "tuple", .ref I],[]⟩;again (.builtin "tuple.__new__" ⟨[.type "tuple", .ref I],[]⟩)) _ _ s
 refine wpAny_bind (wpAny_of_eq (PySem.F.newCall_tuple_1 _) (wpAny_pure ⟨plainId_quiet PySem.F.plain_tuple_new _,codeAny_builtin PySem.F.entry_tuple_new ?_⟩))
 rw[Around.under_plainId PySem.F.plain_tuple_new _]
 have hsub:=sub_tuple_self
 have hinit:=init_tuple_lookup
 have hmh:=madeHere_tuple
 have hTI:=hT 0 s hst
 wp_walk using wpAny_typeOf hTI,collect_lri (hn:=hsz) W hT hst hfp hI
 intro s' acc hm hacc
 show wpAny _ _ (Builtin.Tuple.tupleExact acc.toList.toArray>>=fun v=>ret v) _ _ _
 unfold Builtin.Tuple.tupleExact
 refine wpAny_bind (wpAny_newObj_type ?_ (by show acc.toList.toArray.size<=sizeLine;simp only[Array.toArray_toList];rw[hacc.1];exact hsz))
 refine wpAny_pure ?_
 have e:acc.toList.toArray=acc:=by simp
 rw[e]
 exact h s' acc hm hacc
theorem call_tuple_lri {Q:Value->Shared->Prop} (W:WalksS prog w A.in1.in1.in1 I fp wr G n P St) (hT:∀i s,St i s->s.TypeIs (.ref I) "list_reverseiterator") (hst:St 0 s) (hfp:∀b∈fp,b<s.heap.objs.size) (hI:I∈fp)
  (hQ:∀s' acc,Moved wr G s s'->ItemsOf P acc n->Q (.ref s'.heap.objs.size) {s' with heap:=s'.heap.push {cls:= .type "tuple",data:= .seq acc}}) (hsz:n<=sizeLine):
  wpAny (model prog w) A (call (.type "tuple") [.ref I]) Q E s:=by
 refine callType_codes (Q₁:=fun obj s₁=>s₁.TypeIs obj "tuple"/\Q obj s₁) PySem.F.called_tuple (PySem.F.typeCall_tuple_1 _) PySem.F.entry_object_init
  (code_tuple_new_lri (hsz:=hsz) W hT hst hfp hI fun s' acc hm hacc=>⟨⟨_,Heap.get?_push_size _ rfl,rfl⟩,hQ s' acc hm hacc⟩) fun obj s₁ h₁=> ?_
 exact⟨h₁.1,PySem.F.args_object_init_2 obj _,object_init_meets PySem.F.called_tuple.init.lookup PySem.F.called_tuple.made (by decide) prog w A.in1 _ s₁ ⟨h₁.1,rfl,h₁.2⟩⟩
end
section
variable {X:Cx} {e:Expr} {te:TE} {pos p1 p2 pos2:Pos}
noncomputable def tTupRev (K:PySem.W.Frag) (te:TE):TE:=fun σ H Q=>te σ H fun x H1=>∃a xs,[x]=[V.ref a]/\SqL K H1 a xs/\∀l,H1 l=none->Q (.ref l) (upd H1 l (.tup xs.reverse))
theorem boot_reversed:bootBuiltins "reversed"=some (.type "reversed"):=by decide+kernel
theorem boot_tuple0:bootBuiltins "tuple"=some (.type "tuple"):=by decide+kernel
theorem pe_tupRev (hc:X.calm=true) (he:PE X e te) (hmt:X.mg "tuple"=none) (hmr:X.mg "reversed"=none) (hgt:Gl X "tuple") (hgr:Gl X "reversed")
  (he1:starEach [e] X.env=(false,eval e X.env)::starEach [] X.env) (hpl1:(backTo pos2 (starEach [] X.env)).any (·.1)=false)
  (he2:starEach [.Call (.Name "reversed" p2) [e] [] pos2] X.env=(false,eval (.Call (.Name "reversed" p2) [e] [] pos2) X.env)::starEach [] X.env) (hpl2:(backTo pos (starEach [] X.env)).any (·.1)=false):
  PE X (.Call (.Name "tuple" p1) [.Call (.Name "reversed" p2) [e] [] pos2] [] pos) (tTupRev X.K te):=by
 intro pins s σ H Q I h
 refine wpAny_Call_Name_kw (ld_blt I hgt hmt boot_tuple0 ?_ (by decide) (by decide))
 refine PyProof.Rows.callWith_type1 ?_ he2 hpl2
 rw[he2]
 show wpAny _ _ (spliced ((false,eval (.Call (.Name "reversed" p2) [e] [] pos2) X.env)::backTo pos (starEach [] X.env))) _ _ s
 refine Calls.spliced_cons ?_
 refine wpAny_Call_Name_kw (ld_blt I hgr hmr boot_reversed ?_ (by decide) (by decide))
 refine PyProof.Rows.callWith_type1 ?_ he1 hpl1
 refine thn (pa_cons he pa_nil he1 pos2 pins s σ H (fun vs H1=>∃a xs,vs=[V.ref a]/\SqL X.K H1 a xs/\∀l,H1 l=none->Q (.ref l) (upd H1 l (.tup xs.reverse))) I h) fun us s1 z_=> ?_
 obtain⟨vs,H1,I1,r1,q1⟩:=z_
 obtain⟨a,xs,rfl,hx,q⟩:=q1
 obtain⟨u,rfl,ru⟩:=vals1 r1
 cases ru
 obtain⟨its,r,ht,hz⟩:=I1.list hx
 have hlen:=r.length
 refine call_reversed_list ht.isList ?_
 refine Calls.spliced_nil ?_
 have hl:(s1.heap.push (revObj a ((its.toArray.size:Int) - 1))).IsList a its.toArray:=ht.isList.push _
 have hlt:a<s1.heap.objs.size:=by obtain⟨o,ho,_⟩:=ht.isList;exact Heap.lt_size ho
 have W:=Walks.listRev (prog:=X.prog) (w:=X.w) (A:=X.A.in1.in1.in1) (I1.ok.hd hc) s1.heap.objs.size a (Nat.ne_of_lt hlt) its.toArray
 have hne:∀b o,s1.heap.get? b=some o->b≠s1.heap.objs.size:=fun b o e z=>absurd (Heap.lt_size e) (by rw[z];exact Nat.lt_irrefl _)
 refine call_tuple_lri W.toS (fun i s st=>st.2.1.typeIs) ⟨Nat.zero_le _,?_,hl⟩ (fun b hb=> ?_) (by simp) (fun s' acc hm hacc=> ?_) (by rw[List.size_toArray];omega)
 ·refine⟨_,Heap.get?_push_size _ rfl,rfl,?_⟩
  show Data.fields _=_
  simp
 ·show b<(s1.heap.push _).objs.size
  rw[size_push']
  rcases List.mem_cons.mp hb with rfl|hb
  ·exact Nat.lt_succ_self _
  ·rw[List.mem_singleton.mp hb];exact Nat.lt_succ_of_lt hlt
 ·have hk:∀b o,s1.heap.get? b=some o->s'.heap.get? b=some o:=fun b o e=>
   hm.heap b o (fun hI=>hne b o e (List.mem_singleton.mp hI)) (Heap.get?_push_of_some _ e)
  have hfr:s1.heap.get? s'.heap.objs.size=none:=by
   cases e:s1.heap.get? s'.heap.objs.size with
   |none=>rfl
   |some o=>exact absurd (Heap.lt_size (hk _ _ e)) (Nat.lt_irrefl _)
  rw[Moved.eq_with hm]
  have hv:Vals xs.reverse acc.toList:=by
   have e:acc.toList=its.reverse:=by
    refine List.ext_getElem? fun j=> ?_
    have h1:acc.size=its.length:=by have:=hacc.1;rwa [List.size_toArray]at this
    by_cases hj:j<its.length
    ·have ha:acc[j]? =some (acc[j]'(by omega)):=Array.getElem?_eq_getElem (by omega)
     have:=hacc.2 j _ ha
     rw[List.size_toArray,List.getElem?_toArray]at this
     rw[Array.getElem?_toList,ha,List.getElem?_reverse hj,this]
    ·rw[List.getElem?_eq_none (by rw[Array.length_toList];omega),List.getElem?_eq_none (by rw[List.length_reverse];omega)]
   rw[e]
   exact r.reverse
  refine⟨.ref s'.heap.objs.size,_,I1.laidAt (t':=s'.toks) (o:= .tup xs.reverse) (fun b o e=>Heap.get?_push_of_some _ (hk b o e)) hfr ⟨?_,acc.toList,hv,?_⟩,rfl,q _ (I1.hok.nowhere hfr)⟩
  ·rw[List.length_reverse];exact hz
  ·exact IsTupD.new _ _
end
end L2
namespace L2
open PySem PySem.Spec PyProof.Rows
theorem keys_none_list:typeLookup (.type "list") (Str.ofString "keys")=pure none:=by rw[typeLookup_type,builtinLookup_eq_fast];kernel_rfl
theorem keys_none_tuple:typeLookup (.type "tuple") (Str.ofString "keys")=pure none:=by rw[typeLookup_type,builtinLookup_eq_fast];kernel_rfl
theorem entry_dict_update_loop:entryFor table "dict.update.loop"=some Builtin.«dict.update.loop»:=entryFor_of_tree (by kernel_rfl)
theorem plain_dict_update_loop:plainId "dict.update.loop"=true:=by decide+kernel
section
variable {prog:Program} {w:World} {A:Around} {E:Value->Shared->Prop} {s:Shared} {a:Addr}
theorem nokeys_list {xs:Array Value} {k:Nat} {sl:Array (Option Value)} {Q:Option Value->Shared->Prop} (hx:s.heap.get? a=some {cls:= .type "list",dict:=none,data:= .seq xs k,slots:=sl}) (hA:A.handled=none)
  (h:∀h' tk,(∀b o,s.heap.get? b=some o->h'.get? b=some o)->Q none {s with heap:=h',toks:=tk}):wpAny (model prog w) A (getAttr? (.ref a) "keys") Q E s:=by
 obtain⟨hp,g,d,tk,os⟩:=s
 have hT:∀tk',(⟨hp,g,d,tk',os⟩:Shared).TypeIs (.ref a) "list":=fun _=>⟨_,hx,rfl⟩
 have f1:=sub_AttributeError
 have f3:=PySem.F.slot_list_getattribute.lookup
 have f4:=PySem.F.slot_list_getattribute.bind (.ref a)
 have f5:=am_list_getattr_none
 unfold getAttr? getAttrBy? getAttrBy
 repeat (any_goals (first|assumption|exact hT _|((with_reducible show wpAny _ _ (call (Value.builtin "list.__getattribute__") _ _) _ _ _);refine call_meets PySem.F.slot_list_getattribute (hT _) am_entry_list_getattribute (PySem.F.args_list_getattribute_2 _ _) (meets_getattribute_miss_list a xs k sl _ _ keys_none_list (by decide+kernel) (by size_fits)) ⟨hx,hA,fun h' tk' e hx'=> ?_⟩)|wp_step))
 obtain⟨t',u',he⟩:=hx'.there
 show wpAny _ _ (getattributeRaised _ _ _ _ _ _ _) _ _ _
 unfold getattributeRaised
 repeat (any_goals (first|assumption|wp_step))
 exact h _ _ hx'.of.keeps
theorem nokeys_tuple {xs:Array Value} {k:Nat} {sl:Array (Option Value)} {Q:Option Value->Shared->Prop} (hx:s.heap.get? a=some {cls:= .type "tuple",dict:=none,data:= .seq xs k,slots:=sl}) (hA:A.handled=none)
  (h:∀h' tk,(∀b o,s.heap.get? b=some o->h'.get? b=some o)->Q none {s with heap:=h',toks:=tk}):wpAny (model prog w) A (getAttr? (.ref a) "keys") Q E s:=by
 obtain⟨hp,g,d,tk,os⟩:=s
 have hT:∀tk',(⟨hp,g,d,tk',os⟩:Shared).TypeIs (.ref a) "tuple":=fun _=>⟨_,hx,rfl⟩
 have f1:=sub_AttributeError
 have f3:=PySem.F.slot_tuple_getattribute.lookup
 have f4:=PySem.F.slot_tuple_getattribute.bind (.ref a)
 have f5:=am_tuple_getattr_none
 unfold getAttr? getAttrBy? getAttrBy
 repeat (any_goals (first|assumption|exact hT _|((with_reducible show wpAny _ _ (call (Value.builtin "tuple.__getattribute__") _ _) _ _ _);refine call_meets PySem.F.slot_tuple_getattribute (hT _) am_entry_tuple_getattribute (PySem.F.args_tuple_getattribute_2 _ _) (meets_getattribute_miss_tuple a xs k sl _ _ keys_none_tuple (by decide+kernel) (by size_fits)) ⟨hx,hA,fun h' tk' e hx'=> ?_⟩)|wp_step))
 obtain⟨t',u',he⟩:=hx'.there
 show wpAny _ _ (getattributeRaised _ _ _ _ _ _ _) _ _ _
 unfold getattributeRaised
 repeat (any_goals (first|assumption|wp_step))
 exact h _ _ hx'.of.keeps
end
section
variable {prog:Program} {w:World} {A:Around} {R:Result->Shared->Prop} {I:Addr} {fp wr:List Addr} {G:Array GenState->Array GenState->Prop} {n:Nat} {P:Nat->Value->Prop} {St:Nat->Shared->Prop}
noncomputable def accK (key:Nat->Key) (val:Nat->Value):Nat->List (Key×Value)
 |0=>[]
 |i+1=>stored (accK key val i) (key i) (val i)
theorem stored_len (kvs:List (Key×Value)) (k:Key) (v:Value):(stored kvs k v).length<=kvs.length+1:=by
 unfold stored
 split<;>simp
theorem accK_len (key:Nat->Key) (val:Nat->Value):∀i,(accK key val i).length<=i
 |0=>Nat.le_refl _
 |i+1=>Nat.le_trans (stored_len _ _ _) (Nat.succ_le_succ (accK_len key val i))
theorem dict_loop {h0:Heap} (W:WalksS prog w A.in1 I fp wr G n P St) (S:Addr) (hSf:S∉fp) (hS0:h0.get? S=none) (hw0:∀b∈wr,h0.get? b=none) (key:Nat->Key) (val:Nat->Value) (res:Value) (hn:n<=sizeLine)
  (hP:∀i v,P i v->∃a o kv m,v= .ref a/\h0.get? a=some o/\o.cls= .type "tuple"/\o.data= .seq #[kv,val i] m/\(mixKind prog w).is (key i) kv=true):
  ∀(k i:Nat) (s:Shared),n - i=k->i<=n->St i s->(∀b o,h0.get? b=some o->s.heap.get? b=some o)->s.heap.DictOf (mixKind prog w) S (accK key val i)->
   (∀s',Moved (S::wr) G s s'->s'.heap.DictOf (mixKind prog w) S (accK key val n)->R (.ok (.ret res)) s')->
   codeAny (model prog w) A (.builtin "dict.update.loop" ⟨[.ref S, .ref I,rawInt i,res],[]⟩) R s:=by
 have hSw:S∉wr:=fun h=>hSf (W.sub _ h)
 have hsub:∀b∈wr,b∈S::wr:=fun b hb=>List.mem_cons_of_mem _ hb
 have mv:∀{s s':Shared} {kvs:List (Key×Value)},Moved wr G s s'->s.heap.DictOf (mixKind prog w) S kvs->s'.heap.DictOf (mixKind prog w) S kvs:=fun hm hd=>by
  obtain⟨o,es,ep,ho,rest⟩:=hd
  exact⟨o,es,ep,hm.heap S _ hSw ho,rest⟩
 intro k
 induction k with
 |zero=>
  intro i s hk hi hst hk0 hS hR
  have hin:i=n:=by omega
  subst hin
  refine codeAny_builtin entry_dict_update_loop ?_
  rw[Around.under_plainId plain_dict_update_loop _]
  show wpAny _ A.in1 (pyNext (.ref I)>>=_) _ _ s
  refine wpAny_bind (W.done s _ _ hst fun s' hm=> ?_)
  show wpAny _ A.in1 (Builtin.Dict.addKeywords S []>>=fun _=>ret res) _ _ s'
  refine wpAny_bind (wpAny_pure ?_)
  exact wpAny_pure (hR s' (hm.mono hsub) (mv hm hS))
 |succ k ih=>
  intro i s hk hi hst hk0 hS hR
  have hlt:i<n:=by omega
  refine codeAny_builtin entry_dict_update_loop ?_
  rw[Around.under_plainId plain_dict_update_loop _]
  show wpAny _ A.in1 (pyNext (.ref I)>>=_) _ _ s
  refine wpAny_bind (W.item i s _ _ hlt hst fun v s' hPv hst' hm=> ?_)
  obtain⟨a,o,kv,m,rfl,ho,hc,hd,hkey⟩:=hP i v hPv
  have hk1:∀b o,h0.get? b=some o->s'.heap.get? b=some o:=fun b o e=>hm.heap b o (fun hb=>by rw[hw0 b hb]at e;cases e) (hk0 b o e)
  have ho':=hk1 a o ho
  have hS':=mv hm hS
  dsimp only
  refine wpAny_bind (wpAny_holding ?_)
  refine wpAny_bind (wpAny_tryCatch ?_)
  unfold Builtin.Dict.pairItems
  refine wpAny_bind (wpAny_typeOf (T:="tuple") ⟨o,ho',hc⟩ ?_)
  rw[if_pos (by decide)]
  refine wpAny_bind (wpAny_seqItems ho' hd ?_)
  refine wpAny_pure ?_
  show wpAny _ A.in1 (holding [kv,val i] (dictSet S kv (val i))) _ _ s'
  refine wpAny_holding (wpAny_dictSet_pairs (hsz:=by have:=accK_len key val i;omega) hkey hS' fun h' hS2 hsb=> ?_)
  refine wpAny_pure ⟨plainId_quiet plain_dict_update_loop _,ih (i+1) _ (by omega) hlt (W.frame _ s' _ _ hst' (Nat.le_succ _) fun b hb o e=> ?_) (fun b o e=> ?_) hS2 fun s'' hm'' hS''=> ?_⟩
  ·rw[hsb.2 b (fun h:b=S=>hSf (by rw[<-h];exact hb))];exact e
  ·show h'.get? b=some o
   rw[hsb.2 b (fun h:b=S=>by rw[h,hS0]at e;cases e)];exact hk1 b o e
  ·refine hR s'' (Moved.trans W.gtrans ((hm.mono hsub).then_heap (Nat.le_succ _) fun b o hb e=> ?_) hm'') hS''
   rw[hsb.2 b (fun h:b=S=>hb (by rw[h];exact List.mem_cons_self))];exact e
end
section
variable {prog:Program} {w:World} {A:Around} {E:Value->Shared->Prop} {s:Shared} {p:Addr}
noncomputable abbrev Kp (h h':Heap):Prop:=∀b o,h.get? b=some o->h'.get? b=some o
structure PSrc (prog:Program) (w:World) (h0:Heap) (p:Addr) (T:String) (n:Nat) (P:Nat->Value->Prop):Prop where
 lt:p<h0.objs.size
 ty:∀s:Shared,Kp h0 s.heap->s.TypeIs (.ref p) T
 nd:(Value.type T != Value.type "dict")=true
 no:∀(A:Around) (E:Value->Shared->Prop) (s:Shared) (Q:Option Value->Shared->Prop),A.handled=none->Kp h0 s.heap->(∀h' tk,Kp s.heap h'->Q none {s with heap:=h',toks:=tk})->wpAny (model prog w) A (getAttr? (.ref p) "keys") Q E s
 it:∀(A:Around) (s:Shared),A.handled=none->Kp h0 s.heap->∃(oI:Obj) (St:Nat->Heap->Prop),(∀(A':Around) (E:Value->Shared->Prop) (Q:Value->Shared->Prop),Q (.ref s.heap.objs.size) {s with heap:=s.heap.push oI}->wpAny (model prog w) A' (pyIter (.ref p)) Q E s)/\
  Walks prog w A s.heap.objs.size [s.heap.objs.size,p] [s.heap.objs.size] n P St/\St 0 (s.heap.push oI)
theorem call_dict_src {T:String} {n:Nat} {P:Nat->Value->Prop} {Q:Value->Shared->Prop} (S:PSrc prog w s.heap p T n P) (hh:A.handled=none) (key:Nat->Key) (val:Nat->Value) (hn:n<=sizeLine)
  (hP:∀i v,P i v->∃a o kv m,v= .ref a/\s.heap.get? a=some o/\o.cls= .type "tuple"/\o.data= .seq #[kv,val i] m/\(mixKind prog w).is (key i) kv=true)
  (h:∀h' tk,Kp s.heap h'->h'.DictOf (mixKind prog w) s.heap.objs.size (accK key val n)->Q (.ref s.heap.objs.size) {s with heap:=h',toks:=tk}):
  wpAny (model prog w) A (call (.type "dict") [.ref p]) Q E s:=by
 refine callType_codes (Q₁:=fun obj s₁=>obj= .ref s.heap.objs.size/\s₁={s with heap:=s.heap.push {cls:= .type "dict",data:= .dict #[]}}) PySem.F.kt_called_dict (PySem.F.kt_typeCall_dict_1 _) PySem.F.entry_dict_init (kt_code_dict_new _ ⟨rfl,rfl⟩) ?_
 rintro obj s₁ ⟨rfl,rfl⟩
 have hnew:(s.heap.push {cls:= .type "dict",data:= .dict #[]}).DictOf (mixKind prog w) s.heap.objs.size []:=Heap.DictOf.new s.heap
 have hkp:Kp s.heap (s.heap.push {cls:= .type "dict",data:= .dict #[]}):=fun b o e=>Heap.get?_push_of_some _ e
 refine⟨hnew.typeIs,PySem.F.args_dict_init_2 _ _,?_⟩
 unfold Builtin.«dict.__init__»
 refine wpAny_bind ?_
 unfold Builtin.Dict.selfAndRest
 refine wpAny_bind (wpAny_notOrdered_dict hnew.typeIs ?_)
 show wpAny _ _ (pure (s.heap.objs.size,[Value.ref p])) _ _ _
 refine wpAny_pure ?_
 show wpAny _ _ (Builtin.Dict.updateFrom "dict.__init__" s.heap.objs.size (.ref p) [] .none) _ _ _
 unfold Builtin.Dict.updateFrom
 refine wpAny_bind (wpAny_typeOf (S.ty _ hkp) ?_)
 rw[if_pos S.nd]
 refine wpAny_bind (S.no _ _ _ _ hh hkp fun h1 tk1 k1=> ?_)
 rw[if_pos (show (none:Option Value).isNone=true from rfl)]
 refine wpAny_bind (wpAny_rule ?_)
 have k01:Kp s.heap h1:=fun b o e=>k1 b o (hkp b o e)
 obtain⟨oI,St,hit,W,st⟩:=S.it A.in1.in1 {s with heap:=h1,toks:=tk1} hh k01
 refine wpAny_bind (hit _ _ _ ?_)
 have hS1:h1.DictOf (mixKind prog w) s.heap.objs.size []:=by
  obtain⟨o,es,ep,ho,rest⟩:=hnew
  exact⟨o,es,ep,k1 _ _ ho,rest⟩
 have hlt1:s.heap.objs.size<h1.objs.size:=by
  obtain⟨o,es,ep,ho,rest⟩:=hS1
  exact Heap.lt_size ho
 have fr:∀c,s.heap.objs.size<=c->s.heap.get? c=none:=fun c hc=>by
  cases e:s.heap.get? c with
  |none=>rfl
  |some o=>exact absurd (Nat.lt_of_lt_of_le (Heap.lt_size e) hc) (Nat.lt_irrefl _)
 refine wpAny_pure ⟨plainId_quiet plain_dict_update_loop _,dict_loop (h0:=s.heap) W.toS s.heap.objs.size (fun hm=> ?_) (fr _ (Nat.le_refl _)) (fun b hb=> ?_) key val .none hn hP n 0 _ (by omega) (Nat.zero_le _) st (fun b o e=>Heap.get?_push_of_some _ (k01 b o e)) ?_ fun s' hm hS'=> ?_⟩
 ·rcases List.mem_cons.mp hm with z|hm
  ·exact absurd hlt1 (by rw[z];exact Nat.lt_irrefl _)
  ·exact absurd S.lt (by rw[<-List.mem_singleton.mp hm];exact Nat.lt_irrefl _)
 ·rw[List.mem_singleton.mp hb];exact fr _ (Nat.le_of_lt hlt1)
 ·obtain⟨o,es,ep,ho,rest⟩:=hS1
  exact⟨o,es,ep,Heap.get?_push_of_some _ ho,rest⟩
 ·refine⟨rfl,?_⟩
  rw[Moved.eq_with hm]
  refine h s'.heap s'.toks (fun b o e=>hm.heap b o (fun hb=> ?_) (Heap.get?_push_of_some _ (k01 b o e))) hS'
  rcases List.mem_cons.mp hb with rfl|hb
  ·rw[fr _ (Nat.le_refl _)]at e;cases e
  ·rw[List.mem_singleton.mp hb]at e
   rw[fr _ (Nat.le_of_lt hlt1)]at e;cases e
theorem psrc_list {items:Array Value} (h:PlainL s.heap p items):PSrc prog w s.heap p "list" items.size (fun i v=>items[i]? =some v)where
 lt:=let ⟨_,_,e,_⟩:=h;Heap.lt_size e
 ty:=fun s k=>let ⟨o,n,e,c,_⟩:=h;⟨o,k _ _ e,c⟩
 nd:=by decide
 no:=fun A E s' Q hA k q=>by
  obtain⟨⟨oc,od,odt,osl⟩,n,e,c,d,dt⟩:=h
  cases c;cases d;cases dt
  exact nokeys_list (k _ _ e) hA q
 it:=fun A s' hA k=>by
  have hp:PlainL s'.heap p items:=h.keeps k
  have hlt:p<s'.heap.objs.size:=let ⟨_,_,e,_⟩:=hp;Heap.lt_size e
  exact⟨_,_,fun A' E Q q=>wpAny_pyIter_list hp.isList q,Walks.list hA s'.heap.objs.size p (Nat.ne_of_lt hlt) items,⟨⟨_,Heap.get?_push_size _ rfl,rfl,rfl⟩,hp.isList.push _⟩⟩
theorem psrc_tuple {items:Array Value} (h:IsTupD s.heap p items):PSrc prog w s.heap p "tuple" items.size (fun i v=>items[i]? =some v)where
 lt:=h.lt
 ty:=fun s k=>let ⟨o,e,c,_⟩:=h;⟨o,k _ _ e,c⟩
 nd:=by decide
 no:=fun A E s' Q hA k q=>by
  obtain⟨⟨oc,od,odt,osl⟩,e,c,n,dt,d⟩:=h
  cases c;cases d;cases dt
  exact nokeys_tuple (k _ _ e) hA q
 it:=fun A s' hA k=>by
  have hp:IsTup s'.heap p items:=h.tup.keeps k
  have hlt:p<s'.heap.objs.size:=hp.lt
  have hp':s'.heap.IsTuple p items:=hp
  exact⟨_,_,fun A' E Q q=>wpAny_pyIter_tuple hp' q,Walks.tuple hA s'.heap.objs.size p (Nat.ne_of_lt hlt) items,⟨⟨_,Heap.get?_push_size _ rfl,rfl,rfl⟩,show IsTup _ _ _ from hp.push _⟩⟩
end
section
variable {X:Cx}
inductive PairsAt (H:Hp):List V->List (Key×V)->Prop
 |nil:PairsAt H [] []
 |cons {a:Addr} {k:Key} {v:V} {ys:List V} {ps:List (Key×V)}:H a=some (.tup [kV k,v])->PairsAt H ys ps->PairsAt H (.ref a::ys) ((k,v)::ps)
theorem merged_snoc (rs:List (Key×Value)) (x:Key×Value):merged [] (rs++[x])=stored (merged [] rs) x.1 x.2:=by
 unfold merged
 rw[List.foldl_append]
 rfl
noncomputable def keyAt (rs:List (Key×Value)) (i:Nat):Key:=((rs[i]?).map (·.1)).getD (.inl 0)
noncomputable def valAt (rs:List (Key×Value)) (i:Nat):Value:=((rs[i]?).map (·.2)).getD .none
theorem accK_merged (rs:List (Key×Value)):∀i,i<=rs.length->accK (keyAt rs) (valAt rs) i=merged [] (rs.take i)
 |0,_=>rfl
 |i+1,h=>by
  have hi:i<rs.length:=h
  show stored (accK (keyAt rs) (valAt rs) i) (keyAt rs i) (valAt rs i)=_
  rw[accK_merged rs i (Nat.le_of_lt hi),List.take_succ_eq_append_getElem hi,merged_snoc]
  simp[keyAt,valAt,hi]
theorem pairs_vals {P:Program} {w:World} {H:Hp} {h:Heap} (ok:HOk P w H h):∀{ys:List V} {ps:List (Key×V)} {us:List Value},PairsAt H ys ps->Vals ys us->∃rs:List (Key×Value),KV ps rs/\us.length=rs.length/\
  ∀(i:Nat) v,us[i]? =some v->∃a o kv m,v= .ref a/\h.get? a=some o/\o.cls= .type "tuple"/\o.data= .seq #[kv,valAt rs i] m/\(mixKind P w).is (keyAt rs i) kv=true
 |_,_,_, .nil, .nil=>⟨[], .nil,rfl,fun i v h=>by simp at h⟩
 |_,_,_, .cons (a:=a) (k:=k) (v:=v) ha t, .cons ru rt=>by
  obtain⟨rs,h1,h2,h3⟩:=pairs_vals ok t rt
  obtain⟨_,its,r,o,g1,g2,n,g3,_⟩:=(show ObjOk P w H h a (.tup [kV k,v])from ok a _ ha)
  obtain⟨x,y,rfl,rx,ry⟩:=r.two
  refine⟨(k,y)::rs, .cons ⟨rfl,ry⟩ h1,by simp[h2],fun i v' hv=> ?_⟩
  cases i with
  |zero=>
   simp at hv
   subst hv
   exact⟨a,o,x,n,ru,g1,g2,g3,kV_is rx⟩
  |succ i=>exact h3 i v' (by simpa using hv)
theorem call_dictOf (hc:X.calm=true):CallR X (.type "dict") (fun xs H Q=>∃p ys ps,xs=[.ref p]/\(H p=some (.lst ys)\/H p=some (.tup ys))/\PairsAt H ys ps/\∀l,H l=none->Q (.ref l) (upd H l (.dK (mergeK [] ps)))):=by
 intro pins s σ H xs us Q I rv h
 obtain⟨p,ys,ps,rfl,hp,pa,q⟩:=h
 obtain⟨u,rfl,ru⟩:=vals1 rv
 cases ru
 have fin:∀(its:List Value) (T:String),Vals ys its->ys.length<=sizeLine->PSrc X.prog X.w s.heap p T its.toArray.size (fun i v=>its.toArray[i]? =some v)->
   wpAny (model X.prog X.w) X.A (call (.type "dict") [.ref p]) (EP X pins σ Q) X.xe s:=by
  intro its T r hz S
  obtain⟨rs,h1,h2,h3⟩:=pairs_vals I.hok pa r
  have hl:=r.length
  refine call_dict_src S (I.ok.hd hc) (keyAt rs) (valAt rs) (by rw[List.size_toArray];omega) (fun i v hv=>h3 i v (by simpa using hv)) fun h' tk k hd=> ?_
  have en:its.toArray.size=rs.length:=by rw[<-h2];exact List.size_toArray
  rw[en,accK_merged rs _ (Nat.le_refl _),List.take_length]at hd
  have hkv:KV (mergeK [] ps) (merged [] rs):=KV.merge h1 .nil
  refine⟨.ref s.heap.objs.size,_,I.laid (t':=tk) (o:= .dK (mergeK [] ps)) k (Nat.le_refl _) (dk_new ?_ ?_ hkv hd),rfl,q _ (I.hok.fresh (Nat.le_refl _))⟩
  ·rw[KV.length hkv]
   have:(merged [] rs).length<=rs.length:=by
    have:=accK_len (keyAt rs) (valAt rs) rs.length
    rwa [accK_merged rs _ (Nat.le_refl _),List.take_length]at this
   omega
  ·exact beq_eq_false_iff_ne.mpr (Nat.ne_of_gt I.big)
 rcases hp with hp|hp
 ·obtain⟨its,r,pl,hz⟩:=I.list (SqL.of hp)
  exact fin its "list" r hz (psrc_list pl)
 ·obtain⟨hz,its,r,pl⟩:=(show ObjOk X.prog X.w H s.heap p (.tup ys)from I.hok p _ hp)
  exact fin its "tuple" r hz (psrc_tuple pl)
end
end L2
namespace L2
open PySem PySem.Spec PyProof.Rows PySem.W
noncomputable def KOk {α:Type} (V:Nat->Nat->Prop) (lt:Nat->Nat->Bool):KasT α->(α->Prop)->Prop
 | .ret a,Q=>Q a
 | .ask i j k,Q=>V i j/\KOk V lt (k (lt i j)) Q
theorem KOk.imp {α:Type} {V:Nat->Nat->Prop} {lt:Nat->Nat->Bool} {Q Q':α->Prop} (w:∀a,Q a->Q' a):∀{t:KasT α},KOk V lt t Q->KOk V lt t Q'
 | .ret a,h=>w a h
 | .ask i j k,h=>⟨h.1,KOk.imp w h.2⟩
theorem KOk.bind {α β:Type} {V:Nat->Nat->Prop} {lt:Nat->Nat->Bool} {f:α->KasT β} {Q:β->Prop}:∀{t:KasT α},KOk V lt t (fun a=>KOk V lt (f a) Q)->KOk V lt (t.bind f) Q
 | .ret a,h=>h
 | .ask i j k,h=>⟨h.1,KOk.bind h.2⟩
theorem KOk.wp {α:Type} {V:Nat->Nat->Prop} {lt:Nat->Nat->Bool} {cmp:Nat->Nat->(Bool->Shared->Prop)->Shared->Prop} {Good:Shared->Prop} (hc:∀i j C s,V i j->Good s->(∀s',Good s'->C (lt i j) s')->cmp i j C s) {Q:α->Shared->Prop}:
  ∀{t:KasT α} {s:Shared},KOk V lt t (fun a=>∀s',Good s'->Q a s')->Good s->t.kasWp cmp Q s
 | .ret a,s,h,g=>h s g
 | .ask i j k,s,h,g=>hc i j _ s h.1 g fun s' g'=>KOk.wp hc h.2 g'
section
variable {n:Nat} {key:Nat->Int}
noncomputable def kk (key:Nat->Int) (p:Array Nat) (i:Nat):Int:=key (p.getD i 0)
noncomputable def ltK (key:Nat->Int) (i j:Nat):Bool:=decide (key i<key j)
noncomputable def Pr (n i j:Nat):Prop:=i<n/\j<n/\i≠j
structure Ord (n:Nat) (p:Array Nat):Prop where
 sz:p.size=n
 perm:p.toList.Perm (List.range n)
theorem Ord.lt {p:Array Nat} (h:Ord n p) {i:Nat} (hi:i<n):p.getD i 0<n:=by
 have hi':i<p.size:=by rw[h.sz];exact hi
 have:p.getD i 0=p[i]:=by simp[Array.getD,hi']
 rw[this]
 exact List.mem_range.mp (h.perm.mem_iff.mp (by simp))
theorem Ord.inj {p:Array Nat} (h:Ord n p) {i j:Nat} (hi:i<n) (hj:j<n) (e:p.getD i 0=p.getD j 0):i=j:=by
 have hi':i<p.size:=by rw[h.sz];exact hi
 have hj':j<p.size:=by rw[h.sz];exact hj
 have e1:p.getD i 0=p[i]:=by simp[Array.getD,hi']
 have e2:p.getD j 0=p[j]:=by simp[Array.getD,hj']
 rw[e1,e2]at e
 have nd:p.toList.Nodup:=(h.perm.nodup_iff).mpr List.nodup_range
 have hp:=List.pairwise_iff_getElem.mp nd
 have el:p.toList[i]'(by simpa using hi')=p.toList[j]'(by simpa using hj'):=by simpa using e
 rcases Nat.lt_trichotomy i j with z|z|z
 ·exact absurd el (hp i j _ _ z)
 ·exact z
 ·exact absurd el.symm (hp j i _ _ z)
theorem Ord.pr {p:Array Nat} (h:Ord n p) {i j:Nat} (hi:i<n) (hj:j<n) (hij:i≠j):Pr n (p.getD i 0) (p.getD j 0):=⟨h.lt hi,h.lt hj,fun z=>hij (h.inj hi hj z)⟩
noncomputable def Asc (key:Nat->Int) (p:Array Nat) (m:Nat):Prop:=∀i j,i<j->j<m->kk key p i<kk key p j
noncomputable def Dsc (key:Nat->Int) (p:Array Nat) (m:Nat):Prop:=∀i j,i<j->j<m->kk key p j<kk key p i
theorem Asc.more {p:Array Nat} {m:Nat} (h:Asc key p (m+1)) (hl:kk key p m<kk key p (m+1)):Asc key p (m+2):=fun i j hij hj=>by
 by_cases e:j=m+1
 ·subst e
  by_cases e2:i=m
  ·subst e2;exact hl
  ·exact Int.lt_trans (h i m (by omega) (by omega)) hl
 ·exact h i j hij (by omega)
theorem Dsc.more {p:Array Nat} {m:Nat} (h:Dsc key p (m+1)) (hl:kk key p (m+1)<kk key p m):Dsc key p (m+2):=fun i j hij hj=>by
 by_cases e:j=m+1
 ·subst e
  by_cases e2:i=m
  ·subst e2;exact hl
  ·exact Int.lt_trans hl (h i m (by omega) (by omega))
 ·exact h i j hij (by omega)
theorem asc_ok {p:Array Nat} (o:Ord n p) (hk:∀i j,i<n->j<n->key i=key j->i=j):∀(f m:Nat),Asc key p (m+1)->m+1+f=n->KOk (Pr n) (ltK key) (kas_asc p f (m+1)) fun r=>m+1<=r/\r<=n/\Asc key p r/\(r<n->kk key p r<kk key p (r - 1))
 |0,m,h,e=>⟨Nat.le_refl _,by omega,h,fun z=>by omega⟩
 |f+1,m,h,e=>by
  refine⟨o.pr (by omega) (by omega) (by omega),?_⟩
  rw[Nat.add_sub_cancel]
  by_cases hl:kk key p (m+1)<kk key p m
  ·simp only[show ltK key (p.getD (m+1) 0) (p.getD m 0)=true from decide_eq_true hl,if_true]
   exact⟨Nat.le_refl _,by omega,h,fun _=>by rw[Nat.add_sub_cancel];exact hl⟩
  ·simp only[show ltK key (p.getD (m+1) 0) (p.getD m 0)=false from decide_eq_false hl,Bool.false_eq_true,if_false]
   have hne:kk key p m≠kk key p (m+1):=fun z=>by
    have:=o.inj (i:=m) (j:=m+1) (by omega) (by omega) (hk _ _ (o.lt (by omega)) (o.lt (by omega)) z)
    omega
   refine KOk.imp (fun r ⟨a,b,c,d⟩=>⟨by omega,b,c,d⟩) (asc_ok o hk f (m+1) (h.more (by omega)) (by omega))
theorem dsc_ok {p:Array Nat} (o:Ord n p) (hk:∀i j,i<n->j<n->key i=key j->i=j):∀(f m:Nat),Dsc key p (m+1)->m+1+f=n->KOk (Pr n) (ltK key) (kas_desc f p (m+1) 0) fun r=>r.1=p/\r.2.2=0/\m+1<=r.2.1/\r.2.1<=n/\Dsc key p r.2.1
 |0,m,h,e=>⟨rfl,rfl,Nat.le_refl _,by show m+1<=n;omega,h⟩
 |f+1,m,h,e=>by
  refine⟨o.pr (by omega) (by omega) (by omega),?_⟩
  rw[Nat.add_sub_cancel]
  by_cases hl:kk key p (m+1)<kk key p m
  ·simp only[show ltK key (p.getD (m+1) 0) (p.getD m 0)=true from decide_eq_true hl,if_true,gt_iff_lt,Nat.lt_irrefl,if_false]
   exact KOk.imp (fun r ⟨a,b,c,d⟩=>⟨a,b,by omega,d⟩) (dsc_ok o hk f (m+1) (h.more hl) (by omega))
  ·simp only[show ltK key (p.getD (m+1) 0) (p.getD m 0)=false from decide_eq_false hl,Bool.false_eq_true,if_false]
   have hne:kk key p m≠kk key p (m+1):=fun z=>by
    have:=o.inj (i:=m) (j:=m+1) (by omega) (by omega) (hk _ _ (o.lt (by omega)) (o.lt (by omega)) z)
    omega
   have hl2:kk key p m<kk key p (m+1):=by omega
   refine⟨o.pr (by omega) (by omega) (by omega),?_⟩
   simp only[show ltK key (p.getD m 0) (p.getD (m+1) 0)=true from decide_eq_true hl2,if_true]
   exact⟨rfl,rfl,Nat.le_refl _,by show m+1<=n;omega,h⟩
theorem getD_of {p q:Array Nat} {i j:Nat} (h:p[i]? =q[j]?):p.getD i 0=q.getD j 0:=by
 rw[Array.getD_eq_getD_getElem?,Array.getD_eq_getD_getElem?,h]
theorem rev_ord {p:Array Nat} (o:Ord n p) (i j:Nat):Ord n (kas_rev p i j):=
 ⟨by unfold kas_rev;rw[mirror_size];exact o.sz,(Array.perm_iff_toList_perm.mp (mirror_perm p i j _)).trans o.perm⟩
theorem rev_asc {p:Array Nat} (o:Ord n p) {m:Nat} (hm:m<=n) (h:Dsc key p m):Asc key (kas_rev p 0 m) m:=fun i j hij hj=>by
 have e:∀k,k<m->kk key (kas_rev p 0 m) k=kk key p (m - 1 - k):=fun k hk=>by
  unfold kk
  congr 1
  refine getD_of ?_
  have:=getElem?_mirror_all (xs:=p) (i:=0) (j:=m) (by rw[o.sz];exact hm) k
  unfold kas_rev
  rw[this,if_pos ⟨Nat.zero_le _,hk⟩,Nat.zero_add]
 rw[e i (by omega),e j hj]
 exact h _ _ (by omega) (by omega)
theorem count_ok {p:Array Nat} (o:Ord n p) (hn:2<=n) (hk:∀i j,i<n->j<n->key i=key j->i=j):KOk (Pr n) (ltK key) (kas_count n p) fun r=>1<=r.1/\r.1<=n/\Ord n r.2/\Asc key r.2 r.1:=by
 unfold kas_count
 refine KOk.bind (KOk.imp (fun m ⟨h1,h2,h3,h4⟩=> ?_) (asc_ok o hk (n - 1) 0 (fun i j hij hj=>by omega) (by omega)))
 by_cases e:m=n
 ·rw[if_pos (by simp[e])];exact⟨by show 1<=m;omega,h2,o,h3⟩
 ·rw[if_neg (by simp[e])]
  by_cases e1:m>1
  ·rw[if_pos e1]
   refine⟨o.pr (by omega) (by omega) (by omega),?_⟩
   simp only[show ltK key (p.getD 0 0) (p.getD (m - 1) 0)=true from decide_eq_true (h3 0 (m - 1) (by omega) (by omega)),if_true]
   exact⟨by show 1<=m;omega,h2,o,h3⟩
  ·have em:m=1:=by omega
   subst em
   rw[if_neg (by omega)]
   have hd:Dsc key p 2:=fun i j hij hj=>by
    have hi:i=0:=by omega
    have hj':j=1:=by omega
    subst hi;subst hj'
    exact h4 (by omega)
   unfold kas_descPart
   refine KOk.bind (KOk.imp (fun r ⟨a,b,c,d,g⟩=> ?_) (dsc_ok o hk (n - (1+1)) 1 hd (by omega)))
   rw[if_neg (by omega)]
   unfold kas_tail3
   rw[a]
   have o2:=rev_ord o 0 r.2.1
   obtain⟨q,hq⟩:∃q,r.2.1=q+1:=⟨r.2.1 - 1,by omega⟩
   rw[hq]at d g o2 ⊢
   refine KOk.bind (KOk.imp (fun m2 ⟨x1,x2,x3,_⟩=>⟨by show 1<=m2;omega,x2,o2,x3⟩) (asc_ok o2 hk (n - (q+1)) q (rev_asc o d g) (by omega)))
theorem place_ok {p:Array Nat} (o:Ord n p) (hk:∀i j,i<n->j<n->key i=key j->i=j) {k:Nat} (hkn:k<n) (ha:Asc key p k):∀(f l r:Nat),l<=r->r<=k->r - l<=f->(∀i,i<l->kk key p i<kk key p k)->(∀i,r<=i->i<k->kk key p k<kk key p i)->
  KOk (Pr n) (ltK key) (kas_place p k f l r) fun m=>m<=k/\(∀i,i<m->kk key p i<kk key p k)/\∀i,m<=i->i<k->kk key p k<kk key p i
 |0,l,r,h1,h2,h3,h4,h5=>⟨by omega,h4,fun i hi=>h5 i (by omega)⟩
 |f+1,l,r,h1,h2,h3,h4,h5=>by
  unfold kas_place
  by_cases e:l>=r
  ·rw[if_pos e];exact⟨by omega,h4,fun i hi=>h5 i (by omega)⟩
  ·rw[if_neg e]
   refine⟨o.pr hkn (by omega) (by omega),?_⟩
   have hm1:(l+r) / 2<r:=by omega
   have hm2:l<=(l+r) / 2:=by omega
   by_cases hl:kk key p k<kk key p ((l+r) / 2)
   ·simp only[show ltK key (p.getD k 0) (p.getD ((l+r) / 2) 0)=true from decide_eq_true hl,if_true]
    refine place_ok o hk hkn ha f l ((l+r) / 2) hm2 (by omega) (by omega) h4 fun i hi hik=> ?_
    by_cases z:i=(l+r) / 2
    ·subst z;exact hl
    ·exact Int.lt_trans hl (ha _ _ (by omega) hik)
   ·simp only[show ltK key (p.getD k 0) (p.getD ((l+r) / 2) 0)=false from decide_eq_false hl,Bool.false_eq_true,if_false]
    have hne:kk key p ((l+r) / 2)≠kk key p k:=fun z=>by
     have:=o.inj (i:=(l+r) / 2) (j:=k) (by omega) hkn (hk _ _ (o.lt (by omega)) (o.lt hkn) z)
     omega
    have hl2:kk key p ((l+r) / 2)<kk key p k:=by omega
    refine place_ok o hk hkn ha f ((l+r) / 2+1) r (by omega) h2 (by omega) (fun i hi=> ?_) h5
    by_cases z:i=(l+r) / 2
    ·subst z;exact hl2
    ·exact Int.lt_trans (ha _ _ (show i<(l+r) / 2 by omega) (by omega)) hl2
theorem bub_asc {p:Array Nat} (o:Ord n p) {k m:Nat} (hkn:k<n) (hm:m<=k) (ha:Asc key p k) (h1:∀i,i<m->kk key p i<kk key p k) (h2:∀i,m<=i->i<k->kk key p k<kk key p i):Ord n (bubble p k (k - m))/\Asc key (bubble p k (k - m)) (k+1):=by
 refine⟨⟨by rw[bubble_size];exact o.sz,(Array.perm_iff_toList_perm.mp (bubble_perm p k _)).trans o.perm⟩,fun i j hij hj=> ?_⟩
 have e:∀q,kk key (bubble p k (k - m)) q=if q=m then kk key p k else if m<q/\q<=k then kk key p (q - 1)else kk key p q:=fun q=>by
  have:=getElem?_bubble (xs:=p) (src:=k) (by rw[o.sz];exact hkn) (k - m) (by omega) q
  rw[show k - (k - m)=m by omega]at this
  unfold kk
  split
  ·rename_i z;rw[if_pos z]at this;congr 1;exact getD_of this
  ·rename_i z
   rw[if_neg z]at this
   split
   ·rename_i z2;rw[if_pos z2]at this;congr 1;exact getD_of this
   ·rename_i z2;rw[if_neg z2]at this;congr 1;exact getD_of this
 rw[e i,e j]
 by_cases i1:i=m
 ·rw[if_pos i1,if_neg (by omega),if_pos (by omega)]
  exact h2 _ (by omega) (by omega)
 ·rw[if_neg i1]
  by_cases i2:m<i/\i<=k
  ·rw[if_pos i2,if_neg (by omega),if_pos (by omega)]
   exact ha _ _ (by omega) (by omega)
  ·rw[if_neg i2]
   by_cases j1:j=m
   ·rw[if_pos j1];exact h1 i (by omega)
   ·rw[if_neg j1]
    by_cases j2:m<j/\j<=k
    ·rw[if_pos j2]
     by_cases z:i=j - 1
     ·omega
     ·exact ha _ _ (by omega) (by omega)
    ·rw[if_neg j2];exact ha _ _ hij (by omega)
theorem bin_ok (hk:∀i j,i<n->j<n->key i=key j->i=j):∀(f:Nat) (p:Array Nat) (k:Nat),Ord n p->Asc key p k->k+f=n->KOk (Pr n) (ltK key) (kas_bin f p k) fun q=>Ord n q/\Asc key q n
 |0,p,k,o,h,e=>⟨o,by rw[<-e];exact h⟩
 |f+1,p,k,o,h,e=>by
  unfold kas_bin
  refine KOk.bind (KOk.imp (fun m ⟨h1,h2,h3⟩=> ?_) (place_ok o hk (show k<n by omega) h k 0 k (Nat.zero_le _) (Nat.le_refl _) (by omega) (fun i hi=>by omega) fun i h1 h2=>by omega))
  obtain⟨o2,a2⟩:=bub_asc o (show k<n by omega) h1 h h2 h3
  exact bin_ok hk f _ (k+1) o2 a2 (by omega)
theorem sort_ok (hn:2<=n) (hk:∀i j,i<n->j<n->key i=key j->i=j):KOk (Pr n) (ltK key) (kas_sort n) fun q=>Ord n q/\Asc key q n:=by
 have o:Ord n (List.toArray (List.range n)):=⟨by simp,by simp⟩
 unfold kas_sort
 refine KOk.bind (KOk.imp (fun r ⟨h1,h2,h3,h4⟩=> ?_) (count_ok o hn hk))
 by_cases e:r.1<n
 ·rw[if_pos e,show max r.1 1=r.1 by omega]
  exact bin_ok hk _ _ _ h3 h4 (by omega)
 ·rw[if_neg e]
  have:r.1=n:=by omega
  rw[this]at h4
  exact⟨h3,h4⟩
end
end L2
namespace L2
open PySem PySem.Spec PyProof.Rows PySem.W
section
variable {prog:Program} {w:World} {A:Around} {E:Value->Shared->Prop} {s:Shared}
noncomputable def TupFst (h:Heap) (v:Value) (k:Int):Prop:=∃b o t rest m,v= .ref b/\h.get? b=some o/\o.cls= .type "tuple"/\o.data= .seq (Array.mk (Value.int k t::rest)) m
theorem tup_lt {v u:Value} {k l:Int} {Q:Bool->Shared->Prop} (hv:TupFst s.heap v k) (hu:TupFst s.heap u l) (hne:k≠l) (h:Q (decide (k<l)) s):wpAny (model prog w) A (keyLt' (tuples' true) v u) Q E s:=by
 obtain⟨b,o,t,rest,m,rfl,h1,h2,h3⟩:=hv
 obtain⟨b',o',t',rest',m',rfl,g1,g2,g3⟩:=hu
 refine kat_lt h1 h3 g1 g3 ?_
 show KatLex prog w A true _ Q ((Value.int k t,Value.int l t')::rest.zip rest') 0 s
 refine kat_cons (wpAny_eqBool_int ?_)
 have e:(k==l)=false:=beq_eq_false_iff_ne.mpr hne
 rw[e]
 exact kat_no (oneLt_int h)
theorem firsts_of:∀{vs:List Value} {ks:List Int},vs.length=ks.length->(∀(i:Nat) v,vs[i]? =some v->TupFst s.heap v (ks.getD i 0))->∃fs:List Value,KatTups s.heap vs fs/\fs.length=vs.length/\∀f∈fs,∃k t,f=Value.int k t
 |[],ks,_,_=>⟨[], .nil,rfl,fun f hf=>by cases hf⟩
 |v::vs,[],hl,_=>by cases hl
 |v::vs,k::ks,hl,h=>by
  obtain⟨fs,h1,h2,h3⟩:=firsts_of (vs:=vs) (ks:=ks) (by simpa using hl) fun i u hu=>by
   have:=h (i+1) u (by simpa using hu)
   simpa using this
  obtain⟨b,o,t,rest,m,rfl,g1,g2,g3⟩:=h 0 v rfl
  refine⟨_::fs,KatTups.cons g1 g2 g3 (f:=Value.int ((k::ks).getD 0 0) t) rfl h1,by simp[h2],fun f hf=> ?_⟩
  rcases List.mem_cons.mp hf with rfl|hf
  ·exact⟨_,_,rfl⟩
  ·exact h3 f hf
noncomputable def Placed (ks:List Int) (p:List Nat):Prop:=p.Perm (List.range ks.length)/\(p.map fun i=>ks.getD i 0).Pairwise (·<·)
theorem asc_pairwise {key:Nat->Int} {p:Array Nat} {n:Nat} (hs:p.size=n) (h:Asc key p n):(p.toList.map key).Pairwise (·<·):=by
 refine List.pairwise_iff_getElem.mpr fun i j hi hj hij=> ?_
 rw[List.length_map,Array.length_toList]at hi hj
 have:=h i j hij (by omega)
 unfold kk at this
 simpa[Array.getD,hi,hj]using this
theorem short_two {α β:Type} {vs:List α} {ks:List β} (hl:vs.length=ks.length) (h:vs.length<2):(vs=[]/\ks=[])\/∃v k,vs=[v]/\ks=[k]:=by
 cases vs with
 |nil=>exact .inl ⟨rfl,List.length_eq_zero_iff.mp hl.symm⟩
 |cons v vs=>
  cases vs with
  |nil=>
   obtain⟨k,hk⟩:=List.length_eq_one_iff.mp hl.symm
   exact .inr ⟨v,k,rfl,hk⟩
  |cons=>exact absurd h (by simp only[List.length_cons];omega)
theorem list_sort_tups {a:Addr} {vs:List Value} {ks:List Int} {n:Nat} {P:PySem.Fin->Shared->Prop} (ho:s.heap.get? a=some (seqObj "list" vs.toArray n)) (hl:vs.length=ks.length) (hv:∀(i:Nat) v,vs[i]? =some v->TupFst s.heap v (ks.getD i 0)) (hnd:ks.Nodup) (h64:vs.length<64)
  (h:∀p:List Nat,Placed ks p->P (.done (.ret .none)) {s with heap:=sortedHeap s.heap a vs (List.toArray (p.map fun i=>vs.getD i Value.none))}):
  wpAny (model prog w) A (Builtin.«list.sort» ⟨[.ref a],[]⟩) P E s:=by
 rw[list_sort_plain]
 have ha:a<s.heap.objs.size:=Heap.lt_size ho
 refine wpAny_bind (listItems_at ho rfl ?_)
 refine wpAny_bind (listUpdate_at ho rfl ?_ (hsz2:=Nat.zero_le _) (hsz:=by rw[List.size_toArray,sizeLine_eq];omega))
 obtain⟨e1,ho1⟩:∃e1,(s.heap.update a (Obj.mapSeq fun _=> #[])).get? a=some (seqObj "list" #[] e1):=⟨_,get?_update_seq ho (fun _=> #[])⟩
 refine wpAny_bind (seqEpoch_at ho1 rfl ?_)
 refine wpAny_bind (wpAny_newTuple ?_ (by show vs.length<=_;rw[sizeLine_eq];omega))
 refine wpAny_bind (wpAny_newList ?_ (Nat.zero_le _))
 refine wpAny_holding ?_
 have old:∀b o,b≠a->s.heap.get? b=some o->(((s.heap.update a (Obj.mapSeq fun _=> #[])).push (seqObj "tuple" vs.toArray 0)).push (seqObj "list" #[] 0)).get? b=some o:=fun b o hb e=>by
  refine Heap.get?_push_of_some _ (Heap.get?_push_of_some _ ?_)
  rw[Heap.get?_update_ne _ _ _ _ hb];exact e
 have ho6:(((s.heap.update a (Obj.mapSeq fun _=> #[])).push (seqObj "tuple" vs.toArray 0)).push (seqObj "list" #[] 0)).get? a=some (seqObj "list" #[] e1):=Heap.get?_push_of_some _ (Heap.get?_push_of_some _ ho1)
 have hv':∀(i:Nat) v,vs[i]? =some v->TupFst (((s.heap.update a (Obj.mapSeq fun _=> #[])).push (seqObj "tuple" vs.toArray 0)).push (seqObj "list" #[] 0)) v (ks.getD i 0):=fun i v e=>by
  obtain⟨b,o,t,rest,m,rfl,g1,g2,g3⟩:=hv i v e
  refine⟨b,o,t,rest,m,rfl,old b o (fun z=> ?_) g1,g2,g3⟩
  subst z
  rw[ho]at g1
  cases g1
  exact absurd (show Value.type "list"=Value.type "tuple" from g2) (by decide)
 show wpAny (model prog w) A _ P E {s with heap:=((s.heap.update a (Obj.mapSeq fun _=> #[])).push (seqObj "tuple" vs.toArray 0)).push (seqObj "list" #[] 0)}
 dsimp only
 have hsz:vs.toArray.size=vs.length:=by simp
 have hmap:∀p:List Nat,p.length=vs.length->(List.toArray (p.map fun i=>vs.getD i Value.none)).size<=sizeLine:=fun p hp=>by
  rw[List.size_toArray,List.length_map,hp,sizeLine_eq];omega
 by_cases h2:vs.toArray.size<2
 ·rw[if_pos h2,if_pos h2]
  refine wpAny_bind (wpAny_pure ?_)
  rw[StateT.run_pure]
  refine wpAny_bind (wpAny_pure ?_)
  dsimp only
  obtain⟨p,hp,hpl,heq⟩:∃p:List Nat,Placed ks p/\p.length=vs.length/\Array.map (fun x=>x.2) (arrOf (SortSt.mk' general' (vs.toArray.zip vs.toArray) #[] 7 none))=List.toArray (p.map fun i=>vs.getD i Value.none):=by
   rcases short_two hl (by simpa using h2)with ⟨rfl,rfl⟩|⟨v,k,rfl,rfl⟩
   ·exact⟨[],⟨List.Perm.refl _,List.Pairwise.nil⟩,rfl,by show Array.map (fun x:Keyed=>x.2) ((#[]:Array Value).zip #[])=_;simp⟩
   ·exact⟨[0],⟨List.Perm.refl _,List.pairwise_singleton _ _⟩,rfl,by show Array.map (fun x:Keyed=>x.2) ((#[v]:Array Value).zip #[v])=_;simp⟩
  refine wpAny_bind (seqEpoch_at ho6 rfl ?_)
  have heq':Array.map (fun x=>x.2) (arrOf (SortSt.mk' general' (vs.toArray.zip vs.toArray) #[] 7 none))=List.toArray (p.map fun i=>vs.getD i Value.none):=heq
  refine wpAny_bind (listUpdate_at ho6 rfl ?_ (hsz2:=by have:=hmap p hpl;rw[<-heq']at this;exact Nat.le_succ_of_le this))
  simp only[bne_self_eq_false,Bool.false_eq_true,if_false]
  have hh:=h p hp
  rw[<-heq']at hh
  exact wpAny_pure hh
 ·rw[if_neg h2,if_neg h2]
  have hn2:2<=vs.length:=by rw[hsz]at h2;omega
  obtain⟨fs,t1,t2,t3⟩:=firsts_of (s:={s with heap:=((s.heap.update a (Obj.mapSeq fun _=> #[])).push (seqObj "tuple" vs.toArray 0)).push (seqObj "list" #[] 0)}) hl hv'
  refine wpAny_bind (kat_kind (T:= .type "int") t1 (by omega) (fun v hv=> ?_) (by decide) ?_)
  ·obtain⟨k,t,rfl⟩:=t3 v hv
   exact .now
  rw[show (Value.type "int" != Value.type "tuple")=true by decide]
  have tree:(kas_sort vs.length).kasWp (kas_ask prog w A (tuples' true) vs) (fun p s'=>s'={s with heap:=((s.heap.update a (Obj.mapSeq fun _=> #[])).push (seqObj "tuple" vs.toArray 0)).push (seqObj "list" #[] 0)}/\Ord vs.length p/\Asc (fun i=>ks.getD i 0) p vs.length) {s with heap:=((s.heap.update a (Obj.mapSeq fun _=> #[])).push (seqObj "tuple" vs.toArray 0)).push (seqObj "list" #[] 0)}:=by
   have hinj:∀i j,i<vs.length->j<vs.length->ks.getD i 0=ks.getD j 0->i=j:=fun i j hi hj e=>by
    have hp:=List.pairwise_iff_getElem.mp hnd
    have e':ks[i]'(by omega)=ks[j]'(by omega):=by simpa[show i<ks.length by omega,show j<ks.length by omega]using e
    rcases Nat.lt_trichotomy i j with z|z|z
    ·exact absurd e' (hp i j _ _ z)
    ·exact z
    ·exact absurd e'.symm (hp j i _ _ z)
   refine KOk.wp (V:=Pr vs.length) (lt:=ltK fun i=>ks.getD i 0) (Good:=fun s'=>s'={s with heap:=((s.heap.update a (Obj.mapSeq fun _=> #[])).push (seqObj "tuple" vs.toArray 0)).push (seqObj "list" #[] 0)}) (fun i j C s' hpr hg hC=> ?_) (KOk.imp (fun p hp s' hs'=>⟨hs',hp⟩) (sort_ok hn2 hinj)) rfl
   subst hg
   have hi:vs[i]? =some (vs.getD i Value.none):=by simp[hpr.1]
   have hj:vs[j]? =some (vs.getD j Value.none):=by simp[hpr.2.1]
   exact tup_lt (hv' i _ hi) (hv' j _ hj) (fun z=>hpr.2.2 (hinj i j hpr.1 hpr.2.1 z)) (hC _ rfl)
  refine wpAny_bind (wpAny_mono (kat_run (vs:=vs) (ks:=vs) (Q:=fun st' s'=>∃p:Array Nat,arrOf st'=p.map (kas_item (vs.toArray.zip vs.toArray))/\failedOf st'=none/\s'={s with heap:=((s.heap.update a (Obj.mapSeq fun _=> #[])).push (seqObj "tuple" vs.toArray 0)).push (seqObj "list" #[] 0)}/\Ord vs.length p/\Asc (fun i=>ks.getD i 0) p vs.length)
   rfl hn2 h64 (fun p' st' s' a1 a2 a3 a4=>⟨p',a2,a3,a4⟩) tree) ?_ fun _ _ e=>e)
  rintro⟨⟨⟩,st'⟩ s' ⟨p,har,hf,rfl,ord,asc⟩
  dsimp only
  have hout:=kat_snds (vs:=vs) (ks:=vs) rfl har
  have hpl:p.toList.length=vs.length:=by rw[Array.length_toList];exact ord.sz
  refine wpAny_bind (seqEpoch_at ho6 rfl ?_)
  rw[hout]
  refine wpAny_bind (listUpdate_at ho6 rfl ?_ (hsz2:=Nat.le_succ_of_le (hmap _ hpl)))
  rw[hf]
  simp only[bne_self_eq_false,Bool.false_eq_true,if_false]
  exact wpAny_pure (h p.toList ⟨by rw[<-hl];exact ord.perm,asc_pairwise ord.sz asc⟩)
end
section
variable {X:Cx}
inductive RowsAt (H:Hp):List V->List Int->Prop
 |nil:RowsAt H [] []
 |cons {a:Addr} {k:Int} {rest ys:List V} {ks:List Int}:H a=some (.tup (.int k::rest))->RowsAt H ys ks->RowsAt H (.ref a::ys) (k::ks)
theorem RowsAt.length {H:Hp}:∀{ys:List V} {ks:List Int},RowsAt H ys ks->ys.length=ks.length
 |_,_, .nil=>rfl
 |_,_, .cons _ t=>by rw[List.length_cons,List.length_cons,t.length]
theorem rows_fst {P:Program} {w:World} {H:Hp} {h h':Heap} (ok:HOk P w H h) (kp:∀b o,h.get? b=some o->h'.get? b=some o):∀{ys:List V} {ks:List Int} {us:List Value},RowsAt H ys ks->Vals ys us->∀(i:Nat) v,us[i]? =some v->TupFst h' v (ks.getD i 0)
 |_,_,_, .nil, .nil,i,v,e=>by simp at e
 |_,_,_, .cons (a:=a) (k:=k) (rest:=rest) ha t, .cons ru rt,i,v,e=>by
  cases i with
  |zero=>
   simp at e
   subst e
   obtain⟨_,its,r,o,h1,h2,n,h3,_⟩:=(show ObjOk P w H h a (.tup (.int k::rest))from ok a _ ha)
   cases r with
   |cons rk rr=>
    obtain⟨t,rfl⟩:=rk
    exact⟨a,o,t,_,n,ru,kp _ _ h1,h2,h3⟩
  |succ i=>exact rows_fst ok kp t rt i v (by simpa using e)
theorem vals_pick {ys:List V} {us:List Value} (r:Vals ys us):∀p:List Nat,(∀i∈p,i<ys.length)->Vals (p.map fun i=>ys.getD i .non) (p.map fun i=>us.getD i Value.none)
 |[],_=> .nil
 |i::p,h=>by
  have hi:=h i List.mem_cons_self
  have hy:ys[i]? =some (ys.getD i .non):=by simp[hi]
  obtain⟨u,hu,ru⟩:=r.get hy
  have e:us.getD i Value.none=u:=by simp[hu]
  refine .cons ?_ (vals_pick r p fun j hj=>h j (List.mem_cons_of_mem _ hj))
  show RelV (ys.getD i .non) (us.getD i Value.none)
  rw[e];exact ru
theorem call_sortedT:CallR X (.builtin "sorted") (fun xs H Q=>∃p ys ks,xs=[.ref p]/\(H p=some (.lst ys)\/H p=some (.tup ys))/\RowsAt H ys ks/\ks.Nodup/\ks.length<64/\
  ∀l q,H l=none->Placed ks q->Q (.ref l) (upd H l (.lst (q.map fun i=>ys.getD i .non)))):=by
 intro pins s σ H xs us Q I rv h
 obtain⟨p,ys,ks,rfl,hp,ra,nd,h64,q⟩:=h
 obtain⟨u,rfl,ru⟩:=vals1 rv
 cases ru
 have hl:=ra.length
 obtain⟨its,r,T,o,n,hT,ho,hc,hd⟩:∃its:List Value,Vals ys its/\∃(T:String) (o:Obj) (n:Nat),(T="list"\/T="tuple")/\s.heap.get? p=some o/\o.cls= .type T/\o.data= .seq its.toArray n:=by
  rcases hp with hp|hp
  ·obtain⟨its,r,⟨o,n,e,c,_,d⟩,_⟩:=I.list (SqL.of hp)
   exact⟨its,r,"list",o,n, .inl rfl,e,c,d⟩
  ·obtain⟨hz,its,r,o,e,c,n,d,_⟩:=(show ObjOk X.prog X.w H s.heap p (.tup ys)from I.hok p _ hp)
   exact⟨its,r,"tuple",o,n, .inr rfl,e,c,d⟩
 have hlen:=r.length
 refine Calls.call_function_entry kind_sorted plain_sorted entry_sorted (args_sorted1 _) ?_
 unfold Builtin.«sorted»
 refine wpAny_bind (m:=checkCount "sorted" 1 1 _) (wpAny_pure ?_)
 refine wpAny_bind (wpAny_collect_seq p hT ho hc hd (fun h' hk'=> ?_) (by rw[List.size_toArray,sizeLine_eq];omega))
 have eT:its.toArray.toList=its:=by simp
 rw[eT]
 refine wpAny_bind (wpAny_newList ?_ (by rw[sizeLine_eq];omega))
 have hoL:(h'.push (seqObj "list" its.toArray 0)).get? h'.objs.size=some (seqObj "list" its.toArray 0):=Heap.get?_push_size _ rfl
 refine wpAny_bind (wpAny_holding (wpAny_call_entry slot_list_sort ⟨_,hoL,rfl⟩ entry_list_sort (list_sort_tups hoL (by omega) (rows_fst I.hok (fun b o e=>Heap.get?_push_of_some _ (hk' b o e)) ra r) nd (by omega) fun z hz=>⟨_,rfl,?_⟩) (args_list_sort _)))
 refine wpAny_pure ⟨_,rfl,?_⟩
 obtain⟨e,he⟩:=sortedHeap_at (out:=List.toArray (z.map fun i=>its.getD i Value.none)) hoL
 have hfr:s.heap.get? h'.objs.size=none:=by
  cases e:s.heap.get? h'.objs.size with
  |none=>rfl
  |some o=>exact absurd (Heap.lt_size (hk' _ _ e)) (Nat.lt_irrefl _)
 have kk:∀b o,s.heap.get? b=some o->(sortedHeap (h'.push (seqObj "list" its.toArray 0)) h'.objs.size its (List.toArray (z.map fun i=>its.getD i Value.none))).get? b=some o:=fun b o eb=>by
  have hb:=hk' b o eb
  have hlt:b<h'.objs.size:=Heap.lt_size hb
  rw[sortedHeap_old (Nat.ne_of_lt hlt) (by rw[size_push'];exact Nat.lt_succ_of_lt hlt)]
  exact Heap.get?_push_of_some _ hb
 have hzl:z.length=ys.length:=by have:=hz.1.length_eq;rw[List.length_range]at this;omega
 refine⟨.ref h'.objs.size,_,I.laidAt (o:= .lst (z.map fun i=>ys.getD i .non)) kk hfr ⟨?_,z.map fun i=>its.getD i Value.none,e,vals_pick r z fun i hi=> ?_,by simpa[seqObj]using he⟩,rfl,q _ z (I.hok.nowhere hfr) hz⟩
 ·rw[List.length_map,hzl,sizeLine_eq];omega
 ·have:=List.mem_range.mp (hz.1.mem_iff.mp hi)
  omega
end
end L2
namespace L2
open PySem PySem.Spec PyProof.Rows
section
variable {prog:Program} {w:World} {A:Around} {E:Value->Shared->Prop} {s:Shared}
theorem draw_walk {I:Addr} {fp wr:List Addr} {items:Array Value} {St:Nat->Heap->Prop} (W:Walks prog w A I fp wr items.size (fun i v=>items[i]? =some v) St):∀(n i:Nat) (s:Shared) (Q:List Value->Shared->Prop),St i s.heap->i+n<=items.size->
  (∀(h':Heap) (tk:Nat),St (i+n) h'->(∀b o,b∉wr->s.heap.get? b=some o->h'.get? b=some o)->Q ((items.toList.drop i).take n) {s with heap:=h',toks:=tk})->wpAny (model prog w) A (draw (.ref I) n) Q E s
 |0,i,s,Q,st,hn,k=>by
  refine wpAny_pure ?_
  have:=k s.heap s.toks st fun _ _ _ e=>e
  rw[List.take_zero]at this
  exact this
 |n+1,i,s,Q,st,hn,k=>by
  unfold draw
  refine wpAny_bind (W.item i s _ E (by omega) st fun v h' tk hv st' kp=> ?_)
  refine wpAny_bind (wpAny_holding (draw_walk W n (i+1) _ _ st' (by omega) fun h2 tk2 st2 kp2=>wpAny_pure ?_))
  have e:(items.toList.drop i).take (n+1)=v::(items.toList.drop (i+1)).take n:=by
   obtain⟨hl,he⟩:=Array.getElem?_eq_some_iff.mp hv
   rw[List.drop_eq_getElem_cons (by simpa using hl),List.take_succ_cons]
   simp[he]
  have:=k h2 tk2 (by rw[show i+(n+1)=i+1+n by omega];exact st2) fun b o hb e=>kp2 b o hb (kp b o hb e)
  rw[e]at this
  exact this
theorem unpackItems_list {l:Addr} {items:Array Value} {Q:List Value->Shared->Prop} (hA:A.handled=none) (hl:s.heap.IsList l items)
  (k:∀(h':Heap) (tk:Nat),(∀b o,b≠s.heap.objs.size->s.heap.get? b=some o->h'.get? b=some o)->Q items.toList {s with heap:=h',toks:=tk}):wpAny (model prog w) A (unpackItems (.ref l) items.size none) Q E s:=by
 have hlt:l<s.heap.objs.size:=by obtain⟨o,ho,_⟩:=id hl;exact Heap.lt_size ho
 have ty:s.TypeIs (.ref l) "list":=by obtain⟨o,ho,hc,_⟩:=id hl;exact⟨o,ho,hc⟩
 unfold unpackItems notIterableAtAll
 refine wpAny_bind (wpAny_bind (wpAny_specialOf ty PySem.F.slot_list_iter.lookup ?_))
 refine wpAny_pure ?_
 refine wpAny_bind (wpAny_holding (wpAny_pyIter_list hl ?_))
 have W:=Walks.list (prog:=prog) (w:=w) (A:=A) hA s.heap.objs.size l (Nat.ne_of_lt hlt) items
 refine wpAny_bind (wpAny_holding (draw_walk W items.size 0 _ _ ⟨⟨_,Heap.get?_push_size _ rfl,rfl,rfl⟩,hl.push _⟩ (by omega) fun h' tk st kp=> ?_))
 have e:((items.toList.drop 0).take items.size)=items.toList:=by rw[List.drop_zero];exact List.take_of_length_le (by simp)
 rw[e]
 rw[if_neg (by simp)]
 rw[Nat.zero_add]at st
 refine wpAny_bind (wpAny_holding (W.done _ _ E st fun h2 tk2 kp2=> ?_))
 refine wpAny_pure (k h2 tk2 fun b o hb eb=> ?_)
 have nb:b∉[s.heap.objs.size]:=fun z=>hb (List.mem_singleton.mp z)
 exact kp2 b o nb (kp b o nb (Heap.get?_push_of_some _ eb))
theorem assign_Tuple_list {env:Env} {elts:List Expr} {x1:Nat} {pos:Pos} {l:Addr} {items:Array Value} {Q:Unit->Shared->Prop} (hA:A.handled=none) (hl:s.heap.IsList l items) (hn:(assignEach elts env).length=items.size) (hst:(assignEach elts env).findIdx? (·.1)=none)
  (k:∀(h':Heap) (tk:Nat),(∀b o,b≠s.heap.objs.size->s.heap.get? b=some o->h'.get? b=some o)->wpAny (model prog w) A (assignInOrder ((assignEach elts env).map (·.2)) items.toList) Q E {s with heap:=h',toks:=tk}):
  wpAny (model prog w) A (assign (.Tuple elts x1 pos) env (.ref l)) Q E s:=by
 rw[assign_Tuple]
 refine wpAny_bind (wpAny_standAt ?_)
 unfold unpack
 rw[hst,hn]
 exact wpAny_bind (wpAny_holding (unpackItems_list hA hl fun h' tk kp=>k h' tk kp))
end
section
variable {X:Cx} {pos:Pos}
noncomputable def gLst (K:PySem.W.Frag) (n:Nat) (t:TGs):TG:=fun v σ H Q=>∃a xs,v= .ref a/\SqL K H a xs/\xs.length=n/\t xs σ H Q
theorem pg_lst {es:List Expr} {k:Nat} {t:TGs} {n:Nat} (hc:X.calm=true) (h:PGs X es t) (hn:(assignEach es X.env).length=n:=by rfl) (hst:(assignEach es X.env).findIdx? (·.1)=none:=by rfl):PG X (.Tuple es k pos) (gLst X.K n t):=by
 intro pins s σ H v u Q I r hw
 obtain⟨a,xs,e1,hq,hl,hw⟩:=hw
 subst e1
 cases r
 obtain⟨its,rv,ht,hz⟩:=I.list hq
 refine assign_Tuple_list (I.ok.hd hc) ht.isList (by simp[hn,<-hl,rv.length]) hst fun h' tk hx=> ?_
 have I1:Inv X pins σ H {s with heap:=h',toks:=tk}:=I.kept (t':=tk) fun b o e=>hx b o (Nat.ne_of_lt (Heap.lt_size e)) e
 exact h pins _ σ H xs _ Q I1 (by simpa using rv) hw
noncomputable def rSlW (K:PySem.W.Frag):V->Option Int->Option Int->Hp->VK->Prop:=fun x lo hi H Q=>∃a xs,x= .ref a/\SqT K H a xs/\(HT.sIx xs.length 0 lo=0/\HT.sIx xs.length xs.length hi=xs.length)/\Q (.ref a) H
theorem getItem_tuple_whole {prog:Program} {w:World} {A:Around} {E:Value->Shared->Prop} {s:Shared} {t sl:Addr} {items:Array Value} {vl vu:Value} {lo hi:Option Int} {Q:Value->Shared->Prop} (ht:IsTup s.heap t items) (hs:s.heap.IsSliceOf sl vl vu .none) (pl:IsPart vl lo) (pu:IsPart vu hi)
  (hw:HT.sIx items.size 0 lo=0/\HT.sIx items.size items.size hi=items.size) (h:Q (.ref t) s):wpAny (model prog w) A (getItem (.ref t) (.ref sl)) Q E s:=by
 obtain⟨os,hos,hcs,hds⟩:=id hs
 have hTs:s.TypeIs (.ref sl) "slice":=⟨os,hos,hcs⟩
 unfold getItem
 try with_reducible refine wpAny_holding ?_
 first|refine wpAny_bind (wpAny_pure ?_)|skip
 refine wpAny_bind (wpAny_sequenceKey ht.typeIs (by decide) ?_)
 refine wpAny_bind (wpAny_callSpecial?_slot (name:=Str.ofString "__getitem__") ht.typeIs PyProof.Rows.slot_tuple_getitem
  (wpAny_call_entry PyProof.Rows.slot_tuple_getitem ht.typeIs entry_tuple_getitem ?_ (args_tuple_getitem _ _)))
 show wpAny _ _ (Builtin.Tuple.tupleItemsOf (.ref t)>>=_) _ _ s
 refine wpAny_bind (tupleItemsOf_ ht ?_)
 refine wpAny_bind (wpAny_typeOf hTs ?_)
 rw[if_pos (by decide)]
 refine wpAny_bind (HT.sliceApplied_gen hs pl pu ?_)
 show wpAny _ _ (if (((HT.sIx items.size 0 lo:Nat):Int)==0&&(1:Int)==1&&(HT.sIx items.size items.size hi - HT.sIx items.size 0 lo)==items.size)=true then _ else _) _ _ s
 rw[if_pos (by rw[hw.1,hw.2];simp)]
 unfold Builtin.Tuple.tupleIsExact
 refine wpAny_bind (wpAny_bind (wpAny_typeOf ht.typeIs (wpAny_pure ?_)))
 rw[if_pos (by decide)]
 refine wpAny_bind (wpAny_rule ?_)
 exact PySem.W.nd_pure ⟨_,rfl,wpAny_pure h⟩
theorem sl_tupW:SlR X (rSlW X.K):=by
 intro pins s σ H x v vl vu lo hi sl Q I rx hs pl pu h
 obtain⟨a,xs,rfl,hx,hw,q⟩:=h
 cases rx
 obtain⟨its,r,ht,hz⟩:=I.tuple hx
 have hlen:its.toArray.size=xs.length:=by rw[List.size_toArray];exact r.length.symm
 refine⟨"tuple",_,PyProof.Rows.slot_tuple_getitem.lookup,ht.typeIs,?_⟩
 exact getItem_tuple_whole ht hs pl pu (by rw[hlen];exact hw) ⟨.ref a,H,I,rfl,q⟩
theorem tuple_addW0 (l b:Addr) (items items2:Array Value) (n n2:Nat) (dd dd2:Option Addr) (sl sl2:Array (Option Value)) (h0:items.isEmpty=true):
  Meets (Builtin.«tuple.__add__» {pos:=[Value.ref l,Value.ref b]}) fun x R s=>
    s.heap.get? l=some {cls:=Value.type "tuple",dict:=dd,data:=Data.seq items n,slots:=sl}/\
     s.heap.get? b=some {cls:=Value.type "tuple",dict:=dd2,data:=Data.seq items2 n2,slots:=sl2}/\R (Except.ok (Flow.ret (Value.ref b))) s:=by
 intro prog w A R s ⟨g1,g2,q⟩
 have t1:IsTup s.heap l items:=⟨_,g1,rfl,n,rfl⟩
 have t2:IsTup s.heap b items2:=⟨_,g2,rfl,n2,rfl⟩
 unfold Builtin.«tuple.__add__»
 refine wpAny_bind (wpAny_pure (a:=(Value.ref l,[Value.ref b])) ?_)
 dsimp only
 refine wpAny_bind (wpAny_isInstance t2.typeIs sub_tuple_tuple ?_)
 rw[if_neg (by decide)]
 refine wpAny_bind (tupleItemsOf_ t1 (wpAny_bind (tupleItemsOf_ t2 ?_)))
 rw[if_pos h0]
 unfold Builtin.Tuple.tupleIsExact
 refine wpAny_bind (wpAny_bind (wpAny_typeOf t2.typeIs (wpAny_pure ?_)))
 rw[if_pos (by decide)]
 exact wpAny_bind (wpAny_rule (PySem.W.nd_pure q))
noncomputable def rCat0 (K:PySem.W.Frag):R2:=fun x y H Q=>∃a b ys,x= .ref a/\y= .ref b/\SqT K H a []/\SqT K H b ys/\Q (.ref b) H
theorem op_cat0:OpR X (binaryOp .Add) (rCat0 X.K):=by
 intro pins s σ H x y v u Q I rx ry h
 obtain⟨a,b,ys,rfl,rfl,ha,hb,q⟩:=h
 cases rx
 cases ry
 obtain⟨its,r1,p1,_⟩:=I.tuple ha
 obtain⟨its2,r2,p2,_⟩:=I.tuple hb
 cases r1
 obtain⟨⟨cls,dd,data,sl⟩,ho,hc,n,hd⟩:=id p1
 obtain⟨⟨cls2,dd2,data2,sl2⟩,ho2,hc2,n2,hd2⟩:=id p2
 simp only at hc hd hc2 hd2
 subst hc hd hc2 hd2
 exact concat_meets ⟨_,ho,rfl⟩ ⟨_,ho2,rfl⟩ noFill_tuple_add seq_tuple_add PySem.F.slot_tuple_add PySem.F.entry_tuple_add (PySem.F.args_tuple_add_2 _ _)
   (tuple_addW0 a b _ _ n n2 dd dd2 sl sl2 rfl) ⟨ho,ho2,⟨.ref b,H,I,rfl,q⟩⟩
end
end L2
namespace L2
open PySem PySem.Spec PyProof.Rows
theorem ObjOk.there {P:Program} {w:World} {H:Hp} {h:Heap} {a:Addr} {o:HO} (x:ObjOk P w H h a o):∃ob,h.get? a=some ob:=by
 cases o with
 |lst xs=>obtain⟨_,_,_,_,e⟩:=x;exact⟨_,e⟩
 |tup xs=>obtain⟨_,_,_,o,e,_⟩:=x;exact⟨_,e⟩
 |dK kvs=>obtain⟨_,_,_,_,o,_,_,e,_⟩:=x;exact⟨_,e⟩
 |dT kvs=>obtain⟨_,_,_,_,o,_,_,e,_⟩:=x;exact⟨_,e⟩
 |set S n=>obtain⟨o,_,_,_,e,_⟩:=x;exact⟨_,e⟩
 |ins C dx fs=>obtain⟨_,_,_,e,_⟩:=x;exact⟨_,e⟩
 |own y=>obtain⟨_,e⟩:=x;exact⟨_,e⟩
 |xd fs=>obtain⟨_,⟨_,_,_,e,_⟩,_⟩:=x;exact⟨_,e⟩
 |rng lo hi=>obtain⟨_,_,_,e⟩:=x;exact⟨_,e⟩
 |frz ob u=>obtain⟨e,_⟩:=x;exact⟨_,e⟩
 |tbl ps=>exact⟨_,(show h.get? a=some _ from x)⟩
 |met f y=>exact⟨_,(show h.get? a=some _ from x)⟩
 |ext φ=>obtain⟨_,⟨_,e⟩,_⟩:=x;exact⟨_,e⟩
theorem HOk.none_of {P:Program} {w:World} {H:Hp} {h:Heap} {a:Addr} (x:HOk P w H h) (e:h.get? a=none):H a=none:=by
 cases q:H a with
 |none=>rfl
 |some o=>obtain⟨ob,z⟩:=(x a o q).there;rw[e]at z;cases z
structure New (X:Cx) (pins:List (Addr×Obj)) (H:Hp) (b:Addr):Prop where
 s0:X.s₀.heap.get? b=none
 no:H b=none
 pin:∀p∈X.pn++pins,p.1≠b
structure TrAt (X:Cx) (pins:List (Addr×Obj)) (H:Hp) (h:Heap) (a T:Addr):Prop where
 new:New X pins H T
 ne:T≠a
 at_:∃oT ts,h.get? T=some oT/\oT.data= .fields ts/\ts[3]? =some .none
structure Fl (X:Cx) (pins:List (Addr×Obj)) (H:Hp) (h:Heap) (a:Addr) (cls:Value):Prop where
 new:New X pins H a
 at_:∃oe vs,h.get? a=some oe/\oe.cls=cls/\oe.data= .fields vs/\(vs[1]? =some .none\/∃T,vs[1]? =some (.ref T)/\TrAt X pins H h a T)
structure FlT (X:Cx) (pins:List (Addr×Obj)) (H:Hp) (h:Heap) (a:Addr) (cls:Value):Prop where
 new:New X pins H a
 at_:∃oe vs,h.get? a=some oe/\oe.cls=cls/\oe.data= .fields vs/\∃T,vs[1]? =some (.ref T)/\TrAt X pins H h a T
theorem FlT.fl {X:Cx} {pins:List (Addr×Obj)} {H:Hp} {h:Heap} {a:Addr} {cls:Value} (f:FlT X pins H h a cls):Fl X pins H h a cls:=
 let ⟨oe,vs,h1,h2,h3,h4⟩:=f.at_;⟨f.new,oe,vs,h1,h2,h3, .inr h4⟩
section
variable {X:Cx} {pins:List (Addr×Obj)} {σ:St} {H H':Hp} {s s':Shared} {a:Addr} {cls:Value}
structure Plain (X:Cx):Prop where
 st:X.stack=X.env::X.outer
 fr:X.env.frame=some X.env.locals
 ex:X.ex=[]
theorem New.of (I:Inv X pins σ H s) (p:Plain X) {b:Addr} (h:s.heap.get? b=none) (hH:H' b=none):New X pins H' b:=by
 refine⟨?_,hH,fun q hq z=> ?_⟩
 ·cases e:X.s₀.heap.get? b with
  |none=>rfl
  |some o=>
   obtain⟨o',e'⟩:=I.base.there b o e (by rw[p.ex];simp)
   rw[h]at e';cases e'
 ·have:=(I.pin q hq).1
  rw[z,h]at this;cases this
theorem _root_.PySem.Heap.TracedW.traced {h B:Heap} {a:Addr} {cls a0:Value} (t:h.TracedW B a cls a0):h.Traced B a cls:=
 let ⟨oe,vs,T,oT,ts,g1,g2,g3⟩:=t;⟨oe,vs,T,oT,ts,g1,g2.1,g3⟩
theorem fl_ground (I:Inv X pins σ H s) (p:Plain X) (fl:Fl X pins H s.heap a cls):∃(B:Heap) (oe:Obj) (vs:Array Value),s.heap.get? a=some oe/\oe.cls=cls/\oe.data= .fields vs/\s.heap.FunFrames B (X.env::X.outer)/\B.StaysIn s.heap/\B.get? a=none/\
  (vs[1]? =some .none\/∃T oT ts,vs[1]? =some (.ref T)/\B.get? T=none/\T≠a/\s.heap.get? T=some oT/\oT.data= .fields ts/\ts[3]? =some .none)/\
  ∀h',B.StaysIn h'->h'.Traced B a cls->s.heap.UpToSlots h'->Inv X pins σ H {s with heap:=h'}/\FlT X pins H h' a cls:=by
 obtain⟨oe,vs,ge,gc,gd,gt⟩:=fl.at_
 obtain⟨rest,hrest,hnext⟩:∃rest:List Addr,(∀b∈rest,New X pins H b/\∃oT ts,s.heap.get? b=some oT/\oT.data= .fields ts)/\(vs[1]? =some .none\/∃T,vs[1]? =some (.ref T)/\TrAt X pins H s.heap a T/\T∈rest):=by
  rcases gt with g|⟨T,g,t⟩
  ·exact⟨[],(fun b hb=>by cases hb), .inl g⟩
  ·obtain⟨oT,ts,e1,e2,_⟩:=t.at_
   exact⟨[T],fun b hb=>by rw[List.mem_singleton.mp hb];exact⟨t.new,oT,ts,e1,e2⟩, .inr ⟨T,g,t,List.mem_singleton.mpr rfl⟩⟩
 have fsub:∀b,b∈X.fs->b∈frs X.stack:=fun b hb=>by
  rw[p.st]
  unfold frs
  rw[List.filterMap_cons,p.fr]
  exact List.mem_cons_of_mem _ hb
 have lsub:X.env.locals∈frs X.stack:=by
  rw[p.st]
  unfold frs
  rw[List.filterMap_cons,p.fr]
  exact List.mem_cons_self
 have chN:∀b∈a::rest,New X pins H b/\∃oT ts,s.heap.get? b=some oT/\oT.data= .fields ts:=fun b hb=>by
  rcases List.mem_cons.mp hb with rfl|hb
  ·exact⟨fl.new,oe,vs,ge,gd⟩
  ·exact hrest b hb
 have frD:∀b∈frs X.stack,∃o,s.heap.get? b=some o/\∀vs:Array Value,o.data≠Data.fields vs:=fun b hb=>(I.stack.mem hb).2
 have apart:∀b∈a::rest,b∉frs X.stack:=fun b hb z=>by
  obtain⟨_,o,ts,e1,e2⟩:=chN b hb
  obtain⟨o',e3,e4⟩:=frD b z
  rw[e1]at e3;cases e3
  exact e4 ts e2
 let hid:List Addr:=(a::rest)++frs X.stack
 let B:Heap:=PySem.W.hideAll s.heap hid
 have ff:s.heap.FunFrames B X.stack:=PySem.W.funFrames_hide I.stack fun env he b hb=>List.mem_append_right _ (List.mem_filterMap.mpr ⟨env,he,hb⟩)
 have hB:B.StaysIn s.heap:=fun b o e=>PySem.W.of_hideAll _ e
 have hBa:B.get? a=none:=PySem.W.hideAll_none _ (List.mem_append_left _ List.mem_cons_self)
 have ff':s.heap.FunFrames B (X.env::X.outer):=by rw[<-p.st];exact ff
 refine⟨B,oe,vs,ge,gc,gd,ff',hB,hBa,?_,fun h' st ⟨oe',vs',T',oT',ts',g1,g2,g3,g4,g5,g6,g7,g8,g9⟩ up=> ?_⟩
 ·rcases hnext with g|⟨T,g,t,hT⟩
  ·exact .inl g
  ·obtain⟨oT,ts,e1,e2,e3⟩:=t.at_
   exact .inr ⟨T,oT,ts,g,PySem.W.hideAll_none _ (List.mem_append_left _ (List.mem_cons_of_mem _ hT)),t.ne,e1,e2,e3⟩
 ·have inB:∀b o,s.heap.get? b=some o->b∉a::rest->b∉frs X.stack->h'.get? b=some o:=fun b o e n1 n2=>
   st b o (PySem.W.hideAll_get _ e fun z=>(List.mem_append.mp z).elim n1 n2)
  have newT:New X pins H T':=by
   by_cases hr:T'∈rest
   ·exact(hrest T' hr).1
   ·have hn:s.heap.get? T'=none:=by
     cases e:s.heap.get? T' with
     |none=>rfl
     |some o=>
      by_cases hf:T'∈frs X.stack
      ·obtain⟨o',e3,e4⟩:=frD T' hf
       obtain⟨sl,e5⟩:=up T' o' e3 e4
       rw[g7]at e5;cases e5
       exact absurd g8 (e4 ts')
      ·have:=PySem.W.hideAll_get hid (b:=T') e fun z=>(List.mem_append.mp z).elim (fun q=>(List.mem_cons.mp q).elim g6 hr) hf
       rw[g5]at this;cases this
    exact New.of I p hn (I.hok.none_of hn)
  refine⟨I.step (g':=s.gens) (d':=s.drawn) (t':=s.toks) (ch:=a::rest) (fun b hb=> ?_) (fun b o n1 n2 n3 e _=> ?_) (fun b o _ hb n3 e _=> ?_) (fun _ _ _ _ n=>n) (fun b o n e=> ?_) (fun _ _ e=>e) (fun _ _ _ e=>e) (fun b ps e=>⟨#[],by rw[e];simp⟩) (fun m hm=> ?_) (fun b u e=> ?_) I.bare,
   ⟨fl.new,oe',vs',g1,g2,g3,T',g4,newT,g6,oT',ts',g7,g8,g9⟩⟩
  ·obtain⟨n,o,ts,e1,e2⟩:=chN b hb
   refine⟨.inr n.s0,fun z=>apart b hb (by rw[z];exact lsub),fun x c hc z=> ?_,n.pin⟩
   obtain⟨v,o',e3,e4⟩:=I.cell x c hc
   rw[z,e1]at e3;cases e3
   rw[e2]at e4;cases e4
  ·exact inB b o e n3 fun z=>(List.mem_cons.mp (I.stkSub b z)).elim n1 n2
  ·obtain⟨o',e3,e4⟩:=frD b (fsub b hb)
   rw[e]at e3;cases e3
   exact up b o e e4
  ·by_cases hf:b∈frs X.stack
   ·obtain⟨o',e3,e4⟩:=frD b hf
    rw[e]at e3;cases e3
    obtain⟨sl,e5⟩:=up b o e e4
    exact⟨_,e5⟩
   ·exact⟨o,inB b o e n hf⟩
  ·obtain⟨o,es,ep,ho,hd,r⟩:=hm
   obtain⟨sl,e5⟩:=up _ o ho fun vs z=>by rw[hd]at z;cases z
   exact⟨_,es,ep,e5,hd,r⟩
  ·have nh:∀c v,H c=some v->c∉a::rest/\c∉frs X.stack:=fun c v hc=>⟨fun z=>(by have:=(chN c z).1.no;rw[hc]at this;cases this),fun z=>(by have:=I.stkFree c z;rw[hc]at this;cases this)⟩
   refine(I.hok b u e).stay (fun c v hc q=> ?_) (fun _ q=>q) fun _ _ q=>q
   rcases hc with z|z
   ·rw[z]at q ⊢;exact inB b v q (nh b u e).1 (nh b u e).2
   ·exact inB c v q (nh c _ z).1 (nh c _ z).2
theorem leave_fl {Q:Unit->Shared->Prop} {E:Value->Shared->Prop} (I:Inv X pins σ H s) (p:Plain X) (fl:Fl X pins H s.heap a cls)
  (k:∀h',Inv X pins σ H {s with heap:=h'}->FlT X pins H h' a cls->Q () {s with heap:=h'}):wpAny (model X.prog X.w) X.A (leaving X.env (.ref a)) Q E s:=by
 obtain⟨B,oe,vs,ge,gc,gd,ff,hB,hBa,hn,hk⟩:=fl_ground I p fl
 have hfr:X.A.frames=some (X.env::X.outer):=by rw[I.ok.frames,p.st]
 have go:∀h',B.Left (X.env::X.outer) a oe.cls s.heap h'->Q () {s with heap:=h'}:=fun h' ⟨st,_,tr,up⟩=>by
  rw[gc]at tr
  obtain⟨I',f'⟩:=hk h' st tr up
  exact k h' I' f'
 rcases hn with g|⟨T,oT,ts,g1,g2,g3,g4,g5,g6⟩
 ·exact wpAny_leaving_first hfr ff p.fr ge hB hBa gd g go
 ·exact wpAny_leaving_next (cls:=oe.cls) hfr ff p.fr ⟨oe,vs,T,oT,ts,ge,rfl,gd,g1,g2,g3,g4,g5,g6⟩ hB hBa go
theorem noted_fl {Q:Unit->Shared->Prop} {E:Value->Shared->Prop} (I:Inv X pins σ H s) (p:Plain X) (fl:Fl X pins H s.heap a cls)
  (k:∀h',Inv X pins σ H {s with heap:=h'}->FlT X pins H h' a cls->Q () {s with heap:=h'}):
  wpAny (model X.prog X.w) X.A (noteFrame (.ref a) X.env) (fun _ s₂=>wpAny (model X.prog X.w) X.A (setFlight (.ref a) none) Q E s₂) E s:=by
 obtain⟨B,oe,vs,ge,gc,gd,ff,hB,hBa,hn,hk⟩:=fl_ground I p fl
 have hfr:X.A.frames=some (X.env::X.outer):=by rw[I.ok.frames,p.st]
 have size1:1<vs.size:=by
  have:vs[1]? ≠none:=by
   rcases hn with g|⟨T,oT,ts,g1,_⟩
   ·rw[g];simp
   ·rw[g1];simp
  by_cases z:1<vs.size
  ·exact z
  ·exact absurd (Array.getElem?_eq_none (Nat.le_of_not_lt z)) this
 obtain⟨a0,h0⟩:∃a0,vs[0]? =some a0:=⟨vs[0]'(by omega),by simp⟩
 rcases hn with g|⟨T,oT,ts,g1,g2,g3,g4,g5,g6⟩
 ·unfold noteFrame
  rw[p.fr]
  refine wpAny_bind (wpAny_field (o:=oe) ge (by rw[gd]) g ?_)
  refine wpAny_newEntryW (head:= .none) (hadNext:=false) hfr ff p.fr ge hB hBa gd size1 h0 fun h' z_=> ?_
  obtain⟨st,_,tr,up⟩:=z_
  rw[gc]at tr
  obtain⟨I',f'⟩:=hk h' st tr.traced up
  exact k h' I' f'
 ·refine wpAny_looks_onW (cls:=cls) (a0:=a0) hfr p.fr ⟨hB,hBa,ff,oe,vs,T,oT,ts,ge,⟨gc,h0⟩,gd,g1,g2,g3,g4,g5,g6⟩ fun h1 held u1=> ?_
  refine wpAny_landsW held fun h2 ⟨st,_,_,tr⟩ u2=> ?_
  obtain⟨I',f'⟩:=hk h2 st tr.traced (u1.trans u2)
  exact k h2 I' f'
noncomputable def Fly (g:Heap) (H:Hp) (h:Heap) (a:Addr) (cls:Value):Prop:=g.get? a=none/\H a=none/\∃oe vs T oT ts,h.get? a=some oe/\oe.cls=cls/\oe.data= .fields vs/\vs[1]? =some (.ref T)/\g.get? T=none/\H T=none/\T≠a/\
 h.get? T=some oT/\oT.data= .fields ts/\ts[3]? =some .none
noncomputable def CXE (P:Program) (w:World):CXT:=fun outer H s E e s'=>∃a cls H',e= .ref a/\s'.os=s.os/\AllBare s'.gens/\Un (frs outer) [] H H' s.heap s'.heap/\HOk P w H' s'.heap/\Fly s.heap H' s'.heap a cls/\E cls (some a) H'
theorem cxe_fl {E:XK} {e:Value} (I:Inv X pins σ H s) (p:Plain X) (h:CXE X.prog X.w X.stack H s E e s'):∃a cls H',e= .ref a/\Inv X pins σ H' s'/\Fl X pins H' s'.heap a cls/\E cls (some a) H':=by
 obtain⟨a,cls,H',rfl,os,bare,un,hok,⟨n1,n2,oe,vs,T,oT,ts,g1,g2,g3,g4,g5,g6,g7,g8,g9,g10⟩,q⟩:=h
 refine⟨a,cls,H',rfl,I.call' os un hok bare (fun b hb=>by cases hb),⟨New.of I p n1 n2,oe,vs,g1,g2,g3, .inr ⟨T,g4,New.of I p g5 g6,g7,oT,ts,g8,g9,g10⟩⟩,q⟩
theorem plain_of {CX:CXT} {P:Program} {w:World} {K:PySem.W.Frag} {mg:Str->Option Value} {base:Heap} {N:List Str} {qual:Str} {scope:Scope} {f:Addr} {cd:Value} {A:Around} {outer:List Env} {s:Shared} {H:Hp} {E:XK}:
  Plain (cxOf CX P w K mg base N qual scope f cd A outer s H E):=⟨rfl,rfl,rfl⟩
theorem def_leaves {P:Program} {w:World} {K:PySem.W.Frag} {mg:Str->Option Value} {base:Heap} {N:List Str} {qual:Str} {scope:Scope} {f:Addr} {cd:Value} {A:Around} {outer:List Env} {s0:Shared} {H0:Hp} {E:XK}
  (I:Inv (cxOf (CXE P w) P w K mg base N qual scope f cd A outer s0 H0 E) pins σ H s) (fl:Fl (cxOf (CXE P w) P w K mg base N qual scope f cd A outer s0 H0 E) pins H s.heap a cls) (h:E cls (some a) H):
  (cxOf (CXE P w) P w K mg base N qual scope f cd A outer s0 H0 E).xe (.ref a) s:=by
 refine leave_fl I plain_of fl fun h' I' f'=> ?_
 obtain⟨oe,vs,g1,g2,g3,T,g4,t⟩:=f'.at_
 obtain⟨oT,ts,g5,g6,g7⟩:=t.at_
 exact⟨a,cls,H,rfl,I'.os,I'.bare,I'.base,I'.hok,⟨f'.new.s0,f'.new.no,oe,vs,T,oT,ts,g1,g2,g3,g4,t.new.s0,t.new.no,t.ne,g5,g6,g7⟩,h⟩
end
end L2
namespace L2
open PySem PySem.Spec PyProof.Rows
theorem looks_at {α:Type} {M:Model} {A:Around} {t:Sem α} {r:α} {Q:α->Shared->Prop} {E:Value->Shared->Prop} {s:Shared} (l:PySem.W.Looks M s.heap t r) (q:Q r s):wpAny M A t Q E s:=l A Q E s (fun _ _ e=>e) q
theorem exc_ty {M:Model} {h:Heap} {x C:Addr} {ox:Obj} (e:h.get? x=some ox) (hc:ox.cls= .ref C):PySem.W.Looks M h (typeOf (.ref x)) (.ref C):=fun A Q E s k q=>
 wpAny_bind (wpAny_loadPart (k _ _ e) (wpAny_pure (by rw[hc];exact q)))
theorem class_getE {prog:Program} {w:World} {A:Around} {s:Shared} {K:PySem.W.Frag} {x C:Addr} {R:Result->Shared->Prop} {ox:Obj} {tp:Value} (KX:K.In s.heap) (e:s.heap.get? x=some ox) (hc:ox.cls= .ref C) (hm:PySem.W.mroIn K C (.type "object")=some true)
  (q:R (.ok (.ret (.ref C))) s):codeAny (model prog w) A (.call (.builtin "getset_descriptor.__get__") {pos:=[.builtin "object.__class__", .ref x,tp]}) R s:=by
 refine codeAny_call_builtin PySem.W.KF.slot_gs.plain PySem.W.KF.entry_gs ?_
 refine PySem.W.KF.slot_gs.check _ _ _ _ _ _ _ _ PySem.W.KF.type_class (PySem.W.KF.args_gs _ _ _) ?_
 show wpAny _ _ (Builtin.Getset_descriptor.descrGet _) _ _ _
 unfold Builtin.Getset_descriptor.descrGet
 rw[PySem.W.dga_obj]
 refine wpAny_bind (wpAny_pure ?_)
 dsimp only
 unfold Builtin.Getset_descriptor.descrGetter
 dsimp only
 unfold Builtin.Getset_descriptor.descrCheckInstance Builtin.Getset_descriptor.descrNameAndClass
 dsimp only
 rw[PySem.W.KF.owner_class]
 refine wpAny_bind (wpAny_bind (wpAny_pure ?_))
 refine wpAny_bind (wpAny_bind (looks_at (exc_ty e hc) (looks_at (PySem.W.looks_mroIn KX hm) ?_)))
 refine wpAny_pure ?_
 refine PySem.W.nd_pure ⟨Code.quiet_builtin _ (by decide+kernel),codeAny_builtin PySem.W.KF.entry_class ?_⟩
 show wpAny _ _ (do let t<-shownTypeOf (.ref x);ret t) _ _ _
 unfold shownTypeOf
 refine wpAny_bind (wpAny_bind (looks_at (exc_ty e hc) ?_))
 rw[if_neg (by intro z;exact absurd z (by simp))]
 exact wpAny_pure (PySem.W.nd_pure q)
theorem exc_cls {prog:Program} {w:World} {A:Around} {E:Value->Shared->Prop} {s:Shared} {K:PySem.W.Frag} {x C:Addr} {ox:Obj} {Q:Option Value->Shared->Prop} (KX:K.In s.heap) (e:s.heap.get? x=some ox) (hc:ox.cls= .ref C)
  (h1:PySem.W.findIn K (.ref C) "__getattribute__"=some (some (.builtin "BaseException.__getattribute__"))) (h2:PySem.W.findIn K (.ref C) "__getattr__"=some none) (h3:PySem.W.findIn K (.ref C) "__class__"=some (some (.builtin "object.__class__")))
  (h4:PySem.W.specialIn K (.builtin "object.__class__") "__get__"=some (some (.builtin "getset_descriptor.__get__"))) (h5:PySem.W.takesIn K (.builtin "object.__class__")=some true) (h6:PySem.W.mroIn K C (.type "object")=some true) (h7:PySem.W.mroIn K C (.type "BaseException")=some true)
  (q:Q (some (.ref C)) {s with toks:=s.toks+1}):wpAny (model prog w) A (getAttr? (.ref x) "__class__") Q E s:=by
 unfold getAttr?
 refine wpAny_bind (wpAny_mkText ?_)
 unfold getAttrBy?
 refine wpAny_bind (wpAny_attempt ?_)
 unfold getAttrBy
 refine wpAny_holding (wpAny_bind (looks_at (exc_ty e hc) (wpAny_bind (looks_at (PySem.W.looks_findIn KX h1) ?_))))
 dsimp only
 rw[if_neg (by rw[show (Value.builtin "BaseException.__getattribute__"==Value.builtin "object.__getattribute__")=false by decide+kernel,Bool.and_false];simp)]
 unfold getAttrByItsOwn hookBefore
 refine wpAny_bind ?_
 rw[if_pos (by rfl)]
 refine looks_at (PySem.W.looks_findIn KX h2) ?_
 refine wpAny_bind (wpAny_attempt (wpAny_holding ?_))
 unfold callGetattribute
 rw[if_neg (by simp)]
 unfold boundAndCalled
 rw[F.attrBase_ValueError.ga.bind]
 refine wpAny_bind (wpAny_pure ?_)
 dsimp only
 refine wpAny_call (codeAny_call_builtin F.attrBase_ValueError.ga.plain F.entry_bexc_ga ?_)
 show wpAny _ _ (checkBuiltinCall "BaseException.__getattribute__" {pos:=Value.ref x::[Value.str (Str.ofString "__class__") s.toks],kw:=[]}) _ _ _
 refine PySem.W.check_slot (i:="BaseException.__getattribute__") (owner:="BaseException") (n:="__getattribute__") PySem.wpAny_check_ga_own._proof_1_1 PySem.wpAny_check_ga_own._proof_1_2 (fun A Q E s k q=>wpAny_bind (exc_ty e hc A _ E s k (PySem.W.looks_mroIn KX h7 A _ E s k q))) (F.args_bexc_ga _ _) ?_
 unfold Builtin.«object.__getattribute__»
 refine wpAny_bind (wpAny_pure (a:=(Value.ref x,[Value.str (Str.ofString "__class__") s.toks])) ?_)
 dsimp only
 refine wpAny_bind (wpAny_pure (a:=Str.ofString "__class__") ?_)
 refine wpAny_bind (looks_at (exc_ty e hc) ?_)
 refine wpAny_bind ?_
 unfold Builtin.ObjectAttr.find
 refine wpAny_bind (looks_at (PySem.W.looks_findIn KX h3) ?_)
 refine wpAny_bind ?_
 show wpAny _ _ (specialOf _ _) _ _ _
 refine looks_at (PySem.W.looks_specialIn KX h4) ?_
 refine wpAny_bind ?_
 show wpAny _ _ (do let b<-Builtin.ObjectAttr.takesStores (Value.builtin "object.__class__");if b=true then pure (some (Value.builtin "getset_descriptor.__get__",Value.builtin "object.__class__"))else pure none) _ _ _
 refine wpAny_bind (looks_at (PySem.W.looks_takesIn KX h5) ?_)
 rw[if_pos rfl]
 refine wpAny_pure ?_
 dsimp only
 refine wpAny_bind (wpAny_rule (wpAny_pure ?_))
 dsimp only
 unfold Builtin.ObjectAttr.bindTo
 dsimp only
 refine wpAny_bind (wpAny_holding (wpAny_call (class_getE KX e hc h6 ?_)))
 refine PySem.W.nd_pure ?_
 exact PySem.W.handed_on (by rfl) (wpAny_pure q)
def vErr:List Value:=[.type "ValueError", .type "Exception", .type "BaseException", .type "object"]
structure ErrK (K:PySem.W.Frag) (C:Addr):Prop where
 exc:∃newId Bn inN bmN,PySem.W.excIn K C vErr newId=true/\ExcBaseFacts Bn newId inN bmN/\vErr.contains (.type Bn)=true
 ga:PySem.W.findIn K (.ref C) "__getattribute__"=some (some (.builtin "BaseException.__getattribute__"))
 gt:PySem.W.findIn K (.ref C) "__getattr__"=some none
 kc:PySem.W.findIn K (.ref C) "__class__"=some (some (.builtin "object.__class__"))
 sp:PySem.W.specialIn K (.builtin "object.__class__") "__get__"=some (some (.builtin "getset_descriptor.__get__"))
 tk:PySem.W.takesIn K (.builtin "object.__class__")=some true
 mo:PySem.W.mroIn K C (.type "object")=some true
 mb:PySem.W.mroIn K C (.type "BaseException")=some true
 kk:PySem.W.kitCls K (.ref C) (.ref C)=some true
theorem exc_obj {K:PySem.W.Frag} {h:Heap} {C:Addr} {bmB:List Value} {newId:String} (KX:K.In h) (e:PySem.W.excIn K C bmB newId=true):∃bm N nm q bs hdct sn sub ab col dd k0 k1 k2 k3 k5 mN,
  h.get? C=some (excClassObj nm q C N bs bm hdct sn sub ab col dd k0 k1 k2 k3 k5 newId)/\h.Ns N mN/\mN (Str.ofString "__init__")=none/\OwnTail h bmB bm:=by
 unfold PySem.W.excIn at e
 split at e
 ·split at e
  ·rename_i dd cd sl lk _ _ C' bm k0 k1 k2 k3 n k5 e1 e2
   simp only[Bool.and_eq_true]at e
   obtain⟨⟨⟨⟨⟨a1,a2⟩,a3⟩,a4⟩,a5⟩,a6⟩:=e
   have b1:C'=C:=eq_of_beq a1
   have b2:n=newId:=eq_of_beq a2
   subst b1 b2
   have g:=KX _ _ lk
   have esl:sl= #[k0,k1,k2,k3,some (Value.builtin n),k5]:=by rw[<-Array.toList_inj];exact e2
   have hdel:cd.hasDel=false:=by simpa using a3
   obtain⟨nm,bs,mro,N,q,hd,sn,sb,ab,col,del⟩:=cd
   dsimp only at e1 hdel a4 a5 a6
   subst e1 esl hdel
   exact⟨bm,N,nm,q,bs,hd,sn,sb,ab,col,dd,k0,k1,k2,k3,k5,_,g,Heap.Ns.of_isNs (PySem.W.isNs_of_in KX a5),PySem.W.nsMap_none_of_in KX a5 (eq_of_beq a6),PySem.W.tail_of_in KX a4⟩
  ·cases e
 ·cases e
theorem kitx_exc {K:PySem.W.Frag} {x C:Addr} (k:ErrK K C):PySem.W.KitX K (.ref x) (.ref C) fun h=>∃ox,h.get? x=some ox/\ox.cls= .ref C where
 ty:=fun M h _ ⟨ox,e,hc⟩=>exc_ty e hc
 it:=fun M h KX _=>(PySem.W.kit_cls KX k.kk).2.1
 ne:=fun h tp dd its n sl KX e=>by
  cases z:(Value.ref C==Value.ref tp)with
  |false=>rfl
  |true=>
   have ez:Value.ref C=Value.ref tp:=eq_of_beq z
   cases ez
   obtain⟨newId,_,_,_,ei,_⟩:=k.exc
   obtain⟨bm,N,nm,q,bs,hd,sn,sb,ab,col,dd,k0,k1,k2,k3,k5,mN,g,_⟩:=exc_obj KX ei
   rw[e]at g
   exact absurd (congrArg Obj.data (Option.some.inj g)) (fun z=>by cases z)
 ca:=fun {prog w A E Q s} KX ⟨ox,e,hc⟩ q=>exc_cls KX e hc k.ga k.gt k.kc k.sp k.tk k.mo k.mb q
end L2
namespace L2
open PySem PySem.Spec PyProof.Rows
section
variable {X:Cx} {pins:List (Addr×Obj)} {σ:St} {H:Hp} {s:Shared} {a:Addr} {cls:Value} {x:Str} {np cpos pos:Pos} {e:Expr} {es:List Expr} {t:TA} {C:Addr}
noncomputable def tRaise (X:Cx) (C:Addr) (t:TA):TS:=fun _ σ H=>t σ H fun vs H1=>vs.length<=sizeLine/\∀pins s a,Inv X pins σ H1 s->Fl X pins H1 s.heap a (.ref C)->X.xe (.ref a) s
theorem fl_made {h':Heap} {vs:List Value} (I:Inv X pins σ H s) (p:Plain X) (m:s.heap.MadeExcOf h' a cls vs):Inv X pins σ H {s with heap:=h'}/\Fl X pins H h' a cls:=by
 obtain⟨tp,g1,g2,g3⟩:=m.there
 exact⟨I.kept (t':=s.toks) m.keeps,New.of I p m.new (I.hok.none_of m.new),_,_,g1,rfl,rfl, .inl rfl⟩
theorem ps_raise (k:ErrK X.K C) (hm:X.mg x=some (.ref C)) (p:Plain X) (hc:X.calm=true) (ha:PA X (e::es) t) (hg:Gl X x:=by rfl) (hdb:(x==("__debug__":Str))=false:=by decide)
  (he:starEach (e::es) X.env=(false,eval e X.env)::starEach es X.env:=by rfl) (hpl:(backTo cpos (starEach es X.env)).any (·.1)=false:=by rfl):PS X (.Raise (some (.Call (.Name x np) (e::es) [] cpos)) none pos) (tRaise X C t):=by
 intro pins s σ H D I h
 obtain⟨newId,Bn,inN,bmN,ei,fB,hB⟩:=k.exc
 obtain⟨bm,N,nm,q,bs,hd,sn,sb,ab,col,dd,k0,k1,k2,k3,k5,mN,g,ns,ni,tl⟩:=exc_obj I.ok.mod.kin ei
 have hcons:backTo cpos (starEach (e::es) X.env)=(false,eval e X.env)::backTo cpos (starEach es X.env):=by rw[he];rfl
 refine wpAny_Raise_call_subU (nm:=nm) (q:=q) (C:=C) (N:=N) (bs:=bs) (hdct:=hd) (sn:=sn) (sub:=sb) (ab:=ab) (col:=col) (dd:=dd) (k0:=k0) (k1:=k1) (k2:=k2) (k3:=k3) (k5:=k5) fB hB F.excBase_ValueError (tl.hasType (by decide)) (I.ok.hd hc) (by rw[hcons];exact hpl) ni (ld_glob I hg hm ⟨rfl,?_⟩ hdb)
 rw[hcons]
 refine Calls.evalArgs_plain ?_
 rw[<-hcons]
 refine thn (ha cpos pins s σ H _ I h) fun us s1 ⟨vs,H1,I1,r,z,q1⟩=>⟨rfl,by rw[<-r.length];exact z,I1.bk _ _ g,ns.keeps I1.bk,tl.keeps I1.bk,fun h' a m=> ?_⟩
 obtain⟨I2,f2⟩:=fl_made I1 p m
 exact q1 pins _ a I2 f2
noncomputable abbrev Cx.inH (X:Cx) (v:Value):Cx:={X with A:=X.A.mark (some v),calm:=false,xe:=fun _ _=>False}
theorem Cx.Ok.inH {v:Value} (ok:X.Ok):(X.inH v).Ok:=⟨ok.mod,ok.kind,ok.glob,ok.blt,ok.above,ok.inj,ok.has,ok.cab,(fun z=>by cases z),ok.frames,ok.stk,ok.exf,ok.bs,ok.bsz,ok.noex,ok.exfs,ok.funs,ok.frf⟩
theorem Inv.inH {v:Value} (I:Inv X pins σ H s):Inv (X.inH v) pins σ H s:=⟨I.ok.inH,I.os,I.bare,I.base,I.loc,I.cell,I.free,I.freeC,I.pin,I.hok,I.len⟩
theorem Inv.outH {v:Value} (ok:X.Ok) (I:Inv (X.inH v) pins σ H s):Inv X pins σ H s:=⟨ok,I.os,I.bare,I.base,I.loc,I.cell,I.free,I.freeC,I.pin,I.hok,I.len⟩
theorem Inv.track {o:HO} {oa:Obj} {vs:Array Value} (I:Inv X pins σ H s) (n:New X pins H a) (ga:s.heap.get? a=some oa) (gd:oa.data= .fields vs) (new:ObjOk X.prog X.w (upd H a o) s.heap a o):Inv X pins σ (upd H a o) s:=by
 have ne:∀b u,H b=some u->b≠a:=fun b u e z=>by rw[z,n.no]at e;cases e
 have neL:X.env.locals≠a:=fun z=>by
  obtain⟨m,⟨o,es,ep,ho,hd,_⟩,_⟩:=I.loc
  rw[z,ga]at ho;cases ho
  rw[gd]at hd;cases hd
 have neC:∀y c,X.env.cells.lookup y=some c->c≠a:=fun y c e z=>by
  obtain⟨v,o,ho,hd⟩:=I.cell y c e
  rw[z,ga]at ho;cases ho
  rw[gd]at hd;cases hd
 refine⟨I.ok,I.os,I.bare,⟨I.base.keep,I.base.slot,fun b o e n' hx=> ?_,I.base.there,fun b xs e=> ?_,fun b o u e=> ?_,fun b ps e=> ?_⟩,I.loc,I.cell,by rw[upd_ne neL];exact I.free,fun y c e=>by rw[upd_ne (neC y c e)];exact I.freeC y c e,fun p hp=> ?_,fun b u e=> ?_,I.len⟩
 ·rw[upd_ne (fun z=>by rw[z,n.s0]at e;cases e)];exact I.base.free b o e n' hx
 ·have q:=I.base.tups b xs e
  rw[upd_ne (ne b _ q)];exact q
 ·have q:=I.base.frzs b o u e
  rw[upd_ne (ne b _ q)];exact q
 ·obtain⟨more,q⟩:=I.base.tbls b ps e
  exact⟨more,by rw[upd_ne (ne b _ q)];exact q⟩
 ·obtain⟨e,n',r⟩:=I.pin p hp
  exact⟨e,by rw[upd_ne (n.pin p hp)];exact n',r⟩
 ·by_cases z:b=a
  ·subst z;rw[upd_same]at e;cases e;exact new
  ·rw[upd_ne z]at e
   refine(I.hok b u e).stay (fun _ _ _ q=>q) (fun c q=> ?_) fun c xs q=> ?_
   ·rw[upd_ne (ne c _ q)];exact q
   ·rw[upd_ne (ne c _ q)];exact q
theorem name_gone {M:Model} {A:Around} {E:Value->Shared->Prop} {i:Nat} {n:Str} {Q:Unit->Shared->Prop} (I:Inv X pins σ H s) (hN:X.N.Nodup) (hi:X.N[i]? =some n) (hk:X.env.kindOf n=some .local)
  (k:∀s',Inv X pins (σ.set i none) H s'->Q () s'):wpAny M A (do bindName X.env n Value.none;unbindBehindTheSuite X.env n pos) Q E s:=by
 obtain⟨m,hn,hl⟩:=id I.loc
 refine wpAny_nameGoes_keeps hk hn (by rw[I.ok.kind];rfl) fun h' v hn' hs=>k _ ?_
 have neL:∀b o,X.s₀.heap.get? b=some o->b≠X.env.locals:=fun b o e=>Nat.ne_of_lt (Nat.lt_of_lt_of_le (Heap.lt_size e) I.ok.above)
 refine⟨I.ok,I.os,I.bare,⟨fun b o e n hb hx=>(hs.2 b (neL b o e)).trans (I.base.keep b o e n hb hx),fun b o e n hb hx=> ?_,I.base.free,fun b o e hx=> ?_,I.base.tups,I.base.frzs,I.base.tbls⟩,⟨_,hn',fun j y v' e1 e2 e3=> ?_⟩,fun y c e=> ?_,I.free,I.freeC,fun p hp=> ?_,fun b u e=> ?_,by simpa using I.len⟩
 ·obtain⟨sl,e1⟩:=I.base.slot b o e n hb hx
  exact⟨sl,(hs.2 b (neL b o e)).trans e1⟩
 ·obtain⟨o',e1⟩:=I.base.there b o e hx
  exact⟨o',(hs.2 b (neL b o e)).trans e1⟩
 ·by_cases hj:j=i
  ·subst hj
   rw[List.getElem?_set]at e2
   split at e2
   ·split at e2<;>cases e2
   ·exact absurd rfl ‹_›
  ·rw[List.getElem?_set_ne (Ne.symm hj)]at e2
   obtain⟨u',r',q⟩:=hl j y v' e1 e2 e3
   refine⟨u',r',?_⟩
   have ny:y≠n:=fun e=>hj (nodup_ix hN e1 (e▸hi))
   rcases q with ⟨k,e⟩|⟨k,c,e,z⟩
   ·exact .inl ⟨k,by show (if y=n then v else m y)=_;rw[if_neg ny];exact e⟩
   ·exact .inr ⟨k,c,e,z.sameBut hs (I.cne y c e)⟩
 ·obtain⟨w',z⟩:=I.cell y c e
  exact⟨w',z.sameBut hs (I.cne y c e)⟩
 ·obtain⟨e,n,ne,nf,d⟩:=I.pin p hp
  exact⟨(hs.2 p.1 ne).trans e,n,ne,nf,d⟩
 ·refine(I.hok b u e).stay (fun c v hc q=>(hs.2 c ?_).trans q) (fun _ q=>q) fun _ _ q=>q
  rintro rfl
  have:=I.free
  rcases hc with z|z
  ·rw[<-z,this]at e;cases e
  ·rw[this]at z;cases z
noncomputable def ExcAt (a:Addr) (cls:Value):Heap->Prop:=fun h=>∃o,h.get? a=some o/\o.cls=cls
theorem exc_objOk {P:Program} {w:World} {h:Heap} (e:ExcAt a cls h):ObjOk P w H h a (.ext (ExcAt a cls)):=by
 obtain⟨o,h1,h2⟩:=e
 exact⟨⟨o,h1,h2⟩,⟨o,h1⟩,fun g1 g2 ⟨o',e1,e2⟩ k=>⟨o',k _ e1,e2⟩⟩
theorem fl_fly (I:Inv X pins σ H s) (p:Plain X) (fl:FlT X pins H s.heap a cls) {Q:Unit->Shared->Prop} {E:Value->Shared->Prop} {A:Around}
  (k:∀h',Inv X pins σ H {s with heap:=h'}->FlT X pins H h' a cls->Q () {s with heap:=h'}):wpAny (model X.prog X.w) A (setFlight (.ref a) none) Q E s:=by
 obtain⟨B,oe,vs,ge,gc,gd,ff,hB,hBa,hn,hk⟩:=fl_ground I p fl.fl
 rcases hn with g|⟨T,oT,ts,g1,g2,g3,g4,g5,g6⟩
 ·obtain⟨oe',vs',e1,e2,e3,T,e4,_⟩:=fl.at_
  rw[ge]at e1;cases e1
  rw[gd]at e3;cases e3
  rw[g]at e4;cases e4
 ·have size1:1<vs.size:=by
   by_cases z:1<vs.size
   ·exact z
   ·rw[Array.getElem?_eq_none (Nat.le_of_not_lt z)]at g1;cases g1
  obtain⟨a0,h0⟩:∃a0,vs[0]? =some a0:=⟨vs[0]'(by omega),by simp⟩
  refine lands_againW (base:=B) (l:=X.env::X.outer) (cls:=cls) (a0:=a0) ⟨hB,hBa,ff,oe,vs,T,oT,ts,ge,⟨gc,h0⟩,gd,g1,g2,g3,g4,g5,g6⟩ fun h2 ⟨st,_,_,tr⟩ up=> ?_
  obtain⟨I',f'⟩:=hk h2 st tr.traced up
  exact k h2 I' f'
theorem handle_as {Cx':Addr} {cx n:Str} {i:Nat} {hpos:Pos} {b₀:Stmt} {suite:List Stmt} {rest:List ExceptHandler} {Q:Flow->Shared->Prop} {E:Value->Shared->Prop} (I:Inv X pins σ H s) (p:Plain X) (fl:FlT X pins H s.heap a (.ref C)) (hN:X.N.Nodup) (hi:X.N[i]? =some n)
  (hk:X.env.scope.names.lookup n=some .local) (hg:Gl X cx) (hm:X.mg cx=some (.ref Cx')) (hx:PySem.W.exmOne X.K (.ref C) (.ref Cx')=some true) (hdb:(cx==("__debug__":Str))=false)
  (k:∀s',Inv (X.inH (.ref a)) pins (σ.set i (some (.ref a))) (upd H a (.ext (ExcAt a (.ref C)))) s'->
   wpAny (model X.prog X.w) (X.inH (.ref a)).A (execs (b₀::suite) X.env) (fun f s3=>wpAny (model X.prog X.w) X.A (do bindName X.env n Value.none;unbindBehindTheSuite X.env n hpos) (fun _ s5=>Q f s5) E s3) (fun _ _=>False) s'):
  wpAny (model X.prog X.w) X.A (handleBy (.ref a) X.env (.ExceptHandler (some (.Name cx np)) (some n) (b₀::suite) hpos::rest)) Q E s:=by
 refine wpAny_handleBy_cons (codeAny_handlers_test ?_) (by intro z;cases z)
 refine ld_glob (X:=X.inH (.ref a)) I.inH hg hm ?_ hdb
 obtain⟨oe,vs,ge,gc,gd,_⟩:=fl.at_
 refine looks_at (PySem.W.exm_one I.kIn (exc_ty ge gc) hx) ?_
 rw[if_pos rfl]
 refine codeAny_handlers_suite_as ?_
 refine fl_fly I p fl fun h2 I2 f2=> ?_
 obtain⟨oe,vs,ge,gc,gd,_⟩:=f2.at_
 have I3:Inv X pins σ (upd H a (.ext (ExcAt a (.ref C)))) {s with heap:=h2}:=I2.track f2.new ge gd (exc_objOk ⟨oe,ge,gc⟩)
 refine store_ok (X:=X.inH (.ref a)) I3.inH hN hi (.inl hk) (v:= .ref a) rfl (fun s' I'=> ?_) (.inr hk)
 exact wpAny_mono (k s' I') (fun f s3 q=>q) fun _ _ z=>z.elim
end
end L2
namespace L2.Pu
open PySem PySem.Spec PyProof.Rows
structure Lay where
 x:Nat
 C:Addr
 fl:List (Str×Nat)
variable {ly:List Lay}
inductive D where
 |non|bl (b:Bool)|int (i:Int)|str (x:Str)|tup (ds:List D)|lst (ds:List D)|dic (kds:List (Key×D))|ins (x:Str) (fs:List (Str×D))|scr (ns:List Int)|exc (x:Str)
mutual
inductive Rep (K:PySem.W.Frag) (F:Hp):V->D->Prop
 |non:Rep K F .non .non
 |bl (b:Bool):Rep K F (.bl b) (.bl b)
 |int (i:Int):Rep K F (.int i) (.int i)
 |str (x:Str):Rep K F (.str x) (.str x)
 |tup {a:Addr} {vs:List V} {ds:List D}:F a=some (.tup vs)->Reps K F vs ds->Rep K F (.ref a) (.tup ds)
 |lst {a:Addr} {vs:List V} {ds:List D}:F a=some (.lst vs)->Reps K F vs ds->Rep K F (.ref a) (.lst ds)
 |scr {a:Addr} {ns:List Int}:SqL K F a (ns.map V.int)->Rep K F (.ref a) (.scr ns)
 |dic {a:Addr} {kvs:List (Key×V)} {kds:List (Key×D)}:F a=some (.dK kvs)->RepK K F kvs kds->(kvs.map (·.1)).Nodup->Rep K F (.ref a) (.dic kds)
 |ins {a C dx:Addr} {x:Str} {fs vs:List (Str×V)} {fds:List (Str×D)}:F a=some (.ins C dx fs)->F dx=some (.own a)->PySem.W.nsIn K mainGlobals x=some (some (.ref C))->(∀p∈vs,fs.lookup p.1=some p.2)->(∀f v,fs.lookup f=some v->f∈vs.map (·.1))->RepF K F vs fds->Rep K F (.ref a) (.ins x fds)
 |exc {a C:Addr} {x:Str}:F a=some (.ext (ExcAt a (.ref C)))->PySem.W.nsIn K mainGlobals x=some (some (.ref C))->Rep K F (.ref a) (.exc x)
inductive Reps (K:PySem.W.Frag) (F:Hp):List V->List D->Prop
 |nil:Reps K F [] []
 |cons {v:V} {d:D} {vs:List V} {ds:List D}:Rep K F v d->Reps K F vs ds->Reps K F (v::vs) (d::ds)
inductive RepK (K:PySem.W.Frag) (F:Hp):List (Key×V)->List (Key×D)->Prop
 |nil:RepK K F [] []
 |cons {k:Key} {v:V} {d:D} {vs:List (Key×V)} {ds:List (Key×D)}:Rep K F v d->RepK K F vs ds->RepK K F ((k,v)::vs) ((k,d)::ds)
inductive RepF (K:PySem.W.Frag) (F:Hp):List (Str×V)->List (Str×D)->Prop
 |nil:RepF K F [] []
 |cons {k:Str} {v:V} {d:D} {vs:List (Str×V)} {ds:List (Str×D)}:Rep K F v d->RepF K F vs ds->RepF K F ((k,v)::vs) ((k,d)::ds)
end
theorem sqL_mono {K:PySem.W.Frag} {F F':Hp} {a:Addr} {xs:List V} (e:Same F F') (h:SqL K F a xs):SqL K F' a xs:=e.seq h
theorem Rep.mono {K:PySem.W.Frag} {F F':Hp} (e:Same F F') {v:V} {d:D} (h:Rep K F v d):Rep K F' v d:=
 Rep.rec (motive_1:=fun v d _=>Rep K F' v d) (motive_2:=fun v d _=>Reps K F' v d) (motive_3:=fun v d _=>RepK K F' v d) (motive_4:=fun v d _=>RepF K F' v d) .non .bl .int .str (fun h _ r=> .tup (e _ _ h) r) (fun h _ r=> .lst (e _ _ h) r) (fun h=> .scr (sqL_mono e h)) (fun h _ n r=> .dic (e _ _ h) r n) (fun h h2 n l1 l2 _ r=> .ins (e _ _ h) (e _ _ h2) n l1 l2 r) (fun h n=> .exc (e _ _ h) n) .nil (fun _ _ a b=> .cons a b) .nil (fun _ _ a b=> .cons a b) .nil (fun _ _ a b=> .cons a b) h
theorem Reps.mono {K:PySem.W.Frag} {F F':Hp} (e:Same F F') {v:List V} {d:List D} (h:Reps K F v d):Reps K F' v d:=
 Reps.rec (motive_1:=fun v d _=>Rep K F' v d) (motive_2:=fun v d _=>Reps K F' v d) (motive_3:=fun v d _=>RepK K F' v d) (motive_4:=fun v d _=>RepF K F' v d) .non .bl .int .str (fun h _ r=> .tup (e _ _ h) r) (fun h _ r=> .lst (e _ _ h) r) (fun h=> .scr (sqL_mono e h)) (fun h _ n r=> .dic (e _ _ h) r n) (fun h h2 n l1 l2 _ r=> .ins (e _ _ h) (e _ _ h2) n l1 l2 r) (fun h n=> .exc (e _ _ h) n) .nil (fun _ _ a b=> .cons a b) .nil (fun _ _ a b=> .cons a b) .nil (fun _ _ a b=> .cons a b) h
theorem RepK.mono {K:PySem.W.Frag} {F F':Hp} (e:Same F F') {v:List (Key×V)} {d:List (Key×D)} (h:RepK K F v d):RepK K F' v d:=
 RepK.rec (motive_1:=fun v d _=>Rep K F' v d) (motive_2:=fun v d _=>Reps K F' v d) (motive_3:=fun v d _=>RepK K F' v d) (motive_4:=fun v d _=>RepF K F' v d) .non .bl .int .str (fun h _ r=> .tup (e _ _ h) r) (fun h _ r=> .lst (e _ _ h) r) (fun h=> .scr (sqL_mono e h)) (fun h _ n r=> .dic (e _ _ h) r n) (fun h h2 n l1 l2 _ r=> .ins (e _ _ h) (e _ _ h2) n l1 l2 r) (fun h n=> .exc (e _ _ h) n) .nil (fun _ _ a b=> .cons a b) .nil (fun _ _ a b=> .cons a b) .nil (fun _ _ a b=> .cons a b) h
theorem RepF.mono {K:PySem.W.Frag} {F F':Hp} (e:Same F F') {v:List (Str×V)} {d:List (Str×D)} (h:RepF K F v d):RepF K F' v d:=
 RepF.rec (motive_1:=fun v d _=>Rep K F' v d) (motive_2:=fun v d _=>Reps K F' v d) (motive_3:=fun v d _=>RepK K F' v d) (motive_4:=fun v d _=>RepF K F' v d) .non .bl .int .str (fun h _ r=> .tup (e _ _ h) r) (fun h _ r=> .lst (e _ _ h) r) (fun h=> .scr (sqL_mono e h)) (fun h _ n r=> .dic (e _ _ h) r n) (fun h h2 n l1 l2 _ r=> .ins (e _ _ h) (e _ _ h2) n l1 l2 r) (fun h n=> .exc (e _ _ h) n) .nil (fun _ _ a b=> .cons a b) .nil (fun _ _ a b=> .cons a b) .nil (fun _ _ a b=> .cons a b) h
section
variable {K:PySem.W.Frag} {F:Hp}
noncomputable def RepInv (K:PySem.W.Frag) (F:Hp) (v:V):D->Prop
 | .non=>v= .non
 | .bl b=>v= .bl b
 | .int i=>v= .int i
 | .str x=>v= .str x
 | .tup ds=>∃a vs,v= .ref a/\F a=some (.tup vs)/\Reps K F vs ds
 | .lst ds=>∃a vs,v= .ref a/\F a=some (.lst vs)/\Reps K F vs ds
 | .scr ns=>∃a,v= .ref a/\SqL K F a (ns.map V.int)
 | .dic kds=>∃a kvs,v= .ref a/\F a=some (.dK kvs)/\RepK K F kvs kds/\(kvs.map (·.1)).Nodup
 | .ins x fds=>∃a C dx fs vs,v= .ref a/\F a=some (.ins C dx fs)/\PySem.W.nsIn K mainGlobals x=some (some (.ref C))/\(∀p∈vs,fs.lookup p.1=some p.2)/\(∀f v,fs.lookup f=some v->f∈vs.map (·.1))/\RepF K F vs fds
 | .exc x=>∃a C,v= .ref a/\F a=some (.ext (ExcAt a (.ref C)))/\PySem.W.nsIn K mainGlobals x=some (some (.ref C))
theorem Rep.inv {v:V} {d:D} (h:Rep K F v d):RepInv K F v d:=by
 cases h with
 |non=>exact rfl
 |bl=>exact rfl
 |int=>exact rfl
 |str=>exact rfl
 |tup h r=>exact⟨_,_,rfl,h,r⟩
 |lst h r=>exact⟨_,_,rfl,h,r⟩
 |scr h=>exact⟨_,rfl,h⟩
 |dic h r n=>exact⟨_,_,rfl,h,r,n⟩
 |ins h1 _ h3 h4 h5 h6=>exact⟨_,_,_,_,_,rfl,h1,h3,h4,h5,h6⟩
 |exc h n=>exact⟨_,_,rfl,h,n⟩
theorem RepK.nilI {vs:List (Key×V)} (h:RepK K F vs []):vs=[]:=by cases h;rfl
theorem RepK.consI {vs:List (Key×V)} {k:Key} {d:D} {ds:List (Key×D)} (h:RepK K F vs ((k,d)::ds)):∃v us,vs=(k,v)::us/\Rep K F v d/\RepK K F us ds:=by
 cases h with
 |cons r t=>exact⟨_,_,rfl,r,t⟩
theorem Reps.nilI {vs:List V} (h:Reps K F vs []):vs=[]:=by cases h;rfl
theorem Reps.consI {vs:List V} {d:D} {ds:List D} (h:Reps K F vs (d::ds)):∃v us,vs=v::us/\Rep K F v d/\Reps K F us ds:=by
 cases h with
 |cons r t=>exact⟨_,_,rfl,r,t⟩
theorem Rep.intI {v:V} {i:Int} (h:Rep K F v (.int i)):v= .int i:=h.inv
theorem Rep.tupI {v:V} {ds:List D} (h:Rep K F v (.tup ds)):∃a vs,v= .ref a/\F a=some (.tup vs)/\Reps K F vs ds:=h.inv
theorem Reps.int1 {vs:List V} {i:Int} (h:Reps K F vs [.int i]):vs=[.int i]:=by
 obtain⟨v,us,rfl,r,t⟩:=h.consI
 rw[t.nilI,r.intI]
theorem Reps.int2 {vs:List V} {i j:Int} (h:Reps K F vs [.int i, .int j]):vs=[.int i, .int j]:=by
 obtain⟨v,us,rfl,r,t⟩:=h.consI
 rw[t.int1,r.intI]
theorem Reps.length:∀{vs:List V} {ds:List D},Reps K F vs ds->vs.length=ds.length:=by
 intro vs ds
 induction ds generalizing vs with
 |nil=>intro h;rw[h.nilI];rfl
 |cons d ds ih=>
  intro h
  obtain⟨v,us,rfl,_,t⟩:=h.consI
  rw[List.length_cons,List.length_cons,ih t]
theorem RepK.length:∀{vs:List (Key×V)} {ds:List (Key×D)},RepK K F vs ds->vs.length=ds.length:=by
 intro vs ds
 induction ds generalizing vs with
 |nil=>intro h;rw[h.nilI];rfl
 |cons d ds ih=>
  intro h
  obtain⟨v,us,rfl,_,t⟩:=RepK.consI (k:=d.1) (d:=d.2) h
  rw[List.length_cons,List.length_cons,ih t]
theorem Reps.append:∀{vs us:List V} {ds es:List D},Reps K F vs ds->Reps K F us es->Reps K F (vs++us) (ds++es):=by
 intro vs us ds
 induction ds generalizing vs with
 |nil=>intro es h g;rw[h.nilI];exact g
 |cons d ds ih=>
  intro es h g
  obtain⟨v,us,rfl,r,t⟩:=h.consI
  exact .cons r (ih t g)
theorem Reps.get:∀{vs:List V} {ds:List D} {i:Nat} {d:D},Reps K F vs ds->ds[i]? =some d->∃v,vs[i]? =some v/\Rep K F v d
 |_,_,_,_, .nil,h=>by simp at h
 |_,_,0,_, .cons r t,h=>by simp at h;subst h;exact⟨_,rfl,r⟩
 |_,_,i+1,_, .cons r t,h=>by
  obtain⟨v,h1,h2⟩:=t.get (i:=i) (by simpa using h)
  exact⟨v,by simpa using h1,h2⟩
theorem Reps.get':∀{vs:List V} {ds:List D} {i:Nat} {v:V},Reps K F vs ds->vs[i]? =some v->∃d,ds[i]? =some d/\Rep K F v d
 |_,_,_,_, .nil,h=>by simp at h
 |_,_,0,_, .cons r t,h=>by simp at h;subst h;exact⟨_,rfl,r⟩
 |_,_,i+1,_, .cons r t,h=>by
  obtain⟨v,h1,h2⟩:=t.get' (i:=i) (by simpa using h)
  exact⟨v,by simpa using h1,h2⟩
theorem Reps.set:∀{vs:List V} {ds:List D} {v:V} {d:D} (i:Nat),Reps K F vs ds->Rep K F v d->Reps K F (vs.set i v) (ds.set i d)
 |_,_,_,_,_, .nil,_=> .nil
 |_,_,_,_,0, .cons r t,h=> .cons h t
 |_,_,_,_,i+1, .cons r t,h=> .cons r (t.set i h)
theorem Reps.eraseIdx:∀{vs:List V} {ds:List D} (i:Nat),Reps K F vs ds->Reps K F (vs.eraseIdx i) (ds.eraseIdx i)
 |_,_,_, .nil=> .nil
 |_,_,0, .cons r t=>t
 |_,_,i+1, .cons r t=> .cons r (t.eraseIdx i)
theorem Reps.drop:∀{vs:List V} {ds:List D} (i:Nat),Reps K F vs ds->Reps K F (vs.drop i) (ds.drop i)
 |_,_,0,h=>h
 |_,_,_+1, .nil=> .nil
 |_,_,i+1, .cons r t=>t.drop i
theorem Reps.take:∀{vs:List V} {ds:List D} (i:Nat),Reps K F vs ds->Reps K F (vs.take i) (ds.take i)
 |_,_,0,h=> .nil
 |_,_,_+1, .nil=> .nil
 |_,_,i+1, .cons r t=> .cons r (t.take i)
theorem Reps.reverse {vs:List V} {ds:List D} (h:Reps K F vs ds):Reps K F vs.reverse ds.reverse:=by
 induction h using Reps.rec (motive_1:=fun _ _ _=>True) (motive_3:=fun _ _ _=>True) (motive_4:=fun _ _ _=>True)with
 |nil=>exact .nil
 |cons r t _ ih=>rw[List.reverse_cons,List.reverse_cons];exact ih.append (.cons r .nil)
 |_=>trivial
end
structure Ext (H F H' F':Hp):Prop where
 sub:Same F' H'
 keep:Same H H'
 grow:Same F F'
 new:∀a,F' a≠none->F a≠none\/H a=none
theorem Ext.refl {H F:Hp} (h:Same F H):Ext H F H F:=⟨h,Same.refl _,Same.refl _,fun _ h=> .inl h⟩
theorem Ext.trans {H F H1 F1 H2 F2:Hp} (a:Ext H F H1 F1) (b:Ext H1 F1 H2 F2):Ext H F H2 F2:=
 ⟨b.sub,a.keep.trans b.keep,a.grow.trans b.grow,fun x h=>(b.new x h).elim (fun q=>a.new x q) fun q=> .inr (a.keep.free q)⟩
theorem same_upd {H:Hp} {p:Addr} {o:HO} (h:H p=none):Same H (upd H p o):=fun b u e=>by
 rw[upd_ne (fun z=>by rw[z,h]at e;cases e)];exact e
theorem Ext.lay {H F:Hp} (s:Same F H) {p:Addr} {o:HO} (h:H p=none):Ext H F (upd H p o) (upd F p o):=by
 refine⟨fun b u e=> ?_,same_upd h,same_upd (s.free h),fun b e=> ?_⟩
 ·by_cases z:b=p
  ·subst z;rw[upd_same]at e ⊢;exact e
  ·rw[upd_ne z]at e ⊢;exact s b u e
 ·by_cases z:b=p
  ·subst z;exact .inr h
  ·rw[upd_ne z]at e;exact .inl e
theorem Ext.layOwn {H F:Hp} (s:Same F H) {p:Addr} {o:HO} (h:H p=none):Ext H F (upd H p o) F:=
 ⟨s.trans (same_upd h),same_upd h,Same.refl _,fun _ e=> .inl e⟩
inductive Slot where
 |val (d:D)|own (d:D)|bor (d:D)|obj
noncomputable def Slot.data:Slot->D
 | .val d=>d
 | .own d=>d
 | .bor d=>d
 | .obj=> .non
noncomputable abbrev Rho:=List (Option Slot)
inductive RepO (K:PySem.W.Frag) (F:Hp):HO->D->Prop
 |lst {vs:List V} {ds:List D}:Reps K F vs ds->RepO K F (.lst vs) (.lst ds)
 |dic {kvs:List (Key×V)} {kds:List (Key×D)}:RepK K F kvs kds->(kvs.map (·.1)).Nodup->RepO K F (.dK kvs) (.dic kds)
theorem RepO.mono {K:PySem.W.Frag} {F F':Hp} (e:Same F F') {o:HO} {d:D}:RepO K F o d->RepO K F' o d
 | .lst r=> .lst (r.mono e)
 | .dic r n=> .dic (r.mono e) n
structure Ctx (ly:List Lay)where
 H0:Hp
 F0:Hp
 B:Hp
 Er:Str->Rho->Prop
 oa:Nat->Option Addr:=fun _=>none
 Fm:Hp:=fun _=>none
structure RI (K:PySem.W.Frag) (c:Ctx ly) (ρ:Rho) (σ:St) (H F:Hp):Prop where
 ext:Ext c.H0 c.F0 H F
 val:∀(i:Nat) d,ρ[i]? =some (some (.val d))->∃v,σ[i]? =some (some v)/\Rep K F v d
 own:∀(i:Nat) d,ρ[i]? =some (some (.own d))->∃a o,σ[i]? =some (some (.ref a))/\H a=some o/\F a=none/\c.H0 a=none/\RepO K F o d
 bor:∀(i:Nat) d,ρ[i]? =some (some (.bor d))->∃a o,σ[i]? =some (some (.ref a))/\c.B a=some o/\RepO K c.F0 o d
 bh:Same c.B c.H0
 dis:∀(i j:Nat) d d' a,ρ[i]? =some (some (.own d))->ρ[j]? =some (some (.own d'))->σ[i]? =some (some (.ref a))->σ[j]? =some (some (.ref a))->i=j
 len:ρ.length=σ.length
 obj:∀L∈ly,ρ[L.x]? =some (some .obj)->∃a dx fs,(∀b,c.oa L.x=some b->a=b)/\σ[L.x]? =some (some (.ref a))/\H a=some (.ins L.C dx fs)/\H dx=some (.own a)/\F a=none/\F dx=none/\c.H0 a=none/\c.H0 dx=none/\
  (∀p∈L.fl,fs.lookup p.1=(σ[p.2]?).join)/\(∀f v,fs.lookup f=some v->f∈L.fl.map (·.1))/\(fs.map (·.1)).Nodup
 odis:∀L∈ly,∀L'∈ly,ρ[L.x]? =some (some .obj)->ρ[L'.x]? =some (some .obj)->∀a,σ[L.x]? =some (some (.ref a))->σ[L'.x]? =some (some (.ref a))->L=L'
 fm:Same c.Fm F
noncomputable def Free (ly:List Lay) (i:Nat):Prop:=∀L∈ly,L.x≠i/\∀p∈L.fl,p.2≠i
theorem free_nil {i:Nat}:Free [] i:=fun L h=>by cases h
section
variable {K:PySem.W.Frag} {c:Ctx ly} {ρ:Rho} {σ:St} {H F H' F':Hp}
theorem Ext.out {H F H' F':Hp} (e:Ext H F H' F') {a:Addr} {o:HO} (h:H a=some o) (hF:F a=none):F' a=none:=by
 cases q:F' a with
 |none=>rfl
 |some u=>
  rcases e.new a (by rw[q];simp)with z|z
  ·exact absurd hF z
  ·rw[h]at z;cases z
theorem RI.step (r:RI K c ρ σ H F) (e:Ext H F H' F'):RI K c ρ σ H' F' where
 obj:=fun L hL hρ=>by
  obtain⟨a,dx,fs,h0,h1,h2,h3,h4,h5,h6,h7,h8⟩:=r.obj L hL hρ
  exact⟨a,dx,fs,h0,h1,e.keep _ _ h2,e.keep _ _ h3,e.out h2 h4,e.out h3 h5,h6,h7,h8⟩
 odis:=r.odis
 fm:=r.fm.trans e.grow
 ext:=r.ext.trans e
 val:=fun i d h=>by obtain⟨v,h1,h2⟩:=r.val i d h;exact⟨v,h1,h2.mono e.grow⟩
 own:=fun i d h=>by
  obtain⟨a,o,h1,h2,h3,h4,h5⟩:=r.own i d h
  refine⟨a,o,h1,e.keep _ _ h2,?_,h4,h5.mono e.grow⟩
  cases q:F' a with
  |none=>rfl
  |some u=>
   rcases e.new a (by rw[q];simp)with z|z
   ·exact absurd h3 z
   ·rw[h2]at z;cases z
 bor:=r.bor
 bh:=r.bh
 dis:=r.dis
 len:=r.len
theorem RI.sub (r:RI K c ρ σ H F):Same F H:=r.ext.sub
theorem get_set {α:Type} {l:List α} {i j:Nat} {a b:α} (h:(l.set i a)[j]? =some b):(i=j/\a=b/\i<l.length)\/(i≠j/\l[j]? =some b):=by
 rw[List.getElem?_set]at h
 by_cases e:i=j
 ·rw[if_pos e]at h
  split at h
  ·cases h;exact .inl ⟨e,rfl,by assumption⟩
  ·cases h
 ·rw[if_neg e]at h;exact .inr ⟨e,h⟩
theorem set_get {α:Type} {l:List α} {i:Nat} {a:α} (h:i<l.length):(l.set i a)[i]? =some a:=by
 rw[List.getElem?_set,if_pos rfl,if_pos h]
theorem set_get_ne {α:Type} {l:List α} {i j:Nat} {a:α} (h:i≠j):(l.set i a)[j]? =l[j]? :=by
 rw[List.getElem?_set,if_neg h]
theorem RI.setVal (r:RI K c ρ σ H F) (i:Nat) {v:V} {d:D} (hf:Free ly i) (h:Rep K F v d):RI K c (ρ.set i (some (.val d))) (σ.set i (some v)) H F where
 obj:=fun L hL hρ=>by
  rw[set_get_ne (hf L hL).1.symm]at hρ
  obtain⟨a,dx,fs,h0,h1,h2,h3,h4,h5,h6,h7,h8,h9⟩:=r.obj L hL hρ
  refine⟨a,dx,fs,h0,by rw[set_get_ne (hf L hL).1.symm];exact h1,h2,h3,h4,h5,h6,h7,fun p hp=> ?_,h9⟩
  rw[set_get_ne ((hf L hL).2 p hp).symm];exact h8 p hp
 odis:=fun L hL L' hL' q1 q2 a k1 k2=>by
  rw[set_get_ne (hf L hL).1.symm]at k1 q1
  rw[set_get_ne (hf L' hL').1.symm]at k2 q2
  exact r.odis L hL L' hL' q1 q2 a k1 k2
 fm:=r.fm
 ext:=r.ext
 val:=fun j e q=>by
  rcases get_set q with ⟨rfl,z,l⟩|⟨z,q⟩
  ·cases z;exact⟨v,set_get (by rw[<-r.len];exact l),h⟩
  ·rw[set_get_ne z];exact r.val j e q
 own:=fun j e q=>by
  rcases get_set q with ⟨rfl,z,l⟩|⟨z,q⟩
  ·cases z
  ·rw[set_get_ne z];exact r.own j e q
 bor:=fun j e q=>by
  rcases get_set q with ⟨rfl,z,l⟩|⟨z,q⟩
  ·cases z
  ·rw[set_get_ne z];exact r.bor j e q
 bh:=r.bh
 dis:=fun j k e e' a q1 q2 q3 q4=>by
  rcases get_set q1 with ⟨rfl,z,l⟩|⟨z,q1⟩
  ·cases z
  ·rcases get_set q2 with ⟨rfl,z',l⟩|⟨z',q2⟩
   ·cases z'
   ·rw[set_get_ne z]at q3;rw[set_get_ne z']at q4
    exact r.dis j k e e' a q1 q2 q3 q4
 len:=by simp[r.len]
theorem RI.setNone (r:RI K c ρ σ H F) (i:Nat) {v:Option V} (hf:Free ly i):RI K c (ρ.set i none) (σ.set i v) H F where
 obj:=fun L hL hρ=>by
  rw[set_get_ne (hf L hL).1.symm]at hρ
  obtain⟨a,dx,fs,h0,h1,h2,h3,h4,h5,h6,h7,h8,h9⟩:=r.obj L hL hρ
  refine⟨a,dx,fs,h0,by rw[set_get_ne (hf L hL).1.symm];exact h1,h2,h3,h4,h5,h6,h7,fun p hp=> ?_,h9⟩
  rw[set_get_ne ((hf L hL).2 p hp).symm];exact h8 p hp
 odis:=fun L hL L' hL' q1 q2 a k1 k2=>by
  rw[set_get_ne (hf L hL).1.symm]at k1 q1
  rw[set_get_ne (hf L' hL').1.symm]at k2 q2
  exact r.odis L hL L' hL' q1 q2 a k1 k2
 fm:=r.fm
 ext:=r.ext
 val:=fun j e q=>by
  rcases get_set q with ⟨rfl,z,l⟩|⟨z,q⟩
  ·cases z
  ·rw[set_get_ne z];exact r.val j e q
 own:=fun j e q=>by
  rcases get_set q with ⟨rfl,z,l⟩|⟨z,q⟩
  ·cases z
  ·rw[set_get_ne z];exact r.own j e q
 bor:=fun j e q=>by
  rcases get_set q with ⟨rfl,z,l⟩|⟨z,q⟩
  ·cases z
  ·rw[set_get_ne z];exact r.bor j e q
 bh:=r.bh
 dis:=fun j k e e' a q1 q2 q3 q4=>by
  rcases get_set q1 with ⟨rfl,z,l⟩|⟨z,q1⟩
  ·cases z
  ·rcases get_set q2 with ⟨rfl,z',l⟩|⟨z',q2⟩
   ·cases z'
   ·rw[set_get_ne z]at q3;rw[set_get_ne z']at q4
    exact r.dis j k e e' a q1 q2 q3 q4
 len:=by simp[r.len]
theorem RI.setOwn (r:RI K c ρ σ H F) (i:Nat) {a:Addr} {o:HO} {d:D} (hf:Free ly i) (h:H a=some o) (hF:F a=none) (h0:c.H0 a=none) (q:RepO K F o d)
  (ne:∀(j:Nat) d',j≠i->ρ[j]? =some (some (.own d'))->σ[j]? ≠some (some (.ref a))):RI K c (ρ.set i (some (.own d))) (σ.set i (some (.ref a))) H F where
 obj:=fun L hL hρ=>by
  rw[set_get_ne (hf L hL).1.symm]at hρ
  obtain⟨b,dx,fs,h0,h1,h2,h3,h4,h5,h6,h7,h8,h9⟩:=r.obj L hL hρ
  refine⟨b,dx,fs,h0,by rw[set_get_ne (hf L hL).1.symm];exact h1,h2,h3,h4,h5,h6,h7,fun p hp=> ?_,h9⟩
  rw[set_get_ne ((hf L hL).2 p hp).symm];exact h8 p hp
 odis:=fun L hL L' hL' q1 q2 b k1 k2=>by
  rw[set_get_ne (hf L hL).1.symm]at k1 q1
  rw[set_get_ne (hf L' hL').1.symm]at k2 q2
  exact r.odis L hL L' hL' q1 q2 b k1 k2
 fm:=r.fm
 ext:=r.ext
 val:=fun j e q=>by
  rcases get_set q with ⟨rfl,z,l⟩|⟨z,q⟩
  ·cases z
  ·rw[set_get_ne z];exact r.val j e q
 own:=fun j e q'=>by
  rcases get_set q' with ⟨rfl,z,l⟩|⟨z,q'⟩
  ·cases z;exact⟨a,o,set_get (by rw[<-r.len];exact l),h,hF,h0,q⟩
  ·rw[set_get_ne z];exact r.own j e q'
 bor:=fun j e q=>by
  rcases get_set q with ⟨rfl,z,l⟩|⟨z,q⟩
  ·cases z
  ·rw[set_get_ne z];exact r.bor j e q
 bh:=r.bh
 dis:=fun j k e e' b q1 q2 q3 q4=>by
  rcases get_set q1 with ⟨rfl,z,l⟩|⟨z,q1⟩
  ·rw[set_get (by rw[<-r.len];exact l)]at q3
   cases q3
   rcases get_set q2 with ⟨rfl,z',l⟩|⟨z',q2⟩
   ·rfl
   ·rw[set_get_ne z']at q4
    exact absurd q4 (ne k e' (Ne.symm z') q2)
  ·rw[set_get_ne z]at q3
   rcases get_set q2 with ⟨rfl,z',l⟩|⟨z',q2⟩
   ·rw[set_get (by rw[<-r.len];exact l)]at q4
    cases q4
    exact absurd q3 (ne j e (Ne.symm z) q1)
   ·rw[set_get_ne z']at q4
    exact r.dis j k e e' b q1 q2 q3 q4
 len:=by simp[r.len]
theorem RI.setNew (r:RI K c ρ σ H F) (i:Nat) {a:Addr} {o:HO} {d:D} (hf:Free ly i) (h:H a=none) (q:RepO K F o d):RI K c (ρ.set i (some (.own d))) (σ.set i (some (.ref a))) (upd H a o) F:=by
 have r':=r.step (Ext.layOwn r.sub (o:=o) h)
 refine r'.setOwn i hf upd_same (r.sub.free h) (r.ext.keep.free h) q fun j d' _ hj e=> ?_
 obtain⟨b,o',h1,h2,_⟩:=r.own j d' hj
 rw[e]at h1
 cases h1
 rw[h]at h2
 cases h2
theorem RI.change (r:RI K c ρ σ H F) {i:Nat} {a:Addr} {o o':HO} {d d':D} (hi:ρ[i]? =some (some (.own d))) (hs:σ[i]? =some (some (.ref a))) (q:RepO K F o' d'):
  RI K c (ρ.set i (some (.own d'))) σ (upd H a o') F:=by
 obtain⟨b,u,h1,h2,h3,h4,h5⟩:=r.own i d hi
 rw[hs]at h1
 cases h1
 refine⟨⟨fun x y e=> ?_,fun x y e=> ?_,r.ext.grow,r.ext.new⟩,fun j e w=> ?_,fun j e w=> ?_,fun j e w=> ?_,r.bh,fun j k e e' x q1 q2 q3 q4=> ?_,by simp[r.len],fun L hL hρ=> ?_,fun L hL L' hL' q1 q2=> ?_,r.fm⟩
 ·rw[upd_ne (fun z=>by rw[z,h3]at e;cases e)];exact r.sub x y e
 ·rw[upd_ne (fun z=>by rw[z,h4]at e;cases e)];exact r.ext.keep x y e
 ·rcases get_set w with ⟨rfl,z,l⟩|⟨z,w⟩
  ·cases z
  ·exact r.val j e w
 ·rcases get_set w with ⟨rfl,z,l⟩|⟨z,w⟩
  ·cases z;exact⟨a,o',hs,upd_same,h3,h4,q⟩
  ·obtain⟨x,y,k1,k2,k3,k4,k5⟩:=r.own j e w
   refine⟨x,y,k1,?_,k3,k4,k5⟩
   rw[upd_ne (fun zz=>by subst zz;exact z (r.dis i j d e x hi w hs k1))]
   exact k2
 ·rcases get_set w with ⟨rfl,z,l⟩|⟨z,w⟩
  ·cases z
  ·exact r.bor j e w
 ·have own_of:∀{l:Nat} {x:D},(ρ.set i (some (.own d')))[l]? =some (some (.own x))->∃y,ρ[l]? =some (some (.own y)):=fun {l x} w=>by
   rcases get_set w with ⟨rfl,z,_⟩|⟨z,w⟩
   ·exact⟨d,hi⟩
   ·exact⟨x,w⟩
  obtain⟨y1,w1⟩:=own_of q1
  obtain⟨y2,w2⟩:=own_of q2
  exact r.dis j k y1 y2 x w1 w2 q3 q4
 ·have hρ':ρ[L.x]? =some (some .obj):=by
   rcases get_set hρ with ⟨_,z,_⟩|⟨_,w⟩
   ·cases z
   ·exact w
  obtain⟨b,dx,fs,k0,k1,k2,k3,k4⟩:=r.obj L hL hρ'
  have n1:b≠a:=fun z=>by subst z;rw[k2]at h2;cases h2;cases h5
  have n2:dx≠a:=fun z=>by subst z;rw[k3]at h2;cases h2;cases h5
  exact⟨b,dx,fs,k0,k1,by rw[upd_ne n1];exact k2,by rw[upd_ne n2];exact k3,k4⟩
 ·refine r.odis L hL L' hL' ?_ ?_
  ·rcases get_set q1 with ⟨_,z,_⟩|⟨_,w⟩
   ·cases z
   ·exact w
  ·rcases get_set q2 with ⟨_,z,_⟩|⟨_,w⟩
   ·cases z
   ·exact w
end
noncomputable def frz1 (i:Nat) (ρ:Rho):Rho:=match ρ[i]? with
 |some (some (.own d))=>ρ.set i (some (.val d))
 |_=>ρ
noncomputable def frz (L:List Nat) (ρ:Rho):Rho:=L.foldl (fun r i=>frz1 i r) ρ
theorem RI.frz1 {K:PySem.W.Frag} {c:Ctx ly} {ρ:Rho} {σ:St} {H F:Hp} (r:RI K c ρ σ H F) (i:Nat):∃F',Same F F'/\RI K c (frz1 i ρ) σ H F':=by
 unfold L2.Pu.frz1
 split
 ·rename_i d hi
  obtain⟨a,o,h1,h2,h3,h4,h5⟩:=r.own i d hi
  have g:Same F (upd F a o):=same_upd h3
  refine⟨upd F a o,g,⟨⟨fun b u e=> ?_,r.ext.keep,r.ext.grow.trans g,fun b e=> ?_⟩,fun j e w=> ?_,fun j e w=> ?_,fun j e w=> ?_,r.bh,fun j k e e' x q1 q2 q3 q4=> ?_,by simp[r.len],fun L hL hρ=> ?_,fun L hL L' hL' q1 q2=> ?_,r.fm.trans g⟩⟩
  ·by_cases z:b=a
   ·subst z;rw[upd_same]at e;rw[h2];exact e
   ·rw[upd_ne z]at e;exact r.sub b u e
  ·by_cases z:b=a
   ·subst z;exact .inr h4
   ·rw[upd_ne z]at e;exact r.ext.new b e
  ·rcases get_set w with ⟨rfl,z,l⟩|⟨z,w⟩
   ·cases z
    refine⟨.ref a,h1,?_⟩
    cases h5 with
    |lst q=>exact .lst upd_same (q.mono g)
    |dic q n=>exact .dic upd_same (q.mono g) n
   ·obtain⟨v,k1,k2⟩:=r.val j e w;exact⟨v,k1,k2.mono g⟩
  ·rcases get_set w with ⟨rfl,z,l⟩|⟨z,w⟩
   ·cases z
   ·obtain⟨x,y,k1,k2,k3,k4,k5⟩:=r.own j e w
    refine⟨x,y,k1,k2,?_,k4,k5.mono g⟩
    rw[upd_ne (fun zz=>by subst zz;exact z (r.dis i j d e x hi w h1 k1))]
    exact k3
  ·rcases get_set w with ⟨rfl,z,l⟩|⟨z,w⟩
   ·cases z
   ·exact r.bor j e w
  ·rcases get_set q1 with ⟨rfl,z,l⟩|⟨z,q1⟩
   ·cases z
   ·rcases get_set q2 with ⟨rfl,z',l⟩|⟨z',q2⟩
    ·cases z'
    ·exact r.dis j k e e' x q1 q2 q3 q4
  ·have hρ':ρ[L.x]? =some (some .obj):=by
    rcases get_set hρ with ⟨_,z,_⟩|⟨_,w⟩
    ·cases z
    ·exact w
   obtain⟨b,dx,fs,k0,k1,k2,k3,k4,k5,k6⟩:=r.obj L hL hρ'
   have n1:b≠a:=fun z=>by subst z;rw[k2]at h2;cases h2;cases h5
   have n2:dx≠a:=fun z=>by subst z;rw[k3]at h2;cases h2;cases h5
   exact⟨b,dx,fs,k0,k1,k2,k3,by rw[upd_ne n1];exact k4,by rw[upd_ne n2];exact k5,k6⟩
  ·refine r.odis L hL L' hL' ?_ ?_
   ·rcases get_set q1 with ⟨_,z,_⟩|⟨_,w⟩
    ·cases z
    ·exact w
   ·rcases get_set q2 with ⟨_,z,_⟩|⟨_,w⟩
    ·cases z
    ·exact w
 ·exact⟨F,Same.refl _,r⟩
theorem RI.frz {K:PySem.W.Frag} {c:Ctx ly} {σ:St} {H:Hp}:∀(L:List Nat) {ρ:Rho} {F:Hp},RI K c ρ σ H F->∃F',Same F F'/\RI K c (frz L ρ) σ H F'
 |[],ρ,F,r=>⟨F,Same.refl _,r⟩
 |i::L,ρ,F,r=>by
  obtain⟨F1,g1,r1⟩:=r.frz1 i
  obtain⟨F2,g2,r2⟩:=RI.frz L r1
  exact⟨F2,g1.trans g2,r2⟩
end L2.Pu
namespace L2.Pu
open PySem PySem.Spec PyProof.Rows
variable {ly:List Lay}
inductive R (α:Type)where
 |ok (a:α)|err (c:Str) (ρ:Rho)|bad
noncomputable def R.bind {α β:Type}:R α->(α->R β)->R β
 | .ok a,f=>f a
 | .err c ρ,_=> .err c ρ
 | .bad,_=> .bad
noncomputable instance:Monad R where
 pure:=R.ok
 bind:=R.bind
@[simp] theorem ok_bind {α β:Type} (a:α) (f:α->R β):(R.ok a>>=f)=f a:=rfl
@[simp] theorem err_bind {α β:Type} (c:Str) (ρ:Rho) (f:α->R β):(R.err c ρ>>=f)=R.err c ρ:=rfl
@[simp] theorem bad_bind {α β:Type} (f:α->R β):(R.bad>>=f)=R.bad:=rfl
@[simp] theorem pure_ok {α:Type} (a:α):(pure a:R α)=R.ok a:=rfl
noncomputable def R.of {α:Type}:Option α->R α
 |some a=> .ok a
 |none=> .bad
@[simp] theorem of_some {α:Type} (a:α):R.of (some a)= .ok a:=rfl
@[simp] theorem of_none {α:Type}:R.of (none:Option α)= .bad:=rfl
noncomputable def Want {α:Type} (c:Ctx ly) (r:R α) (P:α->Prop):Prop:=match r with
 | .ok a=>P a
 | .err e ρ=>c.Er e ρ
 | .bad=>False
theorem Want.imp {α:Type} {c:Ctx ly} {r:R α} {P P':α->Prop} (h:Want c r P) (w:∀a,r= .ok a->P a->P' a):Want c r P':=by
 cases r with
 |ok a=>exact w a rfl h
 |err e ρ=>exact h
 |bad=>exact h
theorem Want.bind {α β:Type} {c:Ctx ly} {r:R α} {f:α->R β} {P:β->Prop}:Want c (r>>=f) P<->Want c r fun a=>Want c (f a) P:=by
 cases r<;>exact Iff.rfl
theorem Want.of {α:Type} {c:Ctx ly} {r:Option α} {P:α->Prop} (h:Want c (R.of r) P):∃a,r=some a/\P a:=by
 cases r with
 |none=>exact h.elim
 |some a=>exact⟨a,rfl,h⟩
noncomputable def RepB (K:PySem.W.Frag) (H F:Hp) (v:V) (d:D):Prop:=Rep K F v d\/∃a o,v= .ref a/\H a=some o/\RepO K F o d
theorem RepB.mono {K:PySem.W.Frag} {H F H' F':Hp} {v:V} {d:D} (e:Ext H F H' F'):RepB K H F v d->RepB K H' F' v d
 | .inl r=> .inl (r.mono e.grow)
 | .inr ⟨a,o,h1,h2,h3⟩=> .inr ⟨a,o,h1,e.keep _ _ h2,h3.mono e.grow⟩
theorem RepB.lst {K:PySem.W.Frag} {H F:Hp} {v:V} {ds:List D} (s:Same F H) (h:RepB K H F v (.lst ds)):∃a vs,v= .ref a/\H a=some (.lst vs)/\Reps K F vs ds:=by
 rcases h with h|⟨a,o,h1,h2,q⟩
 ·obtain⟨a,vs,e,h,r⟩:=h.inv
  exact⟨a,vs,e,s _ _ h,r⟩
 ·cases q with
  |lst r=>exact⟨_,_,h1,h2,r⟩
theorem RepB.dic {K:PySem.W.Frag} {H F:Hp} {v:V} {ds:List (Key×D)} (s:Same F H) (h:RepB K H F v (.dic ds)):∃a vs,v= .ref a/\H a=some (.dK vs)/\RepK K F vs ds/\(vs.map (·.1)).Nodup:=by
 rcases h with h|⟨a,o,h1,h2,q⟩
 ·obtain⟨a,vs,e,h,r⟩:=h.inv
  exact⟨a,vs,e,s _ _ h,r⟩
 ·cases q with
  |dic r n=>exact⟨_,_,h1,h2,r,n⟩
noncomputable def isO:D->Bool
 | .lst _=>true
 | .dic _=>true
 |_=>false
theorem RepB.in {K:PySem.W.Frag} {H F:Hp} {v:V} {d:D} (h:RepB K H F v d) (n:isO d=false):RepInv K F v d:=by
 rcases h with h|⟨a,o,h1,h2,q⟩
 ·exact h.inv
 ·cases q<;>cases n
theorem RepB.tup {K:PySem.W.Frag} {H F:Hp} {v:V} {ds:List D} (s:Same F H) (h:RepB K H F v (.tup ds)):∃a vs,v= .ref a/\H a=some (.tup vs)/\Reps K F vs ds:=by
 obtain⟨a,vs,e,h,r⟩:=h.in rfl
 exact⟨a,vs,e,s _ _ h,r⟩
theorem RepB.scr {K:PySem.W.Frag} {H F:Hp} {v:V} {ns:List Int} (s:Same F H) (h:RepB K H F v (.scr ns)):∃a,v= .ref a/\SqL K H a (ns.map V.int):=by
 obtain⟨a,e,h⟩:=h.in rfl
 exact⟨a,e,s.seq h⟩
theorem RepB.int {K:PySem.W.Frag} {H F:Hp} {v:V} {i:Int} (h:RepB K H F v (.int i)):v= .int i:=h.in rfl
theorem RepB.bl {K:PySem.W.Frag} {H F:Hp} {v:V} {i:Bool} (h:RepB K H F v (.bl i)):v= .bl i:=h.in rfl
theorem RepB.str {K:PySem.W.Frag} {H F:Hp} {v:V} {i:Str} (h:RepB K H F v (.str i)):v= .str i:=h.in rfl
theorem RepB.non {K:PySem.W.Frag} {H F:Hp} {v:V} (h:RepB K H F v .non):v= .non:=h.in rfl
inductive RepBs (K:PySem.W.Frag) (H F:Hp):List V->List D->Prop
 |nil:RepBs K H F [] []
 |cons {v:V} {d:D} {vs:List V} {ds:List D}:RepB K H F v d->RepBs K H F vs ds->RepBs K H F (v::vs) (d::ds)
noncomputable def ErrCls (K:PySem.W.Frag) (x:Str) (cls:Value):Prop:=∃C,cls= .ref C/\PySem.W.nsIn K mainGlobals x=some (some (.ref C))
noncomputable def Thr (X:Cx) (c:Ctx ly):Prop:=(Plain X/\∀pins σ ρ H F s a cls x,Inv X pins σ H s->RI X.K c ρ σ H F->Fl X pins H s.heap a cls->ErrCls X.K x cls->c.Er x ρ->X.xe (.ref a) s)\/∀x ρ,¬c.Er x ρ
noncomputable abbrev CtxT (ly:List Lay) (X:Cx):Type:={c:Ctx ly // Thr X c}
theorem Thr.no {X:Cx} {c:Ctx ly} (h:∀x ρ,¬c.Er x ρ):Thr X c:= .inr h
noncomputable def xkQ (X:Cx) (c:Ctx ly) (σ:St):XK:=fun cls _ H'=>∃x ρ F',ErrCls X.K x cls/\RI X.K c ρ σ H' F'/\c.Er x ρ
theorem passE {X:Cx} (c:CtxT ly X):Passes (CXE X.prog X.w) X (xkQ X c.1):=fun pins σ H s e s' I h=>by
 rcases c.2 with ⟨hp,thr⟩|no
 ·obtain⟨a,cls,H',rfl,I',fl,x,ρ,F',ec,ri,er⟩:=cxe_fl I hp h
  exact thr pins σ ρ H' F' s' a cls x I' ri fl ec er
 ·obtain⟨a,cls,H',_,_,_,_,_,_,x,ρ,F',ec,ri,er⟩:=h
  exact absurd er (no x ρ)
noncomputable def tQ (K:PySem.W.Frag) (c:Ctx ly) (f:Rho->R D):TE:=fun σ H Q=>∃F ρ,RI K c ρ σ H F/\Want c (f ρ) fun d=>∀v H' F',Ext H F H' F'->Rep K F' v d->Q v H'
noncomputable def tB' (K:PySem.W.Frag) (c:Ctx ly) (f:Rho->R D):TE:=fun σ H Q=>∃F ρ,RI K c ρ σ H F/\Want c (f ρ) fun d=>∀v H' F',Ext H F H' F'->RepB K H' F' v d->Q v H'
noncomputable def tT (K:PySem.W.Frag) (c:Ctx ly) (f:Rho->R Bool):TT:=fun σ H Q=>∃F ρ,RI K c ρ σ H F/\Want c (f ρ) fun b=>∀H' F',Ext H F H' F'->Q b H'
noncomputable def tAs (K:PySem.W.Frag) (c:Ctx ly) (f:Rho->R (List D)):TA:=fun σ H Q=>∃F ρ,RI K c ρ σ H F/\Want c (f ρ) fun ds=>∀vs H' F',Ext H F H' F'->Reps K F' vs ds->Q vs H'
noncomputable def tABs (K:PySem.W.Frag) (c:Ctx ly) (f:Rho->R (List D)):TA:=fun σ H Q=>∃F ρ,RI K c ρ σ H F/\Want c (f ρ) fun ds=>∀vs H' F',Ext H F H' F'->RepBs K H' F' vs ds->Q vs H'
noncomputable def PQ (ly:List Lay) (X:Cx) (e:Expr) (f:Rho->R D):Prop:=∀c:CtxT ly X,PE X e (tQ X.K c.1 f)
noncomputable def PB (ly:List Lay) (X:Cx) (e:Expr) (f:Rho->R D):Prop:=∀c:CtxT ly X,PE X e (tB' X.K c.1 f)
noncomputable def PTQ (ly:List Lay) (X:Cx) (e:Expr) (f:Rho->R Bool):Prop:=∀c:CtxT ly X,PT X e (tT X.K c.1 f)
noncomputable def PWQ (ly:List Lay) (X:Cx) (e:Expr) (f:Rho->R Bool):Prop:=∀c:CtxT ly X,PW X e (tT X.K c.1 f)
noncomputable def PAQ (ly:List Lay) (X:Cx) (es:List Expr) (f:Rho->R (List D)):Prop:=∀c:CtxT ly X,PA X es (tAs X.K c.1 f)
noncomputable def PAB (ly:List Lay) (X:Cx) (es:List Expr) (f:Rho->R (List D)):Prop:=∀c:CtxT ly X,PA X es (tABs X.K c.1 f)
theorem PE.weak {X:Cx} {e:Expr} {t t':TE} (h:PE X e t) (w:∀σ H Q,t' σ H Q->t σ H Q):PE X e t':=fun pins s σ H Q I q=>h pins s σ H Q I (w σ H Q q)
theorem PT.weak {X:Cx} {e:Expr} {t t':TT} (h:PT X e t) (w:∀σ H Q,t' σ H Q->t σ H Q):PT X e t':=fun pins s σ H Q I q=>h pins s σ H Q I (w σ H Q q)
theorem PW.weak {X:Cx} {e:Expr} {t t':TT} (h:PW X e t) (w:∀σ H Q,t' σ H Q->t σ H Q):PW X e t':=fun wh pins s σ H Q I q=>h wh pins s σ H Q I (w σ H Q q)
theorem PA.weak {X:Cx} {e:List Expr} {t t':TA} (h:PA X e t) (w:∀σ H Q,t' σ H Q->t σ H Q):PA X e t':=fun pos pins s σ H Q I q=>h pos pins s σ H Q I (w σ H Q q)
theorem PS.weak {X:Cx} {e:Stmt} {t t':TS} (h:PS X e t) (w:∀D σ H,t' D σ H->t D σ H):PS X e t':=fun pins s σ H D I q=>h pins s σ H D I (w D σ H q)
theorem PSs.weak {X:Cx} {e:List Stmt} {t t':TS} (h:PSs X e t) (w:∀D σ H,t' D σ H->t D σ H):PSs X e t':=fun pins s σ H D I q=>h pins s σ H D I (w D σ H q)
theorem PG.weak {X:Cx} {e:Expr} {t t':TG} (h:PG X e t) (w:∀v σ H Q,t' v σ H Q->t v σ H Q):PG X e t':=fun pins s σ H v u Q I r q=>h pins s σ H v u Q I r (w v σ H Q q)
theorem two {K:PySem.W.Frag} {c:Ctx ly} {fa fb:Rho->R D} {g:D->D->R D} {σ:St} {H:Hp} {Q:VK} (h:tQ K c (fun ρ=>fa ρ>>=fun x=>fb ρ>>=fun y=>g x y) σ H Q)
  {T:V->V->Hp->Prop} (k:∀F H2 F2 v u x y,Ext H F H2 F2->RepB K H2 F2 v x->RepB K H2 F2 u y->Want c (g x y) (fun d=>∀w H' F',Ext H F H' F'->Rep K F' w d->Q w H')->T v u H2):
  tB' K c fa σ H fun v H1=>tB' K c fb σ H1 fun u H2=>T v u H2:=by
 obtain⟨F,ρ,ri,w⟩:=h
 refine⟨F,ρ,ri,(Want.bind.mp w).imp fun x hx w1 v H1 F1 e1 r1=>⟨F1,ρ,ri.step e1,(Want.bind.mp w1).imp fun y hy w2 u H2 F2 e2 r2=> ?_⟩⟩
 exact k F H2 F2 v u x y (e1.trans e2) (r1.mono e2) r2 w2
noncomputable def Sem2 (K:PySem.W.Frag) (r:R2) (g:D->D->Option D):Prop:=∀v u x y d H F Q,Same F H->RepB K H F v x->RepB K H F u y->g x y=some d->(∀w H' F',Ext H F H' F'->Rep K F' w d->Q w H')->r v u H Q
noncomputable def Sem1 (K:PySem.W.Frag) (r:V->Hp->VK->Prop) (g:D->Option D):Prop:=∀v x d H F Q,Same F H->RepB K H F v x->g x=some d->(∀w H' F',Ext H F H' F'->Rep K F' w d->Q w H')->r v H Q
noncomputable def SemC (K:PySem.W.Frag) (r:List V->Hp->VK->Prop) (g:List D->Option D):Prop:=∀vs ds d H F Q,Same F H->RepBs K H F vs ds->g ds=some d->(∀w H' F',Ext H F H' F'->Rep K F' w d->Q w H')->r vs H Q
section
variable {X:Cx} {a b e:Expr} {es:List Expr} {fa fb f:Rho->R D} {fs:Rho->R (List D)} {pos:Pos}
theorem PQ.bo (h:PQ ly X e f):PB ly X e f:=fun c=>PE.weak (h c) fun σ H Q ⟨F,ρ,ri,w⟩=>⟨F,ρ,ri,w.imp fun d _ k v H' F' e r=>k v H' F' e (.inl r)⟩
noncomputable def fVar (i:Nat):Rho->R D:=fun ρ=>match ρ[i]? with
 |some (some (.val d))=> .ok d
 |_=> .bad
noncomputable def fBor (i:Nat):Rho->R D:=fun ρ=>match ρ[i]? with
 |some (some .obj)=> .bad
 |some (some s)=> .ok s.data
 |_=> .bad
theorem q_of (h:PE X e (tVar i)):PQ ly X e (fVar i):=fun c=>PE.weak h fun σ H Q ⟨F,ρ,ri,w⟩=>by
 unfold fVar at w
 split at w
 ·rename_i d hd
  obtain⟨v,h1,h2⟩:=ri.val i d hd
  exact⟨v,h1,w v H F (Ext.refl ri.sub) h2⟩
 ·exact w.elim
theorem b_of (h:PE X e (tVar i)):PB ly X e (fBor i):=fun c=>PE.weak h fun σ H Q ⟨F,ρ,ri,w⟩=>by
 unfold fBor at w
 split at w
 ·exact w.elim
 ·rename_i s _ hs
  cases s with
  |obj=>rename_i hno;exact absurd rfl hno
  |val d=>obtain⟨v,h1,h2⟩:=ri.val i d hs;exact⟨v,h1,w v H F (Ext.refl ri.sub) (.inl h2)⟩
  |own d=>obtain⟨a,o,h1,h2,h3,h4,h5⟩:=ri.own i d hs;exact⟨_,h1,w _ H F (Ext.refl ri.sub) (.inr ⟨a,o,rfl,h2,h5⟩)⟩
  |bor d=>obtain⟨a,o,h1,h2,h3⟩:=ri.bor i d hs;exact⟨_,h1,w _ H F (Ext.refl ri.sub) (.inr ⟨a,o,rfl,ri.ext.keep _ _ (ri.bh _ _ h2),h3.mono ri.ext.grow⟩)⟩
 ·exact w.elim
theorem q_var (i:Nat) {x:Str} (hN:X.N[i]? =some x:=by rfl) (hv:Vis X.env.scope x:=by first|exact Or.inl rfl|exact Or.inr (Or.inl rfl)|exact Or.inr (Or.inr rfl)) (hd:(x==("__debug__":Str))=false:=by decide)
  (hcd:(x==("__classdict__":Str))=false:=by decide):PQ ly X (.Name x pos) (fVar i):=q_of (pv i hN hv hd hcd)
theorem b_var (i:Nat) {x:Str} (hN:X.N[i]? =some x:=by rfl) (hv:Vis X.env.scope x:=by first|exact Or.inl rfl|exact Or.inr (Or.inl rfl)|exact Or.inr (Or.inr rfl)) (hd:(x==("__debug__":Str))=false:=by decide)
  (hcd:(x==("__classdict__":Str))=false:=by decide):PB ly X (.Name x pos) (fBor i):=b_of (pv i hN hv hd hcd)
noncomputable def fC (d:D):Rho->R D:=fun _=> .ok d
theorem q_int {i:Int} {j:Nat}:PQ ly X (.Constant (.int i) j pos) (fC (.int i)):=fun c=>PE.weak pe_int fun σ H Q ⟨F,ρ,ri,w⟩=>w _ H F (Ext.refl ri.sub) (.int i)
theorem q_bl {i:Bool} {j:Nat}:PQ ly X (.Constant (.bool i) j pos) (fC (.bl i)):=fun c=>PE.weak pe_bl fun σ H Q ⟨F,ρ,ri,w⟩=>w _ H F (Ext.refl ri.sub) (.bl i)
theorem q_non {j:Nat}:PQ ly X (.Constant .none j pos) (fC .non):=fun c=>PE.weak pe_non fun σ H Q ⟨F,ρ,ri,w⟩=>w _ H F (Ext.refl ri.sub) .non
theorem q_str {x:Str} {j:Nat}:PQ ly X (.Constant (.str x) j pos) (fC (.str x)):=fun c=>PE.weak pe_str fun σ H Q ⟨F,ρ,ri,w⟩=>w _ H F (Ext.refl ri.sub) (.str x)
noncomputable def f2 (g:D->D->Option D) (fa fb:Rho->R D):Rho->R D:=fun ρ=>fa ρ>>=fun x=>fb ρ>>=fun y=>R.of (g x y)
theorem q_op2 {op:Operator} {r:R2} {g:D->D->Option D} (ho:OpR X (binaryOp op) r) (sem:Sem2 X.K r g) (ha:PB ly X a fa) (hb:PB ly X b fb):PQ ly X (.BinOp a op b pos) (f2 g fa fb):=fun c=>
 PE.weak (pe_op ho (ha c) (hb c)) fun σ H Q h=>two h fun F H2 F2 v u x y e rx ry w=>by
  obtain⟨d,hd,k⟩:=w.of
  exact sem v u x y d H2 F2 Q e.sub rx ry hd fun w H' F' e' r'=>k w H' F' (e.trans e') r'
noncomputable def f1 (g:D->Option D) (fa:Rho->R D):Rho->R D:=fun ρ=>fa ρ>>=fun x=>R.of (g x)
theorem q_un {op:UnaryOp} {r:V->Hp->VK->Prop} {g:D->Option D} (ho:UnR X (unaryOp op) r) (sem:Sem1 X.K r g) (ha:PB ly X a fa):PQ ly X (.UnaryOp op a pos) (f1 g fa):=fun c=>
 PE.weak (pe_un ho (ha c)) fun σ H Q ⟨F,ρ,ri,w⟩=>⟨F,ρ,ri,(Want.bind.mp w).imp fun x hx w1 v H1 F1 e1 r1=>by
  obtain⟨d,hd,k⟩:=w1.of
  exact sem v x d H1 F1 Q e1.sub r1 hd fun w H' F' e' r'=>k w H' F' (e1.trans e') r'⟩
theorem q_cmp {op:CmpOp} {r:R2} {g:D->D->Option D} (ho:OpR X (compareOp op) r) (sem:Sem2 X.K r g) (ha:PB ly X a fa) (hb:PB ly X b fb) (hm:behindInMarks op b=false:=by first|exact nomark _|with_unfolding_all rfl):
  PQ ly X (.Compare a [op] [b] pos) (f2 g fa fb):=fun c=>
 PE.weak (pe_cmpR ho (ha c) (hb c) hm) fun σ H Q h=>two h fun F H2 F2 v u x y e rx ry w=>by
  obtain⟨d,hd,k⟩:=w.of
  exact sem v u x y d H2 F2 Q e.sub rx ry hd fun w H' F' e' r'=>k w H' F' (e.trans e') r'
noncomputable def fT (f:Rho->R D):Rho->R Bool:=fun ρ=>f ρ>>=fun d=>match d with
 | .bl b=> .ok b
 |_=> .bad
theorem t_of {t:TE} (h:PT X e (tTest t)) (w:∀σ H Q,tQ X.K c f σ H Q->t σ H Q):PT X e (tT X.K c (fT f)):=PT.weak h fun σ H Q ⟨F,ρ,ri,k⟩=>by
 refine w σ H _ ⟨F,ρ,ri,(Want.bind.mp k).imp fun d _ k1 v H' F' e r=> ?_⟩
 cases d with
 |bl b=>cases r;exact⟨b,rfl,k1 H' F' e⟩
 |_=>exact k1.elim
theorem t_cmp {op:CmpOp} {r:R2} {g:D->D->Option D} (ho:OpR X (compareOp op) r) (sem:Sem2 X.K r g) (ha:PB ly X a fa) (hb:PB ly X b fb) (hm:behindInMarks op b=false:=by first|exact nomark _|with_unfolding_all rfl):
  PTQ ly X (.Compare a [op] [b] pos) (fT (f2 g fa fb)):=fun c=>t_of (pt_cmpR ho (ha c) (hb c) hm) fun σ H Q h=>two h fun F H2 F2 v u x y e rx ry w=>by
  obtain⟨d,hd,k⟩:=w.of
  exact sem v u x y d H2 F2 Q e.sub rx ry hd fun w H' F' e' r'=>k w H' F' (e.trans e') r'
noncomputable def fNil:Rho->R (List D):=fun _=> .ok []
noncomputable def fCons (f:Rho->R D) (fs:Rho->R (List D)):Rho->R (List D):=fun ρ=>f ρ>>=fun x=>fs ρ>>=fun xs=> .ok (x::xs)
theorem qa_nil:PAQ ly X [] fNil:=fun c=>PA.weak pa_nil fun σ H Q ⟨F,ρ,ri,w⟩=>w [] H F (Ext.refl ri.sub) .nil
theorem qa_cons (h:PQ ly X e f) (hr:PAQ ly X es fs) (hs:starEach (e::es) X.env=(false,eval e X.env)::starEach es X.env:=by rfl):PAQ ly X (e::es) (fCons f fs):=fun c=>
 PA.weak (pa_cons (h c) (hr c) hs) fun σ H Q ⟨F,ρ,ri,w⟩=>⟨F,ρ,ri,(Want.bind.mp w).imp fun x hx w1 v H1 F1 e1 r1=>⟨F1,ρ,ri.step e1,(Want.bind.mp w1).imp fun y hy w2 u H2 F2 e2 r2=>
  w2 _ H2 F2 (e1.trans e2) (.cons (r1.mono e2.grow) r2)⟩⟩
theorem ba_nil:PAB ly X [] fNil:=fun c=>PA.weak pa_nil fun σ H Q ⟨F,ρ,ri,w⟩=>w [] H F (Ext.refl ri.sub) .nil
theorem ba_cons (h:PB ly X e f) (hr:PAB ly X es fs) (hs:starEach (e::es) X.env=(false,eval e X.env)::starEach es X.env:=by rfl):PAB ly X (e::es) (fCons f fs):=fun c=>
 PA.weak (pa_cons (h c) (hr c) hs) fun σ H Q ⟨F,ρ,ri,w⟩=>⟨F,ρ,ri,(Want.bind.mp w).imp fun x hx w1 v H1 F1 e1 r1=>⟨F1,ρ,ri.step e1,(Want.bind.mp w1).imp fun y hy w2 u H2 F2 e2 r2=>
  w2 _ H2 F2 (e1.trans e2) (.cons (r1.mono e2) r2)⟩⟩
noncomputable def lim:Nat:=100000
theorem lim_le:lim<=sizeLine:=by decide
noncomputable def fTup (fs:Rho->R (List D)):Rho->R D:=fun ρ=>fs ρ>>=fun ds=>if ds.length<=lim then .ok (.tup ds)else .bad
noncomputable def fLst (fs:Rho->R (List D)):Rho->R D:=fun ρ=>fs ρ>>=fun ds=>if ds.length<=lim then .ok (.lst ds)else .bad
theorem q_tup {x1:Nat} (h:PAQ ly X es fs):PQ ly X (.Tuple es x1 pos) (fTup fs):=fun c=>PE.weak (pe_tup (h c)) fun σ H Q ⟨F,ρ,ri,w⟩=>⟨F,ρ,ri,(Want.bind.mp w).imp fun ds hd w1 vs H1 F1 e1 r1=>by
 split at w1
 ·rename_i hl
  refine⟨Nat.le_trans (by rw[r1.length];exact hl) lim_le,fun p hp=> ?_⟩
  have e2:=Ext.lay (o:= .tup vs) e1.sub hp
  exact w1 _ _ _ (e1.trans e2) (.tup upd_same (r1.mono e2.grow))
 ·exact w1.elim⟩
theorem q_lst (h:PAQ ly X es fs):PQ ly X (.List es pos) (fLst fs):=fun c=>PE.weak (pe_lst (h c)) fun σ H Q ⟨F,ρ,ri,w⟩=>⟨F,ρ,ri,(Want.bind.mp w).imp fun ds hd w1 vs H1 F1 e1 r1=>by
 split at w1
 ·rename_i hl
  refine⟨Nat.le_trans (by rw[r1.length];exact hl) lim_le,fun p hp=> ?_⟩
  have e2:=Ext.lay (o:= .lst vs) e1.sub hp
  exact w1 _ _ _ (e1.trans e2) (.lst upd_same (r1.mono e2.grow))
 ·exact w1.elim⟩
noncomputable def f1s (g:List D->Option D) (fs:Rho->R (List D)):Rho->R D:=fun ρ=>fs ρ>>=fun ds=>R.of (g ds)
variable {x:Str} {p:Pos} {id T:String} {rc:List V->Hp->VK->Prop}
theorem semC_in {c:Ctx ly} {rc:List V->Hp->VK->Prop} {g:List D->Option D} (sem:SemC X.K rc g) {σ:St} {H:Hp} {Q:VK} (h:tQ X.K c (f1s g fs) σ H Q):tCB rc (tABs X.K c fs) σ H Q:=by
 obtain⟨F,ρ,ri,w⟩:=h
 refine⟨F,ρ,ri,(Want.bind.mp w).imp fun ds hd w1 vs H1 F1 e1 r1=> ?_⟩
 obtain⟨d,hd,k⟩:=w1.of
 exact sem vs ds d H1 F1 Q e1.sub r1 hd fun w H' F' e' r'=>k w H' F' (e1.trans e') r'
theorem q_callB {g:List D->Option D} (hc:CallR X (.builtin id) rc) (sem:SemC X.K rc g) (hm:X.mg x=none) (hv:bootBuiltins x=some (.builtin id)) (ha:PAB ly X (e::es) fs) (hg:Gl X x:=by rfl) (hn:x≠"__name__":=by decide) (hdb:(x==("__debug__":Str))=false:=by decide)
  (he:starEach (e::es) X.env=(false,eval e X.env)::starEach es X.env:=by rfl) (hpl:(backTo pos (starEach es X.env)).any (·.1)=false:=by rfl):PQ ly X (.Call (.Name x p) (e::es) [] pos) (f1s g fs):=fun c=>
 PE.weak (pe_callB hc hg hm hv (ha c) hn hdb he hpl) fun σ H Q h=>semC_in sem h
theorem q_callTy {g:List D->Option D} (hc:CallR X (.type T) rc) (sem:SemC X.K rc g) (hm:X.mg x=none) (hv:bootBuiltins x=some (.type T)) (ha:PAB ly X (e::es) fs) (hg:Gl X x:=by rfl) (hn:x≠"__name__":=by decide) (hdb:(x==("__debug__":Str))=false:=by decide)
  (he:starEach (e::es) X.env=(false,eval e X.env)::starEach es X.env:=by rfl) (hpl:(backTo pos (starEach es X.env)).any (·.1)=false:=by rfl):PQ ly X (.Call (.Name x p) (e::es) [] pos) (f1s g fs):=fun c=>
 PE.weak (pe_callTy hc hg hm hv (ha c) hn hdb he hpl) fun σ H Q h=>semC_in sem h
noncomputable def spQ (K:PySem.W.Frag) (n:Nat) (m:List D->R D):Sp:=fun vs H Q E=>vs.length=n/\∃F ds,Same F H/\Reps K F vs ds/\match m ds with
 | .ok d=>∀v H' F',Ext H F H' F'->Rep K F' v d->Q v H'
 | .err x _=>∀cls a H' F',ErrCls K x cls->Ext H F H' F'->E cls a H'
 | .bad=>False
noncomputable def fCall (m:List D->R D) (n:Nat) (fs:Rho->R (List D)):Rho->R D:=fun ρ=>fs ρ>>=fun ds=>if ds.length=n then (match m ds with| .ok d=> .ok d| .err x _=> .err x ρ| .bad=> .bad)else .bad
theorem spQ_in {c:Ctx ly} {m:List D->R D} {n:Nat} {σ:St} {H:Hp} {Q:VK} (h:tQ X.K c (fCall m n fs) σ H Q):tCall (spQ X.K n m) [] (xkQ X c) (tAs X.K c fs) σ H Q:=by
 obtain⟨F,ρ,ri,w⟩:=h
 refine⟨F,ρ,ri,(Want.bind.mp w).imp fun ds hd w1 vs H1 F1 e1 r1=> ?_⟩
 show spQ X.K n m (vs++[]) H1 Q (xkQ X c σ)
 rw[List.append_nil]
 split at w1
 ·rename_i hl
  refine⟨by rw[r1.length];exact hl,F1,ds,e1.sub,r1,?_⟩
  split at w1
  ·exact fun v H' F' e' r'=>w1 v H' F' (e1.trans e') r'
  ·exact fun cls a H' F' ec e'=>⟨_,ρ,F',ec,ri.step (e1.trans e'),w1⟩
  ·exact w1.elim
 ·exact w1.elim
theorem q_call {n k:Nat} {m:List D->R D} {f:Addr} {fd:FuncData} {ps:List Str} (F:FnOk X.prog X.w X.K X.mg X.base (CXE X.prog X.w) k f fd ps (spQ X.K n m)) (hr:Room k X.A) (hm:X.mg x=some (.ref f)) (hk:PySem.W.keepIn X.K (.ref f)=true) (hb:Binds X.K fd ps [])
  (ha:PAQ ly X (e::es) fs) (hg:Gl X x:=by rfl) (hdb:(x==("__debug__":Str))=false:=by decide) (he:starEach (e::es) X.env=(false,eval e X.env)::starEach es X.env:=by rfl) (hpl:(backTo pos (starEach es X.env)).any (·.1)=false:=by rfl):
  PQ ly X (.Call (.Name x p) (e::es) [] pos) (fCall m n fs):=fun c=>PE.weak (pe_call F hr hg hm hk hb .nil (passE c) (ha c) hdb he hpl) fun σ H Q h=>spQ_in h
variable {ga gb:Rho->R Bool} {rest:List Expr}
noncomputable def gAnd (ga gb:Rho->R Bool):Rho->R Bool:=fun ρ=>ga ρ>>=fun b=>if b=true then gb ρ else .ok false
noncomputable def gOr (ga gb:Rho->R Bool):Rho->R Bool:=fun ρ=>ga ρ>>=fun b=>if b=true then .ok true else gb ρ
noncomputable def gNot (ga:Rho->R Bool):Rho->R Bool:=fun ρ=>ga ρ>>=fun b=> .ok (!b)
theorem PWQ.t (h:PWQ ly X e ga):PTQ ly X e ga:=fun c=>(h c).pt
theorem w_and1 (h:PTQ ly X a ga):PWQ ly X (.BoolOp .And [a] pos) ga:=fun c=>pw_and1 (h c)
theorem w_or1 (h:PTQ ly X a ga):PWQ ly X (.BoolOp .Or [a] pos) ga:=fun c=>pw_or1 (h c)
theorem w_and (h:PTQ ly X a ga) (hb:PWQ ly X (.BoolOp .And (b::rest) pos) gb):PWQ ly X (.BoolOp .And (a::b::rest) pos) (gAnd ga gb):=fun c=>PW.weak (pw_and (h c) (hb c)) fun σ H Q ⟨F,ρ,ri,w⟩=>
 ⟨F,ρ,ri,(Want.bind.mp w).imp fun b hb w1 H1 F1 e1=>by
  cases b with
  |true=>exact⟨F1,ρ,ri.step e1,w1.imp fun b' _ k H2 F2 e2=>k H2 F2 (e1.trans e2)⟩
  |false=>exact w1 H1 F1 e1⟩
theorem w_or (h:PTQ ly X a ga) (hb:PWQ ly X (.BoolOp .Or (b::rest) pos) gb):PWQ ly X (.BoolOp .Or (a::b::rest) pos) (gOr ga gb):=fun c=>PW.weak (pw_or (h c) (hb c)) fun σ H Q ⟨F,ρ,ri,w⟩=>
 ⟨F,ρ,ri,(Want.bind.mp w).imp fun b hb w1 H1 F1 e1=>by
  cases b with
  |false=>exact⟨F1,ρ,ri.step e1,w1.imp fun b' _ k H2 F2 e2=>k H2 F2 (e1.trans e2)⟩
  |true=>exact w1 H1 F1 e1⟩
theorem t_not (h:PTQ ly X a ga):PTQ ly X (.UnaryOp .Not a pos) (gNot ga):=fun c=>PT.weak (pt_not (h c)) fun σ H Q ⟨F,ρ,ri,w⟩=>⟨F,ρ,ri,(Want.bind.mp w).imp fun b hb w1 H1 F1 e1=>w1 H1 F1 e1⟩
noncomputable def fAndV (fa fb:Rho->R D):Rho->R D:=fun ρ=>fa ρ>>=fun d=>match d with
 | .bl true=>fb ρ
 | .bl false=> .ok (.bl false)
 |_=> .bad
noncomputable def fOrV (fa fb:Rho->R D):Rho->R D:=fun ρ=>fa ρ>>=fun d=>match d with
 | .bl true=> .ok (.bl true)
 | .bl false=>fb ρ
 |_=> .bad
noncomputable def fNotV (fa:Rho->R D):Rho->R D:=fun ρ=>fa ρ>>=fun d=>match d with
 | .bl b=> .ok (.bl (!b))
 |_=> .bad
theorem q_one {op:PySem.BoolOp} (h:PQ ly X a fa):PQ ly X (.BoolOp op [a] pos) fa:=fun c=>pe_one (h c)
theorem q_and (ha:PQ ly X a fa) (hb:PQ ly X (.BoolOp .And (b::rest) pos) fb):PQ ly X (.BoolOp .And (a::b::rest) pos) (fAndV fa fb):=fun c=>PE.weak (pe_and (ha c) (hb c)) fun σ H Q ⟨F,ρ,ri,w⟩=>
 ⟨F,ρ,ri,(Want.bind.mp w).imp fun d hd w1 v H1 F1 e1 r1=>by
  cases d with
  |bl b=>
   cases r1
   cases b with
   |true=>exact⟨true,rfl,F1,ρ,ri.step e1,w1.imp fun b' _ k v H2 F2 e2 r2=>k v H2 F2 (e1.trans e2) r2⟩
   |false=>exact⟨false,rfl,w1 _ H1 F1 e1 (.bl false)⟩
  |_=>exact w1.elim⟩
theorem q_not (ha:PQ ly X a fa):PQ ly X (.UnaryOp .Not a pos) (fNotV fa):=fun c=>PE.weak (pe_not (ha c)) fun σ H Q ⟨F,ρ,ri,w⟩=>⟨F,ρ,ri,(Want.bind.mp w).imp fun d hd w1 v H1 F1 e1 r1=>by
  cases d with
  |bl b=>cases r1;exact⟨b,rfl,w1 _ H1 F1 e1 (.bl _)⟩
  |_=>exact w1.elim⟩
noncomputable def fIf (gc:Rho->R Bool) (fa fb:Rho->R D):Rho->R D:=fun ρ=>gc ρ>>=fun b=>if b=true then fa ρ else fb ρ
noncomputable def dTruth:D->Option Bool
 | .non=>some false
 | .bl b=>some b
 | .int i=>some (i != 0)
 | .lst ds=>some (!ds.isEmpty)
 | .tup ds=>some (!ds.isEmpty)
 | .dic ds=>some (!ds.isEmpty)
 |_=>none
noncomputable def fTru (f:Rho->R D):Rho->R Bool:=fun ρ=>f ρ>>=fun d=>R.of (dTruth d)
theorem Reps.isEmpty {K:PySem.W.Frag} {F:Hp}:∀{vs:List V} {ds:List D},Reps K F vs ds->vs.isEmpty=ds.isEmpty
 |_,_, .nil=>rfl
 |_,_, .cons _ _=>rfl
theorem RepK.isEmpty {K:PySem.W.Frag} {F:Hp}:∀{vs:List (Key×V)} {ds:List (Key×D)},RepK K F vs ds->vs.isEmpty=ds.isEmpty
 |_,_, .nil=>rfl
 |_,_, .cons _ _=>rfl
theorem t_tru (h:PB ly X e f) (he:∀whole,isTrue e X.env whole=(do let v<-whole;standAt e.pos;holding [v] (truthy v)):=by intro _;rfl):PTQ ly X e (fTru f):=fun c=>PT.weak (pt_truth (h c) he) fun σ H Q ⟨F,ρ,ri,w⟩=>
 ⟨F,ρ,ri,(Want.bind.mp w).imp fun d hd w1 v H1 F1 e1 r1=>by
  obtain⟨b,hb,k⟩:=w1.of
  refine⟨b,?_,k H1 F1 e1⟩
  cases d with
  |non=>cases r1.non;cases hb;rfl
  |bl=>cases r1.bl;cases hb;rfl
  |int=>cases r1.int;cases hb;rfl
  |lst ds=>obtain⟨a,vs,rfl,h1,h2⟩:=r1.lst e1.sub;cases hb;exact .inl ⟨vs,SqL.of h1,by rw[h2.isEmpty]⟩
  |tup ds=>obtain⟨a,vs,rfl,h1,h2⟩:=r1.tup e1.sub;cases hb;exact .inr (.inl ⟨vs,SqT.of h1,by rw[h2.isEmpty]⟩)
  |dic ds=>obtain⟨a,vs,rfl,h1,h2,h3⟩:=r1.dic e1.sub;cases hb;exact .inr (.inr ⟨vs,h1,by rw[h2.isEmpty]⟩)
  |_=>cases hb⟩
end
end L2.Pu
namespace L2.Pu
open PySem PySem.Spec PyProof.Rows
variable {ly:List Lay}
inductive Out where
 |nx (ρ:Rho)|ret (d:D)|brk (ρ:Rho)|cnt (ρ:Rho)
noncomputable def EndOk (K:PySem.W.Frag) (c:Ctx ly) (F:Hp) (D:Ends):Out->Prop
 | .nx ρ=>∀σ' H' F',Same F F'->RI K c ρ σ' H' F'->D.nx σ' H'
 | .brk ρ=>∀σ' H' F',Same F F'->RI K c ρ σ' H' F'->D.bk σ' H'
 | .cnt ρ=>∀σ' H' F',Same F F'->RI K c ρ σ' H' F'->D.ct σ' H'
 | .ret d=>∀v H' F',Same F F'->Ext c.H0 c.F0 H' F'->Rep K F' v d->D.rt v H'
theorem EndOk.mono {K:PySem.W.Frag} {c:Ctx ly} {F F1:Hp} {D:Ends} (g:Same F F1):∀{o:Out},EndOk K c F D o->EndOk K c F1 D o
 | .nx ρ,h=>fun σ' H' F' s r=>h σ' H' F' (g.trans s) r
 | .brk ρ,h=>fun σ' H' F' s r=>h σ' H' F' (g.trans s) r
 | .cnt ρ,h=>fun σ' H' F' s r=>h σ' H' F' (g.trans s) r
 | .ret d,h=>fun v H' F' s e r=>h v H' F' (g.trans s) e r
noncomputable def tS (K:PySem.W.Frag) (c:Ctx ly) (g:Rho->R Out):TS:=fun D σ H=>∃F ρ,RI K c ρ σ H F/\Want c (g ρ) (EndOk K c F D)
noncomputable def PSQ (ly:List Lay) (X:Cx) (st:Stmt) (g:Rho->R Out):Prop:=∀c:CtxT ly X,PS X st (tS X.K c.1 g)
noncomputable def PSsQ (ly:List Lay) (X:Cx) (st:List Stmt) (g:Rho->R Out):Prop:=∀c:CtxT ly X,PSs X st (tS X.K c.1 g)
section
variable {X:Cx} {st:Stmt} {rest:List Stmt} {a b e:Expr} {es:List Expr} {fa fb f:Rho->R D} {fs:Rho->R (List D)} {ga gb g g':Rho->R Out} {gt:Rho->R Bool} {pos:Pos}
noncomputable def gNext:Rho->R Out:=fun ρ=> .ok (.nx ρ)
noncomputable def gSeq (g g':Rho->R Out):Rho->R Out:=fun ρ=>g ρ>>=fun o=>match o with
 | .nx ρ'=>g' ρ'
 |o=> .ok o
theorem ss_nil:PSsQ ly X [] gNext:=fun c=>PSs.weak pss_nil fun D σ H ⟨F,ρ,ri,w⟩=>w σ H F (Same.refl _) ri
theorem ss_cons (h:PSQ ly X st g) (hr:PSsQ ly X rest g'):PSsQ ly X (st::rest) (gSeq g g'):=fun c=>PSs.weak (pss_cons (h c) (hr c)) fun D σ H ⟨F,ρ,ri,w⟩=>by
 refine⟨F,ρ,ri,(Want.bind.mp w).imp fun o ho w1=> ?_⟩
 cases o with
 |nx ρ'=>exact fun σ' H' F' s r=>⟨F',ρ',r,w1.imp fun o' _ k=>k.mono s⟩
 |ret d=>exact w1
 |brk ρ'=>exact w1
 |cnt ρ'=>exact w1
theorem ss_one (h:PSQ ly X st g):PSsQ ly X [st] g:=fun c=>PSs.weak (pss_one (h c)) fun D σ H w=>w
noncomputable def gFrz (L:List Nat) (g:Rho->R Out):Rho->R Out:=fun ρ=>g (frz L ρ)
theorem s_frz (L:List Nat) (h:PSQ ly X st g):PSQ ly X st (gFrz L g):=fun c=>PS.weak (h c) fun D σ H ⟨F,ρ,ri,w⟩=>by
 obtain⟨F',s,ri'⟩:=ri.frz L
 exact⟨F',_,ri',w.imp fun o _ k=>k.mono s⟩
noncomputable def gCnt:Rho->R Out:=fun ρ=> .ok (.cnt ρ)
theorem s_continue:PSQ ly X (.Continue pos) gCnt:=fun c=>PS.weak ps_continue fun D σ H ⟨F,ρ,ri,w⟩=>w σ H F (Same.refl _) ri
noncomputable def gRet (f:Rho->R D):Rho->R Out:=fun ρ=>f ρ>>=fun d=> .ok (.ret d)
theorem s_ret (h:PQ ly X e f):PSQ ly X (.Return (some e) pos) (gRet f):=fun c=>PS.weak (ps_ret (h c)) fun D σ H ⟨F,ρ,ri,w⟩=>
 ⟨F,ρ,ri,(Want.bind.mp w).imp fun d _ w1 v H' F' e r=>w1 v H' F' e.grow (ri.ext.trans e) r⟩
noncomputable def gIf (gc:Rho->R Bool) (g g':Rho->R Out):Rho->R Out:=fun ρ=>gc ρ>>=fun b=>if b=true then g ρ else g' ρ
theorem s_if {ta tb:List Stmt} (hc:PTQ ly X e gt) (ha:PSsQ ly X ta g) (hb:PSsQ ly X tb g'):PSQ ly X (.If e ta tb pos) (gIf gt g g'):=fun c=>PS.weak (ps_if (hc c) (ha c) (hb c)) fun D σ H ⟨F,ρ,ri,w⟩=>
 ⟨F,ρ,ri,(Want.bind.mp w).imp fun b hb w1 H1 F1 e1=>by
  cases b with
  |true=>exact⟨F1,ρ,ri.step e1,w1.imp fun o _ k=>k.mono e1.grow⟩
  |false=>exact⟨F1,ρ,ri.step e1,w1.imp fun o _ k=>k.mono e1.grow⟩⟩
noncomputable def tG (K:PySem.W.Frag) (c:Ctx ly) (gt:D->Rho->R Rho):TG:=fun v σ H Q=>∃F ρ d,RI K c ρ σ H F/\Rep K F v d/\Want c (gt d ρ) fun ρ'=>∀σ' H' F',Same F F'->RI K c ρ' σ' H' F'->Q σ' H'
noncomputable def PGQ (ly:List Lay) (X:Cx) (tg:Expr) (gt:D->Rho->R Rho):Prop:=∀c:CtxT ly X,PG X tg (tG X.K c.1 gt)
noncomputable def gN (i:Nat):D->Rho->R Rho:=fun d ρ=> .ok (ρ.set i (some (.val d)))
theorem g_name (i:Nat) {x:Str} (hN:X.N.Nodup) (hi:X.N[i]? =some x:=by rfl) (hx:Loc X.env.scope x:=by first|exact Or.inl rfl|exact Or.inr rfl) (hf:X.fn x=true\/X.env.scope.names.lookup x=some .local:=by first|exact .inl rfl|exact .inr rfl|assumption) (hfr:Free ly i:=by(repeat (first|assumption|exact L2.Pu.free_nil|refine L2.Pu.free_cons ⟨by first|decide|simp,by first|decide|simp⟩ ?_))):PGQ ly X (.Name x pos) (gN i):=
 fun c=>PG.weak (pg_name hN hi hx hf) fun v σ H Q ⟨F,ρ,d,ri,r,w⟩=>w _ H F (Same.refl _) (ri.setVal i hfr r)
noncomputable def tGs (K:PySem.W.Frag) (c:Ctx ly) (gt:List D->Rho->R Rho):TGs:=fun vs σ H Q=>∃F ρ ds,RI K c ρ σ H F/\Reps K F vs ds/\Want c (gt ds ρ) fun ρ'=>∀σ' H' F',Same F F'->RI K c ρ' σ' H' F'->Q σ' H'
noncomputable def PGsQ (ly:List Lay) (X:Cx) (tg:List Expr) (gt:List D->Rho->R Rho):Prop:=∀c:CtxT ly X,PGs X tg (tGs X.K c.1 gt)
theorem PGs.weak {X:Cx} {e:List Expr} {t t':TGs} (h:PGs X e t) (w:∀v σ H Q,t' v σ H Q->t v σ H Q):PGs X e t':=fun pins s σ H v u Q I r q=>h pins s σ H v u Q I r (w v σ H Q q)
noncomputable def gsNil:List D->Rho->R Rho:=fun ds ρ=>match ds with
 |[]=> .ok ρ
 |_=> .bad
noncomputable def gsCons (g:D->Rho->R Rho) (gs:List D->Rho->R Rho):List D->Rho->R Rho:=fun ds ρ=>match ds with
 |[]=> .bad
 |d::r=>g d ρ>>=fun ρ'=>gs r ρ'
theorem gs_nil:PGsQ ly X [] gsNil:=fun c=>PGs.weak pgs_nil fun vs σ H Q ⟨F,ρ,ds,ri,r,w⟩=>by
 cases r with
 |nil=>exact⟨rfl,w σ H F (Same.refl _) ri⟩
 |cons _ _=>exact w.elim
theorem gs_cons {g:D->Rho->R Rho} {gs:List D->Rho->R Rho} (h:PGQ ly X e g) (hr:PGsQ ly X es gs) (hs:(assignEach (e::es) X.env).map (·.2)=assign e X.env::(assignEach es X.env).map (·.2):=by rfl):PGsQ ly X (e::es) (gsCons g gs):=
 fun c=>PGs.weak (pgs_cons (h c) (hr c) hs) fun vs σ H Q ⟨F,ρ,ds,ri,r,w⟩=>by
 cases r with
 |nil=>exact w.elim
 | @cons v d vs ds r t=>
  refine⟨v,vs,rfl,F,ρ,d,ri,r,(Want.bind.mp w).imp fun ρ' _ w1 σ' H' F' s ri'=>⟨F',ρ',ds,ri',t.mono s,w1.imp fun ρ2 _ k σ2 H2 F2 s2 r2=>k σ2 H2 F2 (s.trans s2) r2⟩⟩
noncomputable def gTupT (n:Nat) (gs:List D->Rho->R Rho):D->Rho->R Rho:=fun d ρ=>match d with
 | .tup ds=>if ds.length=n then gs ds ρ else .bad
 | .lst ds=>if ds.length=n then gs ds ρ else .bad
 |_=> .bad
theorem PG.or {X:Cx} {e:Expr} {t t':TG} (h:PG X e t) (h':PG X e t'):PG X e (fun v σ H Q=>t v σ H Q\/t' v σ H Q):=fun pins s σ H v u Q I r q=>q.elim (fun q=>h pins s σ H v u Q I r q) fun q=>h' pins s σ H v u Q I r q
theorem g_tup {k n:Nat} {gs:List D->Rho->R Rho} (hc:X.calm=true) (h:PGsQ ly X es gs) (hn:(assignEach es X.env).length=n:=by rfl) (hst:(assignEach es X.env).findIdx? (·.1)=none:=by rfl):PGQ ly X (.Tuple es k pos) (gTupT n gs):=
 fun c=>PG.weak (PG.or (pg_tup hc (h c) hn hst) (pg_lst hc (h c) hn hst)) fun v σ H Q ⟨F,ρ,d,ri,r,w⟩=>by
 cases r with
 | @tup a vs ds h1 h2=>
  change Want c.1 (if ds.length=n then gs ds ρ else .bad) _ at w
  split at w
  ·rename_i hl
   exact .inl ⟨a,vs,rfl,SqT.of (ri.sub _ _ h1),by rw[h2.length];exact hl,F,ρ,ds,ri,h2,w⟩
  ·exact w.elim
 | @lst a vs ds h1 h2=>
  change Want c.1 (if ds.length=n then gs ds ρ else .bad) _ at w
  split at w
  ·rename_i hl
   exact .inr ⟨a,vs,rfl,SqL.of (ri.sub _ _ h1),by rw[h2.length];exact hl,F,ρ,ds,ri,h2,w⟩
  ·exact w.elim
 |_=>exact w.elim
noncomputable def gAsg (f:Rho->R D) (g:D->Rho->R Rho):Rho->R Out:=fun ρ=>f ρ>>=fun d=>g d ρ>>=fun ρ'=> .ok (.nx ρ')
theorem asg_in {c:Ctx ly} {g:D->Rho->R Rho} {K:PySem.W.Frag} {D':Ends} {σ:St} {H:Hp} (h:tS K c (gAsg f g) D' σ H):tAsg (tQ K c f) (tG K c g) D' σ H:=by
 obtain⟨F,ρ,ri,w⟩:=h
 refine⟨F,ρ,ri,(Want.bind.mp w).imp fun d _ w1 v H1 F1 e1 r1=>⟨F1,ρ,d,ri.step e1,r1,(Want.bind.mp w1).imp fun ρ' _ w2 σ' H' F' s r'=>w2 σ' H' F' (e1.grow.trans s) r'⟩⟩
theorem s_asg {tg:Expr} {g:D->Rho->R Rho} (he:PQ ly X e f) (hg:PGQ ly X tg g) (hs:swapsWithSole [tg] e pos.line X.env=pure false:=by rfl) (hw:swappedStores [tg] e X.env=pure none:=by rfl)
  (h1:(assignEach [tg] X.env).map (·.2)=[assign tg X.env]:=by rfl):PSQ ly X (.Assign [tg] e pos) (gAsg f g):=fun c=>PS.weak (ps_asg (he c) (hg c) hs hw h1) fun D σ H h=>asg_in h
theorem s_set (i:Nat) {x:Str} {pos':Pos} (hN:X.N.Nodup) (he:PQ ly X e f) (hi:X.N[i]? =some x:=by rfl) (hx:Loc X.env.scope x:=by first|exact Or.inl rfl|exact Or.inr rfl) (hs:swapsWith e (some (.Name x pos')) pos.line X.env=pure false:=by rfl)
  (hf:X.fn x=true\/X.env.scope.names.lookup x=some .local:=by first|exact .inl rfl|exact .inr rfl|assumption) (hfr:Free ly i:=by(repeat (first|assumption|exact L2.Pu.free_nil|refine L2.Pu.free_cons ⟨by first|decide|simp,by first|decide|simp⟩ ?_))):PSQ ly X (.Assign [.Name x pos'] e pos) (gAsg f (gN i)):=fun c=>
 PS.weak (ps_set hN hi hx (he c) hs hf) fun D σ H h=>by
  obtain⟨F,ρ,ri,w⟩:=h
  exact⟨F,ρ,ri,(Want.bind.mp w).imp fun d _ w1 v H1 F1 e1 r1=>w1 _ H1 F1 e1.grow ((ri.step e1).setVal i hfr r1)⟩
noncomputable def gPar (i j:Nat) (fs:Rho->R (List D)):Rho->R Out:=fun ρ=>fs ρ>>=fun ds=>match ds with
 |[x,y]=> .ok (.nx ((ρ.set i (some (.val x))).set j (some (.val y))))
 |_=> .bad
theorem s_par (i j:Nat) {x y:Str} {px py pt:Pos} {kt k2:Nat} {pt2:Pos} (hc:X.calm=true) (hN:X.N.Nodup) (ha:PAQ ly X [a,b] fs) (hi:X.N[i]? =some x:=by rfl) (hj:X.N[j]? =some y:=by rfl) (hij:i≠j:=by decide)
  (hx:X.env.scope.names.lookup x=some .local:=by rfl) (hy:X.env.scope.names.lookup y=some .local:=by rfl)
  (hw:swappedStores [.Tuple [.Name x px, .Name y py] kt pt] (.Tuple [a,b] k2 pt2) X.env=pure (some [x,y]):=by rfl)
  (hs:swapsWithSole [.Tuple [.Name x px, .Name y py] kt pt] (.Tuple [a,b] k2 pt2) pos.line X.env=pure false:=by rfl) (hfr:Free ly i:=by(repeat (first|assumption|exact L2.Pu.free_nil|refine L2.Pu.free_cons ⟨by first|decide|simp,by first|decide|simp⟩ ?_))) (hfr2:Free ly j:=by(repeat (first|assumption|exact L2.Pu.free_nil|refine L2.Pu.free_cons ⟨by first|decide|simp,by first|decide|simp⟩ ?_))):
  PSQ ly X (.Assign [.Tuple [.Name x px, .Name y py] kt pt] (.Tuple [a,b] k2 pt2) pos) (gPar i j fs):=fun c=>PS.weak (ps_par hc hN hi hj hij hx hy (ha c) hw hs) fun D σ H ⟨F,ρ,ri,w⟩=>
 ⟨F,ρ,ri,(Want.bind.mp w).imp fun ds _ w1 vs H1 F1 e1 r1=>by
  cases ds with
  |nil=>exact w1.elim
  |cons dx ds=>
   cases ds with
   |nil=>exact w1.elim
   |cons dy ds=>
    cases ds with
    |cons _ _=>exact w1.elim
    |nil=>
     obtain⟨vx,us,rfl,rx,t⟩:=r1.consI
     obtain⟨vy,us2,rfl,ry,t2⟩:=t.consI
     cases t2.nilI
     exact⟨vx,vy,rfl,w1 _ H1 F1 e1.grow (((ri.step e1).setVal i hfr rx).setVal j hfr2 ry)⟩⟩
noncomputable def gOwnL (i:Nat) (fs:Rho->R (List D)):Rho->R Out:=fun ρ=>fs ρ>>=fun ds=>if ds.length<=lim then .ok (.nx (ρ.set i (some (.own (.lst ds)))))else .bad
theorem s_ownL (i:Nat) {x:Str} {pos' pl:Pos} (hN:X.N.Nodup) (h:PAQ ly X es fs) (hi:X.N[i]? =some x:=by rfl) (hx:Loc X.env.scope x:=by first|exact Or.inl rfl|exact Or.inr rfl) (hs:swapsWith (.List es pl) (some (.Name x pos')) pos.line X.env=pure false:=by rfl)
  (hf:X.fn x=true\/X.env.scope.names.lookup x=some .local:=by first|exact .inl rfl|exact .inr rfl|assumption) (hfr:Free ly i:=by(repeat (first|assumption|exact L2.Pu.free_nil|refine L2.Pu.free_cons ⟨by first|decide|simp,by first|decide|simp⟩ ?_))):PSQ ly X (.Assign [.Name x pos'] (.List es pl) pos) (gOwnL i fs):=fun c=>
 PS.weak (ps_set hN hi hx (pe_lst (h c)) hs hf) fun D σ H ⟨F,ρ,ri,w⟩=>⟨F,ρ,ri,(Want.bind.mp w).imp fun ds _ w1 vs H1 F1 e1 r1=>by
  split at w1
  ·rename_i hl
   refine⟨Nat.le_trans (by rw[r1.length];exact hl) lim_le,fun p hp=> ?_⟩
   exact w1 _ _ F1 e1.grow ((ri.step e1).setNew i hfr hp (.lst r1))
  ·exact w1.elim⟩
noncomputable def gOwnD (i:Nat):Rho->R Out:=fun ρ=> .ok (.nx (ρ.set i (some (.own (.dic [])))))
theorem s_ownD (i:Nat) {x:Str} {pos' pl:Pos} (hN:X.N.Nodup) (hi:X.N[i]? =some x:=by rfl) (hx:Loc X.env.scope x:=by first|exact Or.inl rfl|exact Or.inr rfl) (hs:swapsWith (.Dict [] [] pl) (some (.Name x pos')) pos.line X.env=pure false:=by rfl)
  (hf:X.fn x=true\/X.env.scope.names.lookup x=some .local:=by first|exact .inl rfl|exact .inr rfl|assumption) (hfr:Free ly i:=by(repeat (first|assumption|exact L2.Pu.free_nil|refine L2.Pu.free_cons ⟨by first|decide|simp,by first|decide|simp⟩ ?_))):PSQ ly X (.Assign [.Name x pos'] (.Dict [] [] pl) pos) (gOwnD i):=fun c=>
 PS.weak (ps_set hN hi hx pe_dnewK hs hf) fun D σ H ⟨F,ρ,ri,w⟩=>fun p hp=>w _ _ F (Same.refl _) (ri.setNew i hfr hp (.dic .nil List.nodup_nil))
structure ItOk (K:PySem.W.Frag) (F:Hp) (J:It) (ds:List D):Prop where
 go:∀i H,Same F H->i<ds.length->J.go i H
 stop:∀H,Same F H->J.stop ds.length H
 yld:∀i H F1 x H',Same F F1->Same F1 H->J.yld i H x H'->i<ds.length->∃F' d,ds[i]? =some d/\Ext H F1 H' F'/\Rep K F' x d
noncomputable def tI (K:PySem.W.Frag) (c:Ctx ly) (fi:Rho->R (List D)):TI:=fun σ H Rk=>∃F ρ,RI K c ρ σ H F/\Want c (fi ρ) fun ds=>∀J H' F',Ext H F H' F'->ItOk K F' J ds->Rk J H'
noncomputable def PIQ (ly:List Lay) (X:Cx) (tg iter:Expr) (fi:Rho->R (List D)):Prop:=∀c:CtxT ly X,PI X tg iter (tI X.K c.1 fi)
theorem PI.weak {X:Cx} {tg e:Expr} {t t':TI} (h:PI X tg e t) (w:∀σ H Rk,t' σ H Rk->t σ H Rk):PI X tg e t':=fun pins s σ H Rk I q=>h pins s σ H Rk I (w σ H Rk q)
noncomputable def loopF (g:D->Rho->R Rho) (gb:Rho->R Out):List D->Rho->R Out
 |[],ρ=> .ok (.nx ρ)
 |d::r,ρ=>g d ρ>>=fun ρ1=>gb ρ1>>=fun o=>match o with
  | .nx ρ2=>loopF g gb r ρ2
  | .cnt ρ2=>loopF g gb r ρ2
  | .brk ρ2=> .ok (.nx ρ2)
  | .ret d=> .ok (.ret d)
noncomputable def gFor (fi:Rho->R (List D)) (g:D->Rho->R Rho) (gb:Rho->R Out):Rho->R Out:=fun ρ=>fi ρ>>=fun ds=>loopF g gb ds ρ
theorem loopF_drop {g:D->Rho->R Rho} {gb:Rho->R Out} {ds:List D} {i:Nat} {d:D} {ρ:Rho} (h:ds[i]? =some d):loopF g gb (ds.drop i) ρ=(g d ρ>>=fun ρ1=>gb ρ1>>=fun o=>match o with
  | .nx ρ2=>loopF g gb (ds.drop (i+1)) ρ2
  | .cnt ρ2=>loopF g gb (ds.drop (i+1)) ρ2
  | .brk ρ2=> .ok (.nx ρ2)
  | .ret d=> .ok (.ret d)):=by
 obtain⟨hl,e⟩:=List.getElem?_eq_some_iff.mp h
 rw[List.drop_eq_getElem_cons hl,e]
 rfl
theorem for_in {K:PySem.W.Frag} {c:Ctx ly} {fi:Rho->R (List D)} {g:D->Rho->R Rho} {D':Ends} {σ:St} {H:Hp} (h:tS K c (gFor fi g gb) D' σ H):tFor (tI K c fi) (tG K c g) (tS K c gb) D' σ H:=by
 obtain⟨F,ρ,ri,w⟩:=h
 refine⟨F,ρ,ri,(Want.bind.mp w).imp fun ds _ w1 J H1 F1 e1 jo=> ?_⟩
 refine⟨fun i m σ H=>∃F2 ρ2,RI K c ρ2 σ H F2/\Same F1 F2/\m=ds.length - i/\i<=ds.length/\Want c (loopF g gb (ds.drop i) ρ2) (EndOk K c F2 D'),⟨_,F1,ρ,ri.step e1,Same.refl _,rfl,Nat.zero_le _,w1.imp fun o _ k=>k.mono e1.grow⟩,?_⟩
 rintro i m σ2 H2 ⟨F2,ρ2,ri2,s2,rfl,hi,w2⟩
 by_cases hl:i<ds.length
 ·refine .inr ⟨jo.go i H2 (s2.trans ri2.sub) hl,fun σ' H'=>∃F3 ρ3,RI K c ρ3 σ' H' F3/\Same F2 F3/\Want c (loopF g gb (ds.drop (i+1)) ρ3) (EndOk K c F3 D'),?_,fun x H3 y=> ?_⟩
  ·rintro σ' H' ⟨F3,ρ3,ri3,s3,w3⟩
   exact⟨ds.length - (i+1),by omega,F3,ρ3,ri3,s2.trans s3,rfl,hl,w3⟩
  ·obtain⟨F3,d,hd,e3,r3⟩:=jo.yld i H2 F2 x H3 s2 ri2.sub y hl
   rw[loopF_drop hd]at w2
   refine⟨F3,ρ2,d,ri2.step e3,r3,(Want.bind.mp w2).imp fun ρ3 _ w3 σ4 H4 F4 s4 r4=>⟨F4,ρ3,r4,(Want.bind.mp w3).imp fun o _ w4=> ?_⟩⟩
   have s24:Same F2 F4:=e3.grow.trans s4
   cases o with
   |nx ρ5=>exact fun σ' H' F' s' r'=>⟨F',ρ5,r',s24.trans s',w4.imp fun o _ k=>k.mono (s24.trans s')⟩
   |cnt ρ5=>exact fun σ' H' F' s' r'=>⟨F',ρ5,r',s24.trans s',w4.imp fun o _ k=>k.mono (s24.trans s')⟩
   |brk ρ5=>exact fun σ' H' F' s' r'=>w4 σ' H' F' (s24.trans s') r'
   |ret d=>exact fun v H' F' s' e' r'=>w4 v H' F' (s24.trans s') e' r'
 ·have e:i=ds.length:=by omega
  subst e
  rw[List.drop_length]at w2
  exact .inl ⟨jo.stop H2 (s2.trans ri2.sub),w2 σ2 H2 F2 (Same.refl _) ri2⟩
theorem s_for {tg iter:Expr} {body:List Stmt} {fi:Rho->R (List D)} {g:D->Rho->R Rho} (hp:PassesOwn (model X.prog X.w) X.A X.env X.xe) (hc:X.calm=true) (hi:PIQ ly X tg iter fi) (hg:PGQ ly X tg g) (hb:PSsQ ly X body gb)
  (hs:∀x,foldedSetIterable iter X.env x=pure x:=by intro _;rfl):PSQ ly X (.For tg iter body [] pos) (gFor fi g gb):=fun c=>PS.weak (ps_for hp hc (hi c) (hg c) (hb c) hs) fun D σ H h=>for_in h
noncomputable def whileF (gt:Rho->R Bool) (gb:Rho->R Out):Nat->Rho->R Out
 |0,_=> .bad
 |n+1,ρ=>gt ρ>>=fun b=>if b=true then (gb ρ>>=fun o=>match o with
   | .nx ρ2=>whileF gt gb n ρ2
   | .cnt ρ2=>whileF gt gb n ρ2
   | .brk ρ2=> .ok (.nx ρ2)
   | .ret d=> .ok (.ret d))else .ok (.nx ρ)
theorem while_in {K:PySem.W.Frag} {c:Ctx ly} {D':Ends} {σ:St} {H:Hp} {n:Nat} (h:tS K c (whileF gt gb n) D' σ H):tWhile (tT K c gt) (tS K c gb) D' σ H:=by
 obtain⟨F,ρ,ri,w⟩:=h
 refine⟨fun m σ H=>∃F2 ρ2,RI K c ρ2 σ H F2/\Want c (whileF gt gb m ρ2) (EndOk K c F2 D'),⟨n,F,ρ,ri,w⟩,?_⟩
 rintro m σ2 H2 ⟨F2,ρ2,ri2,w2⟩
 cases m with
 |zero=>exact w2.elim
 |succ m=>
  refine⟨F2,ρ2,ri2,(Want.bind.mp w2).imp fun b _ w3 H3 F3 e3=> ?_⟩
  cases b with
  |false=>exact w3 σ2 H3 F3 e3.grow (ri2.step e3)
  |true=>
   refine⟨fun σ' H'=>∃F4 ρ4,RI K c ρ4 σ' H' F4/\Want c (whileF gt gb m ρ4) (EndOk K c F4 D'),fun σ' H' k=>⟨m,Nat.lt_succ_self _,k⟩,F3,ρ2,ri2.step e3,(Want.bind.mp w3).imp fun o _ w4=> ?_⟩
   cases o with
   |nx ρ5=>exact fun σ' H' F' s' r'=>⟨F',ρ5,r',w4.imp fun o _ k=>k.mono (e3.grow.trans s')⟩
   |cnt ρ5=>exact fun σ' H' F' s' r'=>⟨F',ρ5,r',w4.imp fun o _ k=>k.mono (e3.grow.trans s')⟩
   |brk ρ5=>exact fun σ' H' F' s' r'=>w4 σ' H' F' (e3.grow.trans s') r'
   |ret d=>exact fun v H' F' s' e' r'=>w4 v H' F' (e3.grow.trans s') e' r'
theorem s_while {body:List Stmt} (n:Nat) (hp:PassesOwn (model X.prog X.w) X.A X.env X.xe) (hc:PTQ ly X e gt) (hb:PSsQ ly X body gb):PSQ ly X (.While e body [] pos) (whileF gt gb n):=fun c=>PS.weak (ps_while hp (hc c) (hb c)) fun D σ H h=>while_in h
theorem itOk_list {K:PySem.W.Frag} {F:Hp} {a:Addr} {vs:List V} {ds:List D} (h:F a=some (.lst vs)) (r:Reps K F vs ds):ItOk K F (Itl K a) ds where
 go:=fun i H s hi=>⟨vs,vs[i]'(by rw[r.length];exact hi),SqL.of (s _ _ h),by simp[r.length,hi]⟩
 stop:=fun H s=>⟨vs,SqL.of (s _ _ h),Nat.le_of_eq r.length⟩
 yld:=fun i H F1 x H' s1 s2 y hi=>by
  obtain⟨rfl,y⟩:=y
  have:=y vs (SqL.of (s2 _ _ (s1 _ _ h)))
  obtain⟨d,hd,rd⟩:=r.get' this
  exact⟨F1,d,hd,Ext.refl s2,rd.mono s1⟩
theorem itOk_tup {K:PySem.W.Frag} {F:Hp} {a:Addr} {vs:List V} {ds:List D} (h:F a=some (.tup vs)) (r:Reps K F vs ds):ItOk K F (Itt K a) ds where
 go:=fun i H s hi=>⟨vs,vs[i]'(by rw[r.length];exact hi),SqT.of (s _ _ h),by simp[r.length,hi]⟩
 stop:=fun H s=>⟨vs,SqT.of (s _ _ h),Nat.le_of_eq r.length⟩
 yld:=fun i H F1 x H' s1 s2 y hi=>by
  obtain⟨rfl,y⟩:=y
  have:=y vs (SqT.of (s2 _ _ (s1 _ _ h)))
  obtain⟨d,hd,rd⟩:=r.get' this
  exact⟨F1,d,hd,Ext.refl s2,rd.mono s1⟩
noncomputable def fSeq (f:Rho->R D):Rho->R (List D):=fun ρ=>f ρ>>=fun d=>match d with
 | .lst ds=> .ok ds
 | .tup ds=> .ok ds
 | .scr ns=> .ok (ns.map .int)
 |_=> .bad
theorem itOk_scr {K:PySem.W.Frag} {F:Hp} {a:Addr} {ns:List Int} (h:SqL K F a (ns.map V.int)):ItOk K F (Itl K a) (ns.map .int)where
 go:=fun i H s hi=>⟨ns.map V.int,(ns.map V.int)[i]'(by simpa using hi),s.seq h,by simp at hi;simp[hi]⟩
 stop:=fun H s=>⟨ns.map V.int,s.seq h,by simp⟩
 yld:=fun i H F1 x H' s1 s2 y hi=>by
  obtain⟨rfl,y⟩:=y
  have:=y (ns.map V.int) ((s1.trans s2).seq h)
  rw[List.getElem?_map]at this
  cases e:ns[i]? with
  |none=>rw[e]at this;cases this
  |some n=>rw[e]at this;cases this;exact⟨F1, .int n,by rw[List.getElem?_map,e];rfl,Ext.refl s2, .int n⟩
theorem i_seq {tg:Expr} (h:PQ ly X e f):PIQ ly X tg e (fSeq f):=by
 intro c pins s σ H Rk I q
 obtain⟨F,ρ,ri,w⟩:=q
 have w':=Want.bind.mp w
 cases hf:f ρ with
 |bad=>rw[hf]at w';exact w'.elim
 |err er ρe=>
  rw[hf]at w'
  exact pi_list (h c) pins s σ H Rk I ⟨F,ρ,ri,by rw[hf];exact w'⟩
 |ok d=>
  rw[hf]at w'
  cases d with
  |lst ds=>exact pi_list (h c) pins s σ H Rk I ⟨F,ρ,ri,by
    rw[hf]
    intro v H1 F1 e1 r1
    cases r1 with
    |lst h1 h2=>exact⟨_,rfl,⟨_,SqL.of (e1.sub _ _ h1)⟩,w' _ H1 F1 e1 (itOk_list h1 h2)⟩⟩
  |tup ds=>exact pi_tup (h c) pins s σ H Rk I ⟨F,ρ,ri,by
    rw[hf]
    intro v H1 F1 e1 r1
    cases r1 with
    |tup h1 h2=>exact⟨_,rfl,⟨_,SqT.of (e1.sub _ _ h1)⟩,w' _ H1 F1 e1 (itOk_tup h1 h2)⟩⟩
  |scr ns=>exact pi_list (h c) pins s σ H Rk I ⟨F,ρ,ri,by
    rw[hf]
    intro v H1 F1 e1 r1
    cases r1 with
    |scr h1=>exact⟨_,rfl,⟨_,e1.sub.seq h1⟩,w' _ H1 F1 e1 (itOk_scr h1)⟩⟩
  |_=>exact w'.elim
noncomputable def rangeD (lo hi:Int):List D:=(List.range (hi - lo).toNat).map fun k:Nat=>D.int (lo+(k:Int))
theorem itOk_range {K:PySem.W.Frag} {F:Hp} {lo hi:Int}:ItOk K F (Itr lo (hi - lo).toNat) (rangeD lo hi)where
 go:=fun i H s h=>by
  rw[rangeD,List.length_map,List.length_range]at h
  exact h
 stop:=fun H s=>by show (hi - lo).toNat<=_;rw[rangeD,List.length_map,List.length_range];exact Nat.le_refl _
 yld:=fun i H F1 x H' s1 s2 y h=>by
  obtain⟨rfl,rfl⟩:=y
  have h':i<(hi - lo).toNat:=by rw[rangeD,List.length_map,List.length_range]at h;exact h
  exact⟨F1, .int (lo+i),by rw[rangeD,List.getElem?_map,List.getElem?_range h'];rfl,Ext.refl s2, .int _⟩
noncomputable def fRange1 (f:Rho->R (List D)):Rho->R (List D):=fun ρ=>f ρ>>=fun ds=>match ds with
 |[.int j]=>if j.natAbs<=lim then .ok (rangeD 0 j)else .bad
 |_=> .bad
noncomputable def fRange2 (f:Rho->R (List D)):Rho->R (List D):=fun ρ=>f ρ>>=fun ds=>match ds with
 |[.int i, .int j]=>if i.natAbs<=lim/\j.natAbs<=lim then .ok (rangeD i j)else .bad
 |_=> .bad
theorem lim_int {j:Int} (h:j.natAbs<=lim): -(2 ^62)<=j/\j<2 ^62:=by
 unfold lim at h
 omega
theorem i_range1 {tg:Expr} {p:Pos} (hm:X.mg "range"=none) (ha:PAQ ly X [a] fs) (hg:Gl X "range":=by rfl) (hs:starEach [a] X.env=[(false,eval a X.env)]:=by rfl):PIQ ly X tg (.Call (.Name "range" p) [a] [] pos) (fRange1 fs):=fun c=>
 PI.weak (pi_range1 hg hm (ha c) hs) fun σ H Rk ⟨F,ρ,ri,w⟩=>⟨F,ρ,ri,(Want.bind.mp w).imp fun ds _ w1 vs H1 F1 e1 r1=>by
  split at w1
  ·split at w1
   ·rename_i j _ hj
    cases r1.int1
    exact⟨j,rfl,(lim_int hj).1,(lim_int hj).2,w1 _ H1 F1 e1 (by simpa using itOk_range (K:=X.K) (F:=F1) (lo:=0) (hi:=j))⟩
   ·exact w1.elim
  ·exact w1.elim⟩
theorem i_range2 {tg:Expr} {p:Pos} (hm:X.mg "range"=none) (ha:PAQ ly X [a,b] fs) (hg:Gl X "range":=by rfl) (hs:starEach [a,b] X.env=[(false,eval a X.env),(false,eval b X.env)]:=by rfl) (hs2:starEach [b] X.env=[(false,eval b X.env)]:=by rfl):PIQ ly X tg (.Call (.Name "range" p) [a,b] [] pos) (fRange2 fs):=fun c=>
 PI.weak (pi_range2 hg hm (ha c) hs hs2) fun σ H Rk ⟨F,ρ,ri,w⟩=>⟨F,ρ,ri,(Want.bind.mp w).imp fun ds _ w1 vs H1 F1 e1 r1=>by
  split at w1
  ·split at w1
   ·rename_i i j _ hj
    cases r1.int2
    exact⟨i,j,rfl,⟨(lim_int hj.1).1,(lim_int hj.1).2,(lim_int hj.2).1,(lim_int hj.2).2⟩,w1 _ H1 F1 e1 itOk_range⟩
   ·exact w1.elim
  ·exact w1.elim⟩
end
noncomputable def startR (n:Nat) (ds:List D):Rho:=ds.map (fun d=>some (.val d))++List.replicate (n - ds.length) none
noncomputable def runDef (k n:Nat) (g:Rho->R Out) (ds:List D):R D:=if ds.length=k then g (startR n ds)>>=fun o=>match o with
 | .ret d=> .ok d
 | .nx _=> .ok .non
 |_=> .bad else .bad
theorem ri_start {K:PySem.W.Frag} {N:List Str} {H F:Hp} {vs:List V} {ds:List D} {Er:Str->Rho->Prop} (s:Same F H) (r:Reps K F vs ds):RI K (⟨H,F,fun _=>none,Er,fun _=>none,fun _=>none⟩:Ctx []) (startR N.length ds) (start N vs) H F:=by
 have hv:∀(i:Nat) sl,(startR N.length ds)[i]? =some (some sl)->∃d,ds[i]? =some d/\sl= .val d:=fun i sl h=>by
  unfold startR at h
  rw[List.getElem?_append]at h
  split at h
  ·rw[List.getElem?_map]at h
   cases e:ds[i]? with
   |none=>rw[e]at h;cases h
   |some d=>rw[e]at h;simp at h;exact⟨d,rfl,h.symm⟩
  ·rw[List.getElem?_replicate]at h
   split at h<;>simp at h
 refine⟨Ext.refl s,fun i d h=> ?_,fun i d h=> ?_,fun i d h=> ?_,(fun b o e=>by cases e),fun i j d d' a h=> ?_,?_,(fun L h=>by cases h),(fun L h=>by cases h),(fun _ _ e=>by cases e)⟩
 ·obtain⟨d',e,z⟩:=hv i _ h
  cases z
  obtain⟨v,h1,h2⟩:=r.get e
  refine⟨v,?_,h2⟩
  unfold start
  have hl:i<vs.length:=(List.getElem?_eq_some_iff.mp h1).1
  rw[List.getElem?_append_left (by simpa using hl),List.getElem?_map,h1]
  rfl
 ·obtain⟨d',_,z⟩:=hv i _ h;cases z
 ·obtain⟨d',_,z⟩:=hv i _ h;cases z
 ·obtain⟨d',_,z⟩:=hv i _ h;cases z
 ·simp[startR,start,r.length]
theorem okE {P:Program} {w:World} {K:PySem.W.Frag} {mg:Str->Option Value} {base:Heap} {x qual:Str} {st:Stmt} {f:Addr} {fd:FuncData} {N ps:List Str} {k:Nat} {sp:Sp} (F:Fun K x qual st f fd) (S:FnScope N ps (defScope st)) (len:∀vs H Q E,sp vs H Q E->vs.length=ps.length)
  (hbody:∀(cdv:Value) (A:Around) (outer:List Env) (s:Shared) (H:Hp) (vs:List V) (Q:VK) (E:XK),Room k (A.deeper (envOfC qual (defScope st) s.heap.objs.size f cdv))->sp vs H Q E->
   ∃t,PSs (cxOf (CXE P w) P w K mg base N qual (defScope st) f cdv A outer s H E) (defBody st) t/\t {nx:=fun _ H'=>Q .non H',rt:=Q} (start N vs) H):FnOk P w K mg base (CXE P w) (k+1) f fd ps sp:=by
 obtain⟨oc,od,kV,doc,pm,an,cdv,ct,osl,rfl,lk,hcd⟩:=F.ex
 exact fn_of lk hcd S len fun A outer s H vs Q E hr hsp=>hbody cdv A outer s H vs Q E hr hsp
theorem thr_of {P:Program} {w:World} {K:PySem.W.Frag} {mg:Str->Option Value} {base:Heap} {N:List Str} {qual:Str} {scope:Scope} {f:Addr} {cd:Value} {A:Around} {outer:List Env} {s0:Shared} {H0:Hp} {E:XK} {c:Ctx ly}
  (h:∀x ρ,c.Er x ρ->∀cls a H' F' σ,ErrCls K x cls->RI K c ρ σ H' F'->E cls a H'):Thr (cxOf (CXE P w) P w K mg base N qual scope f cd A outer s0 H0 E) c:=
 .inl ⟨plain_of,fun pins σ ρ H F s a cls x I ri fl ec er=>def_leaves I fl (h x ρ er cls (some a) H F σ ec ri)⟩
theorem fn_Q {P:Program} {w:World} {K:PySem.W.Frag} {mg:Str->Option Value} {base:Heap} {x qual:Str} {st:Stmt} {f:Addr} {fd:FuncData} {N ps:List Str} {k n m:Nat} {g:Rho->R Out} (F:Fun K x qual st f fd) (S:FnScope N ps (defScope st)) (hn:ps.length=n) (hm:N.length=m)
  (hbody:∀(cdv:Value) (A:Around) (outer:List Env) (s:Shared) (H:Hp) (E:XK),Room k (A.deeper (envOfC qual (defScope st) s.heap.objs.size f cdv))->
   PSsQ [] (cxOf (CXE P w) P w K mg base N qual (defScope st) f cdv A outer s H E) (defBody st) g):FnOk P w K mg base (CXE P w) (k+1) f fd ps (spQ K n (runDef n m g)):=by
 refine okE F S (fun vs H Q E h=>by rw[hn];exact h.1) (fun cdv A outer s H vs Q E hr h=> ?_)
 obtain⟨hl,Fz,ds,sub,r,w⟩:=h
 refine⟨_,hbody cdv A outer s H E hr ⟨⟨H,Fz,fun _=>none,fun x _=>∀cls a H' F',ErrCls K x cls->Ext H Fz H' F'->E cls a H',fun _=>none,fun _=>none⟩,thr_of fun x ρ er cls a H' F' σ ec ri=>er cls a H' F' ec ri.ext⟩,?_⟩
 refine⟨Fz,startR m ds,by rw[<-hm];exact ri_start sub r,?_⟩
 have hd:ds.length=n:=by rw[<-r.length];exact hl
 unfold runDef at w
 rw[if_pos hd]at w
 cases e:g (startR m ds)with
 |bad=>rw[e]at w;exact w.elim
 |err c ρ=>rw[e]at w;exact w
 |ok o=>
  rw[e]at w
  cases o with
  |ret d=>exact fun v H' F' _ e' r'=>w v H' F' e' r'
  |nx ρ=>exact fun σ' H' F' _ r'=>w .non H' F' r'.ext .non
  |brk ρ=>exact w.elim
  |cnt ρ=>exact w.elim
end L2.Pu
namespace L2.Pu
open PySem PySem.Spec PyProof.Rows
variable {ly:List Lay}
noncomputable def Slot.toBor:Slot->Slot
 | .val d=> .val d
 | .own d=> .bor d
 | .bor d=> .bor d
 | .obj=> .obj
noncomputable def inRho (N:List Str) (names:List (Str×NameKind)) (ρ:Rho):Rho:=
 names.map fun x=>if x.2= .free then ((N.findIdx? (·==x.1)).bind fun i=>(ρ[i]?).join.map Slot.toBor)else none
theorem ri_in {K:PySem.W.Frag} {c:Ctx ly} {ρ:Rho} {σ:St} {H F H1 F1:Hp} {N:List Str} {names:List (Str×NameKind)} {p:Addr} {o:HO} (ri:RI K c ρ σ H F) (e:Ext H F H1 F1) (hp:H1 p=none):
  RI K (⟨upd H1 p o,F1,H1,fun _ _=>False,fun _=>none,fun _=>none⟩:Ctx []) (inRho N names ρ) (inSt N names σ) (upd H1 p o) F1:=by
 have r1:=ri.step e
 have key:∀(i:Nat) sl,(inRho N names ρ)[i]? =some (some sl)->∃(j:Nat) (sl':Slot),ρ[j]? =some (some sl')/\sl=sl'.toBor/\∀v,σ[j]? =some (some v)->(inSt N names σ)[i]? =some (some v):=fun i sl h=>by
  unfold inRho at h
  rw[List.getElem?_map]at h
  cases en:names[i]? with
  |none=>rw[en]at h;cases h
  |some y=>
   rw[en]at h
   simp only[Option.map_some,Option.some.injEq]at h
   by_cases hf:y.2= .free
   ·rw[if_pos hf]at h
    cases ei:N.findIdx? (·==y.1)with
    |none=>rw[ei]at h;cases h
    |some j=>
     rw[ei]at h
     cases e2:ρ[j]? with
     |none=>simp[e2]at h
     |some u=>
      cases u with
      |none=>simp[e2]at h
      |some sl'=>
       simp[e2]at h
       refine⟨j,sl',e2,h.symm,fun v hv=> ?_⟩
       unfold inSt
       rw[List.getElem?_map,en]
       simp only[Option.map_some,Option.some.injEq]
       rw[if_pos hf,ei]
       show (σ[j]?).join=some v
       rw[hv];rfl
   ·rw[if_neg hf]at h;cases h
 refine⟨Ext.refl (r1.sub.trans (same_upd hp)),fun i d h=> ?_,fun i d h=> ?_,fun i d h=> ?_,same_upd hp,fun i j d d' a h=> ?_,by simp[inRho,inSt],(fun L h=>by cases h),(fun L h=>by cases h),(fun _ _ e=>by cases e)⟩
 ·obtain⟨j,sl,h1,h2,h3⟩:=key i _ h
  cases sl with
  |val d'=>cases h2;obtain⟨v,k1,k2⟩:=r1.val j d h1;exact⟨v,h3 v k1,k2⟩
  |own d'=>cases h2
  |bor d'=>cases h2
  |obj=>cases h2
 ·obtain⟨j,sl,h1,h2,h3⟩:=key i _ h;cases sl<;>cases h2
 ·obtain⟨j,sl,h1,h2,h3⟩:=key i _ h
  cases sl with
  |val d'=>cases h2
  |own d'=>cases h2;obtain⟨a,o,k1,k2,k3,k4,k5⟩:=r1.own j d h1;exact⟨a,o,h3 _ k1,k2,k5⟩
  |bor d'=>cases h2;obtain⟨a,o,k1,k2,k3⟩:=r1.bor j d h1;exact⟨a,o,h3 _ k1,r1.ext.keep _ _ (r1.bh _ _ k2),k3.mono r1.ext.grow⟩
  |obj=>cases h2
 ·obtain⟨k,sl,h1,h2,h3⟩:=key i _ h;cases sl<;>cases h2
theorem RI.bump {K:PySem.W.Frag} {ρ:Rho} {σ:St} {H F H1 F1:Hp} {p:Addr} {o o':HO} {Er:Str->Rho->Prop} (r:RI K (⟨upd H1 p o,F1,H1,Er,fun _=>none,fun _=>none⟩:Ctx []) ρ σ H F) (hp:H1 p=none) (hF:F p=none):
  RI K (⟨upd H1 p o',F1,H1,Er,fun _=>none,fun _=>none⟩:Ctx []) ρ σ (upd H p o') F:=by
 refine⟨⟨fun b u e=> ?_,fun b u e=> ?_,r.ext.grow,fun b e=> ?_⟩,r.val,fun i d h=> ?_,r.bor,same_upd hp,r.dis,r.len,(fun L h=>by cases h),(fun L h=>by cases h),(fun _ _ e=>by cases e)⟩
 ·rw[upd_ne (fun z=>by rw[z,hF]at e;cases e)];exact r.sub b u e
 ·change upd H1 p o' b=some u at e
  by_cases z:b=p
  ·subst z;rw[upd_same]at e ⊢;exact e
  ·rw[upd_ne z]at e ⊢;exact r.ext.keep b u (by show upd H1 p o b=some u;rw[upd_ne z];exact e)
 ·by_cases z:b=p
  ·subst z;exact absurd hF e
  ·rcases r.ext.new b e with q|q
   ·exact .inl q
   ·refine .inr ?_
    change upd H1 p o b=none at q
    show upd H1 p o' b=none
    rw[upd_ne z]at q ⊢;exact q
 ·obtain⟨a,u,h1,h2,h3,h4,h5⟩:=r.own i d h
  change upd H1 p o a=none at h4
  have z:a≠p:=fun z=>by subst z;rw[upd_same]at h4;cases h4
  refine⟨a,u,h1,by rw[upd_ne z];exact h2,h3,?_,h5⟩
  show upd H1 p o' a=none
  rw[upd_ne z]at h4 ⊢;exact h4
noncomputable def compF (g:D->Rho->R Rho) (gt:Rho->R Bool) (fe:Rho->R D):List D->Rho->R (List D)
 |[],_=> .ok []
 |d::r,τ=>g d τ>>=fun τ1=>gt τ1>>=fun b=>if b=true then (fe τ1>>=fun y=>compF g gt fe r τ1>>=fun ys=> .ok (y::ys))else compF g gt fe r τ1
noncomputable def tGx (K:PySem.W.Frag) (g:D->Rho->R Rho):TG:=fun v σ H Q=>∃c:Ctx [],(∀e ρ,¬c.Er e ρ)/\tG K c g v σ H Q
noncomputable def tTx (K:PySem.W.Frag) (g:Rho->R Bool):TT:=fun σ H Q=>∃c:Ctx [],(∀e ρ,¬c.Er e ρ)/\tT K c g σ H Q
noncomputable def tQx (K:PySem.W.Frag) (g:Rho->R D):TE:=fun σ H Q=>∃c:Ctx [],(∀e ρ,¬c.Er e ρ)/\tQ K c g σ H Q
noncomputable def PIfQ (ly:List Lay) (X:Cx) (ifs:List Expr) (gt:Rho->R Bool):Prop:=∀c:CtxT ly X,PIf X ifs (tT X.K c.1 gt)
noncomputable def gYes:Rho->R Bool:=fun _=> .ok true
theorem if_nil {X:Cx}:PIfQ ly X [] gYes:=fun c pins s σ H Q I q=>by
 obtain⟨F,ρ,ri,w⟩:=q
 exact pif_nil pins s σ H Q I (w H F (Ext.refl ri.sub))
theorem if_one {X:Cx} {c:Expr} {gt:Rho->R Bool} (h:PTQ ly X c gt):PIfQ ly X [c] gt:=fun c=>pif_one (h c)
theorem bind_ok {α β:Type} {r:R α} {f:α->R β} {b:β} (h:(r>>=f)= .ok b):∃a,r= .ok a/\f a= .ok b:=by
 cases r with
 |ok a=>exact⟨a,rfl,h⟩
 |err c ρ=>cases h
 |bad=>cases h
theorem comp_block {K:PySem.W.Frag} {c:Ctx ly} {ρ:Rho} {σ:St} {H F H1 F1:Hp} {N:List Str} {names:List (Str×NameKind)} {p:Addr} {g:D->Rho->R Rho} {gt:Rho->R Bool} {fe:Rho->R D} {J:It} {ds es:List D} {Q:Hp->Prop}
  (ri:RI K c ρ σ H F) (e:Ext H F H1 F1) (jo:ItOk K F1 J ds) (hp:H1 p=none) (hl:ds.length<=lim) (he:compF g gt fe ds (inRho N names ρ)= .ok es)
  (k:∀H2 F2 vs,Ext H1 F1 H2 F2->H2 p=some (.lst vs)->F2 p=none->Reps K F2 vs es->Q H2):
  cBlock J (tGx K g) (tTx K gt) (tQx K fe) p (inSt N names σ) Q (upd H1 p (.lst [])):=by
 have s1:Same F1 H1:=e.sub
 have f1:F1 p=none:=s1.free hp
 refine⟨fun i m ys τ H=>∃F ρ' pre rest,RI K (⟨upd H1 p (.lst ys),F1,H1,fun _ _=>False,fun _=>none,fun _=>none⟩:Ctx []) ρ' τ H F/\Reps K F ys pre/\pre.length<=i/\m=ds.length - i/\i<=ds.length/\compF g gt fe (ds.drop i) ρ'= .ok rest/\pre++rest=es,
  ⟨_,F1,_,[],es,ri_in ri e hp, .nil,Nat.le_refl _,rfl,Nat.zero_le _,he,rfl⟩,?_⟩
 rintro i m ys τ H2 ⟨F2,ρ',pre,rest,r2,rp,hpi,rfl,hi,hc,hes⟩
 have hF2:F2 p=none:=by
  cases q:F2 p with
  |none=>rfl
  |some u=>
   rcases r2.ext.new p (by rw[q];simp)with z|z
   ·exact absurd f1 z
   ·change upd H1 p (.lst ys) p=none at z;rw[upd_same]at z;cases z
 have hD:∀{ρ' τ H F},RI K (⟨upd H1 p (.lst ys),F1,H1,fun _ _=>False,fun _=>none,fun _=>none⟩:Ctx []) ρ' τ H F->H p=some (.lst ys):=fun r=>r.ext.keep p _ upd_same
 refine⟨hD r2,?_⟩
 by_cases hlt:i<ds.length
 ·refine .inr ⟨jo.go i H2 (r2.ext.grow.trans r2.sub) hlt,?_,fun x H3 y=> ?_⟩
  ·have:=rp.length
   have:=lim_le
   omega
  ·obtain⟨F3,d,hd,e3,r3⟩:=jo.yld i H2 F2 x H3 r2.ext.grow r2.sub y hlt
   obtain⟨hl',ed⟩:=List.getElem?_eq_some_iff.mp hd
   rw[List.drop_eq_getElem_cons hl',ed]at hc
   obtain⟨τ1,h1,hc⟩:=bind_ok (r:=g d ρ') hc
   obtain⟨b,h2,hc⟩:=bind_ok (r:=gt τ1) hc
   refine⟨_,fun e ρ h=>h,F3,ρ',d,r2.step e3,r3,?_⟩
   rw[h1]
   intro τ4 H4 F4 s4 r4
   refine⟨_,fun e ρ h=>h,F4,τ1,r4,?_⟩
   rw[h2]
   intro H5 F5 e5
   cases b with
   |false=>
    exact⟨ds.length - (i+1),by omega,F5,τ1,pre,rest,r4.step e5,(rp.mono e3.grow).mono (s4.trans e5.grow),by omega,rfl,hlt,hc,hes⟩
   |true=>
    rw[if_pos rfl]at hc ⊢
    obtain⟨y',h3,hc⟩:=bind_ok (r:=fe τ1) hc
    obtain⟨ys',h4,hc⟩:=bind_ok (r:=compF g gt fe (ds.drop (i+1)) τ1) hc
    cases hc
    refine⟨_,fun e ρ h=>h,F5,τ1,r4.step e5,?_⟩
    rw[h3]
    intro v H6 F6 e6 r6
    have r6':=(r4.step e5).step e6
    refine⟨hD r6',ds.length - (i+1),by omega,F6,τ1,pre++[y'],ys',r6'.bump hp ?_,(((rp.mono e3.grow).mono (s4.trans e5.grow)).mono e6.grow).append (.cons r6 .nil),by simp;omega,rfl,hlt,h4,by rw[<-hes];simp⟩
    cases q:F6 p with
    |none=>rfl
    |some u=>
     rcases r6'.ext.new p (by rw[q];simp)with z|z
     ·exact absurd f1 z
     ·change upd H1 p (.lst ys) p=none at z;rw[upd_same]at z;cases z
 ·have ei:i=ds.length:=by omega
  subst ei
  rw[List.drop_length]at hc
  cases hc
  rw[List.append_nil]at hes
  subst hes
  refine .inl ⟨jo.stop H2 (r2.ext.grow.trans r2.sub),k H2 F2 ys ⟨r2.sub,(same_upd hp).trans r2.ext.keep,r2.ext.grow,fun a ha=> ?_⟩ (hD r2) hF2 rp⟩
  rcases r2.ext.new a ha with z|z
  ·exact .inl z
  ·refine .inr ?_
   change upd H1 p (.lst ys) a=none at z
   rw[upd_ne (fun q=>by subst q;rw[upd_same]at z;cases z)]at z
   exact z
section
variable {X:Cx} {elt tg iter:Expr} {ifs:List Expr} {scope:Scope} {pos:Pos} {fi:Rho->R (List D)} {g:D->Rho->R Rho} {gt:Rho->R Bool} {fe:Rho->R D}
noncomputable def fComp (N:List Str) (names:List (Str×NameKind)) (fi:Rho->R (List D)) (g:D->Rho->R Rho) (gt:Rho->R Bool) (fe:Rho->R D):Rho->R (List D):=fun ρ=>fi ρ>>=fun ds=>if ds.length<=lim then (match compF g gt fe ds (inRho N names ρ)with
 | .ok es=> .ok es
 |_=> .bad)else .bad
noncomputable def fL (f:Rho->R (List D)):Rho->R D:=fun ρ=>f ρ>>=fun ds=> .ok (.lst ds)
theorem pgx {X:Cx} (h:PGQ [] X tg g):PG X tg (tGx X.K g):=fun pins s σ H v u Q I r ⟨c,hn,q⟩=>h ⟨c, .no hn⟩ pins s σ H v u Q I r q
theorem ptx {X:Cx} (h:PIfQ [] X ifs gt):PIf X ifs (tTx X.K gt):=fun pins s σ H Q I ⟨c,hn,q⟩=>h ⟨c, .no hn⟩ pins s σ H Q I q
theorem pqx {X:Cx} (h:PQ [] X elt fe):PE X elt (tQx X.K fe):=fun pins s σ H Q I ⟨c,hn,q⟩=>h ⟨c, .no hn⟩ pins s σ H Q I q
theorem q_comp (S:InScope X scope) (hc:X.calm=true) (hi:PIQ ly X tg iter fi) (hg:∀s H ex,PGQ [] (cxIn X scope s H ex) tg g) (hif:∀s H ex,PIfQ [] (cxIn X scope s H ex) ifs gt) (hel:∀s H ex,PQ [] (cxIn X scope s H ex) elt fe)
  (hs:∀x,foldedSetIterable iter X.env x=pure x:=by intro _;rfl):PQ ly X (.ListComp elt [⟨tg,iter,ifs,0⟩] scope pos) (fL (fComp X.N scope.names fi g gt fe)):=fun c=>
 PE.weak (pe_comp S hc (hi c) (fun s H ex=>pgx (hg s H ex)) (fun s H ex=>ptx (hif s H ex)) (fun s H ex=>pqx (hel s H ex)) hs) fun σ H Q ⟨F,ρ,ri,w⟩=>by
  refine⟨F,ρ,ri,(Want.bind.mp (Want.bind.mp w)).imp fun ds _ w1 J H1 F1 e1 jo p hp=> ?_⟩
  split at w1
  ·rename_i hl
   split at w1
   ·rename_i es he
    refine comp_block ri e1 jo hp hl he fun H2 F2 vs e2 hp2 hf2 rv=> ?_
    have g2:Same F2 (upd F2 p (.lst vs)):=same_upd hf2
    refine w1 (.ref p) H2 (upd F2 p (.lst vs)) ⟨fun b u eb=> ?_,e1.keep.trans e2.keep,(e1.grow.trans e2.grow).trans g2,fun a ha=> ?_⟩ (.lst upd_same (rv.mono g2))
    ·by_cases z:b=p
     ·subst z;rw[upd_same]at eb;rw[hp2];exact eb
     ·rw[upd_ne z]at eb;exact e2.sub b u eb
    ·by_cases z:a=p
     ·subst z;exact .inr (e1.keep.free hp)
     ·rw[upd_ne z]at ha
      exact(e1.trans e2).new a ha
   ·exact w1.elim
  ·exact w1.elim
noncomputable def gOwn (i:Nat) (f:Rho->R (List D)):Rho->R Out:=fun ρ=>f ρ>>=fun ds=> .ok (.nx (ρ.set i (some (.own (.lst ds)))))
theorem s_comp (i:Nat) {y:Str} {py spos:Pos} (S:InScope X scope) (hc:X.calm=true) (hN:X.N.Nodup) (hi:PIQ ly X tg iter fi) (hg:∀s H ex,PGQ [] (cxIn X scope s H ex) tg g) (hif:∀s H ex,PIfQ [] (cxIn X scope s H ex) ifs gt) (hel:∀s H ex,PQ [] (cxIn X scope s H ex) elt fe)
  (hi':X.N[i]? =some y:=by rfl) (hx:Loc X.env.scope y:=by first|exact Or.inl rfl|exact Or.inr rfl) (hf:X.fn y=true\/X.env.scope.names.lookup y=some .local:=by first|exact .inl rfl|exact .inr rfl|assumption)
  (hsw:swapsWith (.ListComp elt [⟨tg,iter,ifs,0⟩] scope pos) (some (.Name y py)) spos.line X.env=pure true:=by rfl) (hs:∀x,foldedSetIterable iter X.env x=pure x:=by intro _;rfl) (hfr:Free ly i:=by(repeat (first|assumption|exact L2.Pu.free_nil|refine L2.Pu.free_cons ⟨by first|decide|simp,by first|decide|simp⟩ ?_))):
  PSQ ly X (.Assign [.Name y py] (.ListComp elt [⟨tg,iter,ifs,0⟩] scope pos) spos) (gOwn i (fComp X.N scope.names fi g gt fe)):=fun c=>
 PS.weak (ps_comp S hc (hi c) (fun s H ex=>pgx (hg s H ex)) (fun s H ex=>ptx (hif s H ex)) (fun s H ex=>pqx (hel s H ex)) (pg_name hN hi' hx hf) hsw hs) fun D σ H ⟨F,ρ,ri,w⟩=>by
  refine⟨F,ρ,ri,(Want.bind.mp (Want.bind.mp w)).imp fun ds _ w1 J H1 F1 e1 jo p hp=> ?_⟩
  split at w1
  ·rename_i hl
   split at w1
   ·rename_i es he
    refine comp_block ri e1 jo hp hl he fun H2 F2 vs e2 hp2 hf2 rv=> ?_
    refine w1 _ H2 F2 (e1.grow.trans e2.grow) ((ri.step (e1.trans e2)).setOwn i hfr hp2 hf2 (ri.ext.keep.free (e1.keep.free hp)) (.lst rv) fun j d' _ hj ej=> ?_)
    obtain⟨a,o,k1,k2,_⟩:=ri.own j d' hj
    rw[ej]at k1
    cases k1
    rw[e1.keep.free hp]at k2
    cases k2
   ·exact w1.elim
  ·exact w1.elim
end
noncomputable def keyOf:D->Option Key
 | .int i=>some (.inl i)
 | .str x=>some (.inr x)
 |_=>none
noncomputable def dGet (kds:List (Key×D)) (k:Key):Option D:=(kds.find? fun kv=>decide (kv.1=k)).map (·.2)
noncomputable def dPut (kds:List (Key×D)) (k:Key) (v:D):List (Key×D):=
 if (kds.any fun kv=>decide (kv.1=k))=true then kds.map (fun kv=>if kv.1=k then (kv.1,v)else kv)else kds++[(k,v)]
theorem keyOf_rep {K:PySem.W.Frag} {H F:Hp} {v:V} {d:D} {k:Key} (h:keyOf d=some k) (r:RepB K H F v d):v=kV k:=by
 cases d with
 |int i=>cases h;exact r.int
 |str x=>cases h;exact r.str
 |_=>cases h
section
variable {K:PySem.W.Frag} {F:Hp}
theorem RepK.any (k:Key):∀{vs:List (Key×V)} {ds:List (Key×D)},RepK K F vs ds->(vs.any fun kv=>decide (kv.1=k))=ds.any fun kv=>decide (kv.1=k):=by
 intro vs ds
 induction ds generalizing vs with
 |nil=>intro h;rw[h.nilI];rfl
 |cons d ds ih=>
  intro h
  obtain⟨v,us,rfl,_,t⟩:=RepK.consI (k:=d.1) (d:=d.2) h
  rw[List.any_cons,List.any_cons,ih t]
theorem RepK.get (k:Key):∀{vs:List (Key×V)} {ds:List (Key×D)},RepK K F vs ds->(valV vs k=none/\dGet ds k=none)\/∃v d,valV vs k=some v/\dGet ds k=some d/\Rep K F v d:=by
 intro vs ds
 induction ds generalizing vs with
 |nil=>intro h;rw[h.nilI];exact .inl ⟨rfl,rfl⟩
 |cons d ds ih=>
  intro h
  obtain⟨a,d⟩:=d
  obtain⟨v,vs,rfl,r,t⟩:=h.consI
  by_cases e:a=k
  ·exact .inr ⟨v,d,by simp[valV,e],by simp[dGet,e],r⟩
  ·have h1:valV ((a,v)::vs) k=valV vs k:=by simp[valV,e]
   have h2:dGet ((a,d)::ds) k=dGet ds k:=by simp[dGet,e]
   rw[h1,h2]
   exact ih t
theorem RepK.repl (k:Key) {v:V} {d:D} (h:Rep K F v d):∀{vs:List (Key×V)} {ds:List (Key×D)},RepK K F vs ds->RepK K F (vs.map fun kv=>if kv.1=k then (kv.1,v)else kv) (ds.map fun kv=>if kv.1=k then (kv.1,d)else kv):=by
 intro vs ds
 induction ds generalizing vs with
 |nil=>intro h;rw[h.nilI];exact .nil
 |cons x ds ih=>
  intro g
  obtain⟨a,x⟩:=x
  obtain⟨y,vs,rfl,r,t⟩:=g.consI
  rw[List.map_cons,List.map_cons]
  by_cases e:a=k
  ·simp only[e,if_true];exact .cons h (ih t)
  ·simp only[e,if_false];exact .cons r (ih t)
theorem RepK.append:∀{vs us:List (Key×V)} {ds es:List (Key×D)},RepK K F vs ds->RepK K F us es->RepK K F (vs++us) (ds++es):=by
 intro vs us ds
 induction ds generalizing vs with
 |nil=>intro es h g;rw[h.nilI];exact g
 |cons x ds ih=>
  intro es h g
  obtain⟨a,x⟩:=x
  obtain⟨y,vs,rfl,r,t⟩:=h.consI
  exact .cons r (ih t g)
theorem RepK.put (k:Key) {v:V} {d:D} (h:Rep K F v d) {vs:List (Key×V)} {ds:List (Key×D)} (r:RepK K F vs ds):RepK K F (putK vs k v) (dPut ds k d):=by
 unfold putK dPut
 rw[r.any k]
 split
 ·exact r.repl k h
 ·exact r.append (.cons h .nil)
end
theorem nd_put {kvs:List (Key×V)} {k:Key} (v:V) (hn:(kvs.map (·.1)).Nodup):((putK kvs k v).map (·.1)).Nodup:=by
 unfold putK
 split
 ·have e:(kvs.map fun kv=>if kv.1=k then (kv.1,v)else kv).map (·.1)=kvs.map (·.1):=by
   rw[List.map_map]
   refine List.map_congr_left fun kv _=> ?_
   show (if kv.1=k then (kv.1,v)else kv).1=kv.1
   split<;>rfl
  rw[e];exact hn
 ·rename_i h
  rw[List.map_append]
  refine List.nodup_append.mpr ⟨hn,by simp,fun a ha b hb=> ?_⟩
  have eb:b=k:=by simpa using hb
  subst eb
  intro z
  subst z
  obtain⟨kv,h1,h2⟩:=List.mem_map.mp ha
  exact h (List.any_eq_true.mpr ⟨kv,h1,by simp[h2]⟩)
section
variable {X:Cx} {a b e:Expr} {es:List Expr} {fa fb f fk fv:Rho->R D} {fs:Rho->R (List D)} {pos:Pos}
noncomputable def gApp (i:Nat) (f:Rho->R D):Rho->R Out:=fun ρ=>match ρ[i]? with
 |some (some (.own (.lst ds)))=>f ρ>>=fun d=>if ds.length<lim then .ok (.nx (ρ.set i (some (.own (.lst (ds++[d]))))))else .bad
 |_=> .bad
theorem RI.ownL {K:PySem.W.Frag} {c:Ctx ly} {ρ:Rho} {σ:St} {H F:Hp} (ri:RI K c ρ σ H F) {i:Nat} {ds:List D} (h:ρ[i]? =some (some (.own (.lst ds)))):∃a vs,σ[i]? =some (some (.ref a))/\H a=some (.lst vs)/\Reps K F vs ds:=by
 obtain⟨a,o,h1,h2,_,_,h5⟩:=ri.own i _ h
 cases h5 with
 |lst r=>exact⟨a,_,h1,h2,r⟩
theorem RI.ownD {K:PySem.W.Frag} {c:Ctx ly} {ρ:Rho} {σ:St} {H F:Hp} (ri:RI K c ρ σ H F) {i:Nat} {ds:List (Key×D)} (h:ρ[i]? =some (some (.own (.dic ds)))):∃a vs,σ[i]? =some (some (.ref a))/\H a=some (.dK vs)/\RepK K F vs ds/\(vs.map (·.1)).Nodup:=by
 obtain⟨a,o,h1,h2,_,_,h5⟩:=ri.own i _ h
 cases h5 with
 |dic r n=>exact⟨a,_,h1,h2,r,n⟩
theorem s_append (i:Nat) {x:Str} {px apos cpos:Pos} (h:PQ ly X e f) (hN:X.N[i]? =some x:=by rfl) (hv:Vis X.env.scope x:=by first|exact Or.inl rfl|exact Or.inr (Or.inl rfl)|exact Or.inr (Or.inr rfl)) (hd:(x==("__debug__":Str))=false:=by decide)
  (hcd:(x==("__classdict__":Str))=false:=by decide) (hbase:attributeBase (.Name x px) "append" X.env (eval (.Name x px) X.env)=eval (.Name x px) X.env:=by rfl)
  (hfew:((backTo cpos (starEach [e] X.env)).all (fun x=> !x.1)&&(backToKw cpos (keywordEach [] X.env)).all (fun x=>x.1.isSome)
   &&decide (([e]:List Expr).length+([]:List Keyword).length+(if ([]:List Keyword).isEmpty then 0 else 1)<30))=true:=by rfl)
  (hline:(apos.endLine==cpos.line)=true:=by rfl) (hs:starEach [e] X.env=(false,eval e X.env)::starEach [] X.env:=by rfl) (hplain:(backTo cpos (starEach [] X.env)).any (·.1)=false:=by rfl)
  (hsw:swapsWith (.Call (.Attribute (.Name x px) "append" apos) [e] [] cpos) none pos.line X.env=pure false:=by rfl):PSQ ly X (.Expr (.Call (.Attribute (.Name x px) "append" apos) [e] [] cpos) pos) (gApp i f):=fun c=>
 PS.weak (ps_expr (pe_bm PySem.F.plainAttrs_list PySem.F.slot_list_append PySem.F.type_list_append mt_append (pv i hN hv hd hcd) (pa_cons (h c) pa_nil hs) hbase hfew hline hs hplain) hsw) fun D σ H ⟨F,ρ,ri,w⟩=>by
  unfold gApp at w
  split at w
  ·rename_i ds hi
   obtain⟨a,vs,h1,h2,h3⟩:=ri.ownL hi
   refine⟨_,h1, .inl ⟨rfl,vs,SqL.of h2⟩,F,ρ,ri,(Want.bind.mp w).imp fun d _ w1 v H1 F1 e1 r1=> ?_⟩
   split at w1
   ·rename_i hl
    refine⟨a,vs,v,rfl,rfl,e1.keep _ _ h2,Nat.lt_of_lt_of_le (by rw[h3.length];exact hl) lim_le,?_⟩
    exact w1 σ _ F1 e1.grow ((ri.step e1).change (o:= .lst vs) hi h1 (.lst ((h3.mono e1.grow).append (.cons r1 .nil))))
   ·exact w1.elim
  ·exact w.elim
noncomputable def gPut (i:Nat) (fk fv:Rho->R D):Rho->R Out:=fun ρ=>match ρ[i]? with
 |some (some (.own (.dic kds)))=>fv ρ>>=fun v=>fk ρ>>=fun k=>match keyOf k with
  |some key=>if kds.length<lim then .ok (.nx (ρ.set i (some (.own (.dic (dPut kds key v))))))else .bad
  |none=> .bad
 |some (some (.own (.lst ds)))=>fv ρ>>=fun v=>fk ρ>>=fun k=>match k with
  | .int j=>(match ixN ds.length j with
   |some n=> .ok (.nx (ρ.set i (some (.own (.lst (ds.set n v))))))
   |none=> .bad)
  |_=> .bad
 |_=> .bad
theorem s_put (i:Nat) {x:Str} {px pos':Pos} (hu:X.A.units+1<cLine) (hk:PQ ly X a fk) (h:PQ ly X e fv) (hN:X.N[i]? =some x:=by rfl) (hv:Vis X.env.scope x:=by first|exact Or.inl rfl|exact Or.inr (Or.inl rfl)|exact Or.inr (Or.inr rfl)) (hd:(x==("__debug__":Str))=false:=by decide)
  (hcd:(x==("__classdict__":Str))=false:=by decide) (hs:swapsWith e (some (.Subscript (.Name x px) a pos')) pos.line X.env=pure false:=by rfl)
  (ha:∀v,assign (.Subscript (.Name x px) a pos') X.env v=(do
   let ov<-holding [v] (eval (.Name x px) X.env)
   let iv<-holding [v,ov] (eval a X.env)
   standAt pos'
   holding [v,ov,iv] (setItem ov iv v)
   release [v,ov,iv] []):=by intro _;rfl)
  (hs2:swapsWithSole [.Subscript (.Name x px) a pos'] e pos.line X.env=pure false:=by rfl) (hw:swappedStores [.Subscript (.Name x px) a pos'] e X.env=pure none:=by rfl)
  (h1:(assignEach [.Subscript (.Name x px) a pos'] X.env).map (·.2)=[assign (.Subscript (.Name x px) a pos') X.env]:=by rfl):PSQ ly X (.Assign [.Subscript (.Name x px) a pos'] e pos) (gPut i fk fv):=by
 intro c pins s σ H D I q
 obtain⟨F,ρ,ri,w⟩:=q
 unfold gPut at w
 split at w
 ·rename_i kds hi
  obtain⟨p,vs,g1,g2,g3,g4⟩:=ri.ownD hi
  refine ps_dput hu (pv i hN hv hd hcd) (hk c) (h c) hs pins s σ H D I ⟨F,ρ,ri,(Want.bind.mp w).imp fun d _ w1 v H1 F1 e1 r1=> ?_⟩
  refine⟨_,g1,F1,ρ,ri.step e1,(Want.bind.mp w1).imp fun k _ w2 u H2 F2 e2 r2=> ?_⟩
  cases hk':keyOf k with
  |none=>rw[hk']at w2;exact w2.elim
  |some key=>
   rw[hk']at w2
   cases keyOf_rep (H:=H2) hk' (.inl r2)
   dsimp only at w2
   split at w2
   ·rename_i hl
    have e12:=e1.trans e2
    refine⟨p,_,rfl,DPut.k (k:=key) (e12.keep _ _ g2) (Nat.lt_of_lt_of_le (by rw[g3.length];exact hl) lim_le),?_⟩
    exact w2 σ _ F2 e12.grow ((ri.step e12).change (o:= .dK vs) hi g1 (.dic ((g3.mono e12.grow).put key (r1.mono e2.grow)) (nd_put _ g4)))
   ·exact w2.elim
 ·rename_i ds hi
  obtain⟨p,vs,g1,g2,g3⟩:=ri.ownL hi
  refine ps_asg (h c) (pg_sub (pv i hN hv hd hcd) (hk c) set_list ha) hs2 hw h1 pins s σ H D I ⟨F,ρ,ri,(Want.bind.mp w).imp fun d _ w1 v H1 F1 e1 r1=> ?_⟩
  refine⟨_,g1,F1,ρ,ri.step e1,(Want.bind.mp w1).imp fun k _ w2 u H2 F2 e2 r2=> ?_⟩
  cases k with
  |int j=>
   cases r2
   dsimp only at w2
   split at w2
   ·rename_i n hn
    have e12:=e1.trans e2
    refine⟨p,vs,j,n,rfl,rfl,e12.keep _ _ g2,by rw[g3.length];exact hn,?_⟩
    exact w2 σ _ F2 e12.grow ((ri.step e12).change (o:= .lst vs) hi g1 (.lst ((g3.mono e12.grow).set n (r1.mono e2.grow))))
   ·exact w2.elim
  |_=>exact w2.elim
 ·exact w.elim
noncomputable def gPop (j i:Nat) (fk:Rho->R D):Rho->R Out:=fun ρ=>match ρ[i]? with
 |some (some (.own (.lst ds)))=>fk ρ>>=fun k=>match k with
  | .int n=>if n.natAbs<=lim then (match seqIndex? n ds.length with
   |some m=>(match ds[m]? with
    |some d=> .ok (.nx ((ρ.set i (some (.own (.lst (ds.eraseIdx m))))).set j (some (.val d))))
    |none=> .bad)
   |none=> .bad)else .bad
  |_=> .bad
 |_=> .bad
theorem s_pop (j i:Nat) {x y:Str} {px apos cpos pos':Pos} (hNd:X.N.Nodup) (h:PQ ly X e f) (hN:X.N[i]? =some x:=by rfl) (hv:Vis X.env.scope x:=by first|exact Or.inl rfl|exact Or.inr (Or.inl rfl)|exact Or.inr (Or.inr rfl)) (hd:(x==("__debug__":Str))=false:=by decide)
  (hcd:(x==("__classdict__":Str))=false:=by decide) (hbase:attributeBase (.Name x px) "pop" X.env (eval (.Name x px) X.env)=eval (.Name x px) X.env:=by rfl)
  (hfew:((backTo cpos (starEach [e] X.env)).all (fun x=> !x.1)&&(backToKw cpos (keywordEach [] X.env)).all (fun x=>x.1.isSome)
   &&decide (([e]:List Expr).length+([]:List Keyword).length+(if ([]:List Keyword).isEmpty then 0 else 1)<30))=true:=by rfl)
  (hline:(apos.endLine==cpos.line)=true:=by rfl) (hs:starEach [e] X.env=(false,eval e X.env)::starEach [] X.env:=by rfl) (hplain:(backTo cpos (starEach [] X.env)).any (·.1)=false:=by rfl)
  (hNj:X.N[j]? =some y:=by rfl) (hx:Loc X.env.scope y:=by first|exact Or.inl rfl|exact Or.inr rfl) (hsw:swapsWith (.Call (.Attribute (.Name x px) "pop" apos) [e] [] cpos) (some (.Name y pos')) pos.line X.env=pure false:=by rfl)
  (hf:X.fn y=true\/X.env.scope.names.lookup y=some .local:=by first|exact .inl rfl|exact .inr rfl|assumption) (hfr:Free ly j:=by(repeat (first|assumption|exact L2.Pu.free_nil|refine L2.Pu.free_cons ⟨by first|decide|simp,by first|decide|simp⟩ ?_))):PSQ ly X (.Assign [.Name y pos'] (.Call (.Attribute (.Name x px) "pop" apos) [e] [] cpos) pos) (gPop j i f):=fun c=>
 PS.weak (ps_set hNd hNj hx (pe_bm PySem.F.plainAttrs_list PySem.F.slot_list_pop PySem.F.type_list_pop mt_popAt (pv i hN hv hd hcd) (pa_cons (h c) pa_nil hs) hbase hfew hline hs hplain) hsw hf) fun D σ H ⟨F,ρ,ri,w⟩=>by
  unfold gPop at w
  split at w
  ·rename_i ds hi
   obtain⟨a,vs,h1,h2,h3⟩:=ri.ownL hi
   refine⟨_,h1, .inl ⟨rfl,vs,SqL.of h2⟩,F,ρ,ri,(Want.bind.mp w).imp fun k _ w1 v H1 F1 e1 r1=> ?_⟩
   cases k with
   |int n=>
    cases r1
    dsimp only at w1
    split at w1
    ·rename_i hn
     split at w1
     ·rename_i m hm
      split at w1
      ·rename_i d hd'
       obtain⟨v,hv',rv⟩:=h3.get hd'
       refine⟨a,vs,n,m,v,rfl,rfl,e1.keep _ _ h2,by have:=lim_int hn;omega,by have:=lim_int hn;omega,by rw[h3.length];exact hm,hv',?_⟩
       exact w1 _ _ F1 e1.grow (((ri.step e1).change (o:= .lst vs) hi h1 (.lst ((h3.mono e1.grow).eraseIdx m))).setVal j hfr (rv.mono e1.grow))
      ·exact w1.elim
     ·exact w1.elim
    ·exact w1.elim
   |_=>exact w1.elim
  ·exact w.elim
end
end L2.Pu
namespace L2.Pu
open PySem PySem.Spec PyProof.Rows
variable {ly:List Lay}
section
variable {K:PySem.W.Frag}
noncomputable def BMul (i j:Int):Prop:=i.natAbs<18446744073709551616\/j.natAbs<18446744073709551616
noncomputable def BDiv (_ j:Int):Prop:=0<j/\j.natAbs<1073741824
noncomputable def BPow (i j:Int):Prop:=0<=j/\j.natAbs<=1000000/\i.natAbs<18446744073709551616
noncomputable instance (i j:Int):Decidable (BMul i j):=by unfold BMul;infer_instance
noncomputable instance (i j:Int):Decidable (BDiv i j):=by unfold BDiv;infer_instance
noncomputable instance (i j:Int):Decidable (BPow i j):=by unfold BPow;infer_instance
theorem BMul.c {i j:Int} (h:BMul i j):CMul i j:=by
 unfold BMul at h
 unfold CMul
 omega
theorem BDiv.c {i j:Int} (h:BDiv i j):CDiv i j:=by
 unfold BDiv at h
 unfold CDiv
 omega
theorem BPow.c {i j:Int} (h:BPow i j):CPow i j:=by
 unfold BPow at h
 unfold CPow
 omega
noncomputable def dAdd:D->D->Option D
 | .int i, .int j=>some (.int (i+j))
 | .lst a, .lst b=>if a.length+b.length<=lim then some (.lst (a++b))else none
 | .tup a, .tup b=>if a.length+b.length<=lim then some (.tup (a++b))else none
 |_,_=>none
noncomputable def rAddQ (K:PySem.W.Frag):R2:=fun x y H Q=>(rI0 (fun i j=> .int (i+j)) x y H Q\/rCat x y H Q)\/(rCatT K x y H Q\/rCat0 K x y H Q)
theorem op_addQ {X:Cx}:OpR X (binaryOp .Add) (rAddQ X.K):=(op_add.or op_cat).or (op_catT.or op_cat0)
theorem sem_add:Sem2 K (rAddQ K) dAdd:=by
 intro v u x y d H F Q s rx ry h k
 unfold dAdd at h
 split at h
 ·cases rx.int;cases ry.int;cases h;exact .inl (.inl ⟨_,_,rfl,rfl,k _ H F (Ext.refl s) (.int _)⟩)
 ·rename_i a b
  split at h
  ·rename_i hl
   cases h
   obtain⟨p,vs,rfl,h1,h2⟩:=rx.lst s
   obtain⟨q,us,rfl,h3,h4⟩:=ry.lst s
   refine .inl (.inr ⟨p,q,vs,us,rfl,rfl,h1,h3,Nat.le_trans (by rw[h2.length,h4.length];exact hl) lim_le,fun l hl'=> ?_⟩)
   have e:=Ext.lay (o:= .lst (vs++us)) s hl'
   exact k _ _ _ e (.lst upd_same ((h2.append h4).mono e.grow))
  ·cases h
 ·rename_i a b
  split at h
  ·rename_i hl
   cases h
   obtain⟨p,vs,rfl,h1,h2⟩:=rx.tup s
   obtain⟨q,us,rfl,h3,h4⟩:=ry.tup s
   cases a with
   |nil=>
    cases h2
    refine .inr (.inr ⟨p,q,us,rfl,rfl,SqT.of h1,SqT.of h3,?_⟩)
    match ry with
    | .inl ry=>exact k _ H F (Ext.refl s) ry
   |cons a0 a1=>
    refine .inr (.inl ⟨p,q,vs,us,rfl,rfl,SqT.of h1,SqT.of h3,(fun z=>by subst z;cases h2),Nat.le_trans (by rw[h2.length,h4.length];exact hl) lim_le,fun z=> ?_,fun _ l hl'=> ?_⟩)
    ·subst z
     cases h4
     rw[List.append_nil]at k
     match rx with
     | .inl rx=>exact k _ H F (Ext.refl s) rx
    ·have e:=Ext.lay (o:= .tup (vs++us)) s hl'
     exact k _ _ _ e (.tup upd_same ((h2.append h4).mono e.grow))
  ·cases h
 ·cases h
noncomputable def dI2 (g:Int->Int->D):D->D->Option D
 | .int i, .int j=>some (g i j)
 |_,_=>none
noncomputable def dI2c (C:Int->Int->Prop) [∀i j,Decidable (C i j)] (g:Int->Int->D):D->D->Option D
 | .int i, .int j=>if C i j then some (g i j)else none
 |_,_=>none
theorem sem_i0 {gv:Int->Int->V} {g:Int->Int->D} (hg:∀F i j,Rep K F (gv i j) (g i j)):Sem2 K (rI0 gv) (dI2 g):=by
 intro v u x y d H F Q s rx ry h k
 cases x with
 |int i=>
  cases y with
  |int j=>cases rx.int;cases ry.int;cases h;exact⟨i,j,rfl,rfl,k _ H F (Ext.refl s) (hg F i j)⟩
  |_=>cases h
 |_=>cases h
theorem sem_ic {C C':Int->Int->Prop} [∀i j,Decidable (C i j)] {gv:Int->Int->V} {g:Int->Int->D} (hC:∀i j,C i j->C' i j) (hg:∀F i j,Rep K F (gv i j) (g i j)):Sem2 K (rI C' gv) (dI2c C g):=by
 intro v u x y d H F Q s rx ry h k
 cases x with
 |int i=>
  cases y with
  |int j=>
   cases rx.int;cases ry.int
   replace h:(if C i j then some (g i j)else none)=some d:=h
   split at h
   ·cases h;exact⟨i,j,rfl,rfl,hC i j (by assumption),k _ H F (Ext.refl s) (hg F i j)⟩
   ·cases h
  |_=>cases h
 |_=>cases h
noncomputable def dSub:=dI2 fun i j=> .int (i - j)
noncomputable def dFdiv:=dI2c BDiv fun i j=> .int (i / j)
noncomputable def dMod:=dI2c (fun _ j=>0<j) fun i j=> .int (i%j)
noncomputable def dLt:=dI2 fun i j=> .bl (decide (i<j))
noncomputable def dLe:=dI2 fun i j=> .bl (decide (i<=j))
noncomputable def dGt:=dI2 fun i j=> .bl (decide (j<i))
noncomputable def dGe:=dI2 fun i j=> .bl (decide (j<=i))
theorem sem_sub:Sem2 K (rI0 fun i j=> .int (i - j)) dSub:=sem_i0 fun F i j=> .int _
theorem sem_fdiv:Sem2 K (rI CDiv fun i j=> .int (i / j)) dFdiv:=sem_ic (fun _ _ h=>h.c) fun F i j=> .int _
theorem sem_mod:Sem2 K (rI (fun _ j=>0<j) fun i j=> .int (i%j)) dMod:=sem_ic (fun _ _ h=>h) fun F i j=> .int _
theorem sem_lt:Sem2 K (rI0 fun i j=> .bl (decide (i<j))) dLt:=sem_i0 fun F i j=> .bl _
theorem sem_gt:Sem2 K (rI0 fun i j=> .bl (decide (j<i))) dGt:=sem_i0 fun F i j=> .bl _
noncomputable def dMul:D->D->Option D
 | .int i, .int j=>if BMul i j then some (.int (i*j))else none
 | .lst a, .int k=>if k.natAbs<=lim/\a.length*k.toNat<=lim then some (.lst (List.replicate k.toNat a).flatten)else none
 |_,_=>none
noncomputable def rMulQ:R2:=fun x y H Q=>rI CMul (fun i j=> .int (i*j)) x y H Q\/rRep x y H Q
theorem op_mulQ {X:Cx}:OpR X (binaryOp .Mult) rMulQ:=op_mul.or op_rep
theorem Reps.rep {F:Hp} {vs:List V} {ds:List D} (h:Reps K F vs ds):∀k:Nat,Reps K F (List.replicate k vs).flatten (List.replicate k ds).flatten
 |0=> .nil
 |k+1=>by
  rw[List.replicate_succ,List.replicate_succ,List.flatten_cons,List.flatten_cons]
  exact h.append (h.rep k)
theorem sem_mul:Sem2 K rMulQ dMul:=by
 intro v u x y d H F Q s rx ry h k
 unfold dMul at h
 split at h
 ·rename_i i j
  cases rx.int;cases ry.int
  replace h:(if BMul i j then some (D.int (i*j))else none)=some d:=h
  split at h
  ·rename_i hb;cases h;exact .inl ⟨i,j,rfl,rfl,BMul.c hb,k _ H F (Ext.refl s) (.int _)⟩
  ·cases h
 ·rename_i a j
  split at h
  ·rename_i hl
   cases h
   cases ry.int
   obtain⟨p,vs,rfl,h1,h2⟩:=rx.lst s
   refine .inr ⟨p,j,vs,rfl,rfl,h1,by have:=lim_int hl.1;omega,by have:=lim_int hl.1;omega,Nat.le_trans (by rw[h2.length];exact hl.2) lim_le,fun l hl'=> ?_⟩
   have e:=Ext.lay (o:= .lst (List.replicate j.toNat vs).flatten) s hl'
   exact k _ _ _ e (.lst upd_same ((h2.rep _).mono e.grow))
  ·cases h
 ·cases h
noncomputable def dNeg:D->Option D
 | .int i=>some (.int (-i))
 |_=>none
theorem sem_neg:Sem1 K (rU fun i=> .int (-i)) dNeg:=by
 intro v x d H F Q s rx h k
 cases x with
 |int i=>cases rx.int;cases h;exact⟨i,rfl,k _ H F (Ext.refl s) (.int _)⟩
 |_=>cases h
noncomputable def dEqB:D->D->Option Bool
 | .non, .non=>some true
 | .non, .int _=>some false
 | .int _, .non=>some false
 | .non, .bl _=>some false
 | .bl _, .non=>some false
 | .non, .str _=>some false
 | .str _, .non=>some false
 | .int i, .int j=>some (decide (i=j))
 | .bl i, .bl j=>some (decide (i=j))
 | .str i, .str j=>some (decide (i=j))
 | .int _, .str _=>some false
 | .str _, .int _=>some false
 | .bl _, .str _=>some false
 | .str _, .bl _=>some false
 |_,_=>none
noncomputable def dEq (x y:D):Option D:=(dEqB x y).map .bl
noncomputable def dNe (x y:D):Option D:=(dEqB x y).map fun b=> .bl (!b)
theorem eqB_sound {H F:Hp} {v u:V} {x y:D} {b:Bool} (rx:RepB K H F v x) (ry:RepB K H F u y) (h:dEqB x y=some b):scal v u=true/\decide (v=u)=b:=by
 cases x<;>cases y<;>first
  |(exfalso;revert h;simp[dEqB];done)
  |(first|cases rx.int|cases rx.bl|cases rx.str|cases rx.non)<;>(first|cases ry.int|cases ry.bl|cases ry.str|cases ry.non)<;>(refine⟨rfl,?_⟩;simp[dEqB]at h ⊢;try exact h)
theorem sem_eq:Sem2 K rEq dEq:=by
 intro v u x y d H F Q s rx ry h k
 unfold dEq at h
 cases e:dEqB x y with
 |none=>rw[e]at h;cases h
 |some b=>
  rw[e]at h
  cases h
  obtain⟨h1,h2⟩:=eqB_sound rx ry e
  exact⟨h1,by rw[h2];exact k _ H F (Ext.refl s) (.bl b)⟩
theorem sem_ne:Sem2 K rNe dNe:=by
 intro v u x y d H F Q s rx ry h k
 unfold dNe at h
 cases e:dEqB x y with
 |none=>rw[e]at h;cases h
 |some b=>
  rw[e]at h
  cases h
  obtain⟨h1,h2⟩:=eqB_sound rx ry e
  exact⟨h1,by rw[h2];exact k _ H F (Ext.refl s) (.bl _)⟩
noncomputable def dIsN:D->D->Option D
 | .non, .non=>some (.bl true)
 | .scr _, .non=>none
 |_, .non=>some (.bl false)
 |_,_=>none
noncomputable def isNon:D->Bool
 | .non=>true
 |_=>false
theorem isN_sound {H F:Hp} {v:V} {x:D} (s:Same F H) (rx:RepB K H F v x):decide (v= .non)=isNon x:=by
 cases x with
 |non=>cases rx.non;rfl
 |bl b=>cases rx.bl;rfl
 |int i=>cases rx.int;rfl
 |str z=>cases rx.str;rfl
 |tup ds=>obtain⟨a,vs,rfl,_⟩:=rx.tup s;rfl
 |lst ds=>obtain⟨a,vs,rfl,_⟩:=rx.lst s;rfl
 |dic ds=>obtain⟨a,vs,rfl,_⟩:=rx.dic s;rfl
 |scr ns=>obtain⟨a,rfl,_⟩:=rx.scr s;rfl
 |ins C fs=>
  rcases rx with rx|⟨a,o,rfl,_,q⟩
  ·cases rx;rfl
  ·cases q
 |exc C=>
  rcases rx with rx|⟨a,o,rfl,_,q⟩
  ·cases rx;rfl
  ·cases q
theorem isN_of {x y d:D} (h:dIsN x y=some d):y= .non/\d= .bl (isNon x):=by
 unfold dIsN at h
 split at h
 ·cases h;exact⟨rfl,rfl⟩
 ·cases h
 ·rename_i n1 _
  cases h
  refine⟨rfl,?_⟩
  unfold isNon
  split
  ·exact absurd rfl n1
  ·rfl
 ·cases h
theorem sem_isN:Sem2 K (fun x y H Q=>y= .non/\Q (.bl (decide (x= .non))) H) dIsN:=by
 intro v u x y d H F Q s rx ry h k
 obtain⟨rfl,rfl⟩:=isN_of h
 cases ry.non
 refine⟨rfl,?_⟩
 rw[isN_sound s rx]
 exact k _ H F (Ext.refl s) (.bl _)
noncomputable def flatD:D->Bool
 | .non=>true
 | .bl _=>true
 | .int _=>true
 | .str _=>true
 |_=>false
noncomputable def eqD:D->D->Bool
 | .non, .non=>true
 | .bl a, .bl b=>a==b
 | .bl a, .int b=>(if a then 1 else 0)==b
 | .int a, .bl b=>a==(if b then 1 else 0)
 | .int a, .int b=>a==b
 | .str a, .str b=>a==b
 |_,_=>false
theorem flat_rep {F:Hp} {v:V} {d:D} (r:Rep K F v d) (h:flatD d=true):flatV v=true:=by
 cases r<;>first|rfl|cases h
theorem eq_rep {F:Hp} {v u:V} {x y:D} (r:Rep K F v x) (q:Rep K F u y) (hx:flatD x=true) (hy:flatD y=true):eqV v u=eqD x y:=by
 cases r<;>first|(cases hx;done)|(cases q<;>first|rfl|(cases hy;done))
theorem Reps.flat {F:Hp}:∀{vs:List V} {ds:List D},Reps K F vs ds->ds.all flatD=true->vs.all flatV=true:=by
 intro vs ds
 induction ds generalizing vs with
 |nil=>intro h _;rw[h.nilI];rfl
 |cons d ds ih=>
  intro g h
  obtain⟨v,us,rfl,r,t⟩:=g.consI
  rw[List.all_cons,Bool.and_eq_true]at h
  rw[List.all_cons,flat_rep r h.1,ih t h.2];rfl
theorem Reps.inV {F:Hp} {v:V} {x:D} (rx:Rep K F v x) (hx:flatD x=true) {vs:List V} {ds:List D} (g:Reps K F vs ds):ds.all flatD=true->L2.inV v vs=ds.any fun y=>eqD y x:=by
 induction ds generalizing vs with
 |nil=>intro _;rw[g.nilI];rfl
 |cons d ds ih=>
  intro h
  obtain⟨w,us,e0,r,t⟩:=g.consI
  rw[List.all_cons,Bool.and_eq_true]at h
  have:=ih t h.2
  rw[e0]
  unfold L2.inV at this ⊢
  rw[List.any_cons,List.any_cons,eq_rep r rx h.1 hx,this]
noncomputable def inS (neg:Bool) (x:D) (ds:List D):Option D:=if flatD x=true/\ds.all flatD=true then some (.bl (if neg then !(ds.any fun y=>eqD y x)else ds.any fun y=>eqD y x))else none
noncomputable def dInSeq (neg:Bool):D->D->Option D
 |x, .lst ds=>inS neg x ds
 |x, .tup ds=>inS neg x ds
 |_,_=>none
theorem in_sound {H F:Hp} {neg:Bool} {v:V} {x d:D} {ds:List D} (rx:RepB K H F v x) (h:inS neg x ds=some d) {vs:List V} (rv:Reps K F vs ds):
  flatV v=true/\vs.all flatV=true/\d= .bl (if neg then !L2.inV v vs else L2.inV v vs):=by
 unfold inS at h
 split at h
 ·rename_i hf
  cases h
  have rx':Rep K F v x:=by
   rcases rx with rx|⟨a,o,rfl,_,q⟩
   ·exact rx
   ·cases q<;>cases hf.1
  exact⟨flat_rep rx' hf.1,rv.flat hf.2,by rw[rv.inV rx' hf.1 hf.2]⟩
 ·cases h
theorem sem_inSeq {neg:Bool}:Sem2 K (rIn K neg) (dInSeq neg):=by
 intro v u x y d H F Q s rx ry h k
 cases y with
 |lst ds=>
  obtain⟨a,vs,rfl,h1,h2⟩:=ry.lst s
  obtain⟨g1,g2,rfl⟩:=in_sound rx h h2
  exact⟨a,vs,rfl, .inl (SqL.of h1),g1,g2,k _ H F (Ext.refl s) (.bl _)⟩
 |tup ds=>
  obtain⟨a,vs,rfl,h1,h2⟩:=ry.tup s
  obtain⟨g1,g2,rfl⟩:=in_sound rx h h2
  exact⟨a,vs,rfl, .inr (SqT.of h1),g1,g2,k _ H F (Ext.refl s) (.bl _)⟩
 |_=>cases h
noncomputable def dInDic (neg:Bool):D->D->Option D
 |x, .dic kds=>(keyOf x).map fun k=> .bl (if neg then !(dGet kds k).isSome else (dGet kds k).isSome)
 |_,_=>none
noncomputable def dInA (neg:Bool) (x y:D):Option D:=match y with
 | .dic _=>dInDic neg x y
 |_=>dInSeq neg x y
theorem RepK.look {F:Hp} {vs:List (Key×V)} {ds:List (Key×D)} (r:RepK K F vs ds) (k:Key):(valV vs k).isSome=(dGet ds k).isSome:=by
 rcases r.get k with ⟨h1,h2⟩|⟨v,d,h1,h2,_⟩<;>rw[h1,h2]<;>rfl
end
section
variable {X:Cx} {a b e:Expr} {es:List Expr} {fa fb f fk fv:Rho->R D} {fs:Rho->R (List D)} {pos:Pos}
theorem q_alt {g h:Rho->R D} (hg:PQ ly X e g) (hh:PQ ly X e h) (sel:∀ρ,f ρ=g ρ\/f ρ=h ρ):PQ ly X e f:=fun c pins s σ H Q I ⟨F,ρ,ri,w⟩=>
 (sel ρ).elim (fun z=>hg c pins s σ H Q I ⟨F,ρ,ri,z▸w⟩) fun z=>hh c pins s σ H Q I ⟨F,ρ,ri,z▸w⟩
theorem t_alt {g h f:Rho->R Bool} (hg:PTQ ly X e g) (hh:PTQ ly X e h) (sel:∀ρ,f ρ=g ρ\/f ρ=h ρ):PTQ ly X e f:=fun c pins s σ H Q I ⟨F,ρ,ri,w⟩=>
 (sel ρ).elim (fun z=>hg c pins s σ H Q I ⟨F,ρ,ri,z▸w⟩) fun z=>hh c pins s σ H Q I ⟨F,ρ,ri,z▸w⟩
theorem in_sel {neg:Bool} (ρ:Rho):f2 (dInA neg) fa fb ρ=f2 (dInSeq neg) fa fb ρ\/f2 (dInA neg) fa fb ρ=f2 (dInDic neg) fa fb ρ:=by
 unfold f2
 cases fa ρ with
 |ok x=>
  cases fb ρ with
  |ok y=>cases y<;>first|exact .inl rfl|exact .inr rfl
  |_=>exact .inl rfl
 |_=>exact .inl rfl
theorem din_read {K:PySem.W.Frag} {c:Ctx ly} {σ:St} {H:Hp} {Q:VK} (h:tQ K c (f2 (dInDic false) fa fb) σ H Q):tDIn (tB' K c fa) (tB' K c fb) σ H Q:=two h fun F H2 F2 v u x y e rx ry w=>by
 obtain⟨d,hd,k⟩:=w.of
 cases y with
 |dic kds=>
  obtain⟨p,vs,rfl,h1,h2,h3⟩:=ry.dic e.sub
  replace hd:(keyOf x).map (fun k=>D.bl (if false then !(dGet kds k).isSome else (dGet kds k).isSome))=some d:=hd
  cases hk:keyOf x with
  |none=>rw[hk]at hd;cases hd
  |some key=>
   rw[hk]at hd
   cases hd
   cases keyOf_rep hk rx
   exact⟨p,_,rfl,DGet.k (k:=key) h1,k _ H2 F2 e (by rw[h2.look];exact .bl _)⟩
 |_=>cases hd
theorem dnotin_read {K:PySem.W.Frag} {c:Ctx ly} {σ:St} {H:Hp} {Q:VK} (h:tQ K c (f2 (dInDic true) fa fb) σ H Q):tDNotIn (tB' K c fa) (tB' K c fb) σ H Q:=two h fun F H2 F2 v u x y e rx ry w=>by
 obtain⟨d,hd,k⟩:=w.of
 cases y with
 |dic kds=>
  obtain⟨p,vs,rfl,h1,h2,h3⟩:=ry.dic e.sub
  replace hd:(keyOf x).map (fun k=>D.bl (if true then !(dGet kds k).isSome else (dGet kds k).isSome))=some d:=hd
  cases hk:keyOf x with
  |none=>rw[hk]at hd;cases hd
  |some key=>
   rw[hk]at hd
   cases hd
   cases keyOf_rep hk rx
   exact⟨p,_,rfl,DGet.k (k:=key) h1,k _ H2 F2 e (by rw[h2.look];exact .bl _)⟩
 |_=>cases hd
theorem q_in (hu:X.A.units+1<cLine) (ha:PB ly X a fa) (hb:PB ly X b fb) (hm:behindInMarks .In b=false:=by with_unfolding_all rfl):PQ ly X (.Compare a [.In] [b] pos) (f2 (dInA false) fa fb):=
 q_alt (q_cmp op_in_seq sem_inSeq ha hb hm) (fun c=>PE.weak (pe_cmp (pc_din hu (ha c) (hb c)) hm) fun σ H Q h=>din_read h) in_sel
theorem fT_sel {g h:Rho->R D} (sel:∀ρ,f ρ=g ρ\/f ρ=h ρ) (ρ:Rho):fT f ρ=fT g ρ\/fT f ρ=fT h ρ:=by
 unfold fT
 rcases sel ρ with z|z
 ·exact .inl (by rw[z])
 ·exact .inr (by rw[z])
theorem t_in (hu:X.A.units+1<cLine) (ha:PB ly X a fa) (hb:PB ly X b fb) (hm:behindInMarks .In b=false:=by with_unfolding_all rfl):PTQ ly X (.Compare a [.In] [b] pos) (fT (f2 (dInA false) fa fb)):=
 t_alt (t_cmp op_in_seq sem_inSeq ha hb hm) (fun c=>t_of (c:=c.1) (t:=tDIn (tB' X.K c.1 fa) (tB' X.K c.1 fb)) (pt_cmp (pc_din hu (ha c) (hb c)) hm) fun σ H Q h=>din_read h) (fT_sel in_sel)
theorem t_notin (hu:X.A.units+1<cLine) (ha:PB ly X a fa) (hb:PB ly X b fb) (hm:behindInMarks .NotIn b=false:=by with_unfolding_all rfl):PTQ ly X (.Compare a [.NotIn] [b] pos) (fT (f2 (dInA true) fa fb)):=
 t_alt (t_cmp op_notIn_seq sem_inSeq ha hb hm) (fun c=>t_of (c:=c.1) (t:=tDNotIn (tB' X.K c.1 fa) (tB' X.K c.1 fb)) (pt_cmp (pc_dnotin hu (ha c) (hb c)) hm) fun σ H Q h=>dnotin_read h) (fT_sel in_sel)
noncomputable def dIxSeq:D->D->Option D
 | .lst ds, .int i=>atI ds i
 | .tup ds, .int i=>atI ds i
 | .scr ns, .int i=>(atI ns i).map .int
 |_,_=>none
noncomputable def dIxDic:D->D->Option D
 | .dic kds,k=>(keyOf k).bind fun key=>dGet kds key
 |_,_=>none
noncomputable def dIx (x y:D):Option D:=match x with
 | .dic _=>dIxDic x y
 |_=>dIxSeq x y
theorem Reps.atI {K:PySem.W.Frag} {F:Hp} {vs:List V} {ds:List D} {i:Int} {d:D} (r:Reps K F vs ds) (h:atI ds i=some d):∃v,L2.atI vs i=some v/\Rep K F v d:=by
 unfold L2.atI at h ⊢
 rw[r.length]
 cases e:ixN ds.length i with
 |none=>rw[e]at h;cases h
 |some j=>rw[e]at h;exact r.get h
theorem sem_ixSeq {K:PySem.W.Frag}:Sem2 K (rIx K) dIxSeq:=by
 intro v u x y d H F Q s rx ry h k
 unfold dIxSeq at h
 split at h
 ·cases ry.int
  obtain⟨a,vs,rfl,h1,h2⟩:=rx.lst s
  obtain⟨w,h3,h4⟩:=h2.atI h
  exact .inl ⟨a,vs,_,w,rfl,rfl,SqL.of h1,h3,k _ H F (Ext.refl s) h4⟩
 ·cases ry.int
  obtain⟨a,vs,rfl,h1,h2⟩:=rx.tup s
  obtain⟨w,h3,h4⟩:=h2.atI h
  exact .inr (.inl ⟨a,vs,_,w,rfl,rfl,SqT.of h1,h3,k _ H F (Ext.refl s) h4⟩)
 ·rename_i ns i
  cases ry.int
  obtain⟨a,rfl,h1⟩:=rx.scr s
  cases e:atI ns i with
  |none=>rw[e]at h;cases h
  |some n=>
   rw[e]at h
   cases h
   refine .inl ⟨a,ns.map V.int,i, .int n,rfl,rfl,h1,?_,k _ H F (Ext.refl s) (.int n)⟩
   unfold L2.atI at e ⊢
   rw[List.length_map]
   cases e2:ixN ns.length i with
   |none=>rw[e2]at e;cases e
   |some j=>
    rw[e2]at e
    show (ns.map V.int)[j]? =_
    rw[List.getElem?_map,show ns[j]? =some n from e]
    rfl
 ·cases h
theorem ix_sel (ρ:Rho):f2 dIx fa fb ρ=f2 dIxSeq fa fb ρ\/f2 dIx fa fb ρ=f2 dIxDic fa fb ρ:=by
 unfold f2
 cases fa ρ with
 |ok x=>
  cases fb ρ with
  |ok y=>cases x<;>first|exact .inl rfl|exact .inr rfl
  |_=>exact .inl rfl
 |_=>exact .inl rfl
theorem q_ix (hu:X.A.units+1<cLine) (ha:PB ly X a fa) (hb:PB ly X b fb) (hs:PlainIx b:=by intro _ _;rfl):PQ ly X (.Subscript a b pos) (f2 dIx fa fb):=
 q_alt (fun c=>PE.weak (pe_ix ix_seq (ha c) (hb c) hs) fun σ H Q h=>two h fun F H2 F2 v u x y e rx ry w=>by
   obtain⟨d,hd,k⟩:=w.of
   exact sem_ixSeq v u x y d H2 F2 Q e.sub rx ry hd fun w H' F' e' r'=>k w H' F' (e.trans e') r')
  (fun c=>PE.weak (pe_dget hu (ha c) (hb c) hs) fun σ H Q h=>two h fun F H2 F2 v u x y e rx ry w=>by
   obtain⟨d,hd,k⟩:=w.of
   cases x with
   |dic kds=>
    obtain⟨p,vs,rfl,h1,h2,h3⟩:=rx.dic e.sub
    replace hd:((keyOf y).bind fun key=>dGet kds key)=some d:=hd
    cases hk:keyOf y with
    |none=>rw[hk]at hd;cases hd
    |some key=>
     rw[hk]at hd
     cases keyOf_rep hk ry
     rcases h2.get key with ⟨_,z⟩|⟨v',d',z1,z2,z3⟩
     ·rw[show dGet kds key=some d from hd]at z;cases z
     ·rw[show dGet kds key=some d from hd]at z2
      cases z2
      exact⟨p,v',rfl,z1▸DGet.k (k:=key) h1,k _ H2 F2 e z3⟩
   |_=>cases hd) ix_sel
end
end L2.Pu
namespace L2.Pu
open PySem PySem.Spec PyProof.Rows
variable {ly:List Lay}
section
variable {K:PySem.W.Frag}
theorem RepBs.one {H F:Hp} {vs:List V} {d:D}:RepBs K H F vs [d]->∃v,vs=[v]/\RepB K H F v d:=fun h=>by
 cases h with
 |cons r t=>cases t;exact⟨_,rfl,r⟩
theorem RepBs.two {H F:Hp} {vs:List V} {d e:D}:RepBs K H F vs [d,e]->∃v u,vs=[v,u]/\RepB K H F v d/\RepB K H F u e:=fun h=>by
 cases h with
 |cons r t=>
  obtain⟨u,e,q⟩:=RepBs.one t
  exact⟨_,u,by rw[e],r,q⟩
noncomputable def cLen:List D->Option D
 |[.lst ds]=>some (.int ds.length)
 |[.tup ds]=>some (.int ds.length)
 |[.scr ns]=>some (.int ns.length)
 |[.dic ds]=>some (.int ds.length)
 |_=>none
noncomputable def rLenQ (K:PySem.W.Frag):List V->Hp->VK->Prop:=fun xs H Q=>(∃p ys,xs=[.ref p]/\(SqL K H p ys\/SqT K H p ys)/\Q (.int ys.length) H)\/∃p kvs,xs=[.ref p]/\H p=some (.dK kvs)/\Q (.int kvs.length) H
theorem call_lenQ {X:Cx}:CallR X (.builtin "len") (rLenQ X.K):=by
 intro pins s σ H xs us Q I rv h
 rcases h with h|⟨p,kvs,rfl,hk,q⟩
 ·exact call_len_seq pins s σ H xs us Q I rv h
 ·obtain⟨u,rfl,ru⟩:=vals1 rv
  cases ru
  exact d_len I (.inl hk) fun t s' I'=>⟨.int kvs.length,H,I',⟨t,rfl⟩,q⟩
theorem sem_len:SemC K (rLenQ K) cLen:=by
 intro vs ds d H F Q s rv h k
 match ds,h with
 |[.lst xs],h=>
  obtain⟨v,rfl,r⟩:=rv.one
  obtain⟨a,ws,rfl,h1,h2⟩:=r.lst s
  cases h
  exact .inl ⟨a,ws,rfl, .inl (SqL.of h1),by rw[h2.length];exact k _ H F (Ext.refl s) (.int _)⟩
 |[.tup xs],h=>
  obtain⟨v,rfl,r⟩:=rv.one
  obtain⟨a,ws,rfl,h1,h2⟩:=r.tup s
  cases h
  exact .inl ⟨a,ws,rfl, .inr (SqT.of h1),by rw[h2.length];exact k _ H F (Ext.refl s) (.int _)⟩
 |[.scr ns],h=>
  obtain⟨v,rfl,r⟩:=rv.one
  obtain⟨a,rfl,h1⟩:=r.scr s
  cases h
  exact .inl ⟨a,_,rfl, .inl h1,by rw[List.length_map];exact k _ H F (Ext.refl s) (.int _)⟩
 |[.dic xs],h=>
  obtain⟨v,rfl,r⟩:=rv.one
  obtain⟨a,ws,rfl,h1,h2,h3⟩:=r.dic s
  cases h
  exact .inr ⟨a,ws,rfl,h1,by rw[h2.length];exact k _ H F (Ext.refl s) (.int _)⟩
noncomputable def cTuple:List D->Option D
 |[.lst ds]=>some (.tup ds)
 |[.tup ds]=>some (.tup ds)
 |_=>none
theorem sem_tuple:SemC K (fun xs H Q=>∃p ys,xs=[.ref p]/\((SqL K H p ys/\∀l,H l=none->Q (.ref l) (upd H l (.tup ys)))\/(SqT K H p ys/\Q (.ref p) H))) cTuple:=by
 intro vs ds d H F Q s rv h k
 match ds,h with
 |[.lst xs],h=>
  obtain⟨v,rfl,r⟩:=rv.one
  obtain⟨a,ws,rfl,h1,h2⟩:=r.lst s
  cases h
  refine⟨a,ws,rfl, .inl ⟨SqL.of h1,fun l hl=> ?_⟩⟩
  have e:=Ext.lay (o:= .tup ws) s hl
  exact k _ _ _ e (.tup upd_same (h2.mono e.grow))
 |[.tup xs],h=>
  obtain⟨v,rfl,r⟩:=rv.one
  obtain⟨a,ws,rfl,h1,h2⟩:=r.tup s
  cases h
  refine⟨a,ws,rfl, .inr ⟨SqT.of h1,?_⟩⟩
  match r with
  | .inl r=>exact k _ H F (Ext.refl s) r
noncomputable def cList:List D->Option D
 |[.lst ds]=>some (.lst ds)
 |[.tup ds]=>some (.lst ds)
 |[.scr ns]=>some (.lst (ns.map .int))
 |_=>none
theorem reps_ints {F:Hp}:∀ns:List Int,Reps K F (ns.map V.int) (ns.map D.int)
 |[]=> .nil
 |n::r=> .cons (.int n) (reps_ints r)
theorem sem_list:SemC K (fun xs H Q=>∃p ys,xs=[.ref p]/\(SqL K H p ys\/SqT K H p ys)/\∀l,H l=none->Q (.ref l) (upd H l (.lst ys))) cList:=by
 intro vs ds d H F Q s rv h k
 match ds,h with
 |[.lst xs],h=>
  obtain⟨v,rfl,r⟩:=rv.one
  obtain⟨a,ws,rfl,h1,h2⟩:=r.lst s
  cases h
  refine⟨a,ws,rfl, .inl (SqL.of h1),fun l hl=> ?_⟩
  have e:=Ext.lay (o:= .lst ws) s hl
  exact k _ _ _ e (.lst upd_same (h2.mono e.grow))
 |[.tup xs],h=>
  obtain⟨v,rfl,r⟩:=rv.one
  obtain⟨a,ws,rfl,h1,h2⟩:=r.tup s
  cases h
  refine⟨a,ws,rfl, .inr (SqT.of h1),fun l hl=> ?_⟩
  have e:=Ext.lay (o:= .lst ws) s hl
  exact k _ _ _ e (.lst upd_same (h2.mono e.grow))
 |[.scr ns],h=>
  obtain⟨v,rfl,r⟩:=rv.one
  obtain⟨a,rfl,h1⟩:=r.scr s
  cases h
  refine⟨a,_,rfl, .inl h1,fun l hl=> ?_⟩
  have e:=Ext.lay (o:= .lst (ns.map V.int)) s hl
  exact k _ _ _ e (.lst upd_same (reps_ints ns))
noncomputable def asInts:List D->Option (List Int)
 |[]=>some []
 | .int i::r=>(asInts r).map (i::·)
 |_::_=>none
theorem asInts_rep {F:Hp}:∀{ds:List D} {ns:List Int} {vs:List V},asInts ds=some ns->Reps K F vs ds->vs=ns.map V.int:=by
 intro ds
 induction ds with
 |nil=>intro ns vs h r;cases r.nilI;cases h;rfl
 |cons d r ih=>
  intro ns vs h rv
  obtain⟨v,us,rfl,r1,t⟩:=rv.consI
  cases d with
  |int i=>
   cases r1.intI
   replace h:(asInts r).map (i::·)=some ns:=h
   cases e:asInts r with
   |none=>rw[e]at h;cases h
   |some ms=>
    rw[e]at h
    cases h
    rw[ih e t];rfl
  |_=>cases h
noncomputable def cSum:List D->Option D
 |[.lst ds]=>(asInts ds).map fun ns=> .int ns.sum
 |_=>none
noncomputable def cSorted:List D->Option D
 |[.lst ds]=>(asInts ds).bind fun ns=>if ns.length<64 then some (.lst ((sortI ns).map .int))else none
 |_=>none
theorem sem_sorted:SemC K (fun xs H Q=>∃p ns,xs=[.ref p]/\SqL K H p (ns.map V.int)/\ns.length<64/\∀l,H l=none->Q (.ref l) (upd H l (.lst ((sortI ns).map V.int)))) cSorted:=by
 intro vs ds d H F Q s rv h k
 match ds,h with
 |[.lst xs],h=>
  obtain⟨v,rfl,r⟩:=rv.one
  obtain⟨a,ws,rfl,h1,h2⟩:=r.lst s
  replace h:((asInts xs).bind fun ns=>if ns.length<64 then some (D.lst ((sortI ns).map .int))else none)=some d:=h
  cases e:asInts xs with
  |none=>rw[e]at h;cases h
  |some ns=>
   rw[e]at h
   replace h:(if ns.length<64 then some (D.lst ((sortI ns).map .int))else none)=some d:=h
   split at h
   ·rename_i hl
    cases h
    rw[asInts_rep e h2]at h1
    refine⟨a,ns,rfl,SqL.of h1,hl,fun l hl'=> ?_⟩
    have e:=Ext.lay (o:= .lst ((sortI ns).map V.int)) s hl'
    exact k _ _ _ e (.lst upd_same (reps_ints _))
   ·cases h
noncomputable def cMin:List D->Option D
 |[.int i, .int j]=>some (.int (if j<i then j else i))
 |_=>none
noncomputable def cMax:List D->Option D
 |[.int i, .int j]=>some (.int (if j>i then j else i))
 |_=>none
theorem sem_min:SemC K (fun xs H Q=>∃i j,xs=[.int i, .int j]/\Q (.int (if j<i then j else i)) H) cMin:=by
 intro vs ds d H F Q s rv h k
 match ds,h with
 |[.int i, .int j],h=>
  obtain⟨v,u,rfl,r,q⟩:=rv.two
  cases r.int;cases q.int;cases h
  exact⟨i,j,rfl,k _ H F (Ext.refl s) (.int _)⟩
theorem sem_max:SemC K (fun xs H Q=>∃i j,xs=[.int i, .int j]/\Q (.int (if j>i then j else i)) H) cMax:=by
 intro vs ds d H F Q s rv h k
 match ds,h with
 |[.int i, .int j],h=>
  obtain⟨v,u,rfl,r,q⟩:=rv.two
  cases r.int;cases q.int;cases h
  exact⟨i,j,rfl,k _ H F (Ext.refl s) (.int _)⟩
noncomputable def cInt:List D->Option D
 |[.int i]=>some (.int i)
 |[.bl k]=>some (.int (if k then 1 else 0))
 |_=>none
theorem sem_int:SemC K (fun xs H Q=>(∃i,xs=[.int i]/\Q (.int i) H)\/∃k,xs=[.bl k]/\Q (.int (if k then 1 else 0)) H) cInt:=by
 intro vs ds d H F Q s rv h k
 match ds,h with
 |[.int i],h=>obtain⟨v,rfl,r⟩:=rv.one;cases r.int;cases h;exact .inl ⟨i,rfl,k _ H F (Ext.refl s) (.int _)⟩
 |[.bl i],h=>obtain⟨v,rfl,r⟩:=rv.one;cases r.bl;cases h;exact .inr ⟨i,rfl,k _ H F (Ext.refl s) (.int _)⟩
end
section
variable {X:Cx} {a b e:Expr} {es:List Expr} {fa fb f fk fv:Rho->R D} {fs:Rho->R (List D)} {pos p p2:Pos}
noncomputable def tyD:D->Option String
 | .non=>some "NoneType"
 | .bl _=>some "bool"
 | .int _=>some "int"
 | .str _=>some "str"
 | .tup _=>some "tuple"
 | .lst _=>some "list"
 | .dic _=>some "dict"
 |_=>none
noncomputable def isSub (t T:String):Option Bool:=if t=T then some true else if t="bool"/\T="int" then some true
 else if ["NoneType","bool","int","str","tuple","list","dict"].contains t/\["bool","int","str","tuple","list","dict"].contains T then some false else none
theorem isSub_ok (K:PySem.W.Frag) {t T:String} {k:Bool} (ht:t="NoneType"\/t="bool"\/t="int"\/t="str"\/t="tuple"\/t="list"\/t="dict") (hT:T="bool"\/T="int"\/T="str"\/T="tuple"\/T="list"\/T="dict") (h:isSub t T=some k):
  PySem.W.kitOne K (.type t) (.type T)=some k:=by
 rcases ht with rfl|rfl|rfl|rfl|rfl|rfl|rfl<;>rcases hT with rfl|rfl|rfl|rfl|rfl|rfl<;>(revert h;unfold isSub;simp+decide;rintro rfl;first|rfl|(unfold PySem.W.kitOne PySem.W.kitCls;decide+kernel))
noncomputable def dIsi (T:String) (d:D):Option D:=(tyD d).bind fun t=>(isSub t T).map .bl
noncomputable def fIsi (T:String) (f:Rho->R D):Rho->R D:=fun ρ=>f ρ>>=fun d=>R.of (dIsi T d)
theorem tyD_ok {K:PySem.W.Frag} {H F:Hp} {v:V} {d:D} {t:String} (s:Same F H) (r:RepB K H F v d) (h:tyD d=some t):TyOf K H v (.type t):=by
 cases d with
 |non=>cases r.non;cases h;exact .non
 |bl=>cases r.bl;cases h;exact .bl _
 |int=>cases r.int;cases h;exact .int _
 |str=>cases r.str;cases h;exact .str _
 |tup=>obtain⟨a,vs,rfl,h1,_⟩:=r.tup s;cases h;exact .tup h1
 |lst=>obtain⟨a,vs,rfl,h1,_⟩:=r.lst s;cases h;exact .lst h1
 |dic=>obtain⟨a,vs,rfl,h1,_⟩:=r.dic s;cases h;exact .dK h1
 |_=>cases h
theorem tyD_names {d:D} {t:String} (h:tyD d=some t):t="NoneType"\/t="bool"\/t="int"\/t="str"\/t="tuple"\/t="list"\/t="dict":=by
 cases d<;>cases h<;>simp
theorem q_isi {x:Str} {T:String} (hT:T="bool"\/T="int"\/T="str"\/T="tuple"\/T="list"\/T="dict") (hm1:X.mg "isinstance"=none) (hm:X.mg x=none) (hv:bootBuiltins x=some (.type T)) (ha:PB ly X a fa) (hg1:Gl X "isinstance":=by rfl) (hg:Gl X x:=by rfl)
  (hn:x≠"__name__":=by decide) (hdb:(x==("__debug__":Str))=false:=by decide)
  (he:starEach [a, .Name x p2] X.env=(false,eval a X.env)::starEach [.Name x p2] X.env:=by rfl) (he2:starEach [.Name x p2] X.env=(false,eval (.Name x p2) X.env)::starEach [] X.env:=by rfl) (hpl:(backTo pos (starEach [.Name x p2] X.env)).any (·.1)=false:=by rfl):
  PQ ly X (.Call (.Name "isinstance" p) [a, .Name x p2] [] pos) (fIsi T fa):=fun c=>
 PE.weak (pe_callB call_isi hg1 hm1 boot_isi (pa_cons (ha c) (pa_cons (pe_bltn (v:= .ty T) hg hm hv rfl hn hdb) pa_nil he2) he) (by decide) (by decide) he hpl) fun σ H Q ⟨F,ρ,ri,w⟩=>
  ⟨F,ρ,ri,(Want.bind.mp w).imp fun d _ w1 v H1 F1 e1 r1=>by
   obtain⟨d',hd,k⟩:=w1.of
   unfold dIsi at hd
   cases ht:tyD d with
   |none=>rw[ht]at hd;cases hd
   |some t=>
    rw[ht]at hd
    cases hs:isSub t T with
    |none=>
     replace hd:(isSub t T).map D.bl=some d':=hd
     rw[hs]at hd;cases hd
    |some kk=>
     replace hd:(isSub t T).map D.bl=some d':=hd
     rw[hs]at hd
     cases hd
     exact⟨v,T,_,kk,rfl,tyD_ok e1.sub r1 ht,isSub_ok X.K (tyD_names ht) hT hs,k _ H1 F1 e1 (.bl kk)⟩⟩
noncomputable def fRev (f:Rho->R D):Rho->R D:=fun ρ=>f ρ>>=fun d=>match d with
 | .lst ds=> .ok (.lst ds.reverse)
 |_=> .bad
theorem q_rev {j:Nat} {pu pk:Pos} (ha:PB ly X a fa):PQ ly X (.Subscript a (.Slice none none (some (.UnaryOp .USub (.Constant (.int 1) j pk) pu)) p2) pos) (fRev fa):=fun c=>
 PE.weak (pe_rev (ha c) (po_some (pe_un un_neg pe_int))) fun σ H Q ⟨F,ρ,ri,w⟩=>⟨F,ρ,ri,(Want.bind.mp w).imp fun d _ w1 v H1 F1 e1 r1=>by
  cases d with
  |lst ds=>
   obtain⟨p,vs,rfl,h1,h2⟩:=r1.lst e1.sub
   refine⟨1,rfl,-1,rfl,rfl,p,vs,rfl,SqL.of h1,fun l hl=> ?_⟩
   have e2:=Ext.lay (o:= .lst vs.reverse) e1.sub hl
   exact w1 _ _ _ (e1.trans e2) (.lst upd_same (h2.reverse.mono e2.grow))
  |_=>exact w1.elim⟩
noncomputable def cutD (ds:List D) (lo hi:Option Int):List D:=(ds.drop (HT.sIx ds.length 0 lo)).take (HT.sIx ds.length ds.length hi - HT.sIx ds.length 0 lo)
theorem Reps.cut {K:PySem.W.Frag} {F:Hp} {vs:List V} {ds:List D} (r:Reps K F vs ds) (lo hi:Option Int):Reps K F (cutV vs lo hi) (cutD ds lo hi):=by
 unfold cutV cutD
 rw[r.length]
 exact(r.drop _).take _
noncomputable def tOQ (K:PySem.W.Frag) (c:Ctx ly) (f:Rho->R (Option Int)):TO:=fun σ H Q=>∃F ρ,RI K c ρ σ H F/\Want c (f ρ) fun o=>∀H' F',Ext H F H' F'->Q o H'
noncomputable def POQ (ly:List Lay) (X:Cx) (e:Option Expr) (f:Rho->R (Option Int)):Prop:=∀c:CtxT ly X,PO X e (tOQ X.K c.1 f)
theorem PO.weak {X:Cx} {e:Option Expr} {t t':TO} (h:PO X e t) (w:∀σ H Q,t' σ H Q->t σ H Q):PO X e t':=fun pins s σ H Q I q=>h pins s σ H Q I (w σ H Q q)
noncomputable def oNone:Rho->R (Option Int):=fun _=> .ok none
noncomputable def oSome (f:Rho->R D):Rho->R (Option Int):=fun ρ=>f ρ>>=fun d=>match d with
 | .int i=> .ok (some i)
 |_=> .bad
theorem o_none:POQ ly X none oNone:=fun c=>PO.weak po_none fun σ H Q ⟨F,ρ,ri,w⟩=>w H F (Ext.refl ri.sub)
theorem o_some (h:PQ ly X e f):POQ ly X (some e) (oSome f):=fun c=>PO.weak (po_some (h c)) fun σ H Q ⟨F,ρ,ri,w⟩=>⟨F,ρ,ri,(Want.bind.mp w).imp fun d _ w1 v H1 F1 e1 r1=>by
 cases d with
 |int i=>cases r1;exact⟨i,rfl,w1 H1 F1 e1⟩
 |_=>exact w1.elim⟩
variable {lo hi:Option Expr} {fl fh:Rho->R (Option Int)}
noncomputable def dSl (d:D) (lo hi:Option Int):Option D:=match d with
 | .lst ds=>some (.lst (cutD ds lo hi))
 | .tup ds=>if HT.sIx ds.length 0 lo=0/\HT.sIx ds.length ds.length hi=ds.length then some (.tup ds)else some (.tup (cutD ds lo hi))
 |_=>none
noncomputable def fSl (f:Rho->R D) (fl fh:Rho->R (Option Int)):Rho->R D:=fun ρ=>f ρ>>=fun d=>fl ρ>>=fun l=>fh ρ>>=fun h=>R.of (dSl d l h)
theorem q_slice (ha:PB ly X a fa) (hl:POQ ly X lo fl) (hh:POQ ly X hi fh):PQ ly X (.Subscript a (.Slice lo hi none p2) pos) (fSl fa fl fh):=fun c=>
 PE.weak (pe_slice ((sl_list.or sl_tup).or sl_tupW) (ha c) (hl c) (hh c)) fun σ H Q ⟨F,ρ,ri,w⟩=>⟨F,ρ,ri,(Want.bind.mp w).imp fun d _ w1 v H1 F1 e1 r1=>⟨F1,ρ,ri.step e1,(Want.bind.mp w1).imp fun l _ w2 H2 F2 e2=>
  ⟨F2,ρ,(ri.step e1).step e2,(Want.bind.mp w2).imp fun h _ w3 H3 F3 e3=>by
   obtain⟨d',hd,k⟩:=w3.of
   have e13:=(e1.trans e2).trans e3
   have r3:=(r1.mono e2).mono e3
   cases d with
   |lst ds=>
    cases hd
    obtain⟨p,vs,rfl,h1,h2⟩:=r3.lst e13.sub
    refine .inl (.inl ⟨p,vs,rfl,SqL.of h1,fun q hq=> ?_⟩)
    have e4:=Ext.lay (o:= .lst (cutV vs l h)) e13.sub hq
    exact k _ _ _ (e13.trans e4) (.lst upd_same ((h2.cut l h).mono e4.grow))
   |tup ds=>
    replace hd:(if HT.sIx ds.length 0 l=0/\HT.sIx ds.length ds.length h=ds.length then some (D.tup ds)else some (D.tup (cutD ds l h)))=some d':=hd
    split at hd
    ·rename_i hw
     cases hd
     rcases r3 with r3|⟨_,_,_,_,q⟩
     ·cases r3 with
      | @tup p vs _ h1 h2=>exact .inr ⟨p,vs,rfl,SqT.of (e13.sub _ _ h1),by rw[h2.length];exact hw,k _ _ _ e13 (.tup h1 h2)⟩
     ·cases q
    ·rename_i hw
     cases hd
     obtain⟨p,vs,rfl,h1,h2⟩:=r3.tup e13.sub
     refine .inl <| .inr ⟨p,vs,rfl,SqT.of h1,by rw[h2.length];exact hw,fun q hq=> ?_⟩
     have e4:=Ext.lay (o:= .tup (cutV vs l h)) e13.sub hq
     exact k _ _ _ (e13.trans e4) (.tup upd_same ((h2.cut l h).mono e4.grow))
   |_=>cases hd⟩⟩⟩
noncomputable def fGet2 (fd fk fx:Rho->R D):Rho->R D:=fun ρ=>fd ρ>>=fun d=>match d with
 | .dic kds=>fk ρ>>=fun k=>fx ρ>>=fun x=>(match keyOf k with
  |some key=> .ok ((dGet kds key).getD x)
  |none=> .bad)
 |_=> .bad
noncomputable def fPairs:List ((Rho->R D)×(Rho->R D))->Rho->R (List (Key×D))
 |[],_=> .ok []
 |(fk,fv)::r,ρ=>fk ρ>>=fun k=>fv ρ>>=fun v=>fPairs r ρ>>=fun ps=>match keyOf k with
  |some key=> .ok ((key,v)::ps)
  |none=> .bad
noncomputable def mergeD (kvs more:List (Key×D)):List (Key×D):=more.foldl (fun acc kv=>dPut acc kv.1 kv.2) kvs
theorem RepK.merge {K:PySem.W.Frag} {F:Hp}:∀{more:List (Key×V)} {dmore:List (Key×D)} {vs:List (Key×V)} {ds:List (Key×D)},RepK K F more dmore->RepK K F vs ds->(vs.map (·.1)).Nodup->RepK K F (mergeK vs more) (mergeD ds dmore)/\((mergeK vs more).map (·.1)).Nodup:=by
 intro more dmore
 induction dmore generalizing more with
 |nil=>intro vs ds r h n;rw[r.nilI];exact⟨h,n⟩
 |cons d s ih=>
  intro vs ds r h n
  obtain⟨k,d⟩:=d
  obtain⟨v,us,rfl,q,t⟩:=r.consI
  exact ih (more:=us) t (h.put k q) (nd_put v n)
inductive PPQ (ly:List Lay) (X:Cx) (pos:Pos):List (Option Expr)->List Expr->List ((Rho->R D)×(Rho->R D))->Prop
 |nil:PPQ ly X pos [] [] []
 |cons {k v:Expr} {ks:List (Option Expr)} {vs:List Expr} {fk fv:Rho->R D} {ps:List ((Rho->R D)×(Rho->R D))}:PQ ly X k fk->PQ ly X v fv->PPQ ly X pos ks vs ps->PPQ ly X pos (some k::ks) (v::vs) ((fk,fv)::ps)
theorem PPQ.pps {X:Cx} {pos:Pos} (c:CtxT ly X):∀{ks:List (Option Expr)} {vs:List Expr} {ps:List ((Rho->R D)×(Rho->R D))},PPQ ly X pos ks vs ps->PPs X pos ks vs (ps.map fun p=>(tQ X.K c.1 p.1,tQ X.K c.1 p.2))
 |_,_,_, .nil=>pps_nil
 |_,_,_, .cons h1 h2 r=>pps_cons (h1 c) (h2 c) (r.pps c)
theorem PPQ.len {X:Cx} {pos:Pos}:∀{ks:List (Option Expr)} {vs:List Expr} {ps:List ((Rho->R D)×(Rho->R D))},PPQ ly X pos ks vs ps->ks.length=vs.length/\ks.length=ps.length/\ks.all (·.isSome)=true
 |_,_,_, .nil=>⟨rfl,rfl,rfl⟩
 |_,_,_, .cons _ _ r=>by
  obtain⟨a,b,c⟩:=r.len
  exact⟨by simp[a],by simp[b],by simp[List.all_cons,c]⟩
theorem pairs_read {K:PySem.W.Frag} {c:Ctx ly} {σ:St}:∀{ps:List ((Rho->R D)×(Rho->R D))} {ρ:Rho} {H F:Hp} {T:List (V×V)->Hp->Prop},RI K c ρ σ H F->
  Want c (fPairs ps ρ) (fun kds=>∀kvs H' F',Ext H F H' F'->RepK K F' kvs kds->T (kvs.map fun kv=>(kV kv.1,kv.2)) H')->tPairs (ps.map fun p=>(tQ K c p.1,tQ K c p.2)) σ H T
 |[],ρ,H,F,T,ri,w=>w [] H F (Ext.refl ri.sub) .nil
 |(fk,fv)::r,ρ,H,F,T,ri,w=>by
  refine⟨F,ρ,ri,(Want.bind.mp w).imp fun k _ w1 v H1 F1 e1 r1=>⟨F1,ρ,ri.step e1,(Want.bind.mp w1).imp fun d _ w2 u H2 F2 e2 r2=> ?_⟩⟩
  refine pairs_read ((ri.step e1).step e2) ((Want.bind.mp w2).imp fun kds _ w3 kvs H3 F3 e3 r3=> ?_)
  cases hk:keyOf k with
  |none=>rw[hk]at w3;exact w3.elim
  |some key=>
   rw[hk]at w3
   cases keyOf_rep (H:=H1) hk (.inl r1)
   exact w3 ((key,u)::kvs) H3 F3 ((e1.trans e2).trans e3) (.cons (r2.mono e3.grow) r3)
theorem disp_read {K:PySem.W.Frag} {c:Ctx ly} {σ:St} {ps:List ((Rho->R D)×(Rho->R D))} {ρ:Rho} {H F:Hp} {Q:VK} (ri:RI K c ρ σ H F) (h15:ps.length<=15)
  (w:Want c (fPairs ps ρ) fun kds=>∀p H' F' kvs,H p=none->Ext H F H' F'->H' p=some (.dK kvs)->F' p=none->RepK K F' kvs (mergeD [] kds)->(kvs.map (·.1)).Nodup->Q (.ref p) H'):
  tDisp (ps.map fun p=>(tQ K c p.1,tQ K c p.2)) σ H Q:=by
 intro p hp
 have e0:=Ext.layOwn (o:= .dK []) ri.sub hp
 have hlen:∀{qs:List ((Rho->R D)×(Rho->R D))} {kds:List (Key×D)},fPairs qs ρ= .ok kds->kds.length=qs.length:=by
  intro qs
  induction qs with
  |nil=>intro kds h;cases h;rfl
  |cons q r ih=>
   intro kds h
   obtain⟨k,_,h⟩:=bind_ok (r:=q.1 ρ) h
   obtain⟨v,_,h⟩:=bind_ok (r:=q.2 ρ) h
   obtain⟨ps',hp',h⟩:=bind_ok (r:=fPairs r ρ) h
   cases hk:keyOf k with
   |none=>rw[hk]at h;cases h
   |some key=>rw[hk]at h;cases h;simp[ih hp']
 refine pairs_read (ri.step e0) (w.imp fun kds hk w1 kvs H1 F1 e1 r1=> ?_)
 have hH1:H1 p=some (.dK []):=e1.keep _ _ upd_same
 refine⟨hH1,kvs,rfl,by rw[r1.length,hlen hk];exact h15,?_⟩
 have hF1:F1 p=none:=by
  cases q:F1 p with
  |none=>rfl
  |some u=>
   rcases e1.new p (by rw[q];simp)with z|z
   ·exact absurd (ri.sub.free hp) z
   ·rw[upd_same]at z;cases z
 obtain⟨m1,m2⟩:=RepK.merge r1 .nil List.nodup_nil
 refine w1 p _ F1 _ hp ⟨fun b u e=> ?_,fun b u e=> ?_,e1.grow,fun b e=> ?_⟩ upd_same hF1 m1 m2
 ·rw[upd_ne (fun z=>by rw[z,hF1]at e;cases e)];exact e1.sub b u e
 ·have hb:b≠p:=fun z=>by rw[z,hp]at e;cases e
  rw[upd_ne hb];exact e1.keep b u (by rw[upd_ne hb];exact e)
 ·rcases e1.new b e with z|z
  ·exact .inl z
  ·refine .inr ?_
   rw[upd_ne (fun q=>by rw[q,upd_same]at z;cases z)]at z
   exact z
noncomputable def gOwnDP (i:Nat) (ps:List ((Rho->R D)×(Rho->R D))):Rho->R Out:=fun ρ=>fPairs ps ρ>>=fun kds=> .ok (.nx (ρ.set i (some (.own (.dic (mergeD [] kds))))))
theorem s_ownDP (i:Nat) {x:Str} {pos' pl:Pos} {keys:List (Option Expr)} {values:List Expr} {ps:List ((Rho->R D)×(Rho->R D))} (hN:X.N.Nodup) (h:PPQ ly X pl keys values ps) (h0:keys≠[]) (h15:ps.length<=15) (hi:X.N[i]? =some x:=by rfl) (hx:Loc X.env.scope x:=by first|exact Or.inl rfl|exact Or.inr rfl)
  (hs:swapsWith (.Dict keys values pl) (some (.Name x pos')) pos.line X.env=pure false:=by rfl) (hf:X.fn x=true\/X.env.scope.names.lookup x=some .local:=by first|exact .inl rfl|exact .inr rfl|assumption) (hfr:Free ly i:=by(repeat (first|assumption|exact L2.Pu.free_nil|refine L2.Pu.free_cons ⟨by first|decide|simp,by first|decide|simp⟩ ?_))):
  PSQ ly X (.Assign [.Name x pos'] (.Dict keys values pl) pos) (gOwnDP i ps):=fun c=>
 PS.weak (ps_set hN hi hx (pe_disp (h.pps c) h.len.2.2 h.len.1 h0 (by rw[h.len.2.1];exact h15)) hs hf) fun D σ H ⟨F,ρ,ri,w⟩=>
  disp_read ri h15 ((Want.bind.mp w).imp fun kds _ w1 p H' F' kvs hp e hH hF r n=>by
   refine w1 _ H' F' e.grow ((ri.step e).setOwn i hfr hH hF (ri.ext.keep.free hp) (.dic r n) fun j d' _ hj ej=> ?_)
   obtain⟨a,o,k1,k2,_⟩:=ri.own j d' hj
   rw[ej]at k1
   cases k1
   rw[hp]at k2
   cases k2)
end
end L2.Pu
namespace L2.Pu
open PySem PySem.Spec PyProof.Rows
variable {ly:List Lay}
noncomputable def scopeChk (scope outer:Scope):Bool:=
 scope.kind== .function&&scope.names.all (fun y=>y.2 != .cell)&&scope.names.all (fun y=>y.2 != .local||scope.names.lookup y.1==some .local)&&
 scope.names.all (fun y=>y.2 != .free||outer.names.lookup y.1==some .cell||outer.names.lookup y.1==some .free)&&decide ((scope.names.map (·.1)).Nodup)
theorem InScope.of {X:Cx} {scope outer:Scope} (h:X.env.scope=outer) (k:scopeChk scope outer=true):InScope X scope:=by
 unfold scopeChk at k
 simp only[Bool.and_eq_true,List.all_eq_true,decide_eq_true_eq,Bool.or_eq_true,bne_iff_ne,beq_iff_eq]at k
 obtain⟨⟨⟨⟨k1,k2⟩,k3⟩,k4⟩,k5⟩:=k
 refine⟨k1,k2,fun y hy hl=> ?_,fun y hy hf=> ?_,k5⟩
 ·rcases k3 y hy with z|z
  ·exact absurd hl z
  ·exact z
 ·show X.env.scope.names.lookup y.1=_\/X.env.scope.names.lookup y.1=_
  rw[h]
  rcases k4 y hy with (z|z)|z
  ·exact absurd hf z
  ·exact .inl z
  ·exact .inr z
structure DefAt (K:PySem.W.Frag) (mg:Str->Option Value) (x:Str) (st:Stmt) (ps:List Str):Prop where
 ex:∃f fd,Fun K x x st f fd/\mg x=some (.ref f)/\Binds K fd ps []
structure FnAt (P:Program) (w:World) (K:PySem.W.Frag) (mg:Str->Option Value) (base:Heap) (k:Nat) (x:Str) (n:Nat) (m:List D->R D):Prop where
 ex:∃f fd ps,FnOk P w K mg base (CXE P w) k f fd ps (spQ K n m)/\mg x=some (.ref f)/\PySem.W.keepIn K (.ref f)=true/\Binds K fd ps []
section
variable {P:Program} {w:World} {K:PySem.W.Frag} {mg:Str->Option Value} {base:Heap}
theorem fnAt_of {x:Str} {st:Stmt} {N ps:List Str} {k n m:Nat} {g:Rho->R Out} (A:DefAt K mg x st ps) (S:FnScope N ps (defScope st)) (hn:ps.length=n) (hm:N.length=m)
  (hbody:∀(f:Addr) (cdv:Value) (A:Around) (outer:List Env) (s:Shared) (H:Hp) (E:XK),Room k (A.deeper (envOfC x (defScope st) s.heap.objs.size f cdv))->
   PSsQ [] (cxOf (CXE P w) P w K mg base N x (defScope st) f cdv A outer s H E) (defBody st) g):FnAt P w K mg base (k+1) x n (runDef n m g):=by
 obtain⟨f,fd,F,h1,h2⟩:=A.ex
 exact⟨f,fd,ps,fn_Q F S hn hm fun cdv A outer s H E hr=>hbody f cdv A outer s H E hr,h1,F.kp,h2⟩
theorem FnAt.mono {x:Str} {j k n:Nat} {m:List D->R D} (F:FnAt P w K mg base j x n m) (h:j<=k):FnAt P w K mg base k x n m:=by
 obtain⟨f,fd,ps,h1,h2⟩:=F.ex
 exact⟨f,fd,ps,h1.mono h,h2⟩
theorem fnAt_bad {x:Str} {st:Stmt} {ps:List Str} {n:Nat} (A:DefAt K mg x st ps) (hn:ps.length=n):FnAt P w K mg base 0 x n (fun _=> .bad):=by
 obtain⟨f,fd,F,h1,h2⟩:=A.ex
 refine⟨f,fd,ps,⟨fun vs H Q E h=>by rw[hn];exact h.1,fun A outer s H args us vs Q E hr e0 hb rv h=> ?_⟩,h1,F.kp,h2⟩
 obtain⟨_,F',ds,_,_,z⟩:=h
 exact z.elim
end
section
variable {X:Cx} {e:Expr} {es:List Expr} {fs:Rho->R (List D)} {x:Str} {p pos:Pos}
theorem q_fn {n k:Nat} {m:List D->R D} (F:FnAt X.prog X.w X.K X.mg X.base k x n m) (hr:Room k X.A)
  (ha:PAQ ly X (e::es) fs) (hg:Gl X x:=by rfl) (hdb:(x==("__debug__":Str))=false:=by decide) (he:starEach (e::es) X.env=(false,eval e X.env)::starEach es X.env:=by rfl) (hpl:(backTo pos (starEach es X.env)).any (·.1)=false:=by rfl):
  PQ ly X (.Call (.Name x p) (e::es) [] pos) (fCall m n fs):=by
 obtain⟨f,fd,ps,h1,h2,h3,h4⟩:=F.ex
 exact q_call h1 hr h2 h3 h4 ha hg hdb he hpl
end
structure Bl (mg:Str->Option Value) (xs:List Str):Prop where
 no:∀x∈xs,mg x=none
theorem boot_tuple:bootBuiltins "tuple"=some (.type "tuple"):=by decide+kernel
theorem boot_list:bootBuiltins "list"=some (.type "list"):=by decide+kernel
theorem boot_dict:bootBuiltins "dict"=some (.type "dict"):=by decide+kernel
theorem boot_int:bootBuiltins "int"=some (.type "int"):=by decide+kernel
theorem boot_bool:bootBuiltins "bool"=some (.type "bool"):=by decide+kernel
theorem boot_sorted:bootBuiltins "sorted"=some (.builtin "sorted"):=by decide+kernel
theorem boot_min:bootBuiltins "min"=some (.builtin "min"):=by decide+kernel
theorem boot_max:bootBuiltins "max"=some (.builtin "max"):=by decide+kernel
theorem sp_law {K:PySem.W.Frag} {m:List D->R D} {H:Hp} {a:Addr} {ns:List Int} {E:XK} (h:m [.scr ns]= .ok (.bl true)) (hs:SqL K H a (ns.map V.int)):spQ K 1 m [.ref a] H (fun v _=>v= .bl true) E:=by
 refine⟨rfl,H,[.scr ns],Same.refl _, .cons (.scr hs) .nil,?_⟩
 rw[h]
 intro v H' F' e r
 cases r
 rfl
end L2.Pu
namespace L2.Pu
open PySem PySem.Spec PyProof.Rows
variable {ly:List Lay}
section
variable {i j:Int}
theorem dMod_pos (h:0<j):dMod (.int i) (.int j)=some (.int (i%j)):=if_pos h
theorem dFdiv_pos (h:0<j/\j<1073741824):dFdiv (.int i) (.int j)=some (.int (i / j)):=if_pos (show BDiv i j from ⟨h.1,by omega⟩)
theorem dMul_r (h:j.natAbs<18446744073709551616):dMul (.int i) (.int j)=some (.int (i*j)):=if_pos (show BMul i j from .inr h)
theorem dMul_l (h:i.natAbs<18446744073709551616):dMul (.int i) (.int j)=some (.int (i*j)):=if_pos (show BMul i j from .inl h)
theorem dAdd_i:dAdd (.int i) (.int j)=some (.int (i+j)):=rfl
theorem dSub_i:dSub (.int i) (.int j)=some (.int (i - j)):=rfl
theorem dLt_i:dLt (.int i) (.int j)=some (.bl (decide (i<j))):=rfl
theorem dLe_i:dLe (.int i) (.int j)=some (.bl (decide (i<=j))):=rfl
theorem dGt_i:dGt (.int i) (.int j)=some (.bl (decide (j<i))):=rfl
theorem dGe_i:dGe (.int i) (.int j)=some (.bl (decide (j<=i))):=rfl
theorem dEq_i:dEq (.int i) (.int j)=some (.bl (decide (i=j))):=rfl
theorem dNe_i:dNe (.int i) (.int j)=some (.bl (!decide (i=j))):=rfl
theorem dEq_b {a b:Bool}:dEq (.bl a) (.bl b)=some (.bl (decide (a=b))):=rfl
theorem dNeg_i:dNeg (.int i)=some (.int (-i)):=rfl
end
theorem dIx_l {ds:List D} {i:Int}:dIx (.lst ds) (.int i)=atI ds i:=rfl
theorem dIx_t {ds:List D} {i:Int}:dIx (.tup ds) (.int i)=atI ds i:=rfl
theorem dIx_s {ns:List Int} {i:Int}:dIx (.scr ns) (.int i)=(atI ns i).map .int:=rfl
theorem cLen_l {ds:List D}:cLen [.lst ds]=some (.int ds.length):=rfl
theorem cLen_t {ds:List D}:cLen [.tup ds]=some (.int ds.length):=rfl
theorem cLen_s {ds:List Int}:cLen [.scr ds]=some (.int ds.length):=rfl
theorem cTuple_l {ds:List D}:cTuple [.lst ds]=some (.tup ds):=rfl
theorem cTuple_t {ds:List D}:cTuple [.tup ds]=some (.tup ds):=rfl
theorem cList_l {ds:List D}:cList [.lst ds]=some (.lst ds):=rfl
theorem cList_t {ds:List D}:cList [.tup ds]=some (.lst ds):=rfl
theorem atI_lt {α:Type} {xs:List α} {k:Nat} (h:k<xs.length):L2.atI xs (k:Int)=some xs[k]:=atI_nat (by simp[h])
theorem any_int (x:Int) (xs:List Int):((xs.map D.int).any fun y=>eqD y (.int x))=decide (x∈xs):=by
 induction xs with
 |nil=>rfl
 |cons y r ih=>
  rw[List.map_cons,List.any_cons,ih]
  show (y==x||decide (x∈r))=decide (x∈y::r)
  by_cases e:x=y
  ·subst e;simp
  ·have:(y==x)=false:=beq_eq_false_iff_ne.mpr (Ne.symm e)
   simp[this,e]
theorem all_int (xs:List Int):(xs.map D.int).all flatD=true:=by
 induction xs with
 |nil=>rfl
 |cons y r ih=>rw[List.map_cons,List.all_cons,ih];rfl
theorem inS_int (neg:Bool) (x:Int) (xs:List Int):inS neg (.int x) (xs.map .int)=some (.bl (if neg then !decide (x∈xs)else decide (x∈xs))):=by
 unfold inS
 rw[if_pos ⟨rfl,all_int xs⟩,any_int]
theorem dIn_l {x:Int} {xs:List Int}:dInA false (.int x) (.lst (xs.map .int))=some (.bl (decide (x∈xs))):=inS_int false x xs
theorem dNotIn_l {x:Int} {xs:List Int}:dInA true (.int x) (.lst (xs.map .int))=some (.bl (!decide (x∈xs))):=inS_int true x xs
theorem dNotIn_t {x:Int} {xs:List Int}:dInA true (.int x) (.tup (xs.map .int))=some (.bl (!decide (x∈xs))):=inS_int true x xs
theorem rangeD_nat (n:Nat):rangeD 0 (n:Int)=(List.range n).map fun k:Nat=>D.int (k:Int):=by
 unfold rangeD
 simp
theorem isi_tt {ds:List D}:dIsi "tuple" (.tup ds)=some (.bl true):=rfl
theorem isi_ti {i:Int}:dIsi "tuple" (.int i)=some (.bl false):=rfl
theorem isi_ii {i:Int}:dIsi "int" (.int i)=some (.bl true):=rfl
theorem isi_bi {i:Int}:dIsi "bool" (.int i)=some (.bl false):=rfl
theorem fCall_ok {m:List D->R D} {n:Nat} {fs:Rho->R (List D)} {ρ:Rho} {ds:List D} {d:D} (h:fs ρ= .ok ds) (hl:ds.length=n) (hm:m ds= .ok d):fCall m n fs ρ= .ok d:=by
 unfold fCall
 rw[h,ok_bind,if_pos hl,hm]
end L2.Pu
namespace L2.Pu
theorem loop_nx {g:D->Rho->R Rho} {gb:Rho->R Out} {d:D} {r:List D} {ρ ρ1 ρ2:Rho} (h1:g d ρ= .ok ρ1) (h2:gb ρ1= .ok (.nx ρ2)):loopF g gb (d::r) ρ=loopF g gb r ρ2:=by
 rw[loopF,h1,ok_bind,h2,ok_bind]
theorem loop_cnt {g:D->Rho->R Rho} {gb:Rho->R Out} {d:D} {r:List D} {ρ ρ1 ρ2:Rho} (h1:g d ρ= .ok ρ1) (h2:gb ρ1= .ok (.cnt ρ2)):loopF g gb (d::r) ρ=loopF g gb r ρ2:=by
 rw[loopF,h1,ok_bind,h2,ok_bind]
theorem loop_ret {g:D->Rho->R Rho} {gb:Rho->R Out} {d e:D} {r:List D} {ρ ρ1:Rho} (h1:g d ρ= .ok ρ1) (h2:gb ρ1= .ok (.ret e)):loopF g gb (d::r) ρ= .ok (.ret e):=by
 rw[loopF,h1,ok_bind,h2,ok_bind]
end L2.Pu
namespace L2.Pu
theorem run_ret {k n:Nat} {g:Rho->R Out} {ds:List D} {d:D} (h:ds.length=k) (e:g (startR n ds)= .ok (.ret d)):runDef k n g ds= .ok d:=by
 unfold runDef
 rw[if_pos h,e,ok_bind]
theorem seq_nx {g g':Rho->R Out} {ρ ρ':Rho} (h:g ρ= .ok (.nx ρ')):gSeq g g' ρ=g' ρ':=by
 unfold gSeq
 rw[h,ok_bind]
theorem seq_ret {g g':Rho->R Out} {ρ:Rho} {d:D} (h:g ρ= .ok (.ret d)):gSeq g g' ρ= .ok (.ret d):=by
 unfold gSeq
 rw[h,ok_bind]
theorem for_of {fi:Rho->R (List D)} {g:D->Rho->R Rho} {gb:Rho->R Out} {ρ:Rho} {ds:List D} (h:fi ρ= .ok ds):gFor fi g gb ρ=loopF g gb ds ρ:=by
 unfold gFor
 rw[h,ok_bind]
end L2.Pu
namespace L2.Pu
theorem range1_of {fs:Rho->R (List D)} {ρ:Rho} {n:Nat} (h:fs ρ= .ok [.int (n:Int)]) (hn:n<=lim):fRange1 fs ρ= .ok ((List.range n).map fun k:Nat=>D.int (k:Int)):=by
 unfold fRange1
 rw[h,ok_bind]
 have hc:(n:Int).natAbs<=lim:=by rw[Int.natAbs_natCast];exact hn
 exact(if_pos hc).trans (congrArg R.ok (rangeD_nat n))
end L2.Pu
namespace L2.Pu
open PySem PySem.Spec PyProof.Rows
variable {ly:List Lay}
section
variable {X:Cx} {elt tg iter:Expr} {ifs:List Expr} {scope:Scope} {pos:Pos} {fi:Rho->R (List D)} {g:D->Rho->R Rho} {gt:Rho->R Bool} {fe:Rho->R D}
theorem s_compC (i:Nat) {y:Str} {py spos:Pos} (S:InScope X scope) (hc:X.calm=true) (hN:X.N.Nodup) (hi:PIQ ly X tg iter fi) (hg:∀s H ex,PGQ [] (cxIn X scope s H ex) tg g) (hif:∀s H ex,PIfQ [] (cxIn X scope s H ex) ifs gt) (hel:∀s H ex,PQ [] (cxIn X scope s H ex) elt fe)
  (hi':X.N[i]? =some y:=by rfl) (hx:Loc X.env.scope y:=by first|exact Or.inl rfl|exact Or.inr rfl) (hf:X.fn y=true\/X.env.scope.names.lookup y=some .local:=by first|exact .inl rfl|exact .inr rfl|assumption)
  (hsw:swapsWith (.ListComp elt [⟨tg,iter,ifs,0⟩] scope pos) (some (.Name y py)) spos.line X.env=pure false:=by rfl) (hs:∀x,foldedSetIterable iter X.env x=pure x:=by intro _;rfl) (hfr:Free ly i:=by(repeat (first|assumption|exact L2.Pu.free_nil|refine L2.Pu.free_cons ⟨by first|decide|simp,by first|decide|simp⟩ ?_))):
  PSQ ly X (.Assign [.Name y py] (.ListComp elt [⟨tg,iter,ifs,0⟩] scope pos) spos) (gOwn i (fComp X.N scope.names fi g gt fe)):=fun c=>
 PS.weak (ps_set hN hi' hx (pe_comp S hc (hi c) (fun s H ex=>pgx (hg s H ex)) (fun s H ex=>ptx (hif s H ex)) (fun s H ex=>pqx (hel s H ex)) hs) hsw hf) fun D σ H ⟨F,ρ,ri,w⟩=>by
  refine⟨F,ρ,ri,(Want.bind.mp (Want.bind.mp w)).imp fun ds _ w1 J H1 F1 e1 jo p hp=> ?_⟩
  split at w1
  ·rename_i hl
   split at w1
   ·rename_i es he
    refine comp_block ri e1 jo hp hl he fun H2 F2 vs e2 hp2 hf2 rv=> ?_
    refine w1 _ H2 F2 (e1.grow.trans e2.grow) ((ri.step (e1.trans e2)).setOwn i hfr hp2 hf2 (ri.ext.keep.free (e1.keep.free hp)) (.lst rv) fun j d' _ hj ej=> ?_)
    obtain⟨a,o,k1,k2,_⟩:=ri.own j d' hj
    rw[ej]at k1
    cases k1
    rw[e1.keep.free hp]at k2
    cases k2
   ·exact w1.elim
  ·exact w1.elim
end
end L2.Pu
namespace L2.Pu
open PySem PySem.Spec PyProof.Rows
variable {ly:List Lay}
theorem ret_of {f:Rho->R D} {ρ:Rho} {d:D} (h:f ρ= .ok d):gRet f ρ= .ok (.ret d):=by unfold gRet;rw[h,ok_bind]
theorem f1s_of {g:List D->Option D} {fs:Rho->R (List D)} {ρ:Rho} {ds:List D} {d:D} (h:fs ρ= .ok ds) (h2:g ds=some d):f1s g fs ρ= .ok d:=by unfold f1s;rw[h,ok_bind,h2,of_some]
theorem cons_of {f:Rho->R D} {fs:Rho->R (List D)} {ρ:Rho} {ds:List D} {d:D} (h:f ρ= .ok d) (h2:fs ρ= .ok ds):fCons f fs ρ= .ok (d::ds):=by unfold fCons;rw[h,ok_bind,h2,ok_bind]
theorem L_of {f:Rho->R (List D)} {ρ:Rho} {ds:List D} (h:f ρ= .ok ds):fL f ρ= .ok (.lst ds):=by unfold fL;rw[h,ok_bind]
theorem comp_of {N:List Str} {names:List (Str×NameKind)} {fi:Rho->R (List D)} {g:D->Rho->R Rho} {gt:Rho->R Bool} {fe:Rho->R D} {ρ τ:Rho} {ds es:List D} (h:fi ρ= .ok ds) (hl:ds.length<=lim) (hr:inRho N names ρ=τ) (hc:compF g gt fe ds τ= .ok es):
  fComp N names fi g gt fe ρ= .ok es:=by
 unfold fComp
 rw[h,ok_bind,if_pos hl,hr,hc]
theorem own_of {i:Nat} {f:Rho->R (List D)} {ρ:Rho} {ds:List D} (h:f ρ= .ok ds):gOwn i f ρ= .ok (.nx (ρ.set i (some (.own (.lst ds))))):=by unfold gOwn;rw[h,ok_bind]
theorem f2_of {g:D->D->Option D} {fa fb:Rho->R D} {ρ:Rho} {a b d:D} (h:fa ρ= .ok a) (h2:fb ρ= .ok b) (h3:g a b=some d):f2 g fa fb ρ= .ok d:=by unfold f2;rw[h,ok_bind,h2,ok_bind,h3,of_some]
end L2.Pu
namespace L2.Pu
theorem data_val (d:D):(Slot.val d).data=d:=rfl
theorem data_own (d:D):(Slot.own d).data=d:=rfl
theorem data_bor (d:D):(Slot.bor d).data=d:=rfl
end L2.Pu
namespace L2.Pu
open PySem PySem.Spec PyProof.Rows
variable {ly:List Lay}
noncomputable def keyInts:List (Key×D)->Option (List Int)
 |[]=>some []
 |(.inl i,_)::r=>(keyInts r).map (i::·)
 |(.inr _,_)::_=>none
noncomputable def cSortedA:List D->Option D
 |[.lst ds]=>(asInts ds).bind fun ns=>if ns.length<64 then some (.lst ((sortI ns).map .int))else none
 |[.dic kds]=>(keyInts kds).bind fun ns=>if ns.length<64 then some (.lst ((sortI ns).map .int))else none
 |_=>none
theorem keyInts_rep {K:PySem.W.Frag} {F:Hp}:∀{ds:List (Key×D)} {ns:List Int} {vs:List (Key×V)},keyInts ds=some ns->RepK K F vs ds->vs.map (·.1)=ns.map Sum.inl:=by
 intro ds
 induction ds with
 |nil=>intro ns vs h r;rw[r.nilI];cases h;rfl
 |cons d r ih=>
  intro ns vs h rr
  obtain⟨k,d⟩:=d
  obtain⟨v,us,rfl,_,t⟩:=rr.consI
  cases k with
  |inr i=>cases h
  |inl i=>
   replace h:(keyInts r).map (i::·)=some ns:=h
   cases e:keyInts r with
   |none=>rw[e]at h;cases h
   |some ms=>
    rw[e]at h
    cases h
    rw[List.map_cons,List.map_cons,ih e t]
noncomputable def rSortedA (K:PySem.W.Frag):List V->Hp->VK->Prop:=fun xs H Q=>
 (∃p ns,xs=[.ref p]/\SqL K H p (ns.map V.int)/\ns.length<64/\∀l,H l=none->Q (.ref l) (upd H l (.lst ((sortI ns).map V.int))))\/
 ∃p kvs ns,xs=[.ref p]/\H p=some (.dK kvs)/\kvs.map (·.1)=ns.map Sum.inl/\ns.length<64/\∀l,H l=none->Q (.ref l) (upd H l (.lst ((sortI ns).map V.int)))
theorem call_sortedA {X:Cx} (hc:X.calm=true):CallR X (.builtin "sorted") (rSortedA X.K):=call_sortedI.or (call_sortedD hc)
theorem sem_sortedA {K:PySem.W.Frag}:SemC K (rSortedA K) cSortedA:=by
 intro vs ds d H F Q s rv h k
 match ds,h with
 |[.lst xs],h=>exact .inl (sem_sorted vs _ d H F Q s rv h k)
 |[.dic xs],h=>
  obtain⟨v,rfl,r⟩:=rv.one
  obtain⟨a,ws,rfl,h1,h2,_⟩:=r.dic s
  replace h:((keyInts xs).bind fun ns=>if ns.length<64 then some (D.lst ((sortI ns).map .int))else none)=some d:=h
  cases e:keyInts xs with
  |none=>rw[e]at h;cases h
  |some ns=>
   rw[e]at h
   replace h:(if ns.length<64 then some (D.lst ((sortI ns).map .int))else none)=some d:=h
   split at h
   ·rename_i hl
    cases h
    refine .inr ⟨a,ws,ns,rfl,h1,keyInts_rep e h2,hl,fun l hl'=> ?_⟩
    have e:=Ext.lay (o:= .lst ((sortI ns).map V.int)) s hl'
    exact k _ _ _ e (.lst upd_same (reps_ints _))
   ·cases h
section
variable {X:Cx} {a b:Expr} {fs:Rho->R (List D)} {pos p1 p2 pos2:Pos}
end
end L2.Pu
namespace L2.Pu
open PySem PySem.Spec PyProof.Rows
variable {ly:List Lay}
theorem while_step {gt:Rho->R Bool} {gb:Rho->R Out} {n:Nat} {ρ ρ':Rho} (h1:gt ρ= .ok true) (h2:gb ρ= .ok (.nx ρ')):whileF gt gb (n+1) ρ=whileF gt gb n ρ':=by
 rw[whileF,h1,ok_bind,if_pos rfl,h2,ok_bind]
theorem while_end {gt:Rho->R Bool} {gb:Rho->R Out} {n:Nat} {ρ:Rho} (h1:gt ρ= .ok false):whileF gt gb (n+1) ρ= .ok (.nx ρ):=by
 rw[whileF,h1,ok_bind,if_neg (by simp)]
theorem while_mono {gt:Rho->R Bool} {gb:Rho->R Out}:∀{n:Nat} {ρ:Rho} {o:Out} (k:Nat),whileF gt gb n ρ= .ok o->whileF gt gb (n+k) ρ= .ok o
 |0,ρ,o,k,h=>by cases h
 |n+1,ρ,o,k,h=>by
  rw[Nat.add_right_comm]
  rw[whileF]at h ⊢
  obtain⟨b,h1,h⟩:=bind_ok h
  rw[h1,ok_bind]
  cases b with
  |false=>exact h
  |true=>
   rw[if_pos rfl]at h ⊢
   obtain⟨o',h2,h⟩:=bind_ok h
   rw[h2,ok_bind]
   cases o' with
   |nx ρ'=>exact while_mono k h
   |cnt ρ'=>exact while_mono k h
   |brk ρ'=>exact h
   |ret d=>exact h
end L2.Pu
namespace L2.Pu
open PySem PySem.Spec PyProof.Rows
variable {ly:List Lay}
section
variable {X:Cx} {a:Expr} {fa:Rho->R D} {pos p1 p2 pos2:Pos}
noncomputable def fTupRev (f:Rho->R D):Rho->R D:=fun ρ=>f ρ>>=fun d=>match d with
 | .lst ds=> .ok (.tup ds.reverse)
 |_=> .bad
theorem q_tupRev (hc:X.calm=true) (hmt:X.mg "tuple"=none) (hmr:X.mg "reversed"=none) (ha:PB ly X a fa) (hgt:Gl X "tuple":=by rfl) (hgr:Gl X "reversed":=by rfl)
  (he1:starEach [a] X.env=(false,eval a X.env)::starEach [] X.env:=by rfl) (hpl1:(backTo pos2 (starEach [] X.env)).any (·.1)=false:=by rfl)
  (he2:starEach [.Call (.Name "reversed" p2) [a] [] pos2] X.env=(false,eval (.Call (.Name "reversed" p2) [a] [] pos2) X.env)::starEach [] X.env:=by rfl) (hpl2:(backTo pos (starEach [] X.env)).any (·.1)=false:=by rfl):
  PQ ly X (.Call (.Name "tuple" p1) [.Call (.Name "reversed" p2) [a] [] pos2] [] pos) (fTupRev fa):=fun c=>
 PE.weak (pe_tupRev hc (ha c) hmt hmr hgt hgr he1 hpl1 he2 hpl2) fun σ H Q ⟨F,ρ,ri,w⟩=>⟨F,ρ,ri,(Want.bind.mp w).imp fun d _ w1 v H1 F1 e1 r1=>by
  cases d with
  |lst ds=>
   obtain⟨p,vs,rfl,h1,h2⟩:=r1.lst e1.sub
   refine⟨p,vs,rfl,SqL.of h1,fun l hl=> ?_⟩
   have e2:=Ext.lay (o:= .tup vs.reverse) e1.sub hl
   exact w1 _ _ _ (e1.trans e2) (.tup upd_same (h2.reverse.mono e2.grow))
  |_=>exact w1.elim⟩
end
section
variable {K:PySem.W.Frag}
noncomputable def pairD:List D->Option (List (Key×D))
 |[]=>some []
 | .tup [k,v]::r=>(keyOf k).bind fun key=>(pairD r).map fun ps=>(key,v)::ps
 |_::_=>none
noncomputable def cDict:List D->Option D
 |[.lst ds]=>(pairD ds).map fun ps=> .dic (mergeD [] ps)
 |[.tup ds]=>(pairD ds).map fun ps=> .dic (mergeD [] ps)
 |_=>none
theorem pairD_rep {H F:Hp} (s:Same F H):∀{ds:List D} {vs:List V} {ps:List (Key×D)},pairD ds=some ps->Reps K F vs ds->∃kvs,PairsAt H vs kvs/\RepK K F kvs ps:=by
 intro ds
 induction ds with
 |nil=>intro vs ps h r;cases r.nilI;cases h;exact⟨[], .nil, .nil⟩
 |cons d r ih=>
  intro vs ps h rr
  obtain⟨k,v,rfl⟩:∃k v,d= .tup [k,v]:=by
   cases d with
   |tup xs=>
    cases xs with
    |nil=>cases h
    |cons k xs=>
     cases xs with
     |nil=>cases h
     |cons v xs=>
      cases xs with
      |nil=>exact⟨k,v,rfl⟩
      |cons _ _=>cases h
   |_=>cases h
  obtain⟨v0,us,rfl,r1,t⟩:=rr.consI
  obtain⟨a0,xs,rfl,ha,r2⟩:=r1.tupI
  obtain⟨k1,us1,rfl,rk,t1⟩:=r2.consI
  obtain⟨v1,us2,rfl,rv,t2⟩:=t1.consI
  cases t2.nilI
  replace h:(keyOf k).bind (fun key=>(pairD r).map fun ps=>(key,v)::ps)=some ps:=h
  cases hk:keyOf k with
  |none=>rw[hk]at h;cases h
  |some key=>
   rw[hk]at h
   replace h:(pairD r).map (fun ps=>(key,v)::ps)=some ps:=h
   cases hr:pairD r with
   |none=>rw[hr]at h;cases h
   |some qs=>
    rw[hr]at h
    cases h
    obtain⟨kvs,h1,h2⟩:=ih hr t
    cases keyOf_rep (H:=H) hk (.inl rk)
    exact⟨_, .cons (s _ _ ha) h1, .cons rv h2⟩
theorem sem_dict:SemC K (fun xs H Q=>∃p ys ps,xs=[.ref p]/\(H p=some (.lst ys)\/H p=some (.tup ys))/\PairsAt H ys ps/\∀l,H l=none->Q (.ref l) (upd H l (.dK (mergeK [] ps)))) cDict:=by
 intro vs ds d H F Q s rv h k
 have fin:∀{xs:List D} {ws:List V} {a:Addr},Reps K F ws xs->(pairD xs).map (fun ps=>D.dic (mergeD [] ps))=some d->(H a=some (.lst ws)\/H a=some (.tup ws))->
   ∃p ys ps,[V.ref a]=[V.ref p]/\(H p=some (.lst ys)\/H p=some (.tup ys))/\PairsAt H ys ps/\∀l,H l=none->Q (.ref l) (upd H l (.dK (mergeK [] ps))):=by
  intro xs ws a h2 h h1
  cases e:pairD xs with
  |none=>rw[e]at h;cases h
  |some ps=>
   rw[e]at h
   cases h
   obtain⟨kvs,g1,g2⟩:=pairD_rep s e h2
   refine⟨a,ws,kvs,rfl,h1,g1,fun l hl=> ?_⟩
   have e:=Ext.lay (o:= .dK (mergeK [] kvs)) s hl
   obtain⟨m1,m2⟩:=RepK.merge (g2.mono e.grow) .nil List.nodup_nil
   exact k _ _ _ e (.dic upd_same m1 m2)
 match ds,h with
 |[.lst xs],h=>
  obtain⟨v,rfl,r⟩:=rv.one
  obtain⟨a,ws,rfl,h1,h2⟩:=r.lst s
  exact fin h2 h (.inl h1)
 |[.tup xs],h=>
  obtain⟨v,rfl,r⟩:=rv.one
  obtain⟨a,ws,rfl,h1,h2⟩:=r.tup s
  exact fin h2 h (.inr h1)
end
end L2.Pu
namespace L2.Pu
open PySem PySem.Spec PyProof.Rows
variable {ly:List Lay}
structure ClsAt (K:PySem.W.Frag) (x:Str) (C:Addr):Prop where
 ns:PySem.W.nsIn K mainGlobals x=some (some (.ref C))
 cl:Cls K C
theorem RepF.nilI {K:PySem.W.Frag} {F:Hp} {vs:List (Str×V)} (h:RepF K F vs []):vs=[]:=by cases h;rfl
theorem RepF.consI {K:PySem.W.Frag} {F:Hp} {vs:List (Str×V)} {k:Str} {d:D} {ds:List (Str×D)} (h:RepF K F vs ((k,d)::ds)):∃v us,vs=(k,v)::us/\Rep K F v d/\RepF K F us ds:=by
 cases h with
 |cons r t=>exact⟨_,_,rfl,r,t⟩
theorem RepF.get {K:PySem.W.Frag} {F:Hp} {f:Str} {d:D} {vs:List (Str×V)} {ds:List (Str×D)} (g:RepF K F vs ds):ds.lookup f=some d->∃v,(f,v)∈vs/\Rep K F v d:=by
 induction ds generalizing vs with
 |nil=>intro h;cases h
 |cons p ds ih=>
  intro h
  obtain⟨v,us,e0,r,t⟩:=RepF.consI (k:=p.1) (d:=p.2) g
  subst e0
  rw[List.lookup_cons]at h
  cases e:f==p.1 with
  |true=>rw[e]at h;cases h;cases eq_of_beq e;exact⟨v,List.mem_cons_self,r⟩
  |false=>
   rw[e]at h
   obtain⟨v',h1,h2⟩:=ih t h
   exact⟨v',List.mem_cons_of_mem _ h1,h2⟩
theorem RepF.names {K:PySem.W.Frag} {F:Hp} {vs:List (Str×V)} {ds:List (Str×D)} (g:RepF K F vs ds):vs.map (·.1)=ds.map (·.1):=by
 induction ds generalizing vs with
 |nil=>rw[g.nilI];rfl
 |cons p ds ih=>
  obtain⟨v,us,e0,_,t⟩:=RepF.consI (k:=p.1) (d:=p.2) g
  rw[e0,List.map_cons,List.map_cons,ih t]
theorem lookup_none_of {α:Type} {f:Str}:∀{ds:List (Str×α)},ds.lookup f=none->f∉ds.map (·.1)
 |[],_=>by simp
 |(k,v)::ds,h=>by
  rw[List.lookup_cons]at h
  cases e:f==k with
  |true=>rw[e]at h;cases h
  |false=>
   rw[e]at h
   rw[List.map_cons]
   intro z
   rcases List.mem_cons.mp z with z|z
   ·rw[z]at e;simp at e
   ·exact lookup_none_of h z
theorem RepB.ins {K:PySem.W.Frag} {H F:Hp} {v:V} {x:Str} {fds:List (Str×D)} (s:Same F H):RepB K H F v (.ins x fds)->∃a C dx fs vs,v= .ref a/\H a=some (.ins C dx fs)/\PySem.W.nsIn K mainGlobals x=some (some (.ref C))/\(∀p∈vs,fs.lookup p.1=some p.2)/\(∀f v,fs.lookup f=some v->f∈vs.map (·.1))/\RepF K F vs fds:=fun h=>by
 obtain⟨a,C,dx,fs,vs,e,h,r⟩:=h.in rfl
 exact⟨a,C,dx,fs,vs,e,s _ _ h,r⟩
section
variable {X:Cx} {a o e:Expr} {es:List Expr} {fa fo:Rho->R D} {fs:Rho->R (List D)} {pos apos p:Pos} {cls f m x:Str} {C:Addr}
noncomputable def fFld (cls f:Str) (fa:Rho->R D):Rho->R D:=fun ρ=>fa ρ>>=fun d=>match d with
 | .ins y fds=>if y=cls then R.of (fds.lookup f)else .bad
 |_=> .bad
theorem q_fld (T:ClsAt X.K cls C) (n:NoAttr X.K C f) (ha:PB ly X a fa) (hb:attributeBase a f X.env (eval a X.env)=eval a X.env:=by rfl):PQ ly X (.Attribute a f pos) (fFld cls f fa):=fun c=>
 PE.weak (pe_fld (ha c) hb) fun σ H Q ⟨F,ρ,ri,w⟩=>⟨F,ρ,ri,(Want.bind.mp w).imp fun d _ w1 v H1 F1 e1 r1=>by
  cases d with
  |ins y fds=>
   dsimp only at w1
   split at w1
   ·rename_i hy
    subst hy
    obtain⟨d',hd,k⟩:=w1.of
    obtain⟨a,C',dx,fs,vs,rfl,h1,h2,h3,h4,h5⟩:=r1.ins e1.sub
    have ec:C'=C:=by rw[T.ns]at h2;cases h2;rfl
    subst ec
    obtain⟨u,hu,ru⟩:=h5.get hd
    exact⟨a,C',dx,fs,u,rfl,h1,T.cl,n,h3 _ hu,k u H1 F1 e1 ru⟩
   ·exact w1.elim
  |_=>exact w1.elim⟩
structure MethAt (P:Program) (w:World) (K:PySem.W.Frag) (mg:Str->Option Value) (base:Heap) (k:Nat) (cls m:Str) (n:Nat) (r:List D->R D):Prop where
 ex:∃C f fd ps,FnOk P w K mg base (CXE P w) k f fd ps (spQ K n r)/\ClsAt K cls C/\Meth K C m f/\Binds K fd ps []
noncomputable def fMeth (cls m:Str) (n:Nat) (r:List D->R D) (fo:Rho->R D) (fs:Rho->R (List D)):Rho->R D:=fun ρ=>fo ρ>>=fun d=>match d with
 | .ins y fds=>if y=cls/\fds.lookup m=none then (fs ρ>>=fun ds=>if ds.length+1=n then (match r (d::ds)with| .ok z=> .ok z| .err x _=> .err x ρ| .bad=> .bad)else .bad)else .bad
 |_=> .bad
theorem meth_in {c:Ctx ly} {r:List D->R D} {n:Nat} {σ:St} {H:Hp} {Q:VK} (T:ClsAt X.K cls C) (h:tQ X.K c (fMeth cls m n r fo fs) σ H Q):tMeth C m (spQ X.K n r) [] (xkQ X c) (tQ X.K c fo) (tAs X.K c fs) σ H Q:=by
 obtain⟨F,ρ,ri,w⟩:=h
 refine⟨F,ρ,ri,(Want.bind.mp w).imp fun d hd w1 v H1 F1 e1 r1=> ?_⟩
 cases d with
 |ins y fds=>
  dsimp only at w1
  split at w1
  ·rename_i hy
   obtain⟨rfl,hm⟩:=hy
   obtain⟨a,C',dx,fs',vs,rfl,h1,h2,h3,h4,h5⟩:=RepB.ins e1.sub (H:=H1) (.inl r1)
   have ec:C'=C:=by rw[T.ns]at h2;cases h2;rfl
   subst ec
   have hno:fs'.lookup m=none:=by
    cases e:fs'.lookup m with
    |none=>rfl
    |some v=>
     have:=h4 m v e
     rw[h5.names]at this
     exact absurd this (lookup_none_of hm)
   refine⟨a,dx,fs',rfl,h1,hno,F1,ρ,ri.step e1,(Want.bind.mp w1).imp fun ds _ w2 us H2 F2 e2 r2=> ?_⟩
   show spQ X.K n r (V.ref a::(us++[])) H2 Q (xkQ X c σ)
   rw[List.append_nil]
   split at w2
   ·rename_i hl
    refine⟨by rw[List.length_cons,r2.length];exact hl,F2,_,e2.sub, .cons (r1.mono e2.grow) r2,?_⟩
    split at w2
    ·rename_i z hz
     try rw[hz]
     exact fun v H' F' e' r'=>w2 v H' F' ((e1.trans e2).trans e') r'
    ·rename_i z _ hz
     try rw[hz]
     exact fun cls a H' F' ec e'=>⟨_,ρ,F',ec,ri.step ((e1.trans e2).trans e'),w2⟩
    ·exact w2.elim
   ·exact w2.elim
  ·exact w1.elim
 |_=>exact w1.elim
theorem q_meth {k n:Nat} {r:List D->R D} {pl:Sem Bool} (G:MethAt X.prog X.w X.K X.mg X.base k cls m n r) (hr:Room k X.A) (ho:PQ ly X o fo) (ha:PAQ ly X (e::es) fs)
  (hst:starEach (e::es) X.env=(false,eval e X.env)::starEach es X.env:=by rfl) (hpl:(backTo pos (starEach es X.env)).any (·.1)=false:=by rfl)
  (ht:eval (.Call (.Attribute o m apos) (e::es) [] pos) X.env=(do
   let ov<-eval o X.env
   standAt apos.atName
   let (f,first)<-holding [ov] (getMethod ov m pl)
   callWith pos f first (backTo pos (starEach (e::es) X.env)) (backToKw pos (keywordEach [] X.env))):=by rfl):
  PQ ly X (.Call (.Attribute o m apos) (e::es) [] pos) (fMeth cls m n r fo fs):=by
 obtain⟨C,f,fd,ps,h1,h2,h3,h4⟩:=G.ex
 exact fun c=>PE.weak (pe_meth (pl:=pl) (ho c) h2.cl h3 h1 hr h4 .nil (passE c) (ha c) hst hpl ht) fun σ H Q h=>meth_in h2 h
theorem q_meth0 {k n:Nat} {r:List D->R D} {pl:Sem Bool} (G:MethAt X.prog X.w X.K X.mg X.base k cls m n r) (hr:Room k X.A) (ho:PQ ly X o fo)
  (ht:eval (.Call (.Attribute o m apos) [] [] pos) X.env=(do
   let ov<-eval o X.env
   standAt apos.atName
   let (f,first)<-holding [ov] (getMethod ov m pl)
   callWith pos f first (backTo pos (starEach [] X.env)) (backToKw pos (keywordEach [] X.env))):=by rfl):
  PQ ly X (.Call (.Attribute o m apos) [] [] pos) (fMeth cls m n r fo fNil):=by
 obtain⟨C,f,fd,ps,h1,h2,h3,h4⟩:=G.ex
 refine fun c=>PE.weak (pe_meth0 (pl:=pl) (ho c) h2.cl h3 h1 hr h4 .nil (passE c) ht) fun σ H Q h=> ?_
 obtain⟨F,ρ,ri,w⟩:=meth_in h2 h
 refine⟨F,ρ,ri,w.imp fun d _ k v H1 F1 e1 r1=> ?_⟩
 obtain⟨a,dx,fs',g1,g2,g3,F2,ρ2,ri2,w2⟩:=k v H1 F1 e1 r1
 exact⟨a,dx,fs',g1,g2,g3,w2 [] H1 F2 (Ext.refl ri2.sub) .nil⟩
theorem Inv.ghost {pins:List (Addr×Obj)} {σ:St} {H:Hp} {s:Shared} (I:Inv X pins σ H s) {i:Nat} {g:Str} {v:Option V} (hi:X.N[i]? =some g) (hv:¬Vis X.env.scope g):Inv X pins (σ.set i v) H s:=by
 refine {I with loc:= ?_,len:=by rw[List.length_set];exact I.len}
 obtain⟨mm,h1,h2⟩:=I.loc
 refine⟨mm,h1,fun j x u e1 e2 e3=> ?_⟩
 by_cases z:i=j
 ·subst z
  rw[hi]at e1
  cases e1
  exact absurd e3 hv
 ·rw[set_get_ne z]at e2
  exact h2 j x u e1 e2 e3
noncomputable def sFldG (K:PySem.W.Frag) (i:Nat) (ta tv:TE) (f:Str):TS:=fun D σ H=>tv σ H fun y H1=>ta σ H1 fun x H2=>∃a C dx fs,x= .ref a/\H2 a=some (.ins C dx fs)/\Cls K C/\NoAttr K C f/\fs.length<1000/\
 D.nx (σ.set i (some y)) (upd H2 a (.ins C dx (putF f y fs)))
theorem ps_fldG {value:Expr} {pos':Pos} {ta tv:TE} {g:Str} (i:Nat) (hi:X.N[i]? =some g) (hvis:¬Vis X.env.scope g) (ha:PE X o ta) (hv:PE X value tv) (hs:swapsWith value (some (.Attribute o f pos')) pos.line X.env=pure false):
  PS X (.Assign [.Attribute o f pos'] value pos) (sFldG X.K i ta tv f):=by
 intro pins s σ H D I h
 refine plainObj_wpAny_Assign_Attribute (thn (hv pins s σ H _ I h) fun u s1 z=> ?_) hs
 obtain⟨y,H1,I1,ry,q⟩:=z
 refine thn (ha pins s1 σ H1 _ I1 q) fun ov s2 z=> ?_
 obtain⟨x,H2,I2,rx,a,C,dx,fs,ex,ea,c,n,l,q2⟩:=z
 subst ex
 obtain rfl:ov=Value.ref a:=rx
 exact setattr_ok I2 ea c n l ry fun s3 I3=>⟨_,_,L2.Pu.Inv.ghost I3 hi hvis,q2⟩
theorem putF_keys (f:Str) (v:V):∀fs:List (Str×V),(putF f v fs).map (·.1)=if f∈fs.map (·.1)then fs.map (·.1)else fs.map (·.1)++[f]
 |[]=>rfl
 |(g,x)::r=>by
  show (if g=f then (g,v)::r else (g,x)::putF f v r).map (·.1)=_
  by_cases e:g=f
  ·subst e;simp
  ·rw[if_neg e,List.map_cons,putF_keys f v r]
   by_cases h:f∈r.map (·.1)
   ·rw[if_pos h,if_pos (by rw[List.map_cons];exact List.mem_cons_of_mem _ h)];rfl
   ·rw[if_neg h,if_neg (by rw[List.map_cons];intro z;exact(List.mem_cons.mp z).elim (fun q=>e q.symm) h)];rfl
theorem nd_putF (f:Str) (v:V) {fs:List (Str×V)} (h:(fs.map (·.1)).Nodup):((putF f v fs).map (·.1)).Nodup:=by
 rw[putF_keys]
 split
 ·exact h
 ·rename_i hf
  refine List.nodup_append.mpr ⟨h,by simp,fun a ha b hb=> ?_⟩
  rw[List.mem_singleton.mp hb]
  intro z;subst z;exact hf ha
theorem nodup_sub_len {α:Type} [DecidableEq α]:∀{l m:List α},l.Nodup->(∀x∈l,x∈m)->l.length<=m.length
 |[],_,_,_=>Nat.zero_le _
 |a::l,m,h,s=>by
  obtain⟨h1,h2⟩:=List.nodup_cons.mp h
  have ha:=s a List.mem_cons_self
  have:=nodup_sub_len (m:=m.erase a) h2 fun x hx=>(List.mem_erase_of_ne (fun z=>h1 (by rw[<-z];exact hx))).mpr (s x (List.mem_cons_of_mem _ hx))
  rw[List.length_erase_of_mem ha]at this
  have hp:0<m.length:=List.length_pos_of_mem ha
  rw[List.length_cons]
  omega
theorem lookup_mem {α:Type} {f:Str}:∀{fs:List (Str×α)},f∈fs.map (·.1)->∃v,fs.lookup f=some v
 |(g,x)::r,h=>by
  rw[List.lookup_cons]
  cases e:f==g with
  |true=>exact⟨x,rfl⟩
  |false=>
   rw[List.map_cons]at h
   rcases List.mem_cons.mp h with z|z
   ·rw[z]at e;simp at e
   ·exact lookup_mem z
theorem RI.fld {K:PySem.W.Frag} {c:Ctx ly} {ρ:Rho} {σ:St} {H F:Hp} (r:RI K c ρ σ H F) {L:Lay} (hL:L∈ly) (hρ:ρ[L.x]? =some (some .obj)) {a dx:Addr} {fs:List (Str×V)} {i:Nat} (hx:σ[L.x]? =some (some (.ref a))) (ha:H a=some (.ins L.C dx fs)) (hf:(f,i)∈L.fl)
  (hn:∀p∈L.fl,p.1=f<->p.2=i) (hxi:L.x≠i) (hoth:∀M∈ly,M≠L->M.x≠i/\∀p∈M.fl,p.2≠i) {v:V} {d:D} (hd:Rep K F v d) (hil:i<σ.length):
  RI K c (ρ.set i (some (.val d))) (σ.set i (some v)) (upd H a (.ins L.C dx (putF f v fs))) F:=by
 obtain⟨b,dx',fs',k0,k1,k2,k3,k4,k5,k6,k7,k8,k9,k10⟩:=r.obj L hL hρ
 rw[hx]at k1
 cases k1
 rw[ha]at k2
 cases k2
 have hne:∀{b:Addr} {o:HO},H b=some o->RepO K F o d->b≠a:=fun {b o} e q z=>by subst z;rw[ha]at e;cases e;cases q
 refine⟨⟨fun x y e=> ?_,fun x y e=> ?_,r.ext.grow,r.ext.new⟩,fun j e q=> ?_,fun j e q=> ?_,fun j e q=> ?_,r.bh,fun j k e e' x q1 q2 q3 q4=> ?_,by simp[r.len],fun M hM hq=> ?_,fun M hM M' hM' q01 q02 x q1 q2=> ?_,r.fm⟩
 ·rw[upd_ne (fun z=>by rw[z,k4]at e;cases e)];exact r.sub x y e
 ·rw[upd_ne (fun z=>by rw[z,k6]at e;cases e)];exact r.ext.keep x y e
 ·rcases get_set q with ⟨rfl,z,l⟩|⟨z,q⟩
  ·cases z;exact⟨v,set_get hil,hd⟩
  ·rw[set_get_ne z];exact r.val j e q
 ·rcases get_set q with ⟨rfl,z,l⟩|⟨z,q⟩
  ·cases z
  ·obtain⟨x,o,g1,g2,g3,g4,g5⟩:=r.own j e q
   have nx:x≠a:=fun z=>by subst z;rw[ha]at g2;cases g2;cases g5
   exact⟨x,o,by rw[set_get_ne z];exact g1,by rw[upd_ne nx];exact g2,g3,g4,g5⟩
 ·rcases get_set q with ⟨rfl,z,l⟩|⟨z,q⟩
  ·cases z
  ·rw[set_get_ne z];exact r.bor j e q
 ·rcases get_set q1 with ⟨rfl,z,l⟩|⟨z,q1⟩
  ·cases z
  ·rcases get_set q2 with ⟨rfl,z',l⟩|⟨z',q2⟩
   ·cases z'
   ·rw[set_get_ne z]at q3;rw[set_get_ne z']at q4
    exact r.dis j k e e' x q1 q2 q3 q4
 ·by_cases hML:M=L
  ·subst hML
   refine⟨a,dx,putF f v fs,k0,by rw[set_get_ne hxi.symm];exact hx,upd_same,?_,k4,k5,k6,k7,fun p hp=> ?_,fun g u hu=> ?_,nd_putF _ _ k10⟩
   ·rw[upd_ne (fun z=>by rw[z,ha]at k3;cases k3)];exact k3
   ·rw[lookup_putF]
    by_cases e:p.1=f
    ·rw[if_pos e,(hn p hp).mp e,set_get hil];rfl
    ·rw[if_neg e,set_get_ne (fun z=>e ((hn p hp).mpr z.symm))];exact k8 p hp
   ·rw[lookup_putF]at hu
    by_cases e:g=f
    ·subst e;exact List.mem_map.mpr ⟨_,hf,rfl⟩
    ·rw[if_neg e]at hu;exact k9 g u hu
  ·have ho:=hoth M hM hML
   rw[set_get_ne ho.1.symm]at hq
   obtain⟨b,dy,gs,g0,g1,g2,g3,g4,g5,g6,g7,g8,g9⟩:=r.obj M hM hq
   have nb:b≠a:=fun z=>hML (r.odis M hM L hL hq hρ a (by rw[<-z];exact g1) hx)
   have nd:dy≠a:=fun z=>by subst z;rw[ha]at g3;cases g3
   refine⟨b,dy,gs,g0,by rw[set_get_ne ho.1.symm];exact g1,by rw[upd_ne nb];exact g2,by rw[upd_ne nd];exact g3,g4,g5,g6,g7,fun p hp=> ?_,g9⟩
   rw[set_get_ne (ho.2 p hp).symm];exact g8 p hp
 ·have hxs:∀M∈ly,M.x≠i:=fun M hM=>by
   by_cases hML:M=L
   ·subst hML;exact hxi
   ·exact(hoth M hM hML).1
  rw[set_get_ne (hxs M hM).symm]at q1 q01
  rw[set_get_ne (hxs M' hM').symm]at q2 q02
  exact r.odis M hM M' hM' q01 q02 x q1 q2
noncomputable def gFld (x:Nat) (g:Rho->R Out):Rho->R Out:=fun ρ=>match ρ[x]? with
 |some (some .obj)=>g ρ
 |_=> .bad
theorem gFld_in {c:Ctx ly} {x:Nat} {g:Rho->R Out} {ρ:Rho} {P:Out->Prop} (w:Want c (gFld x g ρ) P):ρ[x]? =some (some .obj)/\Want c (g ρ) P:=by
 unfold gFld at w
 split at w
 ·rename_i h;exact⟨h,w⟩
 ·exact w.elim
structure FldAt (ly:List Lay) (L:Lay) (f:Str) (i:Nat):Prop where
 mem:L∈ly
 fl:(f,i)∈L.fl
 un:∀p∈L.fl,p.1=f<->p.2=i
 x:L.x≠i
 oth:∀M∈ly,M≠L->M.x≠i/\∀p∈M.fl,p.2≠i
 few:L.fl.length<1000
theorem s_fldG {value:Expr} {pos' px:Pos} {fv:Rho->R D} {y g:Str} {L:Lay} (i:Nat) (hC:Cls X.K L.C) (n:NoAttr X.K L.C f) (A:FldAt ly L f i) (hv:PQ ly X value fv) (hN:X.N[L.x]? =some y:=by rfl) (hvy:Vis X.env.scope y:=by first|exact Or.inl rfl|exact Or.inr (Or.inl rfl)|exact Or.inr (Or.inr rfl)) (hd:(y==("__debug__":Str))=false:=by decide)
  (hcd:(y==("__classdict__":Str))=false:=by decide) (hi:X.N[i]? =some g:=by rfl) (hvis:¬Vis X.env.scope g:=by decide+kernel) (hs:swapsWith value (some (.Attribute (.Name y px) f pos')) pos.line X.env=pure false:=by rfl):
  PSQ ly X (.Assign [.Attribute (.Name y px) f pos'] value pos) (gFld L.x (gAsg fv (gN i))):=fun c pins s σ H D I q=>by
 refine ps_fldG i hi hvis (pv L.x hN hvy hd hcd) (hv c) hs pins s σ H D I ?_
 obtain⟨F,ρ,ri,w⟩:=q
 obtain⟨hρ,w⟩:=gFld_in w
 refine⟨F,ρ,ri,(Want.bind.mp w).imp fun d _ w1 v H1 F1 e1 r1=> ?_⟩
 have ri1:=ri.step e1
 obtain⟨a,dx,fs,h0,h1,h2,h3,h4,h5,h6,h7,h8,h9,h10⟩:=ri1.obj L A.mem hρ
 have hil:i<σ.length:=by rw[I.len];exact(List.getElem?_eq_some_iff.mp hi).1
 have hlen:fs.length<1000:=by
  have:=nodup_sub_len (m:=L.fl.map (·.1)) h10 fun x hx=>by
   obtain⟨v,e⟩:=lookup_mem hx
   exact h9 x v e
  rw[List.length_map,List.length_map]at this
  exact Nat.lt_of_le_of_lt this A.few
 refine⟨.ref a,h1,a,L.C,dx,fs,rfl,h2,hC,n,hlen,?_⟩
 exact w1 _ _ F1 e1.grow (ri1.fld A.mem hρ h1 h2 A.fl A.un A.x A.oth r1 hil)
end
end L2.Pu
namespace L2.Pu
open PySem PySem.Spec PyProof.Rows
variable {ly:List Lay}
section
variable {X:Cx} {pos px:Pos} {f y:Str}
noncomputable def fSelf (x:Nat) (g:Rho->R D):Rho->R D:=fun ρ=>match ρ[x]? with
 |some (some .obj)=>g ρ
 |_=> .bad
end
noncomputable def fieldsOf:List (Str×Nat)->Rho->Option (List (Str×D))
 |[],_=>some []
 |p::r,ρ=>match ρ[p.2]? with
  |some (some (.val d))=>(fieldsOf r ρ).map fun t=>(p.1,d)::t
  |_=>none
noncomputable def startI (n:Nat) (ds:List D):Rho:=some Slot.obj::startR n ds
noncomputable def endI (fl:List (Str×Nat)) (ρ:Rho):R (List (Str×D)):=match ρ[0]? with
 |some (some Slot.obj)=>R.of (fieldsOf fl ρ)
 |_=> .bad
noncomputable def runInit (k n:Nat) (fl:List (Str×Nat)) (g:Rho->R Out) (ds:List D):R (List (Str×D)):=if ds.length=k then g (startI n ds)>>=fun o=>match o with
 | .nx ρ=>endI fl ρ
 |_=> .bad else .bad
noncomputable def spInit (K:PySem.W.Frag) (C:Addr) (cls:Str) (k:Nat) (mi:List D->R (List (Str×D))):Sp:=fun vs H Q E=>∃F x dx us ds Hz,vs= .ref x::us/\us.length=k/\Same F Hz/\Hz x=none/\Hz dx=none/\dx≠x/\H=upd (upd Hz dx (.own x)) x (.ins C dx [])/\Reps K F us ds/\match mi ds with
 | .ok fds=>∀H' F',Ext Hz F H' F'->Rep K F' (.ref x) (.ins cls fds)->Q .non H'
 | .err z _=>∀ec a H' F',ErrCls K z ec->Ext Hz F H' F'->E ec a H'
 | .bad=>False
theorem fields_rep {K:PySem.W.Frag} {c:Ctx ly} {ρ:Rho} {σ:St} {H F:Hp} (ri:RI K c ρ σ H F) {fs:List (Str×V)}:∀{fl:List (Str×Nat)} {fds:List (Str×D)},fieldsOf fl ρ=some fds->(∀p∈fl,fs.lookup p.1=(σ[p.2]?).join)->
  ∃vs:List (Str×V),RepF K F vs fds/\vs.map (·.1)=fl.map (·.1)/\∀p∈vs,fs.lookup p.1=some p.2
 |[],fds,h,_=>by cases h;exact⟨[], .nil,rfl,fun p hp=>by cases hp⟩
 |p::fl,fds,h,hl=>by
  unfold fieldsOf at h
  split at h
  ·rename_i d hd
   cases e:fieldsOf fl ρ with
   |none=>rw[e]at h;cases h
   |some t=>
    rw[e]at h
    cases h
    obtain⟨vs,h1,h2,h3⟩:=fields_rep ri e fun q hq=>hl q (List.mem_cons_of_mem _ hq)
    obtain⟨v,g1,g2⟩:=ri.val _ d hd
    refine⟨(p.1,v)::vs, .cons g2 h1,by rw[List.map_cons,List.map_cons,h2],fun q hq=> ?_⟩
    rcases List.mem_cons.mp hq with rfl|hq
    ·have:=hl p List.mem_cons_self
     rw[this,g1];rfl
    ·exact h3 q hq
  ·cases h
theorem ri_startI {K:PySem.W.Frag} {N:List Str} {C x dx:Addr} {fl:List (Str×Nat)} {Hz F:Hp} {us:List V} {ds:List D} {Er:Str->Rho->Prop} {n:Nat} (hn:N.length=n+1) (s:Same F Hz) (hx:Hz x=none) (hdx:Hz dx=none) (hne:dx≠x) (r:Reps K F us ds) (hus:us.length<=n) (hg:∀p∈fl,us.length<p.2):
  RI K (⟨Hz,F,fun _=>none,Er,fun _=>some x,fun _=>none⟩:Ctx [⟨0,C,fl⟩]) (startI n ds) (start N (.ref x::us)) (upd (upd Hz dx (.own x)) x (.ins C dx [])) F:=by
 have keep:Same Hz (upd (upd Hz dx (.own x)) x (.ins C dx [])):=(same_upd hdx).trans (same_upd (by rw[upd_ne (Ne.symm hne)];exact hx))
 have hv:∀(i:Nat) sl,(startI n ds)[i]? =some (some sl)->(i=0/\sl= .obj)\/∃j d,i=j+1/\ds[j]? =some d/\sl= .val d:=fun i sl h=>by
  cases i with
  |zero=>exact .inl ⟨rfl,by cases h;rfl⟩
  |succ j=>
   have h':(startR n ds)[j]? =some (some sl):=h
   refine .inr ?_
   unfold startR at h'
   rw[List.getElem?_append]at h'
   split at h'
   ·rw[List.getElem?_map]at h'
    cases e:ds[j]? with
    |none=>rw[e]at h';cases h'
    |some d=>rw[e]at h';simp at h';exact⟨j,d,rfl,e,h'.symm⟩
   ·rw[List.getElem?_replicate]at h'
    split at h'<;>simp at h'
 have hs0:(start N (V.ref x::us))[0]? =some (some (V.ref x)):=rfl
 refine⟨⟨s.trans keep,keep,Same.refl _,fun _ h=> .inl h⟩,fun i d h=> ?_,fun i d h=> ?_,fun i d h=> ?_,(fun b o e=>by cases e),fun i j d d' a h=> ?_,?_,fun L hL _=> ?_,fun L hL L' hL' _ _ a _ _=> ?_,(fun _ _ e=>by cases e)⟩
 ·obtain⟨rfl,z⟩|⟨j,d',rfl,e,z⟩:=hv i _ h
  ·cases z
  cases z
  obtain⟨v,h1,h2⟩:=r.get e
  refine⟨v,?_,h2⟩
  unfold start
  have hl:j<us.length:=(List.getElem?_eq_some_iff.mp h1).1
  rw[List.getElem?_append_left (by simpa using hl),List.getElem?_map]
  show (us[j]?).map some=_
  rw[h1]
  rfl
 ·obtain⟨_,z⟩|⟨j,d',_,_,z⟩:=hv i _ h<;>cases z
 ·obtain⟨_,z⟩|⟨j,d',_,_,z⟩:=hv i _ h<;>cases z
 ·obtain⟨_,z⟩|⟨j,d',_,_,z⟩:=hv i _ h<;>cases z
 ·simp only[startI,startR,start,List.length_cons,List.length_append,List.length_map,List.length_replicate,hn]
  have:=r.length
  omega
 ·rw[List.mem_singleton.mp hL]
  refine⟨x,dx,[],(fun b hb=>by cases hb;rfl),hs0,upd_same,?_,s.free hx,s.free hdx,hx,hdx,fun p hp=> ?_,(fun f v h=>by cases h),List.nodup_nil⟩
  ·rw[upd_ne hne];exact upd_same
  ·have hp2:=hg p hp
   show none=_
   unfold start
   rw[List.getElem?_append_right (by simp;omega),List.getElem?_replicate]
   split<;>rfl
 ·rw[List.mem_singleton.mp hL,List.mem_singleton.mp hL']
theorem ri_endI {K:PySem.W.Frag} {C:Addr} {cls:Str} {fl:List (Str×Nat)} {c:Ctx [⟨0,C,fl⟩]} {ρ:Rho} {σ:St} {H F:Hp} {fds:List (Str×D)} {x:Addr} (ri:RI K c ρ σ H F) (hρ:ρ[0]? =some (some .obj)) (hoa:c.oa 0=some x) (hns:PySem.W.nsIn K mainGlobals cls=some (some (.ref C))) (h:fieldsOf fl ρ=some fds):
  ∃F',Ext c.H0 c.F0 H F'/\Rep K F' (.ref x) (.ins cls fds):=by
 obtain⟨a,dx,fs,h0,h1,h2,h3,h4,h5,h6,h7,h8,h9,h10⟩:=ri.obj _ (List.mem_singleton.mpr rfl) hρ
 cases h0 x hoa
 obtain⟨vs,g1,g2,g3⟩:=fields_rep ri h h8
 have hne:dx≠x:=fun z=>by rw[z,h2]at h3;cases h3
 have s1:Same F (upd F dx (.own x)):=same_upd h5
 have s2:Same (upd F dx (.own x)) (upd (upd F dx (.own x)) x (.ins C dx fs)):=same_upd (by rw[upd_ne (Ne.symm hne)];exact h4)
 have sF:=s1.trans s2
 refine⟨upd (upd F dx (.own x)) x (.ins C dx fs),⟨fun b u e=> ?_,ri.ext.keep,ri.ext.grow.trans sF,fun b e=> ?_⟩, .ins upd_same (by rw[upd_ne hne];exact upd_same) hns g3 (fun f v e=>by rw[g2];exact h9 f v e) (g1.mono sF)⟩
 ·by_cases z:b=x
  ·subst z;rw[upd_same]at e;rw[<-e];exact h2
  ·rw[upd_ne z]at e
   by_cases z2:b=dx
   ·subst z2;rw[upd_same]at e;rw[<-e];exact h3
   ·rw[upd_ne z2]at e;exact ri.sub b u e
 ·by_cases z:b=x
  ·subst z;exact .inr h6
  ·rw[upd_ne z]at e
   by_cases z2:b=dx
   ·subst z2;exact .inr h7
   ·rw[upd_ne z2]at e;exact ri.ext.new b e
theorem fn_init {P:Program} {w:World} {K:PySem.W.Frag} {mg:Str->Option Value} {base:Heap} {x qual cls:Str} {st:Stmt} {f C:Addr} {fd:FuncData} {N ps:List Str} {k n m:Nat} {fl:List (Str×Nat)} {g:Rho->R Out} (F:Fun K x qual st f fd) (S:FnScope N ps (defScope st))
  (hns:PySem.W.nsIn K mainGlobals cls=some (some (.ref C))) (hn:ps.length=n+1) (hm:N.length=m+1) (hg:∀p∈fl,n<p.2) (hnm:n<=m)
  (hbody:∀(cdv:Value) (A:Around) (outer:List Env) (s:Shared) (H:Hp) (E:XK),Room k (A.deeper (envOfC qual (defScope st) s.heap.objs.size f cdv))->
   PSsQ [⟨0,C,fl⟩] (cxOf (CXE P w) P w K mg base N qual (defScope st) f cdv A outer s H E) (defBody st) g):FnOk P w K mg base (CXE P w) (k+1) f fd ps (spInit K C cls n (runInit n m fl g)):=by
 refine okE F S (fun vs H Q E h=> ?_) (fun cdv A outer s H vs Q E hr h=> ?_)
 ·obtain⟨Fz,y,dy,us,ds,Hz,rfl,hl,_⟩:=h
  rw[List.length_cons,hl,hn]
 ·obtain⟨Fz,y,dy,us,ds,Hz,rfl,hl,sub,hy,hdy,hne,rfl,r,w⟩:=h
  refine⟨_,hbody cdv A outer s _ E hr ⟨⟨Hz,Fz,fun _=>none,fun z _=>∀ec a H' F',ErrCls K z ec->Ext Hz Fz H' F'->E ec a H',fun _=>some y,fun _=>none⟩,thr_of fun z ρ er ec a H' F' σ hc ri=>er ec a H' F' hc ri.ext⟩,?_⟩
  refine⟨Fz,startI m ds,ri_startI hm sub hy hdy hne r (by omega) (fun p hp=>by rw[hl];exact hg p hp),?_⟩
  have hd:ds.length=n:=by rw[<-r.length];exact hl
  unfold runInit at w
  rw[if_pos hd]at w
  cases e:g (startI m ds)with
  |bad=>rw[e]at w;exact w.elim
  |err c ρ=>rw[e]at w;exact w
  |ok o=>
   rw[e]at w
   cases o with
   |nx ρ=>
    intro σ' H' F' _ ri'
    rw[ok_bind]at w
    split at w
    ·rename_i fds hf
     replace hf:endI fl ρ= .ok fds:=hf
     unfold endI at hf
     split at hf
     ·rename_i hρ
      cases e2:fieldsOf fl ρ with
      |none=>rw[e2]at hf;cases hf
      |some gds=>
       rw[e2]at hf
       cases hf
       obtain⟨F2,x1,x2⟩:=ri_endI ri' hρ rfl hns e2
       exact w H' F2 x1 x2
     ·cases hf
    ·rename_i z ρe hf
     replace hf:endI fl ρ= .err z ρe:=hf
     unfold endI at hf
     split at hf
     ·cases e2:fieldsOf fl ρ<;>rw[e2]at hf<;>cases hf
     ·cases hf
    ·exact w.elim
   |_=>exact w.elim
structure InitAt (P:Program) (w:World) (K:PySem.W.Frag) (mg:Str->Option Value) (base:Heap) (k:Nat) (cls:Str) (n:Nat) (mi:List D->R (List (Str×D))):Prop where
 ex:∃C f fd ps,FnOk P w K mg base (CXE P w) k f fd ps (spInit K C cls n mi)/\mg cls=some (.ref C)/\Mk K C f/\Binds K fd ps []
section
variable {X:Cx} {e:Expr} {es:List Expr} {fs:Rho->R (List D)} {cls:Str} {p pos:Pos}
noncomputable def fMake (cls:Str) (n:Nat) (mi:List D->R (List (Str×D))) (fs:Rho->R (List D)):Rho->R D:=fun ρ=>fs ρ>>=fun ds=>if ds.length=n then (match mi ds with| .ok fds=> .ok (.ins cls fds)| .err x _=> .err x ρ| .bad=> .bad)else .bad
theorem q_make {k n:Nat} {mi:List D->R (List (Str×D))} (G:InitAt X.prog X.w X.K X.mg X.base k cls n mi) (hr:Room (k+1) X.A) (ha:PAQ ly X (e::es) fs) (hg:Gl X cls:=by rfl) (hdb:(cls==("__debug__":Str))=false:=by decide)
  (he:starEach (e::es) X.env=(false,eval e X.env)::starEach es X.env:=by rfl) (hpl:(backTo pos (starEach es X.env)).any (·.1)=false:=by rfl):PQ ly X (.Call (.Name cls p) (e::es) [] pos) (fMake cls n mi fs):=by
 obtain⟨C,f,fd,ps,h1,h2,h3,h4⟩:=G.ex
 refine fun c=>PE.weak (pe_make h3 h1 hr hg h2 h4 .nil (passE c) (ha c) hdb he hpl) fun σ H Q ⟨F,ρ,ri,w⟩=>⟨F,ρ,ri,(Want.bind.mp w).imp fun ds _ w1 vs H1 F1 e1 r1 x dx hx hdx hne=> ?_⟩
 rw[List.append_nil]
 split at w1
 ·rename_i hl
  refine⟨F1,x,dx,vs,ds,H1,rfl,by rw[r1.length];exact hl,e1.sub,hx,hdx,hne,rfl,r1,?_⟩
  split at w1
  ·rename_i fds hm
   exact fun H' F' e' r'=>⟨rfl,w1 _ H' F' (e1.trans e') r'⟩
  ·exact fun ec a H' F' hc e'=>⟨_,ρ,F',hc,ri.step (e1.trans e'),w1⟩
  ·exact w1.elim
 ·exact w1.elim
end
end L2.Pu
namespace L2.Pu
open PySem PySem.Spec PyProof.Rows
variable {ly:List Lay}
section
variable {X:Cx} {e:Expr} {es:List Expr} {fs:Rho->R (List D)} {x:Str} {np cpos pos:Pos}
structure ErrAt (K:PySem.W.Frag) (mg:Str->Option Value) (x:Str):Prop where
 ex:∃C,PySem.W.nsIn K mainGlobals x=some (some (.ref C))/\mg x=some (.ref C)/\ErrK K C
noncomputable def gRaise (x:Str) (fs:Rho->R (List D)):Rho->R Out:=fun ρ=>fs ρ>>=fun ds=>if ds.length<=lim then .err x ρ else .bad
theorem raise_in {c:CtxT ly X} {C:Addr} {σ:St} {H:Hp} {D:Ends} {ρ:Rho} {F:Hp} (hns:PySem.W.nsIn X.K mainGlobals x=some (some (.ref C)))
  (thr:∀pins σ ρ H F s a cls x,Inv X pins σ H s->RI X.K c.1 ρ σ H F->Fl X pins H s.heap a cls->ErrCls X.K x cls->c.1.Er x ρ->X.xe (.ref a) s)
  (ri:RI X.K c.1 ρ σ H F) (w:Want c.1 (gRaise x fs ρ) (EndOk X.K c.1 F D)):tRaise X C (tAs X.K c.1 fs) D σ H:=by
 refine⟨F,ρ,ri,(Want.bind.mp w).imp fun ds _ w1 vs H1 F1 e1 r1=> ?_⟩
 split at w1
 ·rename_i hl
  exact⟨Nat.le_trans (by rw[r1.length];exact hl) lim_le,fun pins s a I fl=>thr pins σ ρ H1 F1 s a _ x I (ri.step e1) fl ⟨C,rfl,hns⟩ w1⟩
 ·exact w1.elim
theorem raise_no {c:Ctx ly} {ρ:Rho} {F:Hp} {D:Ends} (no:∀x ρ,¬c.Er x ρ) (w:Want c (gRaise x fs ρ) (EndOk X.K c F D)):False:=by
 unfold gRaise at w
 cases h:fs ρ with
 |bad=>rw[h]at w;exact w
 |err y ρ'=>rw[h]at w;exact no _ _ w
 |ok ds=>
  rw[h,ok_bind]at w
  split at w
  ·exact no _ _ w
  ·exact w
theorem s_raise (k:ErrAt X.K X.mg x) (hc:X.calm=true) (ha:PAQ ly X (e::es) fs) (hg:Gl X x:=by rfl) (hdb:(x==("__debug__":Str))=false:=by decide)
  (he:starEach (e::es) X.env=(false,eval e X.env)::starEach es X.env:=by rfl) (hpl:(backTo cpos (starEach es X.env)).any (·.1)=false:=by rfl):PSQ ly X (.Raise (some (.Call (.Name x np) (e::es) [] cpos)) none pos) (gRaise x fs):=by
 obtain⟨C,h1,h2,h3⟩:=k.ex
 intro c pins s σ H D I q
 obtain⟨F,ρ,ri,w⟩:=q
 rcases c.2 with ⟨hp,thr⟩|no
 ·exact ps_raise h3 h2 hp hc (ha c) hg hdb he hpl pins s σ H D I (raise_in h1 thr ri w)
 ·exact(raise_no (X:=X) no w).elim
end
noncomputable def unset (i:Nat):Out->Out
 | .nx ρ=> .nx (ρ.set i none)
 | .brk ρ=> .brk (ρ.set i none)
 | .cnt ρ=> .cnt (ρ.set i none)
 | .ret d=> .ret d
noncomputable def gHand (i:Nat) (sub:Str->Bool) (gh:Rho->R Out) (x:Str) (ρ:Rho):R Out:=if sub x=true then (match gh (ρ.set i (some (.val (.exc x))))with
 | .ok o=> .ok (unset i o)
 |_=> .bad)else .bad
noncomputable def gTry (i:Nat) (sub:Str->Bool) (g gh:Rho->R Out):Rho->R Out:=fun ρ=>match g ρ with
 | .err x ρ'=>gHand i sub gh x ρ'
 |r=>r
section
variable {X:Cx} {pins:List (Addr×Obj)} {σ:St} {H:Hp} {s:Shared}
noncomputable abbrev _root_.L2.Cx.inT (X:Cx) (E:Value->Shared->Prop) (pn:List (Addr×Obj)):Cx:={X with xe:=E,pn:=pn}
theorem okT {E:Value->Shared->Prop} {pn:List (Addr×Obj)} (ok:X.Ok):(X.inT E pn).Ok:=
 ⟨ok.mod,ok.kind,ok.glob,ok.blt,ok.above,ok.inj,ok.has,ok.cab,ok.hd,ok.frames,ok.stk,ok.exf,ok.bs,ok.bsz,ok.noex,ok.exfs,ok.funs,ok.frf⟩
theorem inT {E:Value->Shared->Prop} (I:Inv X pins σ H s):Inv (X.inT E (X.pn++pins)) [] σ H s:=⟨okT I.ok,I.os,I.bare,I.base,I.loc,I.cell,I.free,I.freeC,fun p hp=>I.pin p (by simpa using hp),I.hok,I.len⟩
theorem outT {E:Value->Shared->Prop} {pins':List (Addr×Obj)} (ok:X.Ok) (I:Inv (X.inT E (X.pn++pins)) pins' σ H s):Inv X pins σ H s:=⟨ok,I.os,I.bare,I.base,I.loc,I.cell,I.free,I.freeC,fun p hp=>I.pin p (List.mem_append_left _ hp),I.hok,I.len⟩
theorem newT {E:Value->Shared->Prop} {pins':List (Addr×Obj)} {b:Addr} (n:New (X.inT E (X.pn++pins)) pins' H b):New X pins H b:=⟨n.s0,n.no,fun p hp=>n.pin p (List.mem_append_left _ hp)⟩
theorem flT {E:Value->Shared->Prop} {pins':List (Addr×Obj)} {h:Heap} {a:Addr} {cls:Value} (f:Fl (X.inT E (X.pn++pins)) pins' H h a cls):Fl X pins H h a cls:=by
 obtain⟨oe,vs,h1,h2,h3,h4⟩:=f.at_
 refine⟨newT f.new,oe,vs,h1,h2,h3,h4.imp id fun ⟨T,e,t⟩=>⟨T,e,newT t.new,t.ne,t.at_⟩⟩
theorem spT {E:Value->Shared->Prop} {D:Ends} {f:Flow} (ok:X.Ok) (h:SP (X.inT E (X.pn++pins)) [] D f s):SP X pins D f s:=by
 cases f with
 |next=>obtain⟨σ',H',I,q⟩:=h;exact⟨σ',H',outT ok I,q⟩
 |brk=>obtain⟨σ',H',I,q⟩:=h;exact⟨σ',H',outT ok I,q⟩
 |cont=>obtain⟨σ',H',I,q⟩:=h;exact⟨σ',H',outT ok I,q⟩
 |ret u=>obtain⟨v,σ',H',I,r,q⟩:=h;exact⟨v,σ',H',outT ok I,r,q⟩
end
section
variable {K:PySem.W.Frag} {c:Ctx ly} {ρ:Rho} {σ:St} {H F:Hp}
noncomputable def Ctx.er (c:Ctx ly) (F:Hp) (Er:Str->Rho->Prop):Ctx ly:=⟨c.H0,c.F0,c.B,Er,c.oa,F⟩
theorem RI.er {Er:Str->Rho->Prop} (r:RI K c ρ σ H F):RI K (c.er F Er) ρ σ H F:=⟨r.ext,r.val,r.own,r.bor,r.bh,r.dis,r.len,r.obj,r.odis,Same.refl _⟩
theorem RI.unEr {F1:Hp} {Er:Str->Rho->Prop} (r:RI K (c.er F1 Er) ρ σ H F) (m:Same c.Fm F1):RI K c ρ σ H F:=⟨r.ext,r.val,r.own,r.bor,r.bh,r.dis,r.len,r.obj,r.odis,m.trans r.fm⟩
theorem EndOk.er {D:Ends} {o:Out} {F1:Hp} {Er:Str->Rho->Prop} (m:Same c.Fm F1) (h:EndOk K c F D o):EndOk K (c.er F1 Er) F D o:=by
 cases o with
 |nx ρ=>exact fun σ' H' F' s r=>h σ' H' F' s (r.unEr m)
 |brk ρ=>exact fun σ' H' F' s r=>h σ' H' F' s (r.unEr m)
 |cnt ρ=>exact fun σ' H' F' s r=>h σ' H' F' s (r.unEr m)
 |ret d=>exact fun v H' F' s e r=>h v H' F' s e r
end
section
variable {X:Cx} {body suite:List Stmt} {b₀:Stmt} {g gh:Rho->R Out} {cx n:Str} {np hpos pos:Pos} {sub:Str->Bool}
structure Under (K:PySem.W.Frag) (mg:Str->Option Value) (cx:Str) (sub:Str->Bool):Prop where
 ex:∃C,mg cx=some (.ref C)/\∀x cls,sub x=true->ErrCls K x cls->PySem.W.exmOne K cls (.ref C)=some true
theorem s_try (i:Nat) (p:Plain X) (hN:X.N.Nodup) (U:Under X.K X.mg cx sub) (hb:∀E pn,PSsQ ly (X.inT E pn) body g) (hh:∀v,PSsQ ly (X.inH v) (b₀::suite) gh) (hi:X.N[i]? =some n:=by rfl) (hk:X.env.scope.names.lookup n=some .local:=by rfl) (hg:Gl X cx:=by rfl)
  (hdb:(cx==("__debug__":Str))=false:=by decide) (hfr:Free ly i:=by(repeat (first|assumption|exact L2.Pu.free_nil|refine L2.Pu.free_cons ⟨by first|decide|simp,by first|decide|simp⟩ ?_))):PSQ ly X (.Try body [.ExceptHandler (some (.Name cx np)) (some n) (b₀::suite) hpos] [] [] pos) (gTry i sub g gh):=by
 obtain⟨Cc,hm,hsub⟩:=U.ex
 intro c pins s σ H D I q
 obtain⟨F,ρ,ri,w⟩:=q
 refine wpAny_Try_except ?_
 have ok:=I.ok
 let xe':Value->Shared->Prop:=fun e s₁=>wpAny (model X.prog X.w) X.A (noteFrame e X.env) (fun _ s₂=>wpAny (model X.prog X.w) X.A (setFlight e none) (fun _ s₃=>wpAny (model X.prog X.w) X.A (handleBy e X.env [.ExceptHandler (some (.Name cx np)) (some n) (b₀::suite) hpos]) (SP X pins D) X.xe s₃) X.xe s₂) X.xe s₁
 let c':Ctx ly:=c.1.er F fun x ρ'=>Want c.1 (gHand i sub gh x ρ') (EndOk X.K c.1 F D)
 have thr:Thr (X.inT xe' (X.pn++pins)) c':=by
  refine .inl ⟨⟨p.st,p.fr,p.ex⟩,fun pins' σ' ρ' H' F' s' a cls x I' ri' fl ec er=> ?_⟩
  obtain⟨C,rfl,hns⟩:=ec
  have ri0:RI X.K c.1 ρ' σ' H' F':=ri'.unEr ri.fm
  have sF:Same F F':=ri'.fm
  refine noted_fl (outT ok I') p (flT fl) fun h2 I2 f2=> ?_
  replace er:Want c.1 (gHand i sub gh x ρ') (EndOk X.K c.1 F D):=er
  unfold gHand at er
  split at er
  ·rename_i hs
   refine handle_as I2 p f2 hN hi hk hg hm (hsub x _ hs ⟨C,rfl,hns⟩) hdb fun s3 I3=> ?_
   have e2:=Ext.lay (o:= .ext (ExcAt a (.ref C))) ri0.sub f2.new.no
   have ri3:=(ri0.step e2).setVal i hfr (Rep.exc upd_same hns)
   split at er
   ·rename_i o ho
    let D2:Ends:={nx:=fun σ1 H1=>D.nx (σ1.set i none) H1,rt:=D.rt,bk:=fun σ1 H1=>D.bk (σ1.set i none) H1,ct:=fun σ1 H1=>D.ct (σ1.set i none) H1}
    have want:EndOk X.K (c.1.er F fun _ _=>False) (upd F' a (.ext (ExcAt a (.ref C)))) D2 o:=by
     have sFF:=sF.trans e2.grow
     cases o with
     |nx ρ1=>exact fun σ1 H1 F1 s1 r1=>er _ H1 F1 (sFF.trans s1) ((r1.unEr ri.fm).setNone i hfr)
     |brk ρ1=>exact fun σ1 H1 F1 s1 r1=>er _ H1 F1 (sFF.trans s1) ((r1.unEr ri.fm).setNone i hfr)
     |cnt ρ1=>exact fun σ1 H1 F1 s1 r1=>er _ H1 F1 (sFF.trans s1) ((r1.unEr ri.fm).setNone i hfr)
     |ret d=>exact fun v H1 F1 s1 e1 r1=>er v H1 F1 (sFF.trans s1) e1 r1
    have ri4:RI X.K (c.1.er F fun _ _=>False) (ρ'.set i (some (.val (.exc x)))) (σ'.set i (some (.ref a))) (upd H' a (.ext (ExcAt a (.ref C)))) (upd F' a (.ext (ExcAt a (.ref C)))):=⟨ri3.ext,ri3.val,ri3.own,ri3.bor,ri3.bh,ri3.dis,ri3.len,ri3.obj,ri3.odis,sF.trans e2.grow⟩
    refine thn (hh (.ref a) ⟨c.1.er F fun _ _=>False, .no fun _ _ z=>z⟩ pins s3 _ _ D2 I3 ⟨_,_,ri4,by rw[ho];exact want⟩) fun f s4 q4=> ?_
    have gone:∀{σ1 H1},Inv (X.inH (.ref a)) pins σ1 H1 s4->(∀s5,Inv X pins (σ1.set i none) H1 s5->SP X pins D f s5)->wpAny (model X.prog X.w) X.A (do bindName X.env n Value.none;unbindBehindTheSuite X.env n hpos) (fun _ s5=>SP X pins D f s5) X.xe s4:=fun I4 kk=>name_gone (I4.outH ok) hN hi hk kk
    cases f with
    |next=>obtain⟨σ1,H1,I4,q5⟩:=q4;exact gone I4 fun s5 I5=>⟨_,H1,I5,q5⟩
    |brk=>obtain⟨σ1,H1,I4,q5⟩:=q4;exact gone I4 fun s5 I5=>⟨_,H1,I5,q5⟩
    |cont=>obtain⟨σ1,H1,I4,q5⟩:=q4;exact gone I4 fun s5 I5=>⟨_,H1,I5,q5⟩
    |ret u=>obtain⟨v,σ1,H1,I4,r,q5⟩:=q4;exact gone I4 fun s5 I5=>⟨v,_,H1,I5,r,q5⟩
   ·exact er.elim
  ·exact er.elim
 have wb:Want c' (g ρ) (EndOk X.K c' F D):=by
  unfold gTry at w
  cases h:g ρ with
  |bad=>rw[h]at w;exact w
  |err x ρ'=>rw[h]at w;exact w
  |ok o=>rw[h]at w;exact EndOk.er ri.fm w
 refine thn (hb xe' (X.pn++pins) ⟨c',thr⟩ [] s σ H D (inT I) ⟨F,ρ,ri.er,wb⟩) fun f s1 q1=> ?_
 have q2:=spT ok q1
 cases f with
 |next=>exact wpAny_execs_nil q2
 |brk=>exact q2
 |cont=>exact q2
 |ret u=>exact q2
end
section
variable {X:Cx} {a:Expr} {fa:Rho->R D} {x:Str} {p p2 pos:Pos} {tb:Str->Option Bool}
structure IsTab (K:PySem.W.Frag) (v:Value) (tb:Str->Option Bool):Prop where
 ok:∀x b cls,tb x=some b->ErrCls K x cls->PySem.W.kitOne K cls v=some b/\∃C,cls= .ref C/\ErrK K C
noncomputable def fIsE (tb:Str->Option Bool) (f:Rho->R D):Rho->R D:=fun ρ=>f ρ>>=fun d=>match d with
 | .exc x=>R.of ((tb x).map .bl)
 |_=> .bad
noncomputable def rIsE (K:PySem.W.Frag):List V->Hp->VK->Prop:=fun xs H Q=>∃a C v c b,xs=[.ref a,v]/\H a=some (.ext (ExcAt a (.ref C)))/\ErrK K C/\((∃T,v= .ty T/\c= .type T)\/∃C2,v= .ref C2/\c= .ref C2)/\PySem.W.kitOne K (.ref C) c=some b/\Q (.bl b) H
theorem call_isE:CallR X (.builtin "isinstance") (rIsE X.K):=by
 intro pins s σ H xs us Q I rv h
 obtain⟨a,C,v,c,b,rfl,ea,k,hc,e,q⟩:=h
 obtain⟨u,w',rfl,ru,rw'⟩:=vals2 rv
 cases (show u=Value.ref a from ru)
 obtain⟨⟨o,g1,g2⟩,_⟩:=(show ObjOk X.prog X.w H s.heap a (.ext (ExcAt a (.ref C)))from I.hok a _ ea)
 have ew:w'=c:=by
  rcases hc with ⟨T,rfl,rfl⟩|⟨C2,rfl,rfl⟩
  ·exact rw'
  ·exact rw'
 subst ew
 exact PySem.W.kia_one (kitx_exc k) I.kIn ⟨o,g1,g2⟩ e (fun z=>nomatch z) fun tk=>⟨.bl b,H,I.tok tk,rfl,q⟩
theorem RepB.exc {K:PySem.W.Frag} {H F:Hp} {v:V} {x:Str} (s:Same F H):RepB K H F v (.exc x)->∃a C,v= .ref a/\H a=some (.ext (ExcAt a (.ref C)))/\PySem.W.nsIn K mainGlobals x=some (some (.ref C)):=fun h=>by
 obtain⟨a,C,e,h,n⟩:=h.in rfl
 exact⟨a,C,e,s _ _ h,n⟩
theorem isE_in {K:PySem.W.Frag} {c:Ctx ly} {tv:V} {cv:Value} {σ:St} {H:Hp} {Q:VK} (T:IsTab K cv tb) (hv:(∃T,tv= .ty T/\cv= .type T)\/∃C2,tv= .ref C2/\cv= .ref C2) (h:tQ K c (fIsE tb fa) σ H Q):
  tB' K c fa σ H fun v H1=>rIsE K [v,tv] H1 Q:=by
 obtain⟨F,ρ,ri,w⟩:=h
 refine⟨F,ρ,ri,(Want.bind.mp w).imp fun d _ w1 v H1 F1 e1 r1=> ?_⟩
 cases d with
 |exc x=>
  obtain⟨d',hd,k⟩:=w1.of
  cases ht:tb x with
  |none=>rw[ht]at hd;cases hd
  |some b=>
   rw[ht]at hd
   cases hd
   obtain⟨a,C,rfl,h1,h2⟩:=r1.exc e1.sub
   obtain⟨g1,C',g2,g3⟩:=T.ok x b (.ref C) ht ⟨C,rfl,h2⟩
   cases g2
   exact⟨a,C,tv,cv,b,rfl,h1,g3,hv,g1,k _ H1 F1 e1 (.bl b)⟩
 |_=>exact w1.elim
theorem q_isE {C2:Addr} (T:IsTab X.K (.ref C2) tb) (hm:X.mg x=some (.ref C2)) (hm1:X.mg "isinstance"=none) (ha:PB ly X a fa) (hg1:Gl X "isinstance":=by rfl) (hg:Gl X x:=by rfl) (hdb:(x==("__debug__":Str))=false:=by decide)
  (he:starEach [a, .Name x p2] X.env=(false,eval a X.env)::starEach [.Name x p2] X.env:=by rfl) (he2:starEach [.Name x p2] X.env=(false,eval (.Name x p2) X.env)::starEach [] X.env:=by rfl) (hpl:(backTo pos (starEach [.Name x p2] X.env)).any (·.1)=false:=by rfl):
  PQ ly X (.Call (.Name "isinstance" p) [a, .Name x p2] [] pos) (fIsE tb fa):=fun c=>
 PE.weak (pe_callB call_isE hg1 hm1 boot_isi (pa_cons (ha c) (pa_cons (pe_glob hg hm (v:= .ref C2) rfl hdb) pa_nil he2) he) (by decide) (by decide) he hpl) fun σ H Q h=>isE_in T (.inr ⟨C2,rfl,rfl⟩) h
end
end L2.Pu
namespace L2.Pu
open PySem PySem.Spec PyProof.Rows
variable {ly:List Lay}
noncomputable def fstI:D->Option Int
 | .tup (.int k::_)=>some k
 |_=>none
noncomputable def keyR (d:D):Int:=(fstI d).getD 0
noncomputable def rowKeys:List D->Option (List Int)
 |[]=>some []
 |d::r=>(fstI d).bind fun k=>(rowKeys r).map (k::·)
noncomputable def insR (d:D):List D->List D
 |[]=>[d]
 |e::r=>if keyR d<=keyR e then d::e::r else e::insR d r
noncomputable def sortR:List D->List D
 |[]=>[]
 |d::r=>insR d (sortR r)
theorem insR_perm (d:D):∀l:List D,(insR d l).Perm (d::l)
 |[]=> .refl _
 |e::r=>by
  unfold insR
  split
  ·exact .refl _
  ·exact((insR_perm d r).cons e).trans (.swap d e r)
theorem sortR_perm:∀l:List D,(sortR l).Perm l
 |[]=> .refl _
 |d::r=>(insR_perm d _).trans ((sortR_perm r).cons d)
theorem insR_sorted (d:D):∀{l:List D},l.Pairwise (fun a b=>keyR a<=keyR b)->(insR d l).Pairwise (fun a b=>keyR a<=keyR b)
 |[],_=>by simp[insR]
 |e::r,h=>by
  obtain⟨h1,h2⟩:=List.pairwise_cons.mp h
  unfold insR
  split
  ·rename_i hd
   refine List.pairwise_cons.mpr ⟨fun x hx=> ?_,h⟩
   rcases List.mem_cons.mp hx with rfl|hx
   ·exact hd
   ·exact Int.le_trans hd (h1 x hx)
  ·rename_i hd
   refine List.pairwise_cons.mpr ⟨fun x hx=> ?_,insR_sorted d h2⟩
   rcases List.mem_cons.mp ((insR_perm d r).mem_iff.mp hx)with rfl|hx
   ·omega
   ·exact h1 x hx
theorem sortR_sorted:∀l:List D,(sortR l).Pairwise (fun a b=>keyR a<=keyR b)
 |[]=> .nil
 |d::r=>insR_sorted d (sortR_sorted r)
theorem perm_strict:∀{l m:List D},l.Perm m->l.Pairwise (fun a b=>keyR a<keyR b)->m.Pairwise (fun a b=>keyR a<keyR b)->l=m
 |[],m,p,_,_=>(List.Perm.nil_eq p)
 |a::l,[],p,_,_=>absurd p.length_eq (by simp)
 |a::l,b::m,p,h1,h2=>by
  obtain⟨g1,g2⟩:=List.pairwise_cons.mp h1
  obtain⟨k1,k2⟩:=List.pairwise_cons.mp h2
  have e:a=b:=by
   have ha:a∈b::m:=p.mem_iff.mp List.mem_cons_self
   have hb:b∈a::l:=p.mem_iff.mpr List.mem_cons_self
   rcases List.mem_cons.mp ha with z|ha
   ·exact z
   ·rcases List.mem_cons.mp hb with z|hb
    ·exact z.symm
    ·have:=g1 b hb
     have:=k1 a ha
     omega
  subst e
  rw[perm_strict (p.cons_inv) g2 k2]
theorem strict_of {l:List D} (h:l.Pairwise (fun a b=>keyR a<=keyR b)) (nd:(l.map keyR).Nodup):l.Pairwise (fun a b=>keyR a<keyR b):=by
 have:=List.pairwise_map.mp nd
 exact(h.and this).imp fun {x y} ⟨a,b⟩=>by omega
theorem sortR_eq {l m:List D} (p:l.Perm m) (h:m.Pairwise (fun a b=>keyR a<keyR b)):sortR l=m:=by
 have q:=(sortR_perm l).trans p
 refine perm_strict q (strict_of (sortR_sorted l) ?_) h
 refine(q.map keyR).nodup_iff.mpr (List.pairwise_map.mpr (h.imp fun z=>Int.ne_of_lt z))
theorem rowKeys_map:∀{ds:List D} {ks:List Int},rowKeys ds=some ks->ks=ds.map keyR
 |[],ks,h=>by cases h;rfl
 |d::r,ks,h=>by
  replace h:((fstI d).bind fun k=>(rowKeys r).map (k::·))=some ks:=h
  cases e:fstI d with
  |none=>rw[e]at h;cases h
  |some k=>
   rw[e]at h
   cases e2:rowKeys r with
   |none=>rw[e2]at h;cases h
   |some q=>
    rw[e2]at h
    cases h
    rw[List.map_cons,<-rowKeys_map e2]
    simp[keyR,e]
theorem rows_of {K:PySem.W.Frag} {H F:Hp} (s:Same F H):∀{ds:List D} {ks:List Int} {vs:List V},rowKeys ds=some ks->Reps K F vs ds->RowsAt H vs ks:=by
 intro ds
 induction ds with
 |nil=>intro ks vs h r;cases r.nilI;cases h;exact .nil
 |cons d r ih=>
  intro ks vs h rr
  replace h:((fstI d).bind fun k=>(rowKeys r).map (k::·))=some ks:=h
  obtain⟨v0,us,rfl,rv,t⟩:=rr.consI
  obtain⟨k,ds,rfl⟩:∃k ds,d= .tup (.int k::ds):=by
   cases d with
   |tup xs=>
    cases xs with
    |nil=>cases h
    |cons x xs=>
     cases x with
     |int k=>exact⟨k,xs,rfl⟩
     |_=>cases h
   |_=>cases h
  obtain⟨a0,xs,rfl,h1,r2⟩:=rv.tupI
  obtain⟨k1,us1,rfl,rk,t1⟩:=r2.consI
  cases rk.intI
  ·cases e2:rowKeys r with
   |none=>rw[e2]at h;cases h
   |some q=>
    rw[e2]at h
    cases h
    exact .cons (s _ _ h1) (ih e2 t)
theorem reps_pick {K:PySem.W.Frag} {F:Hp} {vs:List V} {ds:List D} (h:Reps K F vs ds):∀q:List Nat,(∀i∈q,i<ds.length)->Reps K F (q.map fun i=>vs.getD i .non) (q.map fun i=>ds.getD i .non)
 |[],_=> .nil
 |i::q,hq=>by
  have hi:=hq i List.mem_cons_self
  obtain⟨v,h1,h2⟩:=h.get (i:=i) (d:=ds[i]) (List.getElem?_eq_getElem hi)
  refine .cons ?_ (reps_pick h q fun j hj=>hq j (List.mem_cons_of_mem _ hj))
  show Rep K F (vs.getD i .non) (ds.getD i .non)
  rw[List.getD_eq_getElem?_getD,List.getD_eq_getElem?_getD,h1,List.getElem?_eq_getElem hi]
  exact h2
theorem placed_sort {ds:List D} {q:List Nat} (p:Placed (ds.map keyR) q):(q.map fun i=>ds.getD i .non)=sortR ds:=by
 obtain⟨p1,p2⟩:=p
 rw[List.length_map]at p1
 have hm:∀i∈q,i<ds.length:=fun i hi=>List.mem_range.mp (p1.mem_iff.mp hi)
 have perm:(q.map fun i=>ds.getD i .non).Perm ds:=by
  refine(p1.map fun i=>ds.getD i .non).trans ?_
  have e:(List.range ds.length).map (fun i=>ds.getD i .non)=ds:=by
   refine List.ext_getElem (by simp) fun i h1 h2=> ?_
   simp[h2]
  rw[e]
 symm
 refine sortR_eq perm.symm ?_
 rw[List.pairwise_map]at p2 ⊢
 refine p2.imp_of_mem fun {a b} ha hb z=> ?_
 have ea:(ds.map keyR).getD a 0=keyR (ds.getD a .non):=by simp[hm a ha]
 have eb:(ds.map keyR).getD b 0=keyR (ds.getD b .non):=by simp[hm b hb]
 rw[ea,eb]at z
 exact z
noncomputable def cSortedR:List D->Option D
 |[.lst ds]=>(rowKeys ds).bind fun ks=>if ks.Nodup/\ks.length<64 then some (.lst (sortR ds))else none
 |[.tup ds]=>(rowKeys ds).bind fun ks=>if ks.Nodup/\ks.length<64 then some (.lst (sortR ds))else none
 |_=>none
noncomputable def rSortedT:List V->Hp->VK->Prop:=fun xs H Q=>∃p ys ks,xs=[.ref p]/\(H p=some (.lst ys)\/H p=some (.tup ys))/\RowsAt H ys ks/\ks.Nodup/\ks.length<64/\∀l q,H l=none->Placed ks q->Q (.ref l) (upd H l (.lst (q.map fun i=>ys.getD i .non)))
theorem sortedT_in {K:PySem.W.Frag} {H F:Hp} {p:Addr} {ys:List V} {ds:List D} {d:D} {Q:VK} (s:Same F H) (hp:H p=some (.lst ys)\/H p=some (.tup ys)) (r:Reps K F ys ds) (h:((rowKeys ds).bind fun ks=>if ks.Nodup/\ks.length<64 then some (D.lst (sortR ds))else none)=some d)
  (k:∀w H' F',Ext H F H' F'->Rep K F' w d->Q w H'):rSortedT [.ref p] H Q:=by
 cases e:rowKeys ds with
 |none=>rw[e]at h;cases h
 |some ks=>
  rw[e]at h
  replace h:(if ks.Nodup/\ks.length<64 then some (D.lst (sortR ds))else none)=some d:=h
  split at h
  ·rename_i hk
   cases h
   refine⟨p,ys,ks,rfl,hp,rows_of s e r,hk.1,hk.2,fun l q hl pl=> ?_⟩
   have ek:=rowKeys_map e
   subst ek
   have e2:=Ext.lay (o:= .lst (q.map fun i=>ys.getD i .non)) s hl
   refine k _ _ _ e2 (.lst upd_same ?_)
   rw[<-placed_sort pl]
   refine(reps_pick r q fun i hi=> ?_).mono e2.grow
   have:=List.mem_range.mp (pl.1.mem_iff.mp hi)
   simpa using this
  ·cases h
theorem sem_sortedR {K:PySem.W.Frag}:SemC K rSortedT cSortedR:=by
 intro vs ds d H F Q s rv h k
 match ds,h with
 |[.lst xs],h=>
  obtain⟨v,rfl,r⟩:=rv.one
  obtain⟨a,ws,rfl,h1,h2⟩:=r.lst s
  exact sortedT_in s (.inl h1) h2 h k
 |[.tup xs],h=>
  obtain⟨v,rfl,r⟩:=rv.one
  obtain⟨a,ws,rfl,h1,h2⟩:=r.tup s
  exact sortedT_in s (.inr h1) h2 h k
noncomputable def cSortedB (ds:List D):Option D:=match cSortedA ds with
 |some d=>some d
 |none=>cSortedR ds
theorem call_sortedB {X:Cx} (hc:X.calm=true):CallR X (.builtin "sorted") (fun xs H Q=>rSortedA X.K xs H Q\/rSortedT xs H Q):=(call_sortedA hc).or call_sortedT
theorem sem_sortedB {K:PySem.W.Frag}:SemC K (fun xs H Q=>rSortedA K xs H Q\/rSortedT xs H Q) cSortedB:=by
 intro vs ds d H F Q s rv h k
 unfold cSortedB at h
 cases e:cSortedA ds with
 |some d'=>rw[e]at h;cases h;exact .inl (sem_sortedA vs ds d H F Q s rv e k)
 |none=>rw[e]at h;exact .inr (sem_sortedR vs ds d H F Q s rv h k)
noncomputable def tN (K:PySem.W.Frag) (c:Ctx ly) (f:Rho->R D):TE:=fun σ H Q=>∃F ρ,RI K c ρ σ H F/\Want c (f ρ) fun d=>∀a o H' F',Ext H F H' F'->H a=none->H' a=some o->F' a=none->RepO K F' o d->Q (.ref a) H'
noncomputable def PN (ly:List Lay) (X:Cx) (e:Expr) (f:Rho->R D):Prop:=∀c:CtxT ly X,PE X e (tN X.K c.1 f)
noncomputable def Sem2N (K:PySem.W.Frag) (r:R2) (g:D->D->Option D):Prop:=∀v u x y d H F Q,Same F H->RepB K H F v x->RepB K H F u y->g x y=some d->(∀a o,H a=none->RepO K F o d->Q (.ref a) (upd H a o))->r v u H Q
section
variable {X:Cx} {a b e:Expr} {es:List Expr} {fa fb f:Rho->R D} {fs:Rho->R (List D)} {pos p:Pos} {x:Str} {id T:String} {rc:List V->Hp->VK->Prop}
theorem own_new {K:PySem.W.Frag} {H F H1 F1:Hp} {d:D} {Q:VK} (e1:Ext H F H1 F1) (k:∀a o H' F',Ext H F H' F'->H a=none->H' a=some o->F' a=none->RepO K F' o d->Q (.ref a) H'):∀a o,H1 a=none->RepO K F1 o d->Q (.ref a) (upd H1 a o):=
 fun a o ha r=>k a o (upd H1 a o) F1 (e1.trans (Ext.layOwn e1.sub ha)) (e1.keep.free ha) upd_same (e1.sub.free ha) r
theorem n_op2 {op:Operator} {r:R2} {g:D->D->Option D} (ho:OpR X (binaryOp op) r) (sem:Sem2N X.K r g) (ha:PB ly X a fa) (hb:PB ly X b fb):PN ly X (.BinOp a op b pos) (f2 g fa fb):=fun c=>
 PE.weak (pe_op ho (ha c) (hb c)) fun σ H Q ⟨F,ρ,ri,w⟩=>⟨F,ρ,ri,(Want.bind.mp w).imp fun x hx w1 v H1 F1 e1 r1=>⟨F1,ρ,ri.step e1,(Want.bind.mp w1).imp fun y hy w2 u H2 F2 e2 r2=>by
  obtain⟨d,hd,k⟩:=w2.of
  exact sem v u x y d H2 F2 Q (e1.trans e2).sub (r1.mono e2) r2 hd (own_new (e1.trans e2) k)⟩⟩
noncomputable def gOwnF (i:Nat) (f:Rho->R D):Rho->R Out:=fun ρ=>f ρ>>=fun d=> .ok (.nx (ρ.set i (some (.own d))))
theorem s_ownN (i:Nat) {x:Str} {pos':Pos} (hN:X.N.Nodup) (h:PN ly X e f) (hi:X.N[i]? =some x:=by rfl) (hx:Loc X.env.scope x:=by first|exact Or.inl rfl|exact Or.inr rfl) (hs:swapsWith e (some (.Name x pos')) pos.line X.env=pure false:=by rfl)
  (hf:X.fn x=true\/X.env.scope.names.lookup x=some .local:=by first|exact .inl rfl|exact .inr rfl|assumption) (hfr:Free ly i:=by(repeat (first|assumption|exact L2.Pu.free_nil|refine L2.Pu.free_cons ⟨by first|decide|simp,by first|decide|simp⟩ ?_))):PSQ ly X (.Assign [.Name x pos'] e pos) (gOwnF i f):=fun c=>
 PS.weak (ps_set hN hi hx (h c) hs hf) fun D σ H ⟨F,ρ,ri,w⟩=>⟨F,ρ,ri,(Want.bind.mp w).imp fun d _ w1 a o H1 F1 e1 n1 h1 f1 r1=>by
  refine w1 _ H1 F1 e1.grow ((ri.step e1).setOwn i hfr h1 f1 (ri.ext.keep.free n1) r1 fun j d' _ hj ej=> ?_)
  obtain⟨b,o',k1,k2,_⟩:=ri.own j d' hj
  rw[ej]at k1
  cases k1
  rw[n1]at k2
  cases k2⟩
end
section
variable {K:PySem.W.Frag}
noncomputable def dMulL:D->D->Option D
 | .lst a, .int k=>if k.natAbs<=lim/\a.length*k.toNat<=lim then some (.lst (List.replicate k.toNat a).flatten)else none
 |_,_=>none
theorem sem_mulN:Sem2N K rMulQ dMulL:=by
 intro v u x y d H F Q s rx ry h k
 unfold dMulL at h
 split at h
 ·rename_i a j
  split at h
  ·rename_i hl
   cases h
   cases ry.int
   obtain⟨p,vs,rfl,h1,h2⟩:=rx.lst s
   refine .inr ⟨p,j,vs,rfl,rfl,h1,by have:=lim_int hl.1;omega,by have:=lim_int hl.1;omega,Nat.le_trans (by rw[h2.length];exact hl.2) lim_le,fun l hl'=> ?_⟩
   exact k _ _ hl' (.lst (h2.rep _))
  ·cases h
 ·cases h
end
end L2.Pu
namespace L2.Pu
open PySem PySem.Spec PyProof.Rows
variable {ly:List Lay}
structure MDefAt (K:PySem.W.Frag) (cls m qual:Str) (st:Stmt) (ps:List Str):Prop where
 ex:∃C f fd,Fun K m qual st f fd/\ClsAt K cls C/\Meth K C m f/\Binds K fd ps []
structure IDefAt (K:PySem.W.Frag) (mg:Str->Option Value) (cls qual:Str) (st:Stmt) (ps:List Str) (fs:List Str):Prop where
 ex:∃C f fd,Fun K "__init__" qual st f fd/\ClsAt K cls C/\mg cls=some (.ref C)/\Mk K C f/\Binds K fd ps []/\∀x∈fs,NoAttr K C x
structure FldOk (K:PySem.W.Frag) (cls:Str) (fs:List Str):Prop where
 ex:∃C,ClsAt K cls C/\∀x∈fs,NoAttr K C x
section
variable {P:Program} {w:World} {K:PySem.W.Frag} {mg:Str->Option Value} {base:Heap}
theorem methAt_of {cls mm qual:Str} {st:Stmt} {N ps:List Str} {k n m:Nat} {g:Rho->R Out} (A:MDefAt K cls mm qual st ps) (S:FnScope N ps (defScope st)) (hn:ps.length=n) (hm:N.length=m)
  (hbody:∀(f:Addr) (cdv:Value) (A:Around) (outer:List Env) (s:Shared) (H:Hp) (E:XK),Room k (A.deeper (envOfC qual (defScope st) s.heap.objs.size f cdv))->
   PSsQ [] (cxOf (CXE P w) P w K mg base N qual (defScope st) f cdv A outer s H E) (defBody st) g):MethAt P w K mg base (k+1) cls mm n (runDef n m g):=by
 obtain⟨C,f,fd,F,h1,h2,h3⟩:=A.ex
 exact⟨C,f,fd,ps,fn_Q F S hn hm fun cdv A outer s H E hr=>hbody f cdv A outer s H E hr,h1,h2,h3⟩
theorem initAt_of {cls qual:Str} {st:Stmt} {N ps fs:List Str} {k n m:Nat} {fl:List (Str×Nat)} {g:Rho->R Out} (A:IDefAt K mg cls qual st ps fs) (S:FnScope N ps (defScope st)) (hn:ps.length=n+1) (hm:N.length=m+1) (hg:∀p∈fl,n<p.2) (hnm:n<=m)
  (hbody:∀(C f:Addr) (cdv:Value) (A:Around) (outer:List Env) (s:Shared) (H:Hp) (E:XK),Cls K C->(∀x∈fs,NoAttr K C x)->Room k (A.deeper (envOfC qual (defScope st) s.heap.objs.size f cdv))->
   PSsQ [⟨0,C,fl⟩] (cxOf (CXE P w) P w K mg base N qual (defScope st) f cdv A outer s H E) (defBody st) g):InitAt P w K mg base (k+1) cls n (runInit n m fl g):=by
 obtain⟨C,f,fd,F,h1,h2,h3,h4,h5⟩:=A.ex
 exact⟨C,f,fd,ps,fn_init F S h1.ns hn hm hg hnm fun cdv A outer s H E hr=>hbody C f cdv A outer s H E h1.cl h5 hr,h2,h3,h4⟩
theorem fldAt1 {C:Addr} {fl:List (Str×Nat)} {f:Str} {i:Nat} (h1:(f,i)∈fl) (h2:∀p∈fl,p.1=f<->p.2=i) (h3:0≠i) (h4:fl.length<1000):FldAt [⟨0,C,fl⟩] ⟨0,C,fl⟩ f i:=
 ⟨List.mem_cons_self,h1,h2,h3,fun M hM hne=>absurd (List.mem_singleton.mp hM) hne,h4⟩
theorem errK_mk {C:Addr} (e1:PySem.W.excIn K C vErr "ValueError.__new__"=true) (e2:PySem.W.findIn K (.ref C) "__getattribute__"=some (some (.builtin "BaseException.__getattribute__"))) (e3:PySem.W.findIn K (.ref C) "__getattr__"=some none)
  (e4:PySem.W.findIn K (.ref C) "__class__"=some (some (.builtin "object.__class__"))) (e5:PySem.W.mroIn K C (.type "object")=some true) (e6:PySem.W.mroIn K C (.type "BaseException")=some true) (e7:PySem.W.kitCls K (.ref C) (.ref C)=some true)
  (e8:PySem.W.specialIn K (.builtin "object.__class__") "__get__"=some (some (.builtin "getset_descriptor.__get__"))) (e9:PySem.W.takesIn K (.builtin "object.__class__")=some true):ErrK K C:=
 ⟨⟨_,_,_,_,e1,F.excBase_ValueError,by decide⟩,e2,e3,e4,e8,e9,e5,e6,e7⟩
theorem exc_cls_in {D:Addr} {bmB:List Value} {nid:String} (e:PySem.W.excIn K D bmB nid=true):((PySem.W.clsIn K D).isSome&&PySem.W.typeIn K (.ref D)==some (.type "type"))=true:=by
 unfold PySem.W.excIn at e
 split at e
 ·rename_i lk
  unfold PySem.W.clsIn PySem.W.typeIn
  simp only[lk]
  rfl
 ·cases e
theorem kitCls_mk {C D:Addr} {b:Bool} {bmB:List Value} {nid:String} (e:PySem.W.excIn K D bmB nid=true) (m:PySem.W.mroIn K C (.ref D)=some b):PySem.W.kitCls K (.ref C) (.ref D)=some b:=by
 unfold PySem.W.kitCls
 dsimp only
 rw[if_pos (exc_cls_in e)]
 exact m
theorem kitOne_mk {C D:Addr} {b:Bool} {bmB:List Value} {nid:String} (e:PySem.W.excIn K D bmB nid=true) (m:PySem.W.mroIn K C (.ref D)=some b) (s:PySem.W.mroIn K C (.ref C)=some true):PySem.W.kitOne K (.ref C) (.ref D)=some b:=by
 unfold PySem.W.kitOne
 split
 ·rename_i h
  have ez:Value.ref C=Value.ref D:=eq_of_beq h
  cases ez
  exact s.symm.trans m
 ·exact kitCls_mk e m
theorem exmOne_mk {C D:Addr} {b:Bool} {bmB:List Value} {nid:String} (e:PySem.W.excIn K D bmB nid=true) (m:PySem.W.mroIn K C (.ref D)=some b) (mb:PySem.W.mroIn K D (.type "BaseException")=some true):PySem.W.exmOne K (.ref C) (.ref D)=some b:=by
 unfold PySem.W.exmOne
 rw[if_pos (by show (PySem.W.mroIn K D (.type "BaseException")==some true)=true;rw[mb];rfl)]
 exact kitCls_mk e m
noncomputable def subL (xs:List Str) (x:Str):Bool:=xs.contains x
theorem under_mk {cx:Str} {C:Addr} {xs:List Str} (hm:mg cx=some (.ref C)) (h:∀x∈xs,∃Ce,PySem.W.nsIn K mainGlobals x=some (some (.ref Ce))/\PySem.W.exmOne K (.ref Ce) (.ref C)=some true):Under K mg cx (subL xs):=by
 refine⟨C,hm,fun x cls hx ⟨C',e,hc⟩=> ?_⟩
 obtain⟨Ce,h1,h2⟩:=h x (by simpa[subL]using hx)
 rw[hc]at h1
 cases h1
 rw[e]
 exact h2
noncomputable def tabL (l:List (Str×Bool)) (x:Str):Option Bool:=l.lookup x
theorem lookup_in {α:Type} {x:Str} {b:α}:∀{l:List (Str×α)},l.lookup x=some b->(x,b)∈l
 |(k,v)::r,h=>by
  rw[List.lookup_cons]at h
  cases e:x==k with
  |true=>rw[e]at h;cases h;cases eq_of_beq e;exact List.mem_cons_self
  |false=>rw[e]at h;exact List.mem_cons_of_mem _ (lookup_in h)
theorem istab_mk {v:Value} {l:List (Str×Bool)} (h:∀p∈l,∃Ce,PySem.W.nsIn K mainGlobals p.1=some (some (.ref Ce))/\PySem.W.kitOne K (.ref Ce) v=some p.2/\ErrK K Ce):IsTab K v (tabL l):=by
 refine⟨fun x b cls hb ⟨C',e,hc⟩=> ?_⟩
 obtain⟨Ce,h1,h2,h3⟩:=h _ (lookup_in hb)
 rw[hc]at h1
 cases h1
 subst e
 exact⟨h2,C',rfl,h3⟩
structure IsAt (K:PySem.W.Frag) (mg:Str->Option Value) (x:Str) (tb:Str->Option Bool):Prop where
 ex:∃C,mg x=some (.ref C)/\IsTab K (.ref C) tb
end
section
variable {X:Cx} {a e o:Expr} {es:List Expr} {fa f fo:Rho->R D} {fs:Rho->R (List D)} {cls fld x m:Str} {p p2 pos apos:Pos} {xs:List Str} {tb:Str->Option Bool}
theorem q_fldO (T:FldOk X.K cls xs) (hf:fld∈xs) (ha:PB ly X a fa) (hb:attributeBase a fld X.env (eval a X.env)=eval a X.env:=by rfl):PQ ly X (.Attribute a fld pos) (fFld cls fld fa):=by
 obtain⟨C,h1,h2⟩:=T.ex
 exact q_fld h1 (h2 fld hf) ha hb
theorem q_isEo (T:IsAt X.K X.mg x tb) (hm1:X.mg "isinstance"=none) (ha:PB ly X a fa) (hg1:Gl X "isinstance":=by rfl) (hg:Gl X x:=by rfl) (hdb:(x==("__debug__":Str))=false:=by decide)
  (he:starEach [a, .Name x p2] X.env=(false,eval a X.env)::starEach [.Name x p2] X.env:=by rfl) (he2:starEach [.Name x p2] X.env=(false,eval (.Name x p2) X.env)::starEach [] X.env:=by rfl) (hpl:(backTo pos (starEach [.Name x p2] X.env)).any (·.1)=false:=by rfl):
  PQ ly X (.Call (.Name "isinstance" p) [a, .Name x p2] [] pos) (fIsE tb fa):=by
 obtain⟨C,h1,h2⟩:=T.ex
 exact q_isE h2 h1 hm1 ha hg1 hg hdb he he2 hpl
noncomputable def gExpr (f:Rho->R D):Rho->R Out:=fun ρ=>f ρ>>=fun _=> .ok (.nx ρ)
theorem s_expr (h:PQ ly X e f) (hsw:swapsWith e none pos.line X.env=pure false:=by rfl):PSQ ly X (.Expr e pos) (gExpr f):=fun c=>
 PS.weak (ps_expr (h c) hsw) fun D σ H ⟨F,ρ,ri,w⟩=>⟨F,ρ,ri,(Want.bind.mp w).imp fun d _ w1 v H1 F1 e1 r1=>w1 σ H1 F1 e1.grow (ri.step e1)⟩
end
theorem cxe_no {P:Program} {w:World} {outer:List Env} {H:Hp} {s s':Shared} {e:Value} (h:CXE P w outer H s (fun _ _ _=>False) e s'):False:=by
 obtain⟨_,_,_,_,_,_,_,_,_,z⟩:=h
 exact z
end L2.Pu
namespace L2.Pu
open PySem PySem.Spec PyProof.Rows
variable {ly:List Lay}
theorem RI.up {K:PySem.W.Frag} {c:Ctx ly} {ρ:Rho} {σ:St} {H F H':Hp} (r:RI K c ρ σ H F) (e:Same H H'):RI K c ρ σ H' F:=r.step ⟨r.sub.trans e,e,Same.refl _,fun _ h=> .inl h⟩
noncomputable def isFlat:D->Bool
 | .non=>true
 | .bl _=>true
 | .int _=>true
 | .str _=>true
 |_=>false
theorem flat_any {K:PySem.W.Frag} {F F':Hp} {v:V} {d:D} (h:isFlat d=true) (r:Rep K F v d):Rep K F' v d:=by
 cases r with
 |non=>exact .non
 |bl b=>exact .bl b
 |int i=>exact .int i
 |str x=>exact .str x
 |_=>cases h
theorem flats_any {K:PySem.W.Frag} {F F':Hp} {vs:List V} {ds:List D} (h:ds.all isFlat=true) (g:Reps K F vs ds):Reps K F' vs ds:=by
 induction ds generalizing vs with
 |nil=>rw[g.nilI];exact .nil
 |cons d ds ih=>
  obtain⟨w,us,e0,r,t⟩:=g.consI
  rw[List.all_cons,Bool.and_eq_true]at h
  rw[e0]
  exact .cons (flat_any h.1 r) (ih h.2 t)
section
variable {X:Cx} {e:Expr} {es:List Expr} {f:Rho->R D} {g:Rho->R Bool} {pos:Pos}
noncomputable def gAsgL (L:List Nat) (f:Rho->R D) (n:Nat) (gs:List D->Rho->R Rho):Rho->R Out:=fun ρ=>f (frz L ρ)>>=fun d=>match d with
 | .lst ds=>if ds.length=n/\ds.all isFlat=true then (gs ds ρ>>=fun ρ'=> .ok (.nx ρ'))else .bad
 | .tup ds=>if ds.length=n/\ds.all isFlat=true then (gs ds ρ>>=fun ρ'=> .ok (.nx ρ'))else .bad
 |_=> .bad
theorem s_asgL (L:List Nat) {k n:Nat} {pt:Pos} {gs:List D->Rho->R Rho} (hc:X.calm=true) (he:PQ ly X e f) (h:PGsQ ly X es gs) (hn:(assignEach es X.env).length=n:=by rfl) (hst:(assignEach es X.env).findIdx? (·.1)=none:=by rfl)
  (hs:swapsWithSole [.Tuple es k pt] e pos.line X.env=pure false:=by rfl) (hw:swappedStores [.Tuple es k pt] e X.env=pure none:=by rfl)
  (h1:(assignEach [.Tuple es k pt] X.env).map (·.2)=[assign (.Tuple es k pt) X.env]:=by rfl):PSQ ly X (.Assign [.Tuple es k pt] e pos) (gAsgL L f n gs):=fun c=>
 PS.weak (ps_asg (he c) (PG.or (pg_tup hc (h c) hn hst) (pg_lst hc (h c) hn hst)) hs hw h1) fun D σ H ⟨F,ρ,ri,w⟩=>by
  obtain⟨F',s,ri'⟩:=ri.frz L
  refine⟨F',_,ri',(Want.bind.mp w).imp fun d _ w1 v H1 F1 e1 r1=> ?_⟩
  have key:∀{ds:List L2.Pu.D} {vs:List V},Reps X.K F1 vs ds->Want c.1 (if ds.length=n/\ds.all isFlat=true then (gs ds ρ>>=fun ρ'=>R.ok (Out.nx ρ'))else .bad) (EndOk X.K c.1 F D)->
    vs.length=n/\tGs X.K c.1 gs vs σ H1 (fun σ' H'=>D.nx σ' H'):=by
   intro ds vs r2 w2
   split at w2
   ·rename_i hl
    refine⟨by rw[r2.length];exact hl.1,F,ρ,ds,ri.up e1.keep,flats_any hl.2 r2,(Want.bind.mp w2).imp fun ρ' _ w3 σ' H' F2 s2 r'=>w3 σ' H' F2 s2 r'⟩
   ·exact w2.elim
  cases r1 with
  | @tup a vs ds g1 g2=>
   obtain⟨k1,k2⟩:=key g2 w1
   exact .inl ⟨a,vs,rfl,SqT.of (e1.sub _ _ g1),k1,k2⟩
  | @lst a vs ds g1 g2=>
   obtain⟨k1,k2⟩:=key g2 w1
   exact .inr ⟨a,vs,rfl,SqL.of (e1.sub _ _ g1),k1,k2⟩
  |_=>exact w1.elim
end
section
variable {X:Cx} {e:Expr} {f:Rho->R D} {pos:Pos}
end
end L2.Pu
namespace L2
open PySem PySem.Spec PyProof.Rows
section
variable {X:Cx} {tg:Expr}
end
end L2
namespace L2.Pu
open PySem PySem.Spec PyProof.Rows
variable {ly:List Lay}
section
variable {X:Cx} {a b d:Expr} {fs:Rho->R (List D)} {pos:Pos}
end
end L2.Pu
namespace L2
open PySem PySem.Spec PyProof.Rows
end L2
namespace L2.Pu
open PySem PySem.Spec PyProof.Rows
variable {ly:List Lay}
end L2.Pu
namespace L2.Pu
section
variable {α:Type} {P:List α->Prop}
theorem el0 (h:P []):∀us:List α,us.length=0->P us:=fun us e=>by
 rw[List.length_eq_zero_iff.mp e];exact h
theorem elS {n:Nat} (h:∀a us,us.length=n->P (a::us)):∀us:List α,us.length=n+1->P us:=fun us e=>by
 cases us with
 |nil=>cases e
 |cons a us=>exact h a us (Nat.succ.inj e)
theorem el1 (h:∀a,P [a]):∀us:List α,us.length=1->P us:=elS fun a=>el0 (P:=fun us=>P (a::us)) (h a)
theorem el2 (h:∀a b,P [a,b]):∀us:List α,us.length=2->P us:=elS fun a=>el1 (P:=fun us=>P (a::us)) (h a)
theorem el3 (h:∀a b c,P [a,b,c]):∀us:List α,us.length=3->P us:=elS fun a=>el2 (P:=fun us=>P (a::us)) (h a)
theorem el4 (h:∀a b c d,P [a,b,c,d]):∀us:List α,us.length=4->P us:=elS fun a=>el3 (P:=fun us=>P (a::us)) (h a)
theorem el5 (h:∀a b c d e,P [a,b,c,d,e]):∀us:List α,us.length=5->P us:=elS fun a=>el4 (P:=fun us=>P (a::us)) (h a)
end
end L2.Pu
namespace My
open PySem PySem.Spec PyProof.Rows L2 L2.Pu
noncomputable def top (i:Nat):Stmt:=PySem.Challenge.pw_tankbalance_k12_ring.main.body.getD i (.Pass ⟨0,0,0,0⟩)
noncomputable abbrev FS_Day:List Str:=["tanks","streams","rises","readings"]
noncomputable abbrev s_steps_from:Stmt:=top 2
noncomputable def b1_steps_from:Rho->R Out:=
 gIf (fT (f2 dEq (fBor 4) (fBor 1)))
  (gApp 2 (fTup (fCons (fVar 3) (fCons (fC (.int 1)) (fCons (fVar 5) (fNil))))))
  (gIf (fT (f2 dEq (fBor 5) (fBor 1)))
  (gApp 2 (fTup (fCons (fVar 3) (fCons (f1 dNeg (fC (.int 1))) (fCons (fVar 4) (fNil))))))
  (gNext))
noncomputable def g_steps_from:Rho->R Out:=
 gSeq (gOwnL 2 (fNil))
  (gSeq (gFor (fSeq (fVar 0)) (gTupT 3 (gsCons (gN 3) (gsCons (gN 4) (gsCons (gN 5) (gsNil))))) (b1_steps_from))
  (gFrz [2] (gRet (fVar 2))))
noncomputable def m_steps_from:List D->R D:=runDef 2 6 g_steps_from
noncomputable abbrev s_arrivals_from:Stmt:=top 3
noncomputable def b1_arrivals_from:Rho->R Out:=
 gIf (fT (f2 (dInA true) (fBor 7) (fBor 2)))
  (gSeq (gPut 2 (fVar 7) (fTup (fCons (fVar 4) (fCons (fTup (fCons (fVar 5) (fCons (fVar 6) (fNil)))) (fNil)))))
  (gApp 3 (fVar 7)))
  (gNext)
noncomputable def b2_arrivals_from:Rho->R Out:=
 gSeq (gPop 4 3 (fC (.int 0)))
  (gFor (fSeq (fCall m_steps_from 2 (fCons (fVar 0) (fCons (fVar 4) (fNil))))) (gTupT 3 (gsCons (gN 5) (gsCons (gN 6) (gsCons (gN 7) (gsNil))))) (b1_arrivals_from))
noncomputable def g_arrivals_from:Rho->R Out:=
 gSeq (gOwnDP 2 [(fVar 1,fC .non)])
  (gSeq (gOwnL 3 (fCons (fVar 1) (fNil)))
  (gSeq (whileF (fT (f2 dGt (f1s cLen (fCons (fBor 3) (fNil))) (fC (.int 0)))) (b2_arrivals_from) 100)
  (gFrz [2] (gRet (fVar 2)))))
noncomputable def m_arrivals_from:List D->R D:=runDef 2 8 g_arrivals_from
noncomputable abbrev s_path_of:Stmt:=top 4
noncomputable def b1_path_of:Rho->R Out:=
 gSeq (gAsg (f2 dIx (fBor 3) (fBor 5)) (gN 6))
  (gSeq (gApp 4 (f2 dIx (fBor 6) (fC (.int 1))))
  (gAsg (f2 dIx (fBor 6) (fC (.int 0))) (gN 5)))
noncomputable def g_path_of:Rho->R Out:=
 gSeq (gAsg (fCall m_arrivals_from 2 (fCons (fVar 0) (fCons (fVar 1) (fNil)))) (gN 3))
  (gSeq (gIf (fT (f2 (dInA true) (fBor 2) (fBor 3)))
  (gRet (fC .non))
  (gNext))
  (gSeq (gOwnL 4 (fNil))
  (gSeq (gAsg (fVar 2) (gN 5))
  (gSeq (whileF (fT (f2 dNe (fBor 5) (fBor 1))) (b1_path_of) 100)
  (gRet (fTupRev (fBor 4)))))))
noncomputable def m_path_of:List D->R D:=runDef 3 7 g_path_of
noncomputable abbrev s_Day_stream:Stmt:=inClass (top 12) 1
noncomputable def b1_Day_stream:Rho->R Out:=
 gIf (fT (f2 dEq (f2 dIx (fBor 2) (fC (.int 0))) (fBor 1)))
  (gRet (fVar 2))
  (gNext)
noncomputable def g_Day_stream:Rho->R Out:=
 gSeq (gFor (fSeq (fFld "Day" "streams" (fBor 0))) (gN 2) (b1_Day_stream))
  (gRaise "UnknownStream" (fCons (fC (.str "no stream of this day has that number")) (fNil)))
noncomputable def m_Day_stream:List D->R D:=runDef 2 3 g_Day_stream
noncomputable abbrev s_Day_metered:Stmt:=inClass (top 12) 2
noncomputable def g_Day_metered:Rho->R Out:=
 gSeq (gAsg (fMeth "Day" "stream" 2 m_Day_stream (fVar 0) (fCons (fVar 1) (fNil))) (gN 2))
  (gRet (f2 (dInA false) (f2 dIx (fBor 2) (fC (.int 0))) (f1s cDict (fCons (fFld "Day" "readings" (fBor 0)) (fNil)))))
noncomputable def m_Day_metered:List D->R D:=runDef 2 3 g_Day_metered
noncomputable abbrev s_Day_without_meter:Stmt:=inClass (top 12) 4
noncomputable def g_Day_without_meter:Rho->R Out:=
 gRet (f1s cTuple (fCons (fL (fComp ["self"] [(".0", .local),("stream", .local),("self", .free)] (fSeq (fFld "Day" "streams" (fBor 0))) (gN 1) (gNot (fTru (fMeth "Day" "metered" 2 m_Day_metered (fVar 2) (fCons (f2 dIx (fBor 1) (fC (.int 0))) (fNil))))) (fVar 1))) (fNil)))
noncomputable def m_Day_without_meter:List D->R D:=runDef 1 1 g_Day_without_meter
noncomputable abbrev s_others_without_meter:Stmt:=top 6
noncomputable def g_others_without_meter:Rho->R Out:=
 gRet (f1s cTuple (fCons (fL (fComp ["day","number"] [(".0", .local),("stream", .local),("number", .free)] (fSeq (fMeth "Day" "without_meter" 1 m_Day_without_meter (fVar 0) fNil)) (gN 1) (fT (f2 dNe (f2 dIx (fBor 1) (fC (.int 0))) (fBor 2))) (fVar 1))) (fNil)))
noncomputable def m_others_without_meter:List D->R D:=runDef 2 2 g_others_without_meter
noncomputable abbrev s_ring_of:Stmt:=top 7
noncomputable def g_ring_of:Rho->R Out:=
 gSeq (gIf (fTru (fMeth "Day" "metered" 2 m_Day_metered (fVar 0) (fCons (fVar 1) (fNil))))
  (gRet (fTup (fNil)))
  (gNext))
  (gSeq (gAsg (fMeth "Day" "stream" 2 m_Day_stream (fVar 0) (fCons (fVar 1) (fNil))) (gN 2))
  (gSeq (gAsg (fCall m_path_of 3 (fCons (fCall m_others_without_meter 2 (fCons (fVar 0) (fCons (fVar 1) (fNil)))) (fCons (f2 dIx (fBor 2) (fC (.int 2))) (fCons (f2 dIx (fBor 2) (fC (.int 1))) (fNil))))) (gN 3))
  (gSeq (gIf (fT (f2 dIsN (fBor 3) (fC .non)))
  (gRet (fTup (fNil)))
  (gNext))
  (gRet (f2 dAdd (fTup (fCons (fTup (fCons (fVar 1) (fCons (fC (.int 1)) (fNil)))) (fNil))) (fBor 3))))))
noncomputable def m_ring_of:List D->R D:=runDef 2 4 g_ring_of
noncomputable abbrev s_Day_init:Stmt:=inClass (top 12) 0
noncomputable def g_Day_init:Rho->R Out:=
 gSeq (gFld 0 (gAsg (fVar 1) (gN 5)))
  (gSeq (gFld 0 (gAsg (f1s cTuple (fCons (f1s cSortedB (fCons (fBor 2) (fNil))) (fNil))) (gN 6)))
  (gSeq (gFld 0 (gAsg (f1s cTuple (fCons (fBor 3) (fNil))) (gN 7)))
  (gFld 0 (gAsg (f1s cTuple (fCons (f1s cSortedB (fCons (fBor 4) (fNil))) (fNil))) (gN 8)))))
noncomputable def fl_Day_init:List (Str×Nat):=[("tanks",5),("streams",6),("rises",7),("readings",8)]
noncomputable def m_Day_init:List D->R (List (Str×D)):=runInit 4 8 fl_Day_init g_Day_init
noncomputable abbrev s_law_at:Stmt:=top 14
noncomputable def g_law_at:Rho->R Out:=
 gSeq (gIf (fT (f2 dLt (fBor 1) (f1s cLen (fCons (fBor 0) (fNil)))))
  (gRet (f2 dIx (fBor 0) (fBor 1)))
  (gNext))
  (gRet (fC (.int 0)))
noncomputable def m_law_at:List D->R D:=runDef 2 2 g_law_at
noncomputable abbrev s_law_cell:Stmt:=top 15
noncomputable def g_law_cell:Rho->R Out:=
 gSeq (gIf (fT (f2 dEq (f2 dMod (fCall m_law_at 2 (fCons (fVar 0) (fCons (fC (.int 0)) (fNil)))) (fC (.int 2))) (fC (.int 0))))
  (gRet (fCall m_law_at 2 (fCons (fVar 0) (fCons (fVar 1) (fNil)))))
  (gNext))
  (gSeq (gAsg (f2 dMod (f2 dMul (f2 dAdd (f2 dAdd (f2 dAdd (fCall m_law_at 2 (fCons (fVar 0) (fCons (fVar 1) (fNil)))) (f2 dFdiv (fCall m_law_at 2 (fCons (fVar 0) (fCons (fC (.int 0)) (fNil)))) (fC (.int 2)))) (f2 dMul (fC (.int 7919)) (fBor 1))) (fC (.int 1))) (fC (.int 48271))) (fC (.int 2147483647))) (gN 2))
  (gRet (f2 dMod (f2 dMul (f2 dAdd (fBor 2) (fBor 1)) (fC (.int 69621))) (fC (.int 2147483647)))))
noncomputable def m_law_cell:List D->R D:=runDef 2 3 g_law_cell
noncomputable abbrev s_law_same:Stmt:=top 16
noncomputable def b1_law_same (rec_:List D->R D):Rho->R Out:=
 gIf (gNot (fTru (fCall rec_ 2 (fCons (f2 dIx (fBor 0) (fBor 2)) (fCons (f2 dIx (fBor 1) (fBor 2)) (fNil))))))
  (gRet (fC (.bl false)))
  (gNext)
noncomputable def g_law_same (rec_:List D->R D):Rho->R Out:=
 gSeq (gIf (fTru (fIsi "tuple" (fBor 1)))
  (gSeq (gIf (gOr (gNot (fTru (fIsi "tuple" (fBor 0)))) (fT (f2 dNe (f1s cLen (fCons (fBor 0) (fNil))) (f1s cLen (fCons (fBor 1) (fNil))))))
  (gRet (fC (.bl false)))
  (gNext))
  (gSeq (gFor (fRange1 (fCons (f1s cLen (fCons (fBor 1) (fNil))) (fNil))) (gN 2) (b1_law_same rec_))
  (gRet (fC (.bl true)))))
  (gNext))
  (gRet (fAndV (fIsi "int" (fBor 0)) (fAndV (fNotV (fIsi "bool" (fBor 0))) (f2 dEq (fBor 0) (fBor 1)))))
noncomputable def mr_law_same:Nat->List D->R D
 |0=>fun _=> .bad
 |n+1=>runDef 2 3 (g_law_same (mr_law_same n))
noncomputable def m_law_same:List D->R D:=mr_law_same 8
noncomputable abbrev s_law_whole:Stmt:=top 17
noncomputable def g_law_whole:Rho->R Out:=
 gRet (fAndV (fIsi "int" (fBor 0)) (fNotV (fIsi "bool" (fBor 0))))
noncomputable def m_law_whole:List D->R D:=runDef 1 1 g_law_whole
noncomputable abbrev s_law_streams:Stmt:=top 18
noncomputable def b1_law_streams:Rho->R Out:=
 gSeq (gAsg (f2 dAdd (f2 dSub (f2 dSub (fC (.int 61)) (fBor 4)) (fBor 2)) (fBor 5)) (gN 6))
  (gSeq (gAsg (fCall m_law_cell 2 (fCons (fVar 0) (fCons (f2 dAdd (fC (.int 5)) (fBor 5)) (fNil)))) (gN 7))
  (gSeq (gAsg (f2 dMod (fBor 7) (fBor 6)) (gN 8))
  (gSeq (gIf (fT (f2 dEq (f2 dMod (f2 dFdiv (fCall m_law_cell 2 (fCons (fVar 0) (fCons (fC (.int 4)) (fNil)))) (fC (.int 8))) (fC (.int 2))) (fC (.int 1))))
  (gAsg (f2 dMod (fBor 8) (fC (.int 4))) (gN 8))
  (gNext))
  (gSeq (gAsg (f2 dAdd (f2 dAdd (fBor 4) (fC (.int 1))) (fBor 8)) (gN 4))
  (gSeq (gAsg (f2 dMod (f2 dFdiv (fBor 7) (fBor 6)) (f2 dAdd (fBor 1) (fC (.int 1)))) (gN 9))
  (gSeq (gAsg (f2 dMod (f2 dAdd (f2 dAdd (fBor 9) (fC (.int 1))) (f2 dMod (f2 dFdiv (f2 dFdiv (fBor 7) (fBor 6)) (f2 dAdd (fBor 1) (fC (.int 1)))) (fBor 1))) (f2 dAdd (fBor 1) (fC (.int 1)))) (gN 10))
  (gApp 3 (fTup (fCons (fVar 4) (fCons (fVar 9) (fCons (fVar 10) (fNil))))))))))))
noncomputable def g_law_streams:Rho->R Out:=
 gSeq (gOwnL 3 (fNil))
  (gSeq (gAsg (fC (.int 0)) (gN 4))
  (gSeq (gFor (fRange1 (fCons (fVar 2) (fNil))) (gN 5) (b1_law_streams))
  (gFrz [3] (gRet (fVar 3)))))
noncomputable def m_law_streams:List D->R D:=runDef 3 11 g_law_streams
noncomputable abbrev s_law_metered:Stmt:=top 19
noncomputable def b1_law_metered:Rho->R Out:=
 gIf (gAnd (fT (f2 dLt (f2 dMod (fCall m_law_cell 2 (fCons (fVar 0) (fCons (f2 dAdd (fC (.int 17)) (fBor 4)) (fNil)))) (fC (.int 4))) (fBor 2))) (fT (f2 dLt (f1s cLen (fCons (fBor 3) (fNil))) (fC (.int 10)))))
  (gApp 3 (f2 dIx (f2 dIx (fBor 1) (fBor 4)) (fC (.int 0))))
  (gNext)
noncomputable def g_law_metered:Rho->R Out:=
 gSeq (gOwnL 3 (fNil))
  (gSeq (gFor (fRange1 (fCons (f1s cLen (fCons (fBor 1) (fNil))) (fNil))) (gN 4) (b1_law_metered))
  (gFrz [3] (gRet (fVar 3))))
noncomputable def m_law_metered:List D->R D:=runDef 3 5 g_law_metered
noncomputable abbrev s_law_span:Stmt:=top 20
noncomputable def g_law_span:Rho->R Out:=
 gSeq (gAsg (f1 dNeg (fBor 3)) (gN 4))
  (gSeq (gAsg (fVar 3) (gN 5))
  (gSeq (gIf (fT (f2 dGt (fBor 1) (fC (.int 0))))
  (gSeq (gAsg (f1s cMax (fCons (fBor 4) (fCons (f2 dSub (f2 dIx (fBor 0) (fBor 1)) (fC (.int 1000))) (fNil)))) (gN 4))
  (gAsg (f1s cMin (fCons (fBor 5) (fCons (f2 dAdd (f2 dIx (fBor 0) (fBor 1)) (fC (.int 1000))) (fNil)))) (gN 5)))
  (gNext))
  (gSeq (gIf (fT (f2 dGt (fBor 2) (fC (.int 0))))
  (gSeq (gAsg (f1s cMax (fCons (fBor 4) (fCons (f2 dSub (f1 dNeg (fC (.int 1000))) (f2 dIx (fBor 0) (fBor 2))) (fNil)))) (gN 4))
  (gAsg (f1s cMin (fCons (fBor 5) (fCons (f2 dSub (fC (.int 1000)) (f2 dIx (fBor 0) (fBor 2))) (fNil)))) (gN 5)))
  (gNext))
  (gRet (fLst (fCons (fVar 4) (fCons (fVar 5) (fNil))))))))
noncomputable def m_law_span:List D->R D:=runDef 4 6 g_law_span
noncomputable abbrev s_law_flows:Stmt:=top 21
noncomputable def b1_law_flows:Rho->R Out:=
 gSeq (gAsg (f2 dIx (fBor 2) (fBor 7)) (gTupT 3 (gsCons (gN 8) (gsCons (gN 9) (gsCons (gN 10) (gsNil))))))
  (gSeq (gAsgL [5] (fCall m_law_span 4 (fCons (fVar 5) (fCons (fVar 9) (fCons (fVar 10) (fCons (f2 dIx (fBor 4) (f1s cInt (fCons (f2 (dInA false) (fBor 8) (fBor 3)) (fNil)))) (fNil)))))) 2 (gsCons (gN 11) (gsCons (gN 12) (gsNil))))
  (gSeq (gAsg (f2 dAdd (fBor 11) (f2 dMod (f2 dIx (fBor 0) (fBor 7)) (f2 dAdd (f2 dSub (fBor 12) (fBor 11)) (fC (.int 1))))) (gN 13))
  (gSeq (gPut 5 (fVar 9) (f2 dSub (f2 dIx (fBor 5) (fBor 9)) (fBor 13)))
  (gSeq (gPut 5 (fVar 10) (f2 dAdd (f2 dIx (fBor 5) (fBor 10)) (fBor 13)))
  (gApp 6 (fTup (fCons (fVar 8) (fCons (fVar 13) (fNil)))))))))
noncomputable def g_law_flows:Rho->R Out:=
 gSeq (gOwnF 5 (f2 dMulL (fLst (fCons (fC (.int 0)) (fNil))) (f2 dAdd (fBor 1) (fC (.int 1)))))
  (gSeq (gOwnL 6 (fNil))
  (gSeq (gFor (fRange1 (fCons (f1s cLen (fCons (fBor 2) (fNil))) (fNil))) (gN 7) (b1_law_flows))
  (gRet (fLst (fCons (f1s cTuple (fCons (fBor 6) (fNil))) (fCons (f1s cTuple (fCons (fSl (fBor 5) (oSome (fC (.int 1))) (oNone)) (fNil))) (fNil)))))))
noncomputable def m_law_flows:List D->R D:=runDef 5 14 g_law_flows
noncomputable abbrev s_law_truth:Stmt:=top 22
noncomputable def g_law_truth:Rho->R Out:=
 gSeq (gOwn 5 (fComp ["_law_script","_law_n","_law_streams_here","_law_metered_here","_law_small","_law_figures"] [(".0", .local),("_law_k", .local),("_law_cell", .globalImplicit),("_law_script", .free)] (fRange1 (fCons (f1s cLen (fCons (fBor 2) (fNil))) (fNil))) (gN 1) (gYes) (f2 dFdiv (fCall m_law_cell 2 (fCons (fVar 3) (fCons (f2 dAdd (fC (.int 17)) (fBor 1)) (fNil)))) (fC (.int 4)))))
  (gFrz [5] (gRet (fCall m_law_flows 5 (fCons (fVar 5) (fCons (fVar 1) (fCons (fVar 2) (fCons (fVar 3) (fCons (f2 dIx (fLst (fCons (fLst (fCons (fC (.int 5000)) (fCons (fC (.int 1000)) (fNil)))) (fCons (fLst (fCons (fC (.int 2)) (fCons (fC (.int 2)) (fNil)))) (fNil)))) (fBor 4)) (fNil)))))))))
noncomputable def m_law_truth:List D->R D:=runDef 5 6 g_law_truth
noncomputable abbrev s_law_readings:Stmt:=top 23
noncomputable def b1_law_readings:Rho->R Out:=
 gSeq (gAsg (f2 dIx (fBor 1) (fBor 6)) (gTupT 2 (gsCons (gN 7) (gsCons (gN 8) (gsNil)))))
  (gSeq (gAsg (fCall m_law_cell 2 (fCons (fVar 0) (fCons (f2 dAdd (fC (.int 29)) (fBor 6)) (fNil)))) (gN 9))
  (gSeq (gIf (fT (f2 (dInA true) (fBor 7) (fBor 2)))
  (gCnt)
  (gNext))
  (gSeq (gIf (gOr (fT (f2 dEq (fBor 3) (fC (.int 3)))) (gAnd (fT (f2 dEq (fBor 3) (fC (.int 1)))) (fT (f2 dEq (f2 dMod (fBor 9) (fC (.int 3))) (fC (.int 0))))))
  (gAsg (f2 dIx (fLst (fCons (f2 dSub (f2 dMod (f2 dFdiv (fBor 9) (fC (.int 3))) (fC (.int 2001))) (fC (.int 1000))) (fCons (f2 dSub (f2 dMod (f2 dFdiv (fBor 9) (fC (.int 3))) (fC (.int 5))) (fC (.int 2))) (fNil)))) (fBor 4)) (gN 8))
  (gNext))
  (gApp 5 (fTup (fCons (fVar 7) (fCons (fVar 8) (fNil))))))))
noncomputable def g_law_readings:Rho->R Out:=
 gSeq (gOwnL 5 (fNil))
  (gSeq (gFor (fRange1 (fCons (f1s cLen (fCons (fBor 1) (fNil))) (fNil))) (gN 6) (b1_law_readings))
  (gFrz [5] (gRet (fVar 5))))
noncomputable def m_law_readings:List D->R D:=runDef 5 10 g_law_readings
noncomputable abbrev s_law_rises:Stmt:=top 24
noncomputable def b1_law_rises:Rho->R Out:=
 gSeq (gAsg (fCall m_law_cell 2 (fCons (fVar 0) (fCons (f2 dAdd (fC (.int 41)) (fBor 5)) (fNil)))) (gN 6))
  (gSeq (gAsg (f2 dIx (fBor 1) (fBor 5)) (gN 7))
  (gSeq (gIf (gOr (fT (f2 dEq (fBor 2) (fC (.int 3)))) (gAnd (fT (f2 dEq (fBor 2) (fC (.int 2)))) (fT (f2 dEq (f2 dMod (fBor 6) (fC (.int 3))) (fC (.int 0))))))
  (gAsg (f2 dIx (fLst (fCons (f2 dSub (f2 dMod (f2 dFdiv (fBor 6) (fC (.int 3))) (fC (.int 2001))) (fC (.int 1000))) (fCons (f2 dSub (f2 dMod (f2 dFdiv (fBor 6) (fC (.int 3))) (fC (.int 5))) (fC (.int 2))) (fNil)))) (fBor 3)) (gN 7))
  (gNext))
  (gApp 4 (fVar 7))))
noncomputable def g_law_rises:Rho->R Out:=
 gSeq (gOwnL 4 (fNil))
  (gSeq (gFor (fRange1 (fCons (f1s cLen (fCons (fBor 1) (fNil))) (fNil))) (gN 5) (b1_law_rises))
  (gFrz [4] (gRet (fVar 4))))
noncomputable def m_law_rises:List D->R D:=runDef 4 8 g_law_rises
noncomputable abbrev s_law_case:Stmt:=top 25
noncomputable def g_law_case:Rho->R Out:=
 gSeq (gAsg (f2 dMod (fCall m_law_cell 2 (fCons (fVar 0) (fCons (fC (.int 1)) (fNil)))) (fC (.int 8))) (gN 1))
  (gSeq (gAsg (fC (.int 0)) (gN 2))
  (gSeq (gIf (fT (f2 dGt (fBor 1) (fC (.int 0))))
  (gAsg (f2 dMod (fCall m_law_cell 2 (fCons (fVar 0) (fCons (fC (.int 2)) (fNil)))) (fC (.int 13))) (gN 2))
  (gNext))
  (gSeq (gAsg (f2 dMod (fCall m_law_cell 2 (fCons (fVar 0) (fCons (fC (.int 4)) (fNil)))) (fC (.int 4))) (gN 3))
  (gSeq (gAsg (f2 dMod (f2 dFdiv (fCall m_law_cell 2 (fCons (fVar 0) (fCons (fC (.int 4)) (fNil)))) (fC (.int 4))) (fC (.int 2))) (gN 4))
  (gSeq (gAsg (fCall m_law_streams 3 (fCons (fVar 0) (fCons (fVar 1) (fCons (fVar 2) (fNil))))) (gN 5))
  (gSeq (gAsg (fCall m_law_metered 3 (fCons (fVar 0) (fCons (fVar 5) (fCons (f2 dMod (fCall m_law_cell 2 (fCons (fVar 0) (fCons (fC (.int 3)) (fNil)))) (fC (.int 5))) (fNil))))) (gN 6))
  (gSeq (gAsg (fCall m_law_truth 5 (fCons (fVar 0) (fCons (fVar 1) (fCons (fVar 5) (fCons (fVar 6) (fCons (fVar 4) (fNil))))))) (gN 7))
  (gSeq (gAsg (fCall m_law_readings 5 (fCons (fVar 0) (fCons (f2 dIx (fBor 7) (fC (.int 0))) (fCons (fVar 6) (fCons (fVar 3) (fCons (fVar 4) (fNil))))))) (gN 8))
  (gSeq (gAsg (fCall m_law_rises 4 (fCons (fVar 0) (fCons (f2 dIx (fBor 7) (fC (.int 1))) (fCons (fVar 3) (fCons (fVar 4) (fNil)))))) (gN 9))
  (gRet (fTup (fCons (fVar 1) (fCons (f1s cTuple (fCons (fBor 5) (fNil))) (fCons (f1s cTuple (fCons (fBor 9) (fNil))) (fCons (f1s cTuple (fCons (fBor 8) (fNil))) (fNil))))))))))))))))
noncomputable def m_law_case:List D->R D:=runDef 1 10 g_law_case
noncomputable abbrev s_law_day:Stmt:=top 26
noncomputable def g_law_day:Rho->R Out:=
 gSeq (gAsg (f2 dMod (fCall m_law_cell 2 (fCons (fVar 0) (fCons (fC (.int 48)) (fNil)))) (fC (.int 4))) (gN 2))
  (gSeq (gIf (fT (f2 dEq (fBor 2) (fC (.int 0))))
  (gRet (fMake "Day" 4 m_Day_init (fCons (f2 dIx (fBor 1) (fC (.int 0))) (fCons (f1s cList (fCons (f2 dIx (fBor 1) (fC (.int 1))) (fNil))) (fCons (f1s cList (fCons (f2 dIx (fBor 1) (fC (.int 2))) (fNil))) (fCons (f1s cList (fCons (f2 dIx (fBor 1) (fC (.int 3))) (fNil))) (fNil)))))))
  (gNext))
  (gSeq (gIf (fT (f2 dEq (fBor 2) (fC (.int 1))))
  (gRet (fMake "Day" 4 m_Day_init (fCons (f2 dIx (fBor 1) (fC (.int 0))) (fCons (fRev (f1s cList (fCons (f2 dIx (fBor 1) (fC (.int 1))) (fNil)))) (fCons (f1s cList (fCons (f2 dIx (fBor 1) (fC (.int 2))) (fNil))) (fCons (fRev (f1s cList (fCons (f2 dIx (fBor 1) (fC (.int 3))) (fNil)))) (fNil)))))))
  (gNext))
  (gSeq (gIf (fT (f2 dEq (fBor 2) (fC (.int 2))))
  (gRet (fMake "Day" 4 m_Day_init (fCons (f2 dIx (fBor 1) (fC (.int 0))) (fCons (f2 dIx (fBor 1) (fC (.int 1))) (fCons (f2 dIx (fBor 1) (fC (.int 2))) (fCons (f2 dIx (fBor 1) (fC (.int 3))) (fNil)))))))
  (gNext))
  (gSeq (gAsg (f2 dFdiv (f1s cLen (fCons (f2 dIx (fBor 1) (fC (.int 1))) (fNil))) (fC (.int 2))) (gN 3))
  (gSeq (gAsg (f2 dFdiv (f1s cLen (fCons (f2 dIx (fBor 1) (fC (.int 3))) (fNil))) (fC (.int 2))) (gN 4))
  (gRet (fMake "Day" 4 m_Day_init (fCons (f2 dIx (fBor 1) (fC (.int 0))) (fCons (f2 dAdd (fSl (f2 dIx (fBor 1) (fC (.int 1))) (oSome (fVar 3)) (oNone)) (fSl (f2 dIx (fBor 1) (fC (.int 1))) (oNone) (oSome (fVar 3)))) (fCons (f2 dIx (fBor 1) (fC (.int 2))) (fCons (f2 dAdd (fSl (f2 dIx (fBor 1) (fC (.int 3))) (oSome (fVar 4)) (oNone)) (fSl (f2 dIx (fBor 1) (fC (.int 3))) (oNone) (oSome (fVar 4)))) (fNil))))))))))))
noncomputable def m_law_day:List D->R D:=runDef 2 5 g_law_day
noncomputable abbrev s_law_kept:Stmt:=top 27
noncomputable def g_law_kept:Rho->R Out:=
 gSeq (gIf (gOr (gNot (fTru (fCall m_law_same 2 (fCons (fFld "Day" "tanks" (fBor 0)) (fCons (f2 dIx (fBor 1) (fC (.int 0))) (fNil)))))) (gNot (fTru (fCall m_law_same 2 (fCons (fFld "Day" "streams" (fBor 0)) (fCons (f2 dIx (fBor 1) (fC (.int 1))) (fNil)))))))
  (gRet (fC (.bl false)))
  (gNext))
  (gRet (fAndV (fCall m_law_same 2 (fCons (fFld "Day" "rises" (fBor 0)) (fCons (f2 dIx (fBor 1) (fC (.int 2))) (fNil)))) (fCall m_law_same 2 (fCons (fFld "Day" "readings" (fBor 0)) (fCons (f2 dIx (fBor 1) (fC (.int 3))) (fNil))))))
noncomputable def m_law_kept:List D->R D:=runDef 2 2 g_law_kept
noncomputable abbrev s_law_loose:Stmt:=top 28
noncomputable def g_law_loose:Rho->R Out:=
 gSeq (gOwn 1 (fComp ["_law_case_here","_law_read"] [(".0", .local),("_law_row", .local)] (fSeq (f2 dIx (fBor 0) (fC (.int 3)))) (gN 1) (gYes) (f2 dIx (fBor 1) (fC (.int 0)))))
  (gRet (fL (fComp ["_law_case_here","_law_read"] [(".0", .local),("_law_stream", .local),("_law_read", .free)] (fSeq (f2 dIx (fBor 0) (fC (.int 1)))) (gN 1) (fT (f2 (dInA true) (f2 dIx (fBor 1) (fC (.int 0))) (fBor 2))) (fVar 1))))
noncomputable def m_law_loose:List D->R D:=runDef 1 2 g_law_loose
noncomputable abbrev s_law_flood:Stmt:=top 29
noncomputable def b1_law_flood:Rho->R Out:=
 gSeq (gIf (gAnd (fT (f2 (dInA false) (fBor 5) (fBor 2))) (fT (f2 (dInA true) (fBor 6) (fBor 2))))
  (gSeq (gApp 2 (fVar 6))
  (gAsg (fC (.bl true)) (gN 3)))
  (gNext))
  (gIf (gAnd (fT (f2 (dInA false) (fBor 6) (fBor 2))) (fT (f2 (dInA true) (fBor 5) (fBor 2))))
  (gSeq (gApp 2 (fVar 5))
  (gAsg (fC (.bl true)) (gN 3)))
  (gNext))
noncomputable def b2_law_flood:Rho->R Out:=
 gSeq (gAsg (fC (.bl false)) (gN 3))
  (gFor (fSeq (fVar 0)) (gTupT 3 (gsCons (gN 4) (gsCons (gN 5) (gsCons (gN 6) (gsNil))))) (b1_law_flood))
noncomputable def g_law_flood:Rho->R Out:=
 gSeq (gOwnL 2 (fCons (fVar 1) (fNil)))
  (gSeq (gAsg (fC (.bl true)) (gN 3))
  (gSeq (whileF (fTru (fBor 3)) (b2_law_flood) 100)
  (gFrz [2] (gRet (fVar 2)))))
noncomputable def m_law_flood:List D->R D:=runDef 2 7 g_law_flood
noncomputable abbrev s_law_is_way:Stmt:=top 30
noncomputable def b1_law_is_way:Rho->R Out:=
 gPut 4 (fVar 5) (fTup (fCons (fVar 6) (fCons (fVar 7) (fNil))))
noncomputable def b2_law_is_way:Rho->R Out:=
 gSeq (gIf (gOr (gNot (fTru (fIsi "tuple" (fBor 9)))) (gOr (fT (f2 dNe (f1s cLen (fCons (fBor 9) (fNil))) (fC (.int 2)))) (gOr (gNot (fTru (fCall m_law_whole 1 (fCons (f2 dIx (fBor 9) (fC (.int 0))) (fNil))))) (gNot (fTru (fCall m_law_whole 1 (fCons (f2 dIx (fBor 9) (fC (.int 1))) (fNil))))))))
  (gRet (fC (.bl false)))
  (gNext))
  (gSeq (gIf (gOr (fT (f2 (dInA true) (f2 dIx (fBor 9) (fC (.int 0))) (fBor 4))) (fT (f2 (dInA true) (f2 dIx (fBor 9) (fC (.int 1))) (fTup (fCons (fC (.int 1)) (fCons (f1 dNeg (fC (.int 1))) (fNil)))))))
  (gRet (fC (.bl false)))
  (gNext))
  (gSeq (gAsg (f2 dIx (fBor 4) (f2 dIx (fBor 9) (fC (.int 0)))) (gTupT 2 (gsCons (gN 6) (gsCons (gN 7) (gsNil)))))
  (gSeq (gIf (fT (f2 dEq (f2 dIx (fBor 9) (fC (.int 1))) (f1 dNeg (fC (.int 1)))))
  (gPar 6 7 (fCons (fVar 7) (fCons (fVar 6) (fNil))))
  (gNext))
  (gSeq (gIf (gOr (fT (f2 dNe (fBor 6) (f2 dIx (fBor 8) (f1 dNeg (fC (.int 1)))))) (fT (f2 (dInA false) (fBor 7) (fBor 8))))
  (gRet (fC (.bl false)))
  (gNext))
  (gApp 8 (fVar 7))))))
noncomputable def g_law_is_way:Rho->R Out:=
 gSeq (gIf (gNot (fTru (fIsi "tuple" (fBor 1))))
  (gRet (fC (.bl false)))
  (gNext))
  (gSeq (gOwnD 4)
  (gSeq (gFor (fSeq (fVar 0)) (gTupT 3 (gsCons (gN 5) (gsCons (gN 6) (gsCons (gN 7) (gsNil))))) (b1_law_is_way))
  (gSeq (gOwnL 8 (fCons (fVar 2) (fNil)))
  (gSeq (gFor (fSeq (fVar 1)) (gN 9) (b2_law_is_way))
  (gRet (f2 dEq (f2 dIx (fBor 8) (f1 dNeg (fC (.int 1)))) (fBor 3)))))))
noncomputable def m_law_is_way:List D->R D:=runDef 4 10 g_law_is_way
noncomputable abbrev s_law_is_ring:Stmt:=top 31
noncomputable def g_law_is_ring:Rho->R Out:=
 gSeq (gIf (gOr (gNot (fTru (fIsi "tuple" (fBor 2)))) (gOr (fT (f2 dEq (f1s cLen (fCons (fBor 2) (fNil))) (fC (.int 0)))) (gNot (fTru (fCall m_law_same 2 (fCons (f2 dIx (fBor 2) (fC (.int 0))) (fCons (fTup (fCons (f2 dIx (fBor 1) (fC (.int 0))) (fCons (fC (.int 1)) (fNil)))) (fNil))))))))
  (gRet (fC (.bl false)))
  (gNext))
  (gSeq (gOwn 3 (fComp ["_law_case_here","_law_stream","_law_ring","_law_others"] [(".0", .local),("_law_one", .local),("_law_stream", .free)] (fSeq (fCall m_law_loose 1 (fCons (fVar 0) (fNil)))) (gN 1) (fT (f2 dNe (f2 dIx (fBor 1) (fC (.int 0))) (f2 dIx (fBor 2) (fC (.int 0))))) (fVar 1)))
  (gFrz [3] (gRet (fCall m_law_is_way 4 (fCons (fVar 3) (fCons (fSl (fBor 2) (oSome (fC (.int 1))) (oNone)) (fCons (f2 dIx (fBor 1) (fC (.int 2))) (fCons (f2 dIx (fBor 1) (fC (.int 1))) (fNil)))))))))
noncomputable def m_law_is_ring:List D->R D:=runDef 3 4 g_law_is_ring
noncomputable abbrev s_law_refused:Stmt:=top 32
noncomputable def g_law_refused:Rho->R Out:=
 gSeq (gTry 2 (subL ["UnknownStream"])
  (gExpr (fCall m_ring_of 2 (fCons (fVar 0) (fCons (fVar 1) (fNil)))))
  (gRet (fIsE (tabL [("UnknownStream",true)]) (fBor 2))))
  (gRet (fC (.bl false)))
noncomputable def m_law_refused:List D->R D:=runDef 2 3 g_law_refused
noncomputable abbrev s_law:Stmt:=top 33
noncomputable def b1_law:Rho->R Out:=
 gSeq (gAsg (fCall m_ring_of 2 (fCons (fVar 2) (fCons (f2 dIx (fBor 4) (fC (.int 0))) (fNil)))) (gN 5))
  (gSeq (gOwn 6 (fComp ["_law_script","_law_case_here","_law_day_here","_law_loose_here","_law_stream","_law_found","_law_others"] [(".0", .local),("_law_one", .local),("_law_stream", .free)] (fSeq (fVar 3)) (gN 1) (fT (f2 dNe (f2 dIx (fBor 1) (fC (.int 0))) (f2 dIx (fBor 2) (fC (.int 0))))) (fVar 1)))
  (gFrz [6] (gIf (gOr (fT (f2 dEq (f1s cLen (fCons (fBor 6) (fNil))) (f1s cLen (fCons (fBor 3) (fNil))))) (fT (f2 (dInA true) (f2 dIx (fBor 4) (fC (.int 2))) (fCall m_law_flood 2 (fCons (fVar 6) (fCons (f2 dIx (fBor 4) (fC (.int 1))) (fNil)))))))
  (gIf (gNot (fTru (fCall m_law_same 2 (fCons (fVar 5) (fCons (fTup (fNil)) (fNil))))))
  (gRet (fC (.bl false)))
  (gNext))
  (gIf (gNot (fTru (fCall m_law_is_ring 3 (fCons (fVar 1) (fCons (fVar 4) (fCons (fVar 5) (fNil)))))))
  (gRet (fC (.bl false)))
  (gNext)))))
noncomputable def g_law:Rho->R Out:=
 gSeq (gAsg (fCall m_law_case 1 (fCons (fVar 0) (fNil))) (gN 1))
  (gSeq (gAsg (fCall m_law_day 2 (fCons (fVar 0) (fCons (fVar 1) (fNil)))) (gN 2))
  (gSeq (gAsg (fCall m_law_loose 1 (fCons (fVar 1) (fNil))) (gN 3))
  (gSeq (gFor (fSeq (f2 dIx (fBor 1) (fC (.int 1)))) (gN 4) (b1_law))
  (gSeq (gOwn 6 (fComp ["_law_script","_law_case_here","_law_day_here","_law_loose_here","_law_stream","_law_found","_law_others"] [(".0", .local),("_law_number", .local),("_law_case_here", .free)] (fRange2 (fCons (f1 dNeg (fC (.int 2))) (fCons (fC (.int 64)) (fNil)))) (gN 1) (fT (f2 (dInA true) (fBor 1) (fL (fComp [".0","_law_number","_law_case_here"] [(".0", .local),("_law_stream", .local)] (fSeq (f2 dIx (fBor 2) (fC (.int 1)))) (gN 1) (gYes) (f2 dIx (fBor 1) (fC (.int 0))))))) (fVar 1)))
  (gSeq (gIf (gNot (fTru (fCall m_law_refused 2 (fCons (fVar 2) (fCons (f2 dIx (fBor 6) (f2 dMod (fCall m_law_cell 2 (fCons (fVar 0) (fCons (fC (.int 49)) (fNil)))) (f1s cLen (fCons (fBor 6) (fNil))))) (fNil))))))
  (gRet (fC (.bl false)))
  (gNext))
  (gRet (fCall m_law_kept 2 (fCons (fVar 2) (fCons (fVar 1) (fNil))))))))))
noncomputable def m_law:List D->R D:=runDef 1 7 g_law
end My
namespace My
open PySem PySem.Spec PyProof.Rows L2 L2.Pu
section
variable {P:Program} {w:World} {K:PySem.W.Frag} {mg:Str->Option Value} {base:Heap}
noncomputable abbrev BN:List Str:=["bool","dict","int","isinstance","len","list","max","min","range","reversed","sorted","tuple"]
theorem sc_steps_from:FnScope ["streams","place","steps","number","source","target"] ["streams","place"] (defScope s_steps_from):=⟨rfl,rfl,rfl,by decide+kernel,rfl,by decide+kernel,by decide+kernel⟩
theorem ok_steps_from (A:DefAt K mg "steps_from" s_steps_from ["streams","place"]) (B:Bl mg BN):FnAt P w K mg base 1 "steps_from" 2 m_steps_from:=by
 refine fnAt_of A sc_steps_from rfl rfl fun f cdv A outer s H E hr=> ?_
 have hu:=hu_of hr
 have S:=sc_steps_from
 exact ss_cons (s_ownL 2 S.nd (qa_nil))
     (ss_cons (s_for PassesOwn.leaving rfl (i_seq (q_var 0)) (g_tup rfl (gs_cons (g_name 3 S.nd) (gs_cons (g_name 4 S.nd) (gs_cons (g_name 5 S.nd) (gs_nil)))))
     (ss_one (s_if (t_cmp op_eq sem_eq (b_var 4) (b_var 1))
     (ss_one (s_append 2 (q_tup (qa_cons (q_var 3) (qa_cons (q_int) (qa_cons (q_var 5) (qa_nil)))))))
     (ss_one (s_if (t_cmp op_eq sem_eq (b_var 5) (b_var 1))
     (ss_one (s_append 2 (q_tup (qa_cons (q_var 3) (qa_cons (q_un un_neg sem_neg (PQ.bo (q_int))) (qa_cons (q_var 4) (qa_nil)))))))
     (ss_nil))))))
     (ss_one (s_frz [2] (s_ret (q_var 2)))))
theorem sc_arrivals_from:FnScope ["streams","start","arrivals","waiting","place","number","direction","end"] ["streams","start"] (defScope s_arrivals_from):=⟨rfl,rfl,rfl,by decide+kernel,rfl,by decide+kernel,by decide+kernel⟩
theorem ok_arrivals_from (A:DefAt K mg "arrivals_from" s_arrivals_from ["streams","start"]) (B:Bl mg BN) (G_steps_from:FnAt P w K mg base 1 "steps_from" 2 m_steps_from):FnAt P w K mg base 2 "arrivals_from" 2 m_arrivals_from:=by
 refine fnAt_of A sc_arrivals_from rfl rfl fun f cdv A outer s H E hr=> ?_
 have hu:=hu_of hr
 have S:=sc_arrivals_from
 exact ss_cons (s_ownDP 2 S.nd (.cons (q_var 1) (q_non) (PPQ.nil)) (by simp) (by decide))
     (ss_cons (s_ownL 3 S.nd (qa_cons (q_var 1) (qa_nil)))
     (ss_cons (s_while 100 PassesOwn.leaving (t_cmp op_gt sem_gt (PQ.bo (q_callB call_lenQ sem_len (B.no "len" (by decide)) PySem.boot_len (ba_cons (b_var 3) (ba_nil)))) (PQ.bo (q_int)))
     (ss_cons (s_pop 4 3 S.nd (q_int))
     (ss_one (s_for PassesOwn.leaving rfl (i_seq (q_fn G_steps_from (hr.mono (by decide)) (qa_cons (q_var 0) (qa_cons (q_var 4) (qa_nil))))) (g_tup rfl (gs_cons (g_name 5 S.nd) (gs_cons (g_name 6 S.nd) (gs_cons (g_name 7 S.nd) (gs_nil)))))
     (ss_one (s_if (t_notin hu (b_var 7) (b_var 2))
     (ss_cons (s_put 2 hu (q_var 7) (q_tup (qa_cons (q_var 4) (qa_cons (q_tup (qa_cons (q_var 5) (qa_cons (q_var 6) (qa_nil)))) (qa_nil)))))
     (ss_one (s_append 3 (q_var 7))))
     (ss_nil)))))))
     (ss_one (s_frz [2] (s_ret (q_var 2))))))
theorem sc_path_of:FnScope ["streams","start","goal","arrivals","steps","place","arrival"] ["streams","start","goal"] (defScope s_path_of):=⟨rfl,rfl,rfl,by decide+kernel,rfl,by decide+kernel,by decide+kernel⟩
theorem ok_path_of (A:DefAt K mg "path_of" s_path_of ["streams","start","goal"]) (B:Bl mg BN) (G_arrivals_from:FnAt P w K mg base 2 "arrivals_from" 2 m_arrivals_from):FnAt P w K mg base 3 "path_of" 3 m_path_of:=by
 refine fnAt_of A sc_path_of rfl rfl fun f cdv A outer s H E hr=> ?_
 have hu:=hu_of hr
 have S:=sc_path_of
 exact ss_cons (s_set 3 S.nd (q_fn G_arrivals_from (hr.mono (by decide)) (qa_cons (q_var 0) (qa_cons (q_var 1) (qa_nil)))))
     (ss_cons (s_if (t_notin hu (b_var 2) (b_var 3))
     (ss_one (s_ret (q_non)))
     (ss_nil))
     (ss_cons (s_ownL 4 S.nd (qa_nil))
     (ss_cons (s_set 5 S.nd (q_var 2))
     (ss_cons (s_while 100 PassesOwn.leaving (t_cmp op_ne sem_ne (b_var 5) (b_var 1))
     (ss_cons (s_set 6 S.nd (q_ix hu (b_var 3) (b_var 5)))
     (ss_cons (s_append 4 (q_ix hu (b_var 6) (PQ.bo (q_int))))
     (ss_one (s_set 5 S.nd (q_ix hu (b_var 6) (PQ.bo (q_int))))))))
     (ss_one (s_ret (q_tupRev rfl (B.no "tuple" (by decide)) (B.no "reversed" (by decide)) (b_var 4))))))))
theorem sc_Day_stream:FnScope ["self","number","stream"] ["self","number"] (defScope s_Day_stream):=⟨rfl,rfl,rfl,by decide+kernel,rfl,by decide+kernel,by decide+kernel⟩
theorem ok_Day_stream (A:MDefAt K "Day" "stream" "Day.stream" s_Day_stream ["self","number"]) (B:Bl mg BN) (E_UnknownStream:ErrAt K mg "UnknownStream") (T_Day:FldOk K "Day" FS_Day):MethAt P w K mg base 1 "Day" "stream" 2 m_Day_stream:=by
 refine methAt_of A sc_Day_stream rfl rfl fun f cdv A outer s H E hr=> ?_
 have hu:=hu_of hr
 have S:=sc_Day_stream
 exact ss_cons (s_for PassesOwn.leaving rfl (i_seq (q_fldO T_Day (by decide) (b_var 0))) (g_name 2 S.nd)
     (ss_one (s_if (t_cmp op_eq sem_eq (PQ.bo (q_ix hu (b_var 2) (PQ.bo (q_int)))) (b_var 1))
     (ss_one (s_ret (q_var 2)))
     (ss_nil))))
     (ss_one (s_raise E_UnknownStream rfl (qa_cons (q_str) (qa_nil))))
theorem sc_Day_metered:FnScope ["self","number","stream"] ["self","number"] (defScope s_Day_metered):=⟨rfl,rfl,rfl,by decide+kernel,rfl,by decide+kernel,by decide+kernel⟩
theorem ok_Day_metered (A:MDefAt K "Day" "metered" "Day.metered" s_Day_metered ["self","number"]) (B:Bl mg BN) (G_Day_stream:MethAt P w K mg base 1 "Day" "stream" 2 m_Day_stream) (T_Day:FldOk K "Day" FS_Day):MethAt P w K mg base 2 "Day" "metered" 2 m_Day_metered:=by
 refine methAt_of A sc_Day_metered rfl rfl fun f cdv A outer s H E hr=> ?_
 have hu:=hu_of hr
 have S:=sc_Day_metered
 exact ss_cons (s_set 2 S.nd (q_meth G_Day_stream (hr.mono (by decide)) (q_var 0) (qa_cons (q_var 1) (qa_nil))))
     (ss_one (s_ret (q_in hu (PQ.bo (q_ix hu (b_var 2) (PQ.bo (q_int)))) (PQ.bo (q_callTy (call_dictOf rfl) sem_dict (B.no "dict" (by decide)) L2.Pu.boot_dict (ba_cons (PQ.bo (q_fldO T_Day (by decide) (b_var 0))) (ba_nil)))))))
theorem sc_Day_without_meter:FnScope ["self"] ["self"] (defScope s_Day_without_meter):=⟨rfl,rfl,rfl,by decide+kernel,rfl,by decide+kernel,by decide+kernel⟩
theorem ok_Day_without_meter (A:MDefAt K "Day" "without_meter" "Day.without_meter" s_Day_without_meter ["self"]) (B:Bl mg BN) (G_Day_metered:MethAt P w K mg base 2 "Day" "metered" 2 m_Day_metered) (T_Day:FldOk K "Day" FS_Day):MethAt P w K mg base 3 "Day" "without_meter" 1 m_Day_without_meter:=by
 refine methAt_of A sc_Day_without_meter rfl rfl fun f cdv A outer s H E hr=> ?_
 have hu:=hu_of hr
 have S:=sc_Day_without_meter
 exact ss_one (s_ret (q_callTy call_tuple_of sem_tuple (B.no "tuple" (by decide)) L2.Pu.boot_tuple (ba_cons (PQ.bo (q_comp (InScope.of rfl (by first|decide+kernel|rfl)) rfl (i_seq (q_fldO T_Day (by decide) (b_var 0))) (fun _ _ _=>g_name 1 (show ([".0","stream","self"]:List Str).Nodup by decide+kernel)) (fun _ _ _=>if_one (t_not (t_tru (PQ.bo (q_meth G_Day_metered (hr.mono (by decide)) (q_var 2) (qa_cons (q_ix hu (b_var 1) (PQ.bo (q_int))) (qa_nil))))))) (fun _ _ _=>q_var 1))) (ba_nil))))
theorem sc_others_without_meter:FnScope ["day","number"] ["day","number"] (defScope s_others_without_meter):=⟨rfl,rfl,rfl,by decide+kernel,rfl,by decide+kernel,by decide+kernel⟩
theorem ok_others_without_meter (A:DefAt K mg "others_without_meter" s_others_without_meter ["day","number"]) (B:Bl mg BN) (G_Day_without_meter:MethAt P w K mg base 3 "Day" "without_meter" 1 m_Day_without_meter):FnAt P w K mg base 4 "others_without_meter" 2 m_others_without_meter:=by
 refine fnAt_of A sc_others_without_meter rfl rfl fun f cdv A outer s H E hr=> ?_
 have hu:=hu_of hr
 have S:=sc_others_without_meter
 exact ss_one (s_ret (q_callTy call_tuple_of sem_tuple (B.no "tuple" (by decide)) L2.Pu.boot_tuple (ba_cons (PQ.bo (q_comp (InScope.of rfl (by first|decide+kernel|rfl)) rfl (i_seq (q_meth0 G_Day_without_meter (hr.mono (by decide)) (q_var 0))) (fun _ _ _=>g_name 1 (show ([".0","stream","number"]:List Str).Nodup by decide+kernel)) (fun _ _ _=>if_one (t_cmp op_ne sem_ne (PQ.bo (q_ix hu (b_var 1) (PQ.bo (q_int)))) (b_var 2))) (fun _ _ _=>q_var 1))) (ba_nil))))
theorem sc_ring_of:FnScope ["day","number","stream","way_back"] ["day","number"] (defScope s_ring_of):=⟨rfl,rfl,rfl,by decide+kernel,rfl,by decide+kernel,by decide+kernel⟩
theorem ok_ring_of (A:DefAt K mg "ring_of" s_ring_of ["day","number"]) (B:Bl mg BN) (G_Day_metered:MethAt P w K mg base 2 "Day" "metered" 2 m_Day_metered) (G_Day_stream:MethAt P w K mg base 1 "Day" "stream" 2 m_Day_stream) (G_path_of:FnAt P w K mg base 3 "path_of" 3 m_path_of) (G_others_without_meter:FnAt P w K mg base 4 "others_without_meter" 2 m_others_without_meter):FnAt P w K mg base 5 "ring_of" 2 m_ring_of:=by
 refine fnAt_of A sc_ring_of rfl rfl fun f cdv A outer s H E hr=> ?_
 have hu:=hu_of hr
 have S:=sc_ring_of
 exact ss_cons (s_if (t_tru (PQ.bo (q_meth G_Day_metered (hr.mono (by decide)) (q_var 0) (qa_cons (q_var 1) (qa_nil)))))
     (ss_one (s_ret (q_tup (qa_nil))))
     (ss_nil))
     (ss_cons (s_set 2 S.nd (q_meth G_Day_stream (hr.mono (by decide)) (q_var 0) (qa_cons (q_var 1) (qa_nil))))
     (ss_cons (s_set 3 S.nd (q_fn G_path_of (hr.mono (by decide)) (qa_cons (q_fn G_others_without_meter (hr.mono (by decide)) (qa_cons (q_var 0) (qa_cons (q_var 1) (qa_nil)))) (qa_cons (q_ix hu (b_var 2) (PQ.bo (q_int))) (qa_cons (q_ix hu (b_var 2) (PQ.bo (q_int))) (qa_nil))))))
     (ss_cons (s_if (t_cmp op_isN sem_isN (b_var 3) (PQ.bo (q_non)))
     (ss_one (s_ret (q_tup (qa_nil))))
     (ss_nil))
     (ss_one (s_ret (q_op2 op_addQ sem_add (PQ.bo (q_tup (qa_cons (q_tup (qa_cons (q_var 1) (qa_cons (q_int) (qa_nil)))) (qa_nil)))) (b_var 3)))))))
theorem sc_Day_init:FnScope ["self","tanks","streams","rises","readings","self.tanks","self.streams","self.rises","self.readings"] ["self","tanks","streams","rises","readings"] (defScope s_Day_init):=⟨rfl,rfl,rfl,by decide+kernel,rfl,by decide+kernel,by decide+kernel⟩
theorem gv_Day_init:∀g∈(["self.tanks","self.streams","self.rises","self.readings"]:List Str),¬Vis (defScope s_Day_init) g:=by unfold Vis;decide+kernel
theorem ok_Day_init (A:IDefAt K mg "Day" "Day.__init__" s_Day_init ["self","tanks","streams","rises","readings"] FS_Day) (B:Bl mg BN):InitAt P w K mg base 1 "Day" 4 m_Day_init:=by
 refine initAt_of A sc_Day_init rfl rfl (by decide) (by decide) fun C f cdv A outer s H E hC hno hr=> ?_
 have hu:=hu_of hr
 have S:=sc_Day_init
 exact ss_cons (s_fldG 5 hC (hno "tanks" (by decide)) (fldAt1 (by decide) (by decide) (by decide) (by decide)) (q_var 1) (hvis:=gv_Day_init "self.tanks" (by decide)))
     (ss_cons (s_fldG 6 hC (hno "streams" (by decide)) (fldAt1 (by decide) (by decide) (by decide) (by decide)) (q_callTy call_tuple_of sem_tuple (B.no "tuple" (by decide)) L2.Pu.boot_tuple (ba_cons (PQ.bo (q_callB (call_sortedB rfl) sem_sortedB (B.no "sorted" (by decide)) L2.Pu.boot_sorted (ba_cons (b_var 2) (ba_nil)))) (ba_nil))) (hvis:=gv_Day_init "self.streams" (by decide)))
     (ss_cons (s_fldG 7 hC (hno "rises" (by decide)) (fldAt1 (by decide) (by decide) (by decide) (by decide)) (q_callTy call_tuple_of sem_tuple (B.no "tuple" (by decide)) L2.Pu.boot_tuple (ba_cons (b_var 3) (ba_nil))) (hvis:=gv_Day_init "self.rises" (by decide)))
     (ss_one (s_fldG 8 hC (hno "readings" (by decide)) (fldAt1 (by decide) (by decide) (by decide) (by decide)) (q_callTy call_tuple_of sem_tuple (B.no "tuple" (by decide)) L2.Pu.boot_tuple (ba_cons (PQ.bo (q_callB (call_sortedB rfl) sem_sortedB (B.no "sorted" (by decide)) L2.Pu.boot_sorted (ba_cons (b_var 4) (ba_nil)))) (ba_nil))) (hvis:=gv_Day_init "self.readings" (by decide))))))
theorem sc_law_at:FnScope ["_law_script","_law_k"] ["_law_script","_law_k"] (defScope s_law_at):=⟨rfl,rfl,rfl,by decide+kernel,rfl,by decide+kernel,by decide+kernel⟩
theorem ok_law_at (A:DefAt K mg "_law_at" s_law_at ["_law_script","_law_k"]) (B:Bl mg BN):FnAt P w K mg base 1 "_law_at" 2 m_law_at:=by
 refine fnAt_of A sc_law_at rfl rfl fun f cdv A outer s H E hr=> ?_
 have hu:=hu_of hr
 have S:=sc_law_at
 exact ss_cons (s_if (t_cmp op_lt sem_lt (b_var 1) (PQ.bo (q_callB call_lenQ sem_len (B.no "len" (by decide)) PySem.boot_len (ba_cons (b_var 0) (ba_nil)))))
     (ss_one (s_ret (q_ix hu (b_var 0) (b_var 1))))
     (ss_nil))
     (ss_one (s_ret (q_int)))
theorem sc_law_cell:FnScope ["_law_script","_law_k","_law_mixed"] ["_law_script","_law_k"] (defScope s_law_cell):=⟨rfl,rfl,rfl,by decide+kernel,rfl,by decide+kernel,by decide+kernel⟩
theorem ok_law_cell (A:DefAt K mg "_law_cell" s_law_cell ["_law_script","_law_k"]) (B:Bl mg BN) (G_law_at:FnAt P w K mg base 1 "_law_at" 2 m_law_at):FnAt P w K mg base 2 "_law_cell" 2 m_law_cell:=by
 refine fnAt_of A sc_law_cell rfl rfl fun f cdv A outer s H E hr=> ?_
 have hu:=hu_of hr
 have S:=sc_law_cell
 exact ss_cons (s_if (t_cmp op_eq sem_eq (PQ.bo (q_op2 op_mod sem_mod (PQ.bo (q_fn G_law_at (hr.mono (by decide)) (qa_cons (q_var 0) (qa_cons (q_int) (qa_nil))))) (PQ.bo (q_int)))) (PQ.bo (q_int)))
     (ss_one (s_ret (q_fn G_law_at (hr.mono (by decide)) (qa_cons (q_var 0) (qa_cons (q_var 1) (qa_nil))))))
     (ss_nil))
     (ss_cons (s_set 2 S.nd (q_op2 op_mod sem_mod (PQ.bo (q_op2 op_mulQ sem_mul (PQ.bo (q_op2 op_addQ sem_add (PQ.bo (q_op2 op_addQ sem_add (PQ.bo (q_op2 op_addQ sem_add (PQ.bo (q_fn G_law_at (hr.mono (by decide)) (qa_cons (q_var 0) (qa_cons (q_var 1) (qa_nil))))) (PQ.bo (q_op2 op_fdiv sem_fdiv (PQ.bo (q_fn G_law_at (hr.mono (by decide)) (qa_cons (q_var 0) (qa_cons (q_int) (qa_nil))))) (PQ.bo (q_int)))))) (PQ.bo (q_op2 op_mulQ sem_mul (PQ.bo (q_int)) (b_var 1))))) (PQ.bo (q_int)))) (PQ.bo (q_int)))) (PQ.bo (q_int))))
     (ss_one (s_ret (q_op2 op_mod sem_mod (PQ.bo (q_op2 op_mulQ sem_mul (PQ.bo (q_op2 op_addQ sem_add (b_var 2) (b_var 1))) (PQ.bo (q_int)))) (PQ.bo (q_int))))))
theorem sc_law_same:FnScope ["_law_found","_law_due","_law_k"] ["_law_found","_law_due"] (defScope s_law_same):=⟨rfl,rfl,rfl,by decide+kernel,rfl,by decide+kernel,by decide+kernel⟩
theorem okr_law_same (A:DefAt K mg "_law_same" s_law_same ["_law_found","_law_due"]) (B:Bl mg BN):∀n:Nat,FnAt P w K mg base n "_law_same" 2 (mr_law_same n)
 |0=>fnAt_bad A rfl
 |n+1=>by
  have Grec:=okr_law_same A B n
  refine fnAt_of A sc_law_same rfl rfl fun f cdv A outer s H E hr=> ?_
  have hu:=hu_of hr
  have S:=sc_law_same
  exact ss_cons (s_if (t_tru (PQ.bo (q_isi (.inr (.inr (.inr (.inl rfl)))) (B.no "isinstance" (by decide)) (B.no "tuple" (by decide)) L2.Pu.boot_tuple (b_var 1))))
     (ss_cons (s_if (PWQ.t (w_or (t_not (t_tru (PQ.bo (q_isi (.inr (.inr (.inr (.inl rfl)))) (B.no "isinstance" (by decide)) (B.no "tuple" (by decide)) L2.Pu.boot_tuple (b_var 0))))) (w_or1 (t_cmp op_ne sem_ne (PQ.bo (q_callB call_lenQ sem_len (B.no "len" (by decide)) PySem.boot_len (ba_cons (b_var 0) (ba_nil)))) (PQ.bo (q_callB call_lenQ sem_len (B.no "len" (by decide)) PySem.boot_len (ba_cons (b_var 1) (ba_nil))))))))
     (ss_one (s_ret (q_bl)))
     (ss_nil))
     (ss_cons (s_for PassesOwn.leaving rfl (i_range1 (B.no "range" (by decide)) (qa_cons (q_callB call_lenQ sem_len (B.no "len" (by decide)) PySem.boot_len (ba_cons (b_var 1) (ba_nil))) (qa_nil))) (g_name 2 S.nd)
     (ss_one (s_if (t_not (t_tru (PQ.bo (q_fn Grec (hr.mono (by omega)) (qa_cons (q_ix hu (b_var 0) (b_var 2)) (qa_cons (q_ix hu (b_var 1) (b_var 2)) (qa_nil)))))))
     (ss_one (s_ret (q_bl)))
     (ss_nil))))
     (ss_one (s_ret (q_bl)))))
     (ss_nil))
     (ss_one (s_ret (q_and (q_isi (.inr (.inl rfl)) (B.no "isinstance" (by decide)) (B.no "int" (by decide)) L2.Pu.boot_int (b_var 0)) (q_and (q_not (q_isi (.inl rfl) (B.no "isinstance" (by decide)) (B.no "bool" (by decide)) L2.Pu.boot_bool (b_var 0))) (q_one (q_cmp op_eq sem_eq (b_var 0) (b_var 1)))))))
theorem ok_law_same (A:DefAt K mg "_law_same" s_law_same ["_law_found","_law_due"]) (B:Bl mg BN):FnAt P w K mg base 8 "_law_same" 2 m_law_same:=(okr_law_same A B 8).mono (by decide)
theorem sc_law_whole:FnScope ["_law_found"] ["_law_found"] (defScope s_law_whole):=⟨rfl,rfl,rfl,by decide+kernel,rfl,by decide+kernel,by decide+kernel⟩
theorem ok_law_whole (A:DefAt K mg "_law_whole" s_law_whole ["_law_found"]) (B:Bl mg BN):FnAt P w K mg base 1 "_law_whole" 1 m_law_whole:=by
 refine fnAt_of A sc_law_whole rfl rfl fun f cdv A outer s H E hr=> ?_
 have hu:=hu_of hr
 have S:=sc_law_whole
 exact ss_one (s_ret (q_and (q_isi (.inr (.inl rfl)) (B.no "isinstance" (by decide)) (B.no "int" (by decide)) L2.Pu.boot_int (b_var 0)) (q_one (q_not (q_isi (.inl rfl) (B.no "isinstance" (by decide)) (B.no "bool" (by decide)) L2.Pu.boot_bool (b_var 0))))))
theorem sc_law_streams:FnScope ["_law_script","_law_n","_law_many","_law_rows","_law_number","_law_k","_law_room","_law_cell_here","_law_gap","_law_source","_law_target"] ["_law_script","_law_n","_law_many"] (defScope s_law_streams):=⟨rfl,rfl,rfl,by decide+kernel,rfl,by decide+kernel,by decide+kernel⟩
theorem ok_law_streams (A:DefAt K mg "_law_streams" s_law_streams ["_law_script","_law_n","_law_many"]) (B:Bl mg BN) (G_law_cell:FnAt P w K mg base 2 "_law_cell" 2 m_law_cell):FnAt P w K mg base 3 "_law_streams" 3 m_law_streams:=by
 refine fnAt_of A sc_law_streams rfl rfl fun f cdv A outer s H E hr=> ?_
 have hu:=hu_of hr
 have S:=sc_law_streams
 exact ss_cons (s_ownL 3 S.nd (qa_nil))
     (ss_cons (s_set 4 S.nd (q_int))
     (ss_cons (s_for PassesOwn.leaving rfl (i_range1 (B.no "range" (by decide)) (qa_cons (q_var 2) (qa_nil))) (g_name 5 S.nd)
     (ss_cons (s_set 6 S.nd (q_op2 op_addQ sem_add (PQ.bo (q_op2 op_sub sem_sub (PQ.bo (q_op2 op_sub sem_sub (PQ.bo (q_int)) (b_var 4))) (b_var 2))) (b_var 5)))
     (ss_cons (s_set 7 S.nd (q_fn G_law_cell (hr.mono (by decide)) (qa_cons (q_var 0) (qa_cons (q_op2 op_addQ sem_add (PQ.bo (q_int)) (b_var 5)) (qa_nil)))))
     (ss_cons (s_set 8 S.nd (q_op2 op_mod sem_mod (b_var 7) (b_var 6)))
     (ss_cons (s_if (t_cmp op_eq sem_eq (PQ.bo (q_op2 op_mod sem_mod (PQ.bo (q_op2 op_fdiv sem_fdiv (PQ.bo (q_fn G_law_cell (hr.mono (by decide)) (qa_cons (q_var 0) (qa_cons (q_int) (qa_nil))))) (PQ.bo (q_int)))) (PQ.bo (q_int)))) (PQ.bo (q_int)))
     (ss_one (s_set 8 S.nd (q_op2 op_mod sem_mod (b_var 8) (PQ.bo (q_int)))))
     (ss_nil))
     (ss_cons (s_set 4 S.nd (q_op2 op_addQ sem_add (PQ.bo (q_op2 op_addQ sem_add (b_var 4) (PQ.bo (q_int)))) (b_var 8)))
     (ss_cons (s_set 9 S.nd (q_op2 op_mod sem_mod (PQ.bo (q_op2 op_fdiv sem_fdiv (b_var 7) (b_var 6))) (PQ.bo (q_op2 op_addQ sem_add (b_var 1) (PQ.bo (q_int))))))
     (ss_cons (s_set 10 S.nd (q_op2 op_mod sem_mod (PQ.bo (q_op2 op_addQ sem_add (PQ.bo (q_op2 op_addQ sem_add (b_var 9) (PQ.bo (q_int)))) (PQ.bo (q_op2 op_mod sem_mod (PQ.bo (q_op2 op_fdiv sem_fdiv (PQ.bo (q_op2 op_fdiv sem_fdiv (b_var 7) (b_var 6))) (PQ.bo (q_op2 op_addQ sem_add (b_var 1) (PQ.bo (q_int)))))) (b_var 1))))) (PQ.bo (q_op2 op_addQ sem_add (b_var 1) (PQ.bo (q_int))))))
     (ss_one (s_append 3 (q_tup (qa_cons (q_var 4) (qa_cons (q_var 9) (qa_cons (q_var 10) (qa_nil)))))))))))))))
     (ss_one (s_frz [3] (s_ret (q_var 3))))))
theorem sc_law_metered:FnScope ["_law_script","_law_streams_here","_law_share","_law_found","_law_k"] ["_law_script","_law_streams_here","_law_share"] (defScope s_law_metered):=⟨rfl,rfl,rfl,by decide+kernel,rfl,by decide+kernel,by decide+kernel⟩
theorem ok_law_metered (A:DefAt K mg "_law_metered" s_law_metered ["_law_script","_law_streams_here","_law_share"]) (B:Bl mg BN) (G_law_cell:FnAt P w K mg base 2 "_law_cell" 2 m_law_cell):FnAt P w K mg base 3 "_law_metered" 3 m_law_metered:=by
 refine fnAt_of A sc_law_metered rfl rfl fun f cdv A outer s H E hr=> ?_
 have hu:=hu_of hr
 have S:=sc_law_metered
 exact ss_cons (s_ownL 3 S.nd (qa_nil))
     (ss_cons (s_for PassesOwn.leaving rfl (i_range1 (B.no "range" (by decide)) (qa_cons (q_callB call_lenQ sem_len (B.no "len" (by decide)) PySem.boot_len (ba_cons (b_var 1) (ba_nil))) (qa_nil))) (g_name 4 S.nd)
     (ss_one (s_if (PWQ.t (w_and (t_cmp op_lt sem_lt (PQ.bo (q_op2 op_mod sem_mod (PQ.bo (q_fn G_law_cell (hr.mono (by decide)) (qa_cons (q_var 0) (qa_cons (q_op2 op_addQ sem_add (PQ.bo (q_int)) (b_var 4)) (qa_nil))))) (PQ.bo (q_int)))) (b_var 2)) (w_and1 (t_cmp op_lt sem_lt (PQ.bo (q_callB call_lenQ sem_len (B.no "len" (by decide)) PySem.boot_len (ba_cons (b_var 3) (ba_nil)))) (PQ.bo (q_int))))))
     (ss_one (s_append 3 (q_ix hu (PQ.bo (q_ix hu (b_var 1) (b_var 4))) (PQ.bo (q_int)))))
     (ss_nil))))
     (ss_one (s_frz [3] (s_ret (q_var 3)))))
theorem sc_law_span:FnScope ["_law_levels","_law_source","_law_target","_law_most","_law_low","_law_high"] ["_law_levels","_law_source","_law_target","_law_most"] (defScope s_law_span):=⟨rfl,rfl,rfl,by decide+kernel,rfl,by decide+kernel,by decide+kernel⟩
theorem ok_law_span (A:DefAt K mg "_law_span" s_law_span ["_law_levels","_law_source","_law_target","_law_most"]) (B:Bl mg BN):FnAt P w K mg base 1 "_law_span" 4 m_law_span:=by
 refine fnAt_of A sc_law_span rfl rfl fun f cdv A outer s H E hr=> ?_
 have hu:=hu_of hr
 have S:=sc_law_span
 exact ss_cons (s_set 4 S.nd (q_un un_neg sem_neg (b_var 3)))
     (ss_cons (s_set 5 S.nd (q_var 3))
     (ss_cons (s_if (t_cmp op_gt sem_gt (b_var 1) (PQ.bo (q_int)))
     (ss_cons (s_set 4 S.nd (q_callB (call_max2 rfl) sem_max (B.no "max" (by decide)) L2.Pu.boot_max (ba_cons (b_var 4) (ba_cons (PQ.bo (q_op2 op_sub sem_sub (PQ.bo (q_ix hu (b_var 0) (b_var 1))) (PQ.bo (q_int)))) (ba_nil)))))
     (ss_one (s_set 5 S.nd (q_callB (call_min2 rfl) sem_min (B.no "min" (by decide)) L2.Pu.boot_min (ba_cons (b_var 5) (ba_cons (PQ.bo (q_op2 op_addQ sem_add (PQ.bo (q_ix hu (b_var 0) (b_var 1))) (PQ.bo (q_int)))) (ba_nil)))))))
     (ss_nil))
     (ss_cons (s_if (t_cmp op_gt sem_gt (b_var 2) (PQ.bo (q_int)))
     (ss_cons (s_set 4 S.nd (q_callB (call_max2 rfl) sem_max (B.no "max" (by decide)) L2.Pu.boot_max (ba_cons (b_var 4) (ba_cons (PQ.bo (q_op2 op_sub sem_sub (PQ.bo (q_un un_neg sem_neg (PQ.bo (q_int)))) (PQ.bo (q_ix hu (b_var 0) (b_var 2))))) (ba_nil)))))
     (ss_one (s_set 5 S.nd (q_callB (call_min2 rfl) sem_min (B.no "min" (by decide)) L2.Pu.boot_min (ba_cons (b_var 5) (ba_cons (PQ.bo (q_op2 op_sub sem_sub (PQ.bo (q_int)) (PQ.bo (q_ix hu (b_var 0) (b_var 2))))) (ba_nil)))))))
     (ss_nil))
     (ss_one (s_ret (q_lst (qa_cons (q_var 4) (qa_cons (q_var 5) (qa_nil)))))))))
theorem sc_law_flows:FnScope ["_law_figures","_law_n","_law_streams_here","_law_meters","_law_bounds","_law_levels","_law_rows","_law_k","_law_number","_law_source","_law_target","_law_low","_law_high","_law_amount"] ["_law_figures","_law_n","_law_streams_here","_law_meters","_law_bounds"] (defScope s_law_flows):=⟨rfl,rfl,rfl,by decide+kernel,rfl,by decide+kernel,by decide+kernel⟩
theorem ok_law_flows (A:DefAt K mg "_law_flows" s_law_flows ["_law_figures","_law_n","_law_streams_here","_law_meters","_law_bounds"]) (B:Bl mg BN) (G_law_span:FnAt P w K mg base 1 "_law_span" 4 m_law_span):FnAt P w K mg base 2 "_law_flows" 5 m_law_flows:=by
 refine fnAt_of A sc_law_flows rfl rfl fun f cdv A outer s H E hr=> ?_
 have hu:=hu_of hr
 have S:=sc_law_flows
 exact ss_cons (s_ownN 5 S.nd (n_op2 op_mulQ sem_mulN (PQ.bo (q_lst (qa_cons (q_int) (qa_nil)))) (PQ.bo (q_op2 op_addQ sem_add (b_var 1) (PQ.bo (q_int))))))
     (ss_cons (s_ownL 6 S.nd (qa_nil))
     (ss_cons (s_for PassesOwn.leaving rfl (i_range1 (B.no "range" (by decide)) (qa_cons (q_callB call_lenQ sem_len (B.no "len" (by decide)) PySem.boot_len (ba_cons (b_var 2) (ba_nil))) (qa_nil))) (g_name 7 S.nd)
     (ss_cons (s_asg (q_ix hu (b_var 2) (b_var 7)) (g_tup rfl (gs_cons (g_name 8 S.nd) (gs_cons (g_name 9 S.nd) (gs_cons (g_name 10 S.nd) (gs_nil))))))
     (ss_cons (s_asgL [5] rfl (q_fn G_law_span (hr.mono (by decide)) (qa_cons (q_var 5) (qa_cons (q_var 9) (qa_cons (q_var 10) (qa_cons (q_ix hu (b_var 4) (PQ.bo (q_callTy call_int1 sem_int (B.no "int" (by decide)) L2.Pu.boot_int (ba_cons (PQ.bo (q_in hu (b_var 8) (b_var 3))) (ba_nil))))) (qa_nil)))))) (gs_cons (g_name 11 S.nd) (gs_cons (g_name 12 S.nd) (gs_nil))))
     (ss_cons (s_set 13 S.nd (q_op2 op_addQ sem_add (b_var 11) (PQ.bo (q_op2 op_mod sem_mod (PQ.bo (q_ix hu (b_var 0) (b_var 7))) (PQ.bo (q_op2 op_addQ sem_add (PQ.bo (q_op2 op_sub sem_sub (b_var 12) (b_var 11))) (PQ.bo (q_int))))))))
     (ss_cons (s_put 5 hu (q_var 9) (q_op2 op_sub sem_sub (PQ.bo (q_ix hu (b_var 5) (b_var 9))) (b_var 13)))
     (ss_cons (s_put 5 hu (q_var 10) (q_op2 op_addQ sem_add (PQ.bo (q_ix hu (b_var 5) (b_var 10))) (b_var 13)))
     (ss_one (s_append 6 (q_tup (qa_cons (q_var 8) (qa_cons (q_var 13) (qa_nil))))))))))))
     (ss_one (s_ret (q_lst (qa_cons (q_callTy call_tuple_of sem_tuple (B.no "tuple" (by decide)) L2.Pu.boot_tuple (ba_cons (b_var 6) (ba_nil))) (qa_cons (q_callTy call_tuple_of sem_tuple (B.no "tuple" (by decide)) L2.Pu.boot_tuple (ba_cons (PQ.bo (q_slice (b_var 5) (o_some (q_int)) (o_none))) (ba_nil))) (qa_nil))))))))
theorem sc_law_truth:FnScope ["_law_script","_law_n","_law_streams_here","_law_metered_here","_law_small","_law_figures"] ["_law_script","_law_n","_law_streams_here","_law_metered_here","_law_small"] (defScope s_law_truth):=⟨rfl,rfl,rfl,by decide+kernel,rfl,by decide+kernel,by decide+kernel⟩
theorem ok_law_truth (A:DefAt K mg "_law_truth" s_law_truth ["_law_script","_law_n","_law_streams_here","_law_metered_here","_law_small"]) (B:Bl mg BN) (G_law_cell:FnAt P w K mg base 2 "_law_cell" 2 m_law_cell) (G_law_flows:FnAt P w K mg base 2 "_law_flows" 5 m_law_flows):FnAt P w K mg base 3 "_law_truth" 5 m_law_truth:=by
 refine fnAt_of A sc_law_truth rfl rfl fun f cdv A outer s H E hr=> ?_
 have hu:=hu_of hr
 have S:=sc_law_truth
 exact ss_cons (s_comp 5 (InScope.of rfl (by first|decide+kernel|rfl)) rfl S.nd (i_range1 (B.no "range" (by decide)) (qa_cons (q_callB call_lenQ sem_len (B.no "len" (by decide)) PySem.boot_len (ba_cons (b_var 2) (ba_nil))) (qa_nil))) (fun _ _ _=>g_name 1 (show ([".0","_law_k","_law_cell","_law_script"]:List Str).Nodup by decide+kernel)) (fun _ _ _=>if_nil) (fun _ _ _=>q_op2 op_fdiv sem_fdiv (PQ.bo (q_fn G_law_cell (hr.mono (by decide)) (qa_cons (q_var 3) (qa_cons (q_op2 op_addQ sem_add (PQ.bo (q_int)) (b_var 1)) (qa_nil))))) (PQ.bo (q_int))))
     (ss_one (s_frz [5] (s_ret (q_fn G_law_flows (hr.mono (by decide)) (qa_cons (q_var 5) (qa_cons (q_var 1) (qa_cons (q_var 2) (qa_cons (q_var 3) (qa_cons (q_ix hu (PQ.bo (q_lst (qa_cons (q_lst (qa_cons (q_int) (qa_cons (q_int) (qa_nil)))) (qa_cons (q_lst (qa_cons (q_int) (qa_cons (q_int) (qa_nil)))) (qa_nil))))) (b_var 4)) (qa_nil))))))))))
theorem sc_law_readings:FnScope ["_law_script","_law_truth_here","_law_metered_here","_law_mode","_law_small","_law_found","_law_k","_law_number","_law_amount","_law_cell_here"] ["_law_script","_law_truth_here","_law_metered_here","_law_mode","_law_small"] (defScope s_law_readings):=⟨rfl,rfl,rfl,by decide+kernel,rfl,by decide+kernel,by decide+kernel⟩
theorem ok_law_readings (A:DefAt K mg "_law_readings" s_law_readings ["_law_script","_law_truth_here","_law_metered_here","_law_mode","_law_small"]) (B:Bl mg BN) (G_law_cell:FnAt P w K mg base 2 "_law_cell" 2 m_law_cell):FnAt P w K mg base 3 "_law_readings" 5 m_law_readings:=by
 refine fnAt_of A sc_law_readings rfl rfl fun f cdv A outer s H E hr=> ?_
 have hu:=hu_of hr
 have S:=sc_law_readings
 exact ss_cons (s_ownL 5 S.nd (qa_nil))
     (ss_cons (s_for PassesOwn.leaving rfl (i_range1 (B.no "range" (by decide)) (qa_cons (q_callB call_lenQ sem_len (B.no "len" (by decide)) PySem.boot_len (ba_cons (b_var 1) (ba_nil))) (qa_nil))) (g_name 6 S.nd)
     (ss_cons (s_asg (q_ix hu (b_var 1) (b_var 6)) (g_tup rfl (gs_cons (g_name 7 S.nd) (gs_cons (g_name 8 S.nd) (gs_nil)))))
     (ss_cons (s_set 9 S.nd (q_fn G_law_cell (hr.mono (by decide)) (qa_cons (q_var 0) (qa_cons (q_op2 op_addQ sem_add (PQ.bo (q_int)) (b_var 6)) (qa_nil)))))
     (ss_cons (s_if (t_notin hu (b_var 7) (b_var 2))
     (ss_one (s_continue))
     (ss_nil))
     (ss_cons (s_if (PWQ.t (w_or (t_cmp op_eq sem_eq (b_var 3) (PQ.bo (q_int))) (w_or1 (PWQ.t (w_and (t_cmp op_eq sem_eq (b_var 3) (PQ.bo (q_int))) (w_and1 (t_cmp op_eq sem_eq (PQ.bo (q_op2 op_mod sem_mod (b_var 9) (PQ.bo (q_int)))) (PQ.bo (q_int)))))))))
     (ss_one (s_set 8 S.nd (q_ix hu (PQ.bo (q_lst (qa_cons (q_op2 op_sub sem_sub (PQ.bo (q_op2 op_mod sem_mod (PQ.bo (q_op2 op_fdiv sem_fdiv (b_var 9) (PQ.bo (q_int)))) (PQ.bo (q_int)))) (PQ.bo (q_int))) (qa_cons (q_op2 op_sub sem_sub (PQ.bo (q_op2 op_mod sem_mod (PQ.bo (q_op2 op_fdiv sem_fdiv (b_var 9) (PQ.bo (q_int)))) (PQ.bo (q_int)))) (PQ.bo (q_int))) (qa_nil))))) (b_var 4))))
     (ss_nil))
     (ss_one (s_append 5 (q_tup (qa_cons (q_var 7) (qa_cons (q_var 8) (qa_nil)))))))))))
     (ss_one (s_frz [5] (s_ret (q_var 5)))))
theorem sc_law_rises:FnScope ["_law_script","_law_levels","_law_mode","_law_small","_law_found","_law_k","_law_cell_here","_law_rise"] ["_law_script","_law_levels","_law_mode","_law_small"] (defScope s_law_rises):=⟨rfl,rfl,rfl,by decide+kernel,rfl,by decide+kernel,by decide+kernel⟩
theorem ok_law_rises (A:DefAt K mg "_law_rises" s_law_rises ["_law_script","_law_levels","_law_mode","_law_small"]) (B:Bl mg BN) (G_law_cell:FnAt P w K mg base 2 "_law_cell" 2 m_law_cell):FnAt P w K mg base 3 "_law_rises" 4 m_law_rises:=by
 refine fnAt_of A sc_law_rises rfl rfl fun f cdv A outer s H E hr=> ?_
 have hu:=hu_of hr
 have S:=sc_law_rises
 exact ss_cons (s_ownL 4 S.nd (qa_nil))
     (ss_cons (s_for PassesOwn.leaving rfl (i_range1 (B.no "range" (by decide)) (qa_cons (q_callB call_lenQ sem_len (B.no "len" (by decide)) PySem.boot_len (ba_cons (b_var 1) (ba_nil))) (qa_nil))) (g_name 5 S.nd)
     (ss_cons (s_set 6 S.nd (q_fn G_law_cell (hr.mono (by decide)) (qa_cons (q_var 0) (qa_cons (q_op2 op_addQ sem_add (PQ.bo (q_int)) (b_var 5)) (qa_nil)))))
     (ss_cons (s_set 7 S.nd (q_ix hu (b_var 1) (b_var 5)))
     (ss_cons (s_if (PWQ.t (w_or (t_cmp op_eq sem_eq (b_var 2) (PQ.bo (q_int))) (w_or1 (PWQ.t (w_and (t_cmp op_eq sem_eq (b_var 2) (PQ.bo (q_int))) (w_and1 (t_cmp op_eq sem_eq (PQ.bo (q_op2 op_mod sem_mod (b_var 6) (PQ.bo (q_int)))) (PQ.bo (q_int)))))))))
     (ss_one (s_set 7 S.nd (q_ix hu (PQ.bo (q_lst (qa_cons (q_op2 op_sub sem_sub (PQ.bo (q_op2 op_mod sem_mod (PQ.bo (q_op2 op_fdiv sem_fdiv (b_var 6) (PQ.bo (q_int)))) (PQ.bo (q_int)))) (PQ.bo (q_int))) (qa_cons (q_op2 op_sub sem_sub (PQ.bo (q_op2 op_mod sem_mod (PQ.bo (q_op2 op_fdiv sem_fdiv (b_var 6) (PQ.bo (q_int)))) (PQ.bo (q_int)))) (PQ.bo (q_int))) (qa_nil))))) (b_var 3))))
     (ss_nil))
     (ss_one (s_append 4 (q_var 7)))))))
     (ss_one (s_frz [4] (s_ret (q_var 4)))))
theorem sc_law_case:FnScope ["_law_script","_law_n","_law_many","_law_mode","_law_small","_law_streams_here","_law_metered_here","_law_truth_here","_law_readings_here","_law_rises_here"] ["_law_script"] (defScope s_law_case):=⟨rfl,rfl,rfl,by decide+kernel,rfl,by decide+kernel,by decide+kernel⟩
theorem ok_law_case (A:DefAt K mg "_law_case" s_law_case ["_law_script"]) (B:Bl mg BN) (G_law_cell:FnAt P w K mg base 2 "_law_cell" 2 m_law_cell) (G_law_streams:FnAt P w K mg base 3 "_law_streams" 3 m_law_streams) (G_law_metered:FnAt P w K mg base 3 "_law_metered" 3 m_law_metered) (G_law_truth:FnAt P w K mg base 3 "_law_truth" 5 m_law_truth) (G_law_readings:FnAt P w K mg base 3 "_law_readings" 5 m_law_readings) (G_law_rises:FnAt P w K mg base 3 "_law_rises" 4 m_law_rises):FnAt P w K mg base 4 "_law_case" 1 m_law_case:=by
 refine fnAt_of A sc_law_case rfl rfl fun f cdv A outer s H E hr=> ?_
 have hu:=hu_of hr
 have S:=sc_law_case
 exact ss_cons (s_set 1 S.nd (q_op2 op_mod sem_mod (PQ.bo (q_fn G_law_cell (hr.mono (by decide)) (qa_cons (q_var 0) (qa_cons (q_int) (qa_nil))))) (PQ.bo (q_int))))
     (ss_cons (s_set 2 S.nd (q_int))
     (ss_cons (s_if (t_cmp op_gt sem_gt (b_var 1) (PQ.bo (q_int)))
     (ss_one (s_set 2 S.nd (q_op2 op_mod sem_mod (PQ.bo (q_fn G_law_cell (hr.mono (by decide)) (qa_cons (q_var 0) (qa_cons (q_int) (qa_nil))))) (PQ.bo (q_int)))))
     (ss_nil))
     (ss_cons (s_set 3 S.nd (q_op2 op_mod sem_mod (PQ.bo (q_fn G_law_cell (hr.mono (by decide)) (qa_cons (q_var 0) (qa_cons (q_int) (qa_nil))))) (PQ.bo (q_int))))
     (ss_cons (s_set 4 S.nd (q_op2 op_mod sem_mod (PQ.bo (q_op2 op_fdiv sem_fdiv (PQ.bo (q_fn G_law_cell (hr.mono (by decide)) (qa_cons (q_var 0) (qa_cons (q_int) (qa_nil))))) (PQ.bo (q_int)))) (PQ.bo (q_int))))
     (ss_cons (s_set 5 S.nd (q_fn G_law_streams (hr.mono (by decide)) (qa_cons (q_var 0) (qa_cons (q_var 1) (qa_cons (q_var 2) (qa_nil))))))
     (ss_cons (s_set 6 S.nd (q_fn G_law_metered (hr.mono (by decide)) (qa_cons (q_var 0) (qa_cons (q_var 5) (qa_cons (q_op2 op_mod sem_mod (PQ.bo (q_fn G_law_cell (hr.mono (by decide)) (qa_cons (q_var 0) (qa_cons (q_int) (qa_nil))))) (PQ.bo (q_int))) (qa_nil))))))
     (ss_cons (s_set 7 S.nd (q_fn G_law_truth (hr.mono (by decide)) (qa_cons (q_var 0) (qa_cons (q_var 1) (qa_cons (q_var 5) (qa_cons (q_var 6) (qa_cons (q_var 4) (qa_nil))))))))
     (ss_cons (s_set 8 S.nd (q_fn G_law_readings (hr.mono (by decide)) (qa_cons (q_var 0) (qa_cons (q_ix hu (b_var 7) (PQ.bo (q_int))) (qa_cons (q_var 6) (qa_cons (q_var 3) (qa_cons (q_var 4) (qa_nil))))))))
     (ss_cons (s_set 9 S.nd (q_fn G_law_rises (hr.mono (by decide)) (qa_cons (q_var 0) (qa_cons (q_ix hu (b_var 7) (PQ.bo (q_int))) (qa_cons (q_var 3) (qa_cons (q_var 4) (qa_nil)))))))
     (ss_one (s_ret (q_tup (qa_cons (q_var 1) (qa_cons (q_callTy call_tuple_of sem_tuple (B.no "tuple" (by decide)) L2.Pu.boot_tuple (ba_cons (b_var 5) (ba_nil))) (qa_cons (q_callTy call_tuple_of sem_tuple (B.no "tuple" (by decide)) L2.Pu.boot_tuple (ba_cons (b_var 9) (ba_nil))) (qa_cons (q_callTy call_tuple_of sem_tuple (B.no "tuple" (by decide)) L2.Pu.boot_tuple (ba_cons (b_var 8) (ba_nil))) (qa_nil)))))))))))))))))
theorem sc_law_day:FnScope ["_law_script","_law_case_here","_law_turned","_law_half","_law_mid"] ["_law_script","_law_case_here"] (defScope s_law_day):=⟨rfl,rfl,rfl,by decide+kernel,rfl,by decide+kernel,by decide+kernel⟩
theorem ok_law_day (A:DefAt K mg "_law_day" s_law_day ["_law_script","_law_case_here"]) (B:Bl mg BN) (G_law_cell:FnAt P w K mg base 2 "_law_cell" 2 m_law_cell) (G_Day_init:InitAt P w K mg base 1 "Day" 4 m_Day_init):FnAt P w K mg base 3 "_law_day" 2 m_law_day:=by
 refine fnAt_of A sc_law_day rfl rfl fun f cdv A outer s H E hr=> ?_
 have hu:=hu_of hr
 have S:=sc_law_day
 exact ss_cons (s_set 2 S.nd (q_op2 op_mod sem_mod (PQ.bo (q_fn G_law_cell (hr.mono (by decide)) (qa_cons (q_var 0) (qa_cons (q_int) (qa_nil))))) (PQ.bo (q_int))))
     (ss_cons (s_if (t_cmp op_eq sem_eq (b_var 2) (PQ.bo (q_int)))
     (ss_one (s_ret (q_make G_Day_init (hr.mono (by decide)) (qa_cons (q_ix hu (b_var 1) (PQ.bo (q_int))) (qa_cons (q_callTy call_list_of sem_list (B.no "list" (by decide)) L2.Pu.boot_list (ba_cons (PQ.bo (q_ix hu (b_var 1) (PQ.bo (q_int)))) (ba_nil))) (qa_cons (q_callTy call_list_of sem_list (B.no "list" (by decide)) L2.Pu.boot_list (ba_cons (PQ.bo (q_ix hu (b_var 1) (PQ.bo (q_int)))) (ba_nil))) (qa_cons (q_callTy call_list_of sem_list (B.no "list" (by decide)) L2.Pu.boot_list (ba_cons (PQ.bo (q_ix hu (b_var 1) (PQ.bo (q_int)))) (ba_nil))) (qa_nil))))))))
     (ss_nil))
     (ss_cons (s_if (t_cmp op_eq sem_eq (b_var 2) (PQ.bo (q_int)))
     (ss_one (s_ret (q_make G_Day_init (hr.mono (by decide)) (qa_cons (q_ix hu (b_var 1) (PQ.bo (q_int))) (qa_cons (q_rev (PQ.bo (q_callTy call_list_of sem_list (B.no "list" (by decide)) L2.Pu.boot_list (ba_cons (PQ.bo (q_ix hu (b_var 1) (PQ.bo (q_int)))) (ba_nil))))) (qa_cons (q_callTy call_list_of sem_list (B.no "list" (by decide)) L2.Pu.boot_list (ba_cons (PQ.bo (q_ix hu (b_var 1) (PQ.bo (q_int)))) (ba_nil))) (qa_cons (q_rev (PQ.bo (q_callTy call_list_of sem_list (B.no "list" (by decide)) L2.Pu.boot_list (ba_cons (PQ.bo (q_ix hu (b_var 1) (PQ.bo (q_int)))) (ba_nil))))) (qa_nil))))))))
     (ss_nil))
     (ss_cons (s_if (t_cmp op_eq sem_eq (b_var 2) (PQ.bo (q_int)))
     (ss_one (s_ret (q_make G_Day_init (hr.mono (by decide)) (qa_cons (q_ix hu (b_var 1) (PQ.bo (q_int))) (qa_cons (q_ix hu (b_var 1) (PQ.bo (q_int))) (qa_cons (q_ix hu (b_var 1) (PQ.bo (q_int))) (qa_cons (q_ix hu (b_var 1) (PQ.bo (q_int))) (qa_nil))))))))
     (ss_nil))
     (ss_cons (s_set 3 S.nd (q_op2 op_fdiv sem_fdiv (PQ.bo (q_callB call_lenQ sem_len (B.no "len" (by decide)) PySem.boot_len (ba_cons (PQ.bo (q_ix hu (b_var 1) (PQ.bo (q_int)))) (ba_nil)))) (PQ.bo (q_int))))
     (ss_cons (s_set 4 S.nd (q_op2 op_fdiv sem_fdiv (PQ.bo (q_callB call_lenQ sem_len (B.no "len" (by decide)) PySem.boot_len (ba_cons (PQ.bo (q_ix hu (b_var 1) (PQ.bo (q_int)))) (ba_nil)))) (PQ.bo (q_int))))
     (ss_one (s_ret (q_make G_Day_init (hr.mono (by decide)) (qa_cons (q_ix hu (b_var 1) (PQ.bo (q_int))) (qa_cons (q_op2 op_addQ sem_add (PQ.bo (q_slice (PQ.bo (q_ix hu (b_var 1) (PQ.bo (q_int)))) (o_some (q_var 3)) (o_none))) (PQ.bo (q_slice (PQ.bo (q_ix hu (b_var 1) (PQ.bo (q_int)))) (o_none) (o_some (q_var 3))))) (qa_cons (q_ix hu (b_var 1) (PQ.bo (q_int))) (qa_cons (q_op2 op_addQ sem_add (PQ.bo (q_slice (PQ.bo (q_ix hu (b_var 1) (PQ.bo (q_int)))) (o_some (q_var 4)) (o_none))) (PQ.bo (q_slice (PQ.bo (q_ix hu (b_var 1) (PQ.bo (q_int)))) (o_none) (o_some (q_var 4))))) (qa_nil)))))))))))))
theorem sc_law_kept:FnScope ["_law_day_here","_law_case_here"] ["_law_day_here","_law_case_here"] (defScope s_law_kept):=⟨rfl,rfl,rfl,by decide+kernel,rfl,by decide+kernel,by decide+kernel⟩
theorem ok_law_kept (A:DefAt K mg "_law_kept" s_law_kept ["_law_day_here","_law_case_here"]) (B:Bl mg BN) (G_law_same:FnAt P w K mg base 8 "_law_same" 2 m_law_same) (T_Day:FldOk K "Day" FS_Day):FnAt P w K mg base 9 "_law_kept" 2 m_law_kept:=by
 refine fnAt_of A sc_law_kept rfl rfl fun f cdv A outer s H E hr=> ?_
 have hu:=hu_of hr
 have S:=sc_law_kept
 exact ss_cons (s_if (PWQ.t (w_or (t_not (t_tru (PQ.bo (q_fn G_law_same (hr.mono (by decide)) (qa_cons (q_fldO T_Day (by decide) (b_var 0)) (qa_cons (q_ix hu (b_var 1) (PQ.bo (q_int))) (qa_nil))))))) (w_or1 (t_not (t_tru (PQ.bo (q_fn G_law_same (hr.mono (by decide)) (qa_cons (q_fldO T_Day (by decide) (b_var 0)) (qa_cons (q_ix hu (b_var 1) (PQ.bo (q_int))) (qa_nil))))))))))
     (ss_one (s_ret (q_bl)))
     (ss_nil))
     (ss_one (s_ret (q_and (q_fn G_law_same (hr.mono (by decide)) (qa_cons (q_fldO T_Day (by decide) (b_var 0)) (qa_cons (q_ix hu (b_var 1) (PQ.bo (q_int))) (qa_nil)))) (q_one (q_fn G_law_same (hr.mono (by decide)) (qa_cons (q_fldO T_Day (by decide) (b_var 0)) (qa_cons (q_ix hu (b_var 1) (PQ.bo (q_int))) (qa_nil))))))))
theorem sc_law_loose:FnScope ["_law_case_here","_law_read"] ["_law_case_here"] (defScope s_law_loose):=⟨rfl,rfl,rfl,by decide+kernel,rfl,by decide+kernel,by decide+kernel⟩
theorem ok_law_loose (A:DefAt K mg "_law_loose" s_law_loose ["_law_case_here"]) (B:Bl mg BN):FnAt P w K mg base 1 "_law_loose" 1 m_law_loose:=by
 refine fnAt_of A sc_law_loose rfl rfl fun f cdv A outer s H E hr=> ?_
 have hu:=hu_of hr
 have S:=sc_law_loose
 exact ss_cons (s_compC 1 (InScope.of rfl (by first|decide+kernel|rfl)) rfl S.nd (i_seq (q_ix hu (b_var 0) (PQ.bo (q_int)))) (fun _ _ _=>g_name 1 (show ([".0","_law_row"]:List Str).Nodup by decide+kernel)) (fun _ _ _=>if_nil) (fun _ _ _=>q_ix hu (b_var 1) (PQ.bo (q_int))))
     (ss_one (s_ret (q_comp (InScope.of rfl (by first|decide+kernel|rfl)) rfl (i_seq (q_ix hu (b_var 0) (PQ.bo (q_int)))) (fun _ _ _=>g_name 1 (show ([".0","_law_stream","_law_read"]:List Str).Nodup by decide+kernel)) (fun _ _ _=>if_one (t_notin hu (PQ.bo (q_ix hu (b_var 1) (PQ.bo (q_int)))) (b_var 2))) (fun _ _ _=>q_var 1))))
theorem sc_law_flood:FnScope ["_law_streams_here","_law_place","_law_seen","_law_grown","_law_number","_law_source","_law_target"] ["_law_streams_here","_law_place"] (defScope s_law_flood):=⟨rfl,rfl,rfl,by decide+kernel,rfl,by decide+kernel,by decide+kernel⟩
theorem ok_law_flood (A:DefAt K mg "_law_flood" s_law_flood ["_law_streams_here","_law_place"]) (B:Bl mg BN):FnAt P w K mg base 1 "_law_flood" 2 m_law_flood:=by
 refine fnAt_of A sc_law_flood rfl rfl fun f cdv A outer s H E hr=> ?_
 have hu:=hu_of hr
 have S:=sc_law_flood
 exact ss_cons (s_ownL 2 S.nd (qa_cons (q_var 1) (qa_nil)))
     (ss_cons (s_set 3 S.nd (q_bl))
     (ss_cons (s_while 100 PassesOwn.leaving (t_tru (b_var 3))
     (ss_cons (s_set 3 S.nd (q_bl))
     (ss_one (s_for PassesOwn.leaving rfl (i_seq (q_var 0)) (g_tup rfl (gs_cons (g_name 4 S.nd) (gs_cons (g_name 5 S.nd) (gs_cons (g_name 6 S.nd) (gs_nil)))))
     (ss_cons (s_if (PWQ.t (w_and (t_in hu (b_var 5) (b_var 2)) (w_and1 (t_notin hu (b_var 6) (b_var 2)))))
     (ss_cons (s_append 2 (q_var 6))
     (ss_one (s_set 3 S.nd (q_bl))))
     (ss_nil))
     (ss_one (s_if (PWQ.t (w_and (t_in hu (b_var 6) (b_var 2)) (w_and1 (t_notin hu (b_var 5) (b_var 2)))))
     (ss_cons (s_append 2 (q_var 5))
     (ss_one (s_set 3 S.nd (q_bl))))
     (ss_nil))))))))
     (ss_one (s_frz [2] (s_ret (q_var 2))))))
theorem sc_law_is_way:FnScope ["_law_streams_here","_law_steps","_law_place","_law_goal","_law_ends","_law_number","_law_source","_law_target","_law_passed","_law_step"] ["_law_streams_here","_law_steps","_law_place","_law_goal"] (defScope s_law_is_way):=⟨rfl,rfl,rfl,by decide+kernel,rfl,by decide+kernel,by decide+kernel⟩
theorem ok_law_is_way (A:DefAt K mg "_law_is_way" s_law_is_way ["_law_streams_here","_law_steps","_law_place","_law_goal"]) (B:Bl mg BN) (G_law_whole:FnAt P w K mg base 1 "_law_whole" 1 m_law_whole):FnAt P w K mg base 2 "_law_is_way" 4 m_law_is_way:=by
 refine fnAt_of A sc_law_is_way rfl rfl fun f cdv A outer s H E hr=> ?_
 have hu:=hu_of hr
 have S:=sc_law_is_way
 exact ss_cons (s_if (t_not (t_tru (PQ.bo (q_isi (.inr (.inr (.inr (.inl rfl)))) (B.no "isinstance" (by decide)) (B.no "tuple" (by decide)) L2.Pu.boot_tuple (b_var 1)))))
     (ss_one (s_ret (q_bl)))
     (ss_nil))
     (ss_cons (s_ownD 4 S.nd)
     (ss_cons (s_for PassesOwn.leaving rfl (i_seq (q_var 0)) (g_tup rfl (gs_cons (g_name 5 S.nd) (gs_cons (g_name 6 S.nd) (gs_cons (g_name 7 S.nd) (gs_nil)))))
     (ss_one (s_put 4 hu (q_var 5) (q_tup (qa_cons (q_var 6) (qa_cons (q_var 7) (qa_nil)))))))
     (ss_cons (s_ownL 8 S.nd (qa_cons (q_var 2) (qa_nil)))
     (ss_cons (s_for PassesOwn.leaving rfl (i_seq (q_var 1)) (g_name 9 S.nd)
     (ss_cons (s_if (PWQ.t (w_or (t_not (t_tru (PQ.bo (q_isi (.inr (.inr (.inr (.inl rfl)))) (B.no "isinstance" (by decide)) (B.no "tuple" (by decide)) L2.Pu.boot_tuple (b_var 9))))) (w_or (t_cmp op_ne sem_ne (PQ.bo (q_callB call_lenQ sem_len (B.no "len" (by decide)) PySem.boot_len (ba_cons (b_var 9) (ba_nil)))) (PQ.bo (q_int))) (w_or (t_not (t_tru (PQ.bo (q_fn G_law_whole (hr.mono (by decide)) (qa_cons (q_ix hu (b_var 9) (PQ.bo (q_int))) (qa_nil)))))) (w_or1 (t_not (t_tru (PQ.bo (q_fn G_law_whole (hr.mono (by decide)) (qa_cons (q_ix hu (b_var 9) (PQ.bo (q_int))) (qa_nil)))))))))))
     (ss_one (s_ret (q_bl)))
     (ss_nil))
     (ss_cons (s_if (PWQ.t (w_or (t_notin hu (PQ.bo (q_ix hu (b_var 9) (PQ.bo (q_int)))) (b_var 4)) (w_or1 (t_notin hu (PQ.bo (q_ix hu (b_var 9) (PQ.bo (q_int)))) (PQ.bo (q_tup (qa_cons (q_int) (qa_cons (q_un un_neg sem_neg (PQ.bo (q_int))) (qa_nil)))))))))
     (ss_one (s_ret (q_bl)))
     (ss_nil))
     (ss_cons (s_asg (q_ix hu (b_var 4) (PQ.bo (q_ix hu (b_var 9) (PQ.bo (q_int))))) (g_tup rfl (gs_cons (g_name 6 S.nd) (gs_cons (g_name 7 S.nd) (gs_nil)))))
     (ss_cons (s_if (t_cmp op_eq sem_eq (PQ.bo (q_ix hu (b_var 9) (PQ.bo (q_int)))) (PQ.bo (q_un un_neg sem_neg (PQ.bo (q_int)))))
     (ss_one (s_par 6 7 rfl S.nd (qa_cons (q_var 7) (qa_cons (q_var 6) (qa_nil)))))
     (ss_nil))
     (ss_cons (s_if (PWQ.t (w_or (t_cmp op_ne sem_ne (b_var 6) (PQ.bo (q_ix hu (b_var 8) (PQ.bo (q_un un_neg sem_neg (PQ.bo (q_int))))))) (w_or1 (t_in hu (b_var 7) (b_var 8)))))
     (ss_one (s_ret (q_bl)))
     (ss_nil))
     (ss_one (s_append 8 (q_var 7)))))))))
     (ss_one (s_ret (q_cmp op_eq sem_eq (PQ.bo (q_ix hu (b_var 8) (PQ.bo (q_un un_neg sem_neg (PQ.bo (q_int)))))) (b_var 3))))))))
theorem sc_law_is_ring:FnScope ["_law_case_here","_law_stream","_law_ring","_law_others"] ["_law_case_here","_law_stream","_law_ring"] (defScope s_law_is_ring):=⟨rfl,rfl,rfl,by decide+kernel,rfl,by decide+kernel,by decide+kernel⟩
theorem ok_law_is_ring (A:DefAt K mg "_law_is_ring" s_law_is_ring ["_law_case_here","_law_stream","_law_ring"]) (B:Bl mg BN) (G_law_same:FnAt P w K mg base 8 "_law_same" 2 m_law_same) (G_law_loose:FnAt P w K mg base 1 "_law_loose" 1 m_law_loose) (G_law_is_way:FnAt P w K mg base 2 "_law_is_way" 4 m_law_is_way):FnAt P w K mg base 9 "_law_is_ring" 3 m_law_is_ring:=by
 refine fnAt_of A sc_law_is_ring rfl rfl fun f cdv A outer s H E hr=> ?_
 have hu:=hu_of hr
 have S:=sc_law_is_ring
 exact ss_cons (s_if (PWQ.t (w_or (t_not (t_tru (PQ.bo (q_isi (.inr (.inr (.inr (.inl rfl)))) (B.no "isinstance" (by decide)) (B.no "tuple" (by decide)) L2.Pu.boot_tuple (b_var 2))))) (w_or (t_cmp op_eq sem_eq (PQ.bo (q_callB call_lenQ sem_len (B.no "len" (by decide)) PySem.boot_len (ba_cons (b_var 2) (ba_nil)))) (PQ.bo (q_int))) (w_or1 (t_not (t_tru (PQ.bo (q_fn G_law_same (hr.mono (by decide)) (qa_cons (q_ix hu (b_var 2) (PQ.bo (q_int))) (qa_cons (q_tup (qa_cons (q_ix hu (b_var 1) (PQ.bo (q_int))) (qa_cons (q_int) (qa_nil)))) (qa_nil)))))))))))
     (ss_one (s_ret (q_bl)))
     (ss_nil))
     (ss_cons (s_comp 3 (InScope.of rfl (by first|decide+kernel|rfl)) rfl S.nd (i_seq (q_fn G_law_loose (hr.mono (by decide)) (qa_cons (q_var 0) (qa_nil)))) (fun _ _ _=>g_name 1 (show ([".0","_law_one","_law_stream"]:List Str).Nodup by decide+kernel)) (fun _ _ _=>if_one (t_cmp op_ne sem_ne (PQ.bo (q_ix hu (b_var 1) (PQ.bo (q_int)))) (PQ.bo (q_ix hu (b_var 2) (PQ.bo (q_int)))))) (fun _ _ _=>q_var 1))
     (ss_one (s_frz [3] (s_ret (q_fn G_law_is_way (hr.mono (by decide)) (qa_cons (q_var 3) (qa_cons (q_slice (b_var 2) (o_some (q_int)) (o_none)) (qa_cons (q_ix hu (b_var 1) (PQ.bo (q_int))) (qa_cons (q_ix hu (b_var 1) (PQ.bo (q_int))) (qa_nil))))))))))
theorem sc_law_refused:FnScope ["_law_day_here","_law_number","e"] ["_law_day_here","_law_number"] (defScope s_law_refused):=⟨rfl,rfl,rfl,by decide+kernel,rfl,by decide+kernel,by decide+kernel⟩
theorem ok_law_refused (A:DefAt K mg "_law_refused" s_law_refused ["_law_day_here","_law_number"]) (B:Bl mg BN) (G_ring_of:FnAt P w K mg base 5 "ring_of" 2 m_ring_of) (I_UnknownStream:IsAt K mg "UnknownStream" (tabL [("UnknownStream",true)])) (U_CellarError:Under K mg "CellarError" (subL ["UnknownStream"])):FnAt P w K mg base 6 "_law_refused" 2 m_law_refused:=by
 refine fnAt_of A sc_law_refused rfl rfl fun f cdv A outer s H E hr=> ?_
 have hu:=hu_of hr
 have S:=sc_law_refused
 exact ss_cons (s_try 2 plain_of S.nd U_CellarError (fun _ _=>ss_one (s_expr (q_fn G_ring_of (hr.mono (by decide)) (qa_cons (q_var 0) (qa_cons (q_var 1) (qa_nil))))))
     (fun _=>ss_one (s_ret (q_isEo I_UnknownStream (B.no "isinstance" (by decide)) (b_var 2)))))
     (ss_one (s_ret (q_bl)))
theorem sc_law:FnScope ["_law_script","_law_case_here","_law_day_here","_law_loose_here","_law_stream","_law_found","_law_others"] ["_law_script"] (defScope s_law):=⟨rfl,rfl,rfl,by decide+kernel,rfl,by decide+kernel,by decide+kernel⟩
theorem ok_law {f:Addr} {fd:FuncData} (F:Fun K "law" "law" s_law f fd) (B:Bl mg BN) (G_law_case:FnAt P w K mg base 4 "_law_case" 1 m_law_case) (G_law_day:FnAt P w K mg base 3 "_law_day" 2 m_law_day) (G_law_loose:FnAt P w K mg base 1 "_law_loose" 1 m_law_loose) (G_ring_of:FnAt P w K mg base 5 "ring_of" 2 m_ring_of) (G_law_flood:FnAt P w K mg base 1 "_law_flood" 2 m_law_flood) (G_law_same:FnAt P w K mg base 8 "_law_same" 2 m_law_same) (G_law_is_ring:FnAt P w K mg base 9 "_law_is_ring" 3 m_law_is_ring) (G_law_refused:FnAt P w K mg base 6 "_law_refused" 2 m_law_refused) (G_law_cell:FnAt P w K mg base 2 "_law_cell" 2 m_law_cell) (G_law_kept:FnAt P w K mg base 9 "_law_kept" 2 m_law_kept):FnOk P w K mg base (CXE P w) 10 f fd ["_law_script"] (spQ K 1 m_law):=by
 refine fn_Q F sc_law rfl rfl fun cdv A outer s H E hr=> ?_
 have hu:=hu_of hr
 have S:=sc_law
 exact ss_cons (s_set 1 S.nd (q_fn G_law_case (hr.mono (by decide)) (qa_cons (q_var 0) (qa_nil))))
     (ss_cons (s_set 2 S.nd (q_fn G_law_day (hr.mono (by decide)) (qa_cons (q_var 0) (qa_cons (q_var 1) (qa_nil)))))
     (ss_cons (s_set 3 S.nd (q_fn G_law_loose (hr.mono (by decide)) (qa_cons (q_var 1) (qa_nil))))
     (ss_cons (s_for PassesOwn.leaving rfl (i_seq (q_ix hu (b_var 1) (PQ.bo (q_int)))) (g_name 4 S.nd)
     (ss_cons (s_set 5 S.nd (q_fn G_ring_of (hr.mono (by decide)) (qa_cons (q_var 2) (qa_cons (q_ix hu (b_var 4) (PQ.bo (q_int))) (qa_nil)))))
     (ss_cons (s_comp 6 (InScope.of rfl (by first|decide+kernel|rfl)) rfl S.nd (i_seq (q_var 3)) (fun _ _ _=>g_name 1 (show ([".0","_law_one","_law_stream"]:List Str).Nodup by decide+kernel)) (fun _ _ _=>if_one (t_cmp op_ne sem_ne (PQ.bo (q_ix hu (b_var 1) (PQ.bo (q_int)))) (PQ.bo (q_ix hu (b_var 2) (PQ.bo (q_int)))))) (fun _ _ _=>q_var 1))
     (ss_one (s_frz [6] (s_if (PWQ.t (w_or (t_cmp op_eq sem_eq (PQ.bo (q_callB call_lenQ sem_len (B.no "len" (by decide)) PySem.boot_len (ba_cons (b_var 6) (ba_nil)))) (PQ.bo (q_callB call_lenQ sem_len (B.no "len" (by decide)) PySem.boot_len (ba_cons (b_var 3) (ba_nil))))) (w_or1 (t_notin hu (PQ.bo (q_ix hu (b_var 4) (PQ.bo (q_int)))) (PQ.bo (q_fn G_law_flood (hr.mono (by decide)) (qa_cons (q_var 6) (qa_cons (q_ix hu (b_var 4) (PQ.bo (q_int))) (qa_nil)))))))))
     (ss_one (s_if (t_not (t_tru (PQ.bo (q_fn G_law_same (hr.mono (by decide)) (qa_cons (q_var 5) (qa_cons (q_tup (qa_nil)) (qa_nil)))))))
     (ss_one (s_ret (q_bl)))
     (ss_nil)))
     (ss_one (s_if (t_not (t_tru (PQ.bo (q_fn G_law_is_ring (hr.mono (by decide)) (qa_cons (q_var 1) (qa_cons (q_var 4) (qa_cons (q_var 5) (qa_nil))))))))
     (ss_one (s_ret (q_bl)))
     (ss_nil)))))))))
     (ss_cons (s_comp 6 (InScope.of rfl (by first|decide+kernel|rfl)) rfl S.nd (i_range2 (B.no "range" (by decide)) (qa_cons (q_un un_neg sem_neg (PQ.bo (q_int))) (qa_cons (q_int) (qa_nil)))) (fun _ _ _=>g_name 1 (show ([".0","_law_number","_law_case_here"]:List Str).Nodup by decide+kernel)) (fun _ _ _=>if_one (t_notin hu (b_var 1) (PQ.bo (q_comp (InScope.of rfl (by first|decide+kernel|rfl)) rfl (i_seq (q_ix hu (b_var 2) (PQ.bo (q_int)))) (fun _ _ _=>g_name 1 (show ([".0","_law_stream"]:List Str).Nodup by decide+kernel)) (fun _ _ _=>if_nil) (fun _ _ _=>q_ix hu (b_var 1) (PQ.bo (q_int))))))) (fun _ _ _=>q_var 1))
     (ss_cons (s_if (t_not (t_tru (PQ.bo (q_fn G_law_refused (hr.mono (by decide)) (qa_cons (q_var 2) (qa_cons (q_ix hu (b_var 6) (PQ.bo (q_op2 op_mod sem_mod (PQ.bo (q_fn G_law_cell (hr.mono (by decide)) (qa_cons (q_var 0) (qa_cons (q_int) (qa_nil))))) (PQ.bo (q_callB call_lenQ sem_len (B.no "len" (by decide)) PySem.boot_len (ba_cons (b_var 6) (ba_nil))))))) (qa_nil)))))))
     (ss_one (s_ret (q_bl)))
     (ss_nil))
     (ss_one (s_ret (q_fn G_law_kept (hr.mono (by decide)) (qa_cons (q_var 2) (qa_cons (q_var 1) (qa_nil)))))))))))
theorem all_mk {l:PySem.W.OpenLaw} {h:Heap} {fa f1 f2 f3 f4 f5 f6 f7 f8 f9 f10 f11 f12 f13 f14 f15 f16 f17 f18 f19 f20 f21 f22 f23 f24 f25 f26 f27 f28 f29 C_Day C_CellarError C_UnknownStream:Addr} (X:K.In h) (G:h.Ns mainGlobals mg) (hfa:mg "law"=some (.ref fa))
  {od1 an1 od2 an2 od3 an3 od4 an4 od5 an5 od6 an6 od7 an7 od8 an8 od9 an9 od10 an10 od11 an11 od12 an12 od13 an13 od14 an14 od15 an15 od16 an16 od17 an17 od18 an18 od19 an19 od20 an20 od21 an21 od22 an22 od23 an23 od24 an24 od25 an25 od26 an26 od27 an27 od28 an28 od29 an29:Option Addr} {sl1 sl2 sl3 sl4 sl5 sl6 sl7 sl8 sl9 sl10 sl11 sl12 sl13 sl14 sl15 sl16 sl17 sl18 sl19 sl20 sl21 sl22 sl23 sl24 sl25 sl26 sl27 sl28 sl29:Array (Option Value)} {oc1 kV1 dc1 pm1 cd1 ct1 oc2 kV2 dc2 pm2 cd2 ct2 oc3 kV3 dc3 pm3 cd3 ct3 oc4 kV4 dc4 pm4 cd4 ct4 oc5 kV5 dc5 pm5 cd5 ct5 oc6 kV6 dc6 pm6 cd6 ct6 oc7 kV7 dc7 pm7 cd7 ct7 oc8 kV8 dc8 pm8 cd8 ct8 oc9 kV9 dc9 pm9 cd9 ct9 oc10 kV10 dc10 pm10 cd10 ct10 oc11 kV11 dc11 pm11 cd11 ct11 oc12 kV12 dc12 pm12 cd12 ct12 oc13 kV13 dc13 pm13 cd13 ct13 oc14 kV14 dc14 pm14 cd14 ct14 oc15 kV15 dc15 pm15 cd15 ct15 oc16 kV16 dc16 pm16 cd16 ct16 oc17 kV17 dc17 pm17 cd17 ct17 oc18 kV18 dc18 pm18 cd18 ct18 oc19 kV19 dc19 pm19 cd19 ct19 oc20 kV20 dc20 pm20 cd20 ct20 oc21 kV21 dc21 pm21 cd21 ct21 oc22 kV22 dc22 pm22 cd22 ct22 oc23 kV23 dc23 pm23 cd23 ct23 oc24 kV24 dc24 pm24 cd24 ct24 oc25 kV25 dc25 pm25 cd25 ct25 oc26 kV26 dc26 pm26 cd26 ct26 oc27 kV27 dc27 pm27 cd27 ct27 oc28 kV28 dc28 pm28 cd28 ct28 oc29 kV29 dc29 pm29 cd29 ct29:Value}
  (n_Day:PySem.W.nsIn K mainGlobals "Day"=some (some (.ref C_Day)))
  (n_CellarError:PySem.W.nsIn K mainGlobals "CellarError"=some (some (.ref C_CellarError)))
  (n_UnknownStream:PySem.W.nsIn K mainGlobals "UnknownStream"=some (some (.ref C_UnknownStream)))
  (p1_Day:PySem.W.plainGet K C_Day Str.empty=true)
  (p2_Day:PySem.W.hasDictIn K C_Day=true)
  (p3_Day:PySem.W.plainOver K C_Day=true)
  (p4_Day:PySem.W.findIn K (.ref C_Day) "__setattr__"=some (some (.builtin "object.__setattr__")))
  (q_Day_tanks:PySem.W.findIn K (.ref C_Day) "tanks"=some none)
  (q_Day_streams:PySem.W.findIn K (.ref C_Day) "streams"=some none)
  (q_Day_rises:PySem.W.findIn K (.ref C_Day) "rises"=some none)
  (q_Day_readings:PySem.W.findIn K (.ref C_Day) "readings"=some none)
  (p5_Day:PySem.W.makesIn K C_Day=true)
  (p6_Day:PySem.W.keepIn K (.ref C_Day)=true)
  (a1:PySem.W.nsIn K mainGlobals "steps_from"=some (some (.ref f1)))
  (l1:K.lookup f1=some ⟨oc1,od1, .func (PySem.W.fnOf "steps_from" "steps_from" (defArgs s_steps_from) (defBody s_steps_from) (defScope s_steps_from) .none kV1 dc1 pm1 an1 cd1 ct1),sl1⟩)
  (c1:PySem.W.codeIn K cd1 "steps_from"=true)
  (k1:PySem.W.keepIn K (.ref f1)=true)
  (a2:PySem.W.nsIn K mainGlobals "arrivals_from"=some (some (.ref f2)))
  (l2:K.lookup f2=some ⟨oc2,od2, .func (PySem.W.fnOf "arrivals_from" "arrivals_from" (defArgs s_arrivals_from) (defBody s_arrivals_from) (defScope s_arrivals_from) .none kV2 dc2 pm2 an2 cd2 ct2),sl2⟩)
  (c2:PySem.W.codeIn K cd2 "arrivals_from"=true)
  (k2:PySem.W.keepIn K (.ref f2)=true)
  (a3:PySem.W.nsIn K mainGlobals "path_of"=some (some (.ref f3)))
  (l3:K.lookup f3=some ⟨oc3,od3, .func (PySem.W.fnOf "path_of" "path_of" (defArgs s_path_of) (defBody s_path_of) (defScope s_path_of) .none kV3 dc3 pm3 an3 cd3 ct3),sl3⟩)
  (c3:PySem.W.codeIn K cd3 "path_of"=true)
  (k3:PySem.W.keepIn K (.ref f3)=true)
  (a4:PySem.W.findIn K (.ref C_Day) "stream"=some (some (.ref f4)))
  (l4:K.lookup f4=some ⟨oc4,od4, .func (PySem.W.fnOf "stream" "Day.stream" (defArgs s_Day_stream) (defBody s_Day_stream) (defScope s_Day_stream) .none kV4 dc4 pm4 an4 cd4 ct4),sl4⟩)
  (c4:PySem.W.codeIn K cd4 "Day.stream"=true)
  (k4:PySem.W.keepIn K (.ref f4)=true)
  (i4:PySem.W.isFn K (.ref f4)=true)
  (a5:PySem.W.findIn K (.ref C_Day) "metered"=some (some (.ref f5)))
  (l5:K.lookup f5=some ⟨oc5,od5, .func (PySem.W.fnOf "metered" "Day.metered" (defArgs s_Day_metered) (defBody s_Day_metered) (defScope s_Day_metered) .none kV5 dc5 pm5 an5 cd5 ct5),sl5⟩)
  (c5:PySem.W.codeIn K cd5 "Day.metered"=true)
  (k5:PySem.W.keepIn K (.ref f5)=true)
  (i5:PySem.W.isFn K (.ref f5)=true)
  (a6:PySem.W.findIn K (.ref C_Day) "without_meter"=some (some (.ref f6)))
  (l6:K.lookup f6=some ⟨oc6,od6, .func (PySem.W.fnOf "without_meter" "Day.without_meter" (defArgs s_Day_without_meter) (defBody s_Day_without_meter) (defScope s_Day_without_meter) .none kV6 dc6 pm6 an6 cd6 ct6),sl6⟩)
  (c6:PySem.W.codeIn K cd6 "Day.without_meter"=true)
  (k6:PySem.W.keepIn K (.ref f6)=true)
  (i6:PySem.W.isFn K (.ref f6)=true)
  (a7:PySem.W.nsIn K mainGlobals "others_without_meter"=some (some (.ref f7)))
  (l7:K.lookup f7=some ⟨oc7,od7, .func (PySem.W.fnOf "others_without_meter" "others_without_meter" (defArgs s_others_without_meter) (defBody s_others_without_meter) (defScope s_others_without_meter) .none kV7 dc7 pm7 an7 cd7 ct7),sl7⟩)
  (c7:PySem.W.codeIn K cd7 "others_without_meter"=true)
  (k7:PySem.W.keepIn K (.ref f7)=true)
  (a8:PySem.W.nsIn K mainGlobals "ring_of"=some (some (.ref f8)))
  (l8:K.lookup f8=some ⟨oc8,od8, .func (PySem.W.fnOf "ring_of" "ring_of" (defArgs s_ring_of) (defBody s_ring_of) (defScope s_ring_of) .none kV8 dc8 pm8 an8 cd8 ct8),sl8⟩)
  (c8:PySem.W.codeIn K cd8 "ring_of"=true)
  (k8:PySem.W.keepIn K (.ref f8)=true)
  (a9:PySem.W.findIn K (.ref C_Day) "__init__"=some (some (.ref f9)))
  (l9:K.lookup f9=some ⟨oc9,od9, .func (PySem.W.fnOf "__init__" "Day.__init__" (defArgs s_Day_init) (defBody s_Day_init) (defScope s_Day_init) .none kV9 dc9 pm9 an9 cd9 ct9),sl9⟩)
  (c9:PySem.W.codeIn K cd9 "Day.__init__"=true)
  (k9:PySem.W.keepIn K (.ref f9)=true)
  (i9:PySem.W.isFn K (.ref f9)=true)
  (a10:PySem.W.nsIn K mainGlobals "_law_at"=some (some (.ref f10)))
  (l10:K.lookup f10=some ⟨oc10,od10, .func (PySem.W.fnOf "_law_at" "_law_at" (defArgs s_law_at) (defBody s_law_at) (defScope s_law_at) .none kV10 dc10 pm10 an10 cd10 ct10),sl10⟩)
  (c10:PySem.W.codeIn K cd10 "_law_at"=true)
  (k10:PySem.W.keepIn K (.ref f10)=true)
  (a11:PySem.W.nsIn K mainGlobals "_law_cell"=some (some (.ref f11)))
  (l11:K.lookup f11=some ⟨oc11,od11, .func (PySem.W.fnOf "_law_cell" "_law_cell" (defArgs s_law_cell) (defBody s_law_cell) (defScope s_law_cell) .none kV11 dc11 pm11 an11 cd11 ct11),sl11⟩)
  (c11:PySem.W.codeIn K cd11 "_law_cell"=true)
  (k11:PySem.W.keepIn K (.ref f11)=true)
  (a12:PySem.W.nsIn K mainGlobals "_law_same"=some (some (.ref f12)))
  (l12:K.lookup f12=some ⟨oc12,od12, .func (PySem.W.fnOf "_law_same" "_law_same" (defArgs s_law_same) (defBody s_law_same) (defScope s_law_same) .none kV12 dc12 pm12 an12 cd12 ct12),sl12⟩)
  (c12:PySem.W.codeIn K cd12 "_law_same"=true)
  (k12:PySem.W.keepIn K (.ref f12)=true)
  (a13:PySem.W.nsIn K mainGlobals "_law_whole"=some (some (.ref f13)))
  (l13:K.lookup f13=some ⟨oc13,od13, .func (PySem.W.fnOf "_law_whole" "_law_whole" (defArgs s_law_whole) (defBody s_law_whole) (defScope s_law_whole) .none kV13 dc13 pm13 an13 cd13 ct13),sl13⟩)
  (c13:PySem.W.codeIn K cd13 "_law_whole"=true)
  (k13:PySem.W.keepIn K (.ref f13)=true)
  (a14:PySem.W.nsIn K mainGlobals "_law_streams"=some (some (.ref f14)))
  (l14:K.lookup f14=some ⟨oc14,od14, .func (PySem.W.fnOf "_law_streams" "_law_streams" (defArgs s_law_streams) (defBody s_law_streams) (defScope s_law_streams) .none kV14 dc14 pm14 an14 cd14 ct14),sl14⟩)
  (c14:PySem.W.codeIn K cd14 "_law_streams"=true)
  (k14:PySem.W.keepIn K (.ref f14)=true)
  (a15:PySem.W.nsIn K mainGlobals "_law_metered"=some (some (.ref f15)))
  (l15:K.lookup f15=some ⟨oc15,od15, .func (PySem.W.fnOf "_law_metered" "_law_metered" (defArgs s_law_metered) (defBody s_law_metered) (defScope s_law_metered) .none kV15 dc15 pm15 an15 cd15 ct15),sl15⟩)
  (c15:PySem.W.codeIn K cd15 "_law_metered"=true)
  (k15:PySem.W.keepIn K (.ref f15)=true)
  (a16:PySem.W.nsIn K mainGlobals "_law_span"=some (some (.ref f16)))
  (l16:K.lookup f16=some ⟨oc16,od16, .func (PySem.W.fnOf "_law_span" "_law_span" (defArgs s_law_span) (defBody s_law_span) (defScope s_law_span) .none kV16 dc16 pm16 an16 cd16 ct16),sl16⟩)
  (c16:PySem.W.codeIn K cd16 "_law_span"=true)
  (k16:PySem.W.keepIn K (.ref f16)=true)
  (a17:PySem.W.nsIn K mainGlobals "_law_flows"=some (some (.ref f17)))
  (l17:K.lookup f17=some ⟨oc17,od17, .func (PySem.W.fnOf "_law_flows" "_law_flows" (defArgs s_law_flows) (defBody s_law_flows) (defScope s_law_flows) .none kV17 dc17 pm17 an17 cd17 ct17),sl17⟩)
  (c17:PySem.W.codeIn K cd17 "_law_flows"=true)
  (k17:PySem.W.keepIn K (.ref f17)=true)
  (a18:PySem.W.nsIn K mainGlobals "_law_truth"=some (some (.ref f18)))
  (l18:K.lookup f18=some ⟨oc18,od18, .func (PySem.W.fnOf "_law_truth" "_law_truth" (defArgs s_law_truth) (defBody s_law_truth) (defScope s_law_truth) .none kV18 dc18 pm18 an18 cd18 ct18),sl18⟩)
  (c18:PySem.W.codeIn K cd18 "_law_truth"=true)
  (k18:PySem.W.keepIn K (.ref f18)=true)
  (a19:PySem.W.nsIn K mainGlobals "_law_readings"=some (some (.ref f19)))
  (l19:K.lookup f19=some ⟨oc19,od19, .func (PySem.W.fnOf "_law_readings" "_law_readings" (defArgs s_law_readings) (defBody s_law_readings) (defScope s_law_readings) .none kV19 dc19 pm19 an19 cd19 ct19),sl19⟩)
  (c19:PySem.W.codeIn K cd19 "_law_readings"=true)
  (k19:PySem.W.keepIn K (.ref f19)=true)
  (a20:PySem.W.nsIn K mainGlobals "_law_rises"=some (some (.ref f20)))
  (l20:K.lookup f20=some ⟨oc20,od20, .func (PySem.W.fnOf "_law_rises" "_law_rises" (defArgs s_law_rises) (defBody s_law_rises) (defScope s_law_rises) .none kV20 dc20 pm20 an20 cd20 ct20),sl20⟩)
  (c20:PySem.W.codeIn K cd20 "_law_rises"=true)
  (k20:PySem.W.keepIn K (.ref f20)=true)
  (a21:PySem.W.nsIn K mainGlobals "_law_case"=some (some (.ref f21)))
  (l21:K.lookup f21=some ⟨oc21,od21, .func (PySem.W.fnOf "_law_case" "_law_case" (defArgs s_law_case) (defBody s_law_case) (defScope s_law_case) .none kV21 dc21 pm21 an21 cd21 ct21),sl21⟩)
  (c21:PySem.W.codeIn K cd21 "_law_case"=true)
  (k21:PySem.W.keepIn K (.ref f21)=true)
  (a22:PySem.W.nsIn K mainGlobals "_law_day"=some (some (.ref f22)))
  (l22:K.lookup f22=some ⟨oc22,od22, .func (PySem.W.fnOf "_law_day" "_law_day" (defArgs s_law_day) (defBody s_law_day) (defScope s_law_day) .none kV22 dc22 pm22 an22 cd22 ct22),sl22⟩)
  (c22:PySem.W.codeIn K cd22 "_law_day"=true)
  (k22:PySem.W.keepIn K (.ref f22)=true)
  (a23:PySem.W.nsIn K mainGlobals "_law_kept"=some (some (.ref f23)))
  (l23:K.lookup f23=some ⟨oc23,od23, .func (PySem.W.fnOf "_law_kept" "_law_kept" (defArgs s_law_kept) (defBody s_law_kept) (defScope s_law_kept) .none kV23 dc23 pm23 an23 cd23 ct23),sl23⟩)
  (c23:PySem.W.codeIn K cd23 "_law_kept"=true)
  (k23:PySem.W.keepIn K (.ref f23)=true)
  (a24:PySem.W.nsIn K mainGlobals "_law_loose"=some (some (.ref f24)))
  (l24:K.lookup f24=some ⟨oc24,od24, .func (PySem.W.fnOf "_law_loose" "_law_loose" (defArgs s_law_loose) (defBody s_law_loose) (defScope s_law_loose) .none kV24 dc24 pm24 an24 cd24 ct24),sl24⟩)
  (c24:PySem.W.codeIn K cd24 "_law_loose"=true)
  (k24:PySem.W.keepIn K (.ref f24)=true)
  (a25:PySem.W.nsIn K mainGlobals "_law_flood"=some (some (.ref f25)))
  (l25:K.lookup f25=some ⟨oc25,od25, .func (PySem.W.fnOf "_law_flood" "_law_flood" (defArgs s_law_flood) (defBody s_law_flood) (defScope s_law_flood) .none kV25 dc25 pm25 an25 cd25 ct25),sl25⟩)
  (c25:PySem.W.codeIn K cd25 "_law_flood"=true)
  (k25:PySem.W.keepIn K (.ref f25)=true)
  (a26:PySem.W.nsIn K mainGlobals "_law_is_way"=some (some (.ref f26)))
  (l26:K.lookup f26=some ⟨oc26,od26, .func (PySem.W.fnOf "_law_is_way" "_law_is_way" (defArgs s_law_is_way) (defBody s_law_is_way) (defScope s_law_is_way) .none kV26 dc26 pm26 an26 cd26 ct26),sl26⟩)
  (c26:PySem.W.codeIn K cd26 "_law_is_way"=true)
  (k26:PySem.W.keepIn K (.ref f26)=true)
  (a27:PySem.W.nsIn K mainGlobals "_law_is_ring"=some (some (.ref f27)))
  (l27:K.lookup f27=some ⟨oc27,od27, .func (PySem.W.fnOf "_law_is_ring" "_law_is_ring" (defArgs s_law_is_ring) (defBody s_law_is_ring) (defScope s_law_is_ring) .none kV27 dc27 pm27 an27 cd27 ct27),sl27⟩)
  (c27:PySem.W.codeIn K cd27 "_law_is_ring"=true)
  (k27:PySem.W.keepIn K (.ref f27)=true)
  (a28:PySem.W.nsIn K mainGlobals "_law_refused"=some (some (.ref f28)))
  (l28:K.lookup f28=some ⟨oc28,od28, .func (PySem.W.fnOf "_law_refused" "_law_refused" (defArgs s_law_refused) (defBody s_law_refused) (defScope s_law_refused) .none kV28 dc28 pm28 an28 cd28 ct28),sl28⟩)
  (c28:PySem.W.codeIn K cd28 "_law_refused"=true)
  (k28:PySem.W.keepIn K (.ref f28)=true)
  (a29:PySem.W.nsIn K mainGlobals "law"=some (some (.ref f29)))
  (l29:K.lookup f29=some ⟨oc29,od29, .func (PySem.W.fnOf "law" "law" (defArgs s_law) (defBody s_law) (defScope s_law) .none kV29 dc29 pm29 an29 cd29 ct29),sl29⟩)
  (c29:PySem.W.codeIn K cd29 "law"=true)
  (k29:PySem.W.keepIn K (.ref f29)=true)
  (s1:PySem.W.specialIn K (.builtin "object.__class__") "__get__"=some (some (.builtin "getset_descriptor.__get__")))
  (s2:PySem.W.takesIn K (.builtin "object.__class__")=some true)
  (e1_UnknownStream:PySem.W.excIn K C_UnknownStream vErr "ValueError.__new__"=true)
  (e2_UnknownStream:PySem.W.findIn K (.ref C_UnknownStream) "__getattribute__"=some (some (.builtin "BaseException.__getattribute__")))
  (e3_UnknownStream:PySem.W.findIn K (.ref C_UnknownStream) "__getattr__"=some none)
  (e4_UnknownStream:PySem.W.findIn K (.ref C_UnknownStream) "__class__"=some (some (.builtin "object.__class__")))
  (e5_UnknownStream:PySem.W.mroIn K C_UnknownStream (.type "object")=some true)
  (e6_UnknownStream:PySem.W.mroIn K C_UnknownStream (.type "BaseException")=some true)
  (e7_UnknownStream:PySem.W.mroIn K C_UnknownStream (.ref C_UnknownStream)=some true)
  (e1_CellarError:PySem.W.excIn K C_CellarError vErr "ValueError.__new__"=true)
  (e6_CellarError:PySem.W.mroIn K C_CellarError (.type "BaseException")=some true)
  (m_CellarError_UnknownStream:PySem.W.mroIn K C_UnknownStream (.ref C_CellarError)=some true)
  (m_UnknownStream_UnknownStream:PySem.W.mroIn K C_UnknownStream (.ref C_UnknownStream)=some true)
  (z0:PySem.W.nsIn K mainGlobals "bool"=some none)
  (z1:PySem.W.nsIn K mainGlobals "dict"=some none)
  (z2:PySem.W.nsIn K mainGlobals "int"=some none)
  (z3:PySem.W.nsIn K mainGlobals "isinstance"=some none)
  (z4:PySem.W.nsIn K mainGlobals "len"=some none)
  (z5:PySem.W.nsIn K mainGlobals "list"=some none)
  (z6:PySem.W.nsIn K mainGlobals "max"=some none)
  (z7:PySem.W.nsIn K mainGlobals "min"=some none)
  (z8:PySem.W.nsIn K mainGlobals "range"=some none)
  (z9:PySem.W.nsIn K mainGlobals "reversed"=some none)
  (z10:PySem.W.nsIn K mainGlobals "sorted"=some none)
  (z11:PySem.W.nsIn K mainGlobals "tuple"=some none)
  :∃fd:FuncData,(∀(s:Shared) (v:Value),BindsTo s fd ⟨[v],[]⟩ [("_law_script",v)])/\∀base:Heap,K.In base->base.Ns mainGlobals mg->FnOk l.prog w K mg base (CXE l.prog w) 10 fa fd ["_law_script"] (spQ K 1 m_law):=by
 have e:=hfa.symm.trans (PySem.W.mg_of X G a29)
 cases e
 have B:Bl mg BN:=⟨fun x hx=>by
  simp only[BN,List.mem_cons,List.not_mem_nil,or_false]at hx
  rcases hx with rfl|rfl|rfl|rfl|rfl|rfl|rfl|rfl|rfl|rfl|rfl|rfl
  ·exact PySem.W.mg_none_of X G z0
  ·exact PySem.W.mg_none_of X G z1
  ·exact PySem.W.mg_none_of X G z2
  ·exact PySem.W.mg_none_of X G z3
  ·exact PySem.W.mg_none_of X G z4
  ·exact PySem.W.mg_none_of X G z5
  ·exact PySem.W.mg_none_of X G z6
  ·exact PySem.W.mg_none_of X G z7
  ·exact PySem.W.mg_none_of X G z8
  ·exact PySem.W.mg_none_of X G z9
  ·exact PySem.W.mg_none_of X G z10
  ·exact PySem.W.mg_none_of X G z11⟩
 have cl_Day:ClsAt K "Day" C_Day:=⟨n_Day,p1_Day,p2_Day,p3_Day,p4_Day⟩
 have no_Day:∀x∈FS_Day,NoAttr K C_Day x:=fun x hx=>by
  simp only[FS_Day,List.mem_cons,List.not_mem_nil,or_false]at hx
  rcases hx with rfl|rfl|rfl|rfl
  ·exact q_Day_tanks
  ·exact q_Day_streams
  ·exact q_Day_rises
  ·exact q_Day_readings
 have T_Day:FldOk K "Day" FS_Day:=⟨_,cl_Day,no_Day⟩
 have F1:=fun_mk (st:=s_steps_from) l1 c1 k1
 have b1:=F1.binds (ps:=["streams","place"]) fun _ _ _ _ _ _ us hl=>el2 (P:=fun us=>bindArgs _ ⟨us,[]⟩=pure (List.zip _ us)) (fun _ _=>rfl) us hl
 have A1:DefAt K mg "steps_from" s_steps_from ["streams","place"]:=⟨_,_,F1,PySem.W.mg_of X G a1,b1⟩
 have F2:=fun_mk (st:=s_arrivals_from) l2 c2 k2
 have b2:=F2.binds (ps:=["streams","start"]) fun _ _ _ _ _ _ us hl=>el2 (P:=fun us=>bindArgs _ ⟨us,[]⟩=pure (List.zip _ us)) (fun _ _=>rfl) us hl
 have A2:DefAt K mg "arrivals_from" s_arrivals_from ["streams","start"]:=⟨_,_,F2,PySem.W.mg_of X G a2,b2⟩
 have F3:=fun_mk (st:=s_path_of) l3 c3 k3
 have b3:=F3.binds (ps:=["streams","start","goal"]) fun _ _ _ _ _ _ us hl=>el3 (P:=fun us=>bindArgs _ ⟨us,[]⟩=pure (List.zip _ us)) (fun _ _ _=>rfl) us hl
 have A3:DefAt K mg "path_of" s_path_of ["streams","start","goal"]:=⟨_,_,F3,PySem.W.mg_of X G a3,b3⟩
 have F4:=fun_mk (st:=s_Day_stream) l4 c4 k4
 have b4:=F4.binds (ps:=["self","number"]) fun _ _ _ _ _ _ us hl=>el2 (P:=fun us=>bindArgs _ ⟨us,[]⟩=pure (List.zip _ us)) (fun _ _=>rfl) us hl
 have A4:MDefAt K "Day" "stream" "Day.stream" s_Day_stream ["self","number"]:=⟨_,_,_,F4,cl_Day,⟨a4,i4,k4⟩,b4⟩
 have F5:=fun_mk (st:=s_Day_metered) l5 c5 k5
 have b5:=F5.binds (ps:=["self","number"]) fun _ _ _ _ _ _ us hl=>el2 (P:=fun us=>bindArgs _ ⟨us,[]⟩=pure (List.zip _ us)) (fun _ _=>rfl) us hl
 have A5:MDefAt K "Day" "metered" "Day.metered" s_Day_metered ["self","number"]:=⟨_,_,_,F5,cl_Day,⟨a5,i5,k5⟩,b5⟩
 have F6:=fun_mk (st:=s_Day_without_meter) l6 c6 k6
 have b6:=F6.binds (ps:=["self"]) fun _ _ _ _ _ _ us hl=>el1 (P:=fun us=>bindArgs _ ⟨us,[]⟩=pure (List.zip _ us)) (fun _=>rfl) us hl
 have A6:MDefAt K "Day" "without_meter" "Day.without_meter" s_Day_without_meter ["self"]:=⟨_,_,_,F6,cl_Day,⟨a6,i6,k6⟩,b6⟩
 have F7:=fun_mk (st:=s_others_without_meter) l7 c7 k7
 have b7:=F7.binds (ps:=["day","number"]) fun _ _ _ _ _ _ us hl=>el2 (P:=fun us=>bindArgs _ ⟨us,[]⟩=pure (List.zip _ us)) (fun _ _=>rfl) us hl
 have A7:DefAt K mg "others_without_meter" s_others_without_meter ["day","number"]:=⟨_,_,F7,PySem.W.mg_of X G a7,b7⟩
 have F8:=fun_mk (st:=s_ring_of) l8 c8 k8
 have b8:=F8.binds (ps:=["day","number"]) fun _ _ _ _ _ _ us hl=>el2 (P:=fun us=>bindArgs _ ⟨us,[]⟩=pure (List.zip _ us)) (fun _ _=>rfl) us hl
 have A8:DefAt K mg "ring_of" s_ring_of ["day","number"]:=⟨_,_,F8,PySem.W.mg_of X G a8,b8⟩
 have F9:=fun_mk (st:=s_Day_init) l9 c9 k9
 have b9:=F9.binds (ps:=["self","tanks","streams","rises","readings"]) fun _ _ _ _ _ _ us hl=>el5 (P:=fun us=>bindArgs _ ⟨us,[]⟩=pure (List.zip _ us)) (fun _ _ _ _ _=>rfl) us hl
 have A9:IDefAt K mg "Day" "Day.__init__" s_Day_init ["self","tanks","streams","rises","readings"] FS_Day:=⟨_,_,_,F9,cl_Day,PySem.W.mg_of X G n_Day,⟨p5_Day,a9,i9,p6_Day⟩,b9,no_Day⟩
 have F10:=fun_mk (st:=s_law_at) l10 c10 k10
 have b10:=F10.binds (ps:=["_law_script","_law_k"]) fun _ _ _ _ _ _ us hl=>el2 (P:=fun us=>bindArgs _ ⟨us,[]⟩=pure (List.zip _ us)) (fun _ _=>rfl) us hl
 have A10:DefAt K mg "_law_at" s_law_at ["_law_script","_law_k"]:=⟨_,_,F10,PySem.W.mg_of X G a10,b10⟩
 have F11:=fun_mk (st:=s_law_cell) l11 c11 k11
 have b11:=F11.binds (ps:=["_law_script","_law_k"]) fun _ _ _ _ _ _ us hl=>el2 (P:=fun us=>bindArgs _ ⟨us,[]⟩=pure (List.zip _ us)) (fun _ _=>rfl) us hl
 have A11:DefAt K mg "_law_cell" s_law_cell ["_law_script","_law_k"]:=⟨_,_,F11,PySem.W.mg_of X G a11,b11⟩
 have F12:=fun_mk (st:=s_law_same) l12 c12 k12
 have b12:=F12.binds (ps:=["_law_found","_law_due"]) fun _ _ _ _ _ _ us hl=>el2 (P:=fun us=>bindArgs _ ⟨us,[]⟩=pure (List.zip _ us)) (fun _ _=>rfl) us hl
 have A12:DefAt K mg "_law_same" s_law_same ["_law_found","_law_due"]:=⟨_,_,F12,PySem.W.mg_of X G a12,b12⟩
 have F13:=fun_mk (st:=s_law_whole) l13 c13 k13
 have b13:=F13.binds (ps:=["_law_found"]) fun _ _ _ _ _ _ us hl=>el1 (P:=fun us=>bindArgs _ ⟨us,[]⟩=pure (List.zip _ us)) (fun _=>rfl) us hl
 have A13:DefAt K mg "_law_whole" s_law_whole ["_law_found"]:=⟨_,_,F13,PySem.W.mg_of X G a13,b13⟩
 have F14:=fun_mk (st:=s_law_streams) l14 c14 k14
 have b14:=F14.binds (ps:=["_law_script","_law_n","_law_many"]) fun _ _ _ _ _ _ us hl=>el3 (P:=fun us=>bindArgs _ ⟨us,[]⟩=pure (List.zip _ us)) (fun _ _ _=>rfl) us hl
 have A14:DefAt K mg "_law_streams" s_law_streams ["_law_script","_law_n","_law_many"]:=⟨_,_,F14,PySem.W.mg_of X G a14,b14⟩
 have F15:=fun_mk (st:=s_law_metered) l15 c15 k15
 have b15:=F15.binds (ps:=["_law_script","_law_streams_here","_law_share"]) fun _ _ _ _ _ _ us hl=>el3 (P:=fun us=>bindArgs _ ⟨us,[]⟩=pure (List.zip _ us)) (fun _ _ _=>rfl) us hl
 have A15:DefAt K mg "_law_metered" s_law_metered ["_law_script","_law_streams_here","_law_share"]:=⟨_,_,F15,PySem.W.mg_of X G a15,b15⟩
 have F16:=fun_mk (st:=s_law_span) l16 c16 k16
 have b16:=F16.binds (ps:=["_law_levels","_law_source","_law_target","_law_most"]) fun _ _ _ _ _ _ us hl=>el4 (P:=fun us=>bindArgs _ ⟨us,[]⟩=pure (List.zip _ us)) (fun _ _ _ _=>rfl) us hl
 have A16:DefAt K mg "_law_span" s_law_span ["_law_levels","_law_source","_law_target","_law_most"]:=⟨_,_,F16,PySem.W.mg_of X G a16,b16⟩
 have F17:=fun_mk (st:=s_law_flows) l17 c17 k17
 have b17:=F17.binds (ps:=["_law_figures","_law_n","_law_streams_here","_law_meters","_law_bounds"]) fun _ _ _ _ _ _ us hl=>el5 (P:=fun us=>bindArgs _ ⟨us,[]⟩=pure (List.zip _ us)) (fun _ _ _ _ _=>rfl) us hl
 have A17:DefAt K mg "_law_flows" s_law_flows ["_law_figures","_law_n","_law_streams_here","_law_meters","_law_bounds"]:=⟨_,_,F17,PySem.W.mg_of X G a17,b17⟩
 have F18:=fun_mk (st:=s_law_truth) l18 c18 k18
 have b18:=F18.binds (ps:=["_law_script","_law_n","_law_streams_here","_law_metered_here","_law_small"]) fun _ _ _ _ _ _ us hl=>el5 (P:=fun us=>bindArgs _ ⟨us,[]⟩=pure (List.zip _ us)) (fun _ _ _ _ _=>rfl) us hl
 have A18:DefAt K mg "_law_truth" s_law_truth ["_law_script","_law_n","_law_streams_here","_law_metered_here","_law_small"]:=⟨_,_,F18,PySem.W.mg_of X G a18,b18⟩
 have F19:=fun_mk (st:=s_law_readings) l19 c19 k19
 have b19:=F19.binds (ps:=["_law_script","_law_truth_here","_law_metered_here","_law_mode","_law_small"]) fun _ _ _ _ _ _ us hl=>el5 (P:=fun us=>bindArgs _ ⟨us,[]⟩=pure (List.zip _ us)) (fun _ _ _ _ _=>rfl) us hl
 have A19:DefAt K mg "_law_readings" s_law_readings ["_law_script","_law_truth_here","_law_metered_here","_law_mode","_law_small"]:=⟨_,_,F19,PySem.W.mg_of X G a19,b19⟩
 have F20:=fun_mk (st:=s_law_rises) l20 c20 k20
 have b20:=F20.binds (ps:=["_law_script","_law_levels","_law_mode","_law_small"]) fun _ _ _ _ _ _ us hl=>el4 (P:=fun us=>bindArgs _ ⟨us,[]⟩=pure (List.zip _ us)) (fun _ _ _ _=>rfl) us hl
 have A20:DefAt K mg "_law_rises" s_law_rises ["_law_script","_law_levels","_law_mode","_law_small"]:=⟨_,_,F20,PySem.W.mg_of X G a20,b20⟩
 have F21:=fun_mk (st:=s_law_case) l21 c21 k21
 have b21:=F21.binds (ps:=["_law_script"]) fun _ _ _ _ _ _ us hl=>el1 (P:=fun us=>bindArgs _ ⟨us,[]⟩=pure (List.zip _ us)) (fun _=>rfl) us hl
 have A21:DefAt K mg "_law_case" s_law_case ["_law_script"]:=⟨_,_,F21,PySem.W.mg_of X G a21,b21⟩
 have F22:=fun_mk (st:=s_law_day) l22 c22 k22
 have b22:=F22.binds (ps:=["_law_script","_law_case_here"]) fun _ _ _ _ _ _ us hl=>el2 (P:=fun us=>bindArgs _ ⟨us,[]⟩=pure (List.zip _ us)) (fun _ _=>rfl) us hl
 have A22:DefAt K mg "_law_day" s_law_day ["_law_script","_law_case_here"]:=⟨_,_,F22,PySem.W.mg_of X G a22,b22⟩
 have F23:=fun_mk (st:=s_law_kept) l23 c23 k23
 have b23:=F23.binds (ps:=["_law_day_here","_law_case_here"]) fun _ _ _ _ _ _ us hl=>el2 (P:=fun us=>bindArgs _ ⟨us,[]⟩=pure (List.zip _ us)) (fun _ _=>rfl) us hl
 have A23:DefAt K mg "_law_kept" s_law_kept ["_law_day_here","_law_case_here"]:=⟨_,_,F23,PySem.W.mg_of X G a23,b23⟩
 have F24:=fun_mk (st:=s_law_loose) l24 c24 k24
 have b24:=F24.binds (ps:=["_law_case_here"]) fun _ _ _ _ _ _ us hl=>el1 (P:=fun us=>bindArgs _ ⟨us,[]⟩=pure (List.zip _ us)) (fun _=>rfl) us hl
 have A24:DefAt K mg "_law_loose" s_law_loose ["_law_case_here"]:=⟨_,_,F24,PySem.W.mg_of X G a24,b24⟩
 have F25:=fun_mk (st:=s_law_flood) l25 c25 k25
 have b25:=F25.binds (ps:=["_law_streams_here","_law_place"]) fun _ _ _ _ _ _ us hl=>el2 (P:=fun us=>bindArgs _ ⟨us,[]⟩=pure (List.zip _ us)) (fun _ _=>rfl) us hl
 have A25:DefAt K mg "_law_flood" s_law_flood ["_law_streams_here","_law_place"]:=⟨_,_,F25,PySem.W.mg_of X G a25,b25⟩
 have F26:=fun_mk (st:=s_law_is_way) l26 c26 k26
 have b26:=F26.binds (ps:=["_law_streams_here","_law_steps","_law_place","_law_goal"]) fun _ _ _ _ _ _ us hl=>el4 (P:=fun us=>bindArgs _ ⟨us,[]⟩=pure (List.zip _ us)) (fun _ _ _ _=>rfl) us hl
 have A26:DefAt K mg "_law_is_way" s_law_is_way ["_law_streams_here","_law_steps","_law_place","_law_goal"]:=⟨_,_,F26,PySem.W.mg_of X G a26,b26⟩
 have F27:=fun_mk (st:=s_law_is_ring) l27 c27 k27
 have b27:=F27.binds (ps:=["_law_case_here","_law_stream","_law_ring"]) fun _ _ _ _ _ _ us hl=>el3 (P:=fun us=>bindArgs _ ⟨us,[]⟩=pure (List.zip _ us)) (fun _ _ _=>rfl) us hl
 have A27:DefAt K mg "_law_is_ring" s_law_is_ring ["_law_case_here","_law_stream","_law_ring"]:=⟨_,_,F27,PySem.W.mg_of X G a27,b27⟩
 have F28:=fun_mk (st:=s_law_refused) l28 c28 k28
 have b28:=F28.binds (ps:=["_law_day_here","_law_number"]) fun _ _ _ _ _ _ us hl=>el2 (P:=fun us=>bindArgs _ ⟨us,[]⟩=pure (List.zip _ us)) (fun _ _=>rfl) us hl
 have A28:DefAt K mg "_law_refused" s_law_refused ["_law_day_here","_law_number"]:=⟨_,_,F28,PySem.W.mg_of X G a28,b28⟩
 have F29:=fun_mk (st:=s_law) l29 c29 k29
 have b29:=F29.binds (ps:=["_law_script"]) fun _ _ _ _ _ _ us hl=>el1 (P:=fun us=>bindArgs _ ⟨us,[]⟩=pure (List.zip _ us)) (fun _=>rfl) us hl
 have A29:DefAt K mg "law" s_law ["_law_script"]:=⟨_,_,F29,PySem.W.mg_of X G a29,b29⟩
 have ek_UnknownStream:ErrK K C_UnknownStream:=errK_mk e1_UnknownStream e2_UnknownStream e3_UnknownStream e4_UnknownStream e5_UnknownStream e6_UnknownStream (kitCls_mk e1_UnknownStream e7_UnknownStream) s1 s2
 have E_UnknownStream:ErrAt K mg "UnknownStream":=⟨_,n_UnknownStream,PySem.W.mg_of X G n_UnknownStream,ek_UnknownStream⟩
 have I_UnknownStream:IsAt K mg "UnknownStream" (tabL [("UnknownStream",true)]):=⟨_,PySem.W.mg_of X G n_UnknownStream,istab_mk (fun x hx=>by
  simp only[List.mem_cons,List.not_mem_nil,or_false]at hx
  subst hx
  exact⟨_,n_UnknownStream,kitOne_mk e1_UnknownStream m_UnknownStream_UnknownStream e7_UnknownStream,ek_UnknownStream⟩)⟩
 have U_CellarError:Under K mg "CellarError" (subL ["UnknownStream"]):=under_mk (PySem.W.mg_of X G n_CellarError) (fun x hx=>by
  simp only[List.mem_cons,List.not_mem_nil,or_false]at hx
  subst hx
  exact⟨_,n_UnknownStream,exmOne_mk e1_CellarError m_CellarError_UnknownStream e6_CellarError⟩)
 refine⟨PySem.W.fnOf "law" "law" (defArgs s_law) (defBody s_law) (defScope s_law) .none kV29 dc29 pm29 an29 cd29 ct29,fun s v=> .of_eq rfl,fun base _ _=> ?_⟩
 have G_steps_from:FnAt l.prog w K mg base 1 "steps_from" 2 m_steps_from:=ok_steps_from A1 B
 have G_arrivals_from:FnAt l.prog w K mg base 2 "arrivals_from" 2 m_arrivals_from:=ok_arrivals_from A2 B G_steps_from
 have G_path_of:FnAt l.prog w K mg base 3 "path_of" 3 m_path_of:=ok_path_of A3 B G_arrivals_from
 have G_Day_stream:MethAt l.prog w K mg base 1 "Day" "stream" 2 m_Day_stream:=ok_Day_stream A4 B E_UnknownStream T_Day
 have G_Day_metered:MethAt l.prog w K mg base 2 "Day" "metered" 2 m_Day_metered:=ok_Day_metered A5 B G_Day_stream T_Day
 have G_Day_without_meter:MethAt l.prog w K mg base 3 "Day" "without_meter" 1 m_Day_without_meter:=ok_Day_without_meter A6 B G_Day_metered T_Day
 have G_others_without_meter:FnAt l.prog w K mg base 4 "others_without_meter" 2 m_others_without_meter:=ok_others_without_meter A7 B G_Day_without_meter
 have G_ring_of:FnAt l.prog w K mg base 5 "ring_of" 2 m_ring_of:=ok_ring_of A8 B G_Day_metered G_Day_stream G_path_of G_others_without_meter
 have G_Day_init:InitAt l.prog w K mg base 1 "Day" 4 m_Day_init:=ok_Day_init A9 B
 have G_law_at:FnAt l.prog w K mg base 1 "_law_at" 2 m_law_at:=ok_law_at A10 B
 have G_law_cell:FnAt l.prog w K mg base 2 "_law_cell" 2 m_law_cell:=ok_law_cell A11 B G_law_at
 have G_law_same:FnAt l.prog w K mg base 8 "_law_same" 2 m_law_same:=ok_law_same A12 B
 have G_law_whole:FnAt l.prog w K mg base 1 "_law_whole" 1 m_law_whole:=ok_law_whole A13 B
 have G_law_streams:FnAt l.prog w K mg base 3 "_law_streams" 3 m_law_streams:=ok_law_streams A14 B G_law_cell
 have G_law_metered:FnAt l.prog w K mg base 3 "_law_metered" 3 m_law_metered:=ok_law_metered A15 B G_law_cell
 have G_law_span:FnAt l.prog w K mg base 1 "_law_span" 4 m_law_span:=ok_law_span A16 B
 have G_law_flows:FnAt l.prog w K mg base 2 "_law_flows" 5 m_law_flows:=ok_law_flows A17 B G_law_span
 have G_law_truth:FnAt l.prog w K mg base 3 "_law_truth" 5 m_law_truth:=ok_law_truth A18 B G_law_cell G_law_flows
 have G_law_readings:FnAt l.prog w K mg base 3 "_law_readings" 5 m_law_readings:=ok_law_readings A19 B G_law_cell
 have G_law_rises:FnAt l.prog w K mg base 3 "_law_rises" 4 m_law_rises:=ok_law_rises A20 B G_law_cell
 have G_law_case:FnAt l.prog w K mg base 4 "_law_case" 1 m_law_case:=ok_law_case A21 B G_law_cell G_law_streams G_law_metered G_law_truth G_law_readings G_law_rises
 have G_law_day:FnAt l.prog w K mg base 3 "_law_day" 2 m_law_day:=ok_law_day A22 B G_law_cell G_Day_init
 have G_law_kept:FnAt l.prog w K mg base 9 "_law_kept" 2 m_law_kept:=ok_law_kept A23 B G_law_same T_Day
 have G_law_loose:FnAt l.prog w K mg base 1 "_law_loose" 1 m_law_loose:=ok_law_loose A24 B
 have G_law_flood:FnAt l.prog w K mg base 1 "_law_flood" 2 m_law_flood:=ok_law_flood A25 B
 have G_law_is_way:FnAt l.prog w K mg base 2 "_law_is_way" 4 m_law_is_way:=ok_law_is_way A26 B G_law_whole
 have G_law_is_ring:FnAt l.prog w K mg base 9 "_law_is_ring" 3 m_law_is_ring:=ok_law_is_ring A27 B G_law_same G_law_loose G_law_is_way
 have G_law_refused:FnAt l.prog w K mg base 6 "_law_refused" 2 m_law_refused:=ok_law_refused A28 B G_ring_of I_UnknownStream U_CellarError
 exact ok_law F29 B G_law_case G_law_day G_law_loose G_ring_of G_law_flood G_law_same G_law_is_ring G_law_refused G_law_cell G_law_kept
end
theorem walk {l:PySem.W.OpenLaw} {q:Program} {loose:List Str} {XP:(Str->Option Value)->Heap->Prop} {YP:World->Heap->Prop} {d:DefRec} {K:Params->PySem.W.Frag} (hn:l.most=some 63) (hdf:d.params.defaults=[])
  (hY:∀(w:World) (h:Heap),YP w h->(K w.params).In h) (main:∀ns:List Int,ns.length<=63->m_law [.scr ns]= .ok (.bl true))
  (F:∀(w:World) (mg:Str->Option Value) (fa:Addr) (h:Heap),(K w.params).In h->h.Ns mainGlobals mg->mg d.name=some (.ref fa)->
   ∃fd:FuncData,(∀(s:Shared) (u:Value),BindsTo s fd ⟨[u],[]⟩ [("_law_script",u)])/\∀base:Heap,(K w.params).In base->base.Ns mainGlobals mg->FnOk l.prog w (K w.params) mg base (CXE l.prog w) 10 fa fd ["_law_script"] (spQ (K w.params) 1 m_law)):
  PySem.W.WalkO q loose XP YP l.row.toRowW d [] (fun f vs=>PySem.call f vs):=
 L2.walk_of (n:=63) (k:=10) (x:="_law_script") (CX:=fun w=>CXE l.prog w) (sp:=fun w=>spQ (K w.params) 1 m_law) hn (by decide) hdf ⟨rfl,by decide,by decide⟩ hY F (fun _ _ a ns hl _ hS=>sp_law (main ns hl) hS) fun _ _ _ _ _ z=>L2.Pu.cxe_no z
end My
namespace My
open PySem PySem.Spec PyProof.Rows L2 L2.Pu
local macro_rules|`(tactic|simp! [$xs,*])=>`(tactic|simp only[gSeq,gAsg,gN,gIf,gRet,gNext,gFrz,gFor,gOwnL,gOwn,gApp,frz,frz1,List.foldl,fSeq,f2,f1,f1s,fLst,fTup,fL,fCall,fAndV,fOrV,fNotV,fIf,fT,fTru,gAnd,gOr,gNot,fCons,fNil,fVar,fBor,fC,fRev,ok_bind,of_some,List.getElem?_cons_zero,List.getElem?_cons_succ,List.set_cons_zero,List.set_cons_succ,data_val,data_own,data_bor,List.length_cons,List.length_nil,Nat.zero_add,Nat.reduceAdd,if_true,if_false,Bool.false_eq_true,Bool.not_true,Bool.not_false,dTruth,decide_true,decide_false,dAdd_i,dSub_i,dEq_i,dNe_i,dLt_i,dLe_i,dGt_i,dGe_i,dNeg_i,dEq_b,cLen_l,cLen_t,cList_l,cList_t,cTuple_l,cTuple_t,dIx_l,dIx_t,List.nil_append,Option.map_some,Nat.zero_le,$xs,*])
noncomputable def cel (ns:List Int) (k:Nat):Int:=ns.getD k 0
theorem at_spec (ns:List Int) (k:Nat):m_law_at [.scr ns, .int (k:Int)]= .ok (.int (cel ns k)):=by
 unfold m_law_at runDef
 simp only[startR,g_law_at,gSeq,gIf,gRet,gNext,f2,f1s,fBor,fC,fT,fCons,fNil,cLen_s,dLt_i,dIx_s,List.length_cons,List.length_nil,if_true,List.map_cons,List.map_nil,List.replicate,Nat.sub_self,List.append_nil,List.getElem?_cons_zero,List.getElem?_cons_succ,Slot.data,ok_bind,of_some]
 by_cases h:k<ns.length
 ·have h':(k:Int)<(ns.length:Int):=by omega
  simp only[h',decide_true,if_true,atI_lt h,Option.map_some,of_some,ok_bind]
  simp[cel,h]
 ·have h':¬(k:Int)<(ns.length:Int):=by omega
  simp only[h',decide_false,if_false,Bool.false_eq_true,ok_bind]
  simp[cel,Nat.le_of_not_lt h]
theorem at0 (ns:List Int):m_law_at [.scr ns, .int 0]= .ok (.int (cel ns 0)):=at_spec ns 0
noncomputable def cl (ns:List Int) (k:Nat):Int:=if cel ns 0%2=0 then cel ns k else ((cel ns k+cel ns 0 / 2+7919*(k:Int)+1)*48271%2147483647+(k:Int))*69621%2147483647
theorem cell_spec (ns:List Int) (k:Nat):m_law_cell [.scr ns, .int (k:Int)]= .ok (.int (cl ns k)):=by
 refine run_ret rfl ?_
 show g_law_cell [some (.val (.scr ns)),some (.val (.int (k:Int))),none]=_
 by_cases h:cel ns 0%2=0<;>simp! [g_law_cell,at0,at_spec,h,dMod_pos (show (0:Int)<2 by decide),dFdiv_pos (show (0:Int)<2/\(2:Int)<1073741824 by decide),dMul_r (show Int.natAbs 48271<18446744073709551616 by decide),dMul_r (show Int.natAbs 69621<18446744073709551616 by decide),dMul_l (show Int.natAbs 7919<18446744073709551616 by decide),dMod_pos (show (0:Int)<2147483647 by decide),cl]
theorem loop_rng {g:D->Rho->R Rho} {gb:Rho->R Out} {n:Nat} {P:Nat->Rho->Prop} (h:∀k,k<n->∀ρ,P k ρ->∃ρ1 ρ2,g (.int (k:Int)) ρ= .ok ρ1/\(gb ρ1= .ok (.nx ρ2)\/gb ρ1= .ok (.cnt ρ2))/\P (k+1) ρ2):∀(j k:Nat) (ρ:Rho),k+j=n->P k ρ->∃ρ',loopF g gb ((List.range' k j).map fun k:Nat=>D.int (k:Int)) ρ= .ok (.nx ρ')/\P n ρ'
 |0,k,ρ,e,hp=>⟨ρ,rfl,by rw[Nat.add_zero]at e;exact e▸hp⟩
 |j+1,k,ρ,e,hp=>by
  obtain⟨ρ1,ρ2,e1,e2,h2⟩:=h k (by omega) ρ hp
  obtain⟨ρ',e3,h3⟩:=loop_rng h j (k+1) ρ2 (by omega) h2
  refine⟨ρ',?_,h3⟩
  rw[List.range'_succ,List.map_cons]
  rcases e2 with e2|e2
  ·rw[loop_nx e1 e2,e3]
  ·rw[loop_cnt e1 e2,e3]
theorem for_rng {g:D->Rho->R Rho} {gb:Rho->R Out} {n:Nat} {P:Nat->Rho->Prop} {fs:Rho->R (List D)} {ρ:Rho} (hf:fs ρ= .ok [.int (n:Int)]) (hn:n<=1000) (h0:P 0 ρ) (h:∀k,k<n->∀ρ,P k ρ->∃ρ1 ρ2,g (.int (k:Int)) ρ= .ok ρ1/\(gb ρ1= .ok (.nx ρ2)\/gb ρ1= .ok (.cnt ρ2))/\P (k+1) ρ2):∃ρ',gFor (fRange1 fs) g gb ρ= .ok (.nx ρ')/\P n ρ':=by
 obtain⟨ρ',e,hp⟩:=loop_rng h n 0 ρ (by omega) h0
 rw[<-List.range_eq_range']at e
 exact⟨ρ',(for_of (range1_of hf (by unfold lim;omega))).trans e,hp⟩
theorem take_map {α β:Type} (f:α->β) {l:List α} {k:Nat} (h:k<l.length):(l.take (k+1)).map f=(l.take k).map f++[f l[k]]:=by
 rw[<-List.take_append_getElem h,List.map_append];rfl
noncomputable abbrev Row:=Int×Int×Int
noncomputable def rowD (r:Row):D:= .tup [.int r.1, .int r.2.1, .int r.2.2]
structure Good (n:Nat) (ss:List Row):Prop where
 inc:ss.Pairwise fun a b=>a.1<b.1
 num:∀r∈ss,1<=r.1/\r.1<=60
 src:∀r∈ss,0<=r.2.1/\r.2.1<=n
 tgt:∀r∈ss,0<=r.2.2/\r.2.2<=n
 ne:∀r∈ss,r.2.1≠r.2.2
noncomputable def gapOf (ns:List Int) (c room:Int):Int:=if cl ns 4 / 8%2=1 then c%room%4 else c%room
noncomputable def rowOf (ns:List Int) (n num room c:Int):Row:=(num+1+gapOf ns c room,c / room%(n+1),(c / room%(n+1)+1+c / room / (n+1)%n)%(n+1))
theorem cell4 (ns:List Int):m_law_cell [.scr ns, .int 4]= .ok (.int (cl ns 4)):=cell_spec ns 4
theorem str_step {ns:List Int} {n many k:Nat} {num:Int} {acc:List D} {x6 x7 x8 x9 x10:Option Slot} (hn:0<n) (hn7:n<=7) (hr:0<61 - num - (many:Int)+(k:Int)) (hr2:61 - num - (many:Int)+(k:Int)<=100) (hlim:acc.length<lim):
  ∃y6 y7 y8 y9 y10,b1_law_streams [some (.val (.scr ns)),some (.val (.int (n:Int))),some (.val (.int (many:Int))),some (.own (.lst acc)),some (.val (.int num)),some (.val (.int (k:Int))),x6,x7,x8,x9,x10]
   = .ok (.nx [some (.val (.scr ns)),some (.val (.int (n:Int))),some (.val (.int (many:Int))),some (.own (.lst (acc++[rowD (rowOf ns n num (61 - num - (many:Int)+(k:Int)) (cl ns (5+k)))]))),some (.val (.int (num+1+gapOf ns (cl ns (5+k)) (61 - num - (many:Int)+(k:Int))))),some (.val (.int (k:Int))),y6,y7,y8,y9,y10]):=by
 have hc:m_law_cell [.scr ns, .int (5+(k:Int))]= .ok (.int (cl ns (5+k))):=by
  have:=cell_spec ns (5+k)
  rwa [show ((5+k:Nat):Int)=5+(k:Int) by omega]at this
 have hn1:(0:Int)<(n:Int)+1:=by omega
 have hn0:(0:Int)<(n:Int):=by omega
 have hl3:(3:Nat)<=lim:=by decide
 generalize he:(61 - num - (many:Int)+(k:Int))=room at*
 refine⟨some (.val (.int room)),some (.val (.int (cl ns (5+k)))),some (.val (.int (gapOf ns (cl ns (5+k)) room))),some (.val (.int (cl ns (5+k) / room%((n:Int)+1)))),some (.val (.int ((cl ns (5+k) / room%((n:Int)+1)+1+cl ns (5+k) / room / ((n:Int)+1)%(n:Int))%((n:Int)+1)))),?_⟩
 by_cases h:cl ns 4 / 8%2=1<;>simp! [b1_law_streams,he,hc,cell4,h,dFdiv_pos (show (0:Int)<8/\(8:Int)<1073741824 by decide),dMod_pos (show (0:Int)<2 by decide),dMod_pos (show (0:Int)<4 by decide),dMod_pos hr,dFdiv_pos (show 0<room/\room<1073741824 from ⟨hr,by omega⟩),dMod_pos hn1,dMod_pos hn0,dFdiv_pos (show 0<(n:Int)+1/\(n:Int)+1<1073741824 from ⟨hn1,by omega⟩),hlim,hl3,gapOf,rowOf,rowD]
theorem gap_lt (ns:List Int) (c room:Int) (h:0<room):0<=gapOf ns c room/\gapOf ns c room<room:=by
 unfold gapOf
 have h1:=Int.emod_nonneg c (show room≠0 by omega)
 have h2:=Int.emod_lt_of_pos c h
 split<;>omega
theorem row_good (ns:List Int) (n:Nat) (num room c:Int) (hn:0<n):let r:=rowOf ns n num room c;(0<=r.2.1/\r.2.1<=n)/\(0<=r.2.2/\r.2.2<=n)/\r.2.1≠r.2.2:=by
 have hp:(0:Int)<(n:Int)+1:=by omega
 have h0:(0:Int)<(n:Int):=by omega
 have a1:=Int.emod_nonneg (c / room) (show (n:Int)+1≠0 by omega)
 have a2:=Int.emod_lt_of_pos (c / room) hp
 have b1:=Int.emod_nonneg (c / room / ((n:Int)+1)) (show (n:Int)≠0 by omega)
 have b2:=Int.emod_lt_of_pos (c / room / ((n:Int)+1)) h0
 have c1:=Int.emod_nonneg (c / room%((n:Int)+1)+1+c / room / ((n:Int)+1)%(n:Int)) (show (n:Int)+1≠0 by omega)
 have c2:=Int.emod_lt_of_pos (c / room%((n:Int)+1)+1+c / room / ((n:Int)+1)%(n:Int)) hp
 refine⟨⟨a1,by show c / room%((n:Int)+1)<=(n:Int);omega⟩,⟨c1,by show (c / room%((n:Int)+1)+1+c / room / ((n:Int)+1)%(n:Int))%((n:Int)+1)<=(n:Int);omega⟩,?_⟩
 show c / room%((n:Int)+1)≠(c / room%((n:Int)+1)+1+c / room / ((n:Int)+1)%(n:Int))%((n:Int)+1)
 generalize c / room%((n:Int)+1)=s at*
 generalize c / room / ((n:Int)+1)%(n:Int)=e at*
 by_cases hlt:s+1+e<(n:Int)+1
 ·rw[Int.emod_eq_of_lt (by omega) hlt];omega
 ·have:(s+1+e)%((n:Int)+1)=s+1+e - ((n:Int)+1):=by
   rw[<-Int.sub_emod_right,Int.emod_eq_of_lt (by omega) (by omega)]
  rw[this];omega
theorem Good.snoc {n:Nat} {ss:List Row} {r:Row} (g:Good n ss) (h1:∀q∈ss,q.1<r.1) (h2:1<=r.1/\r.1<=60) (h3:(0<=r.2.1/\r.2.1<=n)/\(0<=r.2.2/\r.2.2<=n)/\r.2.1≠r.2.2):Good n (ss++[r]):=by
 have key:∀{Q:Row->Prop},(∀q∈ss,Q q)->Q r->∀q∈ss++[r],Q q:=fun a b q hq=>(List.mem_append.mp hq).elim (a q) fun z=>List.mem_singleton.mp z▸b
 exact⟨List.pairwise_append.mpr ⟨g.inc,List.pairwise_singleton _ _,fun a ha b hb=>List.mem_singleton.mp hb▸h1 a ha⟩,key g.num h2,key g.src h3.1,key g.tgt h3.2.1,key g.ne h3.2.2⟩
theorem streams_spec (ns:List Int) (n many:Nat) (hn7:n<=7) (hm:many<=12) (h0:0<n\/many=0):∃ss:List Row,m_law_streams [.scr ns, .int (n:Int), .int (many:Int)]= .ok (.lst (ss.map rowD))/\ss.length=many/\Good n ss:=by
 obtain⟨ρ',e,ss,num,y5,y6,y7,y8,y9,y10,rfl,h1,h2,_⟩:=for_rng (g:=gN 5) (gb:=b1_law_streams) (n:=many) (fs:=fCons (fVar 2) (fNil)) (ρ:=[some (.val (.scr ns)),some (.val (.int (n:Int))),some (.val (.int (many:Int))),some (.own (.lst (([]:List Row).map rowD))),some (.val (.int 0)),none,none,none,none,none,none])
  (P:=fun k ρ=>∃(ss:List Row) (num:Int) (y5 y6 y7 y8 y9 y10:Option Slot),ρ=[some (.val (.scr ns)),some (.val (.int (n:Int))),some (.val (.int (many:Int))),some (.own (.lst (ss.map rowD))),some (.val (.int num)),y5,y6,y7,y8,y9,y10]/\ss.length=k/\Good n ss/\(∀r∈ss,r.1<=num)/\0<=num/\num+(many:Int) - (k:Int)<=60)
  rfl (by omega) ⟨[],0,_,_,_,_,_,_,rfl,rfl,⟨.nil,by simp,by simp,by simp,by simp⟩,by simp,Int.le_refl _,by omega⟩ (fun k hk ρ hρ=>by
   obtain⟨ss,num,y5,y6,y7,y8,y9,y10,rfl,l1,g,hb,hz,hn⟩:=hρ
   have hr:0<61 - num - (many:Int)+(k:Int):=by omega
   obtain⟨z6,z7,z8,z9,z10,es⟩:=str_step (ns:=ns) (n:=n) (many:=many) (k:=k) (num:=num) (acc:=ss.map rowD) (x6:=y6) (x7:=y7) (x8:=y8) (x9:=y9) (x10:=y10) (by omega) hn7 hr (by omega) (by rw[List.length_map];unfold lim;omega)
   have hg:=gap_lt ns (cl ns (5+k)) _ hr
   have hrow:=row_good ns n num (61 - num - (many:Int)+(k:Int)) (cl ns (5+k)) (by omega)
   have hnum:(rowOf ns n num (61 - num - (many:Int)+(k:Int)) (cl ns (5+k))).1=num+1+gapOf ns (cl ns (5+k)) (61 - num - (many:Int)+(k:Int)):=rfl
   generalize rowOf ns n num (61 - num - (many:Int)+(k:Int)) (cl ns (5+k))=row at*
   generalize gapOf ns (cl ns (5+k)) (61 - num - (many:Int)+(k:Int))=gp at*
   refine⟨_,_,rfl, .inl es,ss++[row],_,_,_,_,_,_,_,by rw[List.map_append];rfl,by simp[l1],g.snoc (fun q hq=> ?_) (by omega) hrow,fun q hq=> ?_,by omega,by omega⟩
   ·have:=hb q hq
    omega
   ·rcases List.mem_append.mp hq with hq|hq
    ·have:=hb q hq
     omega
    ·rw[List.mem_singleton.mp hq,hnum]
     exact Int.le_refl _)
 refine⟨ss,run_ret rfl ?_,h1,h2⟩
 show g_law_streams [some (.val (.scr ns)),some (.val (.int (n:Int))),some (.val (.int (many:Int))),none,none,none,none,none,none,none,none]=_
 unfold g_law_streams
 rw[seq_nx (ρ':=[some (.val (.scr ns)),some (.val (.int (n:Int))),some (.val (.int (many:Int))),some (.own (.lst (([]:List Row).map rowD))),none,none,none,none,none,none,none]) rfl,
  seq_nx (ρ':=[some (.val (.scr ns)),some (.val (.int (n:Int))),some (.val (.int (many:Int))),some (.own (.lst (([]:List Row).map rowD))),some (.val (.int 0)),none,none,none,none,none,none]) rfl,seq_nx e]
 rfl
inductive Wf:Nat->D->Prop
 |int (n:Nat) (i:Int):Wf n (.int i)
 |tup {n:Nat} {ds:List D}:ds.length<=1000->(∀d∈ds,Wf n d)->Wf (n+1) (.tup ds)
theorem Wf.up {n:Nat} {d:D} (h:Wf n d):∀k,Wf (n+k) d:=by
 induction h with
 |int n i=>exact fun k=> .int _ i
 | @tup n ds h1 h2 ih=>exact fun k=>by rw[Nat.add_right_comm];exact .tup h1 fun d hd=>ih d hd k
theorem same_step {rec_:List D->R D} {ds:List D} (h:∀d∈ds,rec_ [d,d]= .ok (.bl true)) {k:Nat} (hk:k<ds.length):
  b1_law_same rec_ [some (.val (.tup ds)),some (.val (.tup ds)),some (.val (.int (k:Int)))]= .ok (.nx [some (.val (.tup ds)),some (.val (.tup ds)),some (.val (.int (k:Int)))]):=by
 have hr:=h ds[k] (List.getElem_mem hk)
 simp only[b1_law_same,gIf,gNot,fTru,fCall,fCons,fNil,f2,fBor,gRet,gNext,fC,ok_bind,of_some,List.getElem?_cons_zero,List.getElem?_cons_succ,Slot.data,dIx_t,atI_lt hk,List.length_cons,List.length_nil,if_true,hr,dTruth,Bool.not_true,Bool.false_eq_true,if_false]
theorem same_loop {rec_:List D->R D} {ds:List D} (h:∀d∈ds,rec_ [d,d]= .ok (.bl true)):∀(ks:List Nat) (x:Option Slot),(∀k∈ks,k<ds.length)->
  ∃y,loopF (gN 2) (b1_law_same rec_) (ks.map fun k:Nat=>D.int (k:Int)) [some (.val (.tup ds)),some (.val (.tup ds)),x]= .ok (.nx [some (.val (.tup ds)),some (.val (.tup ds)),y])
 |[],x,_=>⟨x,rfl⟩
 |k::ks,x,hk=>by
  obtain⟨y,e⟩:=same_loop h ks (some (.val (.int (k:Int)))) fun j hj=>hk j (List.mem_cons_of_mem _ hj)
  exact⟨y,by rw[List.map_cons,loop_nx rfl (same_step h (hk k List.mem_cons_self)),e]⟩
theorem same_int (n:Nat) (i:Int):mr_law_same (n+1) [.int i, .int i]= .ok (.bl true):=by
 refine run_ret rfl ?_
 show g_law_same (mr_law_same n) [some (.val (.int i)),some (.val (.int i)),none]=_
 simp only[g_law_same,gSeq,gIf,gRet,gNext,fTru,fIsi,fBor,fAndV,fNotV,f2,ok_bind,of_some,List.getElem?_cons_zero,List.getElem?_cons_succ,Slot.data,isi_ti,isi_ii,isi_bi,dTruth,Bool.false_eq_true,if_false,Bool.not_false,dEq_i,decide_true]
theorem same_spec {n:Nat} {d:D} (h:Wf n d):mr_law_same (n+1) [d,d]= .ok (.bl true):=by
 induction h with
 |int n i=>exact same_int n i
 | @tup n ds h1 h2 ih=>
  obtain⟨y,e⟩:=same_loop ih (List.range ds.length) none fun k hk=>List.mem_range.mp hk
  refine run_ret rfl ?_
  show g_law_same (mr_law_same (n+1)) [some (.val (.tup ds)),some (.val (.tup ds)),none]=_
  simp only[g_law_same,gSeq,gIf,gRet,gNext,gOr,gNot,fT,fTru,fIsi,fBor,fC,f2,f1s,fCons,fNil,ok_bind,of_some,List.getElem?_cons_zero,List.getElem?_cons_succ,Slot.data,isi_tt,dTruth,if_true,Bool.not_true,Bool.false_eq_true,if_false,cLen_t,dNe_i,decide_true,gFor]
  rw[range1_of (n:=ds.length) (by simp only[fCons,fNil,f1s,fBor,ok_bind,of_some,List.getElem?_cons_zero,List.getElem?_cons_succ,Slot.data,cLen_t]) (by unfold lim;omega),ok_bind,e]
  simp only[ok_bind]
theorem same_top {n:Nat} (hn:n<=7) {d:D} (h:Wf n d):m_law_same [d,d]= .ok (.bl true):=by
 have:=same_spec (h.up (7 - n))
 rw[show n+(7 - n)+1=8 by omega]at this
 exact this
theorem same_int0 (i:Int):m_law_same [.int i, .int i]= .ok (.bl true):=same_top (Nat.zero_le _) (.int 0 i)
theorem wf_ints (ns:List Int) (h:ns.length<=1000):Wf 1 (.tup (ns.map .int)):= .tup (by simpa using h) fun d hd=>by obtain⟨i,_,rfl⟩:=List.mem_map.mp hd;exact .int 0 i
theorem same_ints (ns:List Int) (h:ns.length<=1000):m_law_same [.tup (ns.map .int), .tup (ns.map .int)]= .ok (.bl true):=same_top (by omega) (wf_ints ns h)
theorem ix_row {ss:List Row} {k:Nat} (h:k<ss.length):L2.atI (ss.map rowD) (k:Int)=some (rowD ss[k]):=by
 rw[atI_lt (by simpa using h)]
 simp
theorem atI_0 {α:Type} {x:α} {xs:List α}:L2.atI (x::xs) 0=some x:=by
 have:=atI_lt (xs:=x::xs) (k:=0) (by simp)
 simpa using this
theorem atI_1 {α:Type} {x y:α} {xs:List α}:L2.atI (x::y::xs) 1=some y:=by
 have:=atI_lt (xs:=x::y::xs) (k:=1) (by simp)
 simpa using this
theorem cell_at (ns:List Int) (c k:Nat) {ci:Int} (h:ci=(c:Int)):m_law_cell [.scr ns, .int (ci+(k:Int))]= .ok (.int (cl ns (c+k))):=by
 have:=cell_spec ns (c+k)
 rwa [show ((c+k:Nat):Int)=ci+(k:Int) by omega]at this
theorem met_step {ns:List Int} {ss:List Row} {share:Int} {acc:List Int} {k:Nat} (hk:k<ss.length) (hl:acc.length<=10):∃acc':List Int,b1_law_metered [some (.val (.scr ns)),some (.val (.lst (ss.map rowD))),some (.val (.int share)),some (.own (.lst (acc.map .int))),some (.val (.int (k:Int)))]
   = .ok (.nx [some (.val (.scr ns)),some (.val (.lst (ss.map rowD))),some (.val (.int share)),some (.own (.lst (acc'.map .int))),some (.val (.int (k:Int)))])/\(acc'=acc\/acc'=acc++[ss[k].1])/\acc'.length<=10:=by
 have hc:m_law_cell [.scr ns, .int (17+(k:Int))]=_:=cell_at ns 17 k rfl
 have hlim:acc.length<lim:=by unfold lim;omega
 have ap:acc.map D.int++[D.int ss[k].1]=(acc++[ss[k].1]).map D.int:=by simp
 by_cases h1:cl ns (17+k)%4<share
 ·by_cases h2:acc.length<10
  ·refine⟨acc++[ss[k].1],?_, .inr rfl,by simp;omega⟩
   have h2':(acc.length:Int)<10:=by omega
   simp! [b1_law_metered,hc,dMod_pos (show (0:Int)<4 by decide),h1,h2',ix_row hk,rowD,atI_0,hlim,List.length_map,ap]
  ·refine⟨acc,?_, .inl rfl,hl⟩
   have h2':¬(acc.length:Int)<10:=by omega
   simp! [b1_law_metered,hc,dMod_pos (show (0:Int)<4 by decide),h1,h2',List.length_map]
 ·refine⟨acc,?_, .inl rfl,hl⟩
  simp! [b1_law_metered,hc,dMod_pos (show (0:Int)<4 by decide),h1,List.length_map]
theorem metered_spec (ns:List Int) (ss:List Row) (hs:ss.length<=1000) (share:Int):∃mm:List Int,m_law_metered [.scr ns, .lst (ss.map rowD), .int share]= .ok (.lst (mm.map .int))/\mm.Sublist (ss.map (·.1))/\mm.length<=10:=by
 obtain⟨ρ',e,mm,y4,rfl,h1,h2⟩:=for_rng (g:=gN 4) (gb:=b1_law_metered) (n:=ss.length) (fs:=fCons (f1s cLen (fCons (fBor 1) (fNil))) (fNil)) (ρ:=[some (.val (.scr ns)),some (.val (.lst (ss.map rowD))),some (.val (.int share)),some (.own (.lst (([]:List Int).map .int))),none])
  (P:=fun k ρ=>∃(acc:List Int) (y4:Option Slot),ρ=[some (.val (.scr ns)),some (.val (.lst (ss.map rowD))),some (.val (.int share)),some (.own (.lst (acc.map .int))),y4]/\acc.Sublist ((ss.take k).map (·.1))/\acc.length<=10)
  (by simp! [List.length_map]) hs ⟨_,_,rfl, .slnil,by simp⟩ (fun k hk ρ hρ=>by
   obtain⟨acc,y4,rfl,hs,hl⟩:=hρ
   obtain⟨acc1,e1,h1,h2⟩:=met_step (ns:=ns) (share:=share) hk hl
   refine⟨_,_,rfl, .inl e1,acc1,_,rfl,?_,h2⟩
   rw[take_map _ hk]
   rcases h1 with rfl|rfl
   ·exact hs.trans (List.sublist_append_left _ _)
   ·exact hs.append (List.Sublist.refl _))
 rw[List.take_length]at h1
 refine⟨mm,run_ret rfl ?_,h1,h2⟩
 show g_law_metered [some (.val (.scr ns)),some (.val (.lst (ss.map rowD))),some (.val (.int share)),none,none]=_
 unfold g_law_metered
 rw[seq_nx (ρ':=[some (.val (.scr ns)),some (.val (.lst (ss.map rowD))),some (.val (.int share)),some (.own (.lst (([]:List Int).map .int))),none]) rfl,seq_nx e]
 rfl
noncomputable def lv (L:List Int) (i:Int):Int:=L.getD i.toNat 0
theorem ix_lv {L:List Int} {i:Int} (h0:0<=i) (h1:i<L.length):L2.atI (L.map D.int) i=some (.int (lv L i)):=by
 obtain⟨k,rfl⟩:=Int.eq_ofNat_of_zero_le h0
 have hk:k<L.length:=by omega
 rw[atI_lt (by simpa using hk)]
 simp[lv,hk]
theorem cMax_i {i j:Int}:cMax [.int i, .int j]=some (.int (if j>i then j else i)):=rfl
theorem cMin_i {i j:Int}:cMin [.int i, .int j]=some (.int (if j<i then j else i)):=rfl
theorem mx_le {a b c:Int} (h1:a<=c) (h2:b<=c):(if b>a then b else a)<=c:=by split<;>assumption
theorem le_mx1 {a b c:Int} (h:c<=a):c<=(if b>a then b else a):=by
 split
 ·exact Int.le_trans h (Int.le_of_lt (by assumption))
 ·exact h
theorem le_mx2 {a b c:Int} (h:c<=b):c<=(if b>a then b else a):=by
 split
 ·exact h
 ·exact Int.le_trans h (Int.not_lt.mp (by assumption))
theorem le_mn {a b c:Int} (h1:c<=a) (h2:c<=b):c<=(if b<a then b else a):=by split<;>assumption
theorem mn_le1 {a b c:Int} (h:a<=c):(if b<a then b else a)<=c:=by
 split
 ·exact Int.le_trans (Int.le_of_lt (by assumption)) h
 ·exact h
theorem mn_le2 {a b c:Int} (h:b<=c):(if b<a then b else a)<=c:=by
 split
 ·exact h
 ·exact Int.le_trans (Int.not_lt.mp (by assumption)) h
theorem span_spec {L:List Int} {n:Nat} {s t most:Int} (hL:L.length=n+1) (hs:0<=s/\s<=n) (ht:0<=t/\t<=n) (hm:0<=most) (hb:∀i:Int,1<=i->i<=n-> -1000<=lv L i/\lv L i<=1000):
  ∃lo hi:Int,m_law_span [.lst (L.map .int), .int s, .int t, .int most]= .ok (.lst [.int lo, .int hi])/\lo<=0/\0<=hi/\ -most<=lo/\hi<=most/\(0<s->lv L s - 1000<=lo/\hi<=lv L s+1000)/\(0<t-> -1000 - lv L t<=lo/\hi<=1000 - lv L t):=by
 have hsl:L2.atI (L.map D.int) s=some (.int (lv L s)):=ix_lv hs.1 (by omega)
 have htl:L2.atI (L.map D.int) t=some (.int (lv L t)):=ix_lv ht.1 (by omega)
 have hl2:(2:Nat)<=lim:=by decide
 have hm': -most<=0:=Int.neg_nonpos_of_nonneg hm
 have r:= @Int.le_refl
 have key:∀i:Int,0<i->i<=n->(lv L i - 1000<=0/\0<=lv L i+1000)/\ -1000 - lv L i<=0/\0<=1000 - lv L i:=fun i h1 h2=>by
  have:=hb i h1 h2
  omega
 obtain⟨lo1,hi1,e1,p1,p2,p3,p4,p5⟩:∃lo1 hi1:Int,gIf (fT (f2 dGt (fBor 1) (fC (.int 0)))) (gSeq (gAsg (f1s cMax (fCons (fBor 4) (fCons (f2 dSub (f2 dIx (fBor 0) (fBor 1)) (fC (.int 1000))) (fNil)))) (gN 4)) (gAsg (f1s cMin (fCons (fBor 5) (fCons (f2 dAdd (f2 dIx (fBor 0) (fBor 1)) (fC (.int 1000))) (fNil)))) (gN 5))) (gNext) [some (.val (.lst (L.map .int))),some (.val (.int s)),some (.val (.int t)),some (.val (.int most)),some (.val (.int (-most))),some (.val (.int most))]
   = .ok (.nx [some (.val (.lst (L.map .int))),some (.val (.int s)),some (.val (.int t)),some (.val (.int most)),some (.val (.int lo1)),some (.val (.int hi1))])/\lo1<=0/\0<=hi1/\ -most<=lo1/\hi1<=most/\(0<s->lv L s - 1000<=lo1/\hi1<=lv L s+1000):=by
  by_cases h1:0<s
  ·have k:=(key s h1 hs.2).1
   exact⟨_,_,by simp! [h1,hsl,cMax_i,cMin_i],mx_le hm' k.1,le_mn hm k.2,le_mx1 (r _),mn_le1 (r _),fun _=>⟨le_mx2 (r _),mn_le2 (r _)⟩⟩
  ·exact⟨-most,most,by simp! [h1],hm',hm,r _,r _,fun z=>absurd z h1⟩
 obtain⟨lo2,hi2,e2,q1,q2,q3,q4,q5⟩:∃lo2 hi2:Int,gIf (fT (f2 dGt (fBor 2) (fC (.int 0)))) (gSeq (gAsg (f1s cMax (fCons (fBor 4) (fCons (f2 dSub (f1 dNeg (fC (.int 1000))) (f2 dIx (fBor 0) (fBor 2))) (fNil)))) (gN 4)) (gAsg (f1s cMin (fCons (fBor 5) (fCons (f2 dSub (fC (.int 1000)) (f2 dIx (fBor 0) (fBor 2))) (fNil)))) (gN 5))) (gNext) [some (.val (.lst (L.map .int))),some (.val (.int s)),some (.val (.int t)),some (.val (.int most)),some (.val (.int lo1)),some (.val (.int hi1))]
   = .ok (.nx [some (.val (.lst (L.map .int))),some (.val (.int s)),some (.val (.int t)),some (.val (.int most)),some (.val (.int lo2)),some (.val (.int hi2))])/\lo2<=0/\0<=hi2/\lo1<=lo2/\hi2<=hi1/\(0<t-> -1000 - lv L t<=lo2/\hi2<=1000 - lv L t):=by
  by_cases h1:0<t
  ·have k:=(key t h1 ht.2).2
   exact⟨_,_,by simp! [h1,htl,cMax_i,cMin_i],mx_le p1 k.1,le_mn p2 k.2,le_mx1 (r _),mn_le1 (r _),fun _=>⟨le_mx2 (r _),mn_le2 (r _)⟩⟩
  ·exact⟨lo1,hi1,by simp! [h1],p1,p2,r _,r _,fun z=>absurd z h1⟩
 refine⟨lo2,hi2,run_ret rfl ?_,q1,q2,Int.le_trans p3 q3,Int.le_trans q4 p4,fun z=>⟨Int.le_trans (p5 z).1 q3,Int.le_trans q4 (p5 z).2⟩,q5⟩
 show g_law_span [some (.val (.lst (L.map .int))),some (.val (.int s)),some (.val (.int t)),some (.val (.int most)),none,none]=_
 unfold g_law_span
 rw[seq_nx (ρ':=[some (.val (.lst (L.map .int))),some (.val (.int s)),some (.val (.int t)),some (.val (.int most)),some (.val (.int (-most))),none]) rfl,
  seq_nx (ρ':=[some (.val (.lst (L.map .int))),some (.val (.int s)),some (.val (.int t)),some (.val (.int most)),some (.val (.int (-most))),some (.val (.int most))]) rfl,seq_nx e1,seq_nx e2]
 simp! [hl2]
noncomputable def pairI (p:Int×Int):D:= .tup [.int p.1, .int p.2]
theorem cInt_b {b:Bool}:cInt [.bl b]=some (.int (if b=true then 1 else 0)):=rfl
theorem lv_set {L:List Int} {i j v:Int} (hi:0<=i) (hl:i<L.length) (hj:0<=j):lv (L.set i.toNat v) j=if j=i then v else lv L j:=by
 unfold lv
 rw[List.getD_eq_getElem?_getD,List.getElem?_set]
 by_cases h:j=i
 ·subst h
  rw[if_pos rfl,if_pos (by omega),if_pos rfl];rfl
 ·rw[if_neg (by omega),if_neg h,List.getD_eq_getElem?_getD]
theorem ixN_in {n:Nat} {i:Int} (h0:0<=i) (h1:i<n):L2.ixN n i=some i.toNat:=by unfold L2.ixN;rw[if_pos h0,if_pos h1]
theorem map_set_int (L:List Int) (i:Nat) (v:Int):(L.map D.int).set i (.int v)=(L.set i v).map D.int:=by rw[List.map_set]
theorem gsN {i:Nat} {gs:List D->Rho->R Rho} {d:D} {ds:List D} {ρ:Rho}:gsCons (gN i) gs (d::ds) ρ=gs ds (ρ.set i (some (.val d))):=rfl
theorem gsE {ρ:Rho}:gsNil [] ρ= .ok ρ:=rfl
theorem flow_step {n:Nat} {figs:List Int} {ss:List Row} {mm:List Int} {b0 b1:Int} {L:List Int} {rows:List (Int×Int)} {k:Nat} {x8 x9 x10 x11 x12 x13:Option Slot} (hk:k<ss.length) (hf:k<figs.length) (g:Good n ss) (hn:n<=7) (hL:L.length=n+1) (h0:0<=b0) (h1:0<=b1)
  (hb:∀i:Int,1<=i->i<=n-> -1000<=lv L i/\lv L i<=1000) (hr:rows.length<=1000):
  ∃(a:Int) (L':List Int) (y8 y9 y10 y11 y12 y13:Option Slot),b1_law_flows [some (.val (.lst (figs.map .int))),some (.val (.int (n:Int))),some (.val (.lst (ss.map rowD))),some (.val (.lst (mm.map .int))),some (.val (.lst [.int b0, .int b1])),some (.own (.lst (L.map .int))),some (.own (.lst (rows.map pairI))),some (.val (.int (k:Int))),x8,x9,x10,x11,x12,x13]
   = .ok (.nx [some (.val (.lst (figs.map .int))),some (.val (.int (n:Int))),some (.val (.lst (ss.map rowD))),some (.val (.lst (mm.map .int))),some (.val (.lst [.int b0, .int b1])),some (.own (.lst (L'.map .int))),some (.own (.lst ((rows++[(ss[k].1,a)]).map pairI))),some (.val (.int (k:Int))),y8,y9,y10,y11,y12,y13])/\
   L'.length=n+1/\(∀i:Int,1<=i->i<=n-> -1000<=lv L' i/\lv L' i<=1000):=by
 have hmem:=List.getElem_mem hk
 have hrow:=ix_row hk
 have hs:=g.src _ hmem
 have ht:=g.tgt _ hmem
 have hne:=g.ne _ hmem
 generalize ss[k]=row at*
 obtain⟨num,s,t⟩:=row
 replace hs:0<=s/\s<=n:=hs
 replace ht:0<=t/\t<=n:=ht
 replace hne:s≠t:=hne
 have hm:0<=(if num∈mm then b1 else b0):=by split<;>omega
 obtain⟨lo,hi,e,c1,c2,c3,c4,c5,c6⟩:=span_spec hL hs ht hm hb
 have hfig:L2.atI (figs.map D.int) (k:Int)=some (.int figs[k]):=by
  rw[atI_lt (by simpa using hf)];simp
 have hd:(0:Int)<hi - lo+1:=by omega
 generalize figs[k]=fg at hfig
 have a1:=Int.emod_nonneg fg (show hi - lo+1≠0 by omega)
 have a2:=Int.emod_lt_of_pos fg hd
 have hsl:L2.atI (L.map D.int) s=some (.int (lv L s)):=ix_lv hs.1 (by omega)
 have hb2:L2.atI [D.int b0,D.int b1] (if decide (num∈mm)=true then 1 else 0)=some (.int (if num∈mm then b1 else b0)):=by
  by_cases h:num∈mm
  ·simp only[h,decide_true,if_true,atI_1]
  ·simp only[h,decide_false,Bool.false_eq_true,if_false,atI_0]
 have hixs:L2.ixN (L.map D.int).length s=some s.toNat:=ixN_in hs.1 (by rw[List.length_map];omega)
 have L1len:(L.set s.toNat (lv L s - (lo+fg%(hi - lo+1)))).length=n+1:=by rw[List.length_set];exact hL
 have htl:L2.atI ((L.set s.toNat (lv L s - (lo+fg%(hi - lo+1)))).map D.int) t=some (.int (lv L t)):=by
  rw[ix_lv ht.1 (by omega),lv_set hs.1 (by omega) ht.1,if_neg (Ne.symm hne)]
 have hixt:L2.ixN ((L.set s.toNat (lv L s - (lo+fg%(hi - lo+1)))).map D.int).length t=some t.toNat:=ixN_in ht.1 (by rw[List.length_map];omega)
 have hrl:(rows.map pairI).length<lim:=by rw[List.length_map];unfold lim;omega
 have hl2:(2:Nat)<=lim:=by decide
 have ap:rows.map pairI++[D.tup [.int num, .int (lo+fg%(hi - lo+1))]]=(rows++[(num,lo+fg%(hi - lo+1))]).map pairI:=by simp[pairI]
 generalize ha:lo+fg%(hi - lo+1)=a at*
 refine⟨a,(L.set s.toNat (lv L s - a)).set t.toNat (lv L t+a),some (.val (.int num)),some (.val (.int s)),some (.val (.int t)),some (.val (.int lo)),some (.val (.int hi)),some (.val (.int a)),?_,by rw[List.length_set];exact L1len,?_⟩
 ·simp! [b1_law_flows,gAsgL,gTupT,gsN,gsE,gPut,hrow,rowD,e,dIn_l,cInt_b,hb2,isFlat,List.all_cons,List.all_nil,Bool.and_true,and_self,hfig,dMod_pos hd,ha,hsl,hixs,map_set_int,htl,hixt,hrl,hl2,ap]
 ·intro i hi1 hin
  rw[lv_set ht.1 (by omega) (by omega),lv_set hs.1 (by omega) (by omega)]
  by_cases h1:i=t
  ·subst h1
   rw[if_pos rfl]
   have:=c6 (by omega);omega
  ·rw[if_neg h1]
   by_cases h2:i=s
   ·subst h2
    rw[if_pos rfl]
    have:=c5 (by omega);omega
   ·rw[if_neg h2];exact hb i hi1 hin
theorem dMulL_0 {k:Int} (h0:0<=k) (h:k<=1000):dMulL (.lst [.int 0]) (.int k)=some (.lst ((List.replicate k.toNat (0:Int)).map .int)):=by
 show (if k.natAbs<=lim/\[D.int 0].length*k.toNat<=lim then some (D.lst (List.replicate k.toNat [D.int 0]).flatten)else none)=_
 rw[if_pos ⟨by unfold lim;omega,by unfold lim;simp;omega⟩]
 congr 2
 induction k.toNat with
 |zero=>rfl
 |succ m ih=>rw[List.replicate_succ,List.replicate_succ,List.flatten_cons,ih];rfl
theorem cut1 {x:D} {ds:List D}:dSl (.lst (x::ds)) (some 1) none=some (.lst ds):=by
 show some (D.lst (L2.Pu.cutD (x::ds) (some 1) none))=_
 unfold L2.Pu.cutD HT.sIx
 simp
theorem lv_zero {m:Nat} (i:Int):lv (List.replicate m 0) i=0:=by
 unfold lv
 rw[List.getD_eq_getElem?_getD,List.getElem?_replicate]
 split<;>rfl
theorem flows_spec {n:Nat} {figs:List Int} {ss:List Row} {mm:List Int} {b0 b1:Int} (hf:ss.length<=figs.length) (g:Good n ss) (hn:n<=7) (h0:0<=b0) (h1:0<=b1) (hs:ss.length<=1000):
  ∃(ps:List (Int×Int)) (lev:List Int),m_law_flows [.lst (figs.map .int), .int (n:Int), .lst (ss.map rowD), .lst (mm.map .int), .lst [.int b0, .int b1]]= .ok (.lst [.tup (ps.map pairI), .tup (lev.map .int)])/\ps.map (·.1)=ss.map (·.1)/\lev.length=n:=by
 have hd:dMulL (.lst [.int 0]) (.int ((n:Int)+1))=some (.lst ((List.replicate (n+1) (0:Int)).map .int)):=by
  have:=dMulL_0 (k:=(n:Int)+1) (by omega) (by omega)
  rwa [show ((n:Int)+1).toNat=n+1 by omega]at this
 have hl1:(1:Nat)<=lim:=by decide
 have hl2:(2:Nat)<=lim:=by decide
 obtain⟨ρ',e,L',rows,y7,y8,y9,y10,y11,y12,y13,rfl,e2,_,e4⟩:=for_rng (g:=gN 7) (gb:=b1_law_flows) (n:=ss.length) (fs:=fCons (f1s cLen (fCons (fBor 2) (fNil))) (fNil)) (ρ:=[some (.val (.lst (figs.map .int))),some (.val (.int (n:Int))),some (.val (.lst (ss.map rowD))),some (.val (.lst (mm.map .int))),some (.val (.lst [.int b0, .int b1])),some (.own (.lst ((List.replicate (n+1) (0:Int)).map .int))),some (.own (.lst (([]:List (Int×Int)).map pairI))),none,none,none,none,none,none,none])
  (P:=fun k ρ=>∃(L:List Int) (rows:List (Int×Int)) (y7 y8 y9 y10 y11 y12 y13:Option Slot),ρ=[some (.val (.lst (figs.map .int))),some (.val (.int (n:Int))),some (.val (.lst (ss.map rowD))),some (.val (.lst (mm.map .int))),some (.val (.lst [.int b0, .int b1])),some (.own (.lst (L.map .int))),some (.own (.lst (rows.map pairI))),y7,y8,y9,y10,y11,y12,y13]/\L.length=n+1/\(∀i:Int,1<=i->i<=n-> -1000<=lv L i/\lv L i<=1000)/\rows.map (·.1)=(ss.take k).map (·.1))
  (by simp! [List.length_map]) hs ⟨_,_,_,_,_,_,_,_,_,rfl,by simp,fun i _ _=>by rw[lv_zero];omega,rfl⟩ (fun k hk ρ hρ=>by
   obtain⟨L,rows,y7,y8,y9,y10,y11,y12,y13,rfl,hL,hb,hr⟩:=hρ
   have hrl:rows.length<=1000:=by
    have:=congrArg List.length hr
    simp at this
    omega
   obtain⟨a,L1,z8,z9,z10,z11,z12,z13,e1,l1,b1'⟩:=flow_step (figs:=figs) (mm:=mm) (b0:=b0) (b1:=b1) (L:=L) (rows:=rows) (k:=k) (x8:=y8) (x9:=y9) (x10:=y10) (x11:=y11) (x12:=y12) (x13:=y13) hk (by omega) g hn hL h0 h1 hb hrl
   exact⟨_,_,rfl, .inl e1,L1,_,_,_,_,_,_,_,_,rfl,l1,b1',by rw[List.map_append,hr,take_map _ hk];rfl⟩)
 rw[List.take_length]at e4
 obtain⟨z,lev,rfl⟩:∃z lev,L'=z::lev:=by
  cases L' with
  |nil=>simp at e2
  |cons z lev=>exact⟨z,lev,rfl⟩
 refine⟨rows,lev,run_ret rfl ?_,e4,by simpa using e2⟩
 show g_law_flows [some (.val (.lst (figs.map .int))),some (.val (.int (n:Int))),some (.val (.lst (ss.map rowD))),some (.val (.lst (mm.map .int))),some (.val (.lst [.int b0, .int b1])),none,none,none,none,none,none,none,none,none]=_
 unfold g_law_flows
 rw[seq_nx (ρ':=[some (.val (.lst (figs.map .int))),some (.val (.int (n:Int))),some (.val (.lst (ss.map rowD))),some (.val (.lst (mm.map .int))),some (.val (.lst [.int b0, .int b1])),some (.own (.lst ((List.replicate (n+1) (0:Int)).map .int))),none,none,none,none,none,none,none,none]) (by simp! [gOwnF,hd,hl1]),
  seq_nx (ρ':=[some (.val (.lst (figs.map .int))),some (.val (.int (n:Int))),some (.val (.lst (ss.map rowD))),some (.val (.lst (mm.map .int))),some (.val (.lst [.int b0, .int b1])),some (.own (.lst ((List.replicate (n+1) (0:Int)).map .int))),some (.own (.lst (([]:List (Int×Int)).map pairI))),none,none,none,none,none,none,none]) rfl,seq_nx e]
 simp! [fSl,oSome,oNone,List.map_cons,cut1,hl2]
theorem tr_comp {ns:List Int} {a0 a2:Option Slot}:∀(ks:List Nat) (x:Option Slot),compF (gN 1) gYes (f2 dFdiv (fCall m_law_cell 2 (fCons (fVar 3) (fCons (f2 dAdd (fC (.int 17)) (fBor 1)) (fNil)))) (fC (.int 4))) (ks.map fun k:Nat=>D.int (k:Int)) [a0,x,a2,some (.val (.scr ns))]
  = .ok ((ks.map fun k=>cl ns (17+k) / 4).map .int)
 |[],x=>rfl
 |k::ks,x=>by
  have hc:m_law_cell [.scr ns, .int (17+(k:Int))]=_:=cell_at ns 17 k rfl
  have ih:=tr_comp (ns:=ns) (a0:=a0) (a2:=a2) ks (some (.val (.int (k:Int))))
  rw[List.map_cons,compF]
  simp only[gN,gYes,ok_bind,List.set_cons_succ,List.set_cons_zero,if_true,ih]
  simp! [hc,dFdiv_pos (show (0:Int)<4/\(4:Int)<1073741824 by decide),List.map_cons]
noncomputable def bnd0 (small:Int):Int:=if small=0 then 5000 else 2
noncomputable def bnd1 (small:Int):Int:=if small=0 then 1000 else 2
theorem truth_spec {ns:List Int} {n:Nat} {ss:List Row} {mm:List Int} {small:Int} (g:Good n ss) (hn:n<=7) (hs:ss.length<=1000) (hsm:small=0\/small=1):
  ∃(ps:List (Int×Int)) (lev:List Int),m_law_truth [.scr ns, .int (n:Int), .lst (ss.map rowD), .lst (mm.map .int), .int small]= .ok (.lst [.tup (ps.map pairI), .tup (lev.map .int)])/\ps.map (·.1)=ss.map (·.1)/\lev.length=n:=by
 obtain⟨ps,lev,e,h⟩:=flows_spec (n:=n) (figs:=(List.range ss.length).map fun k=>cl ns (17+k) / 4) (ss:=ss) (mm:=mm) (b0:=bnd0 small) (b1:=bnd1 small) (by simp) g hn (by unfold bnd0;split<;>omega) (by unfold bnd1;split<;>omega) hs
 refine⟨ps,lev,?_,h⟩
 refine run_ret rfl ?_
 show g_law_truth [some (.val (.scr ns)),some (.val (.int (n:Int))),some (.val (.lst (ss.map rowD))),some (.val (.lst (mm.map .int))),some (.val (.int small)),none]=_
 unfold g_law_truth
 rw[seq_nx (ρ':=[some (.val (.scr ns)),some (.val (.int (n:Int))),some (.val (.lst (ss.map rowD))),some (.val (.lst (mm.map .int))),some (.val (.int small)),some (.own (.lst (((List.range ss.length).map fun k=>cl ns (17+k) / 4).map .int)))])
  (own_of (comp_of (range1_of (n:=ss.length) (by simp! [List.length_map]) (by unfold lim;omega)) (by simp;unfold lim;omega) rfl (tr_comp _ _)))]
 have hl2:(2:Nat)<=lim:=by decide
 rcases hsm with rfl|rfl
 ·simp! [atI_0,hl2]
  simp only[show bnd0 0=5000 from rfl,show bnd1 0=1000 from rfl]at e
  simp only[e,ok_bind]
 ·simp! [atI_1,hl2]
  simp only[show bnd0 1=2 from rfl,show bnd1 1=2 from rfl]at e
  simp only[e,ok_bind]
theorem ix_pair {ps:List (Int×Int)} {k:Nat} (h:k<ps.length):L2.atI (ps.map pairI) (k:Int)=some (pairI ps[k]):=by
 rw[atI_lt (by simpa using h)]
 simp
theorem dNotIn_li {x:Int} {xs:List Int}:dInA true (.int x) (.lst (xs.map .int))=some (.bl (!decide (x∈xs))):=by
 show inS true (.int x) (xs.map .int)=_
 rw[inS_int]
 simp
theorem pick2 {a b small:Int} (h:small=0\/small=1):L2.atI [D.int a,D.int b] small=some (.int (if small=0 then a else b)):=by
 rcases h with rfl|rfl
 ·rw[atI_0];rfl
 ·rw[atI_1];rfl
noncomputable def freeA (c small:Int):Int:=if small=0 then c / 3%2001 - 1000 else c / 3%5 - 2
theorem lie_of {mode c:Int} {m:Int} {ρ:Rho} {i j:Nat} (hi:ρ[i]? =some (some (.val (.int mode)))) (hj:ρ[j]? =some (some (.val (.int c)))):∃b,gOr (fT (f2 dEq (fBor i) (fC (.int 3)))) (gAnd (fT (f2 dEq (fBor i) (fC (.int m)))) (fT (f2 dEq (f2 dMod (fBor j) (fC (.int 3))) (fC (.int 0))))) ρ= .ok b:=by
 by_cases h3:mode=3
 ·exact⟨true,by simp! [hi,h3]⟩
 ·by_cases h1:mode=m
  ·subst h1
   exact⟨decide (c%3=0),by simp! [hi,hj,h3,dMod_pos (show (0:Int)<3 by decide)]⟩
  ·exact⟨false,by simp! [hi,h3,h1]⟩
theorem rd_step {ns:List Int} {ps:List (Int×Int)} {mm:List Int} {mode small:Int} {acc:List (Int×Int)} {k:Nat} {x7 x8 x9:Option Slot} (hk:k<ps.length) (hsm:small=0\/small=1) (hl:acc.length<=1000):
  ∃(acc':List (Int×Int)) (ρ:Rho) (y7 y8 y9:Option Slot),ρ=[some (.val (.scr ns)),some (.val (.tup (ps.map pairI))),some (.val (.lst (mm.map .int))),some (.val (.int mode)),some (.val (.int small)),some (.own (.lst (acc'.map pairI))),some (.val (.int (k:Int))),y7,y8,y9]/\
   (b1_law_readings [some (.val (.scr ns)),some (.val (.tup (ps.map pairI))),some (.val (.lst (mm.map .int))),some (.val (.int mode)),some (.val (.int small)),some (.own (.lst (acc.map pairI))),some (.val (.int (k:Int))),x7,x8,x9]= .ok (.nx ρ)\/b1_law_readings [some (.val (.scr ns)),some (.val (.tup (ps.map pairI))),some (.val (.lst (mm.map .int))),some (.val (.int mode)),some (.val (.int small)),some (.own (.lst (acc.map pairI))),some (.val (.int (k:Int))),x7,x8,x9]= .ok (.cnt ρ))/\
   acc'.map (·.1)=acc.map (·.1)++[ps[k].1].filter (fun x=>decide (x∈mm)):=by
 have hp:=ix_pair hk
 generalize ps[k]=p at*
 obtain⟨num,am⟩:=p
 have hc:m_law_cell [.scr ns, .int (29+(k:Int))]=_:=cell_at ns 29 k rfl
 have hlim:(acc.map pairI).length<lim:=by rw[List.length_map];unfold lim;omega
 have hl2:(2:Nat)<=lim:=by decide
 have ap:∀r:Int,acc.map pairI++[D.tup [.int num, .int r]]=(acc++[(num,r)]).map pairI:=fun r=>by simp[pairI]
 have e12:∀g',gSeq (gAsg (f2 dIx (fBor 1) (fBor 6)) (gTupT 2 (gsCons (gN 7) (gsCons (gN 8) (gsNil))))) (gSeq (gAsg (fCall m_law_cell 2 (fCons (fVar 0) (fCons (f2 dAdd (fC (.int 29)) (fBor 6)) (fNil)))) (gN 9)) g') [some (.val (.scr ns)),some (.val (.tup (ps.map pairI))),some (.val (.lst (mm.map .int))),some (.val (.int mode)),some (.val (.int small)),some (.own (.lst (acc.map pairI))),some (.val (.int (k:Int))),x7,x8,x9]
   =g' [some (.val (.scr ns)),some (.val (.tup (ps.map pairI))),some (.val (.lst (mm.map .int))),some (.val (.int mode)),some (.val (.int small)),some (.own (.lst (acc.map pairI))),some (.val (.int (k:Int))),some (.val (.int num)),some (.val (.int am)),some (.val (.int (cl ns (29+k))))]:=fun g'=>by
  simp! [gTupT,gsN,gsE,hp,pairI,hc]
 unfold b1_law_readings
 rw[e12]
 by_cases h:num∈mm
 ·obtain⟨b,hb⟩:=lie_of (m:=1) (ρ:=[some (.val (.scr ns)),some (.val (.tup (ps.map pairI))),some (.val (.lst (mm.map .int))),some (.val (.int mode)),some (.val (.int small)),some (.own (.lst (acc.map pairI))),some (.val (.int (k:Int))),some (.val (.int num)),some (.val (.int am)),some (.val (.int (cl ns (29+k))))]) (i:=3) (j:=9) rfl rfl
  rw[seq_nx (ρ':=[some (.val (.scr ns)),some (.val (.tup (ps.map pairI))),some (.val (.lst (mm.map .int))),some (.val (.int mode)),some (.val (.int small)),some (.own (.lst (acc.map pairI))),some (.val (.int (k:Int))),some (.val (.int num)),some (.val (.int am)),some (.val (.int (cl ns (29+k))))]) (by simp! [dNotIn_li,h])]
  obtain⟨r,hr⟩:∃r:Int,gIf (gOr (fT (f2 dEq (fBor 3) (fC (.int 3)))) (gAnd (fT (f2 dEq (fBor 3) (fC (.int 1)))) (fT (f2 dEq (f2 dMod (fBor 9) (fC (.int 3))) (fC (.int 0)))))) (gAsg (f2 dIx (fLst (fCons (f2 dSub (f2 dMod (f2 dFdiv (fBor 9) (fC (.int 3))) (fC (.int 2001))) (fC (.int 1000))) (fCons (f2 dSub (f2 dMod (f2 dFdiv (fBor 9) (fC (.int 3))) (fC (.int 5))) (fC (.int 2))) (fNil)))) (fBor 4)) (gN 8)) (gNext) [some (.val (.scr ns)),some (.val (.tup (ps.map pairI))),some (.val (.lst (mm.map .int))),some (.val (.int mode)),some (.val (.int small)),some (.own (.lst (acc.map pairI))),some (.val (.int (k:Int))),some (.val (.int num)),some (.val (.int am)),some (.val (.int (cl ns (29+k))))]= .ok (.nx [some (.val (.scr ns)),some (.val (.tup (ps.map pairI))),some (.val (.lst (mm.map .int))),some (.val (.int mode)),some (.val (.int small)),some (.own (.lst (acc.map pairI))),some (.val (.int (k:Int))),some (.val (.int num)),some (.val (.int r)),some (.val (.int (cl ns (29+k))))]):=by
   cases b with
   |true=>
    refine⟨freeA (cl ns (29+k)) small,?_⟩
    unfold gIf
    rw[hb]
    simp! [dFdiv_pos (show (0:Int)<3/\(3:Int)<1073741824 by decide),dMod_pos (show (0:Int)<2001 by decide),dMod_pos (show (0:Int)<5 by decide),pick2 hsm,hl2,freeA]
   |false=>
    refine⟨am,?_⟩
    unfold gIf
    rw[hb]
    rfl
  refine⟨acc++[(num,r)],_,some (.val (.int num)),some (.val (.int r)),some (.val (.int (cl ns (29+k)))),rfl, .inl (Eq.trans (seq_nx hr) ?_),by simp[h]⟩
  simp! [hlim,hl2,ap]
 ·refine⟨acc,_,some (.val (.int num)),some (.val (.int am)),some (.val (.int (cl ns (29+k)))),rfl, .inr ?_,by simp[h]⟩
  simp! [gCnt,dNotIn_li,h]
theorem readings_spec {ns:List Int} {ps:List (Int×Int)} {mm:List Int} {mode small:Int} (hsm:small=0\/small=1) (hl:ps.length<=1000):∃rd:List (Int×Int),m_law_readings [.scr ns, .tup (ps.map pairI), .lst (mm.map .int), .int mode, .int small]= .ok (.lst (rd.map pairI))/\rd.map (·.1)=(ps.map (·.1)).filter (fun x=>decide (x∈mm)):=by
 obtain⟨ρ',e,rd,y6,y7,y8,y9,rfl,e4⟩:=for_rng (g:=gN 6) (gb:=b1_law_readings) (n:=ps.length) (fs:=fCons (f1s cLen (fCons (fBor 1) (fNil))) (fNil)) (ρ:=[some (.val (.scr ns)),some (.val (.tup (ps.map pairI))),some (.val (.lst (mm.map .int))),some (.val (.int mode)),some (.val (.int small)),some (.own (.lst (([]:List (Int×Int)).map pairI))),none,none,none,none])
  (P:=fun k ρ=>∃(acc:List (Int×Int)) (y6 y7 y8 y9:Option Slot),ρ=[some (.val (.scr ns)),some (.val (.tup (ps.map pairI))),some (.val (.lst (mm.map .int))),some (.val (.int mode)),some (.val (.int small)),some (.own (.lst (acc.map pairI))),y6,y7,y8,y9]/\acc.map (·.1)=((ps.take k).map (·.1)).filter (fun x=>decide (x∈mm)))
  (by simp! [List.length_map]) hl ⟨_,_,_,_,_,rfl,rfl⟩ (fun k hk ρ hρ=>by
   obtain⟨acc,y6,y7,y8,y9,rfl,hr⟩:=hρ
   have hrl:acc.length<=1000:=by
    have h1:=congrArg List.length hr
    have h2:=List.length_filter_le (fun x=>decide (x∈mm)) ((ps.take k).map (·.1))
    simp at h1 h2
    omega
   obtain⟨acc',ρ2,z7,z8,z9,rfl,e1,h1⟩:=rd_step (ns:=ns) (mm:=mm) (mode:=mode) (small:=small) (acc:=acc) (x7:=y7) (x8:=y8) (x9:=y9) hk hsm hrl
   exact⟨_,_,rfl,e1,acc',_,_,_,_,rfl,by rw[h1,hr,take_map _ hk,List.filter_append]⟩)
 rw[List.take_length]at e4
 refine⟨rd,run_ret rfl ?_,e4⟩
 show g_law_readings [some (.val (.scr ns)),some (.val (.tup (ps.map pairI))),some (.val (.lst (mm.map .int))),some (.val (.int mode)),some (.val (.int small)),none,none,none,none,none]=_
 unfold g_law_readings
 rw[seq_nx (ρ':=[some (.val (.scr ns)),some (.val (.tup (ps.map pairI))),some (.val (.lst (mm.map .int))),some (.val (.int mode)),some (.val (.int small)),some (.own (.lst (([]:List (Int×Int)).map pairI))),none,none,none,none]) rfl,seq_nx e]
 rfl
theorem rs_step {ns:List Int} {lev:List Int} {mode small:Int} {acc:List Int} {k:Nat} {x6 x7:Option Slot} (hk:k<lev.length) (hsm:small=0\/small=1) (hl:acc.length<=1000):
  ∃(r:Int) (y6 y7:Option Slot),b1_law_rises [some (.val (.scr ns)),some (.val (.tup (lev.map .int))),some (.val (.int mode)),some (.val (.int small)),some (.own (.lst (acc.map .int))),some (.val (.int (k:Int))),x6,x7]
   = .ok (.nx [some (.val (.scr ns)),some (.val (.tup (lev.map .int))),some (.val (.int mode)),some (.val (.int small)),some (.own (.lst ((acc++[r]).map .int))),some (.val (.int (k:Int))),y6,y7]):=by
 have hp:L2.atI (lev.map D.int) (k:Int)=some (.int lev[k]):=by rw[atI_lt (by simpa using hk)];simp
 generalize lev[k]=lk at*
 have hc:m_law_cell [.scr ns, .int (41+(k:Int))]=_:=cell_at ns 41 k rfl
 have hlim:(acc.map D.int).length<lim:=by rw[List.length_map];unfold lim;omega
 have hl2:(2:Nat)<=lim:=by decide
 have ap:∀r:Int,acc.map D.int++[.int r]=(acc++[r]).map .int:=fun r=>by simp
 obtain⟨b,hb⟩:=lie_of (m:=2) (ρ:=[some (.val (.scr ns)),some (.val (.tup (lev.map .int))),some (.val (.int mode)),some (.val (.int small)),some (.own (.lst (acc.map .int))),some (.val (.int (k:Int))),some (.val (.int (cl ns (41+k)))),some (.val (.int lk))]) (i:=2) (j:=6) rfl rfl
 unfold b1_law_rises
 rw[seq_nx (ρ':=[some (.val (.scr ns)),some (.val (.tup (lev.map .int))),some (.val (.int mode)),some (.val (.int small)),some (.own (.lst (acc.map .int))),some (.val (.int (k:Int))),some (.val (.int (cl ns (41+k)))),x7]) (by simp! [hc]),
  seq_nx (ρ':=[some (.val (.scr ns)),some (.val (.tup (lev.map .int))),some (.val (.int mode)),some (.val (.int small)),some (.own (.lst (acc.map .int))),some (.val (.int (k:Int))),some (.val (.int (cl ns (41+k)))),some (.val (.int lk))]) (by simp! [hp])]
 cases b with
 |true=>
  refine⟨freeA (cl ns (41+k)) small,_,some (.val (.int (freeA (cl ns (41+k)) small))),Eq.trans (seq_nx (ρ':=[some (.val (.scr ns)),some (.val (.tup (lev.map .int))),some (.val (.int mode)),some (.val (.int small)),some (.own (.lst (acc.map .int))),some (.val (.int (k:Int))),some (.val (.int (cl ns (41+k)))),some (.val (.int (freeA (cl ns (41+k)) small)))]) ?_) (by simp! [hlim,ap];rfl)⟩
  unfold gIf
  rw[hb]
  simp! [dFdiv_pos (show (0:Int)<3/\(3:Int)<1073741824 by decide),dMod_pos (show (0:Int)<2001 by decide),dMod_pos (show (0:Int)<5 by decide),pick2 hsm,hl2,freeA]
 |false=>
  refine⟨lk,_,some (.val (.int lk)),Eq.trans (seq_nx (ρ':=[some (.val (.scr ns)),some (.val (.tup (lev.map .int))),some (.val (.int mode)),some (.val (.int small)),some (.own (.lst (acc.map .int))),some (.val (.int (k:Int))),some (.val (.int (cl ns (41+k)))),some (.val (.int lk))]) ?_) (by simp! [hlim,ap];rfl)⟩
  unfold gIf
  rw[hb]
  rfl
theorem rises_spec {ns:List Int} {lev:List Int} {mode small:Int} (hsm:small=0\/small=1) (hl:lev.length<=1000):∃rs:List Int,m_law_rises [.scr ns, .tup (lev.map .int), .int mode, .int small]= .ok (.lst (rs.map .int))/\rs.length=lev.length:=by
 obtain⟨ρ',e,rs,y5,y6,y7,rfl,e4⟩:=for_rng (g:=gN 5) (gb:=b1_law_rises) (n:=lev.length) (fs:=fCons (f1s cLen (fCons (fBor 1) (fNil))) (fNil)) (ρ:=[some (.val (.scr ns)),some (.val (.tup (lev.map .int))),some (.val (.int mode)),some (.val (.int small)),some (.own (.lst (([]:List Int).map .int))),none,none,none])
  (P:=fun k ρ=>∃(acc:List Int) (y5 y6 y7:Option Slot),ρ=[some (.val (.scr ns)),some (.val (.tup (lev.map .int))),some (.val (.int mode)),some (.val (.int small)),some (.own (.lst (acc.map .int))),y5,y6,y7]/\acc.length=k)
  (by simp! [List.length_map]) hl ⟨_,_,_,_,rfl,rfl⟩ (fun k hk ρ hρ=>by
   obtain⟨acc,y5,y6,y7,rfl,hr⟩:=hρ
   obtain⟨r,z6,z7,e1⟩:=rs_step (ns:=ns) (mode:=mode) (small:=small) (acc:=acc) (x6:=y6) (x7:=y7) hk hsm (by omega)
   exact⟨_,_,rfl, .inl e1,_,_,_,_,rfl,by simp[hr]⟩)
 refine⟨rs,run_ret rfl ?_,e4⟩
 show g_law_rises [some (.val (.scr ns)),some (.val (.tup (lev.map .int))),some (.val (.int mode)),some (.val (.int small)),none,none,none,none]=_
 unfold g_law_rises
 rw[seq_nx (ρ':=[some (.val (.scr ns)),some (.val (.tup (lev.map .int))),some (.val (.int mode)),some (.val (.int small)),some (.own (.lst (([]:List Int).map .int))),none,none,none]) rfl,seq_nx e]
 rfl
theorem filter_sub:∀{l m:List Int},l.Nodup->m.Sublist l->l.filter (fun x=>decide (x∈m))=m
 |[],m,_,s=>by rw[List.sublist_nil.mp s];rfl
 |a::l,m,nd,s=>by
  obtain⟨n1,n2⟩:=List.nodup_cons.mp nd
  cases s with
  |cons _ s=>
   rw[List.filter_cons_of_neg (by simpa using fun h=>n1 (s.subset h)),filter_sub n2 s]
  | @cons_cons m' _ _ s=>
   rw[List.filter_cons_of_pos (by simp)]
   have:l.filter (fun x=>decide (x∈a::m'))=l.filter (fun x=>decide (x∈m')):=List.filter_congr fun x hx=>by
    have:x≠a:=fun z=>n1 (z▸hx)
    simp[this]
   rw[this,filter_sub n2 s]
theorem Good.nd {n:Nat} {ss:List Row} (g:Good n ss):(ss.map (·.1)).Nodup:=List.pairwise_map.mpr (g.inc.imp fun h=>Int.ne_of_lt h)
structure Case (n:Nat) (ss:List Row) (rs:List Int) (rd:List (Int×Int)):Prop where
 n7:n<=7
 good:Good n ss
 len:ss.length<=12
 rsl:rs.length=n
 sub:(rd.map (·.1)).Sublist (ss.map (·.1))
 ten:rd.length<=10
noncomputable def caseD (n:Nat) (ss:List Row) (rs:List Int) (rd:List (Int×Int)):D:= .tup [.int (n:Int), .tup (ss.map rowD), .tup (rs.map .int), .tup (rd.map pairI)]
theorem cell1 (ns:List Int):m_law_cell [.scr ns, .int 1]= .ok (.int (cl ns 1)):=cell_spec ns 1
theorem cell2 (ns:List Int):m_law_cell [.scr ns, .int 2]= .ok (.int (cl ns 2)):=cell_spec ns 2
theorem cell3 (ns:List Int):m_law_cell [.scr ns, .int 3]= .ok (.int (cl ns 3)):=cell_spec ns 3
theorem case_made (ns:List Int):∃(n:Nat) (ss:List Row) (rs:List Int) (rd:List (Int×Int)),m_law_case [.scr ns]= .ok (caseD n ss rs rd)/\Case n ss rs rd:=by
 obtain⟨n,en,hn7⟩:∃n:Nat,cl ns 1%8=(n:Int)/\n<=7:=⟨(cl ns 1%8).toNat,by omega,by omega⟩
 obtain⟨m0,em,hm⟩:∃m:Nat,cl ns 2%13=(m:Int)/\m<=12:=⟨(cl ns 2%13).toNat,by omega,by omega⟩
 obtain⟨many,hmany,hm12,h0⟩:∃many:Nat,many=(if (n:Int)>0 then m0 else 0)/\many<=12/\(0<n\/many=0):=⟨_,rfl,by split<;>omega,by split<;>omega⟩
 obtain⟨ss,e1,l1,g⟩:=streams_spec ns n many hn7 hm12 h0
 have hsl:ss.length<=1000:=by omega
 obtain⟨mm,e2,s2,t2⟩:=metered_spec ns ss hsl (cl ns 3%5)
 have hsm:cl ns 4 / 4%2=0\/cl ns 4 / 4%2=1:=by omega
 obtain⟨ps,lev,e3,f1,f2'⟩:=truth_spec (ns:=ns) (mm:=mm) g hn7 hsl hsm
 have pl:ps.length=ss.length:=by have:=congrArg List.length f1;simpa using this
 obtain⟨rd,e4,f4⟩:=readings_spec (ns:=ns) (ps:=ps) (mm:=mm) (mode:=cl ns 4%4) hsm (by omega)
 obtain⟨rs,e5,l5⟩:=rises_spec (ns:=ns) (lev:=lev) (mode:=cl ns 4%4) hsm (by omega)
 rw[f1,filter_sub g.nd s2]at f4
 refine⟨n,ss,rs,rd,run_ret rfl ?_,⟨hn7,g,by omega,by omega,by rw[f4];exact s2,by have:=congrArg List.length f4;simp at this;omega⟩⟩
 show g_law_case [some (.val (.scr ns)),none,none,none,none,none,none,none,none,none]=_
 have hl4:(4:Nat)<=lim:=by decide
 have em2:∀x,gIf (fT (f2 dGt (fBor 1) (fC (.int 0)))) (gAsg (f2 dMod (fCall m_law_cell 2 (fCons (fVar 0) (fCons (fC (.int 2)) (fNil)))) (fC (.int 13))) (gN 2)) (gNext) (some (.val (.scr ns))::some (.val (.int (n:Int)))::some (.val (.int 0))::x)= .ok (.nx (some (.val (.scr ns))::some (.val (.int (n:Int)))::some (.val (.int (many:Int)))::x)):=fun x=>by
  rw[hmany]
  by_cases hp:(n:Int)>0
  ·simp! [cell2,dMod_pos (show (0:Int)<13 by decide),em,hp]
  ·simp! [hp]
   rfl
 unfold g_law_case
 rw[seq_nx (ρ':=[some (.val (.scr ns)),some (.val (.int (n:Int))),none,none,none,none,none,none,none,none]) (by simp! [cell1,dMod_pos (show (0:Int)<8 by decide),en]),
  seq_nx (ρ':=[some (.val (.scr ns)),some (.val (.int (n:Int))),some (.val (.int 0)),none,none,none,none,none,none,none]) rfl,seq_nx (em2 _)]
 simp! [cell3,cell4,dMod_pos (show (0:Int)<4 by decide),dFdiv_pos (show (0:Int)<4/\(4:Int)<1073741824 by decide),dMod_pos (show (0:Int)<2 by decide),dMod_pos (show (0:Int)<5 by decide),e1,e2,e3,e4,e5,atI_0,atI_1,hl4,caseD]
theorem comp_by {α:Type} {f e:α->D} {p:α->Bool} {gt:Rho->R Bool} {fe:Rho->R D} {a0:Option Slot} {ρ:Rho}:∀(l:List α),(∀a∈l,gt (a0::some (.val (f a))::ρ)= .ok (p a))->(∀a∈l,p a=true->fe (a0::some (.val (f a))::ρ)= .ok (e a))->∀x:Option Slot,compF (gN 1) gt fe (l.map f) (a0::x::ρ)= .ok ((l.filter p).map e)
 |[],_,_,_=>rfl
 |a::l,h1,h2,x=>by
  have ih:=comp_by l (fun b hb=>h1 b (List.mem_cons_of_mem _ hb)) (fun b hb=>h2 b (List.mem_cons_of_mem _ hb)) (some (.val (f a)))
  have g1:=h1 a List.mem_cons_self
  rw[List.map_cons,compF]
  simp only[gN,ok_bind,List.set_cons_succ,List.set_cons_zero,g1]
  by_cases hp:p a=true
  ·simp only[hp,if_true,h2 a List.mem_cons_self hp,ok_bind,ih,List.filter_cons,List.map_cons]
  ·simp only[hp,if_false,ih,List.filter_cons,Bool.false_eq_true]
theorem loop_all {g:D->Rho->R Rho} {gb:Rho->R Out} {P:Rho->Prop}:∀(ds:List D),(∀d∈ds,∀ρ,P ρ->∃ρ1 ρ2,g d ρ= .ok ρ1/\gb ρ1= .ok (.nx ρ2)/\P ρ2)->∀ρ,P ρ->∃ρ',loopF g gb ds ρ= .ok (.nx ρ')/\P ρ'
 |[],_,ρ,h=>⟨ρ,rfl,h⟩
 |d::ds,hs,ρ,h=>by
  obtain⟨ρ1,ρ2,e1,e2,h2⟩:=hs d List.mem_cons_self ρ h
  obtain⟨ρ',e,h'⟩:=loop_all ds (fun d hd=>hs d (List.mem_cons_of_mem _ hd)) ρ2 h2
  exact⟨ρ',by rw[loop_nx e1 e2,e],h'⟩
theorem rowKeys_by {α:Type} {f:α->D} {k:α->Int} (hk:∀a,fstI (f a)=some (k a)):∀l:List α,rowKeys (l.map f)=some (l.map k)
 |[]=>rfl
 |a::l=>by
  rw[List.map_cons,rowKeys,hk,rowKeys_by hk l];rfl
theorem asInts_no {α:Type} {f:α->D} {k:α->Int} (hk:∀a,fstI (f a)=some (k a)) {l:List α} (h:l≠[]):asInts (l.map f)=none:=by
 cases l with
 |nil=>exact absurd rfl h
 |cons a l=>
  have:=hk a
  rw[List.map_cons]
  cases e:f a<;>rw[e]at this<;>first|rfl|cases this
theorem sort_by {α:Type} {f:α->D} {k:α->Int} (hk:∀a,fstI (f a)=some (k a)) {l m:List α} (p:l.Perm m) (inc:m.Pairwise fun a b=>k a<k b) (hl:m.length<64) {d:D} (hd:d= .lst (l.map f)\/d= .tup (l.map f)):cSortedB [d]=some (.lst (m.map f)):=by
 by_cases h0:l=[]
 ·subst h0
  have:m=[]:=(List.Perm.nil_eq p).symm
  subst this
  rcases hd with rfl|rfl<;>rfl
 ·have hn:(l.map k).Nodup:=(p.map k).nodup_iff.mpr (List.pairwise_map.mpr (inc.imp fun h=>Int.ne_of_lt h))
  have hs:sortR (l.map f)=m.map f:=sortR_eq (p.map f) (by
   rw[List.pairwise_map]
   refine inc.imp fun {a b} h=> ?_
   show (fstI (f a)).getD 0<(fstI (f b)).getD 0
   rw[hk,hk];exact h)
  have hl':(l.map k).length<64:=by rw[List.length_map,p.length_eq];exact hl
  have hr:=rowKeys_by hk l
  have ha:=asInts_no hk h0
  rcases hd with rfl|rfl
  ·have:cSortedA [.lst (l.map f)]=none:=by simp[cSortedA,cSorted,ha]
   simp only[cSortedB,this,cSortedR,hr,Option.bind_some,hn,hl',and_self,if_true,hs]
  ·have:cSortedA [.tup (l.map f)]=none:=by simp[cSortedA,cSorted,ha]
   simp only[cSortedB,this,cSortedR,hr,Option.bind_some,hn,hl',and_self,if_true,hs]
noncomputable def dayF (n:Nat) (ss:List Row) (rs:List Int) (rd:List (Int×Int)):List (Str×D):=[("tanks", .int (n:Int)),("streams", .tup (ss.map rowD)),("rises", .tup (rs.map .int)),("readings", .tup (rd.map pairI))]
noncomputable def dayD (n:Nat) (ss:List Row) (rs:List Int) (rd:List (Int×Int)):D:= .ins "Day" (dayF n ss rs rd)
theorem Case.inc {n:Nat} {ss:List Row} {rs:List Int} {rd:List (Int×Int)} (c:Case n ss rs rd):rd.Pairwise fun a b=>a.1<b.1:=List.pairwise_map.mp ((List.pairwise_map.mpr c.good.inc).sublist c.sub)
theorem init_spec {n:Nat} {ss sl:List Row} {rs:List Int} {rd rl:List (Int×Int)} (c:Case n ss rs rd) (p1:sl.Perm ss) (p2:rl.Perm rd) {d1 d2 d3:D} (h1:d1= .lst (sl.map rowD)\/d1= .tup (sl.map rowD)) (h2:d2= .lst (rs.map .int)\/d2= .tup (rs.map .int)) (h3:d3= .lst (rl.map pairI)\/d3= .tup (rl.map pairI)):
  m_Day_init [.int (n:Int),d1,d2,d3]= .ok (dayF n ss rs rd):=by
 have e1:=sort_by (f:=rowD) (k:=(·.1)) (fun a=>rfl) p1 c.good.inc (by have:=c.len;omega) h1
 have e3:=sort_by (f:=pairI) (k:=(·.1)) (fun a=>rfl) p2 c.inc (by have:=c.ten;omega) h3
 have e2:cTuple [d2]=some (.tup (rs.map .int)):=by rcases h2 with rfl|rfl<;>rfl
 simp! [m_Day_init,runInit,startI,startR,g_Day_init,gFld,e1,e2,e3,List.map_cons,List.map_nil,List.replicate,List.cons_append,Nat.reduceSub,endI,fl_Day_init,L2.Pu.fieldsOf,Option.map_some,dayF]
theorem make_of {n:Nat} {ss:List Row} {rs:List Int} {rd:List (Int×Int)} {fs:Rho->R (List D)} {ρ:Rho} {ds:List D} (h:fs ρ= .ok ds) (h4:ds.length=4) (e:m_Day_init ds= .ok (dayF n ss rs rd)):fMake "Day" 4 m_Day_init fs ρ= .ok (dayD n ss rs rd):=by
 unfold fMake
 simp only[h,ok_bind,h4,if_true,e,dayD]
theorem ix2' {a b c d:D}:L2.atI [a,b,c,d] 2=some c:=by
 have:=atI_lt (xs:=[a,b,c,d]) (k:=2) (by simp)
 simpa using this
theorem ix3' {a b c d:D}:L2.atI [a,b,c,d] 3=some d:=by
 have:=atI_lt (xs:=[a,b,c,d]) (k:=3) (by simp)
 simpa using this
theorem cell48 (ns:List Int):m_law_cell [.scr ns, .int 48]= .ok (.int (cl ns 48)):=cell_spec ns 48
theorem sl_from {ds:List D} {k:Nat} (h:k<=ds.length):dSl (.tup ds) (some (k:Int)) none=some (.tup (ds.drop k)):=by
 have e:HT.sIx ds.length 0 (some (k:Int))=k:=by simp only[HT.sIx];rw[if_neg (by omega)];omega
 have e2:HT.sIx ds.length ds.length (none:Option Int)=ds.length:=rfl
 unfold dSl
 simp only[e,e2,L2.Pu.cutD]
 split
 ·rename_i z;rw[z.1];rfl
 ·rw[List.take_of_length_le (by simp)]
theorem sl_to {ds:List D} {k:Nat} (h:k<=ds.length):dSl (.tup ds) none (some (k:Int))=some (.tup (ds.take k)):=by
 have e:HT.sIx ds.length ds.length (some (k:Int))=k:=by simp only[HT.sIx];rw[if_neg (by omega)];omega
 have e2:HT.sIx ds.length 0 (none:Option Int)=0:=rfl
 unfold dSl
 simp only[e,e2,L2.Pu.cutD]
 split
 ·rename_i z;rw[z.2,List.take_of_length_le (by omega)]
 ·simp
theorem dAdd_t {a b:List D} (h:a.length+b.length<=lim):dAdd (.tup a) (.tup b)=some (.tup (a++b)):=by
 unfold dAdd;simp only[h,if_true]
theorem turn_perm {α:Type} (l:List α) (k:Nat):(l.drop k++l.take k).Perm l:=by
 have:=List.perm_append_comm (l₁:=l.drop k) (l₂:=l.take k)
 rwa [List.take_append_drop]at this
theorem ifT {c:Rho->R Bool} {g g':Rho->R Out} {ρ:Rho} (h:c ρ= .ok true):gIf c g g' ρ=g ρ:=by
 unfold gIf
 rw[h];rfl
theorem ifF {c:Rho->R Bool} {g g':Rho->R Out} {ρ:Rho} (h:c ρ= .ok false):gIf c g g' ρ=g' ρ:=by
 unfold gIf
 rw[h];rfl
theorem eqF {i:Nat} {x y:Int} {ρ:Rho} (h:fBor i ρ= .ok (.int x)) (n:x≠y):fT (f2 dEq (fBor i) (fC (.int y))) ρ= .ok false:=by
 unfold fT f2
 rw[h]
 simp only[fC,ok_bind,dEq_i,of_some,decide_eq_false n]
theorem day_spec (ns:List Int) {n:Nat} {ss:List Row} {rs:List Int} {rd:List (Int×Int)} (c:Case n ss rs rd):m_law_day [.scr ns,caseD n ss rs rd]= .ok (dayD n ss rs rd):=by
 have l1:=c.len
 have l2:=c.ten
 refine run_ret rfl ?_
 show g_law_day [some (.val (.scr ns)),some (.val (caseD n ss rs rd)),none,none,none]=_
 unfold g_law_day
 rw[seq_nx (ρ':=[some (.val (.scr ns)),some (.val (caseD n ss rs rd)),some (.val (.int (cl ns 48%4))),none,none]) (by simp! [cell48,dMod_pos (show (0:Int)<4 by decide)])]
 generalize cl ns 48%4=tn
 have i0:dIx (caseD n ss rs rd) (.int 0)=some (.int (n:Int)):=rfl
 have i1:dIx (caseD n ss rs rd) (.int 1)=some (.tup (ss.map rowD)):=rfl
 have i2:dIx (caseD n ss rs rd) (.int 2)=some (.tup (rs.map .int)):=rfl
 have i3:dIx (caseD n ss rs rd) (.int 3)=some (.tup (rd.map pairI)):=rfl
 generalize caseD n ss rs rd=cd at*
 by_cases h0:tn=0
 ·subst h0
  refine seq_ret ((ifT rfl).trans (ret_of (make_of (ds:=[.int (n:Int), .lst (ss.map rowD), .lst (rs.map .int), .lst (rd.map pairI)]) ?_ rfl (init_spec c (.refl _) (.refl _) (.inl rfl) (.inl rfl) (.inl rfl)))))
  simp! [i0,i1,i2,i3]
 refine Eq.trans (seq_nx (ifF (eqF rfl h0))) ?_
 by_cases h1:tn=1
 ·subst h1
  refine seq_ret ((ifT rfl).trans (ret_of (make_of (ds:=[.int (n:Int), .lst (ss.reverse.map rowD), .lst (rs.map .int), .lst (rd.reverse.map pairI)]) ?_ rfl (init_spec c (List.reverse_perm _) (List.reverse_perm _) (.inl rfl) (.inl rfl) (.inl rfl)))))
  simp! [i0,i1,i2,i3,List.map_reverse]
 refine Eq.trans (seq_nx (ifF (eqF rfl h1))) ?_
 by_cases h2:tn=2
 ·subst h2
  refine seq_ret ((ifT rfl).trans (ret_of (make_of (ds:=[.int (n:Int), .tup (ss.map rowD), .tup (rs.map .int), .tup (rd.map pairI)]) ?_ rfl (init_spec c (.refl _) (.refl _) (.inr rfl) (.inr rfl) (.inr rfl)))))
  simp! [i0,i1,i2,i3]
 refine Eq.trans (seq_nx (ifF (eqF rfl h2))) ?_
 have sp:∀{α:Type} (f:α->D) (l:List α),l.length<=1000->dSl (.tup (l.map f)) (some ((l.length / 2:Nat):Int)) none=some (.tup ((l.drop (l.length / 2)).map f))/\dSl (.tup (l.map f)) none (some ((l.length / 2:Nat):Int))=some (.tup ((l.take (l.length / 2)).map f))/\dAdd (.tup ((l.drop (l.length / 2)).map f)) (.tup ((l.take (l.length / 2)).map f))=some (.tup ((l.drop (l.length / 2)++l.take (l.length / 2)).map f)):=fun f l hl=>by
  have hk:l.length / 2<=(l.map f).length:=by rw[List.length_map];omega
  rw[sl_from hk,sl_to hk,List.map_drop,List.map_take,List.map_append,List.map_drop,List.map_take]
  refine⟨rfl,rfl,dAdd_t ?_⟩
  rw[List.length_drop,List.length_take,List.length_map]
  unfold lim
  omega
 obtain⟨a1,a2,a5⟩:=sp rowD ss (by omega)
 obtain⟨a3,a4,a6⟩:=sp pairI rd (by omega)
 have q1:((ss.length:Int)) / 2=((ss.length / 2:Nat):Int):=rfl
 have q2:((rd.length:Int)) / 2=((rd.length / 2:Nat):Int):=rfl
 rw[seq_nx (ρ':=[some (.val (.scr ns)),some (.val cd),some (.val (.int tn)),some (.val (.int ((ss.length / 2:Nat):Int))),none]) (by simp! [i1,List.length_map,dFdiv_pos (show (0:Int)<2/\(2:Int)<1073741824 by decide),q1]),
  seq_nx (ρ':=[some (.val (.scr ns)),some (.val cd),some (.val (.int tn)),some (.val (.int ((ss.length / 2:Nat):Int))),some (.val (.int ((rd.length / 2:Nat):Int)))]) (by simp! [i3,List.length_map,dFdiv_pos (show (0:Int)<2/\(2:Int)<1073741824 by decide),q2])]
 refine ret_of (make_of (ds:=[.int (n:Int), .tup ((ss.drop (ss.length / 2)++ss.take (ss.length / 2)).map rowD), .tup (rs.map .int), .tup ((rd.drop (rd.length / 2)++rd.take (rd.length / 2)).map pairI)]) ?_ rfl (init_spec c (turn_perm _ _) (turn_perm _ _) (.inr rfl) (.inr rfl) (.inr rfl)))
 simp! [i0,i1,i2,i3,fSl,oSome,oNone,a1,a2,a3,a4,a5,a6]
theorem wf_rows (ss:List Row) (h:ss.length<=1000):Wf 2 (.tup (ss.map rowD)):= .tup (by simpa using h) fun d hd=>by
 obtain⟨r,_,rfl⟩:=List.mem_map.mp hd
 exact wf_ints [r.1,r.2.1,r.2.2] (by simp)
theorem same_rows (ss:List Row) (h:ss.length<=1000):m_law_same [.tup (ss.map rowD), .tup (ss.map rowD)]= .ok (.bl true):=same_top (by omega) (wf_rows ss h)
theorem wf_pairs (ss:List (Int×Int)) (h:ss.length<=1000):Wf 2 (.tup (ss.map pairI)):= .tup (by simpa using h) fun d hd=>by
 obtain⟨r,_,rfl⟩:=List.mem_map.mp hd
 exact wf_ints [r.1,r.2] (by simp)
theorem same_pairs (ss:List (Int×Int)) (h:ss.length<=1000):m_law_same [.tup (ss.map pairI), .tup (ss.map pairI)]= .ok (.bl true):=same_top (by omega) (wf_pairs ss h)
theorem lk_t {n:Nat} {ss:List Row} {rs:List Int} {rd:List (Int×Int)}:(dayF n ss rs rd).lookup ("tanks":Str)=some (D.int (n:Int)):=rfl
theorem lk_s {n:Nat} {ss:List Row} {rs:List Int} {rd:List (Int×Int)}:(dayF n ss rs rd).lookup ("streams":Str)=some (D.tup (ss.map rowD)):=rfl
theorem lk_r {n:Nat} {ss:List Row} {rs:List Int} {rd:List (Int×Int)}:(dayF n ss rs rd).lookup ("rises":Str)=some (D.tup (rs.map .int)):=rfl
theorem lk_d {n:Nat} {ss:List Row} {rs:List Int} {rd:List (Int×Int)}:(dayF n ss rs rd).lookup ("readings":Str)=some (D.tup (rd.map pairI)):=rfl
theorem kept_spec {n:Nat} {ss:List Row} {rs:List Int} {rd:List (Int×Int)} (c:Case n ss rs rd):m_law_kept [dayD n ss rs rd,caseD n ss rs rd]= .ok (.bl true):=by
 have l1:=c.len
 have l2:=c.ten
 have l3:=c.rsl
 have l4:=c.n7
 refine run_ret rfl ?_
 show g_law_kept [some (.val (dayD n ss rs rd)),some (.val (caseD n ss rs rd))]=_
 have s1:=same_int0 (n:Int)
 have s2:=same_rows ss (by omega)
 have s3:=same_ints rs (by omega)
 have s4:=same_pairs rd (by omega)
 simp! [g_law_kept,fFld,dayD,caseD,lk_t,lk_s,lk_r,lk_d,atI_0,atI_1,ix2',ix3',s1,s2,s3,s4]
theorem st_loop {a0:Option Slot} {k:Int}:∀(ss:List Row) (x:Option Slot),(∃r∈ss,r.1=k/\loopF (gN 2) b1_Day_stream (ss.map rowD) [a0,some (.val (.int k)),x]= .ok (.ret (rowD r)))\/((∀r∈ss,r.1≠k)/\∃y,loopF (gN 2) b1_Day_stream (ss.map rowD) [a0,some (.val (.int k)),x]= .ok (.nx [a0,some (.val (.int k)),y]))
 |[],x=> .inr ⟨by simp,x,rfl⟩
 |r::ss,x=>by
  by_cases h:r.1=k
  ·refine .inl ⟨r,List.mem_cons_self,h,?_⟩
   rw[List.map_cons]
   exact loop_ret rfl (by simp! [b1_Day_stream,rowD,atI_0,h])
  ·have e:b1_Day_stream [a0,some (.val (.int k)),some (.val (rowD r))]= .ok (.nx [a0,some (.val (.int k)),some (.val (rowD r))]):=by simp! [b1_Day_stream,rowD,atI_0,h]
   rcases st_loop (a0:=a0) (k:=k) ss (some (.val (rowD r)))with ⟨q,h1,h2,h3⟩|⟨h1,y,h2⟩
   ·exact .inl ⟨q,List.mem_cons_of_mem _ h1,h2,by rw[List.map_cons,loop_nx rfl e,h3]⟩
   ·exact .inr ⟨fun q hq=>(List.mem_cons.mp hq).elim (fun z=>z▸h) (h1 q),y,by rw[List.map_cons,loop_nx rfl e,h2]⟩
theorem nd_eq {ss:List Row} (h:(ss.map (·.1)).Nodup) {r q:Row} (hr:r∈ss) (hq:q∈ss) (e:r.1=q.1):r=q:=by
 induction ss with
 |nil=>cases hr
 |cons a ss ih=>
  rw[List.map_cons]at h
  obtain⟨h1,h2⟩:=List.nodup_cons.mp h
  rcases List.mem_cons.mp hr with hr1|hr1<;>rcases List.mem_cons.mp hq with hq1|hq1
  ·rw[hr1,hq1]
  ·exact(h1 (List.mem_map.mpr ⟨q,hq1,by rw[<-e,hr1]⟩)).elim
  ·exact(h1 (List.mem_map.mpr ⟨r,hr1,by rw[e,hq1]⟩)).elim
  ·exact ih h2 hr1 hq1
theorem run_err {k n:Nat} {g:Rho->R Out} {ds:List D} {x:Str} {ρ:Rho} (h:ds.length=k) (e:g (startR n ds)= .err x ρ):runDef k n g ds= .err x ρ:=by
 unfold runDef
 rw[if_pos h,e];rfl
theorem seq_err {g g':Rho->R Out} {ρ ρ':Rho} {x:Str} (h:g ρ= .err x ρ'):gSeq g g' ρ= .err x ρ':=by
 unfold gSeq
 rw[h];rfl
theorem asg_err {f:Rho->R D} {g:D->Rho->R Rho} {ρ ρ':Rho} {x:Str} (h:f ρ= .err x ρ'):gAsg f g ρ= .err x ρ':=by
 unfold gAsg
 rw[h];rfl
section
variable {n:Nat} {ss:List Row} {rs:List Int} {rd:List (Int×Int)}
theorem stream_in (c:Case n ss rs rd) {r:Row} (hr:r∈ss):m_Day_stream [dayD n ss rs rd, .int r.1]= .ok (rowD r):=by
 refine run_ret rfl ?_
 show g_Day_stream [some (.val (dayD n ss rs rd)),some (.val (.int r.1)),none]=_
 have e0:fSeq (fFld "Day" "streams" (fBor 0)) [some (.val (dayD n ss rs rd)),some (.val (.int r.1)),none]= .ok (ss.map rowD):=by simp! [fFld,dayD,lk_s]
 rcases st_loop (a0:=some (.val (dayD n ss rs rd))) (k:=r.1) ss none with ⟨q,h1,h2,h3⟩|⟨h1,_⟩
 ·rw[nd_eq c.good.nd h1 hr h2]at h3
  exact seq_ret ((for_of e0).trans h3)
 ·exact absurd rfl (h1 r hr)
theorem stream_out {k:Int} (hk:∀r∈ss,r.1≠k):∃ρ,m_Day_stream [dayD n ss rs rd, .int k]= .err "UnknownStream" ρ:=by
 have e0:fSeq (fFld "Day" "streams" (fBor 0)) [some (.val (dayD n ss rs rd)),some (.val (.int k)),none]= .ok (ss.map rowD):=by simp! [fFld,dayD,lk_s]
 rcases st_loop (a0:=some (.val (dayD n ss rs rd))) (k:=k) ss none with ⟨q,h1,h2,h3⟩|⟨h1,y,h2⟩
 ·exact absurd h2 (hk q h1)
 ·refine⟨[some (.val (dayD n ss rs rd)),some (.val (.int k)),y],?_⟩
  have e:g_Day_stream [some (.val (dayD n ss rs rd)),some (.val (.int k)),none]= .err "UnknownStream" [some (.val (dayD n ss rs rd)),some (.val (.int k)),y]:=by
   unfold g_Day_stream
   rw[seq_nx ((for_of e0).trans h2)]
   rfl
  exact run_err rfl e
theorem lk_m {m:Str} (h:m≠"tanks"/\m≠"streams"/\m≠"rises"/\m≠"readings":=by decide):(dayF n ss rs rd).lookup m=none:=by
 obtain⟨h1,h2,h3,h4⟩:=h
 simp[dayF,List.lookup_cons,beq_eq_false_iff_ne.mpr h1,beq_eq_false_iff_ne.mpr h2,beq_eq_false_iff_ne.mpr h3,beq_eq_false_iff_ne.mpr h4]
theorem meth_of {m:Str} {k:Nat} {r:List D->R D} {fo:Rho->R D} {fs:Rho->R (List D)} {ρ:Rho} {ds:List D} {z:D} (h1:fo ρ= .ok (dayD n ss rs rd)) (h2:fs ρ= .ok ds) (hl:ds.length+1=k) (e:r (dayD n ss rs rd::ds)= .ok z) (hm:m≠"tanks"/\m≠"streams"/\m≠"rises"/\m≠"readings":=by decide):fMeth "Day" m k r fo fs ρ= .ok z:=by
 unfold fMeth
 simp only[h1,ok_bind]
 unfold dayD at e ⊢
 simp only[lk_m hm,and_self,if_true,h2,ok_bind,hl,e]
theorem meth_err {m x:Str} {k:Nat} {r:List D->R D} {fo:Rho->R D} {fs:Rho->R (List D)} {ρ ρ':Rho} {ds:List D} (h1:fo ρ= .ok (dayD n ss rs rd)) (h2:fs ρ= .ok ds) (hl:ds.length+1=k) (e:r (dayD n ss rs rd::ds)= .err x ρ') (hm:m≠"tanks"/\m≠"streams"/\m≠"rises"/\m≠"readings":=by decide):fMeth "Day" m k r fo fs ρ= .err x ρ:=by
 unfold fMeth
 simp only[h1,ok_bind]
 unfold dayD at e ⊢
 simp only[lk_m hm,and_self,if_true,h2,ok_bind,hl,e]
theorem meth1 {m:Str} {r:List D->R D} {fo f:Rho->R D} {ρ:Rho} {d z:D} (h1:fo ρ= .ok (dayD n ss rs rd)) (h2:f ρ= .ok d) (e:r [dayD n ss rs rd,d]= .ok z) (hm:m≠"tanks"/\m≠"streams"/\m≠"rises"/\m≠"readings":=by decide):fMeth "Day" m 2 r fo (fCons f fNil) ρ= .ok z:=meth_of (ds:=[d]) h1 (cons_of h2 rfl) rfl e hm
theorem meth1_err {m x:Str} {r:List D->R D} {fo f:Rho->R D} {ρ ρ':Rho} {d:D} (h1:fo ρ= .ok (dayD n ss rs rd)) (h2:f ρ= .ok d) (e:r [dayD n ss rs rd,d]= .err x ρ') (hm:m≠"tanks"/\m≠"streams"/\m≠"rises"/\m≠"readings":=by decide):fMeth "Day" m 2 r fo (fCons f fNil) ρ= .err x ρ:=meth_err (ds:=[d]) h1 (cons_of h2 rfl) rfl e hm
theorem asgN {f:Rho->R D} {ρ:Rho} {d:D} {i:Nat} (h:f ρ= .ok d):gAsg f (gN i) ρ= .ok (.nx (ρ.set i (some (.val d)))):=by
 unfold gAsg gN
 rw[h];rfl
end
noncomputable def prD (x:Int×Int):D:= .tup [.int x.1, .int x.2]
noncomputable def encP (ps:List (Int×Int)):List (Key×D):=ps.map fun x=>(Sum.inl x.1, .int x.2)
theorem pairD_ps (ps:List (Int×Int)):pairD (ps.map prD)=some (encP ps):=by
 induction ps with
 |nil=>rfl
 |cons x r ih=>
  show (keyOf (.int x.1)).bind (fun key=>(pairD (r.map prD)).map fun ps=>(key,D.int x.2)::ps)=_
  rw[ih]
  rfl
noncomputable def amD (ps:List (Int×Int)):List (Key×D):=mergeD [] (encP ps)
theorem cDict_ps {pd:D} {ps:List (Int×Int)} (h:pd= .lst (ps.map prD)\/pd= .tup (ps.map prD)):cDict [pd]=some (.dic (amD ps)):=by
 rcases h with rfl|rfl
 ·show (pairD (ps.map prD)).map (fun qs=>D.dic (mergeD [] qs))=_
  rw[pairD_ps];rfl
 ·show (pairD (ps.map prD)).map (fun qs=>D.dic (mergeD [] qs))=_
  rw[pairD_ps];rfl
theorem put_new {kds:List (Key×D)} {k:Key} {v:D} (h:k∉kds.map (·.1)):dPut kds k v=kds++[(k,v)]:=by
 unfold dPut
 rw[if_neg]
 intro z
 obtain⟨kv,h1,h2⟩:=List.any_eq_true.mp z
 exact h (List.mem_map.mpr ⟨kv,h1,by simpa using h2⟩)
theorem enc_keys (ps:List (Int×Int)) (n:Int):(Sum.inl n:Key)∈(encP ps).map (·.1)<->n∈ps.map (·.1):=by
 unfold encP
 rw[List.map_map]
 constructor
 ·intro h
  obtain⟨p,hp,e⟩:=List.mem_map.mp h
  cases e
  exact List.mem_map_of_mem hp
 ·intro h
  obtain⟨p,hp,rfl⟩:=List.mem_map.mp h
  exact List.mem_map.mpr ⟨p,hp,rfl⟩
theorem put_enc {ps:List (Int×Int)} {p:Int×Int} (h:p.1∉ps.map (·.1)):dPut (encP ps) (Sum.inl p.1) (.int p.2)=encP (ps++[p]):=by
 rw[put_new (fun z=>h ((enc_keys ps p.1).mp z))]
 simp[encP]
theorem amD_enc {ps:List (Int×Int)} (nd:(ps.map (·.1)).Nodup):amD ps=encP ps:=by
 have key:∀(b a:List (Int×Int)),((a++b).map (·.1)).Nodup->mergeD (encP a) (encP b)=encP (a++b):=by
  intro b
  induction b with
  |nil=>intro a _;simp[mergeD,encP]
  |cons p b ih=>
   intro a nd
   show mergeD (dPut (encP a) (Sum.inl p.1) (.int p.2)) (encP b)=_
   have hp:p.1∉a.map (·.1):=by
    rw[List.map_append,List.map_cons]at nd
    have:=(List.nodup_append.mp nd).2.2
    intro z
    exact this _ z p.1 List.mem_cons_self rfl
   rw[put_enc hp,ih (a++[p]) (by rw[List.append_assoc];exact nd),List.append_assoc]
   rfl
 exact key ps [] nd
noncomputable def looseOf (ss:List Row) (rd:List (Int×Int)):List Row:=ss.filter fun r=>decide (r.1∉rd.map (·.1))
theorem lo_read {a0:Option Slot}:∀(rd:List (Int×Int)) (x:Option Slot),compF (gN 1) gYes (f2 dIx (fBor 1) (fC (.int 0))) (rd.map pairI) [a0,x]= .ok ((rd.map (·.1)).map .int)
 |[],x=>rfl
 |p::rd,x=>by
  have ih:=lo_read (a0:=a0) rd (some (.val (pairI p)))
  rw[List.map_cons,compF]
  simp only[gN,gYes,ok_bind,List.set_cons_succ,List.set_cons_zero,if_true,ih]
  simp! [pairI,atI_0,List.map_cons]
theorem lo_comp {a0:Option Slot} {rr:List Int}:∀(ss:List Row) (x:Option Slot),compF (gN 1) (fT (f2 (dInA true) (f2 dIx (fBor 1) (fC (.int 0))) (fBor 2))) (fVar 1) (ss.map rowD) [a0,x,some (.bor (.lst (rr.map .int)))]= .ok ((ss.filter fun r=>decide (r.1∉rr)).map rowD)
 |[],x=>rfl
 |r::ss,x=>by
  have ih:=lo_comp (a0:=a0) (rr:=rr) ss (some (.val (rowD r)))
  rw[List.map_cons,compF]
  simp only[gN,ok_bind,List.set_cons_succ,List.set_cons_zero,ih]
  by_cases h:r.1∈rr
  ·simp! [rowD,atI_0,dNotIn_l,h,not_true,List.filter_cons,decide_false]
  ·simp! [rowD,atI_0,dNotIn_l,h,not_false_eq_true,List.filter_cons,decide_true,List.map_cons]
theorem loose_spec {n:Nat} {ss:List Row} {rs:List Int} {rd:List (Int×Int)} (h1:ss.length<=1000) (h2:rd.length<=1000):m_law_loose [caseD n ss rs rd]= .ok (.lst ((looseOf ss rd).map rowD)):=by
 refine run_ret rfl ?_
 show g_law_loose [some (.val (caseD n ss rs rd)),none]=_
 have e3:L2.atI [D.int (n:Int), .tup (ss.map rowD), .tup (rs.map .int), .tup (rd.map pairI)] 3=some (.tup (rd.map pairI)):=by
  have:=atI_lt (xs:=[D.int (n:Int), .tup (ss.map rowD), .tup (rs.map .int), .tup (rd.map pairI)]) (k:=3) (by simp)
  simpa using this
 unfold g_law_loose
 rw[seq_nx (ρ':=[some (.val (caseD n ss rs rd)),some (.own (.lst ((rd.map (·.1)).map .int)))]) (own_of (comp_of (ds:=rd.map pairI) (τ:=[none,none]) (by simp! [caseD,e3]) (by simp;unfold lim;omega) rfl (lo_read _ _)))]
 refine ret_of (L_of (comp_of (ds:=ss.map rowD) (τ:=[none,none,some (.bor (.lst ((rd.map (·.1)).map .int)))]) (by simp! [caseD,atI_1]) (by simp;unfold lim;omega) rfl (lo_comp _ _)))
theorem Case.rnd {n:Nat} {ss:List Row} {rs:List Int} {rd:List (Int×Int)} (c:Case n ss rs rd):(rd.map (·.1)).Nodup:=List.Nodup.sublist c.sub c.good.nd
theorem enc_some (ps:List (Int×Int)) (k:Int):(dGet (encP ps) (Sum.inl k)).isSome=decide (k∈ps.map (·.1)):=by
 induction ps with
 |nil=>rfl
 |cons x r ih=>
  unfold dGet encP at ih ⊢
  rw[List.map_cons,List.find?_cons,List.map_cons]
  by_cases h:x.1=k
  ·simp[h]
  ·have e:decide ((Sum.inl x.1:Key)=Sum.inl k)=false:=by simpa using h
   simp only[e]
   rw[ih]
   have:¬k=x.1:=fun z=>h z.symm
   simp[this]
theorem amD_in {ps:List (Int×Int)} (nd:(ps.map (·.1)).Nodup) (k:Int):dInA false (.int k) (.dic (amD ps))=some (.bl (decide (k∈ps.map (·.1)))):=by
 show some (D.bl (dGet (amD ps) (Sum.inl k)).isSome)=_
 rw[amD_enc nd,enc_some]
section
variable {n:Nat} {ss:List Row} {rs:List Int} {rd:List (Int×Int)}
theorem metered_in (c:Case n ss rs rd) {r:Row} (hr:r∈ss):m_Day_metered [dayD n ss rs rd, .int r.1]= .ok (.bl (decide (r.1∈rd.map (·.1)))):=by
 refine run_ret rfl ?_
 show g_Day_metered [some (.val (dayD n ss rs rd)),some (.val (.int r.1)),none]=_
 unfold g_Day_metered
 refine Eq.trans (seq_nx (asgN (meth1 rfl rfl (stream_in c hr)))) ?_
 have e:=cDict_ps (pd:= .tup (rd.map pairI)) (ps:=rd) (.inr rfl)
 have e2:=amD_in c.rnd r.1
 simp! [fFld,dayD,lk_d,rowD,atI_0,e,e2]
theorem metered_out {k:Int} (hk:∀r∈ss,r.1≠k):∃ρ,m_Day_metered [dayD n ss rs rd, .int k]= .err "UnknownStream" ρ:=by
 obtain⟨ρ,e⟩:=stream_out (n:=n) (rs:=rs) (rd:=rd) hk
 exact⟨_,run_err rfl (seq_err (asg_err (meth1_err rfl rfl e)))⟩
theorem without_spec (c:Case n ss rs rd):m_Day_without_meter [dayD n ss rs rd]= .ok (.tup ((looseOf ss rd).map rowD)):=by
 refine run_ret rfl (ret_of (f1s_of (cons_of (L_of (comp_of (ds:=ss.map rowD) (τ:=[none,none,some (.val (dayD n ss rs rd))]) ?_ ?_ rfl (comp_by (e:=rowD) (p:=fun r:Row=>decide (r.1∉rd.map (·.1))) ss ?_ ?_ _))) rfl) rfl))
 ·show fSeq (fFld "Day" "streams" (fBor 0)) [some (.val (dayD n ss rs rd))]=_
  simp! [fFld,dayD,lk_s]
 ·have:=c.len
  simp[lim];omega
 ·intro r hr
  have e:=meth_of (m:="metered") (k:=2) (r:=m_Day_metered) (fo:=fVar 2) (fs:=fCons (f2 dIx (fBor 1) (fC (.int 0))) (fNil)) (ρ:=[none,some (.val (rowD r)),some (.val (dayD n ss rs rd))]) (ds:=[.int r.1]) rfl (by simp! [rowD,atI_0]) rfl (metered_in c hr)
  simp only[gNot,fTru,e,ok_bind,dTruth,of_some,decide_not]
 ·intro r hr _
  rfl
end
section
variable {n:Nat} {ss:List Row} {rs:List Int} {rd:List (Int×Int)}
theorem others_spec (c:Case n ss rs rd) (k:Int):m_others_without_meter [dayD n ss rs rd, .int k]= .ok (.tup (((looseOf ss rd).filter fun r=>decide (r.1≠k)).map rowD)):=by
 refine run_ret rfl (ret_of (f1s_of (cons_of (L_of (comp_of (ds:=(looseOf ss rd).map rowD) (τ:=[none,none,some (.val (.int k))]) ?_ ?_ rfl (comp_by (e:=rowD) (p:=fun r:Row=>decide (r.1≠k)) (looseOf ss rd) ?_ ?_ _))) rfl) rfl))
 ·have e:=meth_of (m:="without_meter") (k:=1) (r:=m_Day_without_meter) (fo:=fVar 0) (fs:=fNil) (ρ:=[some (.val (dayD n ss rs rd)),some (.val (.int k))]) (ds:=[]) rfl rfl rfl (without_spec c)
  show fSeq _ [some (.val (dayD n ss rs rd)),some (.val (.int k))]=_
  unfold fSeq
  simp only[e,ok_bind]
 ·have:=c.len
  have h2:(looseOf ss rd).length<=ss.length:=List.length_filter_le _ _
  simp[lim];omega
 ·intro r hr
  simp! [rowD,atI_0,ne_eq,decide_not]
 ·intro r hr _
  rfl
end
noncomputable def Adj (ss:List Row) (a b:Int):Prop:=∃r∈ss,(r.2.1=a/\r.2.2=b)\/(r.2.2=a/\r.2.1=b)
inductive Tie (ss:List Row) (a:Int):Int->Prop
 |refl:Tie ss a a
 |step {b c:Int}:Tie ss a b->Adj ss b c->Tie ss a c
theorem Adj.symm {ss:List Row} {a b:Int} (h:Adj ss a b):Adj ss b a:=by
 obtain⟨r,hr,h|h⟩:=h
 ·exact⟨r,hr, .inr ⟨h.2,h.1⟩⟩
 ·exact⟨r,hr, .inl ⟨h.2,h.1⟩⟩
theorem Tie.trans {ss:List Row} {a b c:Int} (h:Tie ss a b) (g:Tie ss b c):Tie ss a c:=by
 induction g with
 |refl=>exact h
 |step _ e ih=>exact .step ih e
theorem Tie.symm {ss:List Row} {a b:Int} (h:Tie ss a b):Tie ss b a:=by
 induction h with
 |refl=>exact .refl
 |step _ e ih=>exact(Tie.step .refl e.symm).trans ih
structure InR (n:Nat) (ss:List Row):Prop where
 src:∀r∈ss,0<=r.2.1/\r.2.1<=n
 tgt:∀r∈ss,0<=r.2.2/\r.2.2<=n
theorem Tie.range {n:Nat} {ss:List Row} (g:InR n ss) {a b:Int} (ha:0<=a/\a<=n) (h:Tie ss a b):0<=b/\b<=n:=by
 induction h with
 |refl=>exact ha
 |step _ e _=>
  obtain⟨r,hr,h|h⟩:=e
  ·rw[<-h.2];exact g.tgt r hr
  ·rw[<-h.2];exact g.src r hr
theorem tie_closed {ss:List Row} {a:Int} {S:Int->Prop} (ha:S a) (hc:∀b c,S b->Adj ss b c->S c) {b:Int} (h:Tie ss a b):S b:=by
 induction h with
 |refl=>exact ha
 |step _ e ih=>exact hc _ _ ih e
theorem len_filter_ne (a:Int):∀{l:List Int},l.Nodup->l.length<=(l.filter fun x=>decide (x≠a)).length+1
 |[],_=>by simp
 |x::r,h=>by
  obtain⟨h1,h2⟩:=List.nodup_cons.mp h
  by_cases e:x=a
  ·subst e
   have:r.filter (fun y=>decide (y≠x))=r:=List.filter_eq_self.mpr fun y hy=>by simp;intro z;subst z;exact h1 hy
   rw[List.filter_cons,if_neg (by simp),this]
   simp
  ·have ih:=len_filter_ne a h2
   rw[List.filter_cons,if_pos (by simpa using e)]
   simp only[List.length_cons]
   omega
theorem nodup_len:∀(n:Nat) {l:List Int},l.Nodup->(∀x∈l,0<=x/\x<n)->l.length<=n
 |0,l,_,h=>by
  cases l with
  |nil=>simp
  |cons x r=>have:=h x List.mem_cons_self;omega
 |n+1,l,hn,h=>by
  have h1:=len_filter_ne (n:Int) hn
  have h2:=nodup_len n (l:=l.filter fun x=>decide (x≠(n:Int))) (List.Nodup.sublist List.filter_sublist hn) fun x hx=>by
   obtain⟨a,b⟩:=List.mem_filter.mp hx
   have:=h x a
   simp at b
   omega
  omega
noncomputable def othersOf (ss:List Row) (rd:List (Int×Int)) (k:Int):List Row:=(looseOf ss rd).filter fun r=>decide (r.1≠k)
section
variable {n:Nat} {ss:List Row} {rs:List Int} {rd:List (Int×Int)}
theorem others_sub (k:Int):(othersOf ss rd k).Sublist ss:=List.Sublist.trans List.filter_sublist List.filter_sublist
theorem Case.others (c:Case n ss rs rd) (k:Int):InR n (othersOf ss rd k):=⟨fun r hr=>c.good.src r ((others_sub k).subset hr),fun r hr=>c.good.tgt r ((others_sub k).subset hr)⟩
theorem Case.olen (c:Case n ss rs rd) (k:Int):(othersOf ss rd k).length<=12:=Nat.le_trans (others_sub k).length_le c.len
theorem Case.ond (c:Case n ss rs rd) (k:Int):((othersOf ss rd k).map (·.1)).Nodup:=List.Nodup.sublist ((others_sub k).map _) c.good.nd
theorem row2 {r:Row}:L2.atI [D.int r.1, .int r.2.1, .int r.2.2] 2=some (.int r.2.2):=by
 have:=atI_lt (xs:=[D.int r.1, .int r.2.1, .int r.2.2]) (k:=2) (by simp)
 simpa using this
end
noncomputable def addE (seen:List Int) (a b:Int):List Int:=if a∈seen/\b∉seen then seen++[b]else seen
noncomputable def pass1 (seen:List Int) (r:Row):List Int:=addE (addE seen r.2.1 r.2.2) r.2.2 r.2.1
noncomputable def passF (ss:List Row) (seen:List Int):List Int:=ss.foldl pass1 seen
theorem addE_len (seen:List Int) (a b:Int):seen.length<=(addE seen a b).length:=by
 unfold addE;split<;>simp
theorem pass1_len (seen:List Int) (r:Row):seen.length<=(pass1 seen r).length:=Nat.le_trans (addE_len _ _ _) (addE_len _ _ _)
theorem passF_len:∀(ss:List Row) (seen:List Int),seen.length<=(passF ss seen).length
 |[],_=>Nat.le_refl _
 |r::ss,seen=>Nat.le_trans (pass1_len seen r) (passF_len ss _)
theorem addE_same {seen:List Int} {a b:Int} (h:(addE seen a b).length=seen.length):addE seen a b=seen/\(a∈seen->b∈seen):=by
 unfold addE at h ⊢
 split at h
 ·simp at h
 ·rename_i hc
  rw[if_neg hc]
  exact⟨rfl,fun ha=>Classical.byContradiction fun hb=>hc ⟨ha,hb⟩⟩
theorem pass1_same {seen:List Int} {r:Row} (h:(pass1 seen r).length=seen.length):pass1 seen r=seen/\(r.2.1∈seen->r.2.2∈seen)/\(r.2.2∈seen->r.2.1∈seen):=by
 have a1:=addE_len seen r.2.1 r.2.2
 have a2:=addE_len (addE seen r.2.1 r.2.2) r.2.2 r.2.1
 unfold pass1 at h ⊢
 obtain⟨e1,h1⟩:=addE_same (show (addE seen r.2.1 r.2.2).length=seen.length by omega)
 rw[e1]at h ⊢
 obtain⟨e2,h2⟩:=addE_same h
 exact⟨e2,h1,h2⟩
theorem passF_same:∀{ss:List Row} {seen:List Int},(passF ss seen).length=seen.length->∀r∈ss,(r.2.1∈seen->r.2.2∈seen)/\(r.2.2∈seen->r.2.1∈seen)
 |[],_,_=>fun r hr=>by cases hr
 |r::ss,seen,h=>by
  have a1:=pass1_len seen r
  have a2:=passF_len ss (pass1 seen r)
  replace h:(passF ss (pass1 seen r)).length=seen.length:=h
  obtain⟨e1,h1⟩:=pass1_same (show (pass1 seen r).length=seen.length by omega)
  rw[e1]at h
  intro r' hr'
  rcases List.mem_cons.mp hr' with rfl|hr'
  ·exact h1
  ·exact passF_same h r' hr'
structure Seen (ss:List Row) (p:Int) (seen:List Int):Prop where
 nd:seen.Nodup
 tied:∀q∈seen,Tie ss p q
 here:p∈seen
theorem Seen.add {ss:List Row} {p:Int} {seen:List Int} (s:Seen ss p seen) {a b:Int} (h:Adj ss a b):Seen ss p (addE seen a b):=by
 unfold addE
 split
 ·rename_i hc
  refine⟨List.nodup_append.mpr ⟨s.nd,by simp,fun x hx y hy=> ?_⟩,fun q hq=> ?_,List.mem_append_left _ s.here⟩
  ·have:y=b:=by simpa using hy
   subst this
   intro z;subst z;exact hc.2 hx
  ·rcases List.mem_append.mp hq with hq|hq
   ·exact s.tied q hq
   ·have:q=b:=by simpa using hq
    subst this
    exact .step (s.tied a hc.1) h
 ·exact s
theorem Seen.pass {ss0:List Row} {p:Int}:∀{ss:List Row} {seen:List Int},(∀r∈ss,r∈ss0)->Seen ss0 p seen->Seen ss0 p (passF ss seen)
 |[],_,_,s=>s
 |r::ss,seen,h,s=>Seen.pass (ss:=ss) (fun x hx=>h x (List.mem_cons_of_mem _ hx)) ((s.add ⟨r,h r List.mem_cons_self, .inl ⟨rfl,rfl⟩⟩).add ⟨r,h r List.mem_cons_self, .inr ⟨rfl,rfl⟩⟩)
theorem fl_step {a0 a1:Option Slot} {seen:List Int} {g:Bool} {r:Row} (hl:seen.length<=100):
  b1_law_flood [a0,a1,some (.own (.lst (seen.map .int))),some (.val (.bl g)),some (.val (.int r.1)),some (.val (.int r.2.1)),some (.val (.int r.2.2))]
   = .ok (.nx [a0,a1,some (.own (.lst ((pass1 seen r).map .int))),some (.val (.bl (g||decide (seen.length<(pass1 seen r).length)))),some (.val (.int r.1)),some (.val (.int r.2.1)),some (.val (.int r.2.2))]):=by
 have l1:(seen.map D.int).length<lim:=by rw[List.length_map];unfold lim;omega
 have l2:((seen++[r.2.2]).map D.int).length<lim:=by rw[List.length_map,List.length_append];simp;unfold lim;omega
 have ap:∀x:Int,seen.map D.int++[D.int x]=(seen++[x]).map D.int:=fun x=>by simp
 unfold pass1
 by_cases h1:r.2.1∈seen<;>by_cases h2:r.2.2∈seen
 ·simp! [b1_law_flood,dIn_l,dNotIn_l,h1,h2,addE,not_true,and_false,Nat.lt_irrefl,Bool.or_false]
 ·have h3:r.2.1∈seen++[r.2.2]:=List.mem_append_left _ h1
  have h4:r.2.2∈seen++[r.2.2]:=List.mem_append_right _ (by simp)
  have h5:seen.length<(seen++[r.2.2]).length:=by simp
  simp! [b1_law_flood,dIn_l,dNotIn_l,h1,h2,h3,h4,h5,l1,ap,addE,not_true,not_false_eq_true,and_self,and_false,Bool.or_true]
 ·have h5:seen.length<(seen++[r.2.1]).length:=by simp
  simp! [b1_law_flood,dIn_l,dNotIn_l,h1,h2,h5,l1,ap,addE,not_true,not_false_eq_true,and_self,and_false,false_and,Bool.or_true]
 ·simp! [b1_law_flood,dIn_l,dNotIn_l,h1,h2,addE,false_and,Nat.lt_irrefl,Bool.or_false]
theorem fl_loop {a0 a1:Option Slot}:∀(ss:List Row) (seen:List Int) (g:Bool) (x4 x5 x6:Option Slot),(passF ss seen).length<=100->
  ∃y4 y5 y6,loopF (gTupT 3 (gsCons (gN 4) (gsCons (gN 5) (gsCons (gN 6) (gsNil))))) b1_law_flood (ss.map rowD) [a0,a1,some (.own (.lst (seen.map .int))),some (.val (.bl g)),x4,x5,x6]
   = .ok (.nx [a0,a1,some (.own (.lst ((passF ss seen).map .int))),some (.val (.bl (g||decide (seen.length<(passF ss seen).length)))),y4,y5,y6])
 |[],seen,g,x4,x5,x6,_=>⟨x4,x5,x6,by simp[loopF,passF]⟩
 |r::ss,seen,g,x4,x5,x6,hl=>by
  have a1':=pass1_len seen r
  have a2':=passF_len ss (pass1 seen r)
  have hl':(passF ss (pass1 seen r)).length<=100:=hl
  obtain⟨y4,y5,y6,e⟩:=fl_loop (a0:=a0) (a1:=a1) ss (pass1 seen r) (g||decide (seen.length<(pass1 seen r).length)) (some (.val (.int r.1))) (some (.val (.int r.2.1))) (some (.val (.int r.2.2))) hl'
  refine⟨y4,y5,y6,?_⟩
  rw[List.map_cons,loop_nx rfl (fl_step (by omega)),e]
  have:(passF (r::ss) seen)=passF ss (pass1 seen r):=rfl
  rw[this]
  congr 5
  by_cases c1:seen.length<(pass1 seen r).length<;>by_cases c2:(pass1 seen r).length<(passF ss (pass1 seen r)).length
  ·simp[c1,c2,show seen.length<(passF ss (pass1 seen r)).length by omega]
  ·simp[c1,c2,show seen.length<(passF ss (pass1 seen r)).length by omega]
  ·simp[c1,c2,show seen.length<(passF ss (pass1 seen r)).length by omega]
  ·simp[c1,c2,show ¬seen.length<(passF ss (pass1 seen r)).length by omega]
theorem fl_while {n:Nat} {ss:List Row} {p:Int} {sd:D} (hsd:sd= .lst (ss.map rowD)\/sd= .tup (ss.map rowD)) (g:InR n ss) (hn:n<=7) (hp:0<=p/\p<=n) (a1:Option Slot):∀(m:Nat) (seen:List Int) (x4 x5 x6:Option Slot),Seen ss p seen->9<=m+seen.length->
  ∃seen' g' y4 y5 y6,whileF (fTru (fBor 3)) b2_law_flood (m+1) [some (.val sd),a1,some (.own (.lst (seen.map .int))),some (.val (.bl true)),x4,x5,x6]
   = .ok (.nx [some (.val sd),a1,some (.own (.lst (seen'.map .int))),g',y4,y5,y6])/\Seen ss p seen'/\∀r∈ss,(r.2.1∈seen'->r.2.2∈seen')/\(r.2.2∈seen'->r.2.1∈seen'):=by
 have bound:∀seen,Seen ss p seen->seen.length<=8:=fun seen s=>Nat.le_trans (nodup_len (n+1) s.nd fun x hx=>by have:=(s.tied x hx).range g hp;omega) (by omega)
 intro m
 induction m with
 |zero=>intro seen x4 x5 x6 s h;have:=bound seen s;omega
 |succ m ih=>
  intro seen x4 x5 x6 s h
  have s':=Seen.pass (ss:=ss) (fun r hr=>hr) s
  have b':=bound _ s'
  obtain⟨y4,y5,y6,e⟩:=fl_loop (a0:=some (.val sd)) (a1:=a1) ss seen false x4 x5 x6 (by omega)
  have hq:fSeq (fVar 0) [some (.val sd),a1,some (.own (.lst (seen.map .int))),some (.val (.bl false)),x4,x5,x6]= .ok (ss.map rowD):=by rcases hsd with rfl|rfl<;>rfl
  have hb:b2_law_flood [some (.val sd),a1,some (.own (.lst (seen.map .int))),some (.val (.bl true)),x4,x5,x6]= .ok (.nx [some (.val sd),a1,some (.own (.lst ((passF ss seen).map .int))),some (.val (.bl (false||decide (seen.length<(passF ss seen).length)))),y4,y5,y6]):=by
   unfold b2_law_flood
   rw[seq_nx (ρ':=[some (.val sd),a1,some (.own (.lst (seen.map .int))),some (.val (.bl false)),x4,x5,x6]) rfl,for_of hq,e]
  rw[while_step (by rfl) hb]
  by_cases hlt:seen.length<(passF ss seen).length
  ·obtain⟨seen',g',z4,z5,z6,e',h1,h2⟩:=ih (passF ss seen) y4 y5 y6 s' (by omega)
   refine⟨seen',g',z4,z5,z6,?_,h1,h2⟩
   rw[show (false||decide (seen.length<(passF ss seen).length))=true by simp[hlt]]
   exact e'
  ·have he:(passF ss seen).length=seen.length:=by have:=passF_len ss seen;omega
   refine⟨passF ss seen,some (.val (.bl false)),y4,y5,y6,?_,s',?_⟩
   ·rw[show (false||decide (seen.length<(passF ss seen).length))=false by simp[hlt]]
    exact while_end rfl
   ·
    have hc:=passF_same he
    have heq:∀(ss:List Row) (seen:List Int),(passF ss seen).length=seen.length->passF ss seen=seen:=by
     intro ss
     induction ss with
     |nil=>intro seen _;rfl
     |cons r ss ihh=>
      intro seen h
      have a1:=pass1_len seen r
      have a2:=passF_len ss (pass1 seen r)
      replace h:(passF ss (pass1 seen r)).length=seen.length:=h
      obtain⟨e1,_⟩:=pass1_same (show (pass1 seen r).length=seen.length by omega)
      show passF ss (pass1 seen r)=seen
      rw[e1]at h ⊢
      exact ihh seen h
    rw[heq ss seen he]
    exact hc
theorem flood_spec {n:Nat} {ss:List Row} {p:Int} {sd:D} (hsd:sd= .lst (ss.map rowD)\/sd= .tup (ss.map rowD)) (g:InR n ss) (hn:n<=7) (hp:0<=p/\p<=n):
  ∃seen:List Int,m_law_flood [sd, .int p]= .ok (.lst (seen.map .int))/\seen.Nodup/\∀q,q∈seen<->Tie ss p q:=by
 have s0:Seen ss p [p]:=⟨by simp,fun q hq=>by rw[List.mem_singleton.mp hq];exact .refl,by simp⟩
 obtain⟨seen,g',y4,y5,y6,e,s,hc⟩:=fl_while hsd g hn hp (some (.val (.int p))) 9 [p] none none none s0 (by simp)
 refine⟨seen,?_,s.nd,fun q=>⟨s.tied q,fun h=>tie_closed (S:=fun q=>q∈seen) s.here (fun b c hb had=> ?_) h⟩⟩
 ·refine run_ret rfl ?_
  show g_law_flood [some (.val sd),some (.val (.int p)),none,none,none,none,none]=_
  have e':whileF (fTru (fBor 3)) b2_law_flood 100 [some (.val sd),some (.val (.int p)),some (.own (.lst [.int p])),some (.val (.bl true)),none,none,none]=_:=while_mono 90 e
  have hl1:(1:Nat)<=lim:=by decide
  unfold g_law_flood
  rw[seq_nx (ρ':=[some (.val sd),some (.val (.int p)),some (.own (.lst [.int p])),none,none,none,none]) (by simp! [hl1]),
   seq_nx (ρ':=[some (.val sd),some (.val (.int p)),some (.own (.lst [.int p])),some (.val (.bl true)),none,none,none]) rfl,seq_nx e']
  simp! []
 ·obtain⟨r,hr,h|h⟩:=had
  ·have:=(hc r hr).1 (by rw[h.1];exact hb)
   rwa [h.2]at this
  ·have:=(hc r hr).2 (by rw[h.1];exact hb)
   rwa [h.2]at this
noncomputable abbrev Ent:=Int×Option (Int×Int×Int)
noncomputable def encV:Option (Int×Int×Int)->D
 |none=> .non
 |some (u,n,d)=> .tup [.int u, .tup [.int n, .int d]]
noncomputable def encA (es:List Ent):List (Key×D):=es.map fun e=>((Sum.inl e.1:Key),encV e.2)
noncomputable def plc (es:List Ent):List Int:=es.map (·.1)
theorem encA_get (es:List Ent) (x:Int):(dGet (encA es) (Sum.inl x)).isSome=decide (x∈plc es):=by
 induction es with
 |nil=>rfl
 |cons e r ih=>
  show (dGet ((Sum.inl e.1,encV e.2)::encA r) (Sum.inl x)).isSome=_
  by_cases h:e.1=x
  ·have:dGet ((Sum.inl e.1,encV e.2)::encA r) (Sum.inl x)=some (encV e.2):=by simp[dGet,h]
   rw[this]
   simp[plc,h]
  ·have h1:dGet ((Sum.inl e.1,encV e.2)::encA r) (Sum.inl x)=dGet (encA r) (Sum.inl x):=by simp[dGet,h]
   rw[h1,ih]
   show decide (x∈plc r)=decide (x∈e.1::plc r)
   rw[decide_eq_decide]
   exact⟨List.mem_cons_of_mem _,fun z=>(List.mem_cons.mp z).resolve_left (Ne.symm h)⟩
theorem encA_put (es:List Ent) (x:Int) (o:Option (Int×Int×Int)) (h:x∉plc es):dPut (encA es) (Sum.inl x) (encV o)=encA (es++[(x,o)]):=by
 unfold dPut
 rw[if_neg]
 ·simp[encA]
 ·intro z
  obtain⟨kv,h1,h2⟩:=List.any_eq_true.mp z
  obtain⟨e,he,rfl⟩:=List.mem_map.mp h1
  have:e.1=x:=by simpa using h2
  exact h (List.mem_map.mpr ⟨e,he,this⟩)
noncomputable def stepOf (p:Int) (r:Row):Option Row:=if r.2.1=p then some (r.1,1,r.2.2)else if r.2.2=p then some (r.1,-1,r.2.1)else none
noncomputable def stepsOf (ss:List Row) (p:Int):List Row:=ss.filterMap (stepOf p)
theorem sf_step {a0:Option Slot} {p:Int} {acc:List Row} {r:Row} (hl:acc.length<=1000):
  b1_steps_from [a0,some (.val (.int p)),some (.own (.lst (acc.map rowD))),some (.val (.int r.1)),some (.val (.int r.2.1)),some (.val (.int r.2.2))]
   = .ok (.nx [a0,some (.val (.int p)),some (.own (.lst ((acc++(stepOf p r).toList).map rowD))),some (.val (.int r.1)),some (.val (.int r.2.1)),some (.val (.int r.2.2))]):=by
 have l1:(acc.map rowD).length<lim:=by rw[List.length_map];unfold lim;omega
 have l3:(3:Nat)<=lim:=by decide
 unfold stepOf
 by_cases h1:r.2.1=p
 ·simp! [b1_steps_from,h1,l1,l3,Option.toList,List.map_append,List.map_cons,List.map_nil,rowD]
 ·by_cases h2:r.2.2=p
  ·simp! [b1_steps_from,h1,h2,l1,l3,Option.toList,List.map_append,List.map_cons,List.map_nil,rowD]
  ·simp! [b1_steps_from,h1,h2,Option.toList,List.append_nil]
theorem sf_loop {a0:Option Slot} {p:Int}:∀(ss:List Row) (acc:List Row) (x3 x4 x5:Option Slot),acc.length+ss.length<=1000->
  ∃y3 y4 y5,loopF (gTupT 3 (gsCons (gN 3) (gsCons (gN 4) (gsCons (gN 5) (gsNil))))) b1_steps_from (ss.map rowD) [a0,some (.val (.int p)),some (.own (.lst (acc.map rowD))),x3,x4,x5]
   = .ok (.nx [a0,some (.val (.int p)),some (.own (.lst ((acc++stepsOf ss p).map rowD))),y3,y4,y5])
 |[],acc,x3,x4,x5,_=>⟨x3,x4,x5,by simp[loopF,stepsOf]⟩
 |r::ss,acc,x3,x4,x5,hl=>by
  simp only[List.length_cons]at hl
  have h1:(stepOf p r).toList.length<=1:=by cases stepOf p r<;>simp
  obtain⟨y3,y4,y5,e⟩:=sf_loop (a0:=a0) (p:=p) ss (acc++(stepOf p r).toList) (some (.val (.int r.1))) (some (.val (.int r.2.1))) (some (.val (.int r.2.2))) (by rw[List.length_append];omega)
  refine⟨y3,y4,y5,?_⟩
  rw[List.map_cons,loop_nx rfl (sf_step (by omega)),e]
  have:stepsOf (r::ss) p=(stepOf p r).toList++stepsOf ss p:=by
   unfold stepsOf
   rw[List.filterMap_cons]
   cases stepOf p r<;>rfl
  rw[this,List.append_assoc]
theorem steps_spec {ss:List Row} {p:Int} {sd:D} (hsd:sd= .lst (ss.map rowD)\/sd= .tup (ss.map rowD)) (hl:ss.length<=1000):m_steps_from [sd, .int p]= .ok (.lst ((stepsOf ss p).map rowD)):=by
 obtain⟨y3,y4,y5,e⟩:=sf_loop (a0:=some (.val sd)) (p:=p) ss [] none none none (by simpa using hl)
 have hq:fSeq (fVar 0) [some (.val sd),some (.val (.int p)),some (.own (.lst [])),none,none,none]= .ok (ss.map rowD):=by rcases hsd with rfl|rfl<;>rfl
 refine run_ret rfl ?_
 show g_steps_from [some (.val sd),some (.val (.int p)),none,none,none,none]=_
 unfold g_steps_from
 rw[seq_nx (ρ':=[some (.val sd),some (.val (.int p)),some (.own (.lst [])),none,none,none]) (by simp! []),seq_nx ((for_of hq).trans e)]
 simp! []
theorem steps_len (ss:List Row) (p:Int):(stepsOf ss p).length<=ss.length:=List.length_filterMap_le _ _
noncomputable def Stp (ss:List Row) (u n d q:Int):Prop:=∃r∈ss,r.1=n/\((d=1/\r.2.1=u/\r.2.2=q)\/(d= -1/\r.2.2=u/\r.2.1=q))
theorem stp_of {ss:List Row} {p:Int} {st:Row} (h:st∈stepsOf ss p):Stp ss p st.1 st.2.1 st.2.2:=by
 obtain⟨r,hr,e⟩:=List.mem_filterMap.mp h
 unfold stepOf at e
 split at e
 ·rename_i h1
  cases e
  exact⟨r,hr,rfl, .inl ⟨rfl,h1,rfl⟩⟩
 ·split at e
  ·rename_i h1 h2
   cases e
   exact⟨r,hr,rfl, .inr ⟨rfl,h2,rfl⟩⟩
  ·cases e
theorem Stp.adj {ss:List Row} {u n d q:Int} (h:Stp ss u n d q):Adj ss u q:=by
 obtain⟨r,hr,_,h|h⟩:=h
 ·exact⟨r,hr, .inl ⟨h.2.1,h.2.2⟩⟩
 ·exact⟨r,hr, .inr ⟨h.2.1,h.2.2⟩⟩
theorem adj_steps {ss:List Row} {p c:Int} (h:Adj ss p c):c=p\/∃st∈stepsOf ss p,st.2.2=c:=by
 obtain⟨r,hr,h|h⟩:=h
 ·exact .inr ⟨(r.1,1,r.2.2),List.mem_filterMap.mpr ⟨r,hr,by unfold stepOf;rw[if_pos h.1]⟩,h.2⟩
 ·by_cases e:r.2.1=p
  ·exact .inl (by rw[<-h.2];exact e)
  ·exact .inr ⟨(r.1,-1,r.2.1),List.mem_filterMap.mpr ⟨r,hr,by unfold stepOf;rw[if_neg e,if_pos h.1]⟩,h.2⟩
inductive ArrOk (ss:List Row) (p:Int):List Ent->Prop
 |one:ArrOk ss p [(p,none)]
 |snoc {es:List Ent} {q u n d:Int}:ArrOk ss p es->u∈plc es->q∉plc es->Stp ss u n d q->ArrOk ss p (es++[(q,some (u,n,d))])
theorem plc_snoc (es:List Ent) (e:Ent):plc (es++[e])=plc es++[e.1]:=by simp[plc]
theorem ArrOk.nd {ss:List Row} {p:Int} {es:List Ent} (h:ArrOk ss p es):(plc es).Nodup:=by
 induction h with
 |one=>simp[plc]
 |snoc _ _ hq _ ih=>
  rw[plc_snoc]
  refine List.nodup_append.mpr ⟨ih,by simp,fun a ha b hb=> ?_⟩
  have:b=_:=List.mem_singleton.mp hb
  subst this
  intro z;subst z;exact hq ha
theorem ArrOk.tied {ss:List Row} {p:Int} {es:List Ent} (h:ArrOk ss p es):∀q∈plc es,Tie ss p q:=by
 induction h with
 |one=>
  intro q hq
  have:q=p:=by simpa[plc]using hq
  rw[this];exact .refl
 |snoc _ hu _ hs ih=>
  intro x hx
  rw[plc_snoc]at hx
  rcases List.mem_append.mp hx with hx|hx
  ·exact ih x hx
  ·have:x=_:=List.mem_singleton.mp hx
   rw[this]
   exact .step (ih _ hu) hs.adj
theorem ArrOk.here {ss:List Row} {p:Int} {es:List Ent} (h:ArrOk ss p es):p∈plc es:=by
 induction h with
 |one=>simp[plc]
 |snoc _ _ _ _ ih=>rw[plc_snoc];exact List.mem_append_left _ ih
noncomputable def addA (u:Int) (s:List Ent×List Int) (st:Row):List Ent×List Int:=if st.2.2∈plc s.1 then s else (s.1++[(st.2.2,some (u,st.1,st.2.1))],s.2++[st.2.2])
noncomputable def addAll (u:Int) (sts:List Row) (s:List Ent×List Int):List Ent×List Int:=sts.foldl (addA u) s
theorem ar_step {a0 a1:Option Slot} {u:Int} {es:List Ent} {w:List Int} {st:Row} (h1:es.length<=1000) (h2:w.length<=1000):
  b1_arrivals_from [a0,a1,some (.own (.dic (encA es))),some (.own (.lst (w.map .int))),some (.val (.int u)),some (.val (.int st.1)),some (.val (.int st.2.1)),some (.val (.int st.2.2))]
   = .ok (.nx [a0,a1,some (.own (.dic (encA (addA u (es,w) st).1))),some (.own (.lst ((addA u (es,w) st).2.map .int))),some (.val (.int u)),some (.val (.int st.1)),some (.val (.int st.2.1)),some (.val (.int st.2.2))]):=by
 have hin:dInA true (.int st.2.2) (.dic (encA es))=some (.bl (!decide (st.2.2∈plc es))):=by
  show some (D.bl (if true then !(dGet (encA es) (Sum.inl st.2.2)).isSome else (dGet (encA es) (Sum.inl st.2.2)).isSome))=_
  rw[encA_get];rfl
 have l1:(w.map D.int).length<lim:=by rw[List.length_map];unfold lim;omega
 have l2:(encA es).length<lim:=by unfold encA;rw[List.length_map];unfold lim;omega
 have l3:(2:Nat)<=lim:=by decide
 unfold addA
 by_cases h:st.2.2∈plc es
 ·simp! [b1_arrivals_from,hin,h]
 ·have hp:=encA_put es st.2.2 (some (u,st.1,st.2.1)) h
  simp only[encV]at hp
  simp! [b1_arrivals_from,hin,h,gPut,keyOf,l1,l2,l3,hp,List.map_append,List.map_cons,List.map_nil]
theorem addA_len (u:Int) (s:List Ent×List Int) (st:Row):(addA u s st).1.length<=s.1.length+1/\(addA u s st).2.length<=s.2.length+1/\(addA u s st).1.length+s.2.length=s.1.length+(addA u s st).2.length/\s.1.length<=(addA u s st).1.length:=by
 unfold addA
 split
 ·exact⟨by omega,by omega,by omega,by omega⟩
 ·simp;omega
theorem ar_loop {a0 a1:Option Slot} {u:Int}:∀(sts:List Row) (s:List Ent×List Int) (x5 x6 x7:Option Slot),s.1.length+sts.length<=500->s.2.length+sts.length<=500->
  ∃y5 y6 y7,loopF (gTupT 3 (gsCons (gN 5) (gsCons (gN 6) (gsCons (gN 7) (gsNil))))) b1_arrivals_from (sts.map rowD) [a0,a1,some (.own (.dic (encA s.1))),some (.own (.lst (s.2.map .int))),some (.val (.int u)),x5,x6,x7]
   = .ok (.nx [a0,a1,some (.own (.dic (encA (addAll u sts s).1))),some (.own (.lst ((addAll u sts s).2.map .int))),some (.val (.int u)),y5,y6,y7])
 |[],s,x5,x6,x7,_,_=>⟨x5,x6,x7,rfl⟩
 |st::sts,s,x5,x6,x7,h1,h2=>by
  simp only[List.length_cons]at h1 h2
  obtain⟨q1,q2,_,_⟩:=addA_len u s st
  obtain⟨y5,y6,y7,e⟩:=ar_loop (a0:=a0) (a1:=a1) (u:=u) sts (addA u s st) (some (.val (.int st.1))) (some (.val (.int st.2.1))) (some (.val (.int st.2.2))) (by omega) (by omega)
  exact⟨y5,y6,y7,by rw[List.map_cons,loop_nx rfl (ar_step (by omega) (by omega)),e];rfl⟩
structure Bfs (ss:List Row) (p:Int) (s:List Ent×List Int) (skip:Int->Prop):Prop where
 ok:ArrOk ss p s.1
 sub:∀x∈s.2,x∈plc s.1
 cl:∀b∈plc s.1,b∉s.2->¬skip b->∀c,Adj ss b c->c∈plc s.1
theorem Bfs.add {ss:List Row} {p:Int} {s:List Ent×List Int} {skip:Int->Prop} (b:Bfs ss p s skip) {u:Int} (hu:u∈plc s.1) {st:Row} (hs:Stp ss u st.1 st.2.1 st.2.2):
  Bfs ss p (addA u s st) skip/\st.2.2∈plc (addA u s st).1/\∀x∈plc s.1,x∈plc (addA u s st).1:=by
 unfold addA
 split
 ·rename_i h
  exact⟨b,h,fun x hx=>hx⟩
 ·rename_i h
  refine⟨⟨.snoc b.ok hu h hs,fun x hx=> ?_,fun x hx hw hk c hc=> ?_⟩,by rw[plc_snoc];exact List.mem_append_right _ (by simp),fun x hx=>by rw[plc_snoc];exact List.mem_append_left _ hx⟩
  ·rw[plc_snoc]
   rcases List.mem_append.mp hx with hx|hx
   ·exact List.mem_append_left _ (b.sub x hx)
   ·exact List.mem_append_right _ hx
  ·rw[plc_snoc]at hx ⊢
   rcases List.mem_append.mp hx with hx|hx
   ·exact List.mem_append_left _ (b.cl x hx (fun z=>hw (List.mem_append_left _ z)) hk c hc)
   ·exact absurd (List.mem_append_right _ hx) hw
theorem Bfs.all {ss:List Row} {p u:Int} {skip:Int->Prop}:∀{sts:List Row} {s:List Ent×List Int},(∀st∈sts,Stp ss u st.1 st.2.1 st.2.2)->u∈plc s.1->Bfs ss p s skip->
  Bfs ss p (addAll u sts s) skip/\(∀st∈sts,st.2.2∈plc (addAll u sts s).1)/\∀x∈plc s.1,x∈plc (addAll u sts s).1
 |[],s,_,_,b=>⟨b,fun st h=>by(cases h),fun x hx=>hx⟩
 |st::sts,s,h,hu,b=>by
  obtain⟨b1,b2,b3⟩:=b.add hu (h st List.mem_cons_self)
  obtain⟨c1,c2,c3⟩:=Bfs.all (sts:=sts) (fun x hx=>h x (List.mem_cons_of_mem _ hx)) (b3 u hu) b1
  refine⟨c1,fun x hx=> ?_,fun x hx=>c3 x (b3 x hx)⟩
  rcases List.mem_cons.mp hx with rfl|hx
  ·exact c3 _ b2
  ·exact c2 x hx
theorem addAll_len (u:Int):∀(sts:List Row) (s:List Ent×List Int),(addAll u sts s).1.length+s.2.length=s.1.length+(addAll u sts s).2.length/\s.1.length<=(addAll u sts s).1.length
 |[],s=>⟨rfl,Nat.le_refl _⟩
 |st::sts,s=>by
  obtain⟨_,_,h3,h4⟩:=addA_len u s st
  obtain⟨g1,g2⟩:=addAll_len u sts (addA u s st)
  show (addAll u sts (addA u s st)).1.length+s.2.length=s.1.length+(addAll u sts (addA u s st)).2.length/\s.1.length<=(addAll u sts (addA u s st)).1.length
  omega
theorem ar_while {n:Nat} {ss:List Row} {p:Int} {sd:D} (hsd:sd= .lst (ss.map rowD)\/sd= .tup (ss.map rowD)) (hl:ss.length<=100) (g:InR n ss) (hn:n<=7) (hp:0<=p/\p<=n) (a1:Option Slot):
  ∀(m:Nat) (s:List Ent×List Int) (x4 x5 x6 x7:Option Slot),Bfs ss p s (fun _=>False)->9+s.2.length<=m+s.1.length->s.2.length<=s.1.length->
  ∃es y4 y5 y6 y7,whileF (fT (f2 dGt (f1s cLen (fCons (fBor 3) (fNil))) (fC (.int 0)))) b2_arrivals_from (m+1) [some (.val sd),a1,some (.own (.dic (encA s.1))),some (.own (.lst (s.2.map .int))),x4,x5,x6,x7]
   = .ok (.nx [some (.val sd),a1,some (.own (.dic (encA es))),some (.own (.lst [])),y4,y5,y6,y7])/\ArrOk ss p es/\∀b∈plc es,∀c,Adj ss b c->c∈plc es:=by
 have bound:∀es,ArrOk ss p es->es.length<=8:=fun es h=>by
  have:=nodup_len (n+1) h.nd fun x hx=>by have:=(h.tied x hx).range g hp;omega
  unfold plc at this
  rw[List.length_map]at this
  omega
 intro m
 induction m with
 |zero=>intro s x4 x5 x6 x7 b h _;have:=bound _ b.ok;omega
 |succ m ih=>
  intro s x4 x5 x6 x7 b h hws
  obtain⟨es,w⟩:=s
  cases w with
  |nil=>
   refine⟨es,x4,x5,x6,x7,while_end rfl,b.ok,fun q hq c hc=>b.cl q hq (by simp) (fun z=>z) c hc⟩
  |cons u w=>
   have hu:u∈plc es:=b.sub u List.mem_cons_self
   have b1:Bfs ss p (es,w) (fun q=>q=u):=⟨b.ok,fun x hx=>b.sub x (List.mem_cons_of_mem _ hx),fun q hq hw hk c hc=>b.cl q hq (fun z=>(List.mem_cons.mp z).elim hk hw) (fun z=>z) c hc⟩
   obtain⟨c1,c2,c3⟩:=Bfs.all (sts:=stepsOf ss u) (fun st hst=>stp_of hst) hu b1
   have hlen:=addAll_len u (stepsOf ss u) (es,w)
   have hb8:es.length<=8:=bound _ b.ok
   have hb8':=bound _ c1.ok
   have hsl:=steps_len ss u
   simp only[List.length_cons]at h hws
   have hw9:w.length<=200:=by omega
   obtain⟨y5,y6,y7,e⟩:=ar_loop (a0:=some (.val sd)) (a1:=a1) (u:=u) (stepsOf ss u) (es,w) x5 x6 x7 (by show es.length+_<=500;omega) (by show w.length+_<=500;omega)
   have hpop:gPop 4 3 (fC (.int 0)) [some (.val sd),a1,some (.own (.dic (encA es))),some (.own (.lst ((u::w).map .int))),x4,x5,x6,x7]= .ok (.nx [some (.val sd),a1,some (.own (.dic (encA es))),some (.own (.lst (w.map .int))),some (.val (.int u)),x5,x6,x7]):=by
    have hi:seqIndex? 0 ((w.map D.int).length+1)=some 0:=by
     unfold seqIndex?
     simp
    have hz:Int.natAbs 0<=lim:=Nat.zero_le _
    simp! [gPop,hi,hz,List.map_cons,List.eraseIdx_cons_zero]
   have hcall:fSeq (fCall m_steps_from 2 (fCons (fVar 0) (fCons (fVar 4) (fNil)))) [some (.val sd),a1,some (.own (.dic (encA es))),some (.own (.lst (w.map .int))),some (.val (.int u)),x5,x6,x7]= .ok ((stepsOf ss u).map rowD):=by
    simp! [steps_spec hsd (show ss.length<=1000 by omega)]
   have hbody:b2_arrivals_from [some (.val sd),a1,some (.own (.dic (encA es))),some (.own (.lst ((u::w).map .int))),x4,x5,x6,x7]= .ok (.nx [some (.val sd),a1,some (.own (.dic (encA (addAll u (stepsOf ss u) (es,w)).1))),some (.own (.lst ((addAll u (stepsOf ss u) (es,w)).2.map .int))),some (.val (.int u)),y5,y6,y7]):=by
    unfold b2_arrivals_from
    rw[seq_nx hpop,for_of hcall,e]
   have htest:fT (f2 dGt (f1s cLen (fCons (fBor 3) (fNil))) (fC (.int 0))) [some (.val sd),a1,some (.own (.dic (encA es))),some (.own (.lst ((u::w).map .int))),x4,x5,x6,x7]= .ok true:=by
    simp! [List.map_cons]
    simp
   have b2:Bfs ss p (addAll u (stepsOf ss u) (es,w)) (fun _=>False):=⟨c1.ok,c1.sub,fun q hq hw _ c hc=>by
    by_cases hqu:q=u
    ·subst hqu
     rcases adj_steps hc with rfl|⟨st,hst,rfl⟩
     ·exact hq
     ·exact c2 st hst
    ·exact c1.cl q hq hw hqu c hc⟩
   obtain⟨es',z4,z5,z6,z7,e',r1,r2⟩:=ih (addAll u (stepsOf ss u) (es,w)) (some (.val (.int u))) y5 y6 y7 b2 (by
    have:=hlen.1
    simp only at this
    omega) (by
    have:=hlen.1
    simp only at this
    omega)
   exact⟨es',z4,z5,z6,z7,by rw[while_step htest hbody];exact e',r1,r2⟩
theorem arr_spec {n:Nat} {ss:List Row} {p:Int} {sd:D} (hsd:sd= .lst (ss.map rowD)\/sd= .tup (ss.map rowD)) (hl:ss.length<=100) (g:InR n ss) (hn:n<=7) (hp:0<=p/\p<=n):
  ∃es:List Ent,m_arrivals_from [sd, .int p]= .ok (.dic (encA es))/\ArrOk ss p es/\∀q,q∈plc es<->Tie ss p q:=by
 have b0:Bfs ss p ([(p,none)],[p]) (fun _=>False):=⟨.one,fun x hx=>by simpa[plc]using hx,fun b hb hw=>absurd (by simpa[plc]using hb) hw⟩
 obtain⟨es,y4,y5,y6,y7,e,h1,h2⟩:=ar_while hsd hl g hn hp (some (.val (.int p))) 9 ([(p,none)],[p]) none none none none b0 (by simp) (by simp)
 refine⟨es,?_,h1,fun q=>⟨h1.tied q,fun h=>tie_closed (S:=fun q=>q∈plc es) h1.here (fun b c hb=>h2 b hb c) h⟩⟩
 refine run_ret rfl ?_
 show g_arrivals_from [some (.val sd),some (.val (.int p)),none,none,none,none,none,none]=_
 have e':whileF (fT (f2 dGt (f1s cLen (fCons (fBor 3) (fNil))) (fC (.int 0)))) b2_arrivals_from 100 [some (.val sd),some (.val (.int p)),some (.own (.dic [(Sum.inl p, .non)])),some (.own (.lst [.int p])),none,none,none,none]=_:=while_mono 90 e
 have hl1:(1:Nat)<=lim:=by decide
 unfold g_arrivals_from
 rw[seq_nx (ρ':=[some (.val sd),some (.val (.int p)),some (.own (.dic [(Sum.inl p, .non)])),none,none,none,none,none]) (by simp! [gOwnDP,fPairs,keyOf];rfl),
  seq_nx (ρ':=[some (.val sd),some (.val (.int p)),some (.own (.dic [(Sum.inl p, .non)])),some (.own (.lst [.int p])),none,none,none,none]) (by simp! [hl1]),seq_nx e']
 simp! []
inductive Wy (ss:List Row):Int->List Int->List (Int×Int)->Int->List Int->Prop
 |nil {u:Int} {ps:List Int}:Wy ss u ps [] u ps
 |cons {u n d q v:Int} {ps qs:List Int} {st:List (Int×Int)}:Stp ss u n d q->q∉ps->Wy ss q (ps++[q]) st v qs->Wy ss u ps ((n,d)::st) v qs
theorem Wy.snoc {ss:List Row} {u v n d q:Int} {ps qs:List Int} {st:List (Int×Int)} (h:Wy ss u ps st v qs) (hs:Stp ss v n d q) (hq:q∉qs):Wy ss u ps (st++[(n,d)]) q (qs++[q]):=by
 induction h with
 |nil=>exact .cons hs hq .nil
 |cons a b _ ih=>exact .cons a b (ih hs hq)
theorem Wy.len {ss:List Row} {u v:Int} {ps qs:List Int} {st:List (Int×Int)} (h:Wy ss u ps st v qs):qs.length=ps.length+st.length:=by
 induction h with
 |nil=>simp
 |cons _ _ _ ih=>rw[ih];simp;omega
theorem Wy.nd {ss:List Row} {u v:Int} {ps qs:List Int} {st:List (Int×Int)} (h:Wy ss u ps st v qs) (hn:ps.Nodup):qs.Nodup:=by
 induction h with
 |nil=>exact hn
 |cons _ hq _ ih=>exact ih (List.nodup_append.mpr ⟨hn,by simp,fun a ha b hb=>by
   have:b=_:=List.mem_singleton.mp hb
   subst this
   intro z;subst z;exact hq ha⟩)
noncomputable def lkA (es:List Ent) (q:Int):Option (Option (Int×Int×Int)):=(es.find? fun e=>decide (e.1=q)).map (·.2)
theorem encA_lk (es:List Ent) (q:Int):dGet (encA es) (Sum.inl q)=(lkA es q).map encV:=by
 induction es with
 |nil=>rfl
 |cons e r ih=>
  show dGet ((Sum.inl e.1,encV e.2)::encA r) (Sum.inl q)=_
  by_cases h:e.1=q
  ·simp[dGet,lkA,h]
  ·have h1:dGet ((Sum.inl e.1,encV e.2)::encA r) (Sum.inl q)=dGet (encA r) (Sum.inl q):=by simp[dGet,h]
   have h2:lkA (e::r) q=lkA r q:=by simp[lkA,h]
   rw[h1,h2,ih]
theorem lkA_app {es fs:List Ent} {q:Int} {x:Option (Int×Int×Int)} (h:lkA es q=some x):lkA (es++fs) q=some x:=by
 unfold lkA at h ⊢
 rw[List.find?_append]
 cases e:es.find? fun e=>decide (e.1=q)with
 |none=>rw[e]at h;cases h
 |some y=>rw[e]at h;simpa using h
theorem lkA_new {es:List Ent} {q:Int} {x:Option (Int×Int×Int)} (h:q∉plc es):lkA (es++[(q,x)]) q=some x:=by
 unfold lkA
 rw[List.find?_append]
 have:es.find? (fun e=>decide (e.1=q))=none:=List.find?_eq_none.mpr fun e he=>by
  simp only[decide_eq_true_eq]
  intro z
  exact h (List.mem_map.mpr ⟨e,he,z⟩)
 rw[this]
 simp
inductive Bk (es:List Ent) (p:Int):Int->List (Int×Int)->Prop
 |nil:Bk es p p []
 |step {q u n d:Int} {st:List (Int×Int)}:q≠p->lkA es q=some (some (u,n,d))->Bk es p u st->Bk es p q (st++[(n,d)])
theorem Bk.app {es fs:List Ent} {p q:Int} {st:List (Int×Int)} (h:Bk es p q st):Bk (es++fs) p q st:=by
 induction h with
 |nil=>exact .nil
 |step a b _ ih=>exact .step a (lkA_app b) ih
theorem ArrOk.way {ss:List Row} {p:Int} {es:List Ent} (h:ArrOk ss p es):∀q∈plc es,∃st qs,Bk es p q st/\Wy ss p [p] st q qs/\∀x∈qs,x∈plc es:=by
 induction h with
 |one=>
  intro q hq
  have:q=p:=by simpa[plc]using hq
  subst this
  exact⟨[],[q], .nil, .nil,fun x hx=>by simpa[plc]using hx⟩
 | @snoc es q u n d h hu hq hs ih=>
  intro x hx
  rw[plc_snoc]at hx
  rcases List.mem_append.mp hx with hx|hx
  ·obtain⟨st,qs,h1,h2,h3⟩:=ih x hx
   exact⟨st,qs,h1.app,h2,fun y hy=>by rw[plc_snoc];exact List.mem_append_left _ (h3 y hy)⟩
  ·have:x=q:=List.mem_singleton.mp hx
   subst this
   obtain⟨st,qs,h1,h2,h3⟩:=ih u hu
   refine⟨st++[(n,d)],qs++[x], .step (fun z=>hq (by rw[z];exact h.here)) (lkA_new hq) h1.app,h2.snoc hs fun z=>hq (h3 x z),fun y hy=> ?_⟩
   rw[plc_snoc]
   rcases List.mem_append.mp hy with hy|hy
   ·exact List.mem_append_left _ (h3 y hy)
   ·exact List.mem_append_right _ hy
noncomputable def stD (x:Int×Int):D:= .tup [.int x.1, .int x.2]
theorem pw_step {a0 a2 x6:Option Slot} {es:List Ent} {p q u n d:Int} {acc:List (Int×Int)} (hl:lkA es q=some (some (u,n,d))) (ha:acc.length<=100):
  b1_path_of [a0,some (.val (.int p)),a2,some (.val (.dic (encA es))),some (.own (.lst (acc.map stD))),some (.val (.int q)),x6]
   = .ok (.nx [a0,some (.val (.int p)),a2,some (.val (.dic (encA es))),some (.own (.lst ((acc++[(n,d)]).map stD))),some (.val (.int u)),some (.val (.tup [.int u,stD (n,d)]))]):=by
 have hix:dIx (.dic (encA es)) (.int q)=some (.tup [.int u,stD (n,d)]):=by
  show (keyOf (.int q)).bind (fun key=>dGet (encA es) key)=_
  show dGet (encA es) (Sum.inl q)=_
  rw[encA_lk,hl]
  rfl
 have h0:L2.atI [D.int u,stD (n,d)] 0=some (.int u):=atI_nat (j:=0) rfl
 have h1:L2.atI [D.int u,stD (n,d)] 1=some (stD (n,d)):=atI_nat (j:=1) rfl
 have l1:(acc.map stD).length<lim:=by rw[List.length_map];unfold lim;omega
 simp! [b1_path_of,hix,h0,h1,l1,List.map_append,List.map_cons,List.map_nil]
theorem pw_while {a0 a2:Option Slot} {es:List Ent} {p q:Int} {st:List (Int×Int)} (h:Bk es p q st):∀(acc:List (Int×Int)) (x6:Option Slot),acc.length+st.length<=100->
  ∃y5 y6,whileF (fT (f2 dNe (fBor 5) (fBor 1))) b1_path_of (st.length+1) [a0,some (.val (.int p)),a2,some (.val (.dic (encA es))),some (.own (.lst (acc.map stD))),some (.val (.int q)),x6]
   = .ok (.nx [a0,some (.val (.int p)),a2,some (.val (.dic (encA es))),some (.own (.lst ((acc++st.reverse).map stD))),y5,y6]):=by
 induction h with
 |nil=>intro acc x6 _;exact⟨some (.val (.int p)),x6,by
   rw[List.reverse_nil,List.append_nil]
   exact while_end (by simp! [])⟩
 | @step q u n d st hq hl _ ih=>
  intro acc x6 ha
  rw[List.length_append]at ha
  simp only[List.length_cons,List.length_nil]at ha
  obtain⟨y5,y6,e⟩:=ih (acc++[(n,d)]) (some (.val (.tup [.int u,stD (n,d)]))) (by simp;omega)
  refine⟨y5,y6,?_⟩
  rw[show (st++[(n,d)]).length+1=st.length+1+1 by simp,while_step (by simp! [hq]) (pw_step hl (by omega)),e]
  simp
theorem path_spec {n:Nat} {ss:List Row} {p q:Int} {sd:D} (hsd:sd= .lst (ss.map rowD)\/sd= .tup (ss.map rowD)) (hl:ss.length<=100) (g:InR n ss) (hn:n<=7) (hp:0<=p/\p<=n):
  (¬Tie ss p q/\m_path_of [sd, .int p, .int q]= .ok .non)\/(Tie ss p q/\∃st qs,m_path_of [sd, .int p, .int q]= .ok (.tup (st.map stD))/\Wy ss p [p] st q qs/\st.length<=7):=by
 obtain⟨es,he,hok,hm⟩:=arr_spec hsd hl g hn hp
 have hin:dInA true (.int q) (.dic (encA es))=some (.bl (!decide (q∈plc es))):=by
  show some (D.bl (if true then !(dGet (encA es) (Sum.inl q)).isSome else (dGet (encA es) (Sum.inl q)).isSome))=_
  rw[encA_get];rfl
 have s1:gAsg (fCall m_arrivals_from 2 (fCons (fVar 0) (fCons (fVar 1) (fNil)))) (gN 3) [some (.val sd),some (.val (.int p)),some (.val (.int q)),none,none,none,none]= .ok (.nx [some (.val sd),some (.val (.int p)),some (.val (.int q)),some (.val (.dic (encA es))),none,none,none]):=by simp! [he]
 by_cases hq:q∈plc es
 ·obtain⟨st,qs,h1,h2,h3⟩:=hok.way q hq
  have hlen:=h2.len
  have hb:qs.length<=n+1:=nodup_len (n+1) (h2.nd (by simp)) fun x hx=>by
   have:=(hok.tied x (h3 x hx)).range g hp
   omega
  simp only[List.length_cons,List.length_nil]at hlen
  refine .inr ⟨(hm q).mp hq,st,qs,?_,h2,by omega⟩
  obtain⟨y5,y6,e⟩:=pw_while (a0:=some (.val sd)) (a2:=some (.val (.int q))) h1 [] none (by simp;omega)
  rw[List.nil_append]at e
  have e':whileF (fT (f2 dNe (fBor 5) (fBor 1))) b1_path_of 100 [some (.val sd),some (.val (.int p)),some (.val (.int q)),some (.val (.dic (encA es))),some (.own (.lst [])),some (.val (.int q)),none]
    = .ok (.nx [some (.val sd),some (.val (.int p)),some (.val (.int q)),some (.val (.dic (encA es))),some (.own (.lst (st.reverse.map stD))),y5,y6]):=by
   have:=while_mono (99 - st.length) e
   rwa [show st.length+1+(99 - st.length)=100 by omega]at this
  refine run_ret rfl ?_
  show g_path_of [some (.val sd),some (.val (.int p)),some (.val (.int q)),none,none,none,none]=_
  unfold g_path_of
  rw[seq_nx s1,seq_nx (ρ':=[some (.val sd),some (.val (.int p)),some (.val (.int q)),some (.val (.dic (encA es))),none,none,none]) (by simp! [hin,hq]),
   seq_nx (ρ':=[some (.val sd),some (.val (.int p)),some (.val (.int q)),some (.val (.dic (encA es))),some (.own (.lst [])),none,none]) (by simp! []),
   seq_nx (ρ':=[some (.val sd),some (.val (.int p)),some (.val (.int q)),some (.val (.dic (encA es))),some (.own (.lst [])),some (.val (.int q)),none]) (by simp! []),seq_nx e']
  simp! [fTupRev]
  rw[<-List.map_reverse,List.reverse_reverse]
 ·refine .inl ⟨fun z=>hq ((hm q).mpr z),?_⟩
  refine run_ret rfl ?_
  show g_path_of [some (.val sd),some (.val (.int p)),some (.val (.int q)),none,none,none,none]=_
  unfold g_path_of
  rw[seq_nx s1,seq_ret (d:= .non) (by simp! [hin,hq])]
theorem dPut_new {kds:List (Key×D)} {k:Key} {v:D} (h:k∉kds.map (·.1)):dPut kds k v=kds++[(k,v)]:=by
 unfold dPut
 rw[if_neg]
 intro z
 obtain⟨kv,h1,h2⟩:=List.any_eq_true.mp z
 exact h (List.mem_map.mpr ⟨kv,h1,by simpa using h2⟩)
theorem dGet_mem {kds:List (Key×D)} {k:Key} {v:D} (hn:(kds.map (·.1)).Nodup) (h:(k,v)∈kds):dGet kds k=some v:=by
 induction kds with
 |nil=>cases h
 |cons x r ih=>
  rw[List.map_cons]at hn
  obtain⟨h1,h2⟩:=List.nodup_cons.mp hn
  rcases List.mem_cons.mp h with h|h
  ·subst h;simp[dGet]
  ·have:x.1≠k:=fun z=>h1 (by rw[z];exact List.mem_map.mpr ⟨_,h,rfl⟩)
   have e:dGet (x::r) k=dGet r k:=by simp[dGet,this]
   rw[e]
   exact ih h2 h
noncomputable def endD (r:Row):Key×D:=(Sum.inl r.1, .tup [.int r.2.1, .int r.2.2])
theorem end_keys (ss:List Row):(ss.map endD).map (·.1)=ss.map fun r=>(Sum.inl r.1:Key):=by rw[List.map_map];rfl
theorem end_nd {ss:List Row} (h:(ss.map (·.1)).Nodup):((ss.map endD).map (·.1)).Nodup:=by
 rw[end_keys]
 have:(ss.map fun r=>(Sum.inl r.1:Key))=(ss.map (·.1)).map Sum.inl:=by rw[List.map_map];rfl
 rw[this]
 unfold List.Nodup at h ⊢
 rw[List.pairwise_map]
 exact h.imp fun {a b} hab=>by simpa using hab
theorem en_loop {a0 a1 a2 a3 a8 a9:Option Slot}:∀(ss acc:List Row) (x5 x6 x7:Option Slot),((acc++ss).map (·.1)).Nodup->acc.length+ss.length<=100->
  ∃y5 y6 y7,loopF (gTupT 3 (gsCons (gN 5) (gsCons (gN 6) (gsCons (gN 7) (gsNil))))) b1_law_is_way (ss.map rowD) [a0,a1,a2,a3,some (.own (.dic (acc.map endD))),x5,x6,x7,a8,a9]
   = .ok (.nx [a0,a1,a2,a3,some (.own (.dic ((acc++ss).map endD))),y5,y6,y7,a8,a9])
 |[],acc,x5,x6,x7,_,_=>⟨x5,x6,x7,by rw[List.append_nil];rfl⟩
 |r::ss,acc,x5,x6,x7,hn,hl=>by
  simp only[List.length_cons]at hl
  obtain⟨y5,y6,y7,e⟩:=en_loop (a0:=a0) (a1:=a1) (a2:=a2) (a3:=a3) (a8:=a8) (a9:=a9) ss (acc++[r]) (some (.val (.int r.1))) (some (.val (.int r.2.1))) (some (.val (.int r.2.2))) (by rw[List.append_assoc];exact hn) (by simp;omega)
  refine⟨y5,y6,y7,?_⟩
  have hk:(Sum.inl r.1:Key)∉(acc.map endD).map (·.1):=by
   rw[end_keys]
   intro z
   obtain⟨x,hx,hxe⟩:=List.mem_map.mp z
   have hxe':x.1=r.1:=by simpa using hxe
   rw[List.map_append,List.map_cons]at hn
   exact(List.nodup_append.mp hn).2.2 x.1 (List.mem_map.mpr ⟨x,hx,rfl⟩) r.1 List.mem_cons_self hxe'
  have l1:(acc.map endD).length<lim:=by rw[List.length_map];unfold lim;omega
  have l2:(2:Nat)<=lim:=by decide
  have hb:b1_law_is_way [a0,a1,a2,a3,some (.own (.dic (acc.map endD))),some (.val (.int r.1)),some (.val (.int r.2.1)),some (.val (.int r.2.2)),a8,a9]
    = .ok (.nx [a0,a1,a2,a3,some (.own (.dic ((acc++[r]).map endD))),some (.val (.int r.1)),some (.val (.int r.2.1)),some (.val (.int r.2.2)),a8,a9]):=by
   have hp:=dPut_new (v:= .tup [.int r.2.1, .int r.2.2]) hk
   simp! [b1_law_is_way,gPut,keyOf,l1,l2,hp,List.map_append,List.map_cons,List.map_nil,endD]
  rw[List.map_cons,loop_nx rfl hb,e,List.append_assoc]
  rfl
theorem in_pm {d:Int} (h:d=1\/d= -1):dInA true (.int d) (.tup [.int 1, .int (-1)])=some (.bl false):=by
 have:=dNotIn_t (x:=d) (xs:=[1,-1])
 rw[show ([1,-1]:List Int).map D.int=[.int 1, .int (-1)]from rfl]at this
 rw[this]
 rcases h with rfl|rfl<;>rfl
theorem iw_step {a0 a1 a2 a3 x5 x6 x7:Option Slot} {ss:List Row} {ps:List Int} {u n d q:Int} (hn:(ss.map (·.1)).Nodup) (hs:Stp ss u n d q) (hq:q∉ps) (hu:∃r,ps=r++[u]) (hl:ps.length<=100):
  ∃y6 y7,b2_law_is_way [a0,a1,a2,a3,some (.own (.dic (ss.map endD))),x5,x6,x7,some (.own (.lst (ps.map .int))),some (.val (stD (n,d)))]
   = .ok (.nx [a0,a1,a2,a3,some (.own (.dic (ss.map endD))),x5,y6,y7,some (.own (.lst ((ps++[q]).map .int))),some (.val (stD (n,d)))]):=by
 obtain⟨r,hr,hrn,hd⟩:=hs
 have hg:dGet (ss.map endD) (Sum.inl n)=some (.tup [.int r.2.1, .int r.2.2]):=dGet_mem (end_nd hn) (List.mem_map.mpr ⟨r,hr,by rw[<-hrn];rfl⟩)
 have hin:dInA true (.int n) (.dic (ss.map endD))=some (.bl false):=by
  show some (D.bl (if true then !(dGet (ss.map endD) (Sum.inl n)).isSome else (dGet (ss.map endD) (Sum.inl n)).isSome))=_
  rw[hg];rfl
 have hix:dIx (.dic (ss.map endD)) (.int n)=some (.tup [.int r.2.1, .int r.2.2]):=by
  show dGet (ss.map endD) (Sum.inl n)=_
  exact hg
 have hd1:d=1\/d= -1:=by rcases hd with h|h<;>simp[h.1]
 have h0:L2.atI [D.int n,D.int d] 0=some (.int n):=atI_nat (j:=0) rfl
 have h1:L2.atI [D.int n,D.int d] 1=some (.int d):=atI_nat (j:=1) rfl
 have l2:(2:Nat)<=lim:=by decide
 have hlast:L2.atI (ps.map D.int) (-1)=some (.int u):=by
  obtain⟨r,rfl⟩:=hu
  rw[List.map_append]
  exact atI_last _ _
 have l1:(ps.map D.int).length<lim:=by rw[List.length_map];unfold lim;omega
 have e1:gIf (gOr (gNot (fTru (fIsi "tuple" (fBor 9)))) (gOr (fT (f2 dNe (f1s cLen (fCons (fBor 9) (fNil))) (fC (.int 2)))) (gOr (gNot (fTru (fCall m_law_whole 1 (fCons (f2 dIx (fBor 9) (fC (.int 0))) (fNil))))) (gNot (fTru (fCall m_law_whole 1 (fCons (f2 dIx (fBor 9) (fC (.int 1))) (fNil))))))))
   (gRet (fC (.bl false))) (gNext) [a0,a1,a2,a3,some (.own (.dic (ss.map endD))),x5,x6,x7,some (.own (.lst (ps.map .int))),some (.val (stD (n,d)))]
   = .ok (.nx [a0,a1,a2,a3,some (.own (.dic (ss.map endD))),x5,x6,x7,some (.own (.lst (ps.map .int))),some (.val (stD (n,d)))]):=rfl
 have e2:gIf (gOr (fT (f2 (dInA true) (f2 dIx (fBor 9) (fC (.int 0))) (fBor 4))) (fT (f2 (dInA true) (f2 dIx (fBor 9) (fC (.int 1))) (fTup (fCons (fC (.int 1)) (fCons (f1 dNeg (fC (.int 1))) (fNil)))))))
   (gRet (fC (.bl false))) (gNext) [a0,a1,a2,a3,some (.own (.dic (ss.map endD))),x5,x6,x7,some (.own (.lst (ps.map .int))),some (.val (stD (n,d)))]
   = .ok (.nx [a0,a1,a2,a3,some (.own (.dic (ss.map endD))),x5,x6,x7,some (.own (.lst (ps.map .int))),some (.val (stD (n,d)))]):=by
  simp! [stD,h0,h1,hin,l2,in_pm hd1]
 have e3:gAsg (f2 dIx (fBor 4) (f2 dIx (fBor 9) (fC (.int 0)))) (gTupT 2 (gsCons (gN 6) (gsCons (gN 7) (gsNil)))) [a0,a1,a2,a3,some (.own (.dic (ss.map endD))),x5,x6,x7,some (.own (.lst (ps.map .int))),some (.val (stD (n,d)))]
   = .ok (.nx [a0,a1,a2,a3,some (.own (.dic (ss.map endD))),x5,some (.val (.int r.2.1)),some (.val (.int r.2.2)),some (.own (.lst (ps.map .int))),some (.val (stD (n,d)))]):=by
  simp! [stD,h0,hix,gTupT,gsCons,gsNil]
 have e4:∀s t:Int,(d=1/\s=r.2.1/\t=r.2.2)\/(d= -1/\s=r.2.2/\t=r.2.1)->gIf (fT (f2 dEq (f2 dIx (fBor 9) (fC (.int 1))) (f1 dNeg (fC (.int 1))))) (gPar 6 7 (fCons (fVar 7) (fCons (fVar 6) (fNil)))) (gNext) [a0,a1,a2,a3,some (.own (.dic (ss.map endD))),x5,some (.val (.int r.2.1)),some (.val (.int r.2.2)),some (.own (.lst (ps.map .int))),some (.val (stD (n,d)))]
   = .ok (.nx [a0,a1,a2,a3,some (.own (.dic (ss.map endD))),x5,some (.val (.int s)),some (.val (.int t)),some (.own (.lst (ps.map .int))),some (.val (stD (n,d)))]):=by
  rintro s t (⟨rfl,rfl,rfl⟩|⟨rfl,rfl,rfl⟩)
  ·rfl
  ·rfl
 have hqm:decide (q∈ps)=false:=by simp[hq]
 have e5:gSeq (gIf (gOr (fT (f2 dNe (fBor 6) (f2 dIx (fBor 8) (f1 dNeg (fC (.int 1)))))) (fT (f2 (dInA false) (fBor 7) (fBor 8)))) (gRet (fC (.bl false))) (gNext)) (gApp 8 (fVar 7)) [a0,a1,a2,a3,some (.own (.dic (ss.map endD))),x5,some (.val (.int u)),some (.val (.int q)),some (.own (.lst (ps.map .int))),some (.val (stD (n,d)))]
   = .ok (.nx [a0,a1,a2,a3,some (.own (.dic (ss.map endD))),x5,some (.val (.int u)),some (.val (.int q)),some (.own (.lst ((ps++[q]).map .int))),some (.val (stD (n,d)))]):=by
  simp! [hlast,dIn_l,hqm,l1,List.map_append,List.map_cons,List.map_nil]
 refine⟨some (.val (.int u)),some (.val (.int q)),?_⟩
 have e4':=e4 u q (hd.imp (fun h=>⟨h.1,h.2.1.symm,h.2.2.symm⟩) fun h=>⟨h.1,h.2.1.symm,h.2.2.symm⟩)
 unfold b2_law_is_way
 rw[seq_nx e1,seq_nx e2,seq_nx e3,seq_nx e4',e5]
theorem iw_loop {a0 a1 a2 a3 x5:Option Slot} {ss:List Row} (hn:(ss.map (·.1)).Nodup) {u v:Int} {ps qs:List Int} {st:List (Int×Int)} (h:Wy ss u ps st v qs):∀(x6 x7 x9:Option Slot),(∃r,ps=r++[u])->ps.length+st.length<=100->
  ∃y6 y7 y9,loopF (gN 9) b2_law_is_way (st.map stD) [a0,a1,a2,a3,some (.own (.dic (ss.map endD))),x5,x6,x7,some (.own (.lst (ps.map .int))),x9]
   = .ok (.nx [a0,a1,a2,a3,some (.own (.dic (ss.map endD))),x5,y6,y7,some (.own (.lst (qs.map .int))),y9])/\∃r,qs=r++[v]:=by
 induction h with
 |nil=>exact fun x6 x7 x9 hu _=>⟨x6,x7,x9,rfl,hu⟩
 | @cons u n d q v ps qs st hs hq _ ih=>
  intro x6 x7 x9 hu hl
  simp only[List.length_cons]at hl
  obtain⟨z6,z7,es⟩:=iw_step (a0:=a0) (a1:=a1) (a2:=a2) (a3:=a3) (x5:=x5) (x6:=x6) (x7:=x7) hn hs hq hu (by omega)
  obtain⟨y6,y7,y9,e,h⟩:=ih z6 z7 (some (.val (stD (n,d)))) ⟨ps,rfl⟩ (by simp;omega)
  exact⟨y6,y7,y9,by rw[List.map_cons,loop_nx rfl es,e],h⟩
theorem way_spec {ss:List Row} (hn:(ss.map (·.1)).Nodup) (hl:ss.length<=50) {u v:Int} {qs:List Int} {st:List (Int×Int)} (h:Wy ss u [u] st v qs) (hst:st.length<=50):
  m_law_is_way [.lst (ss.map rowD), .tup (st.map stD), .int u, .int v]= .ok (.bl true):=by
 obtain⟨y5,y6,y7,e⟩:=en_loop (a0:=some (.val (.lst (ss.map rowD)))) (a1:=some (.val (.tup (st.map stD)))) (a2:=some (.val (.int u))) (a3:=some (.val (.int v))) (a8:=none) (a9:=none) ss [] none none none (by simpa using hn) (by simp;omega)
 obtain⟨z6,z7,z9,e2,r,hr⟩:=iw_loop (a0:=some (.val (.lst (ss.map rowD)))) (a1:=some (.val (.tup (st.map stD)))) (a2:=some (.val (.int u))) (a3:=some (.val (.int v))) (x5:=y5) hn h y6 y7 none ⟨[],rfl⟩ (by simp;omega)
 rw[List.nil_append]at e
 have hlast:L2.atI (qs.map D.int) (-1)=some (.int v):=by
  rw[hr,List.map_append]
  exact atI_last _ _
 have l1:(1:Nat)<=lim:=by decide
 refine run_ret rfl ?_
 show g_law_is_way [some (.val (.lst (ss.map rowD))),some (.val (.tup (st.map stD))),some (.val (.int u)),some (.val (.int v)),none,none,none,none,none,none]=_
 unfold g_law_is_way
 rw[seq_nx (ρ':=[some (.val (.lst (ss.map rowD))),some (.val (.tup (st.map stD))),some (.val (.int u)),some (.val (.int v)),none,none,none,none,none,none]) (by simp! [fIsi,isi_tt]),
  seq_nx (ρ':=[some (.val (.lst (ss.map rowD))),some (.val (.tup (st.map stD))),some (.val (.int u)),some (.val (.int v)),some (.own (.dic (([]:List Row).map endD))),none,none,none,none,none]) rfl,
  seq_nx ((for_of (ds:=ss.map rowD) rfl).trans e),
  seq_nx (ρ':=[some (.val (.lst (ss.map rowD))),some (.val (.tup (st.map stD))),some (.val (.int u)),some (.val (.int v)),some (.own (.dic (ss.map endD))),y5,y6,y7,some (.own (.lst ([u].map .int))),none]) (by simp! [l1,List.map_cons,List.map_nil]),
  seq_nx ((for_of (ds:=st.map stD) rfl).trans e2)]
 simp! [hlast]
section
variable {n:Nat} {ss:List Row} {rs':List Int} {rd:List (Int×Int)}
theorem oth_own {ρ:Rho} {i:Nat} {N:List Str} {r:Row} (c:Case n ss rs' rd) {f:Rho->R D} (hf:f ρ= .ok (.lst ((looseOf ss rd).map rowD))) (hin:inRho N [(".0", .local),("_law_one", .local),("_law_stream", .free)] ρ=[none,none,some (.val (rowD r))]):
  gOwn i (fComp N [(".0", .local),("_law_one", .local),("_law_stream", .free)] (fSeq f) (gN 1) (fT (f2 dNe (f2 dIx (fBor 1) (fC (.int 0))) (f2 dIx (fBor 2) (fC (.int 0))))) (fVar 1)) ρ= .ok (.nx (ρ.set i (some (.own (.lst ((othersOf ss rd r.1).map rowD)))))):=by
 have hlo:(looseOf ss rd).length<=12:=Nat.le_trans (List.length_filter_le _ _) c.len
 exact own_of (comp_of (ds:=(looseOf ss rd).map rowD) (by unfold fSeq;rw[hf];rfl) (by simp[lim];omega) hin (comp_by (e:=rowD) (p:=fun q:Row=>decide (q.1≠r.1)) (looseOf ss rd) (fun q _=>by simp! [rowD,atI_0,ne_eq,decide_not]) (fun q _ _=>rfl) _))
end
section
variable {n:Nat} {ss:List Row} {rs:List Int} {rd:List (Int×Int)}
theorem ring_in (c:Case n ss rs rd) {r:Row} (hr:r∈ss):
  ((r.1∈rd.map (·.1)\/¬Tie (othersOf ss rd r.1) r.2.1 r.2.2)/\m_ring_of [dayD n ss rs rd, .int r.1]= .ok (.tup []))\/
  (r.1∉rd.map (·.1)/\Tie (othersOf ss rd r.1) r.2.1 r.2.2/\∃st qs,m_ring_of [dayD n ss rs rd, .int r.1]= .ok (.tup (((r.1,1)::st).map stD))/\Wy (othersOf ss rd r.1) r.2.2 [r.2.2] st r.2.1 qs/\st.length<=7):=by
 have hm:=metered_in c hr
 have l0:(0:Nat)<=lim:=by decide
 have l1:(1:Nat)<=lim:=by decide
 have l2:(2:Nat)<=lim:=by decide
 have tru:∀{b:Bool},m_Day_metered [dayD n ss rs rd, .int r.1]= .ok (.bl b)->fTru (fMeth "Day" "metered" 2 m_Day_metered (fVar 0) (fCons (fVar 1) (fNil))) [some (.val (dayD n ss rs rd)),some (.val (.int r.1)),none,none]= .ok b:=fun h=>by
  unfold fTru
  rw[meth1 (m:="metered") rfl rfl h];rfl
 by_cases h:r.1∈rd.map (·.1)
 ·rw[decide_eq_true h]at hm
  exact .inl ⟨.inl h,run_ret rfl (seq_ret ((ifT (tru hm)).trans rfl))⟩
 ·rw[decide_eq_false h]at hm
  have ho:=others_spec c r.1
  have hp:=path_spec (sd:= .tup ((othersOf ss rd r.1).map rowD)) (p:=r.2.2) (q:=r.2.1) (.inr rfl) (by have:=c.olen r.1;omega) (c.others r.1) c.n7 (c.good.tgt r hr)
  have start:∀z d:D,m_path_of [.tup ((othersOf ss rd r.1).map rowD), .int r.2.2, .int r.2.1]= .ok z->(gSeq (gIf (fT (f2 dIsN (fBor 3) (fC .non))) (gRet (fTup (fNil))) (gNext)) (gRet (f2 dAdd (fTup (fCons (fTup (fCons (fVar 1) (fCons (fC (.int 1)) (fNil)))) (fNil))) (fBor 3)))) [some (.val (dayD n ss rs rd)),some (.val (.int r.1)),some (.val (rowD r)),some (.val z)]= .ok (.ret d)->m_ring_of [dayD n ss rs rd, .int r.1]= .ok d:=fun z d hz hd=>by
   unfold othersOf at hz
   refine run_ret rfl (Eq.trans (seq_nx (ifF (tru hm))) (Eq.trans (seq_nx (asgN (meth1 (m:="stream") rfl rfl (stream_in c hr)))) (Eq.trans (seq_nx (asgN (fCall_ok (cons_of (fCall_ok rfl rfl ho) (cons_of (f2_of rfl rfl row2) (cons_of (f2_of (d:= .int r.2.1) rfl rfl rfl) rfl))) rfl hz))) hd)))
  rcases hp with ⟨ht,hp⟩|⟨ht,st,qs,hp,hw,hst⟩
  ·exact .inl ⟨.inr fun z=>ht z.symm,start _ _ hp rfl⟩
  ·refine .inr ⟨h,ht.symm,st,qs,start _ _ hp ?_,hw,hst⟩
   have ha:=dAdd_t (a:=[.tup [.int r.1, .int 1]]) (b:=st.map stD) (by simp[lim];omega)
   simp! [dIsN,l1,l2,ha,List.map_cons,stD,List.cons_append]
theorem ring_out {k:Int} (hk:∀r∈ss,r.1≠k):∃ρ,m_ring_of [dayD n ss rs rd, .int k]= .err "UnknownStream" ρ:=by
 obtain⟨ρ,e⟩:=metered_out (n:=n) (rs:=rs) (rd:=rd) hk
 refine⟨[some (.val (dayD n ss rs rd)),some (.val (.int k)),none,none],run_err rfl (seq_err ?_)⟩
 have e2:=meth1_err (m:="metered") (r:=m_Day_metered) (fo:=fVar 0) (f:=fVar 1) (ρ:=[some (.val (dayD n ss rs rd)),some (.val (.int k)),none,none]) rfl rfl e
 show gIf _ _ _ [some (.val (dayD n ss rs rd)),some (.val (.int k)),none,none]=_
 unfold gIf fTru
 rw[e2]
 rfl
end
section
variable {n:Nat} {ss:List Row} {rs:List Int} {rd:List (Int×Int)}
theorem isring_spec (c:Case n ss rs rd) {r:Row} (hr:r∈ss) {st:List (Int×Int)} {qs:List Int} (hw:Wy (othersOf ss rd r.1) r.2.2 [r.2.2] st r.2.1 qs) (hst:st.length<=7):
  m_law_is_ring [caseD n ss rs rd,rowD r, .tup (((r.1,1)::st).map stD)]= .ok (.bl true):=by
 have l1:=c.len
 have l2:=c.ten
 have l3:(2:Nat)<=lim:=by decide
 have hs:m_law_same [stD (r.1,1), .tup [.int r.1, .int 1]]= .ok (.bl true):=same_ints [r.1,1] (by simp)
 have hlo:=loose_spec (n:=n) (ss:=ss) (rs:=rs) (rd:=rd) (by omega) (by omega)
 refine run_ret rfl ?_
 show g_law_is_ring [some (.val (caseD n ss rs rd)),some (.val (rowD r)),some (.val (.tup (((r.1,1)::st).map stD))),none]=_
 unfold g_law_is_ring
 have e1:decide ((((st.map stD).length+1:Nat):Int)=0)=false:=by simp;omega
 rw[seq_nx (ρ':=[some (.val (caseD n ss rs rd)),some (.val (rowD r)),some (.val (.tup (((r.1,1)::st).map stD))),none]) (by simp! [fIsi,isi_tt,List.map_cons,atI_0,rowD,l3,hs,e1])]
 rw[seq_nx (oth_own (i:=3) (r:=r) c (f:=fCall m_law_loose 1 (fCons (fVar 0) (fNil))) (ρ:=[some (.val (caseD n ss rs rd)),some (.val (rowD r)),some (.val (.tup (((r.1,1)::st).map stD))),none]) (by simp! [hlo]) rfl)]
 have hsl:dSl (.tup (((r.1,1)::st).map stD)) (some 1) none=some (.tup (st.map stD)):=sl_from (ds:=((r.1,1)::st).map stD) (k:=1) (by simp)
 have hw':=way_spec (c.ond r.1) (by have:=c.olen r.1;omega) hw (by omega)
 simp! [fSl,oSome,oNone,hsl,rowD,atI_1,row2,hw']
end
section
variable {ss:List Row}
noncomputable def freeN (ss:List Row):List Int:=((List.range 66).map fun k:Nat=> -2+(k:Int)).filter fun k=>decide (k∉ss.map (·.1))
theorem freeN_len (h:ss.length<=12):0<(freeN ss).length/\(freeN ss).length<=66:=by
 refine⟨?_,Nat.le_trans (List.length_filter_le _ _) (by simp)⟩
 rcases Nat.eq_zero_or_pos (freeN ss).length with z|z
 ·exfalso
  have hall:∀k∈(List.range 66).map fun k:Nat=> -2+(k:Int),k∈ss.map (·.1):=fun k hk=>by
   rcases Classical.em (k∈ss.map (·.1))with q|q
   ·exact q
   ·have:k∈freeN ss:=List.mem_filter.mpr ⟨hk,by simpa using q⟩
    rw[List.length_eq_zero_iff.mp z]at this
    cases this
  have hnd:((List.range 66).map fun k:Nat=> -2+(k:Int)).Nodup:=by
   unfold List.Nodup
   rw[List.pairwise_map]
   exact(List.nodup_range (n:=66)).imp fun {a b} hab=>by omega
  have:=L2.Pu.nodup_sub_len hnd hall
  simp at this
  omega
 ·exact z
theorem freeN_mem {k:Int} (h:k∈freeN ss):∀r∈ss,r.1≠k:=fun r hr z=>by
 have:=(List.mem_filter.mp h).2
 simp only[decide_eq_true_eq]at this
 exact this (List.mem_map.mpr ⟨r,hr,z⟩)
end
theorem cell49 (ns:List Int):m_law_cell [.scr ns, .int 49]= .ok (.int (cl ns 49)):=cell_spec ns 49
theorem free_own {n:Nat} {ss:List Row} {rs:List Int} {rd:List (Int×Int)} {ρ:Rho} {i:Nat} {N:List Str} (l1:ss.length<=12) (hin:inRho N [(".0", .local),("_law_number", .local),("_law_case_here", .free)] ρ=[none,none,some (.val (caseD n ss rs rd))]):
  gOwn i (fComp N [(".0", .local),("_law_number", .local),("_law_case_here", .free)] (fRange2 (fCons (f1 dNeg (fC (.int 2))) (fCons (fC (.int 64)) (fNil)))) (gN 1) (fT (f2 (dInA true) (fBor 1) (fL (fComp [".0","_law_number","_law_case_here"] [(".0", .local),("_law_stream", .local)] (fSeq (f2 dIx (fBor 2) (fC (.int 1)))) (gN 1) (gYes) (f2 dIx (fBor 1) (fC (.int 0))))))) (fVar 1)) ρ
   = .ok (.nx (ρ.set i (some (.own (.lst ((freeN ss).map .int)))))):=by
 have e2:(fRange2 (fCons (f1 dNeg (fC (.int 2))) (fCons (fC (.int 64)) (fNil)))) ρ= .ok (((List.range 66).map fun k:Nat=> -2+(k:Int)).map .int):=by
  unfold fRange2
  simp! []
  rw[if_pos (by decide)]
  unfold rangeD
  rw[List.map_map]
  rfl
 exact own_of (comp_of (τ:=[none,none,some (.val (caseD n ss rs rd))]) e2 (by simp[lim]) hin (comp_by (f:=D.int) (e:=D.int) (p:=fun k:Int=>decide (k∉ss.map (·.1))) _ (fun k _=>by
   have h1:=L_of (comp_of (N:=[".0","_law_number","_law_case_here"]) (names:=[(".0", .local),("_law_stream", .local)]) (fi:=fSeq (f2 dIx (fBor 2) (fC (.int 1)))) (g:=gN 1) (gt:=gYes) (fe:=f2 dIx (fBor 1) (fC (.int 0))) (ρ:=[none,some (.val (.int k)),some (.val (caseD n ss rs rd))]) (ds:=ss.map rowD) (τ:=[none,none]) (by simp! [caseD,atI_1]) (by simp[lim];omega) rfl (comp_by (e:=fun r:Row=>D.int r.1) (p:=fun _=>true) ss (fun _ _=>rfl) (fun r _ _=>by simp! [rowD,atI_0]) _))
   have h2:(ss.filter fun _=>true).map (fun r:Row=>D.int r.1)=(ss.map (·.1)).map .int:=by rw[List.filter_eq_self.mpr (fun _ _=>rfl),List.map_map];rfl
   rw[h2]at h1
   simp only[fT,f2,fBor,List.getElem?_cons_zero,List.getElem?_cons_succ,data_val,ok_bind,h1,dNotIn_l,of_some,decide_not]) (fun _ _ _=>rfl) _))
theorem free_ix {ss:List Row} (l1:ss.length<=12) (x:Int):∃(j:Nat),x%((freeN ss).length:Int)=(j:Int)/\∃h:j<(freeN ss).length,L2.atI ((freeN ss).map D.int) (j:Int)=some (.int (freeN ss)[j]):=by
 obtain⟨f1,_⟩:=freeN_len (ss:=ss) l1
 have b1:=Int.emod_nonneg x (show ((freeN ss).length:Int)≠0 by omega)
 have b2:=Int.emod_lt_of_pos x (show (0:Int)<((freeN ss).length:Int) by omega)
 refine⟨(x%((freeN ss).length:Int)).toNat,by omega,by omega,?_⟩
 rw[atI_lt (by rw[List.length_map];omega)];simp
section
variable {n:Nat} {ss:List Row} {rs:List Int} {rd:List (Int×Int)}
theorem refused_spec {k:Int} (hk:∀r∈ss,r.1≠k):m_law_refused [dayD n ss rs rd, .int k]= .ok (.bl true):=by
 obtain⟨ρ,e⟩:=ring_out (n:=n) (rs:=rs) (rd:=rd) hk
 refine run_ret rfl ?_
 show g_law_refused [some (.val (dayD n ss rs rd)),some (.val (.int k)),none]=_
 unfold g_law_refused
 refine seq_ret ?_
 have e2:gExpr (fCall m_ring_of 2 (fCons (fVar 0) (fCons (fVar 1) (fNil)))) [some (.val (dayD n ss rs rd)),some (.val (.int k)),none]= .err "UnknownStream" [some (.val (dayD n ss rs rd)),some (.val (.int k)),none]:=by
  unfold gExpr fCall
  simp only[fCons,fNil,fVar,ok_bind,List.getElem?_cons_zero,List.getElem?_cons_succ,List.length_cons,List.length_nil,e,if_true]
  rfl
 unfold gTry
 rw[e2]
 rfl
theorem len_filter {p:Row->Bool}:∀{l:List Row},(l.filter p).length=l.length->∀x∈l,p x=true
 |[],_=>by simp
 |a::l,h=>by
  have h1:=List.length_filter_le p l
  by_cases hp:p a=true
  ·rw[List.filter_cons_of_pos hp,List.length_cons,List.length_cons]at h
   intro x hx
   rcases List.mem_cons.mp hx with rfl|hx
   ·exact hp
   ·exact len_filter (by omega) x hx
  ·rw[List.filter_cons_of_neg hp,List.length_cons]at h
   omega
theorem law_step (c:Case n ss rs rd) {r:Row} (hr:r∈ss) {a0 x5 x6:Option Slot}:∃y5 y6,b1_law [a0,some (.val (caseD n ss rs rd)),some (.val (dayD n ss rs rd)),some (.val (.lst ((looseOf ss rd).map rowD))),some (.val (rowD r)),x5,x6]
  = .ok (.nx [a0,some (.val (caseD n ss rs rd)),some (.val (dayD n ss rs rd)),some (.val (.lst ((looseOf ss rd).map rowD))),some (.val (rowD r)),y5,y6]):=by
 have hlo:(looseOf ss rd).length<=12:=Nat.le_trans (List.length_filter_le _ _) c.len
 have l0:(0:Nat)<=lim:=by decide
 obtain⟨seen,hf,_,hm⟩:=flood_spec (ss:=othersOf ss rd r.1) (sd:= .lst ((othersOf ss rd r.1).map rowD)) (p:=r.2.1) (.inl rfl) (c.others r.1) c.n7 (c.good.src r hr)
 have hin:dInA true (.int r.2.2) (.lst (seen.map .int))=some (.bl (!decide (r.2.2∈seen))):=dNotIn_l
 have hs0:m_law_same [.tup [], .tup []]= .ok (.bl true):=same_ints [] (by simp)
 have eo:∀f:D,gOwn 6 (fComp ["_law_script","_law_case_here","_law_day_here","_law_loose_here","_law_stream","_law_found","_law_others"] [(".0", .local),("_law_one", .local),("_law_stream", .free)] (fSeq (fVar 3)) (gN 1) (fT (f2 dNe (f2 dIx (fBor 1) (fC (.int 0))) (f2 dIx (fBor 2) (fC (.int 0))))) (fVar 1)) [a0,some (.val (caseD n ss rs rd)),some (.val (dayD n ss rs rd)),some (.val (.lst ((looseOf ss rd).map rowD))),some (.val (rowD r)),some (.val f),x6]
   = .ok (.nx [a0,some (.val (caseD n ss rs rd)),some (.val (dayD n ss rs rd)),some (.val (.lst ((looseOf ss rd).map rowD))),some (.val (rowD r)),some (.val f),some (.own (.lst ((othersOf ss rd r.1).map rowD)))]):=fun f=>
  oth_own (i:=6) (r:=r) c rfl rfl
 have ec:∀f:D,m_ring_of [dayD n ss rs rd, .int r.1]= .ok f->gAsg (fCall m_ring_of 2 (fCons (fVar 2) (fCons (f2 dIx (fBor 4) (fC (.int 0))) (fNil)))) (gN 5) [a0,some (.val (caseD n ss rs rd)),some (.val (dayD n ss rs rd)),some (.val (.lst ((looseOf ss rd).map rowD))),some (.val (rowD r)),x5,x6]
   = .ok (.nx [a0,some (.val (caseD n ss rs rd)),some (.val (dayD n ss rs rd)),some (.val (.lst ((looseOf ss rd).map rowD))),some (.val (rowD r)),some (.val f),x6]):=fun f hf=>by simp! [rowD,atI_0,hf]
 have elen:r.1∈rd.map (·.1)->(othersOf ss rd r.1).length=(looseOf ss rd).length:=fun h=>by
  unfold othersOf
  rw[List.filter_eq_self.mpr]
  intro q hq
  have hq2:=(List.mem_filter.mp hq).2
  simp only[decide_eq_true_eq]at hq2 ⊢
  intro z
  rw[z]at hq2
  exact hq2 h
 have elen2:r.1∉rd.map (·.1)->(othersOf ss rd r.1).length≠(looseOf ss rd).length:=fun h z=>by
  have:=len_filter z r (List.mem_filter.mpr ⟨hr,by simpa using h⟩)
  simp at this
 unfold b1_law
 rcases ring_in c hr with ⟨h,e⟩|⟨h1,h2,st,qs,e,hw,hst⟩
 ·refine⟨some (.val (.tup [])),some (.val (.lst ((othersOf ss rd r.1).map rowD))),Eq.trans (seq_nx (ec _ e)) (Eq.trans (seq_nx (eo _)) ?_)⟩
  by_cases hl:(othersOf ss rd r.1).length=(looseOf ss rd).length
  ·simp! [List.length_map,hl,l0,hs0]
  ·have ht:¬Tie (othersOf ss rd r.1) r.2.1 r.2.2:=h.resolve_left fun z=>hl (elen z)
   have hz:decide (r.2.2∈seen)=false:=by simp[hm,ht]
   have hl':decide (((othersOf ss rd r.1).length:Int)=((looseOf ss rd).length:Int))=false:=by simpa using fun z=>hl (by omega)
   simp! [List.length_map,hl',rowD,atI_1,row2,hf,hin,hz,l0,hs0]
 ·refine⟨some (.val (.tup (((r.1,1)::st).map stD))),some (.val (.lst ((othersOf ss rd r.1).map rowD))),Eq.trans (seq_nx (ec _ e)) (Eq.trans (seq_nx (eo _)) ?_)⟩
  have hz:decide (r.2.2∈seen)=true:=by simp[hm,h2]
  have hl':decide (((othersOf ss rd r.1).length:Int)=((looseOf ss rd).length:Int))=false:=by simpa using fun z=>elen2 h1 (by omega)
  have hr':=isring_spec c hr hw hst
  have hg:gOr (fT (f2 dEq (f1s cLen (fCons (fBor 6) (fNil))) (f1s cLen (fCons (fBor 3) (fNil))))) (fT (f2 (dInA true) (f2 dIx (fBor 4) (fC (.int 2))) (fCall m_law_flood 2 (fCons (fVar 6) (fCons (f2 dIx (fBor 4) (fC (.int 1))) (fNil)))))) [a0,some (.val (caseD n ss rs rd)),some (.val (dayD n ss rs rd)),some (.val (.lst ((looseOf ss rd).map rowD))),some (.val (rowD r)),some (.val (.tup (((r.1,1)::st).map stD))),some (.val (.lst ((othersOf ss rd r.1).map rowD)))]= .ok false:=by
   simp! [List.length_map,hl',rowD,atI_1,row2,hf,hin,hz]
  have hg2:gNot (fTru (fCall m_law_is_ring 3 (fCons (fVar 1) (fCons (fVar 4) (fCons (fVar 5) (fNil)))))) [a0,some (.val (caseD n ss rs rd)),some (.val (dayD n ss rs rd)),some (.val (.lst ((looseOf ss rd).map rowD))),some (.val (rowD r)),some (.val (.tup (((r.1,1)::st).map stD))),some (.val (.lst ((othersOf ss rd r.1).map rowD)))]= .ok false:=by
   simp! [hr']
  show gFrz _ _ _=_
  simp only[gFrz,frz,frz1,List.foldl,List.getElem?_cons_zero,List.getElem?_cons_succ,List.set_cons_zero,List.set_cons_succ]
  unfold gIf
  rw[hg]
  simp only[ok_bind,Bool.false_eq_true,if_false]
  rw[hg2]
  simp only[ok_bind,Bool.false_eq_true,if_false]
  rfl
end
theorem main (ns:List Int) (_:ns.length<=63):m_law [.scr ns]= .ok (.bl true):=by
 obtain⟨n,ss,rs,rd,ec,c⟩:=case_made ns
 have l1:=c.len
 have l2:=c.ten
 have hd:=day_spec ns c
 have hlo:=loose_spec (n:=n) (ss:=ss) (rs:=rs) (rd:=rd) (by omega) (by omega)
 have hk:=kept_spec c
 refine run_ret rfl ?_
 show g_law [some (.val (.scr ns)),none,none,none,none,none,none]=_
 unfold g_law
 rw[seq_nx (ρ':=[some (.val (.scr ns)),some (.val (caseD n ss rs rd)),none,none,none,none,none]) (by simp! [ec]),
  seq_nx (ρ':=[some (.val (.scr ns)),some (.val (caseD n ss rs rd)),some (.val (dayD n ss rs rd)),none,none,none,none]) (by simp! [hd]),
  seq_nx (ρ':=[some (.val (.scr ns)),some (.val (caseD n ss rs rd)),some (.val (dayD n ss rs rd)),some (.val (.lst ((looseOf ss rd).map rowD))),none,none,none]) (by simp! [hlo])]
 obtain⟨ρ',el,y4,y5,y6,rfl⟩:=loop_all (g:=gN 4) (gb:=b1_law) (P:=fun ρ=>∃y4 y5 y6,ρ=[some (.val (.scr ns)),some (.val (caseD n ss rs rd)),some (.val (dayD n ss rs rd)),some (.val (.lst ((looseOf ss rd).map rowD))),y4,y5,y6]) (ss.map rowD) (fun d hd ρ hρ=>by
  obtain⟨r,hr,rfl⟩:=List.mem_map.mp hd
  obtain⟨y4,y5,y6,rfl⟩:=hρ
  obtain⟨z5,z6,e⟩:=law_step c hr (a0:=some (.val (.scr ns))) (x5:=y5) (x6:=y6)
  exact⟨_,_,rfl,e,_,_,_,rfl⟩) _ ⟨none,none,none,rfl⟩
 rw[seq_nx ((for_of (ds:=ss.map rowD) (by simp! [caseD,atI_1])).trans el)]
 rw[seq_nx (free_own l1 (i:=6) (N:=["_law_script","_law_case_here","_law_day_here","_law_loose_here","_law_stream","_law_found","_law_others"]) rfl)]
 obtain⟨j,hj,hjl,hix⟩:=free_ix (ss:=ss) l1 (cl ns 49)
 obtain⟨f1,f2'⟩:=freeN_len (ss:=ss) l1
 have hp:(0:Int)<((freeN ss).length:Int):=by omega
 have hrf:=refused_spec (n:=n) (rs:=rs) (rd:=rd) (freeN_mem (ss:=ss) (List.getElem_mem hjl))
 rw[seq_nx (ρ':=[some (.val (.scr ns)),some (.val (caseD n ss rs rd)),some (.val (dayD n ss rs rd)),some (.val (.lst ((looseOf ss rd).map rowD))),y4,y5,some (.own (.lst ((freeN ss).map .int)))]) (by simp! [cell49,List.length_map,dMod_pos hp,hj,hix,hrf])]
 simp! [hk]
end My
namespace PySem.W.Fast
theorem tw1010254195292237540:True:=.intro
theorem tw10118690264488373487:True:=.intro
theorem tw10400691351111482573:True:=.intro
theorem tw1050951524991026209:True:=.intro
theorem tw10870331327429403930:True:=.intro
theorem tw10900405657702342709:True:=.intro
theorem tw1094956118435302372:True:=.intro
theorem tw10967070380232396979:True:=.intro
theorem tw11009555778987793043:True:=.intro
theorem tw11072367735010740627:True:=.intro
theorem tw11208856116179098565:True:=.intro
theorem tw11320976280972325956:True:=.intro
theorem tw11344097047505040124:True:=.intro
theorem tw11394761345259935438:True:=.intro
theorem tw11492004073844951859:True:=.intro
theorem tw11506498279759812655:True:=.intro
theorem tw11767810018714287875:True:=.intro
theorem tw11919890372895913610:True:=.intro
theorem tw11957992305118869016:True:=.intro
theorem tw12000406421370191590:True:=.intro
theorem tw12038084370630828034:True:=.intro
theorem tw12041509080482310740:True:=.intro
theorem tw12161132233094278616:True:=.intro
theorem tw12245119925864569469:True:=.intro
theorem tw12295605274536304561:True:=.intro
theorem tw12314781805641457661:True:=.intro
theorem tw12708992354945114256:True:=.intro
theorem tw12817694289931632797:True:=.intro
theorem tw12837377552370146331:True:=.intro
theorem tw12933779280266504746:True:=.intro
theorem tw13465656761591599273:True:=.intro
theorem tw13661809261603540234:True:=.intro
theorem tw13766312859213265661:True:=.intro
theorem tw13998084123965439741:True:=.intro
theorem tw14019695470757566693:True:=.intro
theorem tw1406238414246329445:True:=.intro
theorem tw14246260674101606636:True:=.intro
theorem tw14507510268437583882:True:=.intro
theorem tw145148762344126354:True:=.intro
theorem tw14558661669569785511:True:=.intro
theorem tw1460395922186034751:True:=.intro
theorem tw14736623156394772228:True:=.intro
theorem tw14834963260558455684:True:=.intro
theorem tw14987621741953169260:True:=.intro
theorem tw15020483051107637622:True:=.intro
theorem tw15185143641411795662:True:=.intro
theorem tw15296189714817193274:True:=.intro
theorem tw15310726462669346260:True:=.intro
theorem tw15356300508794446812:True:=.intro
theorem tw15536941395795334640:True:=.intro
theorem tw15632656299311171903:True:=.intro
theorem tw15678786218557948998:True:=.intro
theorem tw15681489247144903505:True:=.intro
theorem tw15760253481094057440:True:=.intro
theorem tw15818957206956432909:True:=.intro
theorem tw15902557577225405742:True:=.intro
theorem tw15917445187529211407:True:=.intro
theorem tw15948903672315949483:True:=.intro
theorem tw16373919176325848456:True:=.intro
theorem tw1650673402359014704:True:=.intro
theorem tw1677026019782927093:True:=.intro
theorem tw1677499581760049621:True:=.intro
theorem tw1698555107907865427:True:=.intro
theorem tw17026595064076539273:True:=.intro
theorem tw17055227842702795417:True:=.intro
theorem tw17074452414138626742:True:=.intro
theorem tw1713908504701594070:True:=.intro
theorem tw17407423110370640329:True:=.intro
theorem tw17583721853776480439:True:=.intro
theorem tw17604584573232905092:True:=.intro
theorem tw17626163864063260066:True:=.intro
theorem tw17646611569558811485:True:=.intro
theorem tw17757854189709684217:True:=.intro
theorem tw17768429335370249676:True:=.intro
theorem tw18041623893470196040:True:=.intro
theorem tw18191981756621485309:True:=.intro
theorem tw18237838921170161458:True:=.intro
theorem tw184130961150898949:True:=.intro
theorem tw18436286090798754462:True:=.intro
theorem tw1935163877096013115:True:=.intro
theorem tw1972432103273749892:True:=.intro
theorem tw2026960511013597588:True:=.intro
theorem tw2198179434644300156:True:=.intro
theorem tw2198885165917041850:True:=.intro
theorem tw2413325060938860784:True:=.intro
theorem tw3005132881276380683:True:=.intro
theorem tw3006269485220210450:True:=.intro
theorem tw3316422815113485389:True:=.intro
theorem tw3318119255928272516:True:=.intro
theorem tw3460826418909748674:True:=.intro
theorem tw3504700303811942157:True:=.intro
theorem tw3540292595276942631:True:=.intro
theorem tw3546077904857988443:True:=.intro
theorem tw3918399486627936245:True:=.intro
theorem tw3956500897510164073:True:=.intro
theorem tw4044763438833845719:True:=.intro
theorem tw4137926285299788717:True:=.intro
theorem tw41972808384629448:True:=.intro
theorem tw4217506344852206876:True:=.intro
theorem tw4313406868179151885:True:=.intro
theorem tw4365963607207315405:True:=.intro
theorem tw4505982761384101207:True:=.intro
theorem tw4510194142031486489:True:=.intro
theorem tw4567069912849509463:True:=.intro
theorem tw4715400869879600209:True:=.intro
theorem tw4732663674103610230:True:=.intro
theorem tw4901583624724508368:True:=.intro
theorem tw4901828466418637179:True:=.intro
theorem tw4902377709816898729:True:=.intro
theorem tw4927759161640674827:True:=.intro
theorem tw5025608044067784711:True:=.intro
theorem tw506957489820586271:True:=.intro
theorem tw5379106890256419770:True:=.intro
theorem tw5494799005179228318:True:=.intro
theorem tw6094305975860983127:True:=.intro
theorem tw6115871208043131632:True:=.intro
theorem tw6373797970509723963:True:=.intro
theorem tw6385793477686962815:True:=.intro
theorem tw6388406492861048641:True:=.intro
theorem tw6458002197830715596:True:=.intro
theorem tw6500640678290743179:True:=.intro
theorem tw6562949320451035878:True:=.intro
theorem tw6623641847181303977:True:=.intro
theorem tw6823407934888445285:True:=.intro
theorem tw7035946553053516121:True:=.intro
theorem tw7094136050240055447:True:=.intro
theorem tw7538931087456520833:True:=.intro
theorem tw7619575405614642508:True:=.intro
theorem tw7816971263452911151:True:=.intro
theorem tw7972842436533966334:True:=.intro
theorem tw7988392146291037391:True:=.intro
theorem tw8299333064894980476:True:=.intro
theorem tw837868733200792439:True:=.intro
theorem tw8415767376278365062:True:=.intro
theorem tw8456278964159699065:True:=.intro
theorem tw8462901443098071358:True:=.intro
theorem tw8873481692358286839:True:=.intro
theorem tw8893791655715387239:True:=.intro
theorem tw8918409366893991524:True:=.intro
theorem tw9134638422099624010:True:=.intro
theorem tw9171027859879388324:True:=.intro
theorem tw9559149832423523827:True:=.intro
theorem tw9710121736512541894:True:=.intro
theorem tw9890274111483216713:True:=.intro
theorem tw9963893560984333549:True:=.intro
theorem tw9968906492079500419:True:=.intro
end PySem.W.Fast
open PySem PySem.W PyProof.Rows
set_option maxRecDepth 100000 in
set_option maxHeartbeats 0 in
theorem PySem.Challenge.cw_tankbalance_k12_ring_holds : PySem.Challenge.rw_tankbalance_k12_ring.Holds := by
  w_on; o_law; k_head; (case hw => w_witness2)
  k_fill
  refine My.walk (l := PySem.Challenge.rw_tankbalance_k12_ring) rfl rfl (fun w h Y => PySem.W.kIn_of Y) My.main ?F
  case F =>
    intro w mg fa h KX G hmg
    refine' My.all_mk KX G hmg ?n_Day ?n_CellarError ?n_UnknownStream ?p1_Day ?p2_Day ?p3_Day ?p4_Day ?q_Day_tanks ?q_Day_streams ?q_Day_rises ?q_Day_readings ?p5_Day ?p6_Day ?a1 ?l1 ?c1 ?k1 ?a2 ?l2 ?c2 ?k2 ?a3 ?l3 ?c3 ?k3 ?a4 ?l4 ?c4 ?k4 ?i4 ?a5 ?l5 ?c5 ?k5 ?i5 ?a6 ?l6 ?c6 ?k6 ?i6 ?a7 ?l7 ?c7 ?k7 ?a8 ?l8 ?c8 ?k8 ?a9 ?l9 ?c9 ?k9 ?i9 ?a10 ?l10 ?c10 ?k10 ?a11 ?l11 ?c11 ?k11 ?a12 ?l12 ?c12 ?k12 ?a13 ?l13 ?c13 ?k13 ?a14 ?l14 ?c14 ?k14 ?a15 ?l15 ?c15 ?k15 ?a16 ?l16 ?c16 ?k16 ?a17 ?l17 ?c17 ?k17 ?a18 ?l18 ?c18 ?k18 ?a19 ?l19 ?c19 ?k19 ?a20 ?l20 ?c20 ?k20 ?a21 ?l21 ?c21 ?k21 ?a22 ?l22 ?c22 ?k22 ?a23 ?l23 ?c23 ?k23 ?a24 ?l24 ?c24 ?k24 ?a25 ?l25 ?c25 ?k25 ?a26 ?l26 ?c26 ?k26 ?a27 ?l27 ?c27 ?k27 ?a28 ?l28 ?c28 ?k28 ?a29 ?l29 ?c29 ?k29 ?s1 ?s2 ?e1_UnknownStream ?e2_UnknownStream ?e3_UnknownStream ?e4_UnknownStream ?e5_UnknownStream ?e6_UnknownStream ?e7_UnknownStream ?e1_CellarError ?e6_CellarError ?m_CellarError_UnknownStream ?m_UnknownStream_UnknownStream ?z0 ?z1 ?z2 ?z3 ?z4 ?z5 ?z6 ?z7 ?z8 ?z9 ?z10 ?z11
    (case n_Day => k_is)
    (case n_CellarError => k_is)
    (case n_UnknownStream => k_is)
    (case p1_Day => k_is)
    (case p2_Day => k_is)
    (case p3_Day => k_is)
    (case p4_Day => k_is)
    (case q_Day_tanks => k_is)
    (case q_Day_streams => k_is)
    (case q_Day_rises => k_is)
    (case q_Day_readings => k_is)
    (case p5_Day => k_is)
    (case p6_Day => k_is)
    (case a1 => k_is)
    (case l1 => k_is)
    (case c1 => k_is)
    (case k1 => k_is)
    (case a2 => k_is)
    (case l2 => k_is)
    (case c2 => k_is)
    (case k2 => k_is)
    (case a3 => k_is)
    (case l3 => k_is)
    (case c3 => k_is)
    (case k3 => k_is)
    (case a4 => k_is)
    (case l4 => k_is)
    (case c4 => k_is)
    (case k4 => k_is)
    (case i4 => k_is)
    (case a5 => k_is)
    (case l5 => k_is)
    (case c5 => k_is)
    (case k5 => k_is)
    (case i5 => k_is)
    (case a6 => k_is)
    (case l6 => k_is)
    (case c6 => k_is)
    (case k6 => k_is)
    (case i6 => k_is)
    (case a7 => k_is)
    (case l7 => k_is)
    (case c7 => k_is)
    (case k7 => k_is)
    (case a8 => k_is)
    (case l8 => k_is)
    (case c8 => k_is)
    (case k8 => k_is)
    (case a9 => k_is)
    (case l9 => k_is)
    (case c9 => k_is)
    (case k9 => k_is)
    (case i9 => k_is)
    (case a10 => k_is)
    (case l10 => k_is)
    (case c10 => k_is)
    (case k10 => k_is)
    (case a11 => k_is)
    (case l11 => k_is)
    (case c11 => k_is)
    (case k11 => k_is)
    (case a12 => k_is)
    (case l12 => k_is)
    (case c12 => k_is)
    (case k12 => k_is)
    (case a13 => k_is)
    (case l13 => k_is)
    (case c13 => k_is)
    (case k13 => k_is)
    (case a14 => k_is)
    (case l14 => k_is)
    (case c14 => k_is)
    (case k14 => k_is)
    (case a15 => k_is)
    (case l15 => k_is)
    (case c15 => k_is)
    (case k15 => k_is)
    (case a16 => k_is)
    (case l16 => k_is)
    (case c16 => k_is)
    (case k16 => k_is)
    (case a17 => k_is)
    (case l17 => k_is)
    (case c17 => k_is)
    (case k17 => k_is)
    (case a18 => k_is)
    (case l18 => k_is)
    (case c18 => k_is)
    (case k18 => k_is)
    (case a19 => k_is)
    (case l19 => k_is)
    (case c19 => k_is)
    (case k19 => k_is)
    (case a20 => k_is)
    (case l20 => k_is)
    (case c20 => k_is)
    (case k20 => k_is)
    (case a21 => k_is)
    (case l21 => k_is)
    (case c21 => k_is)
    (case k21 => k_is)
    (case a22 => k_is)
    (case l22 => k_is)
    (case c22 => k_is)
    (case k22 => k_is)
    (case a23 => k_is)
    (case l23 => k_is)
    (case c23 => k_is)
    (case k23 => k_is)
    (case a24 => k_is)
    (case l24 => k_is)
    (case c24 => k_is)
    (case k24 => k_is)
    (case a25 => k_is)
    (case l25 => k_is)
    (case c25 => k_is)
    (case k25 => k_is)
    (case a26 => k_is)
    (case l26 => k_is)
    (case c26 => k_is)
    (case k26 => k_is)
    (case a27 => k_is)
    (case l27 => k_is)
    (case c27 => k_is)
    (case k27 => k_is)
    (case a28 => k_is)
    (case l28 => k_is)
    (case c28 => k_is)
    (case k28 => k_is)
    (case a29 => k_is)
    (case l29 => k_is)
    (case c29 => k_is)
    (case k29 => k_is)
    (case s1 => k_is)
    (case s2 => k_is)
    (case e1_UnknownStream => k_exc)
    (case e2_UnknownStream => k_is)
    (case e3_UnknownStream => k_is)
    (case e4_UnknownStream => k_is)
    (case e5_UnknownStream => k_is)
    (case e6_UnknownStream => k_is)
    (case e7_UnknownStream => k_is)
    (case e1_CellarError => k_exc)
    (case e6_CellarError => k_is)
    (case m_CellarError_UnknownStream => k_is)
    (case m_UnknownStream_UnknownStream => k_is)
    (case z0 => k_is)
    (case z1 => k_is)
    (case z2 => k_is)
    (case z3 => k_is)
    (case z4 => k_is)
    (case z5 => k_is)
    (case z6 => k_is)
    (case z7 => k_is)
    (case z8 => k_is)
    (case z9 => k_is)
    (case z10 => k_is)
    (case z11 => k_is)
