import PyProof.Rows.All
import Wide.All
import OpenK.AllK
import Wide.FinOn
import Lean
import PyProof.EqAt
import PyProof.EqKinds
import PyProof.TupleCall
import PyProof.NeKinds
import PySem.Challenge.RW_tankbalance_k08_doubting
set_option Elab.async false
set_option linter.all false
set_option maxRecDepth 100000
set_option maxHeartbeats 4000000
local macro_rules | `(tactic| omega) => `(tactic| lia)
namespace L2
open PySem PySem.Spec PyProof.Rows
noncomputable abbrev bn:=Sum Int Str
noncomputable def lf:bn->Value->Bool
 | .inl k,v=>Value.isInt k v
 | .inr x,v=>Value.isStrOf x v
noncomputable def C_ (w:World):bn->Int
 | .inl k=>hashInt k
 | .inr x=>hashStr w x
theorem bX:∀{k:bn} {v:Value},lf k v=true->(∃i t,k=Sum.inl i/\v=Value.int i t)\/(∃x t,k=Sum.inr x/\v=Value.str x t)
 | .inl i,v,h=>by
  obtain⟨t,e⟩:=Value.isInt_shape (k:=i) (v:=v) h
  exact .inl ⟨i,t,rfl,e⟩
 | .inr x,v,h=>by
  obtain⟨t,e⟩:=Value.isStrOf_shape (x:=x) (v:=v) h
  exact .inr ⟨x,t,rfl,e⟩
theorem sB (i:Int) (t:Tok):lf (.inl i) (.int i t)=true:=by simp[lf,Value.isInt]
theorem sC (x:Str) (t:Tok):lf (.inr x) (.str x t)=true:=by simp[lf,Value.isStrOf]
theorem zl (a b:Int):decide ((Sum.inl a:bn)=Sum.inl b)=(a==b):=by
 by_cases e:a=b
 ·subst e;simp
 ·have h:¬(Sum.inl a:bn)=Sum.inl b:=fun q=>e (Sum.inl.inj q)
  rw[decide_eq_false h]
  exact(beq_eq_false_iff_ne.mpr e).symm
theorem zm (a b:Str):decide ((Sum.inr a:bn)=Sum.inr b)=decide (a=b):=by
 by_cases e:a=b
 ·subst e;simp
 ·have h:¬(Sum.inr a:bn)=Sum.inr b:=fun q=>e (Sum.inr.inj q)
  rw[decide_eq_false h,decide_eq_false e]
theorem zn (a:Int) (b:Str):decide ((Sum.inl a:bn)=Sum.inr b)=false:=decide_eq_false (fun q=>nomatch q)
theorem zo (a:Str) (b:Int):decide ((Sum.inr a:bn)=Sum.inl b)=false:=decide_eq_false (fun q=>nomatch q)
noncomputable def bz (prog:Program) (w:World):PySem.KeyKind prog w bn where
 is:=lf
 hash:=C_ w
 inj:=fun v a b ha hb=>by
  rcases bX ha with ⟨i,t,rfl,rfl⟩|⟨x,t,rfl,rfl⟩
  ·rcases bX hb with ⟨j,u,rfl,e⟩|⟨y,u,rfl,e⟩
   ·injection e with e1 _;rw[e1]
   ·exact nomatch e
  ·rcases bX hb with ⟨j,u,rfl,e⟩|⟨y,u,rfl,e⟩
   ·exact nomatch e
   ·injection e with e1 _;rw[e1]
 byValue:=fun k v h=>by
  rcases bX h with ⟨i,t,rfl,rfl⟩|⟨x,t,rfl,rfl⟩<;>rfl
 pyHash:=fun hv h=>by
  rcases bX hv with ⟨i,t,rfl,rfl⟩|⟨x,t,rfl,rfl⟩
  ·exact wpAny_pyHash_int h
  ·exact wpAny_pyHash_str h
 eqBool:=fun hu hv h=>by
  rcases bX hu with ⟨i,t,rfl,rfl⟩|⟨x,t,rfl,rfl⟩
  ·rcases bX hv with ⟨j,u,rfl,rfl⟩|⟨y,u,rfl,rfl⟩
   ·rw[zl]at h;exact wpAny_eqBool_int h
   ·rw[zn]at h;exact SeqAt.EqAt.int_str i t y u _ _ _ _ h
  ·rcases bX hv with ⟨j,u,rfl,rfl⟩|⟨y,u,rfl,rfl⟩
   ·rw[zo]at h;exact SeqAt.EqAt.str_int x t j u _ _ _ _ h
   ·rw[zm]at h;exact wpAny_eqBool_str h
 «strs»:=fun k x t v h=>by
  rcases bX h with ⟨i,u,rfl,e⟩|⟨y,u,rfl,e⟩
  ·exact nomatch e
  ·injection e with e1 _
   subst e1
   cases v<;>rfl
theorem oH (prog:Program) (w:World) (i:Int) (t:Tok):(bz prog w).is (.inl i) (.int i t)=true:=sB i t
theorem oJ (prog:Program) (w:World) (x:Str) (t:Tok):(bz prog w).is (.inr x) (.str x t)=true:=sC x t
end L2
namespace L2
open PySem PySem.Spec PyProof.Rows
inductive V where
 |non|bl (b:Bool)|int (i:Int)|str (x:Str)|byt (b:Array UInt8)|flt (b:UInt64)|ref (a:Addr)|ty (n:String)
 deriving DecidableEq
noncomputable def bt:V->Value->Prop
 | .non,u=>u=Value.none
 | .bl b,u=>u=Value.bool b
 | .int i,u=>∃t,u=Value.int i t
 | .str x,u=>∃t,u=Value.str x t
 | .byt b,u=>∃t,u=Value.bytes b t
 | .flt b,u=>∃t,u=Value.float b t
 | .ref a,u=>u=Value.ref a
 | .ty n,u=>u=Value.type n
noncomputable abbrev aO:List V->List Value->Prop:=Paired bt
theorem aO.length {xs:List V} {us:List Value} (r:aO xs us):xs.length=us.length:=Paired.length r
theorem aO.get:∀{xs:List V} {us:List Value} {i:Nat} {x:V},aO xs us->xs[i]? =some x->∃u,us[i]? =some u/\bt x u
 |_,_,_,_, .nil,e=>by simp at e
 |_,_,0,_, .cons r _,e=>by simp at e;subst e;exact⟨_,rfl,r⟩
 |_,_,i+1,x, .cons _ t,e=>by
  obtain⟨u,h1,h2⟩:=aO.get (i:=i) (x:=x) t (by simpa using e)
  exact⟨u,by simpa using h1,h2⟩
theorem aO.set {x:V} {u:Value} (r:bt x u):∀{xs:List V} {us:List Value} (i:Nat),aO xs us->aO (xs.set i x) (us.set i u)
 |_,_,_, .nil=> .nil
 |_,_,0, .cons _ t=> .cons r t
 |_,_,i+1, .cons q t=> .cons q (aO.set r i t)
theorem aO.append:∀{xs ys:List V} {us ws:List Value},aO xs us->aO ys ws->aO (xs++ys) (us++ws)
 |_,_,_,_, .nil,s=>s
 |_,_,_,_, .cons r t,s=> .cons r (aO.append t s)
theorem aO.take:∀{xs:List V} {us:List Value} (n:Nat),aO xs us->aO (xs.take n) (us.take n)
 |_,_,0,_=> .nil
 |_,_,_+1, .nil=> .nil
 |_,_,n+1, .cons r t=> .cons r (aO.take n t)
theorem aO.drop:∀{xs:List V} {us:List Value} (n:Nat),aO xs us->aO (xs.drop n) (us.drop n)
 |_,_,0,r=>r
 |_,_,_+1, .nil=> .nil
 |_,_,n+1, .cons _ t=>aO.drop n t
noncomputable def gW:Option V->Option Value->Prop
 |some v,some u=>bt v u
 |none,none=>True
 |_,_=>False
noncomputable def KV {κ:Type}:List (κ×V)->List (κ×Value)->Prop:=Paired fun (p:κ×V) (q:κ×Value)=>p.1=q.1/\bt p.2 q.2
noncomputable def kV:bn->V
 | .inl i=> .int i
 | .inr x=> .str x
inductive HO where
 |lst (xs:List V)
 |tup (xs:List V)
 |dK (kvs:List (bn×V))|dT (kvs:List (List bn×V))
 |set (S:Int->Bool) (n:Nat)
 |ins (C dx:Addr) (fs:List (Str×V))
 |own (x:Addr)
 |xd (fs:List (Str×V))
 |met (f x:Addr)
 |rng (lo hi:Int)
 |frz (o:Obj) (u:HO)
 |tbl (ps:Array Value)
 |ext (φ:Heap->Prop)
noncomputable abbrev Hp:=Addr->Option HO
noncomputable def br (H:Hp) (a:Addr) (o:HO):Hp:=fun b=>if b=a then some o else H b
theorem aA {H:Hp} {a:Addr} {o:HO}:br H a o a=some o:=by unfold br;rw[if_pos rfl]
theorem aw {H:Hp} {a b:Addr} {o:HO} (h:b≠a):br H a o b=H b:=by unfold br;rw[if_neg h]
theorem rF {H:Hp} {a b:Addr} {o u:HO} (h:H a=some o) (h':H b=some u) (d:o≠u):a≠b:=by
 intro e;subst e;rw[h]at h';exact d (Option.some.inj h')
theorem cw {H:Hp} {a b:Addr} {o:HO} (h:H a=some o) (h':H b=none):a≠b:=by
 intro e;subst e;rw[h]at h';cases h'
noncomputable def e_ (h:Heap) (a:Addr) (items:Array Value):Prop:=∃o,h.get? a=some o/\o.cls= .type "tuple"/\∃n,o.data= .seq items n/\o.dict=none
theorem e_.tup {h:Heap} {a:Addr} {items:Array Value} (x:e_ h a items):IsTup h a items:=let ⟨o,ho,hc,n,hd,_⟩:=x;⟨o,ho,hc,n,hd⟩
theorem e_.lt {h:Heap} {a:Addr} {items:Array Value} (x:e_ h a items):a<h.objs.size:=x.tup.lt
theorem e_.new (h:Heap) (items:Array Value):e_ (h.push {cls:= .type "tuple",data:= .seq items}) h.objs.size items:=⟨_,Heap.get?_push_size _ rfl,rfl,_,rfl,rfl⟩
section
variable (P:Program) (w:World)
noncomputable def bK (H:Hp) (h:Heap) (a:Addr):HO->Prop
 | .lst xs=>xs.length<=sizeLine/\∃(its:List Value) (n:Nat),aO xs its/\h.get? a=some {cls:= .type "list",data:= .seq its.toArray n}
 | .tup xs=>xs.length<=sizeLine/\∃its:List Value,aO xs its/\e_ h a its.toArray
 | .dK kvs=>kvs.length<=sizeLine/\(a==sysModules)=false/\∃vs,KV kvs vs/\h.DictOf (bz P w) a vs
 | .dT kvs=>kvs.length<=sizeLine/\(a==sysModules)=false/\∃xs:List (List bn×Addr×Value),
   Paired (fun (p:List bn×V) (q:List bn×Addr×Value)=>p.1=q.1/\H q.2.1=some (.tup (p.1.map kV))/\bt p.2 q.2.2) kvs xs/\
   ∃o es ep,h.get? a=some o/\o.ExactDict/\o.data= .dict es ep/\es.toList=xs.map (entryOfKey (tupleKind (bz P w)))/\(xs.map (·.1)).Nodup
 | .set S n=>h.SetOf (intKind P w) a S n
 | .ins C dx fs=>H dx=some (.own a)/\fs.length<=1000/\dx≠a/\h.get? a=some (PySem.W.instObj C dx)/\
   ∃mA,h.Ns1 dx mA/\(∀f,gW (fs.lookup f) (mA f))/\PySem.Within mA (fs.map (·.1))
 | .own _=>∃o,h.get? a=some o
 | .xd fs=>∃mA,h.Ns1 a mA/\∀f,gW (fs.lookup f) (mA f)
 | .rng lo hi=>∃t u v,h.get? a=some {cls:= .type "range",data:= .fields #[.int lo t, .int hi u, .int 1 v]}
 | .frz o u=>h.get? a=some o/\bK H h a u
 | .tbl ps=>h.get? a=some {cls:= .none,data:= .fields ps}
 | .met f x=>h.get? a=some (PySem.W.methodObj (.ref f) (.ref x))
 | .ext φ=>φ h/\(∃o,h.get? a=some o)/\∀h1 h2:Heap,φ h1->(∀o,h1.get? a=some o->h2.get? a=some o)->φ h2
noncomputable def gX (H:Hp) (h:Heap):Prop:=∀a o,H a=some o->bK P w H h a o
end
section
variable {P:Program} {w:World} {H H':Hp} {h h':Heap} {a:Addr} {o:HO}
theorem bK.lt (x:bK P w H h a o):a<h.objs.size:=by
 cases o with
 |lst xs=>obtain⟨_,_,_,_,e⟩:=x;exact Heap.lt_size e
 |tup xs=>obtain⟨_,_,_,p⟩:=x;exact p.lt
 |dK kvs=>obtain⟨_,_,_,_,o,_,_,e,_⟩:=x;exact Heap.lt_size e
 |dT kvs=>obtain⟨_,_,_,_,o,_,_,e,_⟩:=x;exact Heap.lt_size e
 |set S n=>obtain⟨o,_,_,_,e,_⟩:=x;exact Heap.lt_size e
 |ins C dx fs=>obtain⟨_,_,_,e,_⟩:=x;exact Heap.lt_size e
 |own y=>obtain⟨_,e⟩:=x;exact Heap.lt_size e
 |xd fs=>obtain⟨_,⟨_,_,_,e,_⟩,_⟩:=x;exact Heap.lt_size e
 |rng lo hi=>obtain⟨_,_,_,e⟩:=x;exact Heap.lt_size e
 |frz ob u=>obtain⟨e,_⟩:=x;exact Heap.lt_size e
 |tbl ps=>exact Heap.lt_size (show h.get? a=some _ from x)
 |met f y=>exact Heap.lt_size (show h.get? a=some _ from x)
 |ext φ=>obtain⟨_,⟨_,e⟩,_⟩:=x;exact Heap.lt_size e
theorem Paired.mapP {α β:Type} {F G:α->β->Prop}:∀{l₁:List α} {l₂:List β},Paired F l₁ l₂->(∀a b,F a b->G a b)->Paired G l₁ l₂
 |_,_, .nil,_=> .nil
 |_,_, .cons r t,f=> .cons (f _ _ r) (Paired.mapP t f)
theorem bK.stay (x:bK P w H h a o) (k:∀b u,(b=a\/H b=some (.own a))->h.get? b=some u->h'.get? b=some u)
  (ho:∀b,H b=some (.own a)->H' b=some (.own a)) (ht:∀b xs,H b=some (.tup xs)->H' b=some (.tup xs)):bK P w H' h' a o:=by
 induction o with
 |lst xs=>obtain⟨z,its,n,r,e⟩:=x;exact⟨z,its,n,r,k _ _ (.inl rfl) e⟩
 |tup xs=>obtain⟨z,its,r,ob,e,c⟩:=x;exact⟨z,its,r,ob,k _ _ (.inl rfl) e,c⟩
 |dK kvs=>obtain⟨z,y,vs,r,ob,es,ep,e,c⟩:=x;exact⟨z,y,vs,r,ob,es,ep,k _ _ (.inl rfl) e,c⟩
 |dT kvs=>
  obtain⟨z,y,xs,r,ob,es,ep,e,c⟩:=x
  exact⟨z,y,xs,Paired.mapP r fun p q z=>⟨z.1,ht _ _ z.2.1,z.2.2⟩,ob,es,ep,k _ _ (.inl rfl) e,c⟩
 |set S n=>obtain⟨ob,es,ep,t,e,c⟩:=x;exact⟨ob,es,ep,t,k _ _ (.inl rfl) e,c⟩
 |ins C dx fs=>
  obtain⟨d,z,ne,e,mA,⟨od,es,ep,e2,c⟩,r⟩:=x
  exact⟨ho _ d,z,ne,k _ _ (.inl rfl) e,mA,⟨od,es,ep,k _ _ (.inr d) e2,c⟩,r⟩
 |own y=>obtain⟨ob,e⟩:=x;exact⟨ob,k _ _ (.inl rfl) e⟩
 |xd fs=>obtain⟨mA,⟨od,es,ep,e,c⟩,r⟩:=x;exact⟨mA,⟨od,es,ep,k _ _ (.inl rfl) e,c⟩,r⟩
 |rng lo hi=>obtain⟨t,u,v,e⟩:=x;exact⟨t,u,v,k _ _ (.inl rfl) e⟩
 |frz ob u ih=>obtain⟨e,q⟩:=x;exact⟨k _ _ (.inl rfl) e,ih q⟩
 |tbl ps=>
  have e:h.get? a=some {cls:= .none,data:= .fields ps}:=x
  show h'.get? a=some {cls:= .none,data:= .fields ps}
  exact k a _ (.inl rfl) e
 |met f y=>
  have e:h.get? a=some (PySem.W.methodObj (.ref f) (.ref y)):=x
  show h'.get? a=some (PySem.W.methodObj (.ref f) (.ref y))
  exact k a _ (.inl rfl) e
 |ext φ=>obtain⟨p,⟨o,e⟩,st⟩:=x;exact⟨st _ _ p fun o q=>k _ _ (.inl rfl) q,⟨o,k _ _ (.inl rfl) e⟩,st⟩
theorem gX.lt (x:gX P w H h) (e:H a=some o):a<h.objs.size:=(x a o e).lt
theorem gX.fresh (x:gX P w H h) (e:h.objs.size<=a):H a=none:=by
 cases q:H a with
 |none=>rfl
 |some u=>exact absurd (Nat.lt_of_lt_of_le (x.lt q) e) (Nat.lt_irrefl _)
theorem gX.kept (x:gX P w H h) (k:∀b u,h.get? b=some u->h'.get? b=some u):gX P w H h':=fun a o e=>
 (x a o e).stay (fun b u _ q=>k b u q) (fun _ q=>q) fun _ _ q=>q
theorem gX.laid (x:gX P w H h) (k:∀b u,h.get? b=some u->h'.get? b=some u) (hp:h.objs.size<=a) (new:bK P w (br H a o) h' a o):gX P w (br H a o) h':=fun b u e=>by
 have hn:=x.fresh hp
 by_cases hb:b=a
 ·subst hb;rw[aA]at e;cases e;exact new
 ·rw[aw hb]at e
  exact(x b u e).stay (fun c v _ q=>k c v q) (fun c q=>by rw[aw (cw q hn)];exact q) fun c xs q=>by rw[aw (cw q hn)];exact q
end
noncomputable def Rd (H:Hp) (a:Addr) (u:HO):Prop:=H a=some u\/∃o,H a=some (.frz o u)
theorem Rd.ok {P:Program} {w:World} {H:Hp} {h:Heap} {a:Addr} {u:HO} (r:Rd H a u) (x:gX P w H h):bK P w H h a u:=by
 rcases r with r|⟨o,r⟩
 ·exact x a u r
 ·obtain⟨_,q⟩:=x a _ r
  exact q
noncomputable def Bi:Option HO->Prop
 |some (.lst _)=>True
 |some (.dK _)=>True
 |some (.dT _)=>True
 |some (.set _ _)=>True
 |some (.ins _ _ _)=>True
 |some (.ext _)=>True
 |_=>False
section
variable {P:Program} {w:World} {H:Hp} {h h':Heap} {x e:Addr} {o':HO}
theorem gX.write (ok:gX P w H h) (mu:Bi (H x)) (he:e=x\/H e=some (.own x)) (k:∀b u,b≠e->h.get? b=some u->h'.get? b=some u) (heo:∃u,h'.get? e=some u)
  (new:bK P w (br H x o') h' x o'):gX P w (br H x o') h':=fun b u q=>by
 have nown:∀c y,H c=some (.own y)->c≠x:=fun c y r z=>by subst z;rw[r]at mu;exact mu
 have ntup:∀c xs,H c=some (.tup xs)->c≠x:=fun c xs r z=>by subst z;rw[r]at mu;exact mu
 by_cases hb:b=x
 ·subst hb;rw[aA]at q;cases q;exact new
 ·rw[aw hb]at q
  by_cases hbe:b=e
  ·have q':H b=some (.own x):=by
    rcases he with z|z
    ·exact absurd (hbe.trans z) hb
    ·rw[hbe];exact z
   rw[q]at q';cases q'
   obtain⟨v,hv⟩:=heo
   exact⟨v,by rw[hbe];exact hv⟩
  ·refine(ok b u q).stay (fun c v hc r=>k c v ?_ r) (fun c r=>by rw[aw (nown c b r)];exact r) fun c xs r=>by rw[aw (ntup c xs r)];exact r
   rcases hc with rfl|hc
   ·exact hbe
   ·rintro rfl
    rcases he with z|z
    ·exact nown c b hc z
    ·rw[hc]at z;cases z;exact hb rfl
end
structure Un (fs ex:List Addr) (H H':Hp) (h h':Heap):Prop where
 keep:∀b o,h.get? b=some o->H b=none->b∉fs->b∉ex->h'.get? b=some o
 slot:∀b o,h.get? b=some o->H b=none->b∈fs->b∉ex->∃sl,h'.get? b=some {o with slots:=sl}
 free:∀b o,h.get? b=some o->H b=none->b∉ex->H' b=none
 there:∀b o,h.get? b=some o->b∉ex->∃o',h'.get? b=some o'
 tups:∀b xs,H b=some (.tup xs)->H' b=some (.tup xs)
 frzs:∀b o u,H b=some (.frz o u)->H' b=some (.frz o u)
 tbls:∀b ps,H b=some (.tbl ps)->∃more,H' b=some (.tbl (ps++more))
section
variable {fs fs' ex ex':List Addr} {H H1 H2:Hp} {h h1 h2 h':Heap} {a x e:Addr} {o:HO}
theorem Un.any (u:Un fs ex H H1 h h1) {b:Addr} {ob:Obj} (q:h.get? b=some ob) (n:H b=none) (hx:b∉ex):∃sl,h1.get? b=some {ob with slots:=sl}:=by
 by_cases hb:b∈fs
 ·exact u.slot b ob q n hb hx
 ·exact⟨ob.slots,u.keep b ob q n hb hx⟩
theorem Un.trans (a:Un fs ex H H1 h h1) (b:Un fs ex H1 H2 h1 h2):Un fs ex H H2 h h2 where
 keep:=fun c ob q n hc hx=>b.keep c ob (a.keep c ob q n hc hx) (a.free c ob q n hx) hc hx
 slot:=fun c ob q n hc hx=>by
  obtain⟨sl,e1⟩:=a.slot c ob q n hc hx
  obtain⟨sl',e2⟩:=b.slot c _ e1 (a.free c ob q n hx) hc hx
  exact⟨sl',e2⟩
 free:=fun c ob q n hx=>by
  obtain⟨o',e1⟩:=a.there c ob q hx
  exact b.free c o' e1 (a.free c ob q n hx) hx
 there:=fun c ob q hx=>by
  obtain⟨o',e1⟩:=a.there c ob q hx
  exact b.there c o' e1 hx
 tups:=fun c xs q=>b.tups c xs (a.tups c xs q)
 frzs:=fun c ob xs q=>b.frzs c ob xs (a.frzs c ob xs q)
 tbls:=fun c ps q=>by
  obtain⟨m1,e1⟩:=a.tbls c ps q
  obtain⟨m2,e2⟩:=b.tbls c _ e1
  exact⟨m1++m2,by rw[e2,Array.append_assoc]⟩
theorem Un.kept (k:∀b u,h.get? b=some u->h'.get? b=some u):Un fs ex H H h h':=
 ⟨fun b ob q _ _ _=>k b ob q,fun b ob q _ _ _=>⟨ob.slots,k b ob q⟩,fun _ _ _ n _=>n,fun b ob q _=>⟨ob,k b ob q⟩,fun _ _ q=>q,fun _ _ _ q=>q,fun _ ps q=>⟨#[],by rw[q];simp⟩⟩
theorem Un.refl:Un fs ex H H h h:=Un.kept fun _ _ q=>q
theorem Un.laid (k:∀b u,h.get? b=some u->h'.get? b=some u) (hp:h.objs.size<=a) (hn:H a=none):Un fs ex H (br H a o) h h' where
 keep:=fun b u q _ _ _=>k b u q
 slot:=fun b u q _ _ _=>⟨u.slots,k b u q⟩
 free:=fun b u q n _=>by rw[aw (Nat.ne_of_lt (Nat.lt_of_lt_of_le (Heap.lt_size q) hp))];exact n
 there:=fun b u q _=>⟨u,k b u q⟩
 tups:=fun b xs q=>by rw[aw (cw q hn)];exact q
 frzs:=fun b u xs q=>by rw[aw (cw q hn)];exact q
 tbls:=fun b ps q=>⟨#[],by rw[aw (cw q hn),q];simp⟩
theorem Un.write (mu:Bi (H x)) (he:e=x\/H e=some (.own x)) (k:∀b u,b≠e->h.get? b=some u->h'.get? b=some u) (heo:∃u,h'.get? e=some u):Un fs ex H (br H x o) h h':=by
 have hx:∀b,H b=none->b≠x:=fun b n z=>by subst z;rw[n]at mu;exact mu
 have hb:∀b,H b=none->b≠e:=fun b n z=>by
  subst z
  rcases he with r|r
  ·exact hx b n r
  ·rw[n]at r;cases r
 have hm:∀b u,H b=some u->¬Bi (some u)->b≠x:=fun b u q nm z=>by subst z;rw[q]at mu;exact nm mu
 refine⟨fun b u q n _ _=>k b u (hb b n) q,fun b u q n _ _=>⟨u.slots,k b u (hb b n) q⟩,fun b u q n _=>by rw[aw (hx b n)];exact n,fun b u q _=> ?_,
  fun b xs q=>by rw[aw (hm b _ q fun z=>z)];exact q,fun b u xs q=>by rw[aw (hm b _ q fun z=>z)];exact q,fun b ps q=>⟨#[],by rw[aw (hm b _ q fun z=>z),q];simp⟩⟩
 by_cases hbe:b=e
 ·subst hbe;exact heo
 ·exact⟨u,k b u hbe q⟩
end
noncomputable def CC (h:Heap) (H:Hp):List Addr:=(List.range h.objs.size).filter fun a=>(H a).isSome
noncomputable def nF (h:Heap) (H:Hp):Heap:=PySem.W.hideAll h (CC h H)
theorem sD (h:Heap) (H:Hp):(nF h H).objs.size=h.objs.size:=PySem.W.hideAll_size _ _
theorem ug {h:Heap} {H:Hp} {b:Addr} {o:Obj} (e:h.get? b=some o) (n:H b=none):(nF h H).get? b=some o:=
 PySem.W.hideAll_get _ e fun hm=>by
  have q:(H b).isSome=true:=(List.mem_filter.mp hm).2
  rw[n]at q;simp at q
theorem wG {h:Heap} {H:Hp} {b:Addr} {o:Obj} (e:(nF h H).get? b=some o):h.get? b=some o/\H b=none:=by
 have e':h.get? b=some o:=PySem.W.of_hideAll (CC h H) e
 refine⟨e',?_⟩
 cases q:H b with
 |none=>rfl
 |some x=>
  have hm:b∈CC h H:=List.mem_filter.mpr ⟨List.mem_range.mpr (Heap.lt_size e'),by simp[q]⟩
  have z:(nF h H).get? b=none:=PySem.W.hideAll_none (CC h H) hm
  rw[z]at e;cases e
end L2
namespace L2
open PySem PySem.Spec PyProof.Rows
structure Mod (K:PySem.W.Frag) (mg:Str->Option Value) (base:Heap):Prop where
 kin:K.In base
 glob:base.Ns mainGlobals mg
 blt:∃mb,base.Ns builtinsNs mb/\∀x:Str,x≠"__name__"->mb x=bootBuiltins x
 nolimit:base.NoLimit
structure Cx where
 prog:Program
 w:World
 K:PySem.W.Frag
 mg:Str->Option Value
 base:Heap
 A:Around
 N:List Str
 s₀:Shared
 H₀:Hp
 env:Env
 outer:List Env
 stack:List Env
 ex:List Addr
 fn:Str->Bool
 calm:Bool
 pn:List (Addr×Obj)
 xe:Value->Shared->Prop
noncomputable def kS (l:List Env):List Addr:=l.filterMap (·.frame)
noncomputable abbrev Cx.fs (X:Cx):List Addr:=kS X.outer
noncomputable def rG (sc:Scope) (x:Str):Prop:=sc.names.lookup x=some .local\/sc.names.lookup x=some .cell\/sc.names.lookup x=some .free
noncomputable def uh (sc:Scope) (x:Str):Prop:=sc.names.lookup x=some .local\/sc.names.lookup x=some .cell
noncomputable def D4 (env:Env) (h:Heap) (m:Str->Option Value) (x:Str) (u:Value):Prop:=
 (env.kindOf x=some .local/\m x=some u)\/((env.kindOf x=some .cell\/env.kindOf x=some .free)/\∃c,env.cells.lookup x=some c/\h.IsCell c (some u))
structure Cx.Ok (X:Cx):Prop where
 mod:Mod X.K X.mg X.base
 kind:X.env.scope.kind= .function
 glob:X.env.globals=mainGlobals
 blt:X.env.builtins=builtinsNs
 above:X.s₀.heap.objs.size<=X.env.locals
 inj:∀x y c,X.env.cells.lookup x=some c->X.env.cells.lookup y=some c->x=y
 has:∀x,(X.env.kindOf x=some .cell\/X.env.kindOf x=some .free)->∃c,X.env.cells.lookup x=some c
 cab:∀x c,X.fn x=true->X.env.cells.lookup x=some c->X.s₀.heap.objs.size<=c
 hd:X.calm=true->X.A.handled=none
 frames:X.A.frames=some X.stack
 stk:X.stack=X.outer\/(X.stack=X.env::X.outer/\X.env.frame=some X.env.locals)
 exf:∀b∈X.ex,b≠X.env.locals/\∀x c,X.env.cells.lookup x=some c->c≠b
 bs:∀b o,X.base.get? b=some o->X.s₀.heap.get? b=some o/\X.H₀ b=none
 bsz:X.base.objs.size<=X.s₀.heap.objs.size
 noex:∀b o,X.base.get? b=some o->b∉X.ex
 exfs:∀b∈X.ex,b∉X.fs
 funs:X.s₀.heap.FunFrames X.base X.outer
 frf:∀b∈X.fs,X.H₀ b=none
structure aC (X:Cx) (pins:List (Addr×Obj)) (σ:List (Option V)) (H:Hp) (s:Shared):Prop where
 ok:X.Ok
 os:s.os=X.s₀.os
 bare:AllBare s.gens
 base:Un X.fs X.ex X.H₀ H X.s₀.heap s.heap
 loc:∃m,s.heap.Ns X.env.locals m/\∀(i:Nat) (x:Str) (v:V),X.N[i]? =some x->σ[i]? =some (some v)->rG X.env.scope x->∃u,bt v u/\D4 X.env s.heap m x u
 cell:∀x c,X.env.cells.lookup x=some c->∃v,s.heap.IsCell c v
 free:H X.env.locals=none
 freeC:∀x c,X.env.cells.lookup x=some c->H c=none
 pin:∀p∈X.pn++pins,s.heap.get? p.1=some p.2/\H p.1=none/\p.1≠X.env.locals/\p.1∉X.fs/\∀v,p.2.data≠ .cell v
 hok:gX X.prog X.w H s.heap
 len:σ.length=X.N.length
section
variable {X:Cx} {pins:List (Addr×Obj)} {σ:List (Option V)} {H H':Hp} {s:Shared} {h':Heap}
theorem Cx.Ok.nofr (ok:X.Ok) {b:Addr} {o:Obj} (e:X.base.get? b=some o):b∉X.fs:=fun hb=>by
 have:=(ok.funs.mem hb).1
 rw[e]at this;cases this
theorem aC.bs (I:aC X pins σ H s):∀b o,X.base.get? b=some o->s.heap.get? b=some o/\H b=none:=fun b o e=>
 ⟨I.base.keep b o (I.ok.bs b o e).1 (I.ok.bs b o e).2 (I.ok.nofr e) (I.ok.noex b o e),I.base.free b o (I.ok.bs b o e).1 (I.ok.bs b o e).2 (I.ok.noex b o e)⟩
theorem aC.bk (I:aC X pins σ H s):∀b o,X.base.get? b=some o->s.heap.get? b=some o:=fun b o e=>(I.bs b o e).1
theorem aC.mod (I:aC X pins σ H s):Mod X.K X.mg X.base:=I.ok.mod
theorem aC.kIn (I:aC X pins σ H s):X.K.In s.heap:=I.ok.mod.kin.keeps I.bk
theorem aC.lt (I:aC X pins σ H s):X.env.locals<s.heap.objs.size:=let ⟨_,hn,_⟩:=I.loc;hn.lt
theorem aC.sz (I:aC X pins σ H s):X.s₀.heap.objs.size<=s.heap.objs.size:=Nat.le_trans I.ok.above (Nat.le_of_lt I.lt)
theorem aC.nofs (I:aC X pins σ H s) {a:Addr} (h:s.heap.objs.size<=a):a∉X.fs:=fun hb=>by
 obtain⟨_,o,ho,_⟩:=I.ok.funs.mem hb
 exact absurd (Nat.lt_of_lt_of_le (Heap.lt_size ho) (Nat.le_trans I.sz h)) (Nat.lt_irrefl _)
theorem aC.cne (I:aC X pins σ H s):∀x c,X.env.cells.lookup x=some c->c≠X.env.locals:=fun x c e z=>by
 obtain⟨v,o,ho,hd⟩:=I.cell x c e
 obtain⟨m,⟨o',es,ep,ho',hd',_⟩,_⟩:=I.loc
 rw[z,ho']at ho;cases ho;rw[hd']at hd;cases hd
theorem aC.funs (I:aC X pins σ H s):s.heap.FunFrames X.base X.outer:=by
 have all:∀(l:List Env),(∀b∈kS l,b∈X.fs)->X.s₀.heap.FunFrames X.base l->s.heap.FunFrames X.base l:=by
  intro l
  induction l with
  |nil=>intro _ _;trivial
  |cons env r ih=>
   intro hs hl
   obtain⟨hk,⟨L,o,hf,hn,ho,hd⟩,hr⟩:=hl
   have hL:L∈X.fs:=hs L (by unfold kS;rw[List.filterMap_cons,hf];exact List.mem_cons_self)
   obtain⟨sl,e⟩:=I.base.slot L o ho (I.ok.frf L hL) hL fun z=>I.ok.exfs L z hL
   exact⟨hk,⟨L,_,hf,hn,e,hd⟩,ih (fun b hb=>hs b (by unfold kS;rw[List.filterMap_cons,hf];exact List.mem_cons_of_mem _ hb)) hr⟩
 exact all X.outer (fun _ hb=>hb) I.ok.funs
theorem aC.stack (I:aC X pins σ H s):s.heap.FunFrames X.base X.stack:=by
 rcases I.ok.stk with e|⟨e,hf⟩
 ·rw[e];exact I.funs
 ·rw[e]
  obtain⟨m,hn,_⟩:=I.loc
  refine .cons (by rw[I.ok.kind];decide) hf hn ?_ I.funs
  exact Heap.get?_none_of_le (Nat.le_trans I.ok.bsz I.ok.above)
theorem aC.stkSub (I:aC X pins σ H s):∀b∈kS X.stack,b∈X.env.locals::X.fs:=fun b hb=>by
 rcases I.ok.stk with e|⟨e,hf⟩
 ·rw[e]at hb;exact List.mem_cons_of_mem _ hb
 ·rw[e]at hb
  unfold kS at hb
  rw[List.filterMap_cons,hf]at hb
  exact hb
theorem aC.stkFree (I:aC X pins σ H s):∀b∈kS X.stack,H b=none:=fun b hb=>by
 rcases List.mem_cons.mp (I.stkSub b hb)with e|hb
 ·rw[e];exact I.free
 ·obtain⟨_,o,ho,_⟩:=I.ok.funs.mem hb
  exact I.base.free b o ho (I.ok.frf b hb) fun z=>I.ok.exfs b z hb
theorem aC.step {g':Array GenState} {t':Nat} {d':Drawn} {ch:List Addr} (I:aC X pins σ H s)
  (hch:∀b∈ch,(b∈X.ex\/X.s₀.heap.get? b=none)/\b≠X.env.locals/\(∀x c,X.env.cells.lookup x=some c->c≠b)/\∀p∈X.pn++pins,p.1≠b)
  (keep:∀b o,b≠X.env.locals->b∉X.fs->b∉ch->s.heap.get? b=some o->H b=none->h'.get? b=some o)
  (slot:∀b o,b≠X.env.locals->b∈X.fs->b∉ch->s.heap.get? b=some o->H b=none->∃sl,h'.get? b=some {o with slots:=sl}) (free:∀b o,b∉ch->s.heap.get? b=some o->H b=none->H' b=none)
  (there:∀b o,b∉ch->s.heap.get? b=some o->∃o',h'.get? b=some o')
  (tups:∀b xs,H b=some (.tup xs)->H' b=some (.tup xs)) (frzs:∀b o u,H b=some (.frz o u)->H' b=some (.frz o u)) (tbls:∀b ps,H b=some (.tbl ps)->∃more,H' b=some (.tbl (ps++more)))
  (ns:∀m,s.heap.Ns X.env.locals m->h'.Ns X.env.locals m) (hok:gX X.prog X.w H' h') (hg:AllBare g'):
  aC X pins σ H' {s with heap:=h',gens:=g',drawn:=d',toks:=t'}:=by
 have neL:∀b o,X.s₀.heap.get? b=some o->b≠X.env.locals:=fun b o e=>Nat.ne_of_lt (Nat.lt_of_lt_of_le (Heap.lt_size e) I.ok.above)
 have neC:∀b o,X.s₀.heap.get? b=some o->b∉X.ex->b∉ch:=fun b o e hx hb=>by
  rcases(hch b hb).1 with z|z
  ·exact hx z
  ·rw[e]at z;cases z
 have cellK:∀x c,X.env.cells.lookup x=some c->∀v,s.heap.IsCell c v->h'.IsCell c v:=fun x c e v ⟨o,ho,hd⟩=>by
  have nch:c∉ch:=fun z=>(hch c z).2.2.1 x c e rfl
  by_cases hc:c∈X.fs
  ·obtain⟨sl,q⟩:=slot c o (I.cne x c e) hc nch ho (I.freeC x c e)
   exact⟨_,q,hd⟩
  ·exact⟨o,keep c o (I.cne x c e) hc nch ho (I.freeC x c e),hd⟩
 refine⟨I.ok,I.os,hg,⟨fun b o e n hb hx=> ?_,fun b o e n hb hx=> ?_,fun b o e n hx=> ?_,fun b o e hx=> ?_,fun b xs e=>tups b xs (I.base.tups b xs e),fun b o xs e=>frzs b o xs (I.base.frzs b o xs e),fun b ps e=> ?_⟩,?_,fun x c e=> ?_,?_,fun x c e=> ?_,fun p hp=> ?_,hok,I.len⟩
 ·exact keep b o (neL b o e) hb (neC b o e hx) (I.base.keep b o e n hb hx) (I.base.free b o e n hx)
 ·obtain⟨sl,e1⟩:=I.base.slot b o e n hb hx
  obtain⟨sl',e2⟩:=slot b _ (neL b o e) hb (neC b o e hx) e1 (I.base.free b o e n hx)
  exact⟨sl',e2⟩
 ·obtain⟨o',e1⟩:=I.base.there b o e hx
  exact free b o' (neC b o e hx) e1 (I.base.free b o e n hx)
 ·obtain⟨o',e1⟩:=I.base.there b o e hx
  exact there b o' (neC b o e hx) e1
 ·obtain⟨m1,e1⟩:=I.base.tbls b ps e
  obtain⟨m2,e2⟩:=tbls b _ e1
  exact⟨m1++m2,by rw[e2,Array.append_assoc]⟩
 ·obtain⟨m,hn,hl⟩:=I.loc
  refine⟨m,ns m hn,fun i x v e1 e2 e3=> ?_⟩
  obtain⟨u,r,l⟩:=hl i x v e1 e2 e3
  refine⟨u,r,?_⟩
  rcases l with l|⟨k,c,e,z⟩
  ·exact .inl l
  ·exact .inr ⟨k,c,e,cellK x c e _ z⟩
 ·obtain⟨v,z⟩:=I.cell x c e
  exact⟨v,cellK x c e v z⟩
 ·obtain⟨m,⟨o,_,_,ho,_⟩,_⟩:=I.loc
  exact free _ o (fun z=>(hch _ z).2.1 rfl) ho I.free
 ·obtain⟨v,o,ho,hd⟩:=I.cell x c e
  exact free c o (fun z=>(hch c z).2.2.1 x c e rfl) ho (I.freeC x c e)
 ·obtain⟨e,n,ne,nf,d⟩:=I.pin p hp
  have nch:p.1∉ch:=fun z=>(hch p.1 z).2.2.2 p hp rfl
  exact⟨keep p.1 p.2 ne nf nch e n,free p.1 p.2 nch e n,ne,nf,d⟩
theorem aC.un {t':Nat} (I:aC X pins σ H s) (u:Un X.fs [] H H' s.heap h') (hok:gX X.prog X.w H' h'):aC X pins σ H' {s with heap:=h',toks:=t'}:=by
 obtain⟨m,⟨o,es,ep,ho,r⟩,_⟩:=id I.loc
 obtain⟨sl,hL⟩:=u.any ho I.free (by simp)
 exact I.step (g':=s.gens) (d':=s.drawn) (ch:=[]) (fun _ z=>nomatch z) (fun b o _ hb _ e n=>u.keep b o e n hb (by simp)) (fun b o _ hb _ e n=>u.slot b o e n hb (by simp)) (fun b o _ e n=>u.free b o e n (by simp)) (fun b o _ e=>u.there b o e (by simp)) u.tups u.frzs u.tbls (fun m' hm=>by
  obtain⟨o',es',ep',ho',r'⟩:=hm
  rw[ho]at ho';cases ho'
  exact⟨_,es',ep',hL,r'⟩) hok I.bare
theorem aC.call {g':Array GenState} {t':Nat} {d':Drawn} {ch:List Addr} (I:aC X pins σ H s) (u:Un (kS X.stack) ch H H' s.heap h') (hok:gX X.prog X.w H' h') (hg:AllBare g')
  (hch:∀b∈ch,(b∈X.ex\/X.s₀.heap.objs.size<=b)/\b≠X.env.locals/\(∀x c,X.env.cells.lookup x=some c->c≠b)/\∀p∈X.pn++pins,p.1≠b):
  aC X pins σ H' {s with heap:=h',gens:=g',drawn:=d',toks:=t'}:=by
 obtain⟨m,⟨o,es,ep,ho,r⟩,_⟩:=id I.loc
 obtain⟨sl,hL⟩:=u.any ho I.free fun z=>(hch _ z).2.1 rfl
 exact I.step (ch:=ch) (fun b hb=>⟨(hch b hb).1.imp id Heap.get?_none_of_le,(hch b hb).2⟩) (fun b o hL hb hc e n=>u.keep b o e n (fun z=>(List.mem_cons.mp (I.stkSub b z)).elim hL hb) hc) (fun b o _ _ hc e n=>u.any e n hc) (fun b o hc e n=>u.free b o e n hc) (fun b o hc e=>u.there b o e hc) u.tups u.frzs u.tbls (fun m' hm=>by
  obtain⟨o',es',ep',ho',r'⟩:=hm
  rw[ho]at ho';cases ho'
  exact⟨_,es',ep',hL,r'⟩) hok hg
theorem aC.turned {t':Nat} {it:Addr} (I:aC X pins σ H s) (k:∀b o,b≠it->s.heap.get? b=some o->h'.get? b=some o) (hn:H it=none) (hL:it≠X.env.locals)
  (h1:it∈X.ex\/X.s₀.heap.objs.size<=it) (h2:∀x c,X.env.cells.lookup x=some c->c≠it) (h3:∀p∈X.pn++pins,p.1≠it):aC X pins σ H {s with heap:=h',toks:=t'}:=by
 have nit:∀b u,H b=some u->b≠it:=fun b u e z=>by rw[z,hn]at e;cases e
 refine I.step (g':=s.gens) (d':=s.drawn) (ch:=[it]) (fun b hb=> ?_) (fun b o _ _ hc e _=>k b o (fun z=>hc (by simp[z])) e) (fun b o _ _ hc e _=>⟨o.slots,k b o (fun z=>hc (by simp[z])) e⟩) (fun _ _ _ _ n=>n)
  (fun b o hc e=>⟨o,k b o (fun z=>hc (by simp[z])) e⟩) (fun _ _ e=>e) (fun _ _ _ e=>e) (fun b ps e=>⟨#[],by rw[e];simp⟩) (fun m hm=> ?_) (fun b u e=> ?_) I.bare
 ·have e:b=it:=by simpa using hb
  subst e
  exact⟨h1.imp id Heap.get?_none_of_le,hL,h2,h3⟩
 ·obtain⟨o,es,ep,ho,r⟩:=hm
  exact⟨o,es,ep,k _ o (Ne.symm hL) ho,r⟩
 ·refine(I.hok b u e).stay (fun c v hc q=>k c v ?_ q) (fun _ q=>q) fun _ _ q=>q
  rcases hc with z|z
  ·rw[z];exact nit b u e
  ·exact nit c _ z
theorem aC.tok (I:aC X pins σ H s) (t:Nat):aC X pins σ H {s with toks:=t}:=I.un (h':=s.heap) (t':=t) Un.refl I.hok
theorem aC.kept {t':Nat} (I:aC X pins σ H s) (k:∀b u,s.heap.get? b=some u->h'.get? b=some u):aC X pins σ H {s with heap:=h',toks:=t'}:=I.un (Un.kept k) (I.hok.kept k)
theorem aC.laid {a:Addr} {o:HO} {t':Nat} (I:aC X pins σ H s) (k:∀b u,s.heap.get? b=some u->h'.get? b=some u) (hp:s.heap.objs.size<=a) (new:bK X.prog X.w (br H a o) h' a o):
  aC X pins σ (br H a o) {s with heap:=h',toks:=t'}:=I.un (Un.laid k hp (I.hok.fresh hp)) (I.hok.laid k hp new)
theorem aC.write {x e:Addr} {o:HO} {t':Nat} (I:aC X pins σ H s) (mu:Bi (H x)) (he:e=x\/H e=some (.own x)) (k:∀b u,b≠e->s.heap.get? b=some u->h'.get? b=some u) (heo:∃u,h'.get? e=some u)
  (new:bK X.prog X.w (br H x o) h' x o):aC X pins σ (br H x o) {s with heap:=h',toks:=t'}:=I.un (Un.write mu he k heo) (I.hok.write mu he k heo new)
theorem aC.pins_of {pins':List (Addr×Obj)} (I:aC X pins σ H s) (h:∀p∈pins',s.heap.get? p.1=some p.2/\H p.1=none/\p.1≠X.env.locals/\p.1∉X.fs/\∀v,p.2.data≠ .cell v):aC X pins' σ H s:=
 ⟨I.ok,I.os,I.bare,I.base,I.loc,I.cell,I.free,I.freeC,fun p hp=>(List.mem_append.mp hp).elim (fun z=>I.pin p (List.mem_append_left _ z)) (h p),I.hok,I.len⟩
theorem lg {N:List Str} (hN:N.Nodup) {i j:Nat} {x:Str} (a:N[i]? =some x) (b:N[j]? =some x):i=j:=by
 obtain⟨h1,e1⟩:=List.getElem?_eq_some_iff.mp a
 obtain⟨h2,e2⟩:=List.getElem?_eq_some_iff.mp b
 exact(List.getElem_inj hN).mp (e1.trans e2.symm)
theorem sE {M:Model} {A:Around} {E:Value->Shared->Prop} {i:Nat} {x:Str} {v:V} {u:Value} {Q:Unit->Shared->Prop} (I:aC X pins σ H s) (hN:X.N.Nodup) (hi:X.N[i]? =some x) (hx:uh X.env.scope x) (r:bt v u)
  (h:∀s',aC X pins (σ.set i (some v)) H s'->(∃a,Heap.SameBut a s.heap s'.heap/\(a=X.env.locals\/X.env.cells.lookup x=some a))->Q () s') (hf:X.fn x=true\/X.env.scope.names.lookup x=some .local:=by first|exact .inl rfl|exact .inr rfl|assumption):wpAny M A (storeName X.env x u) Q E s:=by
 obtain⟨m,hn,hl⟩:=id I.loc
 have hcls:(X.env.scope.kind== .class||(X.env.scope.kind== .module&&X.env.locals != X.env.globals))=false:=by rw[I.ok.kind];rfl
 have hiσ:i<σ.length:=by rw[I.len];exact(List.getElem?_eq_some_iff.mp hi).1
 have cne:=I.cne
 have tracked:∀{a:Addr} {h':Heap},(∃o,s.heap.get? a=some o/\H a=none)->Heap.SameBut a s.heap h'->gX X.prog X.w H h':=fun {a h'} ha hs b ob e=>by
  obtain⟨_,_,hfree⟩:=ha
  refine(I.hok b ob e).stay (fun c w' hc q=>(hs.2 c ?_).trans q) (fun _ q=>q) fun _ _ q=>q
  rintro rfl
  rcases hc with rfl|hc
  ·rw[hfree]at e;cases e
  ·rw[hfree]at hc;cases hc
 rcases hx with hk|hk
 ·refine wpAny_storeName_local hk hn (fun h' hn' hs=> ?_) hcls
  obtain⟨oL,_,_,hoL,_⟩:=id hn
  refine h _ ⟨I.ok,I.os,I.bare,⟨fun b o e n hb hx=> ?_,fun b o e n hb hx=> ?_,I.base.free,fun b o e hx=> ?_,I.base.tups,I.base.frzs,I.base.tbls⟩,⟨_,hn',fun j y v' e1 e2 e3=> ?_⟩,fun y c e=> ?_,I.free,I.freeC,fun p hp=> ?_,tracked ⟨oL,hoL,I.free⟩ hs,by simpa using I.len⟩ ⟨_,hs, .inl rfl⟩
  ·exact(hs.2 b (Nat.ne_of_lt (Nat.lt_of_lt_of_le (Heap.lt_size e) I.ok.above))).trans (I.base.keep b o e n hb hx)
  ·obtain⟨sl,e1⟩:=I.base.slot b o e n hb hx
   exact⟨sl,(hs.2 b (Nat.ne_of_lt (Nat.lt_of_lt_of_le (Heap.lt_size e) I.ok.above))).trans e1⟩
  ·obtain⟨o',e1⟩:=I.base.there b o e hx
   exact⟨o',(hs.2 b (Nat.ne_of_lt (Nat.lt_of_lt_of_le (Heap.lt_size e) I.ok.above))).trans e1⟩
  ·by_cases hj:j=i
   ·subst hj
    rw[hi]at e1;cases e1
    rw[List.getElem?_set_self hiσ]at e2
    cases e2
    exact⟨u,r, .inl ⟨hk,by simp⟩⟩
   ·rw[List.getElem?_set_ne (Ne.symm hj)]at e2
    obtain⟨u',r',q⟩:=hl j y v' e1 e2 e3
    refine⟨u',r',?_⟩
    rcases q with ⟨k,e⟩|⟨k,c,e,z⟩
    ·refine .inl ⟨k,?_⟩
     have:y≠x:=fun e=>hj (lg hN e1 (e▸hi))
     simp[this,e]
    ·exact .inr ⟨k,c,e,z.sameBut hs (cne y c e)⟩
  ·obtain⟨w',z⟩:=I.cell y c e
   exact⟨w',z.sameBut hs (cne y c e)⟩
  ·obtain⟨e,n,ne,nf,d⟩:=I.pin p hp
   exact⟨(hs.2 p.1 ne).trans e,n,ne,nf,d⟩
 ·have hfn:X.fn x=true:=by
   rcases hf with z|z
   ·exact z
   ·rw[z]at hk;cases hk
  obtain⟨c,hc⟩:=I.ok.has x (.inl hk)
  obtain⟨w',z⟩:=I.cell x c hc
  refine wpAny_storeName_cell I.ok.kind hk hc z (fun h' hc' hs=> ?_)
  obtain⟨oc,hoc,hocd⟩:=id z
  refine h {s with heap:=h'} ⟨I.ok,I.os,I.bare,⟨fun b o e n hb hx=> ?_,fun b o e n hb hx=> ?_,I.base.free,fun b o e hx=> ?_,I.base.tups,I.base.frzs,I.base.tbls⟩,⟨m,hn.sameBut hs (Ne.symm (cne x c hc)),fun j y v' e1 e2 e3=> ?_⟩,fun y c' e=> ?_,I.free,I.freeC,fun p hp=> ?_,tracked ⟨oc,hoc,I.freeC x c hc⟩ hs,by simpa using I.len⟩ ⟨c,hs, .inr hc⟩
  ·exact(hs.2 b (Nat.ne_of_lt (Nat.lt_of_lt_of_le (Heap.lt_size e) (I.ok.cab x c hfn hc)))).trans (I.base.keep b o e n hb hx)
  ·obtain⟨sl,e1⟩:=I.base.slot b o e n hb hx
   exact⟨sl,(hs.2 b (Nat.ne_of_lt (Nat.lt_of_lt_of_le (Heap.lt_size e) (I.ok.cab x c hfn hc)))).trans e1⟩
  ·obtain⟨o',e1⟩:=I.base.there b o e hx
   exact⟨o',(hs.2 b (Nat.ne_of_lt (Nat.lt_of_lt_of_le (Heap.lt_size e) (I.ok.cab x c hfn hc)))).trans e1⟩
  ·by_cases hj:j=i
   ·subst hj
    rw[hi]at e1;cases e1
    rw[List.getElem?_set_self hiσ]at e2
    cases e2
    exact⟨u,r, .inr ⟨.inl hk,c,hc,hc'⟩⟩
   ·rw[List.getElem?_set_ne (Ne.symm hj)]at e2
    obtain⟨u',r',q⟩:=hl j y v' e1 e2 e3
    refine⟨u',r',?_⟩
    rcases q with q|⟨k,c',e,z'⟩
    ·exact .inl q
    ·refine .inr ⟨k,c',e,z'.sameBut hs ?_⟩
     rintro rfl
     exact hj (lg hN e1 (I.ok.inj _ _ _ e hc▸hi))
  ·by_cases hcc:c'=c
   ·subst hcc;exact⟨_,hc'⟩
   ·obtain⟨w2,z2⟩:=I.cell y c' e
    exact⟨w2,z2.sameBut hs hcc⟩
  ·obtain⟨e,n,ne,nf,d⟩:=I.pin p hp
   refine⟨(hs.2 p.1 ?_).trans e,n,ne,nf,d⟩
   intro q
   rw[q,hoc]at e
   have q':oc=p.2:=Option.some.inj e
   exact d w' (by rw[<-q'];exact hocd)
theorem lh {M:Model} {A:Around} {E:Value->Shared->Prop} {i:Nat} {x:Str} {v:V} {u:Value} {Q:Unit->Shared->Prop} (I:aC X pins σ H s) (hN:X.N.Nodup) (hi:X.N[i]? =some x) (hx:uh X.env.scope x) (r:bt v u)
  (h:∀s',aC X pins (σ.set i (some v)) H s'->Q () s') (hf:X.fn x=true\/X.env.scope.names.lookup x=some .local:=by first|exact .inl rfl|exact .inr rfl|assumption):wpAny M A (storeName X.env x u) Q E s:=
 sE I hN hi hx r (fun s' I' _=>h s' I') hf
theorem aC.call' {s':Shared} {ch:List Addr} (I:aC X pins σ H s) (ho:s'.os=s.os) (u:Un (kS X.stack) ch H H' s.heap s'.heap) (hok:gX X.prog X.w H' s'.heap) (hg:AllBare s'.gens)
  (hch:∀b∈ch,(b∈X.ex\/X.s₀.heap.objs.size<=b)/\b≠X.env.locals/\(∀x c,X.env.cells.lookup x=some c->c≠b)/\∀p∈X.pn++pins,p.1≠b):aC X pins σ H' s':=by
 obtain⟨h',g',d',t',o'⟩:=s'
 have e:o'=s.os:=ho
 subst e
 exact I.call (g':=g') (t':=t') (d':=d') u hok hg hch
end
noncomputable abbrev XK:=Value->Option Addr->Hp->Prop
noncomputable abbrev St:=List (Option V)
noncomputable abbrev VK:=V->Hp->Prop
noncomputable abbrev TE:=St->Hp->VK->Prop
noncomputable abbrev TT:=St->Hp->(Bool->Hp->Prop)->Prop
noncomputable abbrev TA:=St->Hp->(List V->Hp->Prop)->Prop
structure ja where
 nx:St->Hp->Prop
 rt:VK
 bk:St->Hp->Prop:=fun _ _=>False
 ct:St->Hp->Prop:=fun _ _=>False
noncomputable abbrev TS:=ja->St->Hp->Prop
noncomputable def EP (X:Cx) (pins:List (Addr×Obj)) (σ:St) (Q:VK) (u:Value) (s':Shared):Prop:=∃v H',aC X pins σ H' s'/\bt v u/\Q v H'
noncomputable def TP (X:Cx) (pins:List (Addr×Obj)) (σ:St) (Q:Bool->Hp->Prop) (b:Bool) (s':Shared):Prop:=∃H',aC X pins σ H' s'/\Q b H'
noncomputable def AP (X:Cx) (pins:List (Addr×Obj)) (σ:St) (Q:List V->Hp->Prop) (us:List Value) (s':Shared):Prop:=∃vs H',aC X pins σ H' s'/\aO vs us/\Q vs H'
noncomputable def SP (X:Cx) (pins:List (Addr×Obj)) (D:ja) (f:Flow) (s':Shared):Prop:=
 match f with
 | .next=>∃σ' H',aC X pins σ' H' s'/\D.nx σ' H'
 | .brk=>∃σ' H',aC X pins σ' H' s'/\D.bk σ' H'
 | .cont=>∃σ' H',aC X pins σ' H' s'/\D.ct σ' H'
 | .ret u=>∃v σ' H',aC X pins σ' H' s'/\bt v u/\D.rt v H'
noncomputable def PE (X:Cx) (e:Expr) (t:TE):Prop:=
 ∀(pins:List (Addr×Obj)) (s:Shared) (σ:St) (H:Hp) (Q:VK),aC X pins σ H s->t σ H Q->wpAny (model X.prog X.w) X.A (eval e X.env) (EP X pins σ Q) X.xe s
noncomputable def PT (X:Cx) (e:Expr) (t:TT):Prop:=
 ∀(pins:List (Addr×Obj)) (s:Shared) (σ:St) (H:Hp) (Q:Bool->Hp->Prop),aC X pins σ H s->t σ H Q->wpAny (model X.prog X.w) X.A (isTrue e X.env (eval e X.env)) (TP X pins σ Q) X.xe s
noncomputable def PW (X:Cx) (e:Expr) (t:TT):Prop:=
 ∀(whole:Sem Value) (pins:List (Addr×Obj)) (s:Shared) (σ:St) (H:Hp) (Q:Bool->Hp->Prop),aC X pins σ H s->t σ H Q->wpAny (model X.prog X.w) X.A (isTrue e X.env whole) (TP X pins σ Q) X.xe s
theorem PW.pt {X:Cx} {e:Expr} {t:TT} (h:PW X e t):PT X e t:=h _
noncomputable def PA (X:Cx) (es:List Expr) (t:TA):Prop:=
 ∀(pos:Pos) (pins:List (Addr×Obj)) (s:Shared) (σ:St) (H:Hp) (Q:List V->Hp->Prop),aC X pins σ H s->t σ H Q->wpAny (model X.prog X.w) X.A (spliced (backTo pos (starEach es X.env))) (AP X pins σ Q) X.xe s
noncomputable def PS (X:Cx) (st:Stmt) (t:TS):Prop:=
 ∀(pins:List (Addr×Obj)) (s:Shared) (σ:St) (H:Hp) (D:ja),aC X pins σ H s->t D σ H->wpAny (model X.prog X.w) X.A (exec st X.env) (SP X pins D) X.xe s
noncomputable def mL (X:Cx) (st:List Stmt) (t:TS):Prop:=
 ∀(pins:List (Addr×Obj)) (s:Shared) (σ:St) (H:Hp) (D:ja),aC X pins σ H s->t D σ H->wpAny (model X.prog X.w) X.A (execs st X.env) (SP X pins D) X.xe s
theorem cb {α:Type} {t:Sem α} {Q Q':α->Shared->Prop} {M:Model} {A:Around} {E:Value->Shared->Prop} {s:Shared} (h:wpAny M A t Q E s) (hQ:∀a s,Q a s->Q' a s):wpAny M A t Q' E s:=wpAny_mono h hQ fun _ _ x=>x
end L2
namespace L2
open PySem PySem.Spec PyProof.Rows
section
variable {X:Cx}
noncomputable def wH (i:Nat):TE:=fun σ H Q=>∃v,σ[i]? =some (some v)/\Q v H
noncomputable def tC (v:V):TE:=fun _ H Q=>Q v H
theorem zp {i:Nat} {x:Str} {pos:Pos} (hN:X.N[i]? =some x) (hv:rG X.env.scope x) (hd:(x==("__debug__":Str))=false:=by decide) (hcd:(x==("__classdict__":Str))=false:=by decide):PE X (.Name x pos) (wH i):=by
 intro pins s σ H Q I h
 obtain⟨v,e,h⟩:=h
 obtain⟨m,hn,hl⟩:=I.loc
 obtain⟨u,r,l⟩:=hl i x v hN e hv
 have fin:EP X pins σ Q u s:=⟨v,H,I,r,h⟩
 rcases l with ⟨hk,hm⟩|⟨hk,c,hc,hcell⟩
 ·exact wpAny_Name (wpAny_loadName_local I.ok.kind hk hn hm fin) hd
 ·rcases hk with hk|hk
  ·exact wpAny_Name (wpAny_loadName_cell I.ok.kind hk hc hcell fin) hd
  ·exact wpAny_Name (wpAny_loadName_free I.ok.kind hk hc hcell fin hcd) hd
theorem ui {i j pos}:PE X (.Constant (.int i) j pos) (tC (.int i)):=fun _ _ _ H _ I h=>wpAny_Constant_int ⟨.int i,H,I.tok _,⟨_,rfl⟩,h⟩
theorem Bj {b j pos}:PE X (.Constant (.bool b) j pos) (tC (.bl b)):=fun _ _ _ H _ I h=>Constant_bool ⟨.bl b,H,I,rfl,h⟩
theorem zq {j pos}:PE X (.Constant .none j pos) (tC .non):=fun _ _ _ H _ I h=>Constant_none ⟨.non,H,I,rfl,h⟩
theorem zr {x j pos}:PE X (.Constant (.str x) j pos) (tC (.str x)):=fun _ _ _ H _ I h=>Calls.Constant_str ⟨.str x,H,I.tok _,⟨_,rfl⟩,h⟩
noncomputable def Gl (X:Cx) (x:Str):Prop:=X.env.kindOf x=some .globalImplicit
theorem jb {E:Value->Shared->Prop} {pins:List (Addr×Obj)} {s:Shared} {σ:St} {H:Hp} {x:Str} {u:Value} {pos:Pos} {Q:Value->Shared->Prop} (I:aC X pins σ H s) (hg:Gl X x) (hm:X.mg x=some u) (h:Q u s)
  (hd:(x==("__debug__":Str))=false:=by decide):wpAny (model X.prog X.w) X.A (eval (.Name x pos) X.env) Q E s:=
 Calls.Name_function_global I.ok.kind hg (Calls.loadGlobal_global (by rw[I.ok.glob];exact I.mod.glob.keeps I.bk) hm h) hd
theorem jQ {E:Value->Shared->Prop} {pins:List (Addr×Obj)} {s:Shared} {σ:St} {H:Hp} {x:Str} {u:Value} {pos:Pos} {Q:Value->Shared->Prop} (I:aC X pins σ H s) (hg:Gl X x) (hm:X.mg x=none) (hv:bootBuiltins x=some u) (h:Q u s)
  (hn:x≠"__name__":=by decide) (hd:(x==("__debug__":Str))=false:=by decide):wpAny (model X.prog X.w) X.A (eval (.Name x pos) X.env) Q E s:=by
 obtain⟨mb,h1,h2⟩:=I.mod.blt
 exact Calls.Name_function_global I.ok.kind hg (Calls.loadGlobal_builtin (by rw[I.ok.glob];exact I.mod.glob.keeps I.bk) hm (by rw[I.ok.blt];exact h1.keeps I.bk) ((h2 x hn).trans hv) h) hd
theorem wI {x:Str} {v:V} {u:Value} {pos:Pos} (hg:Gl X x) (hm:X.mg x=some u) (r:bt v u) (hd:(x==("__debug__":Str))=false:=by decide):PE X (.Name x pos) (tC v):=
 fun _ _ _ H _ I h=>jb I hg hm ⟨v,H,I,r,h⟩ hd
theorem wJ {x:Str} {v:V} {u:Value} {pos:Pos} (hg:Gl X x) (hm:X.mg x=none) (hv:bootBuiltins x=some u) (r:bt v u) (hn:x≠"__name__":=by decide) (hd:(x==("__debug__":Str))=false:=by decide):PE X (.Name x pos) (tC v):=
 fun _ _ _ H _ I h=>jQ I hg hm hv ⟨v,H,I,r,h⟩ hn hd
variable {a b:Expr} {ta tb:TE} {pos:Pos}
noncomputable def PC (X:Cx) (op:CmpOp) (a b:Expr) (t:TE):Prop:=
 ∀(pins:List (Addr×Obj)) (s:Shared) (σ:St) (H:Hp) (Q:VK),aC X pins σ H s->t σ H Q->
  wpAny (model X.prog X.w) X.A (eval a X.env) (fun v s₁=>wpAny (model X.prog X.w) X.A (eval b X.env) (fun u s₂=>wpAny (model X.prog X.w) X.A (compareOp op v u) (EP X pins σ Q) X.xe s₂) X.xe s₁) X.xe s
noncomputable def tB (t:TE):TT:=fun σ H Q=>t σ H fun x H1=>∃c,x= .bl c/\Q c H1
theorem zt {op:CmpOp} {t:TE} (h:PC X op a b t) (h1:behindInMarks op b=false:=by first|exact nobehind _ (by decide) (by decide)|rfl):PE X (.Compare a [op] [b] pos) t:=fun pins s σ H Q I hw=>wpAny_Compare1 (h pins s σ H Q I hw) h1
theorem uj {op:CmpOp} {t:TE} (h:PC X op a b t) (h1:behindInMarks op b=false:=by first|exact nobehind _ (by decide) (by decide)|rfl):PT X (.Compare a [op] [b] pos) (tB t):=by
 intro pins s σ H Q I hw
 refine wpAny_isTrue_Compare1 (cb (h pins s σ H _ I hw) fun v s1 h1=>cb h1 fun u s2 h2=>cb h2 fun c s3 z_=> ?_) h1
 obtain⟨x,H1,I1,r1,q1⟩:=z_
 obtain⟨d,rfl,q⟩:=q1
 cases r1
 exact wpAny_truthy_bool ⟨H1,I1,q⟩
variable {tA tB':TT} {rest:List Expr}
noncomputable def D5 (t u:TT):TT:=fun σ H Q=>t σ H fun c H1=>if c=true then u σ H1 Q else Q false H1
noncomputable def DV (t u:TT):TT:=fun σ H Q=>t σ H fun c H1=>if c=true then Q true H1 else u σ H1 Q
noncomputable def D6 (t:TT):TT:=fun σ H Q=>t σ H fun c H1=>Q (!c) H1
theorem wK (ha:PT X a tA):PW X (.BoolOp .And [a] pos) tA:=by
 intro wh pins s σ H Q I h
 refine isTrue_and (cb (ha pins s σ H Q I h) fun c s1 e=> ?_)
 cases c with
 |true=>exact isTrue_and_nil e
 |false=>exact e
theorem zu (ha:PT X a tA):PW X (.BoolOp .Or [a] pos) tA:=by
 intro wh pins s σ H Q I h
 refine isTrue_or (cb (ha pins s σ H Q I h) fun c s1 e=> ?_)
 cases c with
 |false=>exact isTrue_or_nil e
 |true=>exact e
theorem zv (ha:PT X a tA) (hb:PW X (.BoolOp .And (b::rest) pos) tB'):PW X (.BoolOp .And (a::b::rest) pos) (D5 tA tB'):=by
 intro wh pins s σ H Q I h
 refine isTrue_and (cb (ha pins s σ H _ I h) fun c s1 z_=> ?_)
 obtain⟨H1,I1,q1⟩:=z_
 cases c with
 |true=>exact hb wh pins s1 σ H1 Q I1 q1
 |false=>exact⟨H1,I1,q1⟩
theorem Bk (ha:PT X a tA) (hb:PW X (.BoolOp .Or (b::rest) pos) tB'):PW X (.BoolOp .Or (a::b::rest) pos) (DV tA tB'):=by
 intro wh pins s σ H Q I h
 refine isTrue_or (cb (ha pins s σ H _ I h) fun c s1 z_=> ?_)
 obtain⟨H1,I1,q1⟩:=z_
 cases c with
 |true=>exact⟨H1,I1,q1⟩
 |false=>exact hb wh pins s1 σ H1 Q I1 q1
theorem zw (ha:PT X a tA):PT X (.UnaryOp .Not a pos) (D6 tA):=by
 intro pins s σ H Q I h
 exact isTrue_not (ha pins s σ H (fun c H1=>Q (!c) H1) I h)
noncomputable def Bm (ta tb:TE):TE:=fun σ H Q=>ta σ H fun x H1=>∃c,x= .bl c/\if c=true then tb σ H1 Q else Q (.bl false) H1
noncomputable def Bo (ta:TE):TE:=fun σ H Q=>ta σ H fun x H1=>∃c,x= .bl c/\Q (.bl (!c)) H1
theorem zx {op} {t:TE} (h:PE X a t):PE X (.BoolOp op [a] pos) t:=fun pins s σ H Q I hw=>BoolOp_one (h pins s σ H Q I hw)
theorem zy (ha:PE X a ta) (hb:PE X (.BoolOp .And (b::rest) pos) tb):PE X (.BoolOp .And (a::b::rest) pos) (Bm ta tb):=by
 intro pins s σ H Q I h
 refine BoolOp_and (cb (ha pins s σ H _ I h) fun v s1 z_=> ?_)
 obtain⟨x,H1,I1,r1,q1⟩:=z_
 obtain⟨c,rfl,q1⟩:=q1
 cases r1
 refine wpAny_truthy_bool ?_
 cases c with
 |true=>exact hb pins s1 σ H1 Q I1 q1
 |false=>exact⟨.bl false,H1,I1,rfl,q1⟩
theorem zA (ha:PE X a ta):PE X (.UnaryOp .Not a pos) (Bo ta):=by
 intro pins s σ H Q I h
 refine UnaryOp_ (cb (ha pins s σ H _ I h) fun v s1 z_=> ?_)
 obtain⟨x,H1,I1,r1,q1⟩:=z_
 obtain⟨c,rfl,q1⟩:=q1
 cases r1
 exact not_of (wpAny_truthy_bool ⟨.bl (!c),H1,I1,rfl,q1⟩)
end
end L2
namespace L2
open PySem PySem.Spec PyProof.Rows
noncomputable def cT (K:PySem.W.Frag) (H:Hp) (a:Addr) (xs:List V):Prop:=
 Rd H a (.lst xs)\/
  ∃(o:Obj) (its:Array Value) (n:Nat),K.lookup a=some o/\o.cls= .type "list"/\o.dict=none/\o.data= .seq its n/\its.size<=sizeLine/\aO xs its.toList
noncomputable def eR (K:PySem.W.Frag) (H:Hp) (a:Addr) (xs:List V):Prop:=
 Rd H a (.tup xs)\/
  ∃(o:Obj) (its:Array Value) (n:Nat),K.lookup a=some o/\o.cls= .type "tuple"/\o.data= .seq its n/\its.size<=sizeLine/\aO xs its.toList
noncomputable def D7:Value->Option V
 | .none=>some .non
 | .bool b=>some (.bl b)
 | .int i _=>some (.int i)
 | .str x _=>some (.str x)
 | .bytes b _=>some (.byt b)
 | .float b _=>some (.flt b)
 | .ref a=>some (.ref a)
 | .type n=>some (.ty n)
 |_=>none
theorem bt.abs {x:V} {u:Value} (r:bt x u):D7 u=some x:=by
 cases x with
 |non=>cases r;rfl
 |bl _=>cases r;rfl
 |int _=>obtain⟨t,rfl⟩:=r;rfl
 |str _=>obtain⟨t,rfl⟩:=r;rfl
 |byt _=>obtain⟨t,rfl⟩:=r;rfl
 |flt _=>obtain⟨t,rfl⟩:=r;rfl
 |ref _=>cases r;rfl
 |ty _=>cases r;rfl
theorem bt.inj {x y:V} {u:Value} (r:bt x u) (q:bt y u):x=y:=Option.some.inj (r.abs.symm.trans q.abs)
theorem aO.inj:∀{xs ys:List V} {us:List Value},aO xs us->aO ys us->xs=ys
 |_,_,_, .nil, .nil=>rfl
 |_,_,_, .cons r t, .cons r' t'=>by rw[r.inj r',aO.inj t t']
section
variable {X:Cx} {pins:List (Addr×Obj)} {σ:St} {H:Hp} {s:Shared} {a:Addr} {xs ys:List V}
theorem cT.of {K:PySem.W.Frag} (h:H a=some (.lst xs)):cT K H a xs:= .inl (.inl h)
theorem eR.of {K:PySem.W.Frag} (h:H a=some (.tup xs)):eR K H a xs:= .inl (.inl h)
theorem aC.list (I:aC X pins σ H s) (h:cT X.K H a xs):∃its:List Value,aO xs its/\PlainL s.heap a its.toArray/\xs.length<=sizeLine:=by
 rcases h with h|⟨o,its,n,hk,hc,hd,hs,hz,r⟩
 ·obtain⟨z,its,n,r,e⟩:=h.ok I.hok
  exact⟨its,r,⟨_,n,e,rfl,rfl,rfl⟩,z⟩
 ·refine⟨its.toList,r,⟨o,n,I.kIn a o hk,hc,hd,by simpa using hs⟩,?_⟩
  have e:=r.length
  simp only[Array.length_toList]at e
  omega
theorem aC.tuple (I:aC X pins σ H s) (h:eR X.K H a xs):∃its:List Value,aO xs its/\IsTup s.heap a its.toArray/\xs.length<=sizeLine:=by
 rcases h with h|⟨o,its,n,hk,hc,hs,hz,r⟩
 ·obtain⟨z,its,r,p⟩:=h.ok I.hok
  exact⟨its,r,p.tup,z⟩
 ·refine⟨its.toList,r,⟨o,I.kIn a o hk,hc,n,by simpa using hs⟩,?_⟩
  have e:=r.length
  simp only[Array.length_toList]at e
  omega
theorem aC.list_inj (I:aC X pins σ H s) (h:cT X.K H a xs) (h':cT X.K H a ys):xs=ys:=by
 obtain⟨its,r,⟨o,n,e,_,_,d⟩,_⟩:=I.list h
 obtain⟨its',r',⟨o',n',e',_,_,d'⟩,_⟩:=I.list h'
 rw[e]at e';cases e'
 rw[d]at d'
 injection d' with d1 _
 have:its=its':=by simpa using congrArg Array.toList d1
 subst this
 exact r.inj r'
theorem aC.tuple_inj (I:aC X pins σ H s) (h:eR X.K H a xs) (h':eR X.K H a ys):xs=ys:=by
 obtain⟨its,r,⟨o,e,_,n,d⟩,_⟩:=I.tuple h
 obtain⟨its',r',⟨o',e',_,n',d'⟩,_⟩:=I.tuple h'
 rw[e]at e';cases e'
 rw[d]at d'
 injection d' with d1 _
 have:its=its':=by simpa using congrArg Array.toList d1
 subst this
 exact r.inj r'
end
noncomputable abbrev Cx.wish (X:Cx) (E:Value->Shared->Prop):Cx:={X with xe:=E}
noncomputable abbrev Cx.nox (X:Cx):Cx:=X.wish fun _ _=>False
theorem Cx.Ok.wish {X:Cx} (ok:X.Ok) (E:Value->Shared->Prop):(X.wish E).Ok:=
 ⟨ok.mod,ok.kind,ok.glob,ok.blt,ok.above,ok.inj,ok.has,ok.cab,ok.hd,ok.frames,ok.stk,ok.exf,ok.bs,ok.bsz,ok.noex,ok.exfs,ok.funs,ok.frf⟩
theorem Cx.Ok.unwish {X:Cx} {E:Value->Shared->Prop} (ok:(X.wish E).Ok):X.Ok:=
 ⟨ok.mod,ok.kind,ok.glob,ok.blt,ok.above,ok.inj,ok.has,ok.cab,ok.hd,ok.frames,ok.stk,ok.exf,ok.bs,ok.bsz,ok.noex,ok.exfs,ok.funs,ok.frf⟩
section
variable {X:Cx} {pins:List (Addr×Obj)} {σ:St} {H:Hp} {s:Shared} {E:Value->Shared->Prop}
theorem aC.wish (I:aC X pins σ H s) (E:Value->Shared->Prop):aC (X.wish E) pins σ H s:=⟨I.ok.wish E,I.os,I.bare,I.base,I.loc,I.cell,I.free,I.freeC,I.pin,I.hok,I.len⟩
theorem aC.unwish (I:aC (X.wish E) pins σ H s):aC X pins σ H s:=⟨I.ok.unwish,I.os,I.bare,I.base,I.loc,I.cell,I.free,I.freeC,I.pin,I.hok,I.len⟩
theorem SP.unwish {D:ja} {f:Flow} {s':Shared} (h:SP (X.wish E) pins D f s'):SP X pins D f s':=by
 cases f with
 |next=>obtain⟨σ',H',I,q⟩:=h;exact⟨σ',H',I.unwish,q⟩
 |brk=>obtain⟨σ',H',I,q⟩:=h;exact⟨σ',H',I.unwish,q⟩
 |cont=>obtain⟨σ',H',I,q⟩:=h;exact⟨σ',H',I.unwish,q⟩
 |ret u=>obtain⟨v,σ',H',I,r,q⟩:=h;exact⟨v,σ',H',I.unwish,r,q⟩
theorem PE.nox {e:Expr} {t:TE} (h:PE X.nox e t):PE X e t:=fun pins s σ H Q I hw=>
 wpAny_mono (h pins s σ H Q (I.wish _) hw) (fun _ _ ⟨v,H',I',r,q⟩=>⟨v,H',I'.unwish,r,q⟩) fun _ _ z=>False.elim z
theorem PT.nox {e:Expr} {t:TT} (h:PT X.nox e t):PT X e t:=fun pins s σ H Q I hw=>
 wpAny_mono (h pins s σ H Q (I.wish _) hw) (fun _ _ ⟨H',I',q⟩=>⟨H',I'.unwish,q⟩) fun _ _ z=>False.elim z
theorem mL.nox {st:List Stmt} {t:TS} (h:mL X.nox st t):mL X st t:=fun pins s σ H D I hw=>
 wpAny_mono (h pins s σ H D (I.wish _) hw) (fun _ _ q=>q.unwish) fun _ _ z=>False.elim z
end
section
variable {X:Cx} {st:Stmt} {rest:List Stmt} {t u:TS} {e:Expr} {te:TE} {pos:Pos}
noncomputable def Bp:TS:=fun D σ H=>D.nx σ H
noncomputable def D8 (t u:TS):TS:=fun D σ H=>t {D with nx:=u D} σ H
theorem wL:mL X [] Bp:=fun _ _ σ H _ I h=>wpAny_execs_nil ⟨σ,H,I,h⟩
theorem uk (h1:PS X st t) (h2:mL X rest u):mL X (st::rest) (D8 t u):=by
 intro pins s σ H D I h
 refine wpAny_execs_cons (cb (h1 pins s σ H {D with nx:=u D} I h) fun f s1 q=> ?_)
 cases f with
 |next=>
  obtain⟨σ',H',I',q⟩:=q
  exact h2 pins s1 σ' H' D I' q
 |ret v=>exact q
 |brk=>exact q
 |cont=>exact q
theorem wM (h1:PS X st t):mL X [st] t:=by
 intro pins s σ H D I h
 refine wpAny_execs_cons (cb (h1 pins s σ H D I h) fun f s1 q=> ?_)
 cases f with
 |next=>exact wpAny_execs_nil q
 |ret v=>exact q
 |brk=>exact q
 |cont=>exact q
noncomputable def Bq:TS:=fun D σ H=>D.ct σ H
theorem oK:PS X (.Continue pos) Bq:=fun _ _ σ H _ I h=>wpAny_Continue ⟨σ,H,I,h⟩
theorem aC.quiet {pins:List (Addr×Obj)} {σ:St} {H:Hp} {s:Shared} (I:aC X pins σ H s):interactive X.env=false:=by simp[interactive,I.ok.kind]
noncomputable def Br (te:TE):TS:=fun D σ H=>te σ H fun _ H1=>D.nx σ H1
theorem rH (he:PE X e te) (hs:swapsWith e none pos.line X.env=pure false:=by rfl):PS X (.Expr e pos) (Br te):=by
 intro pins s σ H D I h
 exact wpAny_Expr_any (cb (he pins s σ H _ I h) fun v s1 ⟨x,H1,I1,r1,q1⟩=>⟨σ,H1,I1,q1⟩) I.quiet hs
noncomputable def D9 (te:TE):TS:=fun D σ H=>te σ H D.rt
theorem zB (he:PE X e te):PS X (.Return (some e) pos) (D9 te):=by
 intro pins s σ H D I h
 exact wpAny_Return_some (cb (he pins s σ H _ I h) fun v s1 ⟨x,H1,I1,r1,q1⟩=>⟨x,σ,H1,I1,r1,q1⟩)
noncomputable def Dc (c:TT) (t u:TS):TS:=fun D σ H=>c σ H fun b H1=>if b=true then t D σ H1 else u D σ H1
theorem Bs {c:Expr} {a b:List Stmt} {tc:TT} (hc:PT X c tc) (ha:mL X a t) (hb:mL X b u):PS X (.If c a b pos) (Dc tc t u):=by
 intro pins s σ H D I h
 refine wpAny_If (cb (hc pins s σ H _ I h) fun d s1 z_=> ?_)
 obtain⟨H1,I1,q1⟩:=z_
 cases d with
 |true=>exact ha pins s1 σ H1 D I1 q1
 |false=>exact hb pins s1 σ H1 D I1 q1
end
noncomputable abbrev TG:=V->St->Hp->(St->Hp->Prop)->Prop
noncomputable abbrev ul:=List V->St->Hp->(St->Hp->Prop)->Prop
noncomputable def PG (X:Cx) (target:Expr) (t:TG):Prop:=
 ∀(pins:List (Addr×Obj)) (s:Shared) (σ:St) (H:Hp) (v:V) (u:Value) (Q:St->Hp->Prop),aC X pins σ H s->bt v u->t v σ H Q->
  wpAny (model X.prog X.w) X.A (assign target X.env u) (fun _ s'=>∃σ' H',aC X pins σ' H' s'/\Q σ' H') X.xe s
noncomputable def um (X:Cx) (ts:List Expr) (t:ul):Prop:=
 ∀(pins:List (Addr×Obj)) (s:Shared) (σ:St) (H:Hp) (vs:List V) (us:List Value) (Q:St->Hp->Prop),aC X pins σ H s->aO vs us->t vs σ H Q->
  wpAny (model X.prog X.w) X.A (assignInOrder ((assignEach ts X.env).map (·.2)) us) (fun _ s'=>∃σ' H',aC X pins σ' H' s'/\Q σ' H') X.xe s
noncomputable abbrev zC:=V->V->V->Hp->(Hp->Prop)->Prop
noncomputable def Bt (X:Cx) (t:zC):Prop:=
 ∀(pins:List (Addr×Obj)) (s:Shared) (σ:St) (H:Hp) (o i v:V) (ov iv u:Value) (Q:Hp->Prop),aC X pins σ H s->bt o ov->bt i iv->bt v u->t o i v H Q->
  wpAny (model X.prog X.w) X.A (setItem ov iv u) (fun _ s'=>∃H',aC X pins σ H' s'/\Q H') X.xe s
section
variable {X:Cx} {pos:Pos}
noncomputable def yw (i:Nat):TG:=fun v σ H Q=>Q (σ.set i (some v)) H
theorem nG {i:Nat} {x:Str} (hN:X.N.Nodup) (hi:X.N[i]? =some x) (hx:uh X.env.scope x) (hf:X.fn x=true\/X.env.scope.names.lookup x=some .local:=by first|exact .inl rfl|exact .inr rfl|assumption):PG X (.Name x pos) (yw i):=by
 intro pins s σ H v u Q I r h
 exact wpAny_assign_Name (lh I hN hi hx r (fun s' I'=>⟨_,H,I',h⟩) hf)
noncomputable def Dd:ul:=fun vs σ H Q=>vs=[]/\Q σ H
noncomputable def Bu (t:TG) (u:ul):ul:=fun vs σ H Q=>∃v r,vs=v::r/\t v σ H fun σ' H'=>u r σ' H' Q
theorem wN:um X [] Dd:=by
 intro pins s σ H vs us Q I r h
 obtain⟨e,h⟩:=h
 subst e
 cases r
 exact assignInOrder_nil ⟨σ,H,I,h⟩
theorem uo {e:Expr} {es:List Expr} {t:TG} {u:ul} (h1:PG X e t) (h2:um X es u)
  (hs:(assignEach (e::es) X.env).map (·.2)=assign e X.env::(assignEach es X.env).map (·.2):=by rfl):um X (e::es) (Bu t u):=by
 intro pins s σ H vs us Q I r h
 obtain⟨v,vr,e1,h⟩:=h
 subst e1
 cases r with
 |cons r rr=>
  rw[hs]
  refine assignInOrder_cons (cb (h1 pins s σ H _ _ _ I r h) fun _ s1 z_=> ?_)
  obtain⟨σ1,H1,I1,q1⟩:=z_
  exact h2 pins s1 σ1 H1 _ _ Q I1 rr q1
noncomputable def De (K:PySem.W.Frag) (n:Nat) (t:ul):TG:=fun v σ H Q=>∃a xs,v= .ref a/\eR K H a xs/\xs.length=n/\t xs σ H Q
theorem uq {es:List Expr} {k:Nat} {t:ul} {n:Nat} (hc:X.calm=true) (h:um X es t)
  (hn:(assignEach es X.env).length=n:=by rfl) (hst:(assignEach es X.env).findIdx? (·.1)=none:=by rfl):PG X (.Tuple es k pos) (De X.K n t):=by
 intro pins s σ H v u Q I r hw
 obtain⟨a,xs,e1,hq,hl,hw⟩:=hw
 subst e1
 cases r
 obtain⟨its,rv,ht,hz⟩:=I.tuple hq
 refine assign_Tuple_tuple (I.ok.hd hc) ht (by simp[hn,<-hl,rv.length]) hst fun h' hx=> ?_
 have I1:aC X pins σ H {s with heap:=h'}:=I.kept (t':=s.toks) fun b o e=>hx b o (Nat.ne_of_lt (Heap.lt_size e)) e
 exact h pins _ σ H xs _ Q I1 (by simpa using rv) hw
noncomputable def Df (to ti:TE) (t:zC):TG:=fun v σ H Q=>to σ H fun o H1=>ti σ H1 fun i H2=>t o i v H2 fun H3=>Q σ H3
theorem zD {o i:Expr} {to ti:TE} {t:zC} (ho:PE X o to) (hi:PE X i ti) (hs:Bt X t)
  (ha:∀v,assign (.Subscript o i pos) X.env v=(do
   let ov<-holding [v] (eval o X.env)
   let iv<-holding [v,ov] (eval i X.env)
   standAt pos
   holding [v,ov,iv] (setItem ov iv v)
   release [v,ov,iv] []):=by intro _;rfl):PG X (.Subscript o i pos) (Df to ti t):=by
 intro pins s σ H v u Q I r h
 rw[ha]
 refine wpAny_bind (wpAny_holding (cb (ho pins s σ H _ I h) fun ov s1 z_=> ?_))
 obtain⟨x,H1,I1,r1,q1⟩:=z_
 refine wpAny_bind (wpAny_holding (cb (hi pins s1 σ H1 _ I1 q1) fun iv s2 z_=> ?_))
 obtain⟨y,H2,I2,r2,q2⟩:=z_
 refine wpAny_bind (wpAny_standAt (wpAny_bind (wpAny_holding (cb (hs pins s2 σ H2 x y v ov iv u _ I2 r1 r2 r q2) fun _ s3 z_=> ?_))))
 obtain⟨H3,I3,q3⟩:=z_
 exact wpAny_release ⟨σ,H3,I3,q3⟩
noncomputable def zE (te:TE) (g:TG):TS:=fun D σ H=>te σ H fun x H1=>g x σ H1 D.nx
theorem qc {tg e:Expr} {te:TE} {g:TG} (he:PE X e te) (hg:PG X tg g) (hs:swapsWithSole [tg] e pos.line X.env=pure false:=by rfl) (hw:swappedStores [tg] e X.env=pure none:=by rfl)
  (h1:(assignEach [tg] X.env).map (·.2)=[assign tg X.env]:=by rfl):PS X (.Assign [tg] e pos) (zE te g):=by
 intro pins s σ H D I h
 refine wpAny_Assign_stores (cb (he pins s σ H _ I h) fun v s1 z_=> ?_) hs hw
 obtain⟨x,H1,I1,r1,q1⟩:=z_
 rw[h1]
 exact cb (hg pins s1 σ H1 x v _ I1 r1 q1) fun _ s2 q=>q
theorem nH {i:Nat} {x:Str} {e:Expr} {te:TE} {pos':Pos} (hN:X.N.Nodup) (hi:X.N[i]? =some x) (hx:uh X.env.scope x) (he:PE X e te) (hs:swapsWith e (some (.Name x pos')) pos.line X.env=pure false:=by rfl) (hf:X.fn x=true\/X.env.scope.names.lookup x=some .local:=by first|exact .inl rfl|exact .inr rfl|assumption):
  PS X (.Assign [.Name x pos'] e pos) (zE te (yw i)):=by
 intro pins s σ H D I h
 refine wpAny_Assign_Name (cb (he pins s σ H _ I h) fun v s1 z_=> ?_) hs
 obtain⟨y,H1,I1,r1,q1⟩:=z_
 exact lh I1 hN hi hx r1 (fun s2 I2=>⟨_,H1,I2,q1⟩) hf
end
section
variable {X:Cx} {pos:Pos}
end
structure It where
 go:Nat->Hp->Prop
 yld:Nat->Hp->V->Hp->Prop
 stop:Nat->Hp->Prop
noncomputable def eS (X:Cx) (pins:List (Addr×Obj)) (H:Hp) (b:Addr):Prop:=
 H b=none/\b≠X.env.locals/\b∉X.fs/\(b∈X.ex\/X.s₀.heap.objs.size<=b)/\(∀x c,X.env.cells.lookup x=some c->c≠b)/\∀p∈X.pn++pins,p.1≠b
theorem aC.fpOk {X:Cx} {pins:List (Addr×Obj)} {σ:St} {H H':Hp} {s:Shared} {b:Addr} (I:aC X pins σ H s) (hb:s.heap.objs.size<=b) (hn:H' b=none):eS X pins H' b:=by
 refine⟨hn,Nat.ne_of_gt (Nat.lt_of_lt_of_le I.lt hb),I.nofs hb, .inr (Nat.le_trans I.sz hb),fun x c e z=> ?_,fun p hp z=> ?_⟩
 ·obtain⟨v,q⟩:=I.cell x c e
  exact absurd (Nat.lt_of_lt_of_le q.lt (by rw[z];exact hb)) (Nat.lt_irrefl _)
 ·exact absurd (Nat.lt_of_lt_of_le (Heap.lt_size (I.pin p hp).1) (by rw[z];exact hb)) (Nat.lt_irrefl _)
structure oM (P:Program) (w:World) (K:PySem.W.Frag) (tg:Expr) (J:It) (fp:List Addr) (it:Addr) (tn:Nat->Heap->Prop):Prop where
 mem:it∈fp
 obj:∀i h,tn i h->∀b∈fp,∃o,h.get? b=some o/\∀v,o.data≠ .cell v
 keep:∀i h h',tn i h->(∀b∈fp,∀o,h.get? b=some o->h'.get? b=some o)->tn i h'
 item:∀(X:Cx),X.prog=P->X.w=w->X.K=K->X.calm=true->∀(i:Nat) (pins:List (Addr×Obj)) (s:Shared) (σ:St) (H:Hp) (E:Value->Shared->Prop),aC X pins σ H s->(∀b∈fp,eS X pins H b)->tn i s.heap->J.go i H->
  wpAny (model P w) X.A (pyNext (.ref it)) (fun r s1=>∃u,r=some u/\
   wpAny (model P w) X.A (letOwnedTupleGo tg (.ref it) u) (fun _ s2=>∃x H',aC X pins σ H' s2/\bt x u/\J.yld i H x H'/\tn (i+1) s2.heap/\∀b∈fp,H' b=none) E s1) E s
 done:∀(X:Cx),X.prog=P->X.w=w->X.K=K->X.calm=true->∀(i:Nat) (pins:List (Addr×Obj)) (s:Shared) (σ:St) (H:Hp) (E:Value->Shared->Prop),aC X pins σ H s->(∀b∈fp,eS X pins H b)->tn i s.heap->J.stop i H->
  wpAny (model P w) X.A (pyNext (.ref it)) (fun r s1=>r=none/\aC X pins σ H s1) E s
 self:∀(A:Around) (i:Nat) (s:Shared) (Q:Value->Shared->Prop) (E:Value->Shared->Prop),tn i s.heap->Q (.ref it) s->wpAny (model P w) A (pyIter (.ref it)) Q E s
noncomputable abbrev TI:=St->Hp->(It->Hp->Prop)->Prop
noncomputable def DJ (X:Cx) (pins:List (Addr×Obj)) (σ:St) (tg:Expr) (R:It->Hp->Prop) (itv:Value) (s2:Shared):Prop:=
 ∃(it:Addr) (fp:List Addr) (tn:Nat->Heap->Prop) (J:It) (H':Hp),itv= .ref it/\aC X pins σ H' s2/\oM X.prog X.w X.K tg J fp it tn/\tn 0 s2.heap/\(∀b∈fp,eS X pins H' b)/\R J H'
noncomputable def PI (X:Cx) (tg iter:Expr) (wi:TI):Prop:=
 ∀(pins:List (Addr×Obj)) (s:Shared) (σ:St) (H:Hp) (R:It->Hp->Prop),aC X pins σ H s->wi σ H R->
  wpAny (model X.prog X.w) X.A (eval iter X.env) (fun v s1=>wpAny (model X.prog X.w) X.A (pyIter v) (DJ X pins σ tg R) X.xe s1) X.xe s
theorem ur {M:Model} {A:Around} {E:Value->Shared->Prop} {s:Shared} {tg:Expr} {it:Addr} {u:Value} {o:Obj} {n:String} {vs:Array Value} {Q:Unit->Shared->Prop} (ho:s.heap.get? it=some o) (hc:o.cls= .type n) (hd:o.data= .fields vs)
  (hn:["enumerate","zip","dict_itemiterator","dict_reverseitemiterator","odict_iterator","itertools.zip_longest","itertools.pairwise"].contains n=false) (hQ:Q () s):wpAny M A (letOwnedTupleGo tg (.ref it) u) Q E s:=by
 unfold letOwnedTupleGo
 cases tg<;>first
  |exact wpAny_pure hQ
  |(cases u<;>first
    |exact wpAny_pure hQ
    |(refine wpAny_bind (wpAny_load ho ?_)
      rw[hc,hd]
      show wpAny M A (if (["enumerate","zip","dict_itemiterator","dict_reverseitemiterator","odict_iterator","itertools.zip_longest","itertools.pairwise"].contains n&&vs[0]? ==some (rawInt _))=true then _ else _) Q E s
      rw[if_neg (by intro h;rw[hn,Bool.false_and]at h;cases h)]
      exact wpAny_pure hQ))
noncomputable def CD (K:PySem.W.Frag) (a:Addr):It:=
 ⟨fun i H=>∃xs x,cT K H a xs/\xs[i]? =some x,fun i H x H'=>H'=H/\∀xs,cT K H a xs->xs[i]? =some x,fun i H=>∃xs,cT K H a xs/\xs.length<=i⟩
noncomputable def Dg (K:PySem.W.Frag) (a:Addr):It:=
 ⟨fun i H=>∃xs x,eR K H a xs/\xs[i]? =some x,fun i H x H'=>H'=H/\∀xs,eR K H a xs->xs[i]? =some x,fun i H=>∃xs,eR K H a xs/\xs.length<=i⟩
noncomputable def CF (lo:Int) (n:Nat):It:=⟨fun i _=>i<n,fun i H x H'=>H'=H/\x= .int (lo+i),fun i _=>n<=i⟩
theorem sG {P:Program} {w:World} {K:PySem.W.Frag} {tg:Expr} (a it:Addr):oM P w K tg (CD K a) [it] it (fun i h=>h.IsListIter it a i)where
 mem:=by simp
 obj:=fun i h st b hb=>by
  have e:b=it:=by simpa using hb
  subst e
  obtain⟨o,e,c,d⟩:=st
  exact⟨o,e,fun v z=>by rw[d]at z;cases z⟩
 keep:=fun i h h' st k=>st.at fun o e=>k it (by simp) o e
 item:=by
  intro X hP hw hK hc i pins s σ H E I hf st hg
  subst hP hw hK
  obtain⟨xs,x,hq,hx⟩:=hg
  obtain⟨its,rv,p,hz⟩:=I.list hq
  obtain⟨u,hu,ru⟩:=rv.get hx
  obtain⟨f0,f1,f2,f3,f4,f5⟩:=hf it (by simp)
  refine wpAny_pyNext_list_item st p.isList (x:=u) (by simpa using hu) fun h' st' sb=> ?_
  have I1:aC X pins σ H {s with heap:=h'}:=I.turned (t':=s.toks) (fun b o hb e=>(sb.2 b hb).trans e) f0 f1 f3 f4 f5
  obtain⟨o,e,c,d⟩:=id st'
  exact⟨u,rfl,ur (s:={s with heap:=h'}) e c d (by decide) ⟨x,H,I1,ru,⟨rfl,fun ys hy=>by rw[I.list_inj hy hq];exact hx⟩,st',fun b hb=>(hf b hb).1⟩⟩
 done:=by
  intro X hP hw hK hc i pins s σ H E I hf st hg
  subst hP hw hK
  obtain⟨xs,hq,hx⟩:=hg
  obtain⟨its,rv,p,hz⟩:=I.list hq
  obtain⟨f0,f1,f2,f3,f4,f5⟩:=hf it (by simp)
  have hl:=rv.length
  exact wpAny_pyNext_list_end (I.ok.hd hc) st p.isList (by simp;omega) fun h' eb=>⟨rfl,I.turned (t':=s.toks) (fun b o hb e=>eb b o hb e) f0 f1 f3 f4 f5⟩
 self:=fun _ _ _ _ _ st h=>wpAny_pyIter_listiter st h
theorem qd {P:Program} {w:World} {K:PySem.W.Frag} {tg:Expr} (a it:Addr):oM P w K tg (Dg K a) [it] it (fun i h=>h.IsTupleIter it a i)where
 mem:=by simp
 obj:=fun i h st b hb=>by
  have e:b=it:=by simpa using hb
  subst e
  obtain⟨o,e,c,d⟩:=st
  exact⟨o,e,fun v z=>by rw[d]at z;cases z⟩
 keep:=fun i h h' st k=>st.at fun o e=>k it (by simp) o e
 item:=by
  intro X hP hw hK hc i pins s σ H E I hf st hg
  subst hP hw hK
  obtain⟨xs,x,hq,hx⟩:=hg
  obtain⟨its,rv,p,hz⟩:=I.tuple hq
  obtain⟨u,hu,ru⟩:=rv.get hx
  obtain⟨f0,f1,f2,f3,f4,f5⟩:=hf it (by simp)
  refine wpAny_pyNext_tuple_item st (show s.heap.IsTuple a its.toArray from p) (x:=u) (by simpa using hu) fun h' st' sb=> ?_
  have I1:aC X pins σ H {s with heap:=h'}:=I.turned (t':=s.toks) (fun b o hb e=>(sb.2 b hb).trans e) f0 f1 f3 f4 f5
  obtain⟨o,e,c,d⟩:=id st'
  exact⟨u,rfl,ur (s:={s with heap:=h'}) e c d (by decide) ⟨x,H,I1,ru,⟨rfl,fun ys hy=>by rw[I.tuple_inj hy hq];exact hx⟩,st',fun b hb=>(hf b hb).1⟩⟩
 done:=by
  intro X hP hw hK hc i pins s σ H E I hf st hg
  subst hP hw hK
  obtain⟨xs,hq,hx⟩:=hg
  obtain⟨its,rv,p,hz⟩:=I.tuple hq
  obtain⟨f0,f1,f2,f3,f4,f5⟩:=hf it (by simp)
  have hl:=rv.length
  exact wpAny_pyNext_tuple_end (I.ok.hd hc) st (show s.heap.IsTuple a its.toArray from p) (by simp;omega) fun h' eb=>⟨rfl,I.turned (t':=s.toks) (fun b o hb e=>eb b o hb e) f0 f1 f3 f4 f5⟩
 self:=fun _ _ _ _ _ st h=>wpAny_pyIter_tupleiter st h
theorem qe {P:Program} {w:World} {K:PySem.W.Frag} {tg:Expr} (it:Addr) (lo:Int) (n:Nat):oM P w K tg (CF lo n) [it] it (fun i h=>IsRangeIter h it (lo+(i:Nat)*1) ((n:Int) - (i:Nat)) 1)where
 mem:=by simp
 obj:=fun i h st b hb=>by
  have e:b=it:=by simpa using hb
  subst e
  exact⟨_,st,fun v z=>by
   have z':Data.fields _=Data.cell v:=z
   cases z'⟩
 keep:=fun i h h' st k=>k it (by simp) _ st
 item:=by
  intro X hP hw hK hc i pins s σ H E I hf st hg
  subst hP hw hK
  obtain⟨f0,f1,f2,f3,f4,f5⟩:=hf it (by simp)
  have W:=Walks.range (prog:=X.prog) (w:=X.w) (I.ok.hd hc) it lo 1 n
  refine W.item i s _ _ hg st fun v h' tk hv st' kk=> ?_
  obtain⟨t,rfl⟩:=hv
  have I1:aC X pins σ H {s with heap:=h',toks:=tk}:=I.turned (fun b o hb e=>kk b o (by simpa using hb) e) f0 f1 f3 f4 f5
  refine⟨_,rfl,ur (s:={s with heap:=h',toks:=tk}) (n:="range_iterator") st' rfl rfl (by decide) ⟨.int (lo+i),H,I1,⟨t,?_⟩,⟨rfl,rfl⟩,st',fun b hb=>(hf b hb).1⟩⟩
  rw[Int.mul_one]
 done:=by
  intro X hP hw hK hc i pins s σ H E I hf st hg
  subst hP hw hK
  obtain⟨f0,f1,f2,f3,f4,f5⟩:=hf it (by simp)
  exact wpAny_pyNext_range_end (I.ok.hd hc) st (by have:n<=i:=hg;omega) fun h' eb=>⟨rfl,I.turned (t':=s.toks) (fun b o hb e=>eb b o hb e) f0 f1 f3 f4 f5⟩
 self:=fun _ _ _ _ _ st h=>wpAny_pyIter_rangeiter st h
end L2
namespace L2
open PySem PySem.Spec PyProof.Rows
section
variable {X:Cx} {tg:Expr}
noncomputable def Bv (K:PySem.W.Frag) (tl:TE):TI:=fun σ H R=>tl σ H fun x H1=>∃a,x= .ref a/\(∃xs,cT K H1 a xs)/\R (CD K a) H1
noncomputable def Dh (K:PySem.W.Frag) (tl:TE):TI:=fun σ H R=>tl σ H fun x H1=>∃a,x= .ref a/\(∃xs,eR K H1 a xs)/\R (Dg K a) H1
theorem nI {l:Expr} {tl:TE} (hl:PE X l tl):PI X tg l (Bv X.K tl):=by
 intro pins s σ H R I h
 refine cb (hl pins s σ H _ I h) fun v s1 z_=> ?_
 obtain⟨x,H1,I1,r1,q1⟩:=z_
 obtain⟨a,e,⟨xs,hq⟩,q⟩:=q1
 subst e
 cases r1
 obtain⟨its,rv,p,hz⟩:=I1.list hq
 refine wpAny_pyIter_list p.isList ?_
 refine⟨s1.heap.objs.size,[s1.heap.objs.size],_,_,H1,rfl,I1.kept (t':=s1.toks) fun b o e=>Heap.get?_push_of_some _ e,sG a _,⟨_,Heap.get?_push_size _ rfl,rfl,rfl⟩,fun b hb=> ?_,q⟩
 have e:b=s1.heap.objs.size:=by simpa using hb
 subst e
 exact I1.fpOk (Nat.le_refl _) (I1.hok.fresh (Nat.le_refl _))
theorem zF {l:Expr} {tl:TE} (hl:PE X l tl):PI X tg l (Dh X.K tl):=by
 intro pins s σ H R I h
 refine cb (hl pins s σ H _ I h) fun v s1 z_=> ?_
 obtain⟨x,H1,I1,r1,q1⟩:=z_
 obtain⟨a,e,⟨xs,hq⟩,q⟩:=q1
 subst e
 cases r1
 obtain⟨its,rv,p,hz⟩:=I1.tuple hq
 refine wpAny_pyIter_tuple (show s1.heap.IsTuple a its.toArray from p) ?_
 refine⟨s1.heap.objs.size,[s1.heap.objs.size],_,_,H1,rfl,I1.kept (t':=s1.toks) fun b o e=>Heap.get?_push_of_some _ e,qd a _,⟨_,Heap.get?_push_size _ rfl,rfl,rfl⟩,fun b hb=> ?_,q⟩
 have e:b=s1.heap.objs.size:=by simpa using hb
 subst e
 exact I1.fpOk (Nat.le_refl _) (I1.hok.fresh (Nat.le_refl _))
theorem ut {pins:List (Addr×Obj)} {σ:St} {H:Hp} {s:Shared} {R:It->Hp->Prop} {E:Value->Shared->Prop} {lo hi:Int} {t u v:Tok} {tk:Nat} (I:aC X pins σ H s) (h1: -(2 ^62)<=lo) (h2:lo<2 ^62) (h3: -(2 ^62)<=hi) (h4:hi<2 ^62)
  (q:R (CF lo (hi - lo).toNat) H):wpAny (model X.prog X.w) X.A (pyIter (.ref s.heap.objs.size)) (DJ X pins σ tg R) E {s with heap:=s.heap.push {cls:= .type "range",data:= .fields #[.int lo t, .int hi u, .int 1 v]},toks:=tk}:=by
 refine wpAny_pyIter_range (IsRange.new ..) (small_one h1 h2 h3 h4) ?_
 have I1:aC X pins σ H {s with heap:=s.heap.push {cls:= .type "range",data:= .fields #[.int lo t, .int hi u, .int 1 v]},toks:=tk}:=I.kept fun b o e=>Heap.get?_push_of_some _ e
 refine⟨(s.heap.push {cls:= .type "range",data:= .fields #[.int lo t, .int hi u, .int 1 v]}).objs.size,[(s.heap.push {cls:= .type "range",data:= .fields #[.int lo t, .int hi u, .int 1 v]}).objs.size],_,_,H,rfl,
  I1.kept (t':=tk) fun b o e=>Heap.get?_push_of_some _ e,qe _ lo (hi - lo).toNat,?_,fun b hb=> ?_,q⟩
 ·have e1:lo+((0:Nat):Int)*1=lo:=by simp
  have e2:(((hi - lo).toNat:Nat):Int) - ((0:Nat):Int)=Builtin.Range.rangeSize lo hi 1:=by rw[rangeSize_one];split<;>omega
  show IsRangeIter _ _ (lo+((0:Nat):Int)*1) ((((hi - lo).toNat:Nat):Int) - ((0:Nat):Int)) 1
  rw[e1,e2]
  exact Heap.get?_push_size _ rfl
 ·have e:b=(s.heap.push {cls:= .type "range",data:= .fields #[.int lo t, .int hi u, .int 1 v]}).objs.size:=by simpa using hb
  subst e
  exact I1.fpOk (Nat.le_refl _) (I1.hok.fresh (Nat.le_refl _))
noncomputable def Bw (ta:TA):TI:=fun σ H R=>ta σ H fun vs H1=>∃j:Int,vs=[.int j]/\ -(2 ^62)<=j/\j<2 ^62/\R (CF 0 j.toNat) H1
theorem sH {a:Expr} {ta:TA} {p pos:Pos} (hg:Gl X "range") (hm:X.mg "range"=none) (ha:PA X [a] ta) (hs:starEach [a] X.env=[(false,eval a X.env)]:=by rfl):PI X tg (.Call (.Name "range" p) [a] [] pos) (Bw ta):=by
 intro pins s σ H R I h
 refine Call_ (jQ I hg hm boot_range (PyProof.Rows.callWith_type1 (cb (ha pos pins s σ H _ I h) fun us s1 z_=> ?_) hs rfl))
 obtain⟨vs,H1,I1,r1,q1⟩:=z_
 obtain⟨j,e,q1,q2,q⟩:=q1
 subst e
 cases r1 with
 |cons r rr=>
  cases rr
  obtain⟨t,rfl⟩:=r
  exact call_range_1 (ut I1 (by omega) (by omega) q1 q2 (by simpa using q))
noncomputable def Bx (wi:TI) (g:TG) (tb:TS):TS:=fun D σ H=>wi σ H fun J H1=>∃W:Nat->Nat->St->Hp->Prop,(∃m,W 0 m σ H1)/\∀i m σ H,W i m σ H->
 (J.stop i H/\D.nx σ H)\/(J.go i H/\∃N:St->Hp->Prop,(∀σ' H',N σ' H'->∃m',m'<m/\W (i+1) m' σ' H')/\∀x H',J.yld i H x H'->g x σ H' fun σ2 H2=>tb {D with nx:=N,ct:=N,bk:=D.nx} σ2 H2)
noncomputable def jR (fp:List Addr) (h:Heap):List (Addr×Obj):=fp.filterMap fun b=>(h.get? b).map fun o=>(b,o)
theorem eg {fp:List Addr} {h:Heap} {b:Addr} {o:Obj} (hb:b∈fp) (e:h.get? b=some o):(b,o)∈jR fp h:=List.mem_filterMap.mpr ⟨b,hb,by rw[e];rfl⟩
theorem sI {fp:List Addr} {h:Heap} {p:Addr×Obj} (hp:p∈jR fp h):p.1∈fp/\h.get? p.1=some p.2:=by
 obtain⟨b,hb,e⟩:=List.mem_filterMap.mp hp
 cases q:h.get? b with
 |none=>rw[q]at e;cases e
 |some o=>
  rw[q]at e
  have e':(b,o)=p:=Option.some.inj e
  subst e'
  exact⟨hb,q⟩
theorem aC.pinned {pins:List (Addr×Obj)} {σ:St} {H:Hp} {s:Shared} {fp:List Addr} (I:aC X pins σ H s) (hf:∀b∈fp,eS X pins H b) (ho:∀b∈fp,∃o,s.heap.get? b=some o/\∀v,o.data≠ .cell v):aC X (pins++jR fp s.heap) σ H s:=
 I.pins_of fun p hp=>(List.mem_append.mp hp).elim (fun z=>I.pin p (List.mem_append_right _ z)) fun z=>by
  obtain⟨hb,e⟩:=sI z
  obtain⟨f0,f1,f2,_⟩:=hf p.1 hb
  obtain⟨o,e',d⟩:=ho p.1 hb
  rw[e]at e';cases e'
  exact⟨e,f0,f1,f2,d⟩
theorem aC.unpinned {pins pl:List (Addr×Obj)} {σ:St} {H:Hp} {s:Shared} (I:aC X (pins++pl) σ H s):aC X pins σ H s:=I.pins_of fun p hp=>I.pin p (List.mem_append_right _ (List.mem_append_left _ hp))
theorem zG {iter:Expr} {body:List Stmt} {wi:TI} {g:TG} {tb:TS} {pos:Pos} (hp:PassesOwn (model X.prog X.w) X.A X.env X.xe) (hc:X.calm=true) (hi:PI X tg iter wi) (hg:PG X tg g) (hb:mL X body tb)
  (hs:∀x,foldedSetIterable iter X.env x=pure x:=by intro _;rfl):PS X (.For tg iter body [] pos) (Bx wi g tb):=by
 intro pins s σ H D I h
 refine wpAny_For (cb (hi pins s σ H _ I h) fun v s1 h1=>cb h1 fun itv s2 h2=> ?_) hs
 obtain⟨it,fp,tn,J,H2,e,I2,T,st2,f2,W,⟨m0,w0⟩,turn⟩:=h2
 subst e
 have stat:∀{H':Hp},(∀b∈fp,H' b=none)->∀b∈fp,eS X pins H' b:=fun hn b hb=>⟨hn b hb,(f2 b hb).2⟩
 refine codeAny_forLoop_any (fun n s'=>∃i σ' H',aC X pins σ' H' s'/\tn i s'.heap/\(∀b∈fp,H' b=none)/\W i n σ' H') ?_ m0 ⟨0,σ,H2,I2,st2,fun b hb=>(f2 b hb).1,w0⟩
 rintro n s3 ⟨i,σ3,H3,I3,st3,fr3,w3⟩
 rcases turn i n σ3 H3 w3 with ⟨stop,qn⟩|⟨go,N,hN,step⟩
 ·refine wpAny_passesOwn hp (cb (T.done X rfl rfl rfl hc i pins s3 σ3 H3 X.xe I3 (stat fr3) st3 stop) fun r s4 z_=> ?_)
  obtain⟨hr,I4⟩:=z_
  subst hr
  exact wpAny_execs_nil ⟨σ3,H3,I4,qn⟩
 ·refine wpAny_passesOwn hp (cb (T.item X rfl rfl rfl hc i pins s3 σ3 H3 X.xe I3 (stat fr3) st3 go) fun r s4 z_=> ?_)
  obtain⟨u,hr,h4⟩:=z_
  subst hr
  refine wpAny_passesOwn hp (cb h4 fun _ s5 z_=> ?_)
  obtain⟨x,H5,I5,r5,y5,st5,fr5⟩:=z_
  have I5':=I5.pinned (stat fr5) (T.obj _ _ st5)
  refine wpAny_passesOwn hp (cb (hg _ s5 σ3 H5 x u _ I5' r5 (step x H5 y5)) fun _ s6 z_=> ?_)
  obtain⟨σ6,H6,I6,q6⟩:=z_
  refine wpAny_passesOwn hp (cb (hb _ s6 σ6 H6 _ I6 q6) fun f s7 q7=> ?_)
  have again:∀{σ7:St} {H7:Hp},aC X (pins++jR fp s5.heap) σ7 H7 s7->N σ7 H7->∃m,m<n/\∃i σ' H',aC X pins σ' H' s7/\tn i s7.heap/\(∀b∈fp,H' b=none)/\W i m σ' H':=fun {σ7 H7} I7 n7=>by
   obtain⟨m',hm,w7⟩:=hN σ7 H7 n7
   refine⟨m',hm,i+1,σ7,H7,I7.unpinned,T.keep _ _ _ st5 fun b hb o e=>(I7.pin (b,o) (List.mem_append_right _ (List.mem_append_right _ (eg hb e)))).1,fun b hb=> ?_,w7⟩
   obtain⟨o,e,d⟩:=T.obj _ _ st5 b hb
   exact(I7.pin (b,o) (List.mem_append_right _ (List.mem_append_right _ (eg hb e)))).2.1
  cases f with
  |next=>obtain⟨σ7,H7,I7,n7⟩:=q7;exact again I7 n7
  |cont=>obtain⟨σ7,H7,I7,n7⟩:=q7;exact again I7 n7
  |brk=>obtain⟨σ7,H7,I7,q7⟩:=q7;exact⟨σ7,H7,I7.unpinned,q7⟩
  |ret v=>obtain⟨x7,σ7,H7,I7,r7,q7⟩:=q7;exact⟨x7,σ7,H7,I7.unpinned,r7,q7⟩
end
end L2
namespace L2
open PySem PySem.Spec PyProof.Rows
noncomputable abbrev R2:=V->V->Hp->VK->Prop
noncomputable def iH (X:Cx) (f:Value->Value->Sem Value) (r:R2):Prop:=
 ∀(pins:List (Addr×Obj)) (s:Shared) (σ:St) (H:Hp) (x y:V) (v u:Value) (Q:VK),aC X pins σ H s->bt x v->bt y u->r x y H Q->
  wpAny (model X.prog X.w) X.A (f v u) (EP X pins σ Q) X.xe s
noncomputable def CG (X:Cx) (f:Value->Sem Value) (r:V->Hp->VK->Prop):Prop:=
 ∀(pins:List (Addr×Obj)) (s:Shared) (σ:St) (H:Hp) (x:V) (v:Value) (Q:VK),aC X pins σ H s->bt x v->r x H Q->
  wpAny (model X.prog X.w) X.A (f v) (EP X pins σ Q) X.xe s
noncomputable def cG (X:Cx) (f:Value) (r:List V->Hp->VK->Prop):Prop:=
 ∀(pins:List (Addr×Obj)) (s:Shared) (σ:St) (H:Hp) (xs:List V) (us:List Value) (Q:VK),aC X pins σ H s->aO xs us->r xs H Q->
  wpAny (model X.prog X.w) X.A (call f us) (EP X pins σ Q) X.xe s
noncomputable def Di (X:Cx) (r:V->Hp->(Bool->Hp->Prop)->Prop):Prop:=
 ∀(pins:List (Addr×Obj)) (s:Shared) (σ:St) (H:Hp) (x:V) (v:Value) (Q:Bool->Hp->Prop),aC X pins σ H s->bt x v->r x H Q->
  wpAny (model X.prog X.w) X.A (truthy v) (TP X pins σ Q) X.xe s
noncomputable def CH (r:R2) (ta tb:TE):TE:=fun σ H Q=>ta σ H fun x H1=>tb σ H1 fun y H2=>r x y H2 Q
noncomputable def DW (r:V->Hp->VK->Prop) (ta:TE):TE:=fun σ H Q=>ta σ H fun x H1=>r x H1 Q
noncomputable def rI (C:Int->Int->Prop) (g:Int->Int->V):R2:=fun x y H Q=>∃i j,x= .int i/\y= .int j/\C i j/\Q (g i j) H
noncomputable def uu (g:Int->Int->V):R2:=fun x y H Q=>∃i j,x= .int i/\y= .int j/\Q (g i j) H
noncomputable def rU (g:Int->V):V->Hp->VK->Prop:=fun x H Q=>∃i,x= .int i/\Q (g i) H
section
variable {X:Cx} {a b c:Expr} {ta tb tc:TE} {pos:Pos}
theorem zH (ha:PE X a ta) (hb:PE X b tb) {pins:List (Addr×Obj)} {s:Shared} {σ:St} {H:Hp} {R:V->V->Hp->Prop} (I:aC X pins σ H s)
  (h:ta σ H fun x H1=>tb σ H1 fun y H2=>R x y H2) {Q:Value->Shared->Prop} {f:Value->Value->Sem Value}
  (hf:∀v u s2 x y H2,aC X pins σ H2 s2->bt x v->bt y u->R x y H2->wpAny (model X.prog X.w) X.A (f v u) Q X.xe s2):
  wpAny (model X.prog X.w) X.A (eval a X.env) (fun v s₁=>wpAny (model X.prog X.w) X.A (eval b X.env) (fun u s₂=>wpAny (model X.prog X.w) X.A (f v u) Q X.xe s₂) X.xe s₁) X.xe s:=by
 refine cb (ha pins s σ H _ I h) fun v s1 z_=> ?_
 obtain⟨x,H1,I1,r1,q1⟩:=z_
 refine cb (hb pins s1 σ H1 _ I1 q1) fun u s2 z_=> ?_
 obtain⟨y,H2,I2,r2,q2⟩:=z_
 exact hf v u s2 x y H2 I2 r1 r2 q2
theorem yx {op:Operator} {r:R2} (ho:iH X (binaryOp op) r) (ha:PE X a ta) (hb:PE X b tb):PE X (.BinOp a op b pos) (CH r ta tb):=by
 intro pins s σ H Q I h
 exact wpAny_BinOp (zH ha hb I h fun v u s2 x y H2 I2 rx ry q=>ho pins s2 σ H2 x y v u Q I2 rx ry q)
theorem yy {op:UnaryOp} {r:V->Hp->VK->Prop} (ho:CG X (unaryOp op) r) (ha:PE X a ta):PE X (.UnaryOp op a pos) (DW r ta):=by
 intro pins s σ H Q I h
 exact UnaryOp_ (cb (ha pins s σ H _ I h) fun v s1 ⟨x,H1,I1,r1,q1⟩=>ho pins s1 σ H1 x v Q I1 r1 q1)
theorem CI {f:Value->Value->Sem Value} {C:Int->Int->Prop} {g:Int->Int->Int}
  (rule:∀(i j:Int) (t u:Tok) (s:Shared) (Q:Value->Shared->Prop) (E:Value->Shared->Prop),C i j->Q (.int (g i j) s.toks) {s with toks:=s.toks+1}->wpAny (model X.prog X.w) X.A (f (.int i t) (.int j u)) Q E s):
  iH X f (rI C fun i j=> .int (g i j)):=by
 intro pins s σ H x y v u Q I rx ry h
 obtain⟨i,j,rfl,rfl,hc,q⟩:=h
 obtain⟨t,rfl⟩:=rx
 obtain⟨t',rfl⟩:=ry
 exact rule i j t t' s _ _ hc ⟨.int (g i j),H,I.tok _,⟨_,rfl⟩,q⟩
theorem By {f:Value->Value->Sem Value} {g:Int->Int->Int}
  (rule:∀(i j:Int) (t u:Tok) (s:Shared) (Q:Value->Shared->Prop) (E:Value->Shared->Prop),Q (.int (g i j) s.toks) {s with toks:=s.toks+1}->wpAny (model X.prog X.w) X.A (f (.int i t) (.int j u)) Q E s):
  iH X f (uu fun i j=> .int (g i j)):=by
 intro pins s σ H x y v u Q I rx ry h
 obtain⟨i,j,rfl,rfl,q⟩:=h
 obtain⟨t,rfl⟩:=rx
 obtain⟨t',rfl⟩:=ry
 exact rule i j t t' s _ _ ⟨.int (g i j),H,I.tok _,⟨_,rfl⟩,q⟩
theorem Bz {f:Value->Value->Sem Value} {g:Int->Int->Bool}
  (rule:∀(i j:Int) (t u:Tok) (s:Shared) (Q:Value->Shared->Prop) (E:Value->Shared->Prop),Q (.bool (g i j)) s->wpAny (model X.prog X.w) X.A (f (.int i t) (.int j u)) Q E s):
  iH X f (uu fun i j=> .bl (g i j)):=by
 intro pins s σ H x y v u Q I rx ry h
 obtain⟨i,j,rfl,rfl,q⟩:=h
 obtain⟨t,rfl⟩:=rx
 obtain⟨t',rfl⟩:=ry
 exact rule i j t t' s _ _ ⟨.bl (g i j),H,I,rfl,q⟩
noncomputable def wO (i j:Int):Prop:=0<j/\j<1073741824
noncomputable def wQ (i j:Int):Prop:=0<=j/\j<=1000000/\i.natAbs<2 ^64
noncomputable def sJ (i j:Int):Prop:=(-(2 ^64)<i/\i<2 ^64)\/(-(2 ^64)<j/\j<2 ^64)
theorem sJ.ok {i j:Int} (h:sJ i j):IntMulOk i j:=by
 rcases h with ⟨h1,h2⟩|⟨h1,h2⟩
 ·exact .of_left (intBits_le_64 h1 h2)
 ·exact .of_right (intBits_le_64 h1 h2)
theorem zI:iH X (binaryOp .Add) (uu fun i j=> .int (i+j)):=By fun _ _ _ _ _ _ _ q=>add_int q
theorem fc:iH X (binaryOp .Sub) (uu fun i j=> .int (i - j)):=By fun _ _ _ _ _ _ _ q=>sub_int q
theorem zJ:iH X (binaryOp .Mult) (rI sJ fun i j=> .int (i*j)):=CI fun _ _ _ _ _ _ _ hc q=>mul_int q hc.ok
theorem bV:iH X (binaryOp .FloorDiv) (rI wO fun i j=> .int (i / j)):=CI fun i j _ _ _ _ _ hc q=>by
 have h1:(0:Int)<j:=hc.1
 have h2:j<1073741824:=hc.2
 exact floordiv_int (by omega) (by rw[Int.fdiv_eq_ediv_of_nonneg i (by omega)];exact q) (.inl (PyProof.noPylong_small (by omega)))
theorem bf:iH X (binaryOp .Mod) (rI (fun _ j=>0<j) fun i j=> .int (i%j)):=CI fun i j _ _ _ _ _ hc q=>by
 have h1:(0:Int)<j:=hc
 exact mod_int' (by omega) (by rw[Int.fmod_eq_emod_of_nonneg i (by omega)];exact q)
theorem zK:iH X (binaryOp .Pow) (rI wQ fun i j=> .int (i ^j.toNat)):=CI fun _ _ _ _ _ _ _ hc q=>pow_int_small hc.1 hc.2.1 hc.2.2 q
theorem DX {f:Value->Sem Value} {g:Int->Int}
  (rule:∀(i:Int) (t:Tok) (s:Shared) (Q:Value->Shared->Prop) (E:Value->Shared->Prop),Q (.int (g i) s.toks) {s with toks:=s.toks+1}->wpAny (model X.prog X.w) X.A (f (.int i t)) Q E s):
  CG X f (rU fun i=> .int (g i)):=by
 intro pins s σ H x v Q I rx h
 obtain⟨i,rfl,q⟩:=h
 obtain⟨t,rfl⟩:=rx
 exact rule i t s _ _ ⟨.int (g i),H,I.tok _,⟨_,rfl⟩,q⟩
theorem nJ:CG X (unaryOp .USub) (rU fun i=> .int (-i)):=DX fun _ _ _ _ _ q=>neg_int q
end
noncomputable def zL:V->V->Bool
 | .non, .non=>true| .non, .int _=>true| .int _, .non=>true| .non, .bl _=>true| .bl _, .non=>true| .non, .str _=>true| .str _, .non=>true
 | .int _, .int _=>true| .bl _, .bl _=>true| .str _, .str _=>true| .byt _, .byt _=>true
 | .int _, .str _=>true| .str _, .int _=>true| .bl _, .str _=>true| .str _, .bl _=>true
 |_,_=>false
noncomputable def DK:R2:=fun x y H Q=>zL x y=true/\Q (.bl (decide (x=y))) H
noncomputable def DL:R2:=fun x y H Q=>zL x y=true/\Q (.bl (!decide (x=y))) H
theorem rJ {i j:Int}:decide (V.int i=V.int j)=(i==j):=by
 rw[Bool.eq_iff_iff]
 simp
theorem uv {i j:Bool}:decide (V.bl i=V.bl j)=(i==j):=by
 rw[Bool.eq_iff_iff]
 simp
theorem rK {i j:Str}:decide (V.str i=V.str j)=(i==j):=by
 rw[Bool.eq_iff_iff]
 simp
theorem rL {i j:Array UInt8}:decide (V.byt i=V.byt j)=(i.toList==j.toList):=by
 rw[Bool.eq_iff_iff]
 cases i
 cases j
 simp
section
variable {X:Cx} {a b c:Expr} {ta tb tc:TE} {pos:Pos}
theorem bB {pins:List (Addr×Obj)} {σ:St} {H:Hp} {s:Shared} {Q:VK} {k k':Bool} (I:aC X pins σ H s) (q:Q (.bl k) H) (e:k=k'):EP X pins σ Q (.bool k') s:=by
 subst e
 exact⟨.bl k,H,I,rfl,q⟩
theorem dO:iH X (compareOp .Eq) DK:=by
 intro pins s σ H x y v u Q I rx ry h
 obtain⟨hs,q⟩:=h
 cases x with
 |non=>
  cases rx
  cases y with
  |non=>cases ry;exact PySem.EqNone.eq_none_none (bB I q (by simp))
  |bl j=>cases ry;exact PySem.EqNone.eq_none_bool (bB I q (by simp))
  |int j=>obtain⟨t',rfl⟩:=ry;exact PySem.EqNone.eq_none_int (bB I q (by simp))
  |str j=>obtain⟨t',rfl⟩:=ry;exact PySem.EqNone.eq_none_str (bB I q (by simp))
  |_=>exact absurd (show false=true from hs) Bool.false_ne_true
 |bl i=>
  cases rx
  cases y with
  |non=>cases ry;exact PySem.EqNone.eq_bool_none (bB I q (by simp))
  |bl j=>cases ry;exact eq_bool (bB I q uv)
  |str j=>obtain⟨t',rfl⟩:=ry;exact PySem.EqMixed.eq_bool_str (bB I q (by simp))
  |_=>exact absurd (show false=true from hs) Bool.false_ne_true
 |int i=>
  obtain⟨t,rfl⟩:=rx
  cases y with
  |non=>cases ry;exact PySem.EqNone.eq_int_none (bB I q (by simp))
  |int j=>obtain⟨t',rfl⟩:=ry;exact eq_int (bB I q rJ)
  |str j=>obtain⟨t',rfl⟩:=ry;exact PySem.EqMixed.eq_int_str (bB I q (by simp))
  |_=>exact absurd (show false=true from hs) Bool.false_ne_true
 |str i=>
  obtain⟨t,rfl⟩:=rx
  cases y with
  |non=>cases ry;exact PySem.EqNone.eq_str_none (bB I q (by simp))
  |bl j=>cases ry;exact PySem.EqMixed.eq_str_bool (bB I q (by simp))
  |int j=>obtain⟨t',rfl⟩:=ry;exact PySem.EqMixed.eq_str_int (bB I q (by simp))
  |str j=>obtain⟨t',rfl⟩:=ry;exact eq_str (bB I q rK)
  |_=>exact absurd (show false=true from hs) Bool.false_ne_true
 |byt i=>
  obtain⟨t,rfl⟩:=rx
  cases y with
  |byt j=>obtain⟨t',rfl⟩:=ry;exact PySem.W.eq_bytes (bB I q rL)
  |_=>exact absurd (show false=true from hs) Bool.false_ne_true
 |_=>cases y<;>exact absurd (show false=true from hs) Bool.false_ne_true
theorem uw:iH X (compareOp .NotEq) DL:=by
 intro pins s σ H x y v u Q I rx ry h
 obtain⟨hs,q⟩:=h
 cases x with
 |non=>
  cases rx
  cases y with
  |non=>cases ry;exact PySem.EqNone.ne_none_none (bB I q (by simp))
  |bl j=>cases ry;exact PySem.EqNone.ne_none_bool (bB I q (by simp))
  |int j=>obtain⟨t',rfl⟩:=ry;exact PySem.EqNone.ne_none_int (bB I q (by simp))
  |str j=>obtain⟨t',rfl⟩:=ry;exact PySem.EqNone.ne_none_str (bB I q (by simp))
  |_=>exact absurd (show false=true from hs) Bool.false_ne_true
 |bl i=>
  cases rx
  cases y with
  |non=>cases ry;exact PySem.EqNone.ne_bool_none (bB I q (by simp))
  |bl j=>cases ry;exact ne_bool (bB I q (congrArg not uv))
  |str j=>obtain⟨t',rfl⟩:=ry;exact PySem.EqMixed.ne_bool_str (bB I q (by simp))
  |_=>exact absurd (show false=true from hs) Bool.false_ne_true
 |int i=>
  obtain⟨t,rfl⟩:=rx
  cases y with
  |non=>cases ry;exact PySem.EqNone.ne_int_none (bB I q (by simp))
  |int j=>obtain⟨t',rfl⟩:=ry;exact ne_int (bB I q (congrArg not rJ))
  |str j=>obtain⟨t',rfl⟩:=ry;exact PySem.EqMixed.ne_int_str (bB I q (by simp))
  |_=>exact absurd (show false=true from hs) Bool.false_ne_true
 |str i=>
  obtain⟨t,rfl⟩:=rx
  cases y with
  |non=>cases ry;exact PySem.EqNone.ne_str_none (bB I q (by simp))
  |bl j=>cases ry;exact PySem.EqMixed.ne_str_bool (bB I q (by simp))
  |int j=>obtain⟨t',rfl⟩:=ry;exact PySem.EqMixed.ne_str_int (bB I q (by simp))
  |str j=>obtain⟨t',rfl⟩:=ry;exact ne_str (bB I q (congrArg not rK))
  |_=>exact absurd (show false=true from hs) Bool.false_ne_true
 |byt i=>
  obtain⟨t,rfl⟩:=rx
  cases y with
  |byt j=>obtain⟨t',rfl⟩:=ry;exact PySem.W.ne_bytes (bB I q (congrArg not rL))
  |_=>exact absurd (show false=true from hs) Bool.false_ne_true
 |_=>cases y<;>exact absurd (show false=true from hs) Bool.false_ne_true
theorem rM:iH X (compareOp .Lt) (uu fun i j=> .bl (decide (i<j))):=Bz fun _ _ _ _ _ _ _ q=>lt_int q
theorem rN:iH X (compareOp .Gt) (uu fun i j=> .bl (decide (j<i))):=Bz fun _ _ _ _ _ _ _ q=>gt_int q
theorem iH.or {f:Value->Value->Sem Value} {r r':R2} (h:iH X f r) (h':iH X f r'):iH X f (fun x y H Q=>r x y H Q\/r' x y H Q):=by
 intro pins s σ H x y v u Q I rx ry q
 rcases q with q|q
 ·exact h pins s σ H x y v u Q I rx ry q
 ·exact h' pins s σ H x y v u Q I rx ry q
theorem ux (b:Expr) {op:CmpOp} (h:op≠ .In:=by decide) (h2:op≠ .NotIn:=by decide):behindInMarks op b=false:=by
 have e1:(op==CmpOp.In)=false:=by cases op<;>first|rfl|exact absurd rfl h
 have e2:(op==CmpOp.NotIn)=false:=by cases op<;>first|rfl|exact absurd rfl h2
 cases b<;>simp[behindInMarks,e1,e2]
theorem wR {op:CmpOp} {r:R2} (ho:iH X (compareOp op) r) (ha:PE X a ta) (hb:PE X b tb) (hm:behindInMarks op b=false):PE X (.Compare a [op] [b] pos) (CH r ta tb):=by
 intro pins s σ H Q I h
 exact wpAny_Compare1 (zH ha hb I h fun v u s2 x y H2 I2 rx ry q=>ho pins s2 σ H2 x y v u Q I2 rx ry q) hm
noncomputable def yz (t:TE):TT:=fun σ H Q=>t σ H fun x H'=>∃k,x= .bl k/\Q k H'
theorem wU {op:CmpOp} {r:R2} (ho:iH X (compareOp op) r) (ha:PE X a ta) (hb:PE X b tb) (hm:behindInMarks op b=false):PT X (.Compare a [op] [b] pos) (yz (CH r ta tb)):=by
 intro pins s σ H Q I h
 refine wpAny_isTrue_Compare1 (cb (ha pins s σ H _ I h) fun v s1 ⟨x,H1,I1,r1,q1⟩=>cb (hb pins s1 σ H1 _ I1 q1) fun u s2 ⟨y,H2,I2,r2,q2⟩=>
  cb (ho pins s2 σ H2 x y v u _ I2 r1 r2 q2) fun c s3 ⟨z,H3,I3,r3,k,e,q3⟩=> ?_) hm
 subst e
 cases r3
 exact wpAny_truthy_bool ⟨H3,I3,q3⟩
noncomputable def BA (K:PySem.W.Frag) (x:V) (H:Hp) (k:Bool):Prop:=
 match x with
 | .non=>k=false
 | .bl b=>k=b
 | .int i=>k=(i != 0)
 | .str y=>y.length<=sizeLine/\k=((y.length:Int) != 0)
 | .byt y=>y.size<=sizeLine/\k=((y.size:Int) != 0)
 | .ref p=>(∃xs,cT K H p xs/\k= !xs.isEmpty)\/(∃xs,eR K H p xs/\k= !xs.isEmpty)\/∃kvs,H p=some (.dK kvs)/\k= !kvs.isEmpty
 |_=>False
theorem qf {κ:Type} {kvs:List (κ×V)} {vs:List (κ×Value)} (r:KV kvs vs):(!vs.isEmpty)= !kvs.isEmpty:=by
 cases r<;>rfl
theorem li {xs:List V} {its:List Value} (r:aO xs its):(!its.toArray.isEmpty)= !xs.isEmpty:=by
 cases r<;>simp
theorem jS:(sizeLine:Nat)<2 ^63:=by rw[sizeLine_eq];decide
theorem zM:Di X (fun x H Q=>∃k,BA X.K x H k/\Q k H):=by
 intro pins s σ H x v Q I rx h
 obtain⟨k,e,q⟩:=h
 have hl:=jS
 have hs:sizeLine=16777216:=sizeLine_eq
 cases x with
 |non=>
  cases rx
  have e':k=false:=e
  subst e'
  exact truthy_none ⟨H,I,q⟩
 |bl b=>
  cases rx
  have e':k=b:=e
  subst e'
  exact wpAny_truthy_bool ⟨H,I,q⟩
 |int i=>
  obtain⟨t,rfl⟩:=rx
  have e':k=(i != 0):=e
  subst e'
  exact PySem.P.truthy_int ⟨H,I,q⟩
 |str y=>
  obtain⟨t,rfl⟩:=rx
  obtain⟨hy,e'⟩:y.length<=sizeLine/\k=((y.length:Int) != 0):=e
  subst e'
  exact PySem.P.truthy_str (by omega) ⟨H,I.tok _,q⟩
 |byt y=>
  obtain⟨t,rfl⟩:=rx
  obtain⟨hy,e'⟩:y.size<=sizeLine/\k=((y.size:Int) != 0):=e
  subst e'
  exact PySem.W.truthy_bytes (by omega) ⟨H,I.tok _,q⟩
 |ref p=>
  cases rx
  have e':(∃xs,cT X.K H p xs/\k= !xs.isEmpty)\/(∃xs,eR X.K H p xs/\k= !xs.isEmpty)\/∃kvs,H p=some (.dK kvs)/\k= !kvs.isEmpty:=e
  rcases e' with ⟨xs,hx,e'⟩|⟨xs,hx,e'⟩|⟨kvs,hx,e'⟩
  ·subst e'
   obtain⟨its,r,pl,hz⟩:=I.list hx
   have hlen:=r.length
   exact wpAny_truthy_list pl.isList (by simp only[List.size_toArray];omega) ⟨H,I.tok _,by rw[li r];exact q⟩
  ·subst e'
   obtain⟨its,r,pl,hz⟩:=I.tuple hx
   have hlen:=r.length
   exact truthy_tuple pl (by simp only[List.size_toArray];omega) ⟨H,I.tok _,by rw[li r];exact q⟩
  ·subst e'
   obtain⟨hz,hS,vs,r,m⟩:kvs.length<=sizeLine/\(p==sysModules)=false/\∃vs,KV kvs vs/\s.heap.DictOf (bz X.prog X.w) p vs:=I.hok p _ hx
   have hlen:kvs.length=vs.length:=Paired.length r
   exact wpAny_truthy_dict hS m (by omega) ⟨H,I.tok _,by rw[qf r];exact q⟩
 |_=>exact(show False from e).elim
theorem uy (ha:PE X a ta) (he:∀whole,isTrue a X.env whole=(do let v<-whole;standAt a.pos;holding [v] (truthy v))):
  PT X a (fun σ H Q=>ta σ H fun x H'=>∃k,BA X.K x H' k/\Q k H'):=by
 intro pins s σ H Q I h
 exact isTrue_plain (cb (ha pins s σ H _ I h) fun v s1 ⟨x,H1,I1,r1,q1⟩=>zM pins s1 σ H1 x v Q I1 r1 q1) (he _)
theorem gj {x:V} {us:List Value} (r:aO [x] us):∃u,us=[u]/\bt x u:=by
 cases r with
 |cons r1 r2=>cases r2;exact⟨_,rfl,r1⟩
theorem oN {x y:V} {us:List Value} (r:aO [x,y] us):∃u w',us=[u,w']/\bt x u/\bt y w':=by
 cases r with
 |cons r1 r2=>
  cases r2 with
  |cons r3 r4=>cases r4;exact⟨_,_,rfl,r1,r3⟩
theorem mM (hc:X.calm=true):cG X (.builtin "max") (fun xs H Q=>∃i j,xs=[.int i, .int j]/\Q (.int (if j>i then j else i)) H):=by
 intro pins s σ H xs us Q I r h
 obtain⟨i,j,rfl,q⟩:=h
 obtain⟨u,w',rfl,⟨t,rfl⟩,⟨t',rfl⟩⟩:=oN r
 refine max_two_ints (I.ok.hd hc) fun h' tk k=>⟨_,H,I.kept k,?_,q⟩
 by_cases hj:j>i
 ·rw[if_pos hj,if_pos hj];exact⟨_,rfl⟩
 ·rw[if_neg hj,if_neg hj];exact⟨_,rfl⟩
theorem mO (hc:X.calm=true):cG X (.builtin "min") (fun xs H Q=>∃i j,xs=[.int i, .int j]/\Q (.int (if j<i then j else i)) H):=by
 intro pins s σ H xs us Q I r h
 obtain⟨i,j,rfl,q⟩:=h
 obtain⟨u,w',rfl,⟨t,rfl⟩,⟨t',rfl⟩⟩:=oN r
 refine min_two_ints (I.ok.hd hc) fun h' tk k=>⟨_,H,I.kept k,?_,q⟩
 by_cases hj:j<i
 ·rw[if_pos hj,if_pos hj];exact⟨_,rfl⟩
 ·rw[if_neg hj,if_neg hj];exact⟨_,rfl⟩
theorem sK:cG X (.type "int") (fun xs H Q=>(∃i,xs=[.int i]/\Q (.int i) H)\/∃k,xs=[.bl k]/\Q (.int (if k then 1 else 0)) H):=by
 intro pins s σ H xs us Q I r h
 rcases h with ⟨i,rfl,q⟩|⟨k,rfl,q⟩
 ·obtain⟨u,rfl,t,rfl⟩:=gj r
  exact call_int_int ⟨.int i,H,I,⟨_,rfl⟩,q⟩
 ·obtain⟨u,rfl,r1⟩:=gj r
  cases r1
  exact call_int_bool ⟨.int (if k then 1 else 0),H,I.tok _,⟨_,rfl⟩,q⟩
end
end L2
namespace L2
open PySem PySem.Spec PyProof.Rows
structure qg (h:Heap) (x dx C:Addr) (mA:Str->Option Value):Prop where
 obj:h.get? x=some (PySem.W.instObj C dx)
 ns:h.Ns1 dx mA
 ne:dx≠x
theorem sL {h:Heap} {dx:Addr} {mA:Str->Option Value} (n:h.Ns1 dx mA):∃od,h.get? dx=some od/\∀name,PySem.W.lookIn name od=some (mA name):=by
 obtain⟨o,es,ep,ho,hd,hk,_,hm⟩:=n
 refine⟨o,ho,fun name=> ?_⟩
 have e:=hm name
 unfold nsFind findBy at e
 rw[<-Array.find?_toList]at e
 unfold PySem.W.lookIn
 rw[hd]
 dsimp only
 split
 ·rename_i y q
  rw[q]at e
  exact congrArg some e
 ·rename_i q
  rw[q]at e
  have a:es.toList.any (·.refKey)=false:=by
   rw[List.any_eq_false]
   intro y hy
   obtain⟨z,t,hkey⟩:=hk y (Array.mem_toList_iff.mp hy)
   simp[DictEntry.refKey,hkey]
  have a':¬es.toList.any (·.refKey)=true:=by rw[a];exact Bool.false_ne_true
  rw[if_neg a']
  exact congrArg some e
theorem qg.look {h:Heap} {x dx C:Addr} {mA:Str->Option Value} (I:qg h x dx C mA):∃od,PySem.W.InstAt h x (PySem.W.instObj C dx) C (some od)/\∀name,PySem.W.lookIn name od=some (mA name):=
 let ⟨od,ho,hl⟩:=sL I.ns
 ⟨od,⟨I.obj,rfl,rfl,ho⟩,hl⟩
section
variable {prog:Program} {w:World} {A:Around} {E:Value->Shared->Prop} {s:Shared} {K:PySem.W.Frag} {x dx C f:Addr} {mA:Str->Option Value} {name:Str} {v:Value}
theorem wV {expr:Bool} {Q:Value->Shared->Prop} (X:K.In s.heap) (I:qg s.heap x dx C mA) (hg:PySem.W.plainGet K C name=true) (hh:PySem.W.hasDictIn K C=true)
  (ha:PySem.W.findIn K (.ref C) name=some none) (hv:mA name=some v) (hv':PySem.W.handedIn v=true) (h:Q v {s with toks:=s.toks+1}):
  wpAny (model prog w) A (getAttr (.ref x) name expr) Q E s:=by
 obtain⟨od,J,hl⟩:=I.look
 exact PySem.W.get_value X J (PySem.W.plainGet_of hg).1 (PySem.W.findObj_own hh ha rfl (by rw[hl,hv])) hv' h
theorem uz {pl:Sem Bool} {Q:Value×List Value->Shared->Prop} (X:K.In s.heap) (I:qg s.heap x dx C mA) (hg:PySem.W.plainGet K C name=true)
  (hf:PySem.W.findIn K (.ref C) name=some (some (.ref f))) (ht:PySem.W.isFn K (.ref f)=true) (hv:mA name=none) (h:Q (.ref f,[.ref x]) s):
  wpAny (model prog w) A (getMethod (.ref x) name pl) Q E s:=by
 obtain⟨od,J,hl⟩:=I.look
 exact PySem.W.method_fn X J (PySem.W.plainGet_of hg).1 (PySem.W.plainGet_of hg).2 hf (beq_iff_eq.mp ht) (by show (PySem.W.lookIn name od).map (·.isSome)=some false;rw[hl,hv];rfl) h
theorem wW {ns:List Str} {Q:Unit->Shared->Prop} (X:K.In s.heap) (I:qg s.heap x dx C mA)
  (hs:PySem.W.findIn K (.ref C) "__setattr__"=some (some (.builtin "object.__setattr__"))) (hp:PySem.W.plainOver K C=true) (ht:PySem.W.takerIn K C name=some none) (hh:PySem.W.hasDictIn K C=true)
  (hw:PySem.Within mA ns) (hsz:ns.length<=sizeLine)
  (h:∀h',qg h' x dx C (fun y=>if y=name then some v else mA y)->Heap.SameBut dx s.heap h'->Q () {s with heap:=h',toks:=s.toks+2}):
  wpAny (model prog w) A (setAttr (.ref x) name v) Q E s:=by
 obtain⟨od,J,hl⟩:=I.look
 refine PySem.W.set_plain X J hs (PySem.W.osa_open (s:={s with toks:=s.toks+1}) (r:=none) X J hp ht fun b=> ?_)
 obtain⟨cd,hc,hd'⟩:=PySem.W.any_some hh
 have hx:s.heap.get? x=some ⟨.ref C,some dx, .plain,#[]⟩:=I.obj
 refine wpAny_bind (wpAny_pure (wpAny_bind (wpAny_bind (wpAny_loadPart hx (wpAny_bind (PySem.W.Looks.here (s:={s with toks:=s.toks+1}) (PySem.W.looks_clsIn X hc) ?_))))))
 rw[hd']
 refine wpAny_pure (a:=some dx) (wpAny_bind (wpAny_pure (wpAny_bind ?_)))
 refine wpAny_nsSet1 (s:={s with toks:=s.toks+1}) I.ns fun h' hn2 hs2=> ?_
 obtain⟨oD,esD,epD,hoD,hdD,hcD⟩:=hn2.count (PySem.Within.cons name v hw)
 refine wpAny_bind (wpAny_lookBehind hoD (by rw[hdD];exact pastItsLine_dict (Nat.le_trans hcD (by rw[List.length_cons];omega))) ?_)
 exact wpAny_pure (h _ ⟨(hs2.2 _ (Ne.symm I.ne)).trans I.obj,hn2,I.ne⟩ hs2)
theorem uA {R:Result->Shared->Prop} {vs:List Value} {kw:List (Str×Value)} (X:K.In s.heap) (hm:PySem.W.makesIn K C=true)
  (hi:PySem.W.findIn K (.ref C) "__init__"=some (some (.ref f))) (hf:PySem.W.typeIn K (.ref f)=some (.type "function"))
  (h:codeAny (model prog w) (A.under (.builtin "type.__call__" ⟨.ref C::vs,kw⟩)) (.call (.ref f) ⟨.ref (s.heap.objs.size+1)::vs,kw⟩) (PySem.W.InitBack (s.heap.objs.size+1) R)
   {s with heap:=(s.heap.push PySem.W.emptyDict).push (PySem.W.instObj C s.heap.objs.size)}):
  codeAny (model prog w) A (.call (.ref C) ⟨vs,kw⟩) R s:=by
 obtain⟨hh,g,d,t,os⟩:=s
 exact PySem.W.make_core (PySem.W.makes_of X hm) (PySem.W.looks_findIn X hi) (fun self=>PySem.W.bind_fn X self hf) (.inl rfl) h
end
noncomputable def fU (f:Str) (v:V):List (Str×V)->List (Str×V)
 |[]=>[(f,v)]
 |(g,x)::r=>if g=f then (g,v)::r else (g,x)::fU f v r
theorem fN (f g:Str) (v:V):∀fs:List (Str×V),(fU f v fs).lookup g=if g=f then some v else fs.lookup g
 |[]=>by
  show List.lookup g [(f,v)]=_
  by_cases h:g=f
  ·have hb:(g==f)=true:=beq_iff_eq.mpr h
   simp only[List.lookup,hb,if_pos h]
  ·have hb:(g==f)=false:=beq_eq_false_iff_ne.mpr h
   simp only[List.lookup,hb,if_neg h]
 |(k,x)::r=>by
  have ih:=fN f g v r
  rw[show fU f v ((k,x)::r)=(if k=f then (k,v)::r else (k,x)::fU f v r)from rfl]
  by_cases hk:k=f
  ·rw[if_pos hk]
   by_cases h:g=k
   ·have hb:(g==k)=true:=beq_iff_eq.mpr h
    simp only[List.lookup,hb,if_pos (h.trans hk)]
   ·have hb:(g==k)=false:=beq_eq_false_iff_ne.mpr h
    simp only[List.lookup,hb,if_neg (fun e:g=f=>h (e.trans hk.symm))]
  ·rw[if_neg hk]
   by_cases h:g=k
   ·have hb:(g==k)=true:=beq_iff_eq.mpr h
    simp only[List.lookup,hb,if_neg (fun e:g=f=>hk (h.symm.trans e))]
   ·have hb:(g==k)=false:=beq_eq_false_iff_ne.mpr h
    simp only[List.lookup,hb]
    exact ih
theorem jT (f:Str) (v:V):∀fs:List (Str×V),f∈(fU f v fs).map (·.1)/\∀g,g∈fs.map (·.1)->g∈(fU f v fs).map (·.1)
 |[]=>⟨by simp[fU],fun g h=>by simp at h⟩
 |(k,x)::r=>by
  obtain⟨i1,i2⟩:=jT f v r
  rw[show fU f v ((k,x)::r)=(if k=f then (k,v)::r else (k,x)::fU f v r)from rfl]
  by_cases hk:k=f
  ·rw[if_pos hk]
   subst hk
   exact⟨by simp,fun g h=>by simpa using h⟩
  ·rw[if_neg hk]
   refine⟨?_,fun g h=> ?_⟩
   ·rw[List.map_cons]
    exact List.mem_cons_of_mem _ i1
   ·rw[List.map_cons]at h ⊢
    rcases List.mem_cons.mp h with e|e
    ·exact List.mem_cons.mpr (.inl e)
    ·exact List.mem_cons_of_mem _ (i2 g e)
theorem ko (f:Str) (v:V):∀fs:List (Str×V),(fU f v fs).length<=fs.length+1
 |[]=>by simp[fU]
 |(k,x)::r=>by
  have ih:=ko f v r
  rw[show fU f v ((k,x)::r)=(if k=f then (k,v)::r else (k,x)::fU f v r)from rfl]
  by_cases hk:k=f
  ·rw[if_pos hk,List.length_cons,List.length_cons];omega
  ·rw[if_neg hk,List.length_cons,List.length_cons];omega
theorem gW.some_of {v:V} {o:Option Value} (r:gW (some v) o):∃u,o=some u/\bt v u:=by
 cases o with
 |none=>exact(show False from r).elim
 |some u=>exact⟨u,rfl,r⟩
theorem gW.none_of {o:Option Value} (r:gW none o):o=none:=by
 cases o with
 |none=>rfl
 |some u=>exact(show False from r).elim
theorem sM {v:V} {u:Value} (r:bt v u):PySem.W.handedIn u=true:=by
 cases v with
 |non=>cases (show u=Value.none from r);rfl
 |bl b=>cases (show u=Value.bool b from r);rfl
 |int i=>obtain⟨t,e⟩:=(show ∃t,u=Value.int i t from r);cases e;rfl
 |str x=>obtain⟨t,e⟩:=(show ∃t,u=Value.str x t from r);cases e;rfl
 |byt b=>obtain⟨t,e⟩:=(show ∃t,u=Value.bytes b t from r);cases e;rfl
 |flt b=>obtain⟨t,e⟩:=(show ∃t,u=Value.float b t from r);cases e;rfl
 |ref a=>cases (show u=Value.ref a from r);rfl
 |ty n=>cases (show u=Value.type n from r);rfl
section
variable {P:Program} {w:World} {H H':Hp} {h h':Heap} {a C dx:Addr} {fs fs':List (Str×V)}
theorem kT (hok:gX P w H h) (e:H a=some (.ins C dx fs)):∃mA,qg h a dx C mA/\(∀f,gW (fs.lookup f) (mA f))/\PySem.Within mA (fs.map (·.1))/\fs.length<=1000/\H dx=some (.own a):=by
 obtain⟨d,z,ne,ob,mA,n,r,q⟩:=(show bK P w H h a (.ins C dx fs)from hok a _ e)
 exact⟨mA,⟨ob,n,ne⟩,r,q,z,d⟩
end
structure sN (K:PySem.W.Frag) (C:Addr):Prop where
 pg:PySem.W.plainGet K C Str.empty=true
 hd:PySem.W.hasDictIn K C=true
 po:PySem.W.plainOver K C=true
 sa:PySem.W.findIn K (.ref C) "__setattr__"=some (some (.builtin "object.__setattr__"))
theorem sN.get {K:PySem.W.Frag} {C:Addr} (c:sN K C) (f:Str):PySem.W.plainGet K C f=true:=c.pg
noncomputable def eO (K:PySem.W.Frag) (C:Addr) (f:Str):Prop:=PySem.W.findIn K (.ref C) f=some none
theorem eO.taker {K:PySem.W.Frag} {C:Addr} {f:Str} (n:eO K C f):PySem.W.takerIn K C f=some none:=by
 unfold PySem.W.takerIn
 rw[show PySem.W.findIn K (.ref C) f=some none from n]
 rfl
structure uB (K:PySem.W.Frag) (C:Addr) (m:Str) (f:Addr):Prop where
 at_:PySem.W.findIn K (.ref C) m=some (some (.ref f))
 fn:PySem.W.isFn K (.ref f)=true
 kp:PySem.W.keepIn K (.ref f)=true
section
variable {X:Cx} {pins:List (Addr×Obj)} {σ:St} {H:Hp} {s:Shared} {a C dx:Addr} {fs:List (Str×V)} {f:Str} {v:V} {A:Around} {E:Value->Shared->Prop}
theorem qh {b:Bool} {Q:Value->Shared->Prop} (I:aC X pins σ H s) (e:H a=some (.ins C dx fs)) (c:sN X.K C) (n:eO X.K C f) (l:fs.lookup f=some v)
  (h:∀u s',aC X pins σ H s'->bt v u->Q u s'):wpAny (model X.prog X.w) A (getAttr (.ref a) f b) Q E s:=by
 obtain⟨mA,O,r,_,_,_⟩:=kT I.hok e
 obtain⟨u,hu,ru⟩:=gW.some_of (v:=v) (o:=mA f) (by rw[<-l];exact r f)
 exact wV I.kIn O (c.get f) c.hd n hu (sM ru) (h u _ (I.tok _) ru)
theorem lj {m:Str} {g:Addr} {pl:Sem Bool} {Q:Value×List Value->Shared->Prop} (I:aC X pins σ H s) (e:H a=some (.ins C dx fs)) (c:sN X.K C) (k:uB X.K C m g) (l:fs.lookup m=none)
  (h:Q (.ref g,[.ref a]) s):wpAny (model X.prog X.w) A (getMethod (.ref a) m pl) Q E s:=by
 obtain⟨mA,O,r,_,_,_⟩:=kT I.hok e
 have hn:mA m=none:=gW.none_of (by rw[<-l];exact r m)
 exact uz I.kIn O (c.get m) k.at_ k.fn hn h
theorem qi {y:V} {u:Value} {Q:Unit->Shared->Prop} (I:aC X pins σ H s) (e:H a=some (.ins C dx fs)) (c:sN X.K C) (n:eO X.K C f) (hl:fs.length<1000) (ry:bt y u)
  (h:∀s',aC X pins σ (br H a (.ins C dx (fU f y fs))) s'->Q () s'):wpAny (model X.prog X.w) A (setAttr (.ref a) f u) Q E s:=by
 obtain⟨mA,O,r,wi,_,ho⟩:=kT I.hok e
 have hz:(fs.map (·.1)).length<=sizeLine:=by rw[List.length_map,sizeLine_eq];omega
 refine wW I.kIn O c.sa c.po n.taker c.hd wi hz fun h' O' sb=>h _ ?_
 have hd:∃o,h'.get? dx=some o:=let ⟨o,_,_,e',_⟩:=O'.ns;⟨o,e'⟩
 refine I.write (x:=a) (e:=dx) (by rw[e];exact True.intro) (.inr ho) (fun b q hb z=>(sb.2 b hb).trans z) hd ?_
 refine⟨by rw[aw O.ne];exact ho,?_,O.ne,O'.obj,_,O'.ns,fun g=> ?_,fun g hg=> ?_⟩
 ·have:=ko f y fs;omega
 ·show gW ((fU f y fs).lookup g) (if g=f then some u else mA g)
  rw[fN]
  by_cases q:g=f
  ·rw[if_pos q,if_pos q];exact ry
  ·rw[if_neg q,if_neg q];exact r g
 ·by_cases q:g=f
  ·rw[q];exact(jT f y fs).1
  ·refine(jT f y fs).2 g (wi g fun z=>hg ?_)
   show (if g=f then some u else mA g)=none
   rw[if_neg q];exact z
theorem aC.made (I:aC X pins σ H s):aC X pins σ (br (br H s.heap.objs.size (.own (s.heap.objs.size+1))) (s.heap.objs.size+1) (.ins C s.heap.objs.size []))
  {s with heap:=(s.heap.push PySem.W.emptyDict).push (PySem.W.instObj C s.heap.objs.size)}:=by
 have e1:(s.heap.push PySem.W.emptyDict).get? s.heap.objs.size=some PySem.W.emptyDict:=Heap.get?_push_size s.heap rfl
 have e2:((s.heap.push PySem.W.emptyDict).push (PySem.W.instObj C s.heap.objs.size)).get? (s.heap.objs.size+1)=some (PySem.W.instObj C s.heap.objs.size):=by
  have:=Heap.get?_push_size (s.heap.push PySem.W.emptyDict) (o:=PySem.W.instObj C s.heap.objs.size) rfl
  rwa [Heap.size_push]at this
 have e3:(s.heap.push PySem.W.emptyDict).Ns s.heap.objs.size (fun _=>none):=⟨PySem.W.emptyDict,#[],_,e1,rfl,(fun e he=>absurd he (by simp)),fun _=>rfl⟩
 have I1:=I.laid (a:=s.heap.objs.size) (o:= .own (s.heap.objs.size+1)) (h':=s.heap.push PySem.W.emptyDict) (t':=s.toks) (fun b u q=>Heap.get?_push_of_some _ q) (Nat.le_refl _) ⟨_,e1⟩
 refine I1.laid (a:=s.heap.objs.size+1) (o:= .ins C s.heap.objs.size []) (t':=s.toks) (fun b u q=>Heap.get?_push_of_some _ q) (Nat.le_of_eq (Heap.size_push _ _)) ?_
 have ne:s.heap.objs.size≠s.heap.objs.size+1:=Nat.ne_of_lt (Nat.lt_succ_self _)
 refine⟨by rw[aw ne,aA],Nat.zero_le _,ne,e2,fun _=>none,(Heap.Ns1.of_empty e3).at fun o q=>Heap.get?_push_of_some _ q,fun _=>True.intro,fun y hy=>absurd rfl hy⟩
theorem wX {prog:Program} {w:World} {env:Env} {e:Expr} {f:Str} {pos:Pos} {s:Shared} {Q:Value->Shared->Prop} (hb:attributeBase e f env (eval e env)=eval e env)
  (h:wpAny (model prog w) A (eval e env) (fun o s₁=>wpAny (model prog w) A (getAttr o f true) Q E s₁) E s):wpAny (model prog w) A (eval (.Attribute e f pos) env) Q E s:=
 Attribute_any_ h (by rw[arm_eval_Attribute,hb])
end
noncomputable def Dj (K:PySem.W.Frag) (ta:TE) (f:Str):TE:=fun σ H Q=>ta σ H fun x H1=>∃a C dx fs v,x= .ref a/\H1 a=some (.ins C dx fs)/\sN K C/\eO K C f/\fs.lookup f=some v/\Q v H1
section
variable {X:Cx} {o e value:Expr} {f:Str} {pos pos' tpos:Pos} {ta tv:TE}
theorem zN (he:PE X e ta) (hb:attributeBase e f X.env (eval e X.env)=eval e X.env):PE X (.Attribute e f pos) (Dj X.K ta f):=by
 intro pins s σ H Q I h
 refine wX hb (cb (he pins s σ H _ I h) fun u s1 z_=> ?_)
 obtain⟨x,H1,I1,rx,a,C,dx,fs,v,ex,ea,c,n,l,q⟩:=z_
 subst ex
 obtain rfl:u=Value.ref a:=rx
 exact qh I1 ea c n l fun u' s2 I2 ru=>⟨v,H1,I2,ru,q⟩
theorem yA {pl:Sem Bool} {m:Str} {apos:Pos} {args:List Expr} {pins:List (Addr×Obj)} {s:Shared} {σ:St} {H:Hp} {Q:Value->Shared->Prop} {te:TE} (he:PE X e te) (I:aC X pins σ H s)
  (h:te σ H fun x H1=>∃a C dx fs g,x= .ref a/\H1 a=some (.ins C dx fs)/\sN X.K C/\uB X.K C m g/\fs.lookup m=none/\
   ∀s1,aC X pins σ H1 s1->wpAny (model X.prog X.w) X.A (callWith pos (.ref g) [.ref a] (backTo pos (starEach args X.env)) (backToKw pos (keywordEach [] X.env))) Q X.xe s1)
  (ht:eval (.Call (.Attribute e m apos) args [] pos) X.env=(do
   let ov<-eval e X.env
   standAt apos.atName
   let (f,first)<-holding [ov] (getMethod ov m pl)
   callWith pos f first (backTo pos (starEach args X.env)) (backToKw pos (keywordEach [] X.env)))):
  wpAny (model X.prog X.w) X.A (eval (.Call (.Attribute e m apos) args [] pos) X.env) Q X.xe s:=by
 refine PySem.W.methodCall_KW (pl:=pl) (cb (he pins s σ H _ I h) fun u s1 z_=> ?_) ht
 obtain⟨x,H1,I1,rx,a,C,dx,fs,g,ex,ea,c,k,l,q⟩:=z_
 subst ex
 obtain rfl:u=Value.ref a:=rx
 exact lj I1 ea c k l (q s1 I1)
end
section
variable {X:Cx} {pins:List (Addr×Obj)} {σ:St} {H:Hp} {s:Shared} {A:Around} {E:Value->Shared->Prop} {Q:Value->Shared->Prop} {c:Value} {b:Bool}
inductive jc (K:PySem.W.Frag) (H:Hp):V->Value->Prop where
 |non:jc K H .non (.type "NoneType")
 |bl (x:Bool):jc K H (.bl x) (.type "bool")
 |int (i:Int):jc K H (.int i) (.type "int")
 |str (x:Str):jc K H (.str x) (.type "str")
 |flt (x:UInt64):jc K H (.flt x) (.type "float")
 |lst {a:Addr} {xs:List V} (e:H a=some (.lst xs)):jc K H (.ref a) (.type "list")
 |frz {a:Addr} {o:Obj} {xs:List V} (e:H a=some (.frz o (.lst xs))):jc K H (.ref a) (.type "list")
 |tup {a:Addr} {xs:List V} (e:H a=some (.tup xs)):jc K H (.ref a) (.type "tuple")
 |dK {a:Addr} {kvs:List (bn×V)} (e:H a=some (.dK kvs)):jc K H (.ref a) (.type "dict")
 |dT {a:Addr} {kvs:List (List bn×V)} (e:H a=some (.dT kvs)):jc K H (.ref a) (.type "dict")
 |ins {a C dx:Addr} {fs:List (Str×V)} (e:H a=some (.ins C dx fs)) (cl:sN K C) (ha:PySem.W.findIn K (.ref C) "__class__"=some (some (.builtin "object.__class__")))
   (hn:PySem.W.specialIn K (.builtin "object.__class__") "__get__"=some (some (.builtin "getset_descriptor.__get__"))) (htk:PySem.W.takesIn K (.builtin "object.__class__")=some true)
   (hm:PySem.W.mroIn K C (.type "object")=some true):jc K H (.ref a) (.ref C)
theorem sO {x:V} {u t:Value} (I:aC X pins σ H s) (rx:bt x u) (ty:jc X.K H x t) (e:PySem.W.kitOne X.K t c=some b) (h:∀tk,Q (.bool b) {s with toks:=tk}):
  wpAny (model X.prog X.w) A (call (.builtin "isinstance") [u,c]) Q E s:=by
 cases ty with
 |non=>cases (show u=Value.none from rx);exact PySem.W.kia_one PySem.W.kitx_none I.kIn True.intro e (fun z=>nomatch z) h
 |bl y=>cases (show u=Value.bool y from rx);exact PySem.W.kia_one PySem.W.kitx_bool I.kIn True.intro e (fun z=>nomatch z) h
 |int i=>obtain⟨t,q⟩:=(show ∃t,u=Value.int i t from rx);cases q;exact PySem.W.kia_one PySem.W.kitx_int I.kIn True.intro e (fun z=>nomatch z) h
 |str y=>obtain⟨t,q⟩:=(show ∃t,u=Value.str y t from rx);cases q;exact PySem.W.kia_one PySem.W.kitx_str I.kIn True.intro e (fun z=>nomatch z) h
 |flt y=>obtain⟨t,q⟩:=(show ∃t,u=Value.float y t from rx);cases q;exact PySem.W.kia_one PySem.W.kitx_float I.kIn True.intro e (fun z=>nomatch z) h
 | @lst a xs ea=>
  cases (show u=Value.ref a from rx)
  obtain⟨_,_,n,_,h1⟩:=(show bK X.prog X.w H s.heap a (.lst xs)from I.hok a _ ea)
  exact PySem.W.kia_one PySem.W.kitx_list I.kIn ⟨_,h1,rfl⟩ e (fun z=>nomatch z) h
 | @frz a ob xs ea=>
  cases (show u=Value.ref a from rx)
  obtain⟨_,_,_,n,_,h1⟩:=(show bK X.prog X.w H s.heap a (.frz ob (.lst xs))from I.hok a _ ea)
  exact PySem.W.kia_one PySem.W.kitx_list I.kIn ⟨_,h1,rfl⟩ e (fun z=>nomatch z) h
 | @tup a xs ea=>
  cases (show u=Value.ref a from rx)
  obtain⟨_,_,_,p⟩:=(show bK X.prog X.w H s.heap a (.tup xs)from I.hok a _ ea)
  obtain⟨o,h1,h2,_⟩:=p
  exact PySem.W.kia_one PySem.W.kitx_tuple I.kIn ⟨o,h1,h2⟩ e (fun z=>nomatch z) h
 | @dK a kvs ea=>
  cases (show u=Value.ref a from rx)
  obtain⟨_,_,vs,_,p⟩:=(show bK X.prog X.w H s.heap a (.dK kvs)from I.hok a _ ea)
  obtain⟨o,es,ep,h1,h2,_⟩:=p
  exact PySem.W.kia_one PySem.W.kitx_dict I.kIn ⟨o,h1,h2.1⟩ e (fun z=>nomatch z) h
 | @dT a kvs ea=>
  cases (show u=Value.ref a from rx)
  obtain⟨_,_,xs,_,o,es,ep,h1,h2,_⟩:=(show bK X.prog X.w H s.heap a (.dT kvs)from I.hok a _ ea)
  exact PySem.W.kia_one PySem.W.kitx_dict I.kIn ⟨o,h1,h2.1⟩ e (fun z=>nomatch z) h
 | @ins a C dx fs ea cl ha hn htk hm=>
  cases (show u=Value.ref a from rx)
  obtain⟨mA,O,_⟩:=kT I.hok ea
  obtain⟨od,J,_⟩:=O.look
  exact PySem.W.kia_one (PySem.W.kitx_own (cl.get _) cl.hd ha hn htk hm) I.kIn J e (fun z=>nomatch z) h
end
end L2
namespace L2
open PySem PySem.Spec PyProof.Rows
structure dh (k:Nat) (A:Around):Prop where
 hd:A.handled=none
 dp:A.depth+3*k+5<recursionLimit
 un:A.units+16*k+200<cLine
theorem dh.mono {j k:Nat} {A:Around} (r:dh k A) (h:j<=k):dh j A:=⟨r.hd,by have:=r.dp;omega,by have:=r.un;omega⟩
theorem dh.deeper {k:Nat} {A:Around} (r:dh (k+1) A) (env:Env):dh k (A.deeper env):=
 ⟨r.hd,by have:=r.dp;show A.depth+1+3*k+5<_;omega,by have:=r.un;show A.units+3+16*k+200<_;omega⟩
theorem qj {A:Around} {C:Addr} {us:List Value} {kw:List (Str×Value)}:(A.under (.builtin "type.__call__" ⟨.ref C::us,kw⟩)).depth=A.depth+1:=by
 first|rfl|simp[Around.under,Code.weight,Code.isCreation,Code.isGuard,Code.isCaller,Code.frames,Code.isFrame,guardIds]
theorem qk {A:Around} {C:Addr} {us:List Value} {kw:List (Str×Value)}:(A.under (.builtin "type.__call__" ⟨.ref C::us,kw⟩)).units=A.units+1:=by
 first|rfl|simp[Around.under,Code.cUnits,Code.frames,Code.isFrame]
theorem dh.make {k:Nat} {A:Around} (r:dh (k+1) A) (C:Addr) (us:List Value) (kw:List (Str×Value)):dh k (A.under (.builtin "type.__call__" ⟨.ref C::us,kw⟩)):=
 ⟨r.hd,by have:=r.dp;rw[qj];omega,by have:=r.un;rw[qk];omega⟩
theorem dh.depth {k:Nat} {A:Around} (r:dh k A):A.depth<recursionLimit:=by have:=r.dp;omega
theorem dh.units {k:Nat} {A:Around} (r:dh k A):A.units+64<cLine:=by have:=r.un;omega
noncomputable def Dk:TA:=fun _ H Q=>Q [] H
noncomputable def BB (ta:TE) (tr:TA):TA:=fun σ H Q=>ta σ H fun x H1=>tr σ H1 fun xs H2=>Q (x::xs) H2
section
variable {X:Cx} {e:Expr} {es:List Expr} {te:TE} {t:TA} {pos:Pos}
theorem fj:PA X [] Dk:=fun _ _ _ _ H Q I h=>Calls.spliced_nil ⟨[],H,I, .nil,h⟩
theorem c_ (ha:PE X e te) (hr:PA X es t) (hs:starEach (e::es) X.env=(false,eval e X.env)::starEach es X.env:=by rfl):PA X (e::es) (BB te t):=by
 intro pos pins s σ H Q I h
 rw[hs]
 show wpAny _ _ (spliced ((false,eval e X.env)::backTo pos (starEach es X.env))) _ _ s
 refine Calls.spliced_cons (cb (ha pins s σ H _ I h) fun u s1 z_=> ?_)
 obtain⟨x,H1,I1,r1,q1⟩:=z_
 exact cb (hr pos pins s1 σ H1 _ I1 q1) fun us s2 ⟨xs,H2,I2,r2,q2⟩=>⟨x::xs,H2,I2, .cons r1 r2,q2⟩
noncomputable def Dl (t:TA):TE:=fun σ H Q=>t σ H fun xs H1=>xs.length<=sizeLine/\∀p,H1 p=none->Q (.ref p) (br H1 p (.tup xs))
noncomputable def Dm (t:TA):TE:=fun σ H Q=>t σ H fun xs H1=>xs.length<=sizeLine/\∀p,H1 p=none->Q (.ref p) (br H1 p (.lst xs))
theorem zO {x1} (h:PA X es t):PE X (.Tuple es x1 pos) (Dl t):=by
 intro pins s σ H Q I hq
 refine wpAny_Tuple_spliced (cb (h pos pins s σ H _ I hq) fun us s1 ⟨xs,H1,I1,r,z,q⟩=>⟨by rw[<-r.length];exact z,?_⟩)
 have hf:H1 s1.heap.objs.size=none:=I1.hok.fresh (Nat.le_refl _)
 refine⟨.ref s1.heap.objs.size,br H1 s1.heap.objs.size (.tup xs),I1.laid (t':=s1.toks) (fun b u e=>Heap.get?_push_of_some _ e) (Nat.le_refl _) ?_,rfl,q _ hf⟩
 exact⟨z,us,r,⟨_,Heap.get?_push_size _ rfl,rfl,_,rfl,rfl⟩⟩
theorem uC (h:PA X es t):PE X (.List es pos) (Dm t):=by
 intro pins s σ H Q I hq
 refine wpAny_List_spliced (cb (h pos pins s σ H _ I hq) fun us s1 ⟨xs,H1,I1,r,z,q⟩=>⟨by rw[<-r.length];exact z,?_⟩)
 have hf:H1 s1.heap.objs.size=none:=I1.hok.fresh (Nat.le_refl _)
 refine⟨.ref s1.heap.objs.size,br H1 s1.heap.objs.size (.lst xs),I1.laid (t':=s1.toks) (fun b u e=>Heap.get?_push_of_some _ e) (Nat.le_refl _) ?_,rfl,q _ hf⟩
 exact⟨z,us,0,r,Heap.get?_push_size _ rfl⟩
end
noncomputable abbrev Sp:=List V->Hp->VK->XK->Prop
noncomputable abbrev ql:=List Env->Hp->Shared->XK->Value->Shared->Prop
structure qm (P:Program) (w:World) (K:PySem.W.Frag) (mg:Str->Option Value) (base:Heap) (A:Around) (outer:List Env) (s:Shared) (H:Hp):Prop where
 frames:A.frames=some outer
 mod:Mod K mg base
 bs:∀b o,base.get? b=some o->s.heap.get? b=some o/\H b=none
 bsz:base.objs.size<=s.heap.objs.size
 funs:s.heap.FunFrames base outer
 frf:∀b∈kS outer,H b=none
 hok:gX P w H s.heap
 bare:AllBare s.gens
noncomputable def CE (outer:List Env) (P:Program) (w:World) (H:Hp) (s:Shared) (Q:VK) (u:Value) (s':Shared):Prop:=
 ∃v H',s'.os=s.os/\AllBare s'.gens/\Un (kS outer) [] H H' s.heap s'.heap/\gX P w H' s'.heap/\bt v u/\Q v H'
noncomputable def CR (CX:ql) (outer:List Env) (P:Program) (w:World) (H:Hp) (s:Shared) (Q:VK) (E:XK) (r:Result) (s':Shared):Prop:=
 match r with
 | .ok (.ret u)=>CE outer P w H s Q u s'
 | .ok _=>False
 | .error e=>CX outer H s E e s'
structure eP (P:Program) (w:World) (K:PySem.W.Frag) (mg:Str->Option Value) (base:Heap) (CX:ql) (k:Nat) (f:Addr) (fd:FuncData) (ps:List Str) (sp:Sp):Prop where
 len:∀vs H Q E,sp vs H Q E->vs.length=ps.length
 run:∀(A:Around) (outer:List Env) (s:Shared) (H:Hp) (args:Args) (us:List Value) (vs:List V) (Q:VK) (E:XK),dh k A->qm P w K mg base A outer s H->BindsTo s fd args (ps.zip us)->aO vs us->sp vs H Q E->
  codeAny (model P w) A (.call (.ref f) args) (CR CX outer P w H s Q E) s
theorem eP.mono {P:Program} {w:World} {K:PySem.W.Frag} {mg:Str->Option Value} {base:Heap} {CX:ql} {j k:Nat} {f:Addr} {fd:FuncData} {ps:List Str} {sp:Sp} (F:eP P w K mg base CX j f fd ps sp) (h:j<=k):
  eP P w K mg base CX k f fd ps sp:=⟨F.len,fun A outer s H args us vs Q E hr=>F.run A outer s H args us vs Q E (hr.mono h)⟩
theorem eP.imp {P:Program} {w:World} {K:PySem.W.Frag} {mg:Str->Option Value} {base:Heap} {CX:ql} {k:Nat} {f:Addr} {fd:FuncData} {ps:List Str} {sp sp':Sp} (F:eP P w K mg base CX k f fd ps sp)
  (h:∀vs H Q E,sp' vs H Q E->sp vs H Q E):eP P w K mg base CX k f fd ps sp':=
 ⟨fun vs H Q E q=>F.len vs H Q E (h _ _ _ _ q),fun A outer s H args us vs Q E hr he hb hv hs=>F.run A outer s H args us vs Q E hr he hb hv (h _ _ _ _ hs)⟩
theorem qm.make {P:Program} {w:World} {K:PySem.W.Frag} {mg:Str->Option Value} {base:Heap} {A:Around} {outer:List Env} {s:Shared} {H:Hp} (e:qm P w K mg base A outer s H) (C:Addr) (us:List Value) (kw:List (Str×Value)):
  qm P w K mg base (A.under (.builtin "type.__call__" ⟨.ref C::us,kw⟩)) outer s H:=⟨by first|exact e.frames|(simpa[Around.under,Code.envs,Code.isFrame,pushEnvs]using e.frames),e.mod,e.bs,e.bsz,e.funs,e.frf,e.hok,e.bare⟩
section
variable {X:Cx} {pins:List (Addr×Obj)} {σ:St} {H:Hp} {s s':Shared}
theorem aC.env0 (I:aC X pins σ H s):qm X.prog X.w X.K X.mg X.base X.A X.stack s H:=
 ⟨I.ok.frames,I.ok.mod,I.bs,Nat.le_trans I.ok.bsz I.sz,I.stack,I.stkFree,I.hok,I.bare⟩
theorem aC.after {Q:VK} {u:Value} (I:aC X pins σ H s) (h:CE X.stack X.prog X.w H s Q u s'):EP X pins σ Q u s':=by
 obtain⟨v,H',os,bare,un,hok,r,q⟩:=h
 obtain⟨hh,g,d,t,os'⟩:=s'
 obtain rfl:os'=s.os:=os
 exact⟨v,H',I.call (h':=hh) (g':=g) (d':=d) (t':=t) (ch:=[]) un hok bare (fun b z=>absurd z (by simp)),r,q⟩
end
noncomputable def yB (sp:Sp) (dvs:List V) (E:St->XK) (t:TA):TE:=fun σ H Q=>t σ H fun vs H1=>sp (vs++dvs) H1 Q (E σ)
noncomputable def yC (C:Addr) (m:Str) (sp:Sp) (dvs:List V) (E:St->XK) (ta:TE) (t:TA):TE:=fun σ H Q=>ta σ H fun x H1=>∃a dx fs,x= .ref a/\H1 a=some (.ins C dx fs)/\fs.lookup m=none/\
 t σ H1 fun vs H2=>sp (x::(vs++dvs)) H2 Q (E σ)
noncomputable def BC (C:Addr) (sp:Sp) (dvs:List V) (E:St->XK) (t:TA):TE:=fun σ H Q=>t σ H fun vs H1=>∀x dx,H1 x=none->H1 dx=none->dx≠x->
 sp (.ref x::(vs++dvs)) (br (br H1 dx (.own x)) x (.ins C dx [])) (fun v H2=>v= .non/\Q (.ref x) H2) (E σ)
noncomputable def fq (K:PySem.W.Frag) (fd:FuncData) (ps:List Str) (ds:List Value):Prop:=
 ∀(s:Shared) (us:List Value),K.In s.heap->(us++ds).length=ps.length->BindsTo s fd ⟨us,[]⟩ (ps.zip (us++ds))
theorem fq.all {K:PySem.W.Frag} {fd:FuncData} {ps:List Str} (h:∀us:List Value,us.length=ps.length->bindArgs fd ⟨us,[]⟩=pure (ps.zip us)):fq K fd ps []:=fun s us _ hl=>by
 rw[List.append_nil]at hl ⊢
 exact .of_eq (h us hl)
noncomputable def iU (CX:ql) (X:Cx) (E:St->XK):Prop:=∀(pins:List (Addr×Obj)) (σ:St) (H:Hp) (s:Shared) (e:Value) (s':Shared),aC X pins σ H s->CX X.stack H s (E σ) e s'->X.xe e s'
section
variable {X:Cx} {CX:ql} {k:Nat} {f C:Addr} {fd:FuncData} {ps:List Str} {sp:Sp} {dvs:List V} {ds:List Value} {E:St->XK} {x m:Str} {p pos apos:Pos} {e o:Expr} {es:List Expr} {ta:TE} {t:TA}
theorem uD {pins:List (Addr×Obj)} {σ:St} {H:Hp} {s:Shared} {Q:VK} {us:List Value} {vs:List V} (F:eP X.prog X.w X.K X.mg X.base CX k f fd ps sp) (hr:dh k X.A) (hb:fq X.K fd ps ds) (hd:aO dvs ds) (hx:iU CX X E)
  (I:aC X pins σ H s) (r:aO vs us) (h:sp (vs++dvs) H Q (E σ)):wpAny (model X.prog X.w) X.A (call (.ref f) us) (EP X pins σ Q) X.xe s:=by
 have r2:aO (vs++dvs) (us++ds):=r.append hd
 have hl:(us++ds).length=ps.length:=by rw[<-r2.length];exact F.len _ _ _ _ h
 refine wpAny_call (codeAny_mono (F.run X.A X.stack s H ⟨us,[]⟩ (us++ds) (vs++dvs) Q (E σ) hr I.env0 (hb s us I.kIn hl) r2 h) fun r s' hq=> ?_)
 cases r with
 |error e=>exact hx pins σ H s e s' I hq
 |ok fl=>
  cases fl with
  |ret u=>exact I.after hq
  |next=>exact False.elim hq
  |brk=>exact False.elim hq
  |cont=>exact False.elim hq
theorem wY (F:eP X.prog X.w X.K X.mg X.base CX k f fd ps sp) (hr:dh k X.A) (hg:Gl X x) (hm:X.mg x=some (.ref f)) (hk:PySem.W.keepIn X.K (.ref f)=true) (hb:fq X.K fd ps ds) (hd:aO dvs ds) (hx:iU CX X E)
  (ha:PA X (e::es) t) (hdb:(x==("__debug__":Str))=false:=by decide) (he:starEach (e::es) X.env=(false,eval e X.env)::starEach es X.env:=by rfl) (hpl:(backTo pos (starEach es X.env)).any (·.1)=false:=by rfl):
  PE X (.Call (.Name x p) (e::es) [] pos) (yB sp dvs E t):=by
 intro pins s σ H Q I h
 refine wpAny_Call_Name_kw (jb I hg hm ?_ hdb)
 refine PySem.W.callWith_K (h₀:=X.base) I.ok.mod.kin hk (cb (ha pos pins s σ H _ I h) fun us s1 ⟨vs,H1,I1,r,q⟩=>⟨I1.kIn,?_⟩) he hpl
 exact uD F hr hb hd hx I1 r q
theorem wZ {pl:Sem Bool} (he:PE X o ta) (c:sN X.K C) (hm:uB X.K C m f) (F:eP X.prog X.w X.K X.mg X.base CX k f fd ps sp) (hr:dh k X.A) (hb:fq X.K fd ps ds) (hd:aO dvs ds) (hx:iU CX X E) (ha:PA X (e::es) t)
  (hst:starEach (e::es) X.env=(false,eval e X.env)::starEach es X.env:=by rfl) (hpl:(backTo pos (starEach es X.env)).any (·.1)=false:=by rfl)
  (ht:eval (.Call (.Attribute o m apos) (e::es) [] pos) X.env=(do
   let ov<-eval o X.env
   standAt apos.atName
   let (f,first)<-holding [ov] (getMethod ov m pl)
   callWith pos f first (backTo pos (starEach (e::es) X.env)) (backToKw pos (keywordEach [] X.env))):=by rfl):
  PE X (.Call (.Attribute o m apos) (e::es) [] pos) (yC C m sp dvs E ta t):=by
 intro pins s σ H Q I h
 refine PySem.W.methodCall_KW (pl:=pl) (cb (he pins s σ H _ I h) fun u s1 z_=> ?_) ht
 obtain⟨x,H1,I1,rx,a,dx,fs,ex,ea,l,q⟩:=z_
 subst ex
 obtain rfl:u=Value.ref a:=rx
 refine lj I1 ea c hm l ?_
 refine PySem.W.callWith_K (first:=[.ref a]) (h₀:=X.base) I.ok.mod.kin hm.kp (cb (ha pos pins s1 σ H1 _ I1 q) fun us s2 ⟨vs,H2,I2,r,q2⟩=>⟨I2.kIn,?_⟩) hst hpl
 exact uD (us:= .ref a::us) (vs:= .ref a::vs) F hr hb hd hx I2 (.cons rfl r) q2
structure Mk (K:PySem.W.Frag) (C f:Addr):Prop where
 makes:PySem.W.makesIn K C=true
 init:PySem.W.findIn K (.ref C) "__init__"=some (some (.ref f))
 fn:PySem.W.isFn K (.ref f)=true
 kp:PySem.W.keepIn K (.ref C)=true
theorem uE {pins:List (Addr×Obj)} {σ:St} {H:Hp} {s:Shared} {Q:VK} {us:List Value} {vs:List V} (M:Mk X.K C f) (F:eP X.prog X.w X.K X.mg X.base CX k f fd ps sp) (hr:dh (k+1) X.A) (hb:fq X.K fd ps ds) (hd:aO dvs ds)
  (hx:iU CX X E) (I:aC X pins σ H s) (r:aO vs us)
  (h:∀x dx,H x=none->H dx=none->dx≠x->sp (.ref x::(vs++dvs)) (br (br H dx (.own x)) x (.ins C dx [])) (fun v H2=>v= .non/\Q (.ref x) H2) (E σ)):
  wpAny (model X.prog X.w) X.A (call (.ref C) us) (EP X pins σ Q) X.xe s:=by
 have hq:=h (s.heap.objs.size+1) s.heap.objs.size (I.hok.fresh (Nat.le_succ _)) (I.hok.fresh (Nat.le_refl _)) (Nat.ne_of_lt (Nat.lt_succ_self _))
 have I2:=aC.made (C:=C) I
 have r2:aO (V.ref (s.heap.objs.size+1)::(vs++dvs)) (Value.ref (s.heap.objs.size+1)::(us++ds)):= .cons rfl (r.append hd)
 have hl:(Value.ref (s.heap.objs.size+1)::us++ds).length=ps.length:=by
  have e:=r2.length
  rw[F.len _ _ _ _ hq]at e
  exact e.symm
 refine wpAny_call (uA (f:=f) I.kIn M.makes M.init (beq_iff_eq.mp M.fn) (codeAny_mono (F.run _ X.stack _ _ ⟨Value.ref (s.heap.objs.size+1)::us,[]⟩ (Value.ref (s.heap.objs.size+1)::(us++ds)) _ _ (E σ) (hr.make C us [])
  (I2.env0.make C us []) (hb _ (Value.ref (s.heap.objs.size+1)::us) I2.kIn hl) r2 hq) fun r s' hq'=> ?_))
 cases r with
 |error e=>exact hx pins σ _ _ e s' I2 hq'
 |ok fl=>
  cases fl with
  |ret u=>
   obtain⟨v,H',I3,rv,ev,q3⟩:=I2.after hq'
   subst ev
   exact⟨rv,⟨V.ref (s.heap.objs.size+1),H',I3,rfl,q3⟩⟩
  |next=>exact False.elim hq'
  |brk=>exact False.elim hq'
  |cont=>exact False.elim hq'
theorem w_ (M:Mk X.K C f) (F:eP X.prog X.w X.K X.mg X.base CX k f fd ps sp) (hr:dh (k+1) X.A) (hg:Gl X x) (hm:X.mg x=some (.ref C)) (hb:fq X.K fd ps ds) (hd:aO dvs ds) (hx:iU CX X E)
  (ha:PA X (e::es) t) (hdb:(x==("__debug__":Str))=false:=by decide) (he:starEach (e::es) X.env=(false,eval e X.env)::starEach es X.env:=by rfl) (hpl:(backTo pos (starEach es X.env)).any (·.1)=false:=by rfl):
  PE X (.Call (.Name x p) (e::es) [] pos) (BC C sp dvs E t):=by
 intro pins s σ H Q I h
 refine wpAny_Call_Name_kw (jb I hg hm ?_ hdb)
 refine PySem.W.callWith_K (h₀:=X.base) I.ok.mod.kin M.kp (cb (ha pos pins s σ H _ I h) fun us s1 ⟨vs,H1,I1,r,q⟩=>⟨I1.kIn,?_⟩) he hpl
 exact uE M F hr hb hd hx I1 r q
end
section
variable {X:Cx} {CX:ql} {k:Nat} {f C:Addr} {fd:FuncData} {ps ks:List Str} {sp:Sp} {E:St->XK} {x m:Str} {p pos apos kpos:Pos} {e o:Expr} {es:List Expr} {kws:List Keyword} {te ta:TE} {t tk:TA} {nm:Option Str}
variable {g:List Value->List Value->List Value} {gV:List V->List V->List V}
end
structure aW (N P:List Str) (sc:Scope):Prop where
 kind:sc.kind= .function
 co:sc.isCoroutine=false
 gen:sc.isGenerator=false
 nd:N.Nodup
 pre:N.take P.length=P
 par:∀x∈P,sc.names.lookup x=some .local\/sc.names.lookup x=some .cell
 nofree:∀y∈sc.names,y.2≠ .free
theorem mP {kindOf:Str->Option NameKind} {x:Str}:∀{binds:List (Str×Value)} {m:Str->Option Value},(∀v,(x,v)∉binds)->bindL kindOf binds m x=m x
 |[],_,_=>rfl
 |(n,v)::r,m,h=>by
  unfold bindL
  rw[mP fun w hw=>h w (List.mem_cons_of_mem _ hw)]
  split
  ·have:x≠n:=by rintro rfl;exact h v List.mem_cons_self
   simp[this]
  ·rfl
theorem mQ {kindOf:Str->Option NameKind} {x:Str}:∀{binds:List (Str×Value)} {m:Str->Option Value},(∀v,(x,v)∉binds)->bindC kindOf binds m x=m x
 |[],_,_=>rfl
 |(n,v)::r,m,h=>by
  unfold bindC
  rw[mQ fun w hw=>h w (List.mem_cons_of_mem _ hw)]
  split
  ·rfl
  ·have:x≠n:=by rintro rfl;exact h v List.mem_cons_self
   simp[this]
theorem mR {kindOf:Str->Option NameKind} {x:Str} {v:Value}:∀{P:List Str} {vs:List Value} {i:Nat} {m:Str->Option Value},P.Nodup->P[i]? =some x->vs[i]? =some v->kindOf x=some .local->
  bindL kindOf (P.zip vs) m x=some v
 |[],_,_,_,_,h,_,_=>by simp at h
 |_::_,[],_,_,_,_,h,_=>by simp at h
 |p::P,w::vs,0,m,nd,h1,h2,hk=>by
  simp at h1 h2;subst h1;subst h2
  show bindL kindOf ((p,w)::P.zip vs) m p=_
  unfold bindL
  rw[mP fun v hv=>(List.nodup_cons.mp nd).1 (List.of_mem_zip hv).1,if_pos hk]
  simp
 |p::P,w::vs,i+1,m,nd,h1,h2,hk=>by
  show bindL kindOf ((p,w)::P.zip vs) m x=_
  unfold bindL
  exact mR (i:=i) (List.nodup_cons.mp nd).2 (by simpa using h1) (by simpa using h2) hk
theorem mS {kindOf:Str->Option NameKind} {x:Str} {v:Value}:∀{P:List Str} {vs:List Value} {i:Nat} {m:Str->Option Value},P.Nodup->P[i]? =some x->vs[i]? =some v->kindOf x≠some .local->
  bindC kindOf (P.zip vs) m x=some v
 |[],_,_,_,_,h,_,_=>by simp at h
 |_::_,[],_,_,_,_,h,_=>by simp at h
 |p::P,w::vs,0,m,nd,h1,h2,hk=>by
  simp at h1 h2;subst h1;subst h2
  show bindC kindOf ((p,w)::P.zip vs) m p=_
  unfold bindC
  rw[mQ fun v hv=>(List.nodup_cons.mp nd).1 (List.of_mem_zip hv).1,if_neg hk]
  simp
 |p::P,w::vs,i+1,m,nd,h1,h2,hk=>by
  show bindC kindOf ((p,w)::P.zip vs) m x=_
  unfold bindC
  exact mS (i:=i) (List.nodup_cons.mp nd).2 (by simpa using h1) (by simpa using h2) hk
noncomputable def eD (N:List Str) (vs:List V):St:=vs.map some++List.replicate (N.length - vs.length) none
noncomputable def hG (CX:ql) (P:Program) (w:World) (K:PySem.W.Frag) (mg:Str->Option Value) (base:Heap) (N:List Str) (qual:Str) (scope:Scope) (f:Addr) (cd:Value) (A:Around) (outer:List Env) (s:Shared) (H:Hp) (E:XK):Cx where
 prog:=P
 w:=w
 K:=K
 mg:=mg
 base:=base
 A:=A.deeper (envOfC qual scope s.heap.objs.size f cd)
 N:=N
 s₀:=s
 H₀:=H
 env:=envOfC qual scope s.heap.objs.size f cd
 outer:=outer
 stack:=envOfC qual scope s.heap.objs.size f cd::outer
 ex:=[]
 calm:=true
 fn:=fun _=>true
 pn:=[]
 xe:=fun e s'=>wpAny (model P w) (A.deeper (envOfC qual scope s.heap.objs.size f cd)) (leaving (envOfC qual scope s.heap.objs.size f cd) e) (fun _ s''=>CX outer H s E e s'') (fun e' s''=>CX outer H s E e' s'') s'
theorem oO {sc:Scope} {n:Nat} {x:Str} (h:sc.names.lookup x=some .cell):∃c,(cellsFrom n sc.names []).lookup x=some c:=by
 have q:=PySem.W.cellsFrom_some sc.names n [] (.inl h)
 exact Option.isSome_iff_exists.mp q
theorem sP {CX:ql} {P:Program} {w:World} {K:PySem.W.Frag} {mg:Str->Option Value} {base:Heap} {N ps:List Str} {qual:Str} {scope:Scope} {f:Addr} {cd:Value} {A:Around} {outer:List Env} {s s1:Shared} {H:Hp} {E:XK} {us:List Value} {vs:List V}
  (S:aW N ps scope) (hd:A.handled=none) (e0:qm P w K mg base A outer s H) (hl:vs.length=ps.length) (r:aO vs us)
  (x:InCallC s s.heap.objs.size (bindL (envOfC qual scope s.heap.objs.size f cd).kindOf (ps.zip us) fun _=>none) (cellsFrom (s.heap.objs.size+1) scope.names []) (bindC (envOfC qual scope s.heap.objs.size f cd).kindOf (ps.zip us) fun _=>none) s1):
  aC (hG CX P w K mg base N qual scope f cd A outer s H E) [] (eD N vs) H s1:=by
 have hpl:ps.length<=N.length:=by have:=congrArg List.length S.pre;rw[List.length_take]at this;omega
 obtain⟨h1,tk,rfl,hk⟩:=x.done
 have noA:∀b:Addr,b∉(hG CX P w K mg base N qual scope f cd A outer s H E).ex:=fun b z=>absurd (show b∈([]:List Addr)from z) (by simp)
 refine⟨⟨e0.mod,S.kind,rfl,rfl,Nat.le_refl _,fun y z c h1 h2=> ?_,fun y hy=> ?_,fun y c _ h=> ?_,fun _=>hd,Around.frames_deeper e0.frames, .inr ⟨rfl,rfl⟩,fun b z=>absurd z (noA b),e0.bs,e0.bsz,fun b _ _=>noA b,fun b z=>absurd z (noA b),e0.funs,e0.frf⟩,
  rfl,e0.bare,Un.kept hk,⟨_,x.toInCall.ns,fun i y v h1 h2 h3=> ?_⟩,fun y c h=>⟨_,x.cell y c h⟩,e0.hok.fresh (Nat.le_refl _),fun y c h=> ?_,fun p hp=>absurd (show p∈([]:List (Addr×Obj))from hp) (by simp),e0.hok.kept hk,?_⟩
 ·exact name_of_addr x.apart (PySem.mem_of_lookup h1) (PySem.mem_of_lookup h2)
 ·have hy:scope.names.lookup y=some .cell\/scope.names.lookup y=some .free:=hy
  rcases hy with hy|hy
  ·exact oO hy
  ·exact absurd rfl (S.nofree _ (PySem.mem_of_lookup hy))
 ·exact Nat.le_of_lt (x.above y c (PySem.mem_of_lookup h))
 ·have hi:i<vs.length:=by
   unfold eD at h2
   by_cases hi:i<vs.length
   ·exact hi
   ·rw[List.getElem?_append_right (by simpa using hi)]at h2
    rw[List.getElem?_replicate]at h2
    split at h2<;>cases h2
  have ha:vs[i]? =some v:=by
   unfold eD at h2
   rw[List.getElem?_append_left (by simpa using hi),List.getElem?_map]at h2
   cases e:vs[i]? with
   |none=>rw[e]at h2;cases h2
   |some a=>rw[e]at h2;cases h2;rfl
  obtain⟨u,hu,rv⟩:=r.get ha
  have hp:ps[i]? =some y:=by
   rw[<-S.pre,List.getElem?_take_of_lt (by omega)];exact h1
  have ndP:ps.Nodup:=by rw[<-S.pre];exact S.nd.sublist (List.take_sublist _ _)
  refine⟨u,rv,?_⟩
  rcases S.par y (List.mem_of_getElem? hp)with k|k
  ·exact .inl ⟨k,mR ndP hp hu k⟩
  ·obtain⟨c,e⟩:=oO (n:=s.heap.objs.size+1) k
   refine .inr ⟨.inl k,c,e,?_⟩
   have q:=x.cell y c e
   rw[mS ndP hp hu (by show scope.names.lookup y≠_;rw[k];decide)]at q
   exact q
 ·exact e0.hok.fresh (Nat.le_of_lt (x.above y c (PySem.mem_of_lookup h)))
 ·unfold eD
  show _=N.length
  rw[List.length_append,List.length_map,List.length_replicate]
  omega
theorem yD {CX:ql} {P:Program} {w:World} {K:PySem.W.Frag} {mg:Str->Option Value} {base:Heap} {k:Nat} {f:Addr} {name qual:Str} {params:Arguments} {body:List Stmt} {scope:Scope} {dV kV doc pm cdv ct oc:Value} {an od:Option Addr}
  {osl:Array (Option Value)} {N ps:List Str} {sp:Sp} (lk:K.lookup f=some ⟨oc,od, .func (PySem.W.fnOf name qual params body scope dV kV doc pm an cdv ct),osl⟩) (hcd:PySem.W.codeIn K cdv qual=true) (S:aW N ps scope)
  (len:∀vs H Q E,sp vs H Q E->vs.length=ps.length)
  (hbody:∀(A:Around) (outer:List Env) (s:Shared) (H:Hp) (vs:List V) (Q:VK) (E:XK),dh k (A.deeper (envOfC qual scope s.heap.objs.size f cdv))->sp vs H Q E->
   ∃t,mL (hG CX P w K mg base N qual scope f cdv A outer s H E) body t/\t {nx:=fun _ H'=>Q .non H',rt:=Q} (eD N vs) H):
  eP P w K mg base CX (k+1) f (PySem.W.fnOf name qual params body scope dV kV doc pm an cdv ct) ps sp:=by
 refine⟨len,fun A outer s H args us vs Q E hr e0 hb r hsp=> ?_⟩
 have hl:=len _ _ _ _ hsp
 have KX:K.In s.heap:=e0.mod.kin.keeps fun b o e=>(e0.bs b o e).1
 have lim:s.heap.NoLimit:=e0.mod.nolimit.keeps fun b o e=>(e0.bs b o e).1
 have hkind:∀y∈ps.zip us,scope.names.lookup y.1=some .local\/(scope.names.lookup y.1=some .cell/\((cellsFrom (s.heap.objs.size+1) scope.names []).lookup y.1).isSome=true):=fun ⟨n,v⟩ hy=>by
  rcases S.par n (List.of_mem_zip hy).1 with q|q
  ·exact .inl q
  ·exact .inr ⟨q,PySem.W.cellsFrom_some _ _ _ (.inl q)⟩
 refine codeAny_call_function hr.depth (KX _ _ lk) rfl S.co S.gen rfl (PySem.W.codeRec_of KX hcd) (hb _ _ _ _ ?_)
 refine wpAny_newFunctionEnv_cells S.kind hkind fun env he s1 x=> ?_
 subst he
 refine⟨lim.keeps x.toInCall.keep,codeAny_func ?_⟩
 obtain⟨t,ht,hq⟩:=hbody A outer s H vs Q E (hr.deeper _) hsp
 have I:aC (hG CX P w K mg base N qual scope f cdv A outer s H E) [] (eD N vs) H s1:=sP S hr.hd e0 hl r x
 refine wpAny_mono (ht [] s1 (eD N vs) H _ I hq) (fun fl s' hs=> ?_) fun e s' hs=>hs
 have fin:∀{σ':St} {H':Hp} {v:V} {u:Value},aC (hG CX P w K mg base N qual scope f cdv A outer s H E) [] σ' H' s'->bt v u->Q v H'->CE outer P w H s Q u s':=
  fun {σ' H' v u} J rv q=>⟨v,H',J.os,J.bare,J.base,J.hok,rv,q⟩
 cases fl with
 |ret u=>
  obtain⟨v,σ',H',J,rv,q⟩:=hs
  exact fin J rv q
 |next=>
  obtain⟨σ',H',J,q⟩:=hs
  exact fin (v:=V.non) (u:=Value.none) J rfl q
 |brk=>
  obtain⟨_,_,_,q⟩:=hs
  exact False.elim q
 |cont=>
  obtain⟨_,_,_,q⟩:=hs
  exact False.elim q
end L2
namespace L2
open PySem PySem.Spec PyProof.Rows
section
variable {X:Cx} {x:Str} {p pos:Pos} {e:Expr} {es:List Expr} {t:TA} {id T:String} {r:List V->Hp->VK->Prop}
noncomputable def Dn (r:List V->Hp->VK->Prop) (t:TA):TE:=fun σ H Q=>t σ H fun vs H1=>r vs H1 Q
theorem jd (hc:cG X (.builtin id) r) (hg:Gl X x) (hm:X.mg x=none) (hv:bootBuiltins x=some (.builtin id)) (ha:PA X (e::es) t) (hn:x≠"__name__":=by decide) (hdb:(x==("__debug__":Str))=false:=by decide)
  (he:starEach (e::es) X.env=(false,eval e X.env)::starEach es X.env:=by rfl) (hpl:(backTo pos (starEach es X.env)).any (·.1)=false:=by rfl):PE X (.Call (.Name x p) (e::es) [] pos) (Dn r t):=by
 intro pins s σ H Q I h
 refine wpAny_Call_Name_kw (jQ I hg hm hv ?_ hn hdb)
 exact PyProof.Rows.callWith_builtin1 (cb (ha pos pins s σ H _ I h) fun us s1 ⟨vs,H1,I1,r1,q1⟩=>hc pins s1 σ H1 vs us Q I1 r1 q1) he hpl
theorem iy (hc:cG X (.type T) r) (hg:Gl X x) (hm:X.mg x=none) (hv:bootBuiltins x=some (.type T)) (ha:PA X (e::es) t) (hn:x≠"__name__":=by decide) (hdb:(x==("__debug__":Str))=false:=by decide)
  (he:starEach (e::es) X.env=(false,eval e X.env)::starEach es X.env:=by rfl) (hpl:(backTo pos (starEach es X.env)).any (·.1)=false:=by rfl):PE X (.Call (.Name x p) (e::es) [] pos) (Dn r t):=by
 intro pins s σ H Q I h
 refine wpAny_Call_Name_kw (jQ I hg hm hv ?_ hn hdb)
 exact PyProof.Rows.callWith_type1 (cb (ha pos pins s σ H _ I h) fun us s1 ⟨vs,H1,I1,r1,q1⟩=>hc pins s1 σ H1 vs us Q I1 r1 q1) he hpl
end
end L2
namespace HT
open PySem PyProof.Rows
section
open PySem.SeqAt
open PySem.AutoSeq1 (wpAny_loadPart')
open PySem.MeetsSeq PySem.MeetsSeq2 PySem.MeetsSeq3
end
section
variable {prog:Program} {w:World} {A:Around} {E:Value->Shared->Prop} {s:Shared}
theorem x0 {t b:Addr} {vs ws:List Value} {Q:Value->Shared->Prop} (ht:IsTup s.heap t vs.toArray) (hb:IsTup s.heap b ws.toArray) (hv:vs≠[])
  (h1:ws=[]->Q (.ref t) s) (h2:ws≠[]->Q (.ref s.heap.objs.size) {s with heap:=s.heap.push {cls:= .type "tuple",data:= .seq (vs++ws).toArray}})
  (hsz:vs.length+ws.length<=sizeLine):wpAny (model prog w) A (binaryOp .Add (.ref t) (.ref b)) Q E s:=by
 obtain⟨⟨cls,dd,data,sl⟩,ho,hc,n,hd⟩:=id ht
 obtain⟨⟨cls2,dd2,data2,sl2⟩,ho2,hc2,n2,hd2⟩:=id hb
 simp only at hc hd hc2 hd2
 subst hc hd hc2 hd2
 have e:vs.toArray++ws.toArray=(vs++ws).toArray:=by simp
 by_cases hw:ws=[]
 ·exact concat_meets ⟨_,ho,rfl⟩ ⟨_,ho2,rfl⟩ noFill_tuple_add seq_tuple_add PySem.F.slot_tuple_add PySem.F.entry_tuple_add (PySem.F.args_tuple_add_2 _ _)
   (tuple_addW1 t b vs.toArray ws.toArray n n2 dd dd2 sl sl2 (by simpa using hv) (by simp[hw])) ⟨ho,ho2,h1 hw⟩
 ·refine concat_meets ⟨_,ho,rfl⟩ ⟨_,ho2,rfl⟩ noFill_tuple_add seq_tuple_add PySem.F.slot_tuple_add PySem.F.entry_tuple_add (PySem.F.args_tuple_add_2 _ _)
   (tuple_addW2 t b vs.toArray ws.toArray n n2 dd dd2 sl sl2 (by simpa using hv) (by simpa using hw) (by rw[List.size_toArray,List.size_toArray];exact hsz)) ⟨ho,ho2,?_⟩
  rw[e]
  exact h2 hw
noncomputable def d5 (n d:Nat):Option Int->Nat
 |none=>d
 |some v=>if v<0 then (v+(n:Int)).toNat else min v.toNat n
theorem zP (n d:Nat) (hd:d<=n) (o:Option Int):d5 n d o<=n:=by
 cases o with
 |none=>exact hd
 |some v=>
  show (if v<0 then (v+(n:Int)).toNat else min v.toNat n)<=n
  by_cases hv:v<0
  ·rw[if_pos hv];omega
  ·rw[if_neg hv];exact Nat.min_le_right _ _
theorem rO (v:Int) (n d:Nat):(if v<0 then max (v+(n:Int)) 0 else min v (n:Int))=((d5 n d (some v):Nat):Int):=by
 show (if v<0 then max (v+(n:Int)) 0 else min v (n:Int))=(((if v<0 then (v+(n:Int)).toNat else min v.toNat n):Nat):Int)
 by_cases hv:v<0
 ·simp only[if_pos hv];omega
 ·simp only[if_neg hv];omega
theorem qo (lo hi:Option Int) (n:Nat):Builtin.Slice.sliceAdjust lo hi 1 (n:Int)=(((d5 n 0 lo:Nat):Int),((d5 n n hi:Nat):Int)):=by
 have h1:¬((1:Int)<0):=by omega
 unfold Builtin.Slice.sliceAdjust
 simp only[h1,if_false]
 refine Prod.ext ?_ ?_
 ·cases lo with
  |none=>rfl
  |some v=>exact rO v n 0
 ·cases hi with
  |none=>rfl
  |some v=>exact rO v n n
theorem qp (i j:Nat):Builtin.Slice.slicePlaces (i:Int) (j:Int) 1=j - i:=by
 unfold Builtin.Slice.slicePlaces
 have h1:(1:Int)>0:=by omega
 simp only[h1,if_true,Int.ediv_one]
 split<;>omega
theorem ll {v:Value} {o:Option Int} {Q:Option Int->Shared->Prop} (p:IsPart v o) (h:Q o s):wpAny (model prog w) A (Builtin.Slice.slicePartIndex v) Q E s:=by
 cases p with
 |none=>exact slicePart_none h
 |int i t=>exact slicePart_int h
theorem gk {sl:Addr} {vl vu:Value} {lo hi:Option Int} {n:Nat} {Q:Int×Int×Nat->Shared->Prop} (hs:s.heap.IsSliceOf sl vl vu .none) (pl:IsPart vl lo) (pu:IsPart vu hi)
  (h:Q (((d5 n 0 lo:Nat):Int),1,d5 n n hi - d5 n 0 lo) s):wpAny (model prog w) A (Builtin.Slice.sliceApplied (.ref sl) (pure (n:Int))) Q E s:=by
 obtain⟨os,hos,hcs,hds⟩:=id hs
 unfold Builtin.Slice.sliceApplied Builtin.Slice.sliceFields
 refine wpAny_bind (wpAny_bind (wpAny_field hos hds (x:=vl) rfl (wpAny_bind (wpAny_field hos hds (x:=vu) rfl (wpAny_bind (wpAny_field hos hds (x:= .none) rfl (wpAny_pure ?_)))))))
 refine wpAny_bind (slicePart_none ?_)
 show wpAny _ _ (if ((1:Int)==0)=true then _ else _) _ _ s
 rw[if_neg (by decide)]
 refine wpAny_bind (ll pl (wpAny_bind (ll pu (wpAny_bind (wpAny_pure ?_)))))
 show wpAny _ _ (match Builtin.Slice.sliceAdjust lo hi 1 (n:Int)with|(lo,hi)=>pure (lo,(1:Int),Builtin.Slice.slicePlaces lo hi 1)) _ _ s
 rw[qo lo hi n]
 show wpAny _ _ (pure (((d5 n 0 lo:Nat):Int),(1:Int),Builtin.Slice.slicePlaces ((d5 n 0 lo:Nat):Int) ((d5 n n hi:Nat):Int) 1)) _ _ s
 rw[qp]
 exact wpAny_pure h
theorem uF (xs:Array Value) (i k:Nat):((List.range k).filterMap fun (m:Nat)=>xs[((i:Int)+(m:Int)*1).toNat]?).toArray=((xs.toList.drop i).take k).toArray:=by
 have e:(fun (m:Nat)=>xs[((i:Int)+(m:Int)*1).toNat]?)=fun m=>xs[i+m]? :=by
  funext m
  have:((i:Int)+(m:Int)*1).toNat=i+m:=by omega
  rw[this]
 rw[e]
 have:=pick_run xs i k
 rw[List.filterMap_map]at this
 have e2:((fun x=>xs[x]?)∘fun x=>i+x)=fun m=>xs[i+m]? :=rfl
 rw[e2]at this
 rw[this]
theorem je {t sl:Addr} {items:Array Value} {vl vu:Value} {lo hi:Option Int} {Q:Value->Shared->Prop} (ht:IsTup s.heap t items) (hs:s.heap.IsSliceOf sl vl vu .none) (pl:IsPart vl lo) (pu:IsPart vu hi)
  (hw:¬(d5 items.size 0 lo=0/\d5 items.size items.size hi=items.size))
  (h:Q (.ref s.heap.objs.size) {s with heap:=s.heap.push {cls:= .type "tuple",data:= .seq ((items.toList.drop (d5 items.size 0 lo)).take (d5 items.size items.size hi - d5 items.size 0 lo)).toArray}})
  (hsz:items.size<=sizeLine):wpAny (model prog w) A (getItem (.ref t) (.ref sl)) Q E s:=by
 have htake:sizeOk (.seq ((items.toList.drop (d5 items.size 0 lo)).take (d5 items.size items.size hi - d5 items.size 0 lo)).toArray):=by
  show ((items.toList.drop (d5 items.size 0 lo)).take (d5 items.size items.size hi - d5 items.size 0 lo)).toArray.size<=sizeLine
  rw[List.size_toArray,List.length_take,List.length_drop,Array.length_toList]
  omega
 have hj:d5 items.size items.size hi<=items.size:=zP _ _ (Nat.le_refl _) hi
 obtain⟨os,hos,hcs,hds⟩:=id hs
 have hTs:s.TypeIs (.ref sl) "slice":=⟨os,hos,hcs⟩
 unfold getItem
 try with_reducible refine wpAny_holding ?_
 first|refine wpAny_bind (wpAny_pure ?_)|skip
 refine wpAny_bind (wpAny_sequenceKey ht.typeIs (by decide) ?_)
 refine wpAny_bind (wpAny_callSpecial?_slot (name:=Str.ofString "__getitem__") ht.typeIs PyProof.Rows.slot_tuple_getitem
  (wpAny_call_entry PyProof.Rows.slot_tuple_getitem ht.typeIs entry_tuple_getitem ?_ (args_tuple_getitem _ _)))
 show wpAny _ _ (Builtin.Tuple.tupleItemsOf (.ref t)>>=_) _ _ s
 refine wpAny_bind (tupleItemsOf_ ht ?_)
 refine wpAny_bind (wpAny_typeOf hTs ?_)
 rw[if_pos (by decide)]
 refine wpAny_bind (gk hs pl pu ?_)
 have hno:¬((((d5 items.size 0 lo:Nat):Int)==0&&(1:Int)==1&&(d5 items.size items.size hi - d5 items.size 0 lo)==items.size)=true):=by
  intro q
  rw[Bool.and_eq_true,Bool.and_eq_true]at q
  have q1:((d5 items.size 0 lo:Nat):Int)=0:=eq_of_beq q.1.1
  have q2:d5 items.size items.size hi - d5 items.size 0 lo=items.size:=eq_of_beq q.2
  exact hw ⟨by omega,by omega⟩
 show wpAny _ _ (if (((d5 items.size 0 lo:Nat):Int)==0&&(1:Int)==1&&(d5 items.size items.size hi - d5 items.size 0 lo)==items.size)=true then _ else _) _ _ s
 rw[if_neg hno,uF]
 first
  |exact wpAny_bind (m:=Builtin.Tuple.tupleExact _) (wpAny_newObj_type (wpAny_pure ⟨_,rfl,wpAny_pure h⟩) htake)
  |exact wpAny_bind (m:=Builtin.Tuple.tupleExact _) (wpAny_newObj_type (wpAny_bind (wpAny_pure (wpAny_pure ⟨_,rfl,wpAny_pure h⟩))) htake)
  |exact wpAny_bind (wpAny_bind (m:=Builtin.Tuple.tupleExact _) (wpAny_newObj_type (wpAny_pure (wpAny_pure ⟨_,rfl,wpAny_pure h⟩)) htake))
  |exact wpAny_bind (wpAny_bind (m:=Builtin.Tuple.tupleExact _) (wpAny_newObj_type (wpAny_pure ⟨_,rfl,wpAny_pure h⟩) htake))
end
end HT
namespace L2
open PySem PySem.Spec PyProof.Rows
noncomputable abbrev TO:=St->Hp->(Option Int->Hp->Prop)->Prop
noncomputable def PO (X:Cx) (e:Option Expr) (t:TO):Prop:=
 ∀(pins:List (Addr×Obj)) (s:Shared) (σ:St) (H:Hp) (Q:Option Int->Hp->Prop),aC X pins σ H s->t σ H Q->
  wpAny (model X.prog X.w) X.A (evalPart e X.env) (fun u s'=>∃o H',aC X pins σ H' s'/\IsPart u o/\Q o H') X.xe s
noncomputable def x4:TO:=fun _ H Q=>Q none H
noncomputable def BD (t:TE):TO:=fun σ H Q=>t σ H fun x H1=>∃i,x= .int i/\Q (some i) H1
theorem iV {ns:List Int}:∀{us:List Value},aO (ns.map V.int) us->IntsAre us ns:=by
 induction ns with
 |nil=>intro us r;rw[List.map_nil]at r;cases r;exact .nil
 |cons n ns ih=>
  intro us r
  rw[List.map_cons]at r
  cases r with
  |cons r1 r2=>
   obtain⟨t,e⟩:=r1
   subst e
   exact .cons n t (ih r2)
section
variable {X:Cx} {e:Expr} {te:TE} {lo hi:Option Expr} {tl th:TO} {pos p2:Pos}
theorem x5:PO X none x4:=by
 intro pins s σ H Q I h
 rw[evalPart_none]
 exact wpAny_pure ⟨none,H,I, .none,h⟩
theorem rP (h:PE X e te):PO X (some e) (BD te):=by
 intro pins s σ H Q I hw
 rw[evalPart_some]
 refine cb (h pins s σ H _ I hw) fun u s1 z_=> ?_
 obtain⟨x,H1,I1,r1,q1⟩:=z_
 obtain⟨i,rfl,q⟩:=q1
 obtain⟨t,rfl⟩:=r1
 exact⟨some i,H1,I1, .int i t,q⟩
noncomputable def yE (X:Cx) (r:V->Option Int->Option Int->Hp->VK->Prop):Prop:=
 ∀(pins:List (Addr×Obj)) (s:Shared) (σ:St) (H:Hp) (x:V) (v vl vu:Value) (lo hi:Option Int) (sl:Addr) (Q:VK),aC X pins σ H s->bt x v->s.heap.IsSliceOf sl vl vu .none->IsPart vl lo->IsPart vu hi->r x lo hi H Q->
  ∃T id,typeLookup (.type T) "__getitem__"=pure (some (.builtin id))/\s.TypeIs v T/\wpAny (model X.prog X.w) X.A (getItem v (.ref sl)) (EP X pins σ Q) X.xe s
theorem yE.or {r r':V->Option Int->Option Int->Hp->VK->Prop} (h:yE X r) (h':yE X r'):yE X (fun x lo hi H Q=>r x lo hi H Q\/r' x lo hi H Q):=by
 intro pins s σ H x v vl vu lo hi sl Q I rx hs pl pu q
 rcases q with q|q
 ·exact h pins s σ H x v vl vu lo hi sl Q I rx hs pl pu q
 ·exact h' pins s σ H x v vl vu lo hi sl Q I rx hs pl pu q
noncomputable def DY (r:V->Option Int->Option Int->Hp->VK->Prop) (te:TE) (tl th:TO):TE:=fun σ H Q=>te σ H fun x H1=>tl σ H1 fun l H2=>th σ H2 fun u H3=>r x l u H3 Q
theorem uG {r:V->Option Int->Option Int->Hp->VK->Prop} (hr:yE X r) (he:PE X e te) (hl:PO X lo tl) (hu:PO X hi th):PE X (.Subscript e (.Slice lo hi none p2) pos) (DY r te tl th):=by
 intro pins s σ H Q I h
 refine Subscript_ (cb (he pins s σ H _ I h) fun v s1 z_=> ?_)
 obtain⟨x,H1,I1,r1,q1⟩:=z_
 refine wpAny_Slice (cb (hl pins s1 σ H1 _ I1 q1) fun vl s2 ⟨l,H2,I2,pl,q2⟩=>cb (hu pins s2 σ H2 _ I2 q2) fun vu s3 z_=> ?_)
 obtain⟨u,H3,I3,pu,q3⟩:=z_
 rw[evalPart_none]
 refine wpAny_pure ?_
 have I4:aC X pins σ H3 {s3 with heap:=s3.heap.push {cls:= .type "slice",data:= .fields #[vl,vu, .none]}}:=I3.kept (t':=s3.toks) fun b ob q=>Heap.get?_push_of_some _ q
 obtain⟨T,id,hT,ht,hg⟩:=hr pins {s3 with heap:=s3.heap.push {cls:= .type "slice",data:= .fields #[vl,vu, .none]}} σ H3 x v vl vu l u s3.heap.objs.size Q I4 r1 (Heap.IsSliceOf.new ..) pl pu q3
 show wpAny (model X.prog X.w) X.A (subscriptTail e (.Slice lo hi none p2) v (.ref s3.heap.objs.size)) (EP X pins σ Q) X.xe {s3 with heap:=s3.heap.push {cls:= .type "slice",data:= .fields #[vl,vu, .none]}}
 exact tail_any (ops:=[.ref s3.heap.objs.size,v]) ht hT hg (by with_unfolding_all rfl)
noncomputable def mx (xs:List V) (lo hi:Option Int):List V:=(xs.drop (HT.d5 xs.length 0 lo)).take (HT.d5 xs.length xs.length hi - HT.d5 xs.length 0 lo)
theorem kq (xs:List V) (lo hi:Option Int):(mx xs lo hi).length<=xs.length:=by
 unfold mx
 rw[List.length_take,List.length_drop]
 omega
noncomputable def Dp (K:PySem.W.Frag):V->Option Int->Option Int->Hp->VK->Prop:=fun x lo hi H Q=>∃a xs,x= .ref a/\eR K H a xs/\
 ¬(HT.d5 xs.length 0 lo=0/\HT.d5 xs.length xs.length hi=xs.length)/\∀p,H p=none->Q (.ref p) (br H p (.tup (mx xs lo hi)))
theorem zQ:yE X (Dp X.K):=by
 intro pins s σ H x v vl vu lo hi sl Q I rx hs pl pu h
 obtain⟨a,xs,rfl,hx,hw,q⟩:=h
 cases rx
 obtain⟨its,r,ht,hz⟩:=I.tuple hx
 have hlen:its.toArray.size=xs.length:=by rw[List.size_toArray];exact r.length.symm
 refine⟨"tuple",_,PyProof.Rows.slot_tuple_getitem.lookup,ht.typeIs,?_⟩
 refine HT.je ht hs pl pu (by rw[hlen];exact hw) ?_ (by rw[hlen];exact hz)
 rw[hlen]
 refine⟨.ref s.heap.objs.size,_,I.laid (t':=s.toks) (o:= .tup (mx xs lo hi)) (fun b ob q=>Heap.get?_push_of_some _ q) (Nat.le_refl _) ?_,rfl,q _ (I.hok.fresh (Nat.le_refl _))⟩
 exact⟨Nat.le_trans (kq xs lo hi) hz,_,(r.drop (HT.d5 xs.length 0 lo)).take (HT.d5 xs.length xs.length hi - HT.d5 xs.length 0 lo),e_.new _ _⟩
noncomputable def yF (K:PySem.W.Frag):R2:=fun x y H Q=>∃a b xs ys,x= .ref a/\y= .ref b/\eR K H a xs/\eR K H b ys/\xs≠[]/\xs.length+ys.length<=sizeLine/\
 (ys=[]->Q (.ref a) H)/\(ys≠[]->∀p,H p=none->Q (.ref p) (br H p (.tup (xs++ys))))
theorem aO.nil_iff {xs:List V} {us:List Value} (r:aO xs us):us=[]<->xs=[]:=by
 cases r with
 |nil=>simp
 |cons _ _=>simp
theorem xa:iH X (binaryOp .Add) (yF X.K):=by
 intro pins s σ H x y v u Q I rx ry h
 obtain⟨a,b,xs,ys,rfl,rfl,ha,hb,hx,hz,q1,q2⟩:=h
 cases rx
 cases ry
 obtain⟨its,r1,p1,_⟩:=I.tuple ha
 obtain⟨its2,r2,p2,_⟩:=I.tuple hb
 refine HT.x0 p1 p2 (fun z=>hx (r1.nil_iff.mp z)) (fun z=>⟨.ref a,H,I,rfl,q1 (r2.nil_iff.mp z)⟩) (fun z=> ?_) (by rw[<-r1.length,<-r2.length];exact hz)
 refine⟨.ref s.heap.objs.size,_,I.laid (t':=s.toks) (o:= .tup (xs++ys)) (fun b ob q=>Heap.get?_push_of_some _ q) (Nat.le_refl _) ?_,rfl,q2 (fun w=>z (r2.nil_iff.mpr w)) _ (I.hok.fresh (Nat.le_refl _))⟩
 exact⟨by rw[List.length_append];exact hz,_,r1.append r2,e_.new _ _⟩
end
end L2
namespace L2
open PySem PySem.Spec PyProof.Rows
noncomputable def rQ (n:Nat) (i:Int):Option Nat:=if 0<=i then (if i<n then some i.toNat else none)else if -(n:Int)<=i then some (i+n).toNat else none
noncomputable def atI {α:Type} (xs:List α) (i:Int):Option α:=(rQ xs.length i).bind fun j=>xs[j]?
theorem rR {n:Nat} {i:Int} {j:Nat} (h:rQ n i=some j):seqIndex? i n=some j/\j<n/\ -(n:Int)<=i/\i<n:=by
 unfold rQ at h
 by_cases h0:0<=i
 ·rw[if_pos h0]at h
  by_cases h1:i<n
  ·rw[if_pos h1]at h
   have e:i.toNat=j:=Option.some.inj h
   exact⟨by rw[seqIndex_of h0 h1,e],by omega,by omega,h1⟩
  ·rw[if_neg h1]at h;cases h
 ·rw[if_neg h0]at h
  by_cases h1: -(n:Int)<=i
  ·rw[if_pos h1]at h
   have e:(i+n).toNat=j:=Option.some.inj h
   exact⟨by rw[seqIndex_neg (by omega) h1,e],by omega,h1,by omega⟩
  ·rw[if_neg h1]at h;cases h
theorem nK {α:Type} {xs:List α} {i:Int} {v:α} (h:atI xs i=some v):∃j,seqIndex? i xs.length=some j/\xs[j]? =some v/\j<xs.length/\ -(xs.length:Int)<=i/\i<xs.length:=by
 unfold atI at h
 cases e:rQ xs.length i with
 |none=>rw[e]at h;cases h
 |some j=>
  rw[e]at h
  obtain⟨h1,h2,h3,h4⟩:=rR e
  exact⟨j,h1,h,h2,h3,h4⟩
theorem xb {α:Type} {xs:List α} {j:Nat} {v:α} (h:xs[j]? =some v):atI xs (j:Int)=some v:=by
 have hj:j<xs.length:=(List.getElem?_eq_some_iff.mp h).1
 have e:rQ xs.length (j:Int)=some j:=by
  unfold rQ
  rw[if_pos (by omega),if_pos (by omega)];simp
 unfold atI;rw[e];exact h
noncomputable def rS (b:Expr):Prop:=∀o i,subscripted b false o i=operate [o,i] (getItem o i)
noncomputable def xc (X:Cx) (r:R2):Prop:=
 ∀(value slice:Expr) (pins:List (Addr×Obj)) (s:Shared) (σ:St) (H:Hp) (x y:V) (v u:Value) (Q:VK),aC X pins σ H s->bt x v->bt y u->r x y H Q->
  subscripted slice false v u=operate [v,u] (getItem v u)->wpAny (model X.prog X.w) X.A (subscriptTail value slice v u) (EP X pins σ Q) X.xe s
noncomputable def DZ (X:Cx) (id:String) (r:V->List V->Hp->VK->Prop):Prop:=
 ∀(pins:List (Addr×Obj)) (s:Shared) (σ:St) (H:Hp) (x:V) (xs:List V) (v:Value) (us:List Value) (Q:VK),aC X pins σ H s->bt x v->aO xs us->r x xs H Q->
  wpAny (model X.prog X.w) X.A (call (.builtin id) (v::us)) (EP X pins σ Q) X.xe s
section
variable {X:Cx} {a b:Expr} {ta tb:TE} {pos:Pos}
theorem xc.or {r r':R2} (h:xc X r) (h':xc X r'):xc X (fun x y H Q=>r x y H Q\/r' x y H Q):=by
 intro value slice pins s σ H x y v u Q I rx ry q hs
 rcases q with q|q
 ·exact h value slice pins s σ H x y v u Q I rx ry q hs
 ·exact h' value slice pins s σ H x y v u Q I rx ry q hs
theorem BE {r:R2} (hr:xc X r) (ha:PE X a ta) (hb:PE X b tb) (hs:rS b):PE X (.Subscript a b pos) (CH r ta tb):=by
 intro pins s σ H Q I h
 exact Subscript_ (zH ha hb I h fun v u s2 x y H2 I2 rx ry q=>hr a b pins s2 σ H2 x y v u Q I2 rx ry q (hs _ _))
noncomputable def BF (K:PySem.W.Frag):R2:=fun x y H Q=>∃p xs i v,x= .ref p/\y= .int i/\cT K H p xs/\atI xs i=some v/\Q v H
noncomputable def BG (K:PySem.W.Frag):R2:=fun x y H Q=>∃p xs i v,x= .ref p/\y= .int i/\eR K H p xs/\atI xs i=some v/\Q v H
noncomputable def BH:R2:=fun x y H Q=>∃z i c,x= .str z/\y= .int i/\z.length<=sizeLine/\atI z.cps.toList i=some c/\Q (.str ⟨#[c]⟩) H
theorem xf:xc X (BF X.K):=by
 intro value slice pins s σ H x y v u Q I rx ry h hs
 obtain⟨p,xs,i,z,rfl,rfl,hq,he,q⟩:=h
 cases rx
 obtain⟨t,rfl⟩:=ry
 obtain⟨its,r,pl,hz⟩:=I.list hq
 obtain⟨j,h1,h2,h3,h4,h5⟩:=nK he
 obtain⟨w,ew,rw'⟩:=r.get h2
 have hl:=r.length
 have hn:=jS
 have fin:EP X pins σ Q w s:=⟨z,H,I,rw',q⟩
 by_cases h0:0<=i
 ·have hj:i.toNat=j:=by
   rw[seqIndex_of h0 h5]at h1
   exact Option.some.inj h1
  exact item_listR pl.isList h0 (by omega) (by rw[hj];simpa using ew) fin hs
 ·have hj:(i+(its.toArray.size:Int)).toNat=j:=by
   rw[seqIndex_neg (by omega) h4]at h1
   rw[List.size_toArray,<-hl]
   exact Option.some.inj h1
  exact subscriptTail_builtinR (x:=w) pl.isList.typeIs slot_list_getitem.lookup
   (wpAny_getItem_list_neg (Q:=fun r s'=>r=w/\EP X pins σ Q r s') pl.isList (by omega) (by rw[List.size_toArray]<;>omega) (by omega) (by rw[hj];simpa using ew) ⟨rfl,fin⟩) hs
theorem zR:xc X (BG X.K):=by
 intro value slice pins s σ H x y v u Q I rx ry h hs
 obtain⟨p,xs,i,z,rfl,rfl,hq,he,q⟩:=h
 cases rx
 obtain⟨t,rfl⟩:=ry
 obtain⟨its,r,pl,hz⟩:=I.tuple hq
 obtain⟨j,h1,h2,h3,h4,h5⟩:=nK he
 obtain⟨w,ew,rw'⟩:=r.get h2
 have hl:=r.length
 have hn:=jS
 have fin:EP X pins σ Q w s:=⟨z,H,I,rw',q⟩
 exact subscriptTail_builtinR (x:=w) pl.typeIs slot_tuple_getitem.lookup
  (getItem_tuple (j:=j) (Q:=fun r s'=>r=w/\EP X pins σ Q r s') pl (by omega) (by omega) (by rw[List.size_toArray,<-hl];exact h1) (by simpa using ew) ⟨rfl,fin⟩) hs
theorem zS:xc X BH:=by
 intro value slice pins s σ H x y v u Q I rx ry h hs
 obtain⟨z,i,c,rfl,rfl,hz,he,q⟩:=h
 obtain⟨t,rfl⟩:=rx
 obtain⟨t',rfl⟩:=ry
 obtain⟨j,h1,h2,h3,h4,h5⟩:=nK he
 have hl:z.cps.toList.length=z.length:=by simp[Str.length]
 rw[hl]at h1 h4 h5
 have hn:=jS
 exact tail_any (typeIs_str s z t) slot_str_getitem.lookup (getItem_str (c:=c) (by
  have e1:decide (i< -(2 ^63:Int))=false:=decide_eq_false (by omega)
  have e2:decide (i>=2 ^63)=false:=decide_eq_false (by omega)
  rw[e1,e2,Bool.or_false]) (by rw[h1];simpa using h2) ⟨.str ⟨#[c]⟩,H,I.tok _,⟨_,rfl⟩,q⟩) hs
noncomputable def DM (K:PySem.W.Frag):R2:=fun x y H Q=>BF K x y H Q\/BG K x y H Q\/BH x y H Q
theorem zT:xc X (DM X.K):=xf.or (zR.or zS)
theorem qq (its:List Value) (n j:Nat) (u:Value):Obj.mapSeq (·.setIfInBounds j u) {cls:= .type "list",data:= .seq its.toArray n}={cls:= .type "list",data:= .seq (its.set j u).toArray n}:=by
 simp[Obj.mapSeq]
theorem aC.lst {pins:List (Addr×Obj)} {σ:St} {H:Hp} {s:Shared} {p:Addr} {xs:List V} (I:aC X pins σ H s) (h:H p=some (.lst xs)):
  ∃(its:List Value) (n:Nat),aO xs its/\s.heap.get? p=some {cls:= .type "list",data:= .seq its.toArray n}/\xs.length<=sizeLine:=by
 obtain⟨z,its,n,r,e⟩:=I.hok p _ h
 exact⟨its,n,r,e,z⟩
theorem aC.lstUpd {pins:List (Addr×Obj)} {σ:St} {H:Hp} {s:Shared} {p:Addr} {xs ys:List V} {its its':List Value} {n n':Nat} {f:Obj->Obj} (I:aC X pins σ H s) (h:H p=some (.lst xs))
  (ho:s.heap.get? p=some {cls:= .type "list",data:= .seq its.toArray n}) (hf:f {cls:= .type "list",data:= .seq its.toArray n}={cls:= .type "list",data:= .seq its'.toArray n'}) (r:aO ys its') (hz:ys.length<=sizeLine) (t:Nat):
  aC X pins σ (br H p (.lst ys)) {s with heap:=s.heap.update p f,toks:=t}:=by
 have e:(s.heap.update p f).get? p=some {cls:= .type "list",data:= .seq its'.toArray n'}:=by
  rw[Heap.get?_update_self f ho (by rw[hf]<;>rfl),hf]
 refine I.write (x:=p) (e:=p) (by rw[h];trivial) (.inl rfl) (fun b u hb q=>(Heap.get?_update_other _ _ (Ne.symm hb)).trans q) ⟨_,e⟩ ?_
 exact⟨hz,its',n',r,e⟩
noncomputable def BI:V->V->V->Hp->(Hp->Prop)->Prop:=fun o i v H Q=>∃p xs k j,o= .ref p/\i= .int k/\H p=some (.lst xs)/\rQ xs.length k=some j/\Q (br H p (.lst (xs.set j v)))
theorem uH:Bt X BI:=by
 intro pins s σ H o i v ov iv u Q I ro ri rv h
 obtain⟨p,xs,k,j,rfl,rfl,hp,hj,q⟩:=h
 cases ro
 obtain⟨t,rfl⟩:=ri
 obtain⟨its,n,r,ho,hz⟩:=I.lst hp
 obtain⟨h1,h2,h3,h4⟩:=rR hj
 have hl:=r.length
 have hn:=jS
 have I':aC X pins σ (br H p (.lst (xs.set j v))) {s with heap:=s.heap.update p (Obj.mapSeq (·.setIfInBounds j u))}:=
  I.lstUpd hp ho (qq its n j u) (r.set rv j) (by rw[List.length_set];exact hz) s.toks
 by_cases h0:0<=k
 ·have hk:k.toNat=j:=by
   rw[seqIndex_of h0 h4]at h1
   exact Option.some.inj h1
  exact PySem.W.ki_setAt ho h0 (by omega) (by rw[List.size_toArray,<-hl];exact h4) (by rw[hk];exact⟨_,I',q⟩)
 ·have hk:(k+(its.toArray.size:Int)).toNat=j:=by
   rw[seqIndex_neg (by omega) h3]at h1
   rw[List.size_toArray,<-hl]
   exact Option.some.inj h1
  exact PySem.W.ki_setBack ho (by omega) (by rw[List.size_toArray,<-hl];exact h3) (by omega) (by rw[hk];exact⟨_,I',q⟩)
theorem nL (lo hi:Option Int) (n:Nat):(sliceBounds lo hi none n).1=((HT.d5 n 0 lo:Nat):Int)/\(sliceBounds lo hi none n).2.1=((HT.d5 n n hi:Nat):Int)/\(sliceBounds lo hi none n).2.2=1:=by
 refine⟨?_,?_,rfl⟩
 ·cases lo with
  |none=>simp[sliceBounds,HT.d5]
  |some i=>
   simp only[sliceBounds,HT.d5,Option.getD_none,show (1:Int)>0 by decide,if_true]
   by_cases h:i<0
   ·simp only[h,if_true]<;>omega
   ·simp only[h,if_false]<;>omega
 ·cases hi with
  |none=>simp[sliceBounds,HT.d5]
  |some i=>
   simp only[sliceBounds,HT.d5,Option.getD_none,show (1:Int)>0 by decide,if_true]
   by_cases h:i<0
   ·simp only[h,if_true]<;>omega
   ·simp only[h,if_false]<;>omega
theorem my (its:List Value) (lo hi:Option Int):slicePick its.toArray lo hi none=((its.drop (HT.d5 its.length 0 lo)).take (HT.d5 its.length its.length hi - HT.d5 its.length 0 lo)).toArray:=by
 obtain⟨h1,h2,h3⟩:=nL lo hi its.toArray.size
 unfold slicePick
 rw[h1,h2,h3]
 simp only[sliceRange_one,pick_run,List.size_toArray]<;>rfl
noncomputable def Dq (K:PySem.W.Frag):V->Option Int->Option Int->Hp->VK->Prop:=fun x lo hi H Q=>∃a xs,x= .ref a/\cT K H a xs/\∀p,H p=none->Q (.ref p) (br H p (.lst (mx xs lo hi)))
theorem xg:yE X (Dq X.K):=by
 intro pins s σ H x v vl vu lo hi sl Q I rx hs pl pu h
 obtain⟨a,xs,rfl,hx,q⟩:=h
 cases rx
 obtain⟨its,r,ht,hz⟩:=I.list hx
 have hlen:=r.length
 refine⟨"list",_,slot_list_getitem.lookup,ht.isList.typeIs,?_⟩
 refine wpAny_getItem_list_slice ht.isList hs pl pu .none (by simp) ?_ (by rw[List.size_toArray]<;>omega)
 rw[my,<-hlen]
 refine⟨.ref s.heap.objs.size,_,I.laid (t':=s.toks) (o:= .lst (mx xs lo hi)) (fun b ob q=>Heap.get?_push_of_some _ q) (Nat.le_refl _) ?_,rfl,q _ (I.hok.fresh (Nat.le_refl _))⟩
 exact⟨Nat.le_trans (kq xs lo hi) hz,_,0,(r.drop (HT.d5 xs.length 0 lo)).take (HT.d5 xs.length xs.length hi - HT.d5 xs.length 0 lo),Heap.get?_push_size _ rfl⟩
noncomputable def gQ:V->Bool
 | .non=>true
 | .bl _=>true
 | .int _=>true
 | .str _=>true
 |_=>false
noncomputable def xh:V->V->Bool
 | .non, .non=>true
 | .bl a, .bl b=>a==b
 | .bl a, .int b=>(if a then 1 else 0)==b
 | .int a, .bl b=>a==(if b then 1 else 0)
 | .int a, .int b=>a==b
 | .str a, .str b=>a==b
 |_,_=>false
theorem zU {A:Around} {s:Shared} {y x:V} {u v:Value} (ry:bt y u) (rx:bt x v) (fy:gQ y=true) (fx:gQ x=true):SeqAt.EqAt A s u v (xh y x):=by
 cases y with
 |non=>
  cases ry
  cases x with
  |non=>cases rx;exact SeqAt.EqAt.same _
  |bl b=>cases rx;exact SeqAt.EqAt.none_bool b
  |int b=>obtain⟨t,rfl⟩:=rx;exact SeqAt.EqAt.none_int b t
  |str b=>obtain⟨t,rfl⟩:=rx;exact SeqAt.EqAt.none_str b t
  |_=>exact absurd (show false=true from fx) Bool.false_ne_true
 |bl a=>
  cases ry
  cases x with
  |non=>cases rx;exact SeqAt.EqAt.bool_none a
  |bl b=>cases rx;exact SeqAt.EqAt.bool_bool a b
  |int b=>obtain⟨t,rfl⟩:=rx;exact SeqAt.EqAt.bool_int a b t
  |str b=>obtain⟨t,rfl⟩:=rx;exact SeqAt.EqAt.bool_str a b t
  |_=>exact absurd (show false=true from fx) Bool.false_ne_true
 |int a=>
  obtain⟨t',rfl⟩:=ry
  cases x with
  |non=>cases rx;exact SeqAt.EqAt.int_none a t'
  |bl b=>cases rx;exact SeqAt.EqAt.int_bool a t' b
  |int b=>obtain⟨t,rfl⟩:=rx;exact SeqAt.EqAt.int_int a t' b t
  |str b=>obtain⟨t,rfl⟩:=rx;exact SeqAt.EqAt.int_str a t' b t
  |_=>exact absurd (show false=true from fx) Bool.false_ne_true
 |str a=>
  obtain⟨t',rfl⟩:=ry
  cases x with
  |non=>cases rx;exact SeqAt.EqAt.str_none a t'
  |bl b=>cases rx;exact SeqAt.EqAt.str_bool a t' b
  |int b=>obtain⟨t,rfl⟩:=rx;exact SeqAt.EqAt.str_int a t' b t
  |str b=>obtain⟨t,rfl⟩:=rx;exact SeqAt.EqAt.str_str a t' b t
  |_=>exact absurd (show false=true from fx) Bool.false_ne_true
 |_=>exact absurd (show false=true from fy) Bool.false_ne_true
noncomputable def qr (x:V) (u:Value):Bool:=match u with
 | .none=>xh .non x
 | .bool b=>xh (.bl b) x
 | .int i _=>xh (.int i) x
 | .str z _=>xh (.str z) x
 |_=>false
theorem uI {x y:V} {u:Value} (r:bt y u) (f:gQ y=true):qr x u=xh y x:=by
 cases y with
 |non=>cases r;rfl
 |bl b=>cases r;rfl
 |int i=>obtain⟨t,rfl⟩:=r;rfl
 |str z=>obtain⟨t,rfl⟩:=r;rfl
 |_=>exact absurd (show false=true from f) Bool.false_ne_true
theorem jf {x:V}:∀{xs:List V} {us:List Value},aO xs us->xs.all gQ=true->us.any (qr x)=xs.any fun y=>xh y x
 |_,_, .nil,_=>rfl
 |y::xs,u::us, .cons r t,f=>by
  rw[List.all_cons,Bool.and_eq_true]at f
  rw[List.any_cons,List.any_cons,uI r f.1,jf t f.2]
theorem hJ {A:Around} {s:Shared} {x:V} {v:Value} (rx:bt x v) (fx:gQ x=true):∀{xs:List V} {us:List Value},aO xs us->xs.all gQ=true->∀u∈us,SeqAt.EqAt A s u v (qr x u)
 |_,_, .nil,_=>fun u hu=>by cases hu
 |y::xs,u::us, .cons r t,f=>fun u' hu=>by
  rw[List.all_cons,Bool.and_eq_true]at f
  rcases List.mem_cons.mp hu with rfl|hu
  ·rw[uI r f.1];exact zU r rx f.1 fx
  ·exact hJ rx fx t f.2 u' hu
noncomputable def inV (x:V) (xs:List V):Bool:=xs.any fun y=>xh y x
noncomputable def Dr (K:PySem.W.Frag) (neg:Bool):R2:=fun x y H Q=>∃p xs,y= .ref p/\(cT K H p xs\/eR K H p xs)/\gQ x=true/\xs.all gQ=true/\Q (.bl (if neg then !inV x xs else inV x xs)) H
theorem mT:iH X (compareOp .In) (Dr X.K false):=by
 intro pins s σ H x y v u Q I rx ry h
 obtain⟨p,xs,rfl,hq,fx,fs,q⟩:=h
 cases ry
 rcases hq with hq|hq
 ·obtain⟨its,r,pl,hz⟩:=I.list hq
  refine SeqAt.in_listAt (qr x) pl.isList (fun w hw=>hJ rx fx r fs w (by simpa using hw)) ⟨.bl _,H,I,rfl,?_⟩
  rw[show its.toArray.any (qr x)=its.any (qr x) by simp,jf r fs]
  exact q
 ·obtain⟨its,r,pl,hz⟩:=I.tuple hq
  refine SeqAt.in_tupleAt (qr x) pl (fun w hw=>hJ rx fx r fs w (by simpa using hw)) ⟨.bl _,H,I,rfl,?_⟩
  rw[show its.toArray.any (qr x)=its.any (qr x) by simp,jf r fs]
  exact q
theorem nM:iH X (compareOp .NotIn) (Dr X.K true):=by
 intro pins s σ H x y v u Q I rx ry h
 obtain⟨p,xs,rfl,hq,fx,fs,q⟩:=h
 cases ry
 rcases hq with hq|hq
 ·obtain⟨its,r,pl,hz⟩:=I.list hq
  refine SeqAt.notIn_listAt (qr x) pl.isList (fun w hw=>hJ rx fx r fs w (by simpa using hw)) ⟨.bl _,H,I,rfl,?_⟩
  rw[show its.toArray.any (qr x)=its.any (qr x) by simp,jf r fs]
  exact q
 ·obtain⟨its,r,pl,hz⟩:=I.tuple hq
  refine SeqAt.notIn_tupleAt (qr x) pl (fun w hw=>hJ rx fx r fs w (by simpa using hw)) ⟨.bl _,H,I,rfl,?_⟩
  rw[show its.toArray.any (qr x)=its.any (qr x) by simp,jf r fs]
  exact q
theorem nN:cG X (.builtin "len") (fun xs H Q=>∃p ys,xs=[.ref p]/\(cT X.K H p ys\/eR X.K H p ys)/\Q (.int ys.length) H):=by
 intro pins s σ H xs us Q I r h
 obtain⟨p,ys,rfl,hq,q⟩:=h
 obtain⟨u,rfl,rx⟩:=gj r
 cases rx
 have hn:=jS
 rcases hq with hq|hq
 ·obtain⟨its,r',pl,hz⟩:=I.list hq
  have hlen:=r'.length
  exact Calls.call_len_list pl.isList (by simp only[List.size_toArray]<;>omega) ⟨.int ys.length,H,I.tok _,⟨s.toks+1,by rw[List.size_toArray,hlen]⟩,q⟩
 ·obtain⟨its,r',pl,hz⟩:=I.tuple hq
  have hlen:=r'.length
  exact len_tuple pl (by simp only[List.size_toArray]<;>omega) ⟨.int ys.length,H,I.tok _,⟨s.toks+1,by rw[List.size_toArray,hlen]⟩,q⟩
theorem cG.or {f:Value} {r r':List V->Hp->VK->Prop} (h:cG X f r) (h':cG X f r'):cG X f (fun xs H Q=>r xs H Q\/r' xs H Q):=by
 intro pins s σ H xs us Q I rs q
 rcases q with q|q
 ·exact h pins s σ H xs us Q I rs q
 ·exact h' pins s σ H xs us Q I rs q
theorem cr:cG X (.type "list") (fun xs H Q=>∃p ys,xs=[.ref p]/\(cT X.K H p ys\/eR X.K H p ys)/\∀l,H l=none->Q (.ref l) (br H l (.lst ys))):=by
 intro pins s σ H xs us Q I r h
 obtain⟨p,ys,rfl,hq,q⟩:=h
 obtain⟨u,rfl,rx⟩:=gj r
 cases rx
 have fin:∀(its:List Value),aO ys its->ys.length<=sizeLine->∀(h':Heap) (c':Nat),(∀b o',s.heap.get? b=some o'->h'.get? b=some o')->
   h'.get? s.heap.objs.size=some {cls:= .type "list",dict:=none,data:= .seq its.toArray c',slots:= #[]}->EP X pins σ Q (.ref s.heap.objs.size) {s with heap:=h'}:=fun its r' hz h' c' kp e=>
  ⟨.ref s.heap.objs.size,_,I.laid (t':=s.toks) kp (Nat.le_refl _) (show bK X.prog X.w _ h' _ (.lst ys)from ⟨hz,its,c',r',e⟩),rfl,q _ (I.hok.fresh (Nat.le_refl _))⟩
 rcases hq with hq|hq
 ·obtain⟨its,r',pl,hz⟩:=I.list hq
  have hlen:=r'.length
  obtain⟨o,ho,hc,n,hd⟩:=pl.isList
  exact call_list_seq p (.inl rfl) ho hc hd (fun h' c' kp e=>fin its r' hz h' c' kp e) (by simp only[List.size_toArray]<;>omega)
 ·obtain⟨its,r',pl,hz⟩:=I.tuple hq
  have hlen:=r'.length
  obtain⟨o,ho,hc,n,hd⟩:=pl
  exact call_list_seq p (.inr rfl) ho hc hd (fun h' c' kp e=>fin its r' hz h' c' kp e) (by simp only[List.size_toArray]<;>omega)
theorem bq:cG X (.type "tuple") (fun xs H Q=>∃p ys,xs=[.ref p]/\((cT X.K H p ys/\∀l,H l=none->Q (.ref l) (br H l (.tup ys)))\/(eR X.K H p ys/\Q (.ref p) H))):=by
 intro pins s σ H xs us Q I r h
 obtain⟨p,ys,rfl,h⟩:=h
 obtain⟨u,rfl,rx⟩:=gj r
 cases rx
 rcases h with ⟨hq,q⟩|⟨hq,q⟩
 ·obtain⟨its,r',pl,hz⟩:=I.list hq
  have hlen:=r'.length
  refine call_tuple_list pl.isList (fun h' kp=> ?_) (by simp only[List.size_toArray]<;>omega)
  have I1:aC X pins σ H {s with heap:=h'}:=I.kept (t':=s.toks) kp
  have I2:aC X pins σ (br H h'.objs.size (.tup ys)) {s with heap:=h'.push {cls:= .type "tuple",data:= .seq its.toArray}}:=
   I1.laid (t':=s.toks) (fun b o e=>Heap.get?_push_of_some _ e) (Nat.le_refl _) (show bK X.prog X.w _ _ _ (.tup ys)from ⟨hz,its,r',e_.new _ _⟩)
  exact⟨.ref h'.objs.size,_,I2,rfl,q _ (I1.hok.fresh (Nat.le_refl _))⟩
 ·obtain⟨its,r',pl,hz⟩:=I.tuple hq
  exact call_tuple_same pl ⟨.ref p,H,I,rfl,q⟩
noncomputable def DN (K:PySem.W.Frag) (T:String) (x:V) (H:Hp):Prop:=match x with
 | .str _=>T="str"
 | .int _=>T="int"
 | .ref p=>(T="list"/\∃xs,cT K H p xs)\/(T="tuple"/\∃o,K.lookup p=some o/\o.cls= .type "tuple"/\o.dict=none)\/
   (T="dict"/\((∃kvs,H p=some (.dK kvs))\/∃kvs,H p=some (.dT kvs)))\/(T="set"/\∃S n,H p=some (.set S n))
 |_=>False
theorem zV {pins:List (Addr×Obj)} {σ:St} {H:Hp} {s:Shared} {T:String} {x:V} {v:Value} (I:aC X pins σ H s) (r:bt x v) (ty:DN X.K T x H):
  s.TypeIs v T/\∀a,v= .ref a->∃ob,s.heap.get? a=some ob/\ob.dict=none:=by
 cases x with
 |str z=>
  obtain⟨t,rfl⟩:=r
  cases (show T="str" from ty)
  exact⟨typeIs_str s z t,fun _ e=>nomatch e⟩
 |int i=>
  obtain⟨t,rfl⟩:=r
  cases (show T="int" from ty)
  exact⟨typeIs_int s i t,fun _ e=>nomatch e⟩
 |ref p=>
  cases r
  rcases ty with ⟨rfl,xs,hq⟩|⟨rfl,o,hk,hc,hd⟩|⟨rfl,hk⟩|⟨rfl,S,n,hk⟩
  ·obtain⟨its,_,pl,_⟩:=I.list hq
   refine⟨pl.isList.typeIs,fun a e=> ?_⟩
   cases e
   obtain⟨o,n,e,c,hd,_⟩:=pl
   exact⟨o,e,hd⟩
  ·refine⟨⟨o,I.kIn p o hk,hc⟩,fun a e=> ?_⟩
   cases e
   exact⟨o,I.kIn _ o hk,hd⟩
  ·have z:∃o,s.heap.get? p=some o/\o.ExactDict:=by
    rcases hk with ⟨kvs,hk⟩|⟨kvs,hk⟩
    ·obtain⟨_,_,_,_,o,_,_,e,ex,_⟩:=I.hok p _ hk
     exact⟨o,e,ex⟩
    ·obtain⟨_,_,_,_,o,_,_,e,ex,_⟩:=I.hok p _ hk
     exact⟨o,e,ex⟩
   obtain⟨o,e,ex⟩:=z
   refine⟨⟨o,e,ex.1⟩,fun a e2=> ?_⟩
   cases e2
   exact⟨o,e,ex.2.1⟩
  ·obtain⟨o,_,_,_,e,ex,_⟩:=I.hok p _ hk
   refine⟨⟨o,e,ex.1⟩,fun a e2=> ?_⟩
   cases e2
   exact⟨o,e,ex.2.1⟩
 |_=>exact False.elim ty
noncomputable def D_ (K:PySem.W.Frag) (T:String) (r:V->List V->Hp->VK->Prop) (to:TE) (t:TA):TE:=fun σ H Q=>to σ H fun x H1=>DN K T x H1/\t σ H1 fun xs H2=>r x xs H2 Q
variable {o e:Expr} {es:List Expr} {to:TE} {t:TA} {name:Str} {apos cpos:Pos} {T id:String} {r:V->List V->Hp->VK->Prop}
theorem oP (pa:PlainAttrs T) (slot:Slot T name id) (hty:typeOf (.builtin id)=pure (.type "method_descriptor")) (hm:DZ X id r) (ho:PE X o to) (ha:PA X (e::es) t)
  (hbase:attributeBase o name X.env (eval o X.env)=eval o X.env:=by rfl)
  (hfew:((backTo cpos (starEach (e::es) X.env)).all (fun x=> !x.1)&&(backToKw cpos (keywordEach [] X.env)).all (fun x=>x.1.isSome)
   &&decide ((e::es).length+([]:List Keyword).length+(if ([]:List Keyword).isEmpty then 0 else 1)<30))=true:=by rfl)
  (hline:(apos.endLine==cpos.line)=true:=by rfl) (hs:starEach (e::es) X.env=(false,eval e X.env)::starEach es X.env:=by rfl) (hplain:(backTo cpos (starEach es X.env)).any (·.1)=false:=by rfl):
  PE X (.Call (.Attribute o name apos) (e::es) [] cpos) (D_ X.K T r to t):=by
 intro pins s σ H Q I h
 refine wpAny_Call_method_late hbase hfew hline rfl (cb (ho pins s σ H _ I h) fun v s1 z_=> ?_)
 obtain⟨x,H1,I1,r1,ty,q1⟩:=z_
 obtain⟨h1,h2⟩:=zV I1 r1 ty
 refine⟨T,id,pa,slot,hty,h1,h2,?_⟩
 have hA:=ha cpos pins s1 σ H1 _ I1 q1
 rw[hs]at hA ⊢
 refine Calls.callWith_builtin (by show (false||(backTo cpos (starEach es X.env)).any (·.1))=false;rw[hplain]<;>rfl) (Calls.evalArgs_plain ?_)
 exact cb hA fun us s2 ⟨vs,H2,I2,r2,q2⟩=>hm pins s2 σ H2 x vs v us Q I2 r1 r2 q2
end
end L2
namespace L2
open PySem PySem.Spec PyProof.Rows
noncomputable def Bc (X:Cx) (id:String) (r:V->List V->Hp->VK->Prop):Prop:=
 ∀(pins:List (Addr×Obj)) (s:Shared) (σ:St) (H:Hp) (x:V) (xs:List V) (v:Value) (us:List Value) (Q:VK),aC X pins σ H s->bt x v->aO xs us->r x xs H Q->
  wpAny (model X.prog X.w) X.A (call (.builtin id) (v::us)) (EP X pins σ Q) X.xe s
theorem aO.one:∀{x:V} {us:List Value},aO [x] us->∃u,us=[u]/\bt x u:=fun h=>by
 cases h with
 |cons r t=>cases t;exact⟨_,rfl,r⟩
theorem aO.two:∀{x y:V} {us:List Value},aO [x,y] us->∃u v,us=[u,v]/\bt x u/\bt y v:=fun h=>by
 cases h with
 |cons r t=>
  obtain⟨v,e,q⟩:=aO.one t
  exact⟨_,v,by rw[e],r,q⟩
theorem aO.zero:∀{us:List Value},aO [] us->us=[]
 |_, .nil=>rfl
theorem aO.reverse {xs:List V} {us:List Value} (h:aO xs us):aO xs.reverse us.reverse:=by
 induction h with
 |nil=>exact .nil
 |cons r t ih=>rw[List.reverse_cons,List.reverse_cons];exact aO.append ih (.cons r .nil)
theorem aO.rep {xs:List V} {us:List Value} (h:aO xs us):∀k:Nat,aO (List.replicate k xs).flatten (List.replicate k us).flatten
 |0=> .nil
 |k+1=>by
  rw[List.replicate_succ,List.replicate_succ,List.flatten_cons,List.flatten_cons]
  exact aO.append h (aO.rep h k)
theorem mU (its:List Value):∀(k:Nat) (acc:List Value),
  List.foldl (fun x1 x2=>x1++x2) acc.toArray (List.replicate k its.toArray)=(acc++(List.replicate k its).flatten).toArray
 |0,acc=>by simp
 |k+1,acc=>by
  have e:acc.toArray++its.toArray=(acc++its).toArray:=by simp
  have e2:(acc++its)++(List.replicate k its).flatten=acc++(List.replicate (k+1) its).flatten:=by
   rw[List.replicate_succ,List.flatten_cons,List.append_assoc]
  rw[<-e2,<-mU its k (acc++its),<-e,List.replicate_succ,List.foldl_cons]
section
variable {X:Cx} {pins:List (Addr×Obj)} {σ:St} {H:Hp} {s:Shared} {l b:Addr} {xs ys zs:List V}
theorem aC.lset {its its':List Value} {n:Nat} {f:Array Value->Array Value} {t':Nat} (I:aC X pins σ H s) (hH:H l=some (.lst xs))
  (e:s.heap.get? l=some {cls:= .type "list",data:= .seq its.toArray n}) (hf:f its.toArray=its'.toArray) (hv:aO ys its') (hz:ys.length<=sizeLine):
  aC X pins σ (br H l (.lst ys)) {s with heap:=s.heap.update l (Obj.mapSeq f),toks:=t'}:=by
 have q:=PySem.IsL.update e f
 rw[hf]at q
 refine I.write (x:=l) (e:=l) (by rw[hH];exact trivial) (.inl rfl) (fun b' u hb hu=>(Heap.get?_update_other s.heap (Obj.mapSeq f) (Ne.symm hb)).trans hu) ⟨_,q⟩ ?_
 exact⟨hz,its',_,hv,q⟩
theorem aC.lnew {its:List Value} {t':Nat} (I:aC X pins σ H s) (hv:aO ys its) (hz:ys.length<=sizeLine):
  aC X pins σ (br H s.heap.objs.size (.lst ys)) {s with heap:=s.heap.push {cls:= .type "list",data:= .seq its.toArray},toks:=t'}:=
 I.laid (fun _ _ q=>Heap.get?_push_of_some _ q) (Nat.le_refl _) ⟨hz,its,0,hv,Heap.get?_push_size _ rfl⟩
theorem aC.fresh (I:aC X pins σ H s):H s.heap.objs.size=none:=I.hok.fresh (Nat.le_refl _)
theorem aC.lstM (I:aC X pins σ H s) (hH:H l=some (.lst xs)):xs.length<=sizeLine/\∃(its:List Value) (n:Nat),aO xs its/\xs.length=its.length/\s.heap.get? l=some {cls:= .type "list",data:= .seq its.toArray n}:=by
 obtain⟨z,its,n,r,e⟩:=I.hok l _ hH
 exact⟨z,its,n,r,r.length,e⟩
theorem oQ {n:Nat} (h:n<=sizeLine):Builtin.List.listTooLong n=false:=by
 unfold Builtin.List.listTooLong
 exact decide_eq_false (by omega)
end
section
variable {X:Cx}
noncomputable def xi:V->List V->Hp->VK->Prop:=fun x vs H Q=>∃l xs y,x= .ref l/\vs=[y]/\H l=some (.lst xs)/\xs.length<sizeLine/\Q .non (br H l (.lst (xs++[y])))
theorem jU:Bc X "list.append" xi:=by
 intro pins s σ H x vs v us Q I rx rv h
 obtain⟨l,xs,y,rfl,rfl,hH,hz,q⟩:=h
 cases rx
 obtain⟨u,rfl,ru⟩:=rv.one
 obtain⟨z,its,n,r,hl,e⟩:=I.lstM hH
 refine call_meets F.slot_list_append ⟨_,e,rfl⟩ F.entry_list_append (F.args_list_append_2 _ _) (PySem.list_append l its.toArray n u (by rw[List.size_toArray];omega)) ⟨e,?_⟩
 refine⟨.non,_,I.lset (its':=its++[u]) hH e (by simp) (r.append (.cons ru .nil)) ?_,rfl,q⟩
 rw[List.length_append,List.length_singleton]
 omega
noncomputable def xj:V->List V->Hp->VK->Prop:=fun x vs H Q=>∃l b xs zs,x= .ref l/\vs=[.ref b]/\H l=some (.lst xs)/\H b=some (.lst zs)/\xs.length+zs.length<=sizeLine/\Q .non (br H l (.lst (xs++zs)))
theorem Bd:Bc X "list.extend" xj:=by
 intro pins s σ H x vs v us Q I rx rv h
 obtain⟨l,b,xs,zs,rfl,rfl,hH,hB,hz,q⟩:=h
 cases rx
 obtain⟨u,rfl,ru⟩:=rv.one
 cases ru
 obtain⟨z,its,n,r,hl,e⟩:=I.lstM hH
 obtain⟨z2,its2,n2,r2,hl2,e2⟩:=I.lstM hB
 have hsz:its.toArray.size+its2.toArray.size<=sizeLine:=by rw[List.size_toArray,List.size_toArray];omega
 have hlong:¬(!its.toArray.isEmpty&&Builtin.List.listTooLong (its.toArray.size+its2.toArray.size))=true:=by
  rw[oQ hsz,Bool.and_false]
  exact Bool.false_ne_true
 refine call_meets F.slot_list_extend ⟨_,e,rfl⟩ F.entry_list_extend (F.args_list_extend_2 _ _)
  (AutoSeq1.list_extend_list_list_0 l its.toArray n b its2.toArray n2 hlong (by rw[List.size_toArray];omega) (by omega)) ⟨e,e2,?_⟩
 refine⟨.non,_,I.lset (its':=its++its2) hH e (by simp) (r.append r2) ?_,rfl,q⟩
 rw[List.length_append]
 omega
noncomputable def BJ:R2:=fun x y H Q=>∃l b xs zs,x= .ref l/\y= .ref b/\H l=some (.lst xs)/\H b=some (.lst zs)/\xs.length+zs.length<=sizeLine/\∀p,H p=none->Q (.ref p) (br H p (.lst (xs++zs)))
theorem zW:iH X (binaryOp .Add) BJ:=by
 intro pins s σ H x y v u Q I rx ry h
 obtain⟨l,b,xs,zs,rfl,rfl,hH,hB,hz,q⟩:=h
 cases rx
 cases ry
 obtain⟨z,its,n,r,hl,e⟩:=I.lstM hH
 obtain⟨z2,its2,n2,r2,hl2,e2⟩:=I.lstM hB
 refine PySem.P.add_list e e2 ?_ (by rw[List.size_toArray,List.size_toArray];omega)
 have ea:its.toArray++its2.toArray=(its++its2).toArray:=by simp
 rw[ea]
 exact⟨.ref _,_,I.lnew (t':=s.toks) (r.append r2) (by rw[List.length_append];omega),rfl,q _ I.fresh⟩
noncomputable def BK:R2:=fun x y H Q=>∃l k xs,x= .ref l/\y= .int k/\H l=some (.lst xs)/\ -(2 ^63)<=k/\k<2 ^63/\xs.length*k.toNat<=sizeLine/\
 ∀p,H p=none->Q (.ref p) (br H p (.lst (List.replicate k.toNat xs).flatten))
theorem xk {α:Type} (xs:List α) (k:Nat):(List.replicate k xs).flatten.length=k*xs.length:=by
 induction k with
 |zero=>simp
 |succ k ih=>rw[List.replicate_succ,List.flatten_cons,List.length_append,ih,Nat.succ_mul,Nat.add_comm]
theorem zX:iH X (binaryOp .Mult) BK:=by
 intro pins s σ H x y v u Q I rx ry h
 obtain⟨l,k,xs,rfl,rfl,hH,h1,h2,hz,q⟩:=h
 cases rx
 obtain⟨t,rfl⟩:=ry
 obtain⟨z,its,n,r,hl,e⟩:=I.lstM hH
 have hlen:its.toArray.size*k.toNat<=sizeLine:=by rw[List.size_toArray,<-hl];exact hz
 have hcap:¬its.toArray.size*k.toNat>(2 ^63 - 1) / 8:=by
  have:(sizeLine:Nat)<=(2 ^63 - 1) / 8:=by decide
  omega
 have hfit:¬(!Builtin.List.listFitsIndex k)=true:=by
  rw[fitsIndex_both h1 h2]
  exact Bool.false_ne_true
 have hlong:¬Builtin.List.listTooLong (its.toArray.size*k.toNat)=true:=by
  rw[oQ hlen]
  exact Bool.false_ne_true
 have hnew:List.foldl (fun x1 x2=>x1++x2) #[] (List.replicate (if its.toArray.isEmpty=true then 0 else k.toNat) its.toArray)=(List.replicate k.toNat its).flatten.toArray:=by
  have f0:∀m:Nat,List.foldl (fun x1 x2=>x1++x2) #[] (List.replicate m its.toArray)=(List.replicate m its).flatten.toArray:=fun m=>by
   have:=mU its m []
   rw[List.nil_append]at this
   exact this
  rw[f0]
  cases its with
  |nil=>simp
  |cons a r'=>rw[if_neg (by simp)]
 refine wpAny_binaryOp_repeat_ref (T:="list") (U:="int") (by decide) ⟨_,e,rfl⟩ (fun s'=>typeIs_int s' k t) noFill_list_mul F.fills_int_mul F.slot_int_rmul repeat_list F.slot_int_index.lookup
  (call_meets F.slot_int_rmul (typeIs_int s k t) F.entry_int_rmul (F.args_int_rmul_2 _ _) (int___rmul___int_list k t l its.toArray n)
   ⟨e,rfl,⟨_,e,rfl⟩,call_meets F.slot_list_mul ⟨_,e,rfl⟩ F.entry_list_mul (F.args_list_mul_2 _ _) (AutoListH.list___mul___list_int_3 l its.toArray n k t hfit hcap hlong) ⟨e,?_⟩⟩)
 rw[hnew]
 exact⟨.ref _,_,I.lnew (t':=s.toks) (r.rep k.toNat) (by rw[xk,Nat.mul_comm];exact hz),rfl,q _ I.fresh⟩
end
section
variable {prog:Program} {w:World} {A:Around} {E:Value->Shared->Prop} {s:Shared}
end
section
variable {X:Cx}
end
end L2
namespace L2
open PySem PySem.Spec PyProof.Rows
section
variable {κ:Type} [DecidableEq κ]
noncomputable def gD (kvs:List (κ×V)) (k:κ):Option V:=(kvs.find? fun kv=>decide (kv.1=k)).map (·.2)
noncomputable def gY (kvs:List (κ×V)) (k:κ) (v:V):List (κ×V):=
 if (kvs.any fun kv=>decide (kv.1=k))=true then kvs.map (fun kv=>if kv.1=k then (kv.1,v)else kv)else kvs++[(k,v)]
noncomputable def yG (kvs:List (κ×V)) (k:κ):List (κ×V):=kvs.filter fun kv=>decide (kv.1≠k)
theorem lm {p:κ×V} {r:List (κ×V)} {k:κ} (e:p.1=k):gD (p::r) k=some p.2:=by simp[gD,List.find?_cons,e]
theorem lp {p:κ×V} {r:List (κ×V)} {k:κ} (e:¬p.1=k):gD (p::r) k=gD r k:=by simp[gD,List.find?_cons,e]
theorem oR (k:κ):∀kvs:List (κ×V),(kvs.any fun kv=>decide (kv.1=k))=(gD kvs k).isSome
 |[]=>rfl
 |p::r=>by
  rw[List.any_cons]
  by_cases e:p.1=k
  ·simp only[lm e,decide_eq_true e,Bool.true_or,Option.isSome_some]
  ·rw[lp e,decide_eq_false e,Bool.false_or];exact oR k r
theorem kr (kvs:List (κ×V)) (k:κ) (v:V):(gY kvs k v).length<=kvs.length+1:=by
 unfold gY
 split
 ·rw[List.length_map];omega
 ·rw[List.length_append,List.length_cons,List.length_nil];omega
theorem gW.isSome_eq {o:Option V} {u:Option Value} (r:gW o u):o.isSome=u.isSome:=by
 cases o with
 |none=>cases u with
  |none=>rfl
  |some _=>exact(show False from r).elim
 |some _=>cases u with
  |none=>exact(show False from r).elim
  |some _=>rfl
theorem gW.getD {o:Option V} {u:Option Value} {d:V} {d':Value} (r:gW o u) (rd:bt d d'):bt (o.getD d) (u.getD d'):=by
 cases o with
 |none=>cases u with
  |none=>exact rd
  |some _=>exact(show False from r).elim
 |some _=>cases u with
  |none=>exact(show False from r).elim
  |some _=>exact r
theorem KV.val {kvs:List (κ×V)} {vs:List (κ×Value)} (r:KV kvs vs) (k:κ):gW (gD kvs k) (valueAt vs k):=by
 unfold KV at r
 induction r with
 |nil=>exact True.intro
 | @cons p q ps qs h t ih=>
  obtain⟨h1,h2⟩:=h
  by_cases e:p.1=k
  ·have e':q.1=k:=h1.symm.trans e
   have b:valueAt (q::qs) k=some q.2:=by simp[valueAt,List.find?_cons,e']
   rw[lm e,b];exact h2
  ·have e':¬q.1=k:=fun z=>e (h1.trans z)
   have b:valueAt (q::qs) k=valueAt qs k:=by simp[valueAt,List.find?_cons,e']
   rw[lp e,b];exact ih
theorem KV.any {kvs:List (κ×V)} {vs:List (κ×Value)} (r:KV kvs vs) (k:κ):(kvs.any fun kv=>decide (kv.1=k))=vs.any fun kv=>decide (kv.1=k):=by
 unfold KV at r
 induction r with
 |nil=>rfl
 |cons h t ih=>rw[List.any_cons,List.any_cons,ih,h.1]
theorem KV.repl {kvs:List (κ×V)} {vs:List (κ×Value)} (r:KV kvs vs) (k:κ) {y:V} {u:Value} (ry:bt y u):
  KV (kvs.map fun kv=>if kv.1=k then (kv.1,y)else kv) (vs.map fun kv=>if kv.1=k then (kv.1,u)else kv):=by
 unfold KV at r ⊢
 induction r with
 |nil=>exact .nil
 | @cons p q ps qs h t ih=>
  rw[List.map_cons,List.map_cons]
  refine .cons ?_ ih
  obtain⟨h1,h2⟩:=h
  by_cases e:p.1=k
  ·rw[if_pos e,if_pos (h1.symm.trans e)];exact⟨h1,ry⟩
  ·rw[if_neg e,if_neg (fun z=>e (h1.trans z))];exact⟨h1,h2⟩
theorem KV.put {kvs:List (κ×V)} {vs:List (κ×Value)} (r:KV kvs vs) (k:κ) {y:V} {u:Value} (ry:bt y u):KV (gY kvs k y) (stored vs k u):=by
 unfold gY stored
 rw[r.any k]
 by_cases e:(vs.any fun kv=>decide (kv.1=k))=true
 ·rw[if_pos e,if_pos e];exact r.repl k ry
 ·rw[if_neg e,if_neg e];exact Paired.snoc r ⟨rfl,ry⟩
theorem KV.drop {kvs:List (κ×V)} {vs:List (κ×Value)} (r:KV kvs vs) (k:κ):KV (yG kvs k) (without vs k):=by
 unfold KV at r ⊢
 unfold yG without
 induction r with
 |nil=>exact .nil
 | @cons p q ps qs h t ih=>
  obtain⟨h1,h2⟩:=h
  rw[List.filter_cons,List.filter_cons]
  by_cases e:p.1=k
  ·have a:¬decide (p.1≠k)=true:=by simp[e]
   have b:¬decide (q.1≠k)=true:=by simp[h1.symm.trans e]
   rw[if_neg a,if_neg b];exact ih
  ·have e':¬q.1=k:=fun z=>e (h1.trans z)
   have a:decide (p.1≠k)=true:=by simp[e]
   have b:decide (q.1≠k)=true:=by simp[e']
   rw[if_pos a,if_pos b];exact .cons ⟨h1,h2⟩ ih
theorem KV.keys {kvs:List (κ×V)} {vs:List (κ×Value)} (r:KV kvs vs):kvs.map (·.1)=vs.map (·.1):=by
 unfold KV at r
 induction r with
 |nil=>rfl
 |cons h t ih=>rw[List.map_cons,List.map_cons,ih,h.1]
theorem KV.length {kvs:List (κ×V)} {vs:List (κ×Value)} (r:KV kvs vs):kvs.length=vs.length:=Paired.length r
end
theorem mV {P:Program} {w:World} {k:bn} {u:Value} (r:bt (kV k) u):(bz P w).is k u=true:=by
 cases k with
 |inl i=>obtain⟨t,e⟩:=(show ∃t,u=Value.int i t from r);subst e;exact oH P w i t
 |inr x=>obtain⟨t,e⟩:=(show ∃t,u=Value.str x t from r);subst e;exact oJ P w x t
theorem mW {P:Program} {w:World}:∀{ks:List bn} {us:List Value},aO (ks.map kV) us->ItemsAre (bz P w) ks us
 |[],_,r=>by rw[List.map_nil]at r;cases r;exact .nil
 |k::ks,_,r=>by
  rw[List.map_cons]at r
  cases r with
  |cons h t=>exact .cons (mV h) (mW t)
noncomputable abbrev KT (H:Hp):List (List bn×V)->List (List bn×Addr×Value)->Prop:=Paired fun p q=>p.1=q.1/\H q.2.1=some (.tup (p.1.map kV))/\bt p.2 q.2.2
theorem KT.val {H:Hp} {kvs:List (List bn×V)} {xs:List (List bn×Addr×Value)} (r:KT H kvs xs) (k:List bn):gW (gD kvs k) ((atKey xs k).map (·.2)):=by
 induction r with
 |nil=>exact True.intro
 | @cons p q ps qs h t ih=>
  obtain⟨h1,_,h2⟩:=h
  by_cases e:p.1=k
  ·have e':q.1=k:=h1.symm.trans e
   have b:atKey (q::qs) k=some q.2:=by simp[atKey,List.find?_cons,e']
   rw[lm e,b];exact h2
  ·have e':¬q.1=k:=fun z=>e (h1.trans z)
   have b:atKey (q::qs) k=atKey qs k:=by simp[atKey,List.find?_cons,e']
   rw[lp e,b];exact ih
theorem KT.repl {H:Hp} {kvs:List (List bn×V)} {xs:List (List bn×Addr×Value)} (r:KT H kvs xs) (k:List bn) {y:V} {u:Value} (ry:bt y u):
  KT H (kvs.map fun kv=>if kv.1=k then (kv.1,y)else kv) (xs.map (putAt k u)):=by
 induction r with
 |nil=>exact .nil
 | @cons p q ps qs h t ih=>
  rw[List.map_cons,List.map_cons]
  refine .cons ?_ ih
  obtain⟨h1,h2,h3⟩:=h
  unfold putAt
  by_cases e:p.1=k
  ·rw[if_pos e,if_pos (h1.symm.trans e)];exact⟨h1,h2,ry⟩
  ·rw[if_neg e,if_neg (fun z=>e (h1.trans z))];exact⟨h1,h2,h3⟩
theorem KT.put {H:Hp} {kvs:List (List bn×V)} {xs:List (List bn×Addr×Value)} (r:KT H kvs xs) (k:List bn) {b:Addr} {y:V} {u:Value} (hb:H b=some (.tup (k.map kV))) (ry:bt y u):
  KT H (gY kvs k y) (storedH xs k b u):=by
 have e:(kvs.any fun kv=>decide (kv.1=k))=(atKey xs k).isSome:=by
  rw[oR,(r.val k).isSome_eq,Option.isSome_map]
 unfold gY storedH
 rw[e]
 by_cases q:(atKey xs k).isSome=true
 ·rw[if_pos q,if_pos q];exact r.repl k ry
 ·rw[if_neg q,if_neg q];exact Paired.snoc r ⟨rfl,hb,ry⟩
theorem KT.keeps {H H':Hp} {kvs:List (List bn×V)} {xs:List (List bn×Addr×Value)} (r:KT H kvs xs) (ht:∀b ys,H b=some (.tup ys)->H' b=some (.tup ys)):KT H' kvs xs:=
 Paired.mapP r fun _ _ z=>⟨z.1,ht _ _ z.2.1,z.2.2⟩
section
variable {P:Program} {w:World} {H:Hp} {h:Heap} {a:Addr}
theorem yH {u:HO} (ok:gX P w H h) (e:Rd H a u):bK P w H h a u:=e.ok ok
theorem mX {kvs:List (bn×V)} (ok:gX P w H h) (e:Rd H a (.dK kvs)):kvs.length<=sizeLine/\(a==sysModules)=false/\∃vs,KV kvs vs/\h.DictOf (bz P w) a vs:=
 show bK P w H h a (.dK kvs)from yH ok e
theorem yI {kvs:List (bn×V)} (ok:gX P w H h) (e:H a=some (.dK kvs)):kvs.length<=sizeLine/\(a==sysModules)=false/\∃vs,KV kvs vs/\h.DictOf (bz P w) a vs:=mX ok (.inl e)
theorem lq {ks:List bn} (ok:gX P w H h) (e:H a=some (.tup (ks.map kV))):(tupleKind (bz P w)).is h ks a:=by
 obtain⟨_,its,r,o,h1,h2,n,h3,_⟩:=(show bK P w H h a (.tup (ks.map kV))from ok a _ e)
 exact⟨o,its.toArray,n,h1,h2,h3,by simpa using mW r⟩
theorem oS {kvs:List (List bn×V)} (ok:gX P w H h) (e:Rd H a (.dT kvs)):kvs.length<=sizeLine/\(a==sysModules)=false/\
  ∃xs,KT H kvs xs/\h.DictOfH (tupleKind (bz P w)) a xs:=by
 obtain⟨z,y,xs,r,o,es,ep,h1,h2,h3,h4,h5⟩:=(show bK P w H h a (.dT kvs)from yH ok e)
 refine⟨z,y,xs,r,o,es,ep,h1,h2,h3,h4,fun x hx=> ?_,h5⟩
 have all:∀{l:List (List bn×V)} {m:List (List bn×Addr×Value)},KT H l m->∀x∈m,(tupleKind (bz P w)).is h x.1 x.2.1:=by
  intro l m q
  induction q with
  |nil=>intro x hx;exact nomatch hx
  | @cons p q ps qs hq t ih=>
   intro x hx
   rcases List.mem_cons.mp hx with e|hx
   ·subst e
    exact lq ok (by rw[<-hq.1];exact hq.2.1)
   ·exact ih x hx
 exact all r x hx
theorem BL {kvs:List (List bn×V)} (ok:gX P w H h) (e:H a=some (.dT kvs)):kvs.length<=sizeLine/\(a==sysModules)=false/\
  ∃xs,KT H kvs xs/\h.DictOfH (tupleKind (bz P w)) a xs:=oS ok (.inl e)
end
noncomputable def jg (H:Hp) (a:Addr) (y:V) (r:Option V):Prop:=
 (∃kvs k,Rd H a (.dK kvs)/\y=kV k/\r=gD kvs k)\/∃kvs k b,Rd H a (.dT kvs)/\y= .ref b/\H b=some (.tup (k.map kV))/\r=gD kvs k
noncomputable def qt (H:Hp) (a:Addr) (y v:V) (H':Hp):Prop:=
 (∃kvs k,H a=some (.dK kvs)/\y=kV k/\kvs.length<sizeLine/\H'=br H a (.dK (gY kvs k v)))\/
 ∃kvs k b,H a=some (.dT kvs)/\y= .ref b/\H b=some (.tup (k.map kV))/\kvs.length<sizeLine/\H'=br H a (.dT (gY kvs k v))
theorem jg.k {H:Hp} {a:Addr} {kvs:List (bn×V)} {k:bn} (e:H a=some (.dK kvs)):jg H a (kV k) (gD kvs k):= .inl ⟨kvs,k, .inl e,rfl,rfl⟩
theorem jg.t {H:Hp} {a b:Addr} {kvs:List (List bn×V)} {k:List bn} (e:H a=some (.dT kvs)) (eb:H b=some (.tup (k.map kV))):jg H a (.ref b) (gD kvs k):= .inr ⟨kvs,k,b, .inl e,rfl,eb,rfl⟩
theorem qt.k {H:Hp} {a:Addr} {kvs:List (bn×V)} {k:bn} {v:V} (e:H a=some (.dK kvs)) (hl:kvs.length<sizeLine):qt H a (kV k) v (br H a (.dK (gY kvs k v))):= .inl ⟨kvs,k,e,rfl,hl,rfl⟩
theorem qt.t {H:Hp} {a b:Addr} {kvs:List (List bn×V)} {k:List bn} {v:V} (e:H a=some (.dT kvs)) (eb:H b=some (.tup (k.map kV))) (hl:kvs.length<sizeLine):
  qt H a (.ref b) v (br H a (.dT (gY kvs k v))):= .inr ⟨kvs,k,b,e,rfl,eb,hl,rfl⟩
section
variable {X:Cx} {pins:List (Addr×Obj)} {σ:St} {H:Hp} {s:Shared} {a:Addr} {y v:V} {u r:Value} {o:Option V} {A:Around} {E:Value->Shared->Prop}
theorem aC.big (I:aC X pins σ H s):sysModules<s.heap.objs.size:=by
 have h:mainGlobals<s.heap.objs.size:=(I.mod.glob.keeps I.bk).lt
 exact Nat.lt_trans (by decide) h
theorem sQ {Q:Value->Shared->Prop} (hu:A.units+1<cLine) (I:aC X pins σ H s) (g:jg H a y (some v)) (ry:bt y u) (h:∀w' s',aC X pins σ H s'->bt v w'->Q w' s'):
  wpAny (model X.prog X.w) A (getItem (.ref a) u) Q E s:=by
 rcases g with ⟨kvs,k,e,ey,l⟩|⟨kvs,k,b,e,ey,eb,l⟩
 ·subst ey
  obtain⟨z,hd,vs,rel,dd⟩:=mX I.hok e
  obtain⟨w',hw,rw'⟩:=gW.some_of (v:=v) (o:=valueAt vs k) (by rw[l];exact rel.val k)
  exact wpAny_getItem_of (mV ry) dd.mapOf hw (h w' _ (I.tok _) rw')
 ·subst ey
  cases (show u=Value.ref b from ry)
  obtain⟨z,hd,xs,rel,dd⟩:=oS I.hok e
  obtain⟨w',hw,rw'⟩:=gW.some_of (v:=v) (o:=(atKey xs k).map (·.2)) (by rw[l];exact rel.val k)
  obtain⟨p,hp,hp2⟩:=Option.map_eq_some_iff.mp hw
  refine wpAny_getItem_heap (tupleKind_room_in1 hu) (lq I.hok eb) dd hp ?_
  rw[hp2]
  exact h w' _ (I.tok _) rw'
theorem Ds {Q:Value->Shared->Prop} (hu:A.units+1<cLine) (I:aC X pins σ H s) (g:jg H a y o) (ry:bt y u) (h:∀s',aC X pins σ H s'->Q (.bool o.isSome) s'):
  wpAny (model X.prog X.w) A (compareOp .In u (.ref a)) Q E s:=by
 rcases g with ⟨kvs,k,e,ey,l⟩|⟨kvs,k,b,e,ey,eb,l⟩
 ·subst ey
  obtain⟨z,hd,vs,rel,dd⟩:=mX I.hok e
  refine wpAny_in_of (mV ry) hd dd.mapOf ?_
  rw[<-(rel.val k).isSome_eq,<-l]
  exact h _ (I.tok _)
 ·subst ey
  cases (show u=Value.ref b from ry)
  obtain⟨z,hd,xs,rel,dd⟩:=oS I.hok e
  refine wpAny_in_heap (tupleKind_room_in1 hu) (lq I.hok eb) hd dd ?_
  have q:=(rel.val k).isSome_eq
  rw[Option.isSome_map]at q
  rw[<-q,<-l]
  exact h _ (I.tok _)
theorem xl {Q:Value->Shared->Prop} (hu:A.units+1<cLine) (I:aC X pins σ H s) (g:jg H a y o) (ry:bt y u) (h:∀s',aC X pins σ H s'->Q (.bool (!o.isSome)) s'):
  wpAny (model X.prog X.w) A (compareOp .NotIn u (.ref a)) Q E s:=by
 rcases g with ⟨kvs,k,e,ey,l⟩|⟨kvs,k,b,e,ey,eb,l⟩
 ·subst ey
  obtain⟨z,hd,vs,rel,dd⟩:=mX I.hok e
  refine wpAny_notIn_of (mV ry) hd dd.mapOf ?_
  rw[<-(rel.val k).isSome_eq,<-l]
  exact h _ (I.tok _)
 ·subst ey
  cases (show u=Value.ref b from ry)
  obtain⟨z,hd,xs,rel,dd⟩:=oS I.hok e
  refine wpAny_notIn_heap (tupleKind_room_in1 hu) (lq I.hok eb) hd dd ?_
  have q:=(rel.val k).isSome_eq
  rw[Option.isSome_map]at q
  rw[<-q,<-l]
  exact h _ (I.tok _)
theorem rT {h':Heap} {t':Nat} {ob:HO} (I:aC X pins σ H s) (mu:Bi (H a)) (hs:Heap.SameBut a s.heap h') (he:∃q,h'.get? a=some q) (new:bK X.prog X.w (br H a ob) h' a ob):
  aC X pins σ (br H a ob) {s with heap:=h',toks:=t'}:=
 I.write (x:=a) (e:=a) mu (.inl rfl) (fun b q hb z=>(hs.2 b hb).trans z) he new
theorem uJ {P:Program} {w:World} {H':Hp} {h':Heap} {kvs:List (bn×V)} {vs:List (bn×Value)} (z:kvs.length<=sizeLine) (hd:(a==sysModules)=false) (rel:KV kvs vs) (dd:h'.DictOf (bz P w) a vs):
  bK P w H' h' a (.dK kvs):=⟨z,hd,vs,rel,dd⟩
theorem sR {H':Hp} {Q:Unit->Shared->Prop} (hu:A.units+1<cLine) (I:aC X pins σ H s) (g:qt H a y v H') (ry:bt y u) (rv:bt v r) (h:∀s',aC X pins σ H' s'->Q () s'):
  wpAny (model X.prog X.w) A (setItem (.ref a) u r) Q E s:=by
 rcases g with ⟨kvs,k,e,ey,l,eH⟩|⟨kvs,k,b,e,ey,eb,l,eH⟩
 ·subst ey eH
  obtain⟨z,hd,vs,rel,dd⟩:=yI I.hok e
  have hz:vs.length<=sizeLine:=by rw[<-rel.length];exact z
  have hl:(gY kvs k v).length<=sizeLine:=by have:=kr kvs k v;omega
  refine wpAny_setItem_pairs (hsz:=hz) (mV ry) dd fun h' dd' hs=>h _ ?_
  have he:∃q,h'.get? a=some q:=let ⟨q,_,_,hq,_⟩:=dd';⟨q,hq⟩
  exact rT I (by rw[e];exact True.intro) hs he (uJ hl hd (rel.put k rv) dd')
 ·subst ey eH
  cases (show u=Value.ref b from ry)
  obtain⟨z,hd,xs,rel,dd⟩:=BL I.hok e
  have hz:xs.length<=sizeLine:=by rw[<-Paired.length rel];exact z
  have hl:(gY kvs k v).length<=sizeLine:=by have:=kr kvs k v;omega
  refine wpAny_setItem_heap (hsz:=hz) (tupleKind_room_in1 hu) (lq I.hok eb) dd fun h' dd' hs=>h _ ?_
  obtain⟨q,es,ep,hq,h2,h3,h4,_,h5⟩:=dd'
  refine rT I (by rw[e];exact True.intro) hs ⟨q,hq⟩ ⟨hl,hd,_,(rel.put k eb rv).keeps fun c ys ec=> ?_,q,es,ep,hq,h2,h3,h4,h5⟩
  rw[aw (rF ec e (fun z=>nomatch z))]
  exact ec
end
section
variable {X:Cx} {pins:List (Addr×Obj)} {σ:St} {H:Hp} {s:Shared} {a:Addr} {kvs:List (bn×V)} {k:bn} {u:Value} {A:Around} {E:Value->Shared->Prop}
theorem BM {Q:Value->Shared->Prop} (I:aC X pins σ H s) (e:Rd H a (.dK kvs)) (h:∀t s',aC X pins σ H s'->Q (.int kvs.length t) s'):wpAny (model X.prog X.w) A (call (.builtin "len") [.ref a]) Q E s:=by
 obtain⟨z,hd,vs,rel,dd⟩:=mX I.hok e
 refine call_len_dict hd dd (by rw[<-rel.length];rw[sizeLine_eq]at z;omega) ?_
 rw[<-rel.length]
 exact h _ _ (I.tok _)
end
noncomputable def BO (i:Expr):Prop:=∀ov iv,subscripted i false ov iv=operate [ov,iv] (getItem ov iv)
theorem xm {prog:Program} {w:World} {A:Around} {E:Value->Shared->Prop} {s:Shared} {env:Env} {value slice:Expr} {pos:Pos} {T id:String} {Q:Value->Shared->Prop}
  (hl:typeLookup (.type T) "__getitem__"=pure (some (.builtin id))) (hs:BO slice)
  (h:wpAny (model prog w) A (eval value env) (fun o s₁=>wpAny (model prog w) A (eval slice env) (fun i s₂=>s₂.TypeIs o T/\wpAny (model prog w) A (getItem o i) Q E s₂) E s₁) E s):
  wpAny (model prog w) A (eval (.Subscript value slice pos) env) Q E s:=by
 refine Subscript_ (wpAny_mono h (fun o s₁ h₁=>wpAny_mono h₁ (fun i s₂ h₂=> ?_) fun _ _ x=>x) fun _ _ x=>x)
 obtain⟨hT,h₂⟩:=h₂
 unfold subscriptTail
 refine wpAny_bind ?_
 rw[getitemInPython_of_ne hT.not_modules]
 refine wpAny_bind (wpAny_specialOf hT hl ?_)
 have fin:wpAny (model prog w) A (subscripted slice false o i) (fun r s₃=>wpAny (model prog w) A (letTemporaryGo value o r>>=fun _=>pure r) Q E s₃) E s₂:=by
  rw[hs o i]
  exact wpAny_operating (wpAny_mono h₂ (fun r s₃ h₃=>wpAny_bind (wpAny_letTemporaryGo (wpAny_pure h₃))) fun _ _ x=>x)
 first
  |exact wpAny_pure (wpAny_bind fin)
  |exact wpAny_bind (wpAny_pure (wpAny_bind fin))
  |exact wpAny_bind fin
theorem oU {X:Cx} {pins:List (Addr×Obj)} {σ:St} {H:Hp} {s:Shared} {a:Addr} {y:V} {o:Option V} (I:aC X pins σ H s) (g:jg H a y o):s.TypeIs (.ref a) "dict":=by
 rcases g with ⟨kvs,k,e,_,_⟩|⟨kvs,k,b,e,_,_,_⟩
 ·obtain⟨_,_,vs,_,dd⟩:=mX I.hok e
  exact dd.typeIs
 ·obtain⟨_,_,xs,_,dd⟩:=oS I.hok e
  exact dd.typeIs
noncomputable def BP (td ty:TE):TE:=fun σ H Q=>td σ H fun x H1=>ty σ H1 fun y H2=>∃a v,x= .ref a/\jg H2 a y (some v)/\Q v H2
noncomputable def zY (ty td:TE):TE:=fun σ H Q=>ty σ H fun y H1=>td σ H1 fun x H2=>∃a o,x= .ref a/\jg H2 a y o/\Q (.bl o.isSome) H2
noncomputable def nO (ty td:TE):TE:=fun σ H Q=>ty σ H fun y H1=>td σ H1 fun x H2=>∃a o,x= .ref a/\jg H2 a y o/\Q (.bl (!o.isSome)) H2
noncomputable def BQ (td ty tv:TE):TS:=fun D σ H=>tv σ H fun v H1=>td σ H1 fun x H2=>ty σ H2 fun y H3=>∃a H4,x= .ref a/\qt H3 a y v H4/\D.nx σ H4
section
variable {X:Cx} {o i e value:Expr} {pos pos' tpos:Pos} {td ty tv:TE}
theorem xn (hu:X.A.units+1<cLine) (ho:PE X o td) (hi:PE X i ty) (hs:BO i):PE X (.Subscript o i pos) (BP td ty):=by
 intro pins s σ H Q I h
 refine xm PySem.F.slot_dict_getitem.lookup hs (cb (ho pins s σ H _ I h) fun u s1 ⟨x,H1,I1,rx,q1⟩=>cb (hi pins s1 σ H1 _ I1 q1) fun iv s2 z_=> ?_)
 obtain⟨y,H2,I2,ry,a,v,ex,g,q2⟩:=z_
 subst ex
 obtain rfl:u=Value.ref a:=rx
 exact⟨oU I2 g,sQ hu I2 g ry fun w' s3 I3 rw'=>⟨v,H2,I3,rw',q2⟩⟩
theorem uK (hu:X.A.units+1<cLine) (hi:PE X i ty) (ho:PE X o td):PC X .In i o (zY ty td):=by
 intro pins s σ H Q I h
 refine cb (hi pins s σ H _ I h) fun iv s1 ⟨y,H1,I1,ry,q1⟩=>cb (ho pins s1 σ H1 _ I1 q1) fun u s2 z_=> ?_
 obtain⟨x,H2,I2,rx,a,ov,ex,g,q2⟩:=z_
 subst ex
 obtain rfl:u=Value.ref a:=rx
 exact Ds hu I2 g ry fun s3 I3=>⟨.bl ov.isSome,H2,I3,rfl,q2⟩
theorem sS (hu:X.A.units+1<cLine) (hi:PE X i ty) (ho:PE X o td):PC X .NotIn i o (nO ty td):=by
 intro pins s σ H Q I h
 refine cb (hi pins s σ H _ I h) fun iv s1 ⟨y,H1,I1,ry,q1⟩=>cb (ho pins s1 σ H1 _ I1 q1) fun u s2 z_=> ?_
 obtain⟨x,H2,I2,rx,a,ov,ex,g,q2⟩:=z_
 subst ex
 obtain rfl:u=Value.ref a:=rx
 exact xl hu I2 g ry fun s3 I3=>⟨.bl (!ov.isSome),H2,I3,rfl,q2⟩
theorem xo (hu:X.A.units+1<cLine) (ho:PE X o td) (hi:PE X i ty) (hv:PE X value tv) (hs:swapsWith value (some (.Subscript o i pos')) pos.line X.env=pure false):
  PS X (.Assign [.Subscript o i pos'] value pos) (BQ td ty tv):=by
 intro pins s σ H D I h
 refine wpAny_Assign_Subscript (cb (hv pins s σ H _ I h) fun r s1 ⟨v,H1,I1,rv,q1⟩=>cb (ho pins s1 σ H1 _ I1 q1) fun u s2 ⟨x,H2,I2,rx,q2⟩=>cb (hi pins s2 σ H2 _ I2 q2) fun iv s3 z_=> ?_) hs
 obtain⟨y,H3,I3,ry,a,H4,ex,g,q3⟩:=z_
 subst ex
 obtain rfl:u=Value.ref a:=rx
 exact sR hu I3 g ry rv fun s4 I4=>⟨σ,H4,I4,q3⟩
end
section
variable {X:Cx} {pos:Pos}
end
noncomputable def gE (kvs more:List (bn×V)):List (bn×V):=more.foldl (fun acc kv=>gY acc kv.1 kv.2) kvs
theorem KV.merge:∀{more:List (bn×V)} {rs:List (bn×Value)} {kvs:List (bn×V)} {vs:List (bn×Value)},KV more rs->KV kvs vs->KV (gE kvs more) (merged vs rs):=by
 intro more rs kvs vs r
 unfold KV at r
 induction r generalizing kvs vs with
 |nil=>intro q;exact q
 | @cons p q ps qs h t ih=>
  intro r0
  have e:KV (gY kvs p.1 p.2) (stored vs q.1 q.2):=by
   have:=r0.put p.1 h.2
   rw[<-h.1];exact this
  exact ih e
section
variable {X:Cx} {pins:List (Addr×Obj)} {σ:St} {H:Hp} {s:Shared} {a:Addr} {y d:V} {u r:Value} {o:Option V} {A:Around} {E:Value->Shared->Prop}
end
section
variable {X:Cx} {o e f:Expr} {apos cpos:Pos} {td ty tx:TE}
end
section
variable {X:Cx} {pins:List (Addr×Obj)} {σ:St} {H:Hp} {s:Shared} {a:Addr} {kvs:List (bn×V)} {A:Around} {E:Value->Shared->Prop}
end
section
variable {X:Cx} {pins:List (Addr×Obj)} {σ:St} {H:Hp} {s:Shared} {a:Addr} {y:V} {u:Value} {A:Around} {E:Value->Shared->Prop}
end
end L2
namespace Att
open PySem PySem.W PySem.Calls PyProof.Rows
theorem kK {P:Params} {h:Heap}:∀(ns:List Int) (vs:List Value),WellAll P h vs (ns.map WData.int)->IntsAre vs ns:=by
 intro ns
 induction ns with
 |nil=>
  intro vs w
  rw[List.map_nil]at w
  cases w
  exact .nil
 |cons n ns ih=>
  intro vs w
  rw[List.map_cons]at w
  cases w with
  |cons a b=>
   cases a
   exact .cons _ _ (ih _ b)
theorem sT {l:OpenLaw} {n:Nat} (hn:l.most=some n) {P:Params} {h:Heap} {args:List WData} {vals:List Value}
  (hpre:l.row.toRowW.claim.pre args=true) (hwl:WellAll P h vals args):
  ∃a vs ns,vals=[Value.ref a]/\args=[WData.list (ns.map WData.int)]/\h.get? a=some {cls:= .type "list",data:= .seq vs.toArray}/\IntsAre vs ns/\ns.length<=n:=by
 have hsh:WShape.hasAll [] args [.list .int]=true:=(pre_splitW hpre).1
 have hc:l.pre.holds [] {args:=args}=true:=(pre_splitW hpre).2
 obtain⟨d,r,rfl,h1,h2⟩:=hasAllW_cons hsh
 obtain rfl:=hasAllW_nil h2
 obtain⟨xs,rfl,h3⟩:=hasW_list h1
 obtain⟨ns,rfl⟩:=items_int h3
 have hlen:ns.length<=n:=by
  unfold OpenLaw.pre at hc
  have h4:(WTm.not (.lt (.lit (.int (n:Int))) (.len (.arg 0)))).holds [] {args:=[.list (ns.map .int)]}=true:=by
   have h4:=(holds_andW hc).1
   rw[hn]at h4
   exact h4
  have h5:=condW_of h4 (w_not (w_lt w_lit (w_len_list (w_arg rfl))))
  rw[List.length_map]at h5
  refine Nat.le_of_not_lt fun q=> ?_
  have q':(n:Int)<((ns.length:Nat):Int):=by omega
  first
   |(rw[decide_eq_true q']at h5;exact absurd h5 (by decide))
   |(simp at h5;omega)
 cases hwl with
 |cons w1 w2=>
  cases w2
  cases w1 with
  |list ho hall=>exact⟨_,_,ns,rfl,rfl,ho,kK ns _ hall,hlen⟩
theorem sU (l:OpenLaw) (args:List WData):l.row.toRowW.claim.post args (.bool true) args=true:=
 postW_of (r:=l.row.toRowW) (X:=(true==true))
  (show WShape.has [] (.bool true) .bool=true by first|rfl|decide|simp[WShape.has,WShape.arms,WShape.armsAll])
  (show (WTm.eq .res (.lit (.bool true))).value [] {args:=args,res:=some (.bool true),after:=args}=some (.bool (true==true))from w_eq_bool (w_res rfl) w_lit) rfl
theorem attach_call {l:OpenLaw} {n:Nat} {q:Program} {loose:List Str} {XP:(Str->Option Value)->Heap->Prop} {YP:World->Heap->Prop} {d:DefRec}
  (hn:l.most=some n) (hdf:d.params.defaults=[])
  (call:∀(w:World) (s₀ s₁:Shared) (mg mb:Str->Option Value) (fa:Addr) (o:Obj) (pm cd doc:Value) (a:Addr) (vs:List Value) (ns:List Int),
   Ground q loose [] XP w s₀ mg mb s₁.heap->YP w s₁.heap->
   s₁.heap.get? fa=some o->o.data= .func (docDef d.name d.params d.body d.scope pm cd doc)->s₁.heap.CodeRec cd d.name->mg d.name=some (.ref fa)->
   s₁.heap.get? a=some {cls:= .type "list",data:= .seq vs.toArray}->IntsAre vs ns->ns.length<=n->s₁.gens= #[]->
   codeAny (model l.prog w) callerA (.call (.ref fa) ⟨[.ref a],[]⟩) (fun r s'=>r= .ok (.ret (.bool true))/\OldK s₁.heap s'.heap/\s'.os=s₁.os/\AllBare s'.gens) s₁):
  WalkO q loose XP YP l.row.toRowW d [] (fun f vs=>PySem.call f vs):=by
 intro w s₀ s₁ mg mb G Y fa o pm cd doc dV kV ho hd hcd hD hmg hg args vals as hpre hlay hrd hwl hlo
 obtain rfl:dV= .none:=Dflts.none hD hdf
 obtain rfl:kV= .none:=Dflts.noKw hD
 obtain⟨a,vs,ns,rfl,rfl,hobj,hints,hlen⟩:=sT hn hpre hwl
 refine enter_call (codeAny_mono (call w s₀ s₁ mg mb fa o pm cd doc a vs ns G Y ho (fd_plain hd) hcd hmg hobj hints hlen hg) fun r s' hq=> ?_)
 obtain⟨rfl,h2,h3,h4⟩:=hq
 exact⟨.inl ⟨.bool true, .bool true,[],rfl,fun _=>rfl, .bool true,sU l _,fun _=>⟨List.Pairwise.nil,fun _ hm=>(nomatch hm)⟩⟩,h2,h3,h4⟩
section
variable {prog:Program} {w:World} {A:Around} {E:Value->Shared->Prop} {s:Shared} {K:Frag}
end
end Att
namespace L2
open PySem PySem.Spec PyProof.Rows
theorem iz:∀{vs:List Value} {ns:List Int},IntsAre vs ns->aO (ns.map V.int) vs
 |_,_, .nil=> .nil
 |_,_, .cons n t h=> .cons ⟨t,rfl⟩ (iz h)
noncomputable def zZ (H:Hp):Prop:=∀b,H b=none\/∃o xs,H b=some (.frz o (.lst xs))
theorem uL {P:Program} {w:World} {K:PySem.W.Frag} {mg mb:Str->Option Value} {CX:ql} {k:Nat} {fa a:Addr} {fd:FuncData} {x:Str} {sp:Sp} {s₁:Shared} {vs:List Value} {ns:List Int}
  (KX:K.In s₁.heap) (hns:s₁.heap.Ns mainGlobals mg) (hb:s₁.heap.Ns builtinsNs mb) (hbb:∀x:Str,x≠"__name__"->mb x=bootBuiltins x) (hlim:s₁.heap.NoLimit) (hg:s₁.gens= #[])
  (ha:s₁.heap.get? a=some {cls:= .type "list",data:= .seq vs.toArray}) (hi:IntsAre vs ns) (hl:ns.length<=sizeLine) (hr:dh k callerA)
  (F:∀base:Heap,K.In base->base.Ns mainGlobals mg->eP P w K mg base CX k fa fd [x] sp) (hbind:∀(s:Shared) (u:Value),BindsTo s fd ⟨[u],[]⟩ [(x,u)])
  (hsp:∀H:Hp,zZ H->cT K H a (ns.map V.int)->sp [.ref a] H (fun v _=>v= .bl true) fun _ _ _=>False)
  (hCX:∀H e s',CX [] H s₁ (fun _ _ _=>False) e s'->False):
  codeAny (model P w) callerA (.call (.ref fa) ⟨[.ref a],[]⟩) (fun r s'=>r= .ok (.ret (.bool true))/\OldK s₁.heap s'.heap/\s'.os=s₁.os/\AllBare s'.gens) s₁:=by
 have rv:=iz hi
 have lenV:=hi.length
 have core:∀H:Hp,zZ H->cT K H a (ns.map V.int)->gX P w H s₁.heap->(∀b,H b≠none->b=a)->(H a≠none->K.lookup a=none)->
   codeAny (model P w) callerA (.call (.ref fa) ⟨[.ref a],[]⟩) (fun r s'=>r= .ok (.ret (.bool true))/\OldK s₁.heap s'.heap/\s'.os=s₁.os/\AllBare s'.gens) s₁:=by
  intro H hO hS hok hA hK
  have base_of:∀{b:Addr} {o:Obj},s₁.heap.get? b=some o->H b=none->(nF s₁.heap H).get? b=some o:=fun e n=>ug e n
  have noA:∀{b:Addr} {o:Obj} {es:Array DictEntry} {ep:Nat},s₁.heap.get? b=some o->o.data= .dict es ep->H b=none:=fun {b o es ep} e d=>by
   cases q:H b with
   |none=>rfl
   |some u=>
    have e':b=a:=hA b (by rw[q];simp)
    subst e'
    rw[ha]at e;cases e
    have d':Data.seq vs.toArray _=Data.dict es ep:=d
    cases d'
  have nsK:∀{b:Addr} {m:Str->Option Value},s₁.heap.Ns b m->(nF s₁.heap H).Ns b m:=fun {b m} ⟨o,es,ep,e,d,r⟩=>⟨o,es,ep,base_of e (noA e d),d,r⟩
  have hKb:K.In (nF s₁.heap H):=fun b o e=>base_of (KX b o e) (by
   cases q:H b with
   |none=>rfl
   |some u=>
    have e':b=a:=hA b (by rw[q];simp)
    subst e'
    rw[hK (by rw[q];simp)]at e;cases e)
  have hM:Mod K mg (nF s₁.heap H):=⟨hKb,nsK hns,⟨mb,nsK hb,hbb⟩,let ⟨mc,h1,h2⟩:=hlim;⟨mc,nsK h1,h2⟩⟩
  have e0:qm P w K mg (nF s₁.heap H) callerA [] s₁ H:=⟨rfl,hM,fun b o e=>wG e,Nat.le_of_eq (sD _ _),trivial,fun b hb=>absurd (show b∈([]:List Addr)from hb) (by simp),hok, .of_eq hg⟩
  refine codeAny_mono ((F _ hKb (nsK hns)).run callerA [] s₁ H ⟨[.ref a],[]⟩ [.ref a] [.ref a] _ _ hr e0 (hbind s₁ (.ref a)) (.cons rfl .nil) (hsp H hO hS)) fun r s' h=> ?_
  cases r with
  |error e=>exact(hCX H e s' h).elim
  |ok fl=>
   cases fl with
   |next=>exact False.elim h
   |brk=>exact False.elim h
   |cont=>exact False.elim h
   |ret u=>
    obtain⟨v,H',os,bare,un,hok',r',q⟩:=h
    have q':v= .bl true:=q
    subst q'
    obtain rfl:u=Value.bool true:=r'
    refine⟨rfl,OldK.of_keep fun b o e=> ?_,os,bare⟩
    cases q:H b with
    |none=>exact un.keep b o e q (by intro z;exact absurd (show b∈([]:List Addr)from z) (by simp)) (by simp)
    |some u=>
     rcases hO b with z|⟨ob,xs,z⟩
     ·rw[q]at z;cases z
     ·have z2:=un.frzs b ob _ z
      obtain⟨e1,_⟩:=hok b _ z
      obtain⟨e2,_⟩:=hok' b _ z2
      rw[e]at e1;cases e1
      exact e2
 cases hk:K.lookup a with
 |some o=>
  have e:=KX a o hk
  rw[ha]at e
  cases e
  refine core (fun _=>none) (fun _=> .inl rfl) (.inr ⟨_,vs.toArray,_,hk,rfl,rfl,rfl,by rw[List.size_toArray,lenV];exact hl,by simpa using rv⟩) (fun b u z=>by have z':(none:Option HO)=some u:=z;cases z') (fun b z=>absurd rfl z) fun z=>absurd rfl z
 |none=>
  refine core (fun b=>if b=a then some (.frz {cls:= .type "list",data:= .seq vs.toArray} (.lst (ns.map V.int)))else none) (fun b=> ?_) (.inl (.inr ⟨{cls:= .type "list",data:= .seq vs.toArray},if_pos rfl⟩)) (fun b u z=> ?_) (fun b z=> ?_) fun _=>hk
  ·by_cases hb:b=a
   ·exact .inr ⟨_,_,if_pos hb⟩
   ·exact .inl (if_neg hb)
  ·by_cases hb:b=a
   ·have z':=(if_pos hb).symm.trans z
    cases z'
    subst hb
    exact⟨ha,by rw[List.length_map];exact hl,vs,_,rv,ha⟩
   ·have z':=(if_neg hb).symm.trans z
    cases z'
  ·by_cases hb:b=a
   ·exact hb
   ·exact absurd (if_neg hb) z
end L2
namespace L2
open PySem PySem.Spec PyProof.Rows
theorem xp {l:PySem.W.OpenLaw} {n k:Nat} {q:Program} {loose:List Str} {XP:(Str->Option Value)->Heap->Prop} {YP:World->Heap->Prop} {d:DefRec} {K:Params->PySem.W.Frag} {CX:World->ql} {sp:World->Sp} {x:Str}
  (hn:l.most=some n) (hn2:n<=sizeLine) (hdf:d.params.defaults=[]) (hr:dh k callerA)
  (hY:∀(w:World) (h:Heap),YP w h->(K w.params).In h)
  (F:∀(w:World) (mg:Str->Option Value) (fa:Addr) (h:Heap),(K w.params).In h->h.Ns mainGlobals mg->mg d.name=some (.ref fa)->
   ∃fd:FuncData,(∀(s:Shared) (u:Value),BindsTo s fd ⟨[u],[]⟩ [(x,u)])/\
    ∀base:Heap,(K w.params).In base->base.Ns mainGlobals mg->eP l.prog w (K w.params) mg base (CX w) k fa fd [x] (sp w))
  (hsp:∀(w:World) (H:Hp) (a:Addr) (ns:List Int),ns.length<=n->zZ H->cT (K w.params) H a (ns.map V.int)->sp w [.ref a] H (fun v _=>v= .bl true) fun _ _ _=>False)
  (hCX:∀(w:World) (H:Hp) (s:Shared) (e:Value) (s':Shared),CX w [] H s (fun _ _ _=>False) e s'->False):
  PySem.W.WalkO q loose XP YP l.row.toRowW d [] (fun f vs=>PySem.call f vs):=by
 refine Att.attach_call hn hdf fun w s₀ s₁ mg mb fa o pm cd doc a vs ns G Y ho hd hcd hmg hobj hints hlen hg=> ?_
 have KX:=hY w _ Y
 obtain⟨fd,hb,hF⟩:=F w mg fa _ KX G.T.g hmg
 exact uL KX G.T.g G.T.b G.T.builtins G.T.nolimit hg hobj hints (Nat.le_trans hlen hn2) hr hF hb (fun H hO hS=>hsp w H a ns hlen hO hS) fun H e s'=>hCX w H s₁ e s'
end L2
namespace L2
open PySem PySem.Spec PyProof.Rows
noncomputable def kU (s:Stmt) (j:Nat):Stmt:=match s with
 | .ClassDef _ _ _ body _ _ _ _ _ _ _=>body.getD j (.Pass ⟨0,0,0,0⟩)
 |_=> .Pass ⟨0,0,0,0⟩
noncomputable def bi (s:Stmt):Arguments:=match s with
 | .FunctionDef _ a _ _ _ _ _ _ _ _=>a
 |_=>{posonlyargs:=[],args:=[],vararg:=none,kwonlyargs:=[],kw_defaults:=[],kwarg:=none,defaults:=[]}
noncomputable def aR (s:Stmt):List Stmt:=match s with
 | .FunctionDef _ _ b _ _ _ _ _ _ _=>b
 |_=>[]
noncomputable def ak (s:Stmt):Scope:=match s with
 | .FunctionDef _ _ _ _ _ _ sc _ _ _=>sc
 |_=>{kind:= .function,names:=[],isGenerator:=false,isCoroutine:=false}
noncomputable abbrev DO:ql:=fun _ _ _ _ _ _=>False
noncomputable abbrev E0:XK:=fun _ _ _=>False
structure uf (K:PySem.W.Frag) (x qual:Str) (st:Stmt) (f:Addr) (fd:FuncData):Prop where
 ex:∃(oc:Value) (od:Option Addr) (kV doc pm:Value) (an:Option Addr) (cdv ct:Value) (osl:Array (Option Value)),
  fd=PySem.W.fnOf x qual (bi st) (aR st) (ak st) .none kV doc pm an cdv ct/\K.lookup f=some ⟨oc,od, .func fd,osl⟩/\PySem.W.codeIn K cdv qual=true
 kp:PySem.W.keepIn K (.ref f)=true
section
variable {P:Program} {w:World} {K:PySem.W.Frag} {mg:Str->Option Value} {base:Heap}
theorem uf.ok {x qual:Str} {st:Stmt} {f:Addr} {fd:FuncData} {N ps:List Str} {k:Nat} {sp:Sp} (F:uf K x qual st f fd) (S:aW N ps (ak st)) (len:∀vs H Q E,sp vs H Q E->vs.length=ps.length)
  (hbody:∀(cdv:Value) (A:Around) (outer:List Env) (s:Shared) (H:Hp) (vs:List V) (Q:VK) (E:XK),dh k (A.deeper (envOfC qual (ak st) s.heap.objs.size f cdv))->sp vs H Q E->
   ∃t,mL (hG DO P w K mg base N qual (ak st) f cdv A outer s H E).nox (aR st) t/\t {nx:=fun _ H'=>Q .non H',rt:=Q} (eD N vs) H):eP P w K mg base DO (k+1) f fd ps sp:=by
 obtain⟨oc,od,kV,doc,pm,an,cdv,ct,osl,rfl,lk,hcd⟩:=F.ex
 refine yD lk hcd S len fun A outer s H vs Q E hr hsp=> ?_
 obtain⟨t,h,q⟩:=hbody cdv A outer s H vs Q E hr hsp
 exact⟨t,h.nox,q⟩
theorem uf.binds {x qual:Str} {st:Stmt} {f:Addr} {fd:FuncData} {ps:List Str} (F:uf K x qual st f fd)
  (h:∀(kV doc pm:Value) (an:Option Addr) (cdv ct:Value) (us:List Value),us.length=ps.length->bindArgs (PySem.W.fnOf x qual (bi st) (aR st) (ak st) .none kV doc pm an cdv ct) ⟨us,[]⟩=pure (ps.zip us)):fq K fd ps []:=by
 obtain⟨oc,od,kV,doc,pm,an,cdv,ct,osl,rfl,lk,hcd⟩:=F.ex
 exact .all (h kV doc pm an cdv ct)
theorem cc {x qual:Str} {st:Stmt} {f:Addr} {oc:Value} {od an:Option Addr} {osl:Array (Option Value)} {kV doc pm cdv ct:Value} (l:K.lookup f=some ⟨oc,od, .func (PySem.W.fnOf x qual (bi st) (aR st) (ak st) .none kV doc pm an cdv ct),osl⟩)
  (c:PySem.W.codeIn K cdv qual=true) (k:PySem.W.keepIn K (.ref f)=true):uf K x qual st f (PySem.W.fnOf x qual (bi st) (aR st) (ak st) .none kV doc pm an cdv ct):=⟨⟨oc,od,kV,doc,pm,an,cdv,ct,osl,rfl,l,c⟩,k⟩
end
theorem d6 {A:Around} {k:Nat} (hr:dh k A):A.units+1<cLine:=Nat.lt_of_le_of_lt (Nat.add_le_add_left (by decide:1<=64) _) hr.units
section
variable {X:Cx}
theorem pv (i:Nat) {x:Str} {pos:Pos} (hN:X.N[i]? =some x:=by rfl) (hv:rG X.env.scope x:=by first|exact Or.inl rfl|exact Or.inr (Or.inl rfl)|exact Or.inr (Or.inr rfl)) (hd:(x==("__debug__":Str))=false:=by decide)
  (hcd:(x==("__classdict__":Str))=false:=by decide):PE X (.Name x pos) (wH i):=zp hN hv hd hcd
end
noncomputable def aQ (H H':Hp):Prop:=∀b o,H b=some o->H' b=some o
theorem aQ.refl (H:Hp):aQ H H:=fun _ _ h=>h
theorem aQ.trans {H H1 H2:Hp} (a:aQ H H1) (b:aQ H1 H2):aQ H H2:=fun c o h=>b c o (a c o h)
theorem aQ.free {H H':Hp} (e:aQ H H') {l:Addr} (h:H' l=Option.none):H l=Option.none:=by
 cases q:H l with
 |none=>rfl
 |some o=>
  rw[e l o q]at h
  cases h
theorem aQ.seq {K:PySem.W.Frag} {H H':Hp} {a:Addr} {xs:List V} (e:aQ H H') (h:cT K H a xs):cT K H' a xs:=by
 rcases h with (h|⟨o,h⟩)|h
 ·exact .inl (.inl (e _ _ h))
 ·exact .inl (.inr ⟨o,e _ _ h⟩)
 ·exact .inr h
section
variable {κ:Type} [DecidableEq κ]
end
end L2
namespace L2
open PySem PySem.Spec PyProof.Rows
noncomputable def jh (env:Env):List (Str×NameKind)->List (Str×Addr)->List (Str×Addr)
 |[],cs=>cs
 |(n,k)::r,cs=>jh env r (if k= .free then (match env.cells.lookup n with|some c=>(n,c)::cs|none=>cs)else cs)
theorem lr (env:Env):∀(names:List (Str×NameKind)) (cs:List (Str×Addr)),(∀y∈names,y.2= .free->∃c,env.cells.lookup y.1=some c)->
  (forIn names cs fun (x:Str×NameKind) (r:List (Str×Addr))=>(if (x.2==NameKind.free)=true then do
    let a<-cellOf env x.1
    pure (ForInStep.yield ((x.1,a)::r))else pure (ForInStep.yield r):Sem (ForInStep (List (Str×Addr)))))=pure (jh env names cs)
 |[],cs,_=>rfl
 |(n,k)::r,cs,h=>by
  rw[List.forIn_cons]
  by_cases hk:k= .free
  ·subst hk
   obtain⟨c,hc⟩:=h (n, .free) List.mem_cons_self rfl
   have e:cellOf env n=pure c:=by unfold cellOf;rw[hc]
   simp only[beq_self_eq_true,if_true,e]
   unfold jh
   simp only[if_true,hc]
   exact lr env r ((n,c)::cs) fun y hy=>h y (List.mem_cons_of_mem _ hy)
  ·have hb:(k==NameKind.free)=false:=by simpa using hk
   simp only[hb,Bool.false_eq_true,if_false]
   unfold jh
   rw[if_neg hk]
   exact lr env r cs fun y hy=>h y (List.mem_cons_of_mem _ hy)
theorem nP {scope:Scope} {env:Env} (h:∀y∈scope.names,y.2= .free->∃c,env.cells.lookup y.1=some c):closureFor scope env=pure (jh env scope.names []):=by
 have:=lr env scope.names [] h
 unfold closureFor
 simp only[bind_pure]
 exact this
theorem dP {env:Env} {x:Str} {c:Addr}:∀{names:List (Str×NameKind)} {cs:List (Str×Addr)},(∀c,cs.lookup x=some c->env.cells.lookup x=some c)->(jh env names cs).lookup x=some c->env.cells.lookup x=some c
 |[],cs,h,e=>h c e
 |(n,k)::r,cs,h,e=>by
  unfold jh at e
  refine dP (names:=r) (fun d hd=> ?_) e
  split at hd
  ·split at hd
   ·rename_i c' hc
    rw[List.lookup_cons]at hd
    cases hx:x==n with
    |true=>rw[hx]at hd;have:=eq_of_beq hx;subst this;rw[hc];exact hd
    |false=>rw[hx]at hd;exact h d hd
   ·exact h d hd
  ·exact h d hd
theorem mY {env:Env} {x:Str}:∀{names:List (Str×NameKind)} {cs:List (Str×Addr)},(∃c,cs.lookup x=some c)->∃c,(jh env names cs).lookup x=some c
 |[],cs,h=>h
 |(n,k)::r,cs,h=>by
  unfold jh
  refine mY (names:=r) ?_
  split
  ·split
   ·rename_i c' hc
    rw[List.lookup_cons]
    cases x==n with
    |true=>exact⟨_,rfl⟩
    |false=>exact h
   ·exact h
  ·exact h
theorem ls {env:Env} {x:Str}:∀{names:List (Str×NameKind)} {cs:List (Str×Addr)},(x,NameKind.free)∈names->(∃c,env.cells.lookup x=some c)->∃c,(jh env names cs).lookup x=some c
 |(n,k)::r,cs,h,hc=>by
  unfold jh
  rcases List.mem_cons.mp h with h|h
  ·cases h
   obtain⟨c,hc⟩:=hc
   refine mY (names:=r) ?_
   rw[if_pos rfl,hc]
   exact⟨c,by simp⟩
  ·exact ls h hc
noncomputable def ji (N:List Str) (names:List (Str×NameKind)) (σ:St):St:=
 names.map fun x=>if x.2= .free then ((N.findIdx? (·==x.1)).bind fun i=>(σ[i]?).join)else none
noncomputable def bR (X:Cx) (scope:Scope) (s:Shared) (H:Hp) (ex:List Addr):Cx:=
 {X with N:=scope.names.map (·.1),s₀:=s,H₀:=H,env:=compEnvC scope (jh X.env scope.names []) s.heap.objs.size X.env,outer:=X.stack,ex:=ex,fn:=fun _=>false,pn:=[],xe:=fun _ _=>False}
structure aS (X:Cx) (scope:Scope):Prop where
 kind:scope.kind= .function
 nocell:∀y∈scope.names,y.2≠ .cell
 loc:∀y∈scope.names,y.2= .local->scope.names.lookup y.1=some .local
 free:∀y∈scope.names,y.2= .free->X.env.kindOf y.1=some .cell\/X.env.kindOf y.1=some .free
 nd:(scope.names.map (·.1)).Nodup
theorem dQ {env:Env} {x:Str}:∀{names:List (Str×NameKind)} {k:NameKind},
  (names.map fun (n,k)=>if (k==NameKind.free&&env.scope.kind== .function&&env.kindOf n==some .cell)then (n,NameKind.cell)else (n,k)).lookup x=some k->
  names.lookup x=some k\/(names.lookup x=some .free/\k= .cell)
 |[],k,h=>by simp at h
 |(n,j)::r,k,h=>by
  have ih:= @dQ env x r k
  rw[List.map_cons,List.lookup_cons]at h
  rw[List.lookup_cons]
  by_cases hc:(j==NameKind.free&&env.scope.kind== .function&&env.kindOf n==some .cell)=true
  ·rw[if_pos hc]at h
   have hj:j= .free:=by
    simp only[Bool.and_eq_true]at hc
    exact eq_of_beq hc.1.1
   cases hx:x==n with
   |true=>rw[hx]at h;simp at h;exact .inr ⟨by rw[hj],h.symm⟩
   |false=>rw[hx]at h;exact ih h
  ·rw[if_neg hc]at h
   cases hx:x==n with
   |true=>rw[hx]at h;exact .inl h
   |false=>rw[hx]at h;exact ih h
theorem eE {α β:Type} [BEq α] [LawfulBEq α] {x:α} {b:β}:∀{l:List (α×β)},l.lookup x=some b->(x,b)∈l
 |[],h=>by simp at h
 |(a,c)::r,h=>by
  rw[List.lookup_cons]at h
  cases hx:x==a with
  |true=>rw[hx]at h;have:=eq_of_beq hx;subst this;cases h;exact List.mem_cons_self
  |false=>rw[hx]at h;exact List.mem_cons_of_mem _ (eE h)
section
variable {X:Cx} {pins:List (Addr×Obj)} {σ:St} {H:Hp} {s:Shared} {scope:Scope}
theorem aS.cellOf (S:aS X scope) (ok:X.Ok):∀y∈scope.names,y.2= .free->∃c,X.env.cells.lookup y.1=some c:=fun y hy hf=>ok.has y.1 (S.free y hy hf)
theorem nQ (S:aS X scope) (I:aC X pins σ H s) {fp:List Addr} (hfp:∀b∈fp,eS X pins H b/\b<s.heap.objs.size):(bR X scope s H fp).Ok where
 mod:=I.mod
 kind:=S.kind
 glob:=I.ok.glob
 blt:=I.ok.blt
 above:=Nat.le_refl _
 inj:=fun x y c hx hy=>I.ok.inj x y c (dP (by intro c h;simp at h) hx) (dP (by intro c h;simp at h) hy)
 has:=fun x hx=>by
  have hm:(x,NameKind.free)∈scope.names:=by
   rcases hx with hx|hx
   ·rcases dQ hx with h|⟨h,_⟩
    ·exact absurd rfl (S.nocell _ (eE h))
    ·exact eE h
   ·rcases dQ hx with h|⟨h,_⟩<;>exact eE h
  exact ls hm (S.cellOf I.ok _ hm rfl)
 cab:=fun x c h=>by cases h
 hd:=I.ok.hd
 frames:=I.ok.frames
 stk:= .inl rfl
 exf:=fun b hb=>⟨Nat.ne_of_lt (hfp b hb).2,fun x c hx=>(hfp b hb).1.2.2.2.2.1 x c (dP (by intro c h;simp at h) hx)⟩
 bs:=I.bs
 bsz:=Nat.le_trans I.ok.bsz I.sz
 noex:=fun b o e hb=>by
  rcases(hfp b hb).1.2.2.2.1 with h|h
  ·exact I.ok.noex b o e h
  ·have h1:b<X.base.objs.size:=Heap.lt_size e
   exact Nat.lt_irrefl _ (Nat.lt_of_lt_of_le h1 (Nat.le_trans I.ok.bsz h))
 exfs:=fun b hb hc=>by
  have:=I.stkSub b hc
  rcases List.mem_cons.mp this with h|h
  ·exact(hfp b hb).1.2.1 h
  ·exact(hfp b hb).1.2.2.1 h
 funs:=I.stack
 frf:=I.stkFree
theorem uM (S:aS X scope) (I:aC X pins σ H s) {fp:List Addr} (hfp:∀b∈fp,eS X pins H b/\b<s.heap.objs.size) {h':Heap} {t':Nat}
  (hn:h'.Ns s.heap.objs.size fun _=>none) (k:∀b o,s.heap.get? b=some o->h'.get? b=some o):
  aC (bR X scope s H fp) [] (ji X.N scope.names σ) H {s with heap:=h',toks:=t'}where
 ok:=nQ S I hfp
 os:=rfl
 bare:=I.bare
 base:=Un.kept k
 loc:=by
  refine⟨_,hn,fun i x v hi hv _=> ?_⟩
  have hi':(scope.names.map (·.1))[i]? =some x:=hi
  rw[List.getElem?_map]at hi'
  unfold ji at hv
  rw[List.getElem?_map]at hv
  cases e:scope.names[i]? with
  |none=>rw[e]at hi';cases hi'
  |some y=>
   rw[e]at hi' hv
   have hx:y.1=x:=by simpa using hi'
   have hy:y∈scope.names:=List.mem_of_getElem? e
   simp only[Option.map_some,Option.some.injEq]at hv
   by_cases hf:y.2= .free
   ·rw[if_pos hf]at hv
    cases ei:X.N.findIdx? (·==y.1)with
    |none=>rw[ei]at hv;cases hv
    |some j=>
     rw[ei]at hv
     have hj:σ[j]? =some (some v):=by
      cases e2:σ[j]? with
      |none=>simp[e2]at hv
      |some o=>simp only[Option.bind_some,e2,Option.join_some]at hv;rw[hv]
     obtain⟨hl,hp,_⟩:=List.findIdx?_eq_some_iff_getElem.mp ei
     have hN:X.N[j]? =some x:=by
      rw[List.getElem?_eq_getElem hl]
      have:=eq_of_beq hp
      rw[this,hx]
     have hk:=S.free y hy hf
     rw[hx]at hk
     obtain⟨m,_,hm⟩:=I.loc
     obtain⟨u,ru,lu⟩:=hm j x v hN hj (by
      rcases hk with q|q
      ·exact .inr (.inl q)
      ·exact .inr (.inr q))
     refine⟨u,ru,?_⟩
     rcases lu with ⟨q,_⟩|⟨_,c,hc,hcell⟩
     ·rcases hk with z|z<;>rw[z]at q<;>cases q
     ·have hmem:(x,NameKind.free)∈scope.names:=by
       have:y=(x,NameKind.free):=by cases y;simp at hx hf;rw[hx,hf]
       rw[<-this];exact hy
      obtain⟨d,hd⟩:=ls (cs:=[]) hmem (S.cellOf I.ok _ hmem rfl)
      have hdc:d=c:=by
       have:=dP (cs:=[]) (by intro c h;simp at h) hd
       rw[this]at hc
       exact Option.some.inj hc
      refine .inr ⟨?_,d,hd,?_⟩
      ·show (relabel scope X.env).names.lookup x=some .cell\/(relabel scope X.env).names.lookup x=some .free
       have hlk:∃k,(relabel scope X.env).names.lookup x=some k:=by
        unfold relabel
        cases el:(scope.names.map fun (n,k)=>if (k==NameKind.free&&X.env.scope.kind== .function&&X.env.kindOf n==some .cell)then (n,NameKind.cell)else (n,k)).lookup x with
        |some k=>exact⟨k,rfl⟩
        |none=>
         exfalso
         rw[List.lookup_eq_none_iff]at el
         have:=el (if (NameKind.free==NameKind.free&&X.env.scope.kind== .function&&X.env.kindOf x==some .cell)then (x,NameKind.cell)else (x,NameKind.free)) (List.mem_map.mpr ⟨_,hmem,rfl⟩)
         split at this<;>simp at this
       obtain⟨k,hk2⟩:=hlk
       rcases dQ hk2 with h|⟨_,h⟩
       ·have hm2:=eE h
        have:k= .free:=by
         have nd:=S.nd
         obtain⟨a,ha,e1⟩:=List.mem_iff_getElem.mp hmem
         obtain⟨b,hb,e2⟩:=List.mem_iff_getElem.mp hm2
         have:a=b:=by
          refine(List.getElem_inj (h₀:=by simpa using ha) (h₁:=by simpa using hb) nd).mp ?_
          rw[List.getElem_map,List.getElem_map,e1,e2]
         subst this
         rw[e1]at e2
         cases e2;rfl
        subst this
        exact .inr hk2
       ·subst h;exact .inl hk2
      ·rw[hdc];exact hcell.keeps k
   ·rw[if_neg hf]at hv;cases hv
 cell:=fun x c hx=>by
  obtain⟨v,hv⟩:=I.cell x c (dP (cs:=[]) (by intro c h;simp at h) hx)
  exact⟨v,hv.keeps k⟩
 free:=I.hok.fresh (Nat.le_refl _)
 freeC:=fun x c hx=>I.freeC x c (dP (cs:=[]) (by intro c h;simp at h) hx)
 pin:=fun p hp=>by cases hp
 hok:=I.hok.kept k
 len:=by simp[bR,ji]
theorem kW (I:aC X pins σ H s) {fp:List Addr} (hfp:∀b∈fp,eS X pins H b/\b<s.heap.objs.size) {τ:St} {H':Hp} {s':Shared} (I':aC (bR X scope s H fp) [] τ H' s') {h':Heap} {t':Nat}
  (hs:∀b o,b≠s.heap.objs.size->s'.heap.get? b=some o->h'.get? b=some o):aC X pins σ H' {s' with heap:=h',toks:=t'}:=by
 have u:Un (kS X.stack) fp H H' s.heap s'.heap:=I'.base
 have hC:H' s.heap.objs.size=none:=I'.free
 have nC:∀b o,s.heap.get? b=some o->b≠s.heap.objs.size:=fun b o e=>Nat.ne_of_lt (Heap.lt_size e)
 refine I.call' (ch:=fp) I'.os ⟨?_,?_,u.free,?_,u.tups,u.frzs,u.tbls⟩ (fun b o e=> ?_) I'.bare fun b hb=> ?_
 ·exact fun b o e n a c=>hs b o (nC b o e) (u.keep b o e n a c)
 ·intro b o e n a c
  obtain⟨sl,q⟩:=u.slot b o e n a c
  exact⟨sl,hs b _ (nC b o e) q⟩
 ·intro b o e a
  obtain⟨o',q⟩:=u.there b o e a
  exact⟨o',hs b _ (nC b o e) q⟩
 ·refine(I'.hok b o e).stay (fun c v hc q=>hs c v ?_ q) (fun _ q=>q) fun _ _ q=>q
  intro z
  subst z
  rcases hc with z|z
  ·rw[z]at hC;rw[hC]at e;cases e
  ·rw[hC]at z;cases z
 ·obtain⟨h1,h2,h3,h4,h5,h6⟩:=(hfp b hb).1
  exact⟨h4,h2,h5,h6⟩
end
noncomputable def uN (X:Cx) (ifs:List Expr) (t:TT):Prop:=
 ∀(pins:List (Addr×Obj)) (s:Shared) (σ:St) (H:Hp) (Q:Bool->Hp->Prop),aC X pins σ H s->t σ H Q->
  wpAny (model X.prog X.w) X.A (forIn ifs true fun c r=>if r=true then do let ok<-isTrue c X.env (eval c X.env);pure (ForInStep.yield ok)else pure (ForInStep.yield r)) (TP X pins σ Q) X.xe s
theorem xq {X:Cx}:uN X [] (fun _ H Q=>Q true H):=fun _ _ _ H _ I h=>wpAny_tests_nil ⟨H,I,h⟩
theorem xr {X:Cx} {c:Expr} {t:TT} (h:PT X c t):uN X [c] t:=fun pins s σ H Q I q=>wpAny_tests_one (h pins s σ H Q I q)
noncomputable def gF (J:It) (g:TG) (tt:TT) (te:TE) (D:Addr) (τ0:St) (Q:Hp->Prop) (H1:Hp):Prop:=
 ∃W:Nat->Nat->List V->St->Hp->Prop,(∃m,W 0 m [] τ0 H1)/\∀i m ys τ H,W i m ys τ H->H D=some (.lst ys)/\
  ((J.stop i H/\Q H)\/(J.go i H/\ys.length<sizeLine/\∀x H',J.yld i H x H'->g x τ H' fun τ2 H2=>tt τ2 H2 fun b H3=>
   if b=true then te τ2 H3 fun y H4=>H4 D=some (.lst ys)/\∃m',m'<m/\W (i+1) m' (ys++[y]) τ2 (br H4 D (.lst (ys++[y])))else ∃m',m'<m/\W (i+1) m' ys τ2 H3))
noncomputable def BR (N:List Str) (names:List (Str×NameKind)) (wi:TI) (g:TG) (tt:TT) (te:TE):TE:=fun σ H Q=>
 wi σ H fun J H1=>∀D,H1 D=none->gF J g tt te D (ji N names σ) (fun H2=>Q (.ref D) H2) (br H1 D (.lst []))
section
variable {X:Cx} {elt tg iter:Expr} {ifs:List Expr} {scope:Scope} {pos:Pos} {wi:TI} {g:TG} {tt:TT} {te:TE}
theorem xt (S:aS X scope) (hc:X.calm=true) (hg:∀s H ex,PG (bR X scope s H ex) tg g) (hif:∀s H ex,uN (bR X scope s H ex) ifs tt) (hel:∀s H ex,PE (bR X scope s H ex) elt te)
  {pins:List (Addr×Obj)} {σ:St} {H:Hp} {s:Shared} (I:aC X pins σ H s) {fp:List Addr} {it D:Addr} {tn:Nat->Heap->Prop} {J:It} (T:oM X.prog X.w X.K tg J fp it tn)
  (hfp:∀b∈fp,eS X pins H b/\b<s.heap.objs.size) {Q:Hp->Prop} {R:Result->Shared->Prop}
  (hR:∀τ H' s',aC (bR X scope s H fp) [] τ H' s'->Q H'->R (.ok .next) s')
  {s1:Shared} {τ0:St} (I1:aC (bR X scope s H fp) [] τ0 H s1) (ht:tn 0 s1.heap) (q:gF J g tt te D τ0 Q H):
  codeAny (model X.prog X.w) X.A (.compLoop (.ListComp elt [⟨tg,iter,ifs,0⟩] scope pos) 0 (.ref it) (.ref D) (bR X scope s H fp).env) R s1:=by
 obtain⟨W,⟨m0,w0⟩,turn⟩:=q
 have stat:∀{H':Hp},(∀b∈fp,H' b=none)->∀b∈fp,eS (bR X scope s H fp) [] H' b:=fun {H'} hn b hb=>
  ⟨hn b hb,Nat.ne_of_lt (hfp b hb).2,(nQ S I hfp).exfs b hb, .inl hb,fun x c hx=>(hfp b hb).1.2.2.2.2.1 x c (dP (cs:=[]) (by intro c h;simp at h) hx),fun p hp=>by cases hp⟩
 refine codeAny_loop rfl (fun n s'=>∃i ys τ H',aC (bR X scope s H fp) [] τ H' s'/\tn i s'.heap/\(∀b∈fp,H' b=none)/\W i n ys τ H') (fun n s2 hI=> ?_) m0 ⟨0,[],τ0,H,I1,ht,fun b hb=>(hfp b hb).1.1,w0⟩
 obtain⟨i,ys,τ,H2,I2,st2,fr2,w2⟩:=hI
 show wpAny _ X.A ((compTurn (.ListComp elt [⟨tg,iter,ifs,0⟩] scope pos) 0 (.ref it) (.ref D) (bR X scope s H fp).env).onRaise (fun x=>do noteFrame x (bR X scope s H fp).env;theTreesLotGoes x)) _ _ s2
 refine wpAny_noted ?_
 rw[compTurn_list]
 have up:∀{α:Type} {t:Sem α} {Q:α->Shared->Prop} {E:Value->Shared->Prop} {s:Shared},wpAny (model X.prog X.w) X.A t Q (fun _ _=>False) s->wpAny (model X.prog X.w) X.A t Q E s:=fun h=>wpAny_mono h (fun _ _ q=>q) fun _ _ f=>f.elim
 obtain⟨hD,alt⟩:=turn i n ys τ H2 w2
 rcases alt with ⟨stop,qn⟩|⟨go,hz,step⟩
 ·refine wpAny_bind (wpAny_standAt (wpAny_bind (up (cb (T.done (bR X scope s H fp) rfl rfl rfl hc i [] s2 τ H2 (fun _ _=>False) I2 (stat fr2) st2 stop) fun r s3 z_=> ?_))))
  obtain⟨hr,I3⟩:=z_
  subst hr
  exact wpAny_pure (hR _ _ _ I3 qn)
 ·refine wpAny_bind (wpAny_standAt (wpAny_bind (up (cb (T.item (bR X scope s H fp) rfl rfl rfl hc i [] s2 τ H2 (fun _ _=>False) I2 (stat fr2) st2 go) fun r s3 z_=> ?_))))
  obtain⟨u,hr,h3⟩:=z_
  subst hr
  refine wpAny_bind (up (cb h3 fun _ s4 z_=> ?_))
  obtain⟨x,H4,I4,r4,y4,st4,fr4⟩:=z_
  have I4':=I4.pinned (stat fr4) (T.obj _ _ st4)
  have back:∀{τ7:St} {H7:Hp} {s7:Shared},aC (bR X scope s H fp) ([]++jR fp s4.heap) τ7 H7 s7->aC (bR X scope s H fp) [] τ7 H7 s7/\tn (i+1) s7.heap/\∀b∈fp,H7 b=none:=fun I7=>
   ⟨I7.unpinned,T.keep _ _ _ st4 fun b hb o e=>(I7.pin (b,o) (List.mem_append_right _ (List.mem_append_right _ (eg hb e)))).1,fun b hb=>by
    obtain⟨o,e,d⟩:=T.obj _ _ st4 b hb
    exact(I7.pin (b,o) (List.mem_append_right _ (List.mem_append_right _ (eg hb e)))).2.1⟩
  refine wpAny_bind (up (cb (hg s H fp _ s4 τ H4 x u _ I4' r4 (step x H4 y4)) fun _ s5 z_=> ?_))
  obtain⟨τ5,H5,I5,q5⟩:=z_
  refine wpAny_bind (up (cb (hif s H fp _ s5 τ5 H5 _ I5 q5) fun ok s6 z_=> ?_))
  obtain⟨H6,I6,q6⟩:=z_
  cases ok with
  |false=>
   obtain⟨m',hm,w'⟩:=q6
   obtain⟨a,b,c⟩:=back I6
   exact wpAny_pure ⟨rfl,m',hm,i+1,ys,τ5,H6,a,b,c,w'⟩
  |true=>
   rw[if_pos rfl]at q6
   refine wpAny_bind (wpAny_bind (up (cb (hel s H fp _ s6 τ5 H6 _ I6 q6) fun v s7 z_=> ?_)))
   obtain⟨y,H7,I7,r7,hD7,m',hm,w'⟩:=z_
   refine wpAny_bind (up (cb (jU (X:=bR X scope s H fp) _ s7 τ5 H7 (.ref D) [y] (.ref D) [v] (fun _ H8=>H8=br H7 D (.lst (ys++[y]))) I7 rfl (.cons r7 .nil) ⟨D,ys,y,rfl,rfl,hD7,hz,rfl⟩) fun _ s8 z_=> ?_))
   obtain⟨_,H8,I8,_,e8⟩:=z_
   subst e8
   obtain⟨a,b,c⟩:=back I8
   exact wpAny_pure (wpAny_pure ⟨rfl,m',hm,i+1,ys++[y],τ5,_,a,b,c,w'⟩)
theorem oV (S:aS X scope) (hc:X.calm=true) (hg:∀s H ex,PG (bR X scope s H ex) tg g) (hif:∀s H ex,uN (bR X scope s H ex) ifs tt) (hel:∀s H ex,PE (bR X scope s H ex) elt te)
  {pins:List (Addr×Obj)} {σ:St} {H:Hp} {s:Shared} {E:Value->Shared->Prop} (I:aC X pins σ H s) {fp:List Addr} {it:Addr} {tn:Nat->Heap->Prop} {J:It} (T:oM X.prog X.w X.K tg J fp it tn)
  (hfp:∀b∈fp,eS X pins H b) (ht:tn 0 s.heap) {Q:Addr->Hp->Prop} {RR:Value->Addr->Result->Shared->Prop}
  (hR:∀(D:Addr) (H3:Hp) (s3:Shared) (τ:St) (H':Hp) (s':Shared),aC X pins σ H3 s3->(∀b∈fp,eS X pins H3 b/\b<s3.heap.objs.size)->aC (bR X scope s3 H3 fp) [] τ H' s'->Q D H'->RR (.ref D) s3.heap.objs.size (.ok .next) s')
  (q:∀D,H D=none->gF J g tt te D (ji X.N scope.names σ) (Q D) (br H D (.lst []))):
  wpAny (model X.prog X.w) X.A (newList []) (fun acc s₃=>wpAny (model X.prog X.w) X.A (newFunctionEnv scope X.env.globals (jh X.env scope.names []) [] X.env.qual none .none (some X.env)) (fun cenv s₄=>
   codeAny (model X.prog X.w) X.A (.compStart (.ListComp elt [⟨tg,iter,ifs,0⟩] scope pos) 0 (.ref it) acc {cenv with scope:=relabel scope X.env}) (RR acc cenv.locals) s₄) E s₃) E s:=by
 have hlt:∀b∈fp,b<s.heap.objs.size:=fun b hb=>by
  obtain⟨o,e,_⟩:=T.obj _ _ ht b hb
  exact Heap.lt_size e
 refine wpAny_newList ?_
 have I3:=I.lnew (ys:=[]) (its:=[]) (t':=s.toks) .nil (Nat.zero_le _)
 have hD:H s.heap.objs.size=none:=I.hok.fresh (Nat.le_refl _)
 have hsz3:(s.heap.push {cls:= .type "list",data:= .seq ([]:List Value).toArray}).objs.size=s.heap.objs.size+1:=Heap.size_push ..
 have hfp3:∀b∈fp,eS X pins (br H s.heap.objs.size (.lst [])) b/\b<({s with heap:=s.heap.push {cls:= .type "list",data:= .seq ([]:List Value).toArray},toks:=s.toks}:Shared).heap.objs.size:=fun b hb=>by
  refine⟨⟨?_,(hfp b hb).2⟩,?_⟩
  ·rw[aw (Nat.ne_of_lt (hlt b hb))];exact(hfp b hb).1
  ·show b<(s.heap.push _).objs.size
   rw[hsz3]
   exact Nat.lt_succ_of_lt (hlt b hb)
 refine wpAny_newFunctionEnv S.nocell (by intro y hy;simp at hy) (fun h₁ hns₁ hsb₁=> ?_) S.kind
 dsimp only at hns₁ hsb₁ ⊢
 have k1:∀b o,(s.heap.push {cls:= .type "list",data:= .seq ([]:List Value).toArray}).get? b=some o->h₁.get? b=some o:=fun b o e=>hsb₁.extBut b o (Nat.ne_of_lt (Heap.lt_size e)) (Heap.get?_push_of_some _ e)
 have I4:=uM (t':=s.toks) S I3 hfp3 (h':=h₁) hns₁ k1
 have ht1:tn 0 h₁:=T.keep _ _ _ ht fun b hb o e=>k1 b o (Heap.get?_push_of_some _ e)
 have loop:codeAny (model X.prog X.w) X.A (.compLoop (.ListComp elt [⟨tg,iter,ifs,0⟩] scope pos) 0 (.ref it) (.ref s.heap.objs.size) (bR X scope {s with heap:=s.heap.push {cls:= .type "list",data:= .seq ([]:List Value).toArray},toks:=s.toks} (br H s.heap.objs.size (.lst [])) fp).env)
   (RR (.ref s.heap.objs.size) (s.heap.push {cls:= .type "list",data:= .seq ([]:List Value).toArray}).objs.size) {s with heap:=h₁,toks:=s.toks}:=
  xt S hc hg hif hel I3 T hfp3 (fun τ H' s' I' q'=>hR _ _ _ τ H' s' I3 hfp3 I' q') I4 ht1 (q _ hD)
 exact codeAny_compStart_list loop (T.self _ 0 _ _ _ ht1 loop)
theorem rV (S:aS X scope) (hc:X.calm=true) (hi:PI X tg iter wi) (hg:∀s H ex,PG (bR X scope s H ex) tg g) (hif:∀s H ex,uN (bR X scope s H ex) ifs tt) (hel:∀s H ex,PE (bR X scope s H ex) elt te)
  (hs:∀x,foldedSetIterable iter X.env x=pure x:=by intro _;rfl):PE X (.ListComp elt [⟨tg,iter,ifs,0⟩] scope pos) (BR X.N scope.names wi g tt te):=by
 intro pins s σ H Q I h
 rw[eval_ListComp]
 refine wpAny_comprehension_free (use:=none) rfl hs (nP (S.cellOf I.ok)) S.kind S.loc (cb (hi pins s σ H _ I h) fun v s1 h1=>cb h1 fun itv s2 h2=> ?_)
 obtain⟨it,fp,tn,J,H2,e,I2,T,st2,f2,q⟩:=h2
 subst e
 refine oV (Q:=fun D H2=>Q (.ref D) H2) (RR:=fun acc C=>compPost (model X.prog X.w) X.A X.xe none (EP X pins σ Q) acc C) S hc hg hif hel I2 T f2 st2 ?_ q
 intro D H3 s3 τ H' s' I3 f3 I' q'
 obtain⟨m,hm,_⟩:=I'.loc
 refine⟨m,hm,fun h' hs'=> ?_⟩
 exact⟨.ref D,H',kW (t':=s'.toks) I3 f3 I' fun b o hb e=>hs'.extBut b o hb e,rfl,q'⟩
noncomputable def BS (N:List Str) (names:List (Str×NameKind)) (wi:TI) (g:TG) (tt:TT) (te:TE) (gy:TG):TS:=fun D σ H=>
 wi σ H fun J H1=>∀p,H1 p=none->gF J g tt te p (ji N names σ) (fun H2=>gy (.ref p) σ H2 D.nx) (br H1 p (.lst []))
theorem xu {y:Str} {py spos:Pos} {gy:TG} (S:aS X scope) (hc:X.calm=true) (hi:PI X tg iter wi) (hg:∀s H ex,PG (bR X scope s H ex) tg g) (hif:∀s H ex,uN (bR X scope s H ex) ifs tt)
  (hel:∀s H ex,PE (bR X scope s H ex) elt te) (hy:PG X (.Name y py) gy) (hsw:swapsWith (.ListComp elt [⟨tg,iter,ifs,0⟩] scope pos) (some (.Name y py)) spos.line X.env=pure true:=by rfl)
  (hs:∀x,foldedSetIterable iter X.env x=pure x:=by intro _;rfl):PS X (.Assign [.Name y py] (.ListComp elt [⟨tg,iter,ifs,0⟩] scope pos) spos) (BS X.N scope.names wi g tt te gy):=by
 intro pins s σ H D I h
 rw[exec_Assign_Name_used _ _ _ _ hsw]
 refine wpAny_bind (wpAny_standAt (wpAny_bind ?_))
 show wpAny _ X.A (do let _<-comprehension (.ListComp elt [⟨tg,iter,ifs,0⟩] scope pos) scope X.env _ (newList []) false (eval iter X.env) (some (assign (.Name y py) X.env))) _ _ s
 refine wpAny_bind (wpAny_mono (wpAny_comprehension_free (use:=some (assign (.Name y py) X.env)) (Q:=fun _ s'=>SP X pins D .next s') rfl hs (nP (S.cellOf I.ok)) S.kind S.loc
  (cb (hi pins s σ H _ I h) fun v s1 h1=>cb h1 fun itv s2 h2=> ?_)) (fun _ s' hq=>wpAny_pure (wpAny_pure hq)) fun _ _ e=>e)
 obtain⟨it,fp,tn,J,H2,e,I2,T,st2,f2,q⟩:=h2
 subst e
 refine oV (Q:=fun p H2=>gy (.ref p) σ H2 D.nx) (RR:=fun acc C=>compPost (model X.prog X.w) X.A X.xe (some (assign (.Name y py) X.env)) (fun _ s'=>SP X pins D .next s') acc C) S hc hg hif hel I2 T f2 st2 ?_ q
 intro p H3 s3 τ H' s' I3 f3 I' q'
 obtain⟨m,hm,_⟩:=I'.loc
 obtain⟨oC,es,ep,hoC,hdC,hkC,hmC⟩:=hm
 have J1:aC X pins σ H' s':=kW (t':=s'.toks) (h':=s'.heap) I3 f3 I' fun b o _ e=>e
 have hC0:H' s3.heap.objs.size=none:=I'.free
 have hCl:s3.heap.objs.size≠X.env.locals:=fun z=>by have:=I3.lt;rw[<-z]at this;exact Nat.lt_irrefl _ this
 have J2:aC X (pins++[(s3.heap.objs.size,oC)]) σ H' s':=J1.pins_of fun q hq=>by
  rcases List.mem_append.mp hq with hq|hq
  ·exact J1.pin q (List.mem_append_right _ hq)
  ·have e:q=(s3.heap.objs.size,oC):=by simpa using hq
   subst e
   exact⟨hoC,hC0,hCl,I3.nofs (Nat.le_refl _),fun v z=>by rw[hdC]at z;cases z⟩
 refine cb (hy _ s' σ H' (.ref p) (.ref p) D.nx J2 rfl q') fun _ s'' z_=> ?_
 obtain⟨σ5,H5,I5,q5⟩:=z_
 have hp:=I5.pin (s3.heap.objs.size,oC) (List.mem_append_right _ (List.mem_append_right _ List.mem_cons_self))
 refine⟨m,⟨oC,es,ep,hp.1,hdC,hkC,hmC⟩,fun h' hs'=> ?_⟩
 refine⟨σ5,H5,(I5.unpinned).turned (it:=s3.heap.objs.size) (t':=s''.toks) (fun b o hb e=>hs'.extBut b o hb e) hp.2.1 hCl (.inr I3.sz) (fun x c hx z=> ?_) (fun q hq z=> ?_),q5⟩
 ·obtain⟨v,o,ho,_⟩:=I3.cell x c hx
  have:=Heap.lt_size ho
  rw[z]at this
  exact Nat.lt_irrefl _ this
 ·have:=(I3.pin q hq).1
  have:=Heap.lt_size this
  rw[z]at this
  exact Nat.lt_irrefl _ this
end
end L2
namespace L2
open PySem PySem.Spec PyProof.Rows
section
variable {X:Cx} {e a b st:Expr} {te ta tb:TE} {tst:TO} {pos p2 p:Pos}
noncomputable def Dt (K:PySem.W.Frag) (te:TE) (tst:TO):TE:=fun σ H Q=>te σ H fun x H1=>tst σ H1 fun o H2=>o=some (-1)/\∃a xs,x= .ref a/\cT K H2 a xs/\∀p,H2 p=none->Q (.ref p) (br H2 p (.lst xs.reverse))
theorem A0 (he:PE X e te) (hst:PO X (some st) tst):PE X (.Subscript e (.Slice none none (some st) p2) pos) (Dt X.K te tst):=by
 intro pins s σ H Q I h
 refine Subscript_ (cb (he pins s σ H _ I h) fun v s1 z_=> ?_)
 obtain⟨x,H1,I1,r1,q1⟩:=z_
 refine wpAny_Slice ?_
 rw[evalPart_none]
 refine wpAny_pure ?_
 try rw[evalPart_none]
 refine wpAny_pure ?_
 refine cb (hst pins s1 σ H1 _ I1 q1) fun vk s2 z_=> ?_
 obtain⟨o,H2,I2,pk,ho,a,xs,ex,hx,q⟩:=z_
 subst ho
 subst ex
 cases r1
 have I3:aC X pins σ H2 {s2 with heap:=s2.heap.push {cls:= .type "slice",data:= .fields #[.none, .none,vk]}}:=I2.kept (t':=s2.toks) fun b ob q=>Heap.get?_push_of_some _ q
 obtain⟨its,r,ht,hz⟩:=I3.list hx
 have hlen:=r.length
 show wpAny (model X.prog X.w) X.A (subscriptTail e (.Slice none none (some st) p2) (.ref a) (.ref s2.heap.objs.size)) (EP X pins σ Q) X.xe {s2 with heap:=s2.heap.push {cls:= .type "slice",data:= .fields #[.none, .none,vk]}}
 refine tail_any (ops:=[.ref a, .ref s2.heap.objs.size]) ht.isList.typeIs slot_list_getitem.lookup ?_ (by with_unfolding_all rfl)
 refine wpAny_getItem_list_slice ht.isList (Heap.IsSliceOf.new ..) .none .none pk (by decide) ?_ (by rw[List.size_toArray]<;>omega)
 rw[PySem.W.krv_pick]
 refine⟨.ref _,_,I3.laid (t':=s2.toks) (o:= .lst xs.reverse) (fun b ob q=>Heap.get?_push_of_some _ q) (Nat.le_refl _) ?_,rfl,q _ (I3.hok.fresh (Nat.le_refl _))⟩
 exact⟨by rw[List.length_reverse];exact hz,its.reverse,0,r.reverse,Heap.get?_push_size _ rfl⟩
noncomputable def Du (K:PySem.W.Frag):List V->Hp->VK->Prop:=fun xs H Q=>∃x T t k,xs=[x, .ty T]/\jc K H x t/\PySem.W.kitOne K t (.type T)=some k/\Q (.bl k) H
theorem uO:cG X (.builtin "isinstance") (Du X.K):=by
 intro pins s σ H xs us Q I rv h
 obtain⟨x,T,t,k,rfl,ty,e,q⟩:=h
 obtain⟨u,w',rfl,ru,rw'⟩:=oN rv
 cases rw'
 exact sO I ru ty e fun tk=>⟨.bl k,H,I.tok tk,rfl,q⟩
theorem oW:bootBuiltins "isinstance"=some (.builtin "isinstance"):=by decide+kernel
noncomputable def qu (x:Int):List Int->List Int
 |[]=>[x]
 |y::r=>if x<=y then x::y::r else y::qu x r
noncomputable def dr:List Int->List Int
 |[]=>[]
 |x::r=>qu x (dr r)
theorem jV (x:Int):∀l:List Int,(qu x l).Perm (x::l)
 |[]=>List.Perm.refl _
 |y::r=>by
  unfold qu
  split
  ·exact List.Perm.refl _
  ·exact(List.Perm.cons y (jV x r)).trans (List.Perm.swap x y r)
theorem iW:∀l:List Int,(dr l).Perm l
 |[]=>List.Perm.refl _
 |x::r=>(jV x _).trans (List.Perm.cons x (iW r))
theorem kt (x:Int):∀{l:List Int},l.Pairwise (·<=·)->(qu x l).Pairwise (·<=·)
 |[],_=>by simp[qu]
 |y::r,h=>by
  obtain⟨h1,h2⟩:=List.pairwise_cons.mp h
  unfold qu
  split
  ·rename_i hxy
   refine List.pairwise_cons.mpr ⟨fun z hz=> ?_,h⟩
   rcases List.mem_cons.mp hz with rfl|hz
   ·exact hxy
   ·exact Int.le_trans hxy (h1 z hz)
  ·rename_i hxy
   refine List.pairwise_cons.mpr ⟨fun z hz=> ?_,kt x h2⟩
   rcases List.mem_cons.mp ((jV x r).mem_iff.mp hz)with rfl|hz
   ·omega
   ·exact h1 z hz
theorem gG:∀l:List Int,(dr l).Pairwise (·<=·)
 |[]=>List.Pairwise.nil
 |x::r=>kt x (gG r)
theorem fV:∀{a b:List Int},a.Perm b->a.Pairwise (·<=·)->b.Pairwise (·<=·)->a=b
 |[],b,p,_,_=>(List.nil_perm.mp p).symm
 |x::a,[],p,_,_=>(List.perm_nil.mp p)
 |x::a,y::b,p,h1,h2=>by
  obtain⟨a1,a2⟩:=List.pairwise_cons.mp h1
  obtain⟨b1,b2⟩:=List.pairwise_cons.mp h2
  have e:x=y:=by
   have hx:x∈y::b:=p.mem_iff.mp List.mem_cons_self
   have hy:y∈x::a:=p.mem_iff.mpr List.mem_cons_self
   rcases List.mem_cons.mp hx with h|h
   ·exact h
   ·rcases List.mem_cons.mp hy with h'|h'
    ·exact h'.symm
    ·exact Int.le_antisymm (a1 y h') (b1 x h)
  subst e
  rw[fV ((List.perm_cons x).mp p) a2 b2]
theorem nR:cG X (.builtin "sorted") (fun xs H Q=>∃p ns,xs=[.ref p]/\cT X.K H p (ns.map V.int)/\ns.length<64/\∀l,H l=none->Q (.ref l) (br H l (.lst ((dr ns).map V.int)))):=by
 intro pins s σ H xs us Q I rv h
 obtain⟨p,ns,rfl,hx,hl,q⟩:=h
 obtain⟨u,rfl,ru⟩:=gj rv
 cases ru
 obtain⟨its,r,ht,hz⟩:=I.list hx
 have hi:=iV r
 have hlen:=r.length
 rw[List.length_map]at hlen
 refine sorted_ints ht.isList hi (by omega) fun out ns' a1 a2 a3=> ?_
 obtain⟨e,he⟩:=sortedAll_at s.heap its out
 have en:ns'=dr ns:=fV (a2.trans (iW ns).symm) a3 (gG ns)
 subst en
 have k:∀b o,s.heap.get? b=some o->(sortedAll s.heap its out).get? b=some o:=fun b o e=>sortedAll_old e
 refine⟨.ref (s.heap.objs.size+1),_,I.laid (t':=s.toks) (o:= .lst ((dr ns).map V.int)) k (Nat.le_succ _) ?_,rfl,q _ (I.hok.fresh (Nat.le_succ _))⟩
 refine⟨?_,out.toList,e,iz a1,by simpa[seqObj]using he⟩
 have h1:=a2.length_eq
 rw[List.length_map]at hz ⊢
 omega
end
end L2
namespace L2
open PySem PySem.Spec PyProof.Rows
section
variable {P:Program} {w:World} {H:Hp} {h h':Heap} {a:Addr} {o:HO}
theorem bK.got (x:bK P w H h a o):∃u,h.get? a=some u:=by
 cases o with
 |lst xs=>obtain⟨_,_,_,_,e⟩:=x;exact⟨_,e⟩
 |tup xs=>obtain⟨_,_,_,p⟩:=x;obtain⟨o,e,_⟩:=p;exact⟨_,e⟩
 |dK kvs=>obtain⟨_,_,_,_,o,_,_,e,_⟩:=x;exact⟨_,e⟩
 |dT kvs=>obtain⟨_,_,_,_,o,_,_,e,_⟩:=x;exact⟨_,e⟩
 |set S n=>obtain⟨o,_,_,_,e,_⟩:=x;exact⟨_,e⟩
 |ins C dx fs=>obtain⟨_,_,_,e,_⟩:=x;exact⟨_,e⟩
 |own y=>obtain⟨_,e⟩:=x;exact⟨_,e⟩
 |xd fs=>obtain⟨_,⟨_,_,_,e,_⟩,_⟩:=x;exact⟨_,e⟩
 |rng lo hi=>obtain⟨_,_,_,e⟩:=x;exact⟨_,e⟩
 |frz ob u=>obtain⟨e,_⟩:=x;exact⟨_,e⟩
 |tbl ps=>exact⟨_,x⟩
 |met f y=>exact⟨_,x⟩
 |ext φ=>obtain⟨_,e,_⟩:=x;exact e
theorem gX.nowhere (x:gX P w H h) (hn:h.get? a=none):H a=none:=by
 cases e:H a with
 |none=>rfl
 |some o=>obtain⟨u,q⟩:=(x a o e).got;rw[hn]at q;cases q
end
section
variable {X:Cx} {pins:List (Addr×Obj)} {σ:List (Option V)} {H:Hp} {s:Shared} {h':Heap}
theorem aC.laidAt {a:Addr} {o:HO} {t':Nat} (I:aC X pins σ H s) (k:∀b u,s.heap.get? b=some u->h'.get? b=some u) (hn:s.heap.get? a=none) (new:bK X.prog X.w (br H a o) h' a o):
  aC X pins σ (br H a o) {s with heap:=h',toks:=t'}:=by
 have hH:=I.hok.nowhere hn
 have hne:∀b u,s.heap.get? b=some u->b≠a:=fun b u q z=>by rw[z,hn]at q;cases q
 refine I.un ⟨fun b u q _ _ _=>k b u q,fun b u q _ _ _=>⟨u.slots,k b u q⟩,fun b u q n _=>by rw[aw (hne b u q)];exact n,fun b u q _=>⟨u,k b u q⟩,fun b xs q=>by rw[aw (cw q hH)];exact q,
  fun b u xs q=>by rw[aw (cw q hH)];exact q,fun b ps q=>⟨#[],by rw[aw (cw q hH),q];simp⟩⟩ fun b u e=> ?_
 by_cases hb:b=a
 ·subst hb;rw[aA]at e;cases e;exact new
 ·rw[aw hb]at e
  exact(I.hok b u e).stay (fun c v _ q=>k c v q) (fun c q=>by rw[aw (cw q hH)];exact q) fun c xs q=>by rw[aw (cw q hH)];exact q
end
section
variable {X:Cx}
theorem nS:cG X (.type "range") (fun xs H Q=>∃i j,xs=[.int i, .int j]/\∀p,H p=none->Q (.ref p) (br H p (.rng i j))):=by
 intro pins s σ H xs us Q I rv h
 obtain⟨i,j,rfl,q⟩:=h
 obtain⟨u,w',rfl,ru,rw'⟩:=oN rv
 obtain⟨t,rfl⟩:=ru
 obtain⟨t',rfl⟩:=rw'
 refine call_range_2 ?_
 exact⟨.ref s.heap.objs.size,_,I.laid (o:= .rng i j) (fun b ob q=>Heap.get?_push_of_some _ q) (Nat.le_refl _) ⟨t,t',_,Heap.get?_push_size _ rfl⟩,rfl,q _ (I.hok.fresh (Nat.le_refl _))⟩
theorem lw {ns:List Int} {acc:Array Value} (h:ItemsOf (fun i v=>∃n t,ns[i]? =some n/\v= .int n t) acc ns.length):aO (ns.map V.int) acc.toList:=by
 have key:∀(vs:List Value) (ns:List Int),vs.length=ns.length->(∀(j:Nat) v,vs[j]? =some v->∃n t,ns[j]? =some n/\v= .int n t)->aO (ns.map V.int) vs:=by
  intro vs
  induction vs with
  |nil=>intro ns h1 _;cases ns with
   |nil=>exact .nil
   |cons _ _=>cases h1
  |cons v r ih=>
   intro ns h1 h2
   cases ns with
   |nil=>cases h1
   |cons n ns=>
    obtain⟨m,t,e1,e2⟩:=h2 0 v rfl
    simp at e1
    subst e1
    refine .cons ⟨t,e2⟩ (ih ns (by simpa using h1) fun j v hv=> ?_)
    have:=h2 (j+1) v (by simpa using hv)
    simpa using this
 refine key acc.toList ns (by rw[Array.length_toList];exact h.1) fun j v hv=>h.2 j v (by rw[<-Array.getElem?_toList];exact hv)
noncomputable def dB (lo hi:Int):List Int:=(List.range (hi - lo).toNat).map fun k:Nat=>lo+(k:Int)
theorem nT (hc:X.calm=true):cG X (.type "list") (fun xs H Q=>∃p lo hi,xs=[.ref p]/\H p=some (.rng lo hi)/\(-(2 ^20)<=lo/\lo<=2 ^20)/\(-(2 ^20)<=hi/\hi<=2 ^20)/\∀l,H l=none->Q (.ref l) (br H l (.lst ((dB lo hi).map V.int)))):=by
 intro pins s σ H xs us Q I rv h
 obtain⟨p,lo,hi,rfl,hp,⟨l1,l2⟩,⟨h1,h2⟩,q⟩:=h
 obtain⟨u,rfl,ru⟩:=gj rv
 cases ru
 obtain⟨t,u,v,ho⟩:=I.hok p _ hp
 have hn:Builtin.Range.rangeSize lo hi 1=(((hi - lo).toNat:Nat):Int):=by
  unfold Builtin.Range.rangeSize
  rw[if_pos (by decide)]
  split
  ·rw[Int.ediv_one];omega
  ·omega
 have hsmall:Builtin.Range.small lo hi 1=true:=small_one (by omega) (by omega) (by omega) (by omega)
 refine call_list_range (I.ok.hd hc) ho hsmall hn (by omega) fun h' tk acc c hk hS hacc=> ?_
 have hv:aO ((dB lo hi).map V.int) acc.toList:=by
  refine lw ⟨by rw[hacc.1];simp[dB],fun j v hv=> ?_⟩
  obtain⟨t,rfl⟩:=hacc.2 j v hv
  have hj:j<(hi - lo).toNat:=by
   have:=(Array.getElem?_eq_some_iff.mp hv).1
   rw[hacc.1]at this
   exact this
  exact⟨lo+j*1,t,by unfold dB;rw[List.getElem?_map,List.getElem?_range hj];simp,rfl⟩
 refine⟨.ref s.heap.objs.size,_,I.laid (o:= .lst ((dB lo hi).map V.int)) hk (Nat.le_refl _) ⟨?_,acc.toList,c,hv,by simpa using hS⟩,rfl,q _ (I.hok.fresh (Nat.le_refl _))⟩
 rw[List.length_map]
 unfold dB
 rw[List.length_map,List.length_range]
 have:sizeLine=16777216:=sizeLine_eq
 omega
theorem nU (hc:X.calm=true):cG X (.builtin "sorted") (fun xs H Q=>∃p kvs ns,xs=[.ref p]/\H p=some (.dK kvs)/\kvs.map (·.1)=ns.map Sum.inl/\ns.length<64/\∀l,H l=none->Q (.ref l) (br H l (.lst ((dr ns).map V.int)))):=by
 intro pins s σ H xs us Q I rv h
 obtain⟨p,kvs,ns,rfl,hp,hk,hl,q⟩:=h
 obtain⟨u,rfl,ru⟩:=gj rv
 cases ru
 obtain⟨z,hd,vs,rel,dd⟩:=yI I.hok hp
 obtain⟨ep,hat⟩:=dd.dictAt
 have hlen:vs.length=ns.length:=by
  rw[<-rel.length]
  have:=congrArg List.length hk
  simpa using this
 refine Calls.call_function_entry kind_sorted plain_sorted entry_sorted (args_sorted1 _) ?_
 unfold Builtin.«sorted»
 refine wpAny_bind (m:=checkCount "sorted" 1 1 _) (wpAny_pure ?_)
 refine wpAny_bind (PySem.W.kdu_collect (A:=X.A.in1) (PySem.W.kdl_dict (knd:=bz X.prog X.w) (kvs:=vs) (ep:=ep) hd) (I.ok.hd hc) hat (by rw[<-rel.length];exact z) fun h' tk acc hk' hacc=> ?_)
 have hI:IntsAre acc.toList ns:=by
  refine iV (lw ⟨by rw[hacc.1];exact hlen,fun j v hv=> ?_⟩)
  obtain⟨k,x,hx,hkey⟩:=hacc.2 j v hv
  have hkk:(vs.map (·.1))[j]? =some k:=by rw[List.getElem?_map,hx];rfl
  rw[<-rel.keys,hk,List.getElem?_map]at hkk
  cases e:ns[j]? with
  |none=>rw[e]at hkk;cases hkk
  |some n=>
   rw[e]at hkk
   cases hkk
   rcases bX (show lf (Sum.inl n) v=true from hkey)with ⟨i,t,e1,e2⟩|⟨x',t,e1,e2⟩
   ·cases e1;exact⟨n,t,rfl,e2⟩
   ·cases e1
 have hl2:acc.toList.length=ns.length:=by rw[Array.length_toList,hacc.1];exact hlen
 refine wpAny_bind (wpAny_newList ?_ (by rw[hl2];have:sizeLine=16777216:=sizeLine_eq;omega))
 have hoL:(h'.push (seqObj "list" acc.toList.toArray 0)).get? h'.objs.size=some (seqObj "list" acc.toList.toArray 0):=Heap.get?_push_size _ rfl
 refine wpAny_bind (wpAny_holding (wpAny_call_entry slot_list_sort ⟨_,hoL,rfl⟩ entry_list_sort (list_sort_tree hoL hI (by omega) fun out ns' a1 a2 a3=>⟨_,rfl,?_⟩) (args_list_sort _)))
 refine wpAny_pure ⟨_,rfl,?_⟩
 have en:ns'=dr ns:=fV (a2.trans (iW ns).symm) a3 (gG ns)
 subst en
 obtain⟨e,he⟩:=sortedHeap_at (out:=out) hoL
 have hfr:s.heap.get? h'.objs.size=none:=by
  cases e:s.heap.get? h'.objs.size with
  |none=>rfl
  |some o=>exact absurd (Heap.lt_size (hk' _ _ e)) (Nat.lt_irrefl _)
 have kk:∀b o,s.heap.get? b=some o->(sortedHeap (h'.push (seqObj "list" acc.toList.toArray 0)) h'.objs.size acc.toList out).get? b=some o:=fun b o eb=>by
  have hb:=hk' b o eb
  have hlt:b<h'.objs.size:=Heap.lt_size hb
  rw[sortedHeap_old (Nat.ne_of_lt hlt) (by rw[size_push'];exact Nat.lt_succ_of_lt hlt)]
  exact Heap.get?_push_of_some _ hb
 refine⟨.ref h'.objs.size,_,I.laidAt (o:= .lst ((dr ns).map V.int)) kk hfr ⟨?_,out.toList,e,iz a1,by simpa[seqObj]using he⟩,rfl,q _ (I.hok.nowhere hfr)⟩
 have:=a2.length_eq
 rw[List.length_map]
 have:sizeLine=16777216:=sizeLine_eq
 omega
end
end L2
namespace L2
open PySem PySem.Spec PyProof.Rows
section
variable {prog:Program} {w:World} {A:Around} {E:Value->Shared->Prop} {s:Shared} {I:Addr} {fp wr:List Addr} {G:Array GenState->Array GenState->Prop} {n:Nat} {P:Nat->Value->Prop} {St:Nat->Shared->Prop}
end
section
variable {X:Cx} {e:Expr} {te:TE} {pos p1 p2 pos2:Pos}
end
end L2
namespace L2
open PySem PySem.Spec PyProof.Rows
theorem lx:typeLookup (.type "list") (Str.ofString "keys")=pure none:=by rw[typeLookup_type,builtinLookup_eq_fast];kernel_rfl
theorem kL:typeLookup (.type "tuple") (Str.ofString "keys")=pure none:=by rw[typeLookup_type,builtinLookup_eq_fast];kernel_rfl
theorem dR:entryFor table "dict.update.loop"=some Builtin.«dict.update.loop»:=entryFor_of_tree (by kernel_rfl)
theorem bW:plainId "dict.update.loop"=true:=by decide+kernel
section
variable {prog:Program} {w:World} {A:Around} {E:Value->Shared->Prop} {s:Shared} {a:Addr}
theorem oX {xs:Array Value} {k:Nat} {sl:Array (Option Value)} {Q:Option Value->Shared->Prop} (hx:s.heap.get? a=some {cls:= .type "list",dict:=none,data:= .seq xs k,slots:=sl}) (hA:A.handled=none)
  (h:∀h' tk,(∀b o,s.heap.get? b=some o->h'.get? b=some o)->Q none {s with heap:=h',toks:=tk}):wpAny (model prog w) A (getAttr? (.ref a) "keys") Q E s:=by
 obtain⟨hp,g,d,tk,os⟩:=s
 have hT:∀tk',(⟨hp,g,d,tk',os⟩:Shared).TypeIs (.ref a) "list":=fun _=>⟨_,hx,rfl⟩
 have f1:=sub_AttributeError
 have f3:=PySem.F.slot_list_getattribute.lookup
 have f4:=PySem.F.slot_list_getattribute.bind (.ref a)
 have f5:=am_list_getattr_none
 unfold getAttr? getAttrBy? getAttrBy
 repeat (any_goals (first|assumption|exact hT _|((with_reducible show wpAny _ _ (call (Value.builtin "list.__getattribute__") _ _) _ _ _);refine call_meets PySem.F.slot_list_getattribute (hT _) am_entry_list_getattribute (PySem.F.args_list_getattribute_2 _ _) (meets_getattribute_miss_list a xs k sl _ _ lx (by decide+kernel) (by size_fits)) ⟨hx,hA,fun h' tk' e hx'=> ?_⟩)|wp_step))
 obtain⟨t',u',he⟩:=hx'.there
 show wpAny _ _ (getattributeRaised _ _ _ _ _ _ _) _ _ _
 unfold getattributeRaised
 repeat (any_goals (first|assumption|wp_step))
 exact h _ _ hx'.of.keeps
theorem nV {xs:Array Value} {k:Nat} {sl:Array (Option Value)} {Q:Option Value->Shared->Prop} (hx:s.heap.get? a=some {cls:= .type "tuple",dict:=none,data:= .seq xs k,slots:=sl}) (hA:A.handled=none)
  (h:∀h' tk,(∀b o,s.heap.get? b=some o->h'.get? b=some o)->Q none {s with heap:=h',toks:=tk}):wpAny (model prog w) A (getAttr? (.ref a) "keys") Q E s:=by
 obtain⟨hp,g,d,tk,os⟩:=s
 have hT:∀tk',(⟨hp,g,d,tk',os⟩:Shared).TypeIs (.ref a) "tuple":=fun _=>⟨_,hx,rfl⟩
 have f1:=sub_AttributeError
 have f3:=PySem.F.slot_tuple_getattribute.lookup
 have f4:=PySem.F.slot_tuple_getattribute.bind (.ref a)
 have f5:=am_tuple_getattr_none
 unfold getAttr? getAttrBy? getAttrBy
 repeat (any_goals (first|assumption|exact hT _|((with_reducible show wpAny _ _ (call (Value.builtin "tuple.__getattribute__") _ _) _ _ _);refine call_meets PySem.F.slot_tuple_getattribute (hT _) am_entry_tuple_getattribute (PySem.F.args_tuple_getattribute_2 _ _) (meets_getattribute_miss_tuple a xs k sl _ _ kL (by decide+kernel) (by size_fits)) ⟨hx,hA,fun h' tk' e hx'=> ?_⟩)|wp_step))
 obtain⟨t',u',he⟩:=hx'.there
 show wpAny _ _ (getattributeRaised _ _ _ _ _ _ _) _ _ _
 unfold getattributeRaised
 repeat (any_goals (first|assumption|wp_step))
 exact h _ _ hx'.of.keeps
end
section
variable {prog:Program} {w:World} {A:Around} {R:Result->Shared->Prop} {I:Addr} {fp wr:List Addr} {G:Array GenState->Array GenState->Prop} {n:Nat} {P:Nat->Value->Prop} {St:Nat->Shared->Prop}
noncomputable def qv (key:Nat->bn) (val:Nat->Value):Nat->List (bn×Value)
 |0=>[]
 |i+1=>stored (qv key val i) (key i) (val i)
theorem qw (kvs:List (bn×Value)) (k:bn) (v:Value):(stored kvs k v).length<=kvs.length+1:=by
 unfold stored
 split<;>simp
theorem lz (key:Nat->bn) (val:Nat->Value):∀i,(qv key val i).length<=i
 |0=>Nat.le_refl _
 |i+1=>Nat.le_trans (qw _ _ _) (Nat.succ_le_succ (lz key val i))
theorem sV {h0:Heap} (W:WalksS prog w A.in1 I fp wr G n P St) (S:Addr) (hSf:S∉fp) (hS0:h0.get? S=none) (hw0:∀b∈wr,h0.get? b=none) (key:Nat->bn) (val:Nat->Value) (res:Value) (hn:n<=sizeLine)
  (hP:∀i v,P i v->∃a o kv m,v= .ref a/\h0.get? a=some o/\o.cls= .type "tuple"/\o.data= .seq #[kv,val i] m/\(bz prog w).is (key i) kv=true):
  ∀(k i:Nat) (s:Shared),n - i=k->i<=n->St i s->(∀b o,h0.get? b=some o->s.heap.get? b=some o)->s.heap.DictOf (bz prog w) S (qv key val i)->
   (∀s',Moved (S::wr) G s s'->s'.heap.DictOf (bz prog w) S (qv key val n)->R (.ok (.ret res)) s')->
   codeAny (model prog w) A (.builtin "dict.update.loop" ⟨[.ref S, .ref I,rawInt i,res],[]⟩) R s:=by
 have hSw:S∉wr:=fun h=>hSf (W.sub _ h)
 have hsub:∀b∈wr,b∈S::wr:=fun b hb=>List.mem_cons_of_mem _ hb
 have mv:∀{s s':Shared} {kvs:List (bn×Value)},Moved wr G s s'->s.heap.DictOf (bz prog w) S kvs->s'.heap.DictOf (bz prog w) S kvs:=fun hm hd=>by
  obtain⟨o,es,ep,ho,rest⟩:=hd
  exact⟨o,es,ep,hm.heap S _ hSw ho,rest⟩
 intro k
 induction k with
 |zero=>
  intro i s hk hi hst hk0 hS hR
  have hin:i=n:=by omega
  subst hin
  refine codeAny_builtin dR ?_
  rw[Around.under_plainId bW _]
  show wpAny _ A.in1 (pyNext (.ref I)>>=_) _ _ s
  refine wpAny_bind (W.done s _ _ hst fun s' hm=> ?_)
  show wpAny _ A.in1 (Builtin.Dict.addKeywords S []>>=fun _=>ret res) _ _ s'
  refine wpAny_bind (wpAny_pure ?_)
  exact wpAny_pure (hR s' (hm.mono hsub) (mv hm hS))
 |succ k ih=>
  intro i s hk hi hst hk0 hS hR
  have hlt:i<n:=by omega
  refine codeAny_builtin dR ?_
  rw[Around.under_plainId bW _]
  show wpAny _ A.in1 (pyNext (.ref I)>>=_) _ _ s
  refine wpAny_bind (W.item i s _ _ hlt hst fun v s' hPv hst' hm=> ?_)
  obtain⟨a,o,kv,m,rfl,ho,hc,hd,hkey⟩:=hP i v hPv
  have hk1:∀b o,h0.get? b=some o->s'.heap.get? b=some o:=fun b o e=>hm.heap b o (fun hb=>by rw[hw0 b hb]at e;cases e) (hk0 b o e)
  have ho':=hk1 a o ho
  have hS':=mv hm hS
  dsimp only
  refine wpAny_bind (wpAny_holding ?_)
  refine wpAny_bind (wpAny_tryCatch ?_)
  unfold Builtin.Dict.pairItems
  refine wpAny_bind (wpAny_typeOf (T:="tuple") ⟨o,ho',hc⟩ ?_)
  rw[if_pos (by decide)]
  refine wpAny_bind (wpAny_seqItems ho' hd ?_)
  refine wpAny_pure ?_
  show wpAny _ A.in1 (holding [kv,val i] (dictSet S kv (val i))) _ _ s'
  refine wpAny_holding (wpAny_dictSet_pairs (hsz:=by have:=lz key val i;omega) hkey hS' fun h' hS2 hsb=> ?_)
  refine wpAny_pure ⟨plainId_quiet bW _,ih (i+1) _ (by omega) hlt (W.frame _ s' _ _ hst' (Nat.le_succ _) fun b hb o e=> ?_) (fun b o e=> ?_) hS2 fun s'' hm'' hS''=> ?_⟩
  ·rw[hsb.2 b (fun h:b=S=>hSf (by rw[<-h];exact hb))];exact e
  ·show h'.get? b=some o
   rw[hsb.2 b (fun h:b=S=>by rw[h,hS0]at e;cases e)];exact hk1 b o e
  ·refine hR s'' (Moved.trans W.gtrans ((hm.mono hsub).then_heap (Nat.le_succ _) fun b o hb e=> ?_) hm'') hS''
   rw[hsb.2 b (fun h:b=S=>hb (by rw[h];exact List.mem_cons_self))];exact e
end
section
variable {prog:Program} {w:World} {A:Around} {E:Value->Shared->Prop} {s:Shared} {p:Addr}
noncomputable abbrev Kp (h h':Heap):Prop:=∀b o,h.get? b=some o->h'.get? b=some o
structure xv (prog:Program) (w:World) (h0:Heap) (p:Addr) (T:String) (n:Nat) (P:Nat->Value->Prop):Prop where
 lt:p<h0.objs.size
 ty:∀s:Shared,Kp h0 s.heap->s.TypeIs (.ref p) T
 nd:(Value.type T != Value.type "dict")=true
 no:∀(A:Around) (E:Value->Shared->Prop) (s:Shared) (Q:Option Value->Shared->Prop),A.handled=none->Kp h0 s.heap->(∀h' tk,Kp s.heap h'->Q none {s with heap:=h',toks:=tk})->wpAny (model prog w) A (getAttr? (.ref p) "keys") Q E s
 it:∀(A:Around) (s:Shared),A.handled=none->Kp h0 s.heap->∃(oI:Obj) (St:Nat->Heap->Prop),(∀(A':Around) (E:Value->Shared->Prop) (Q:Value->Shared->Prop),Q (.ref s.heap.objs.size) {s with heap:=s.heap.push oI}->wpAny (model prog w) A' (pyIter (.ref p)) Q E s)/\
  Walks prog w A s.heap.objs.size [s.heap.objs.size,p] [s.heap.objs.size] n P St/\St 0 (s.heap.push oI)
theorem mz {T:String} {n:Nat} {P:Nat->Value->Prop} {Q:Value->Shared->Prop} (S:xv prog w s.heap p T n P) (hh:A.handled=none) (key:Nat->bn) (val:Nat->Value) (hn:n<=sizeLine)
  (hP:∀i v,P i v->∃a o kv m,v= .ref a/\s.heap.get? a=some o/\o.cls= .type "tuple"/\o.data= .seq #[kv,val i] m/\(bz prog w).is (key i) kv=true)
  (h:∀h' tk,Kp s.heap h'->h'.DictOf (bz prog w) s.heap.objs.size (qv key val n)->Q (.ref s.heap.objs.size) {s with heap:=h',toks:=tk}):
  wpAny (model prog w) A (call (.type "dict") [.ref p]) Q E s:=by
 refine callType_codes (Q₁:=fun obj s₁=>obj= .ref s.heap.objs.size/\s₁={s with heap:=s.heap.push {cls:= .type "dict",data:= .dict #[]}}) PySem.F.kt_called_dict (PySem.F.kt_typeCall_dict_1 _) PySem.F.entry_dict_init (kt_code_dict_new _ ⟨rfl,rfl⟩) ?_
 rintro obj s₁ ⟨rfl,rfl⟩
 have hnew:(s.heap.push {cls:= .type "dict",data:= .dict #[]}).DictOf (bz prog w) s.heap.objs.size []:=Heap.DictOf.new s.heap
 have hkp:Kp s.heap (s.heap.push {cls:= .type "dict",data:= .dict #[]}):=fun b o e=>Heap.get?_push_of_some _ e
 refine⟨hnew.typeIs,PySem.F.args_dict_init_2 _ _,?_⟩
 unfold Builtin.«dict.__init__»
 refine wpAny_bind ?_
 unfold Builtin.Dict.selfAndRest
 refine wpAny_bind (wpAny_notOrdered_dict hnew.typeIs ?_)
 show wpAny _ _ (pure (s.heap.objs.size,[Value.ref p])) _ _ _
 refine wpAny_pure ?_
 show wpAny _ _ (Builtin.Dict.updateFrom "dict.__init__" s.heap.objs.size (.ref p) [] .none) _ _ _
 unfold Builtin.Dict.updateFrom
 refine wpAny_bind (wpAny_typeOf (S.ty _ hkp) ?_)
 rw[if_pos S.nd]
 refine wpAny_bind (S.no _ _ _ _ hh hkp fun h1 tk1 k1=> ?_)
 rw[if_pos (show (none:Option Value).isNone=true from rfl)]
 refine wpAny_bind (wpAny_rule ?_)
 have k01:Kp s.heap h1:=fun b o e=>k1 b o (hkp b o e)
 obtain⟨oI,St,hit,W,st⟩:=S.it A.in1.in1 {s with heap:=h1,toks:=tk1} hh k01
 refine wpAny_bind (hit _ _ _ ?_)
 have hS1:h1.DictOf (bz prog w) s.heap.objs.size []:=by
  obtain⟨o,es,ep,ho,rest⟩:=hnew
  exact⟨o,es,ep,k1 _ _ ho,rest⟩
 have hlt1:s.heap.objs.size<h1.objs.size:=by
  obtain⟨o,es,ep,ho,rest⟩:=hS1
  exact Heap.lt_size ho
 have fr:∀c,s.heap.objs.size<=c->s.heap.get? c=none:=fun c hc=>by
  cases e:s.heap.get? c with
  |none=>rfl
  |some o=>exact absurd (Nat.lt_of_lt_of_le (Heap.lt_size e) hc) (Nat.lt_irrefl _)
 refine wpAny_pure ⟨plainId_quiet bW _,sV (h0:=s.heap) W.toS s.heap.objs.size (fun hm=> ?_) (fr _ (Nat.le_refl _)) (fun b hb=> ?_) key val .none hn hP n 0 _ (by omega) (Nat.zero_le _) st (fun b o e=>Heap.get?_push_of_some _ (k01 b o e)) ?_ fun s' hm hS'=> ?_⟩
 ·rcases List.mem_cons.mp hm with z|hm
  ·exact absurd hlt1 (by rw[z];exact Nat.lt_irrefl _)
  ·exact absurd S.lt (by rw[<-List.mem_singleton.mp hm];exact Nat.lt_irrefl _)
 ·rw[List.mem_singleton.mp hb];exact fr _ (Nat.le_of_lt hlt1)
 ·obtain⟨o,es,ep,ho,rest⟩:=hS1
  exact⟨o,es,ep,Heap.get?_push_of_some _ ho,rest⟩
 ·refine⟨rfl,?_⟩
  rw[Moved.eq_with hm]
  refine h s'.heap s'.toks (fun b o e=>hm.heap b o (fun hb=> ?_) (Heap.get?_push_of_some _ (k01 b o e))) hS'
  rcases List.mem_cons.mp hb with rfl|hb
  ·rw[fr _ (Nat.le_refl _)]at e;cases e
  ·rw[List.mem_singleton.mp hb]at e
   rw[fr _ (Nat.le_of_lt hlt1)]at e;cases e
theorem sW {items:Array Value} (h:PlainL s.heap p items):xv prog w s.heap p "list" items.size (fun i v=>items[i]? =some v)where
 lt:=let ⟨_,_,e,_⟩:=h;Heap.lt_size e
 ty:=fun s k=>let ⟨o,n,e,c,_⟩:=h;⟨o,k _ _ e,c⟩
 nd:=by decide
 no:=fun A E s' Q hA k q=>by
  obtain⟨⟨oc,od,odt,osl⟩,n,e,c,d,dt⟩:=h
  cases c;cases d;cases dt
  exact oX (k _ _ e) hA q
 it:=fun A s' hA k=>by
  have hp:PlainL s'.heap p items:=h.keeps k
  have hlt:p<s'.heap.objs.size:=let ⟨_,_,e,_⟩:=hp;Heap.lt_size e
  exact⟨_,_,fun A' E Q q=>wpAny_pyIter_list hp.isList q,Walks.list hA s'.heap.objs.size p (Nat.ne_of_lt hlt) items,⟨⟨_,Heap.get?_push_size _ rfl,rfl,rfl⟩,hp.isList.push _⟩⟩
theorem qx {items:Array Value} (h:e_ s.heap p items):xv prog w s.heap p "tuple" items.size (fun i v=>items[i]? =some v)where
 lt:=h.lt
 ty:=fun s k=>let ⟨o,e,c,_⟩:=h;⟨o,k _ _ e,c⟩
 nd:=by decide
 no:=fun A E s' Q hA k q=>by
  obtain⟨⟨oc,od,odt,osl⟩,e,c,n,dt,d⟩:=h
  cases c;cases d;cases dt
  exact nV (k _ _ e) hA q
 it:=fun A s' hA k=>by
  have hp:IsTup s'.heap p items:=h.tup.keeps k
  have hlt:p<s'.heap.objs.size:=hp.lt
  have hp':s'.heap.IsTuple p items:=hp
  exact⟨_,_,fun A' E Q q=>wpAny_pyIter_tuple hp' q,Walks.tuple hA s'.heap.objs.size p (Nat.ne_of_lt hlt) items,⟨⟨_,Heap.get?_push_size _ rfl,rfl,rfl⟩,show IsTup _ _ _ from hp.push _⟩⟩
end
section
variable {X:Cx}
inductive fO (H:Hp):List V->List (bn×V)->Prop
 |nil:fO H [] []
 |cons {a:Addr} {k:bn} {v:V} {ys:List V} {ps:List (bn×V)}:H a=some (.tup [kV k,v])->fO H ys ps->fO H (.ref a::ys) ((k,v)::ps)
theorem oY (rs:List (bn×Value)) (x:bn×Value):merged [] (rs++[x])=stored (merged [] rs) x.1 x.2:=by
 unfold merged
 rw[List.foldl_append]
 rfl
noncomputable def lA (rs:List (bn×Value)) (i:Nat):bn:=((rs[i]?).map (·.1)).getD (.inl 0)
noncomputable def lB (rs:List (bn×Value)) (i:Nat):Value:=((rs[i]?).map (·.2)).getD .none
theorem hU (rs:List (bn×Value)):∀i,i<=rs.length->qv (lA rs) (lB rs) i=merged [] (rs.take i)
 |0,_=>rfl
 |i+1,h=>by
  have hi:i<rs.length:=h
  show stored (qv (lA rs) (lB rs) i) (lA rs i) (lB rs i)=_
  rw[hU rs i (Nat.le_of_lt hi),List.take_succ_eq_append_getElem hi,oY]
  simp[lA,lB,hi]
theorem lC {P:Program} {w:World} {H:Hp} {h:Heap} (ok:gX P w H h):∀{ys:List V} {ps:List (bn×V)} {us:List Value},fO H ys ps->aO ys us->∃rs:List (bn×Value),KV ps rs/\us.length=rs.length/\
  ∀(i:Nat) v,us[i]? =some v->∃a o kv m,v= .ref a/\h.get? a=some o/\o.cls= .type "tuple"/\o.data= .seq #[kv,lB rs i] m/\(bz P w).is (lA rs i) kv=true
 |_,_,_, .nil, .nil=>⟨[], .nil,rfl,fun i v h=>by simp at h⟩
 |_,_,_, .cons (a:=a) (k:=k) (v:=v) ha t, .cons ru rt=>by
  obtain⟨rs,h1,h2,h3⟩:=lC ok t rt
  obtain⟨_,its,r,o,g1,g2,n,g3,_⟩:=(show bK P w H h a (.tup [kV k,v])from ok a _ ha)
  obtain⟨x,y,rfl,rx,ry⟩:=r.two
  refine⟨(k,y)::rs, .cons ⟨rfl,ry⟩ h1,by simp[h2],fun i v' hv=> ?_⟩
  cases i with
  |zero=>
   simp at hv
   subst hv
   exact⟨a,o,x,n,ru,g1,g2,g3,mV rx⟩
  |succ i=>exact h3 i v' (by simpa using hv)
theorem oZ (hc:X.calm=true):cG X (.type "dict") (fun xs H Q=>∃p ys ps,xs=[.ref p]/\(H p=some (.lst ys)\/H p=some (.tup ys))/\fO H ys ps/\∀l,H l=none->Q (.ref l) (br H l (.dK (gE [] ps)))):=by
 intro pins s σ H xs us Q I rv h
 obtain⟨p,ys,ps,rfl,hp,pa,q⟩:=h
 obtain⟨u,rfl,ru⟩:=gj rv
 cases ru
 have fin:∀(its:List Value) (T:String),aO ys its->ys.length<=sizeLine->xv X.prog X.w s.heap p T its.toArray.size (fun i v=>its.toArray[i]? =some v)->
   wpAny (model X.prog X.w) X.A (call (.type "dict") [.ref p]) (EP X pins σ Q) X.xe s:=by
  intro its T r hz S
  obtain⟨rs,h1,h2,h3⟩:=lC I.hok pa r
  have hl:=r.length
  refine mz S (I.ok.hd hc) (lA rs) (lB rs) (by rw[List.size_toArray];omega) (fun i v hv=>h3 i v (by simpa using hv)) fun h' tk k hd=> ?_
  have en:its.toArray.size=rs.length:=by rw[<-h2];exact List.size_toArray
  rw[en,hU rs _ (Nat.le_refl _),List.take_length]at hd
  have hkv:KV (gE [] ps) (merged [] rs):=KV.merge h1 .nil
  refine⟨.ref s.heap.objs.size,_,I.laid (t':=tk) (o:= .dK (gE [] ps)) k (Nat.le_refl _) (uJ ?_ ?_ hkv hd),rfl,q _ (I.hok.fresh (Nat.le_refl _))⟩
  ·rw[KV.length hkv]
   have:(merged [] rs).length<=rs.length:=by
    have:=lz (lA rs) (lB rs) rs.length
    rwa [hU rs _ (Nat.le_refl _),List.take_length]at this
   omega
  ·exact beq_eq_false_iff_ne.mpr (Nat.ne_of_gt I.big)
 rcases hp with hp|hp
 ·obtain⟨its,r,pl,hz⟩:=I.list (cT.of hp)
  exact fin its "list" r hz (sW pl)
 ·obtain⟨hz,its,r,pl⟩:=(show bK X.prog X.w H s.heap p (.tup ys)from I.hok p _ hp)
  exact fin its "tuple" r hz (qx pl)
end
end L2
namespace L2
open PySem PySem.Spec PyProof.Rows PySem.W
noncomputable def iI {α:Type} (V:Nat->Nat->Prop) (lt:Nat->Nat->Bool):KasT α->(α->Prop)->Prop
 | .ret a,Q=>Q a
 | .ask i j k,Q=>V i j/\iI V lt (k (lt i j)) Q
theorem iI.imp {α:Type} {V:Nat->Nat->Prop} {lt:Nat->Nat->Bool} {Q Q':α->Prop} (w:∀a,Q a->Q' a):∀{t:KasT α},iI V lt t Q->iI V lt t Q'
 | .ret a,h=>w a h
 | .ask i j k,h=>⟨h.1,iI.imp w h.2⟩
theorem iI.bind {α β:Type} {V:Nat->Nat->Prop} {lt:Nat->Nat->Bool} {f:α->KasT β} {Q:β->Prop}:∀{t:KasT α},iI V lt t (fun a=>iI V lt (f a) Q)->iI V lt (t.bind f) Q
 | .ret a,h=>h
 | .ask i j k,h=>⟨h.1,iI.bind h.2⟩
theorem iI.wp {α:Type} {V:Nat->Nat->Prop} {lt:Nat->Nat->Bool} {cmp:Nat->Nat->(Bool->Shared->Prop)->Shared->Prop} {Good:Shared->Prop} (hc:∀i j C s,V i j->Good s->(∀s',Good s'->C (lt i j) s')->cmp i j C s) {Q:α->Shared->Prop}:
  ∀{t:KasT α} {s:Shared},iI V lt t (fun a=>∀s',Good s'->Q a s')->Good s->t.kasWp cmp Q s
 | .ret a,s,h,g=>h s g
 | .ask i j k,s,h,g=>hc i j _ s h.1 g fun s' g'=>iI.wp hc h.2 g'
section
variable {n:Nat} {key:Nat->Int}
noncomputable def kk (key:Nat->Int) (p:Array Nat) (i:Nat):Int:=key (p.getD i 0)
noncomputable def qy (key:Nat->Int) (i j:Nat):Bool:=decide (key i<key j)
noncomputable def Pr (n i j:Nat):Prop:=i<n/\j<n/\i≠j
structure mr (n:Nat) (p:Array Nat):Prop where
 sz:p.size=n
 perm:p.toList.Perm (List.range n)
theorem mr.lt {p:Array Nat} (h:mr n p) {i:Nat} (hi:i<n):p.getD i 0<n:=by
 have hi':i<p.size:=by rw[h.sz];exact hi
 have:p.getD i 0=p[i]:=by simp[Array.getD,hi']
 rw[this]
 exact List.mem_range.mp (h.perm.mem_iff.mp (by simp))
theorem mr.inj {p:Array Nat} (h:mr n p) {i j:Nat} (hi:i<n) (hj:j<n) (e:p.getD i 0=p.getD j 0):i=j:=by
 have hi':i<p.size:=by rw[h.sz];exact hi
 have hj':j<p.size:=by rw[h.sz];exact hj
 have e1:p.getD i 0=p[i]:=by simp[Array.getD,hi']
 have e2:p.getD j 0=p[j]:=by simp[Array.getD,hj']
 rw[e1,e2]at e
 have nd:p.toList.Nodup:=(h.perm.nodup_iff).mpr List.nodup_range
 have hp:=List.pairwise_iff_getElem.mp nd
 have el:p.toList[i]'(by simpa using hi')=p.toList[j]'(by simpa using hj'):=by simpa using e
 rcases Nat.lt_trichotomy i j with z|z|z
 ·exact absurd el (hp i j _ _ z)
 ·exact z
 ·exact absurd el.symm (hp j i _ _ z)
theorem mr.pr {p:Array Nat} (h:mr n p) {i j:Nat} (hi:i<n) (hj:j<n) (hij:i≠j):Pr n (p.getD i 0) (p.getD j 0):=⟨h.lt hi,h.lt hj,fun z=>hij (h.inj hi hj z)⟩
noncomputable def q9 (key:Nat->Int) (p:Array Nat) (m:Nat):Prop:=∀i j,i<j->j<m->kk key p i<kk key p j
noncomputable def Aa (key:Nat->Int) (p:Array Nat) (m:Nat):Prop:=∀i j,i<j->j<m->kk key p j<kk key p i
theorem q9.more {p:Array Nat} {m:Nat} (h:q9 key p (m+1)) (hl:kk key p m<kk key p (m+1)):q9 key p (m+2):=fun i j hij hj=>by
 by_cases e:j=m+1
 ·subst e
  by_cases e2:i=m
  ·subst e2;exact hl
  ·exact Int.lt_trans (h i m (by omega) (by omega)) hl
 ·exact h i j hij (by omega)
theorem Aa.more {p:Array Nat} {m:Nat} (h:Aa key p (m+1)) (hl:kk key p (m+1)<kk key p m):Aa key p (m+2):=fun i j hij hj=>by
 by_cases e:j=m+1
 ·subst e
  by_cases e2:i=m
  ·subst e2;exact hl
  ·exact Int.lt_trans hl (h i m (by omega) (by omega))
 ·exact h i j hij (by omega)
theorem qz {p:Array Nat} (o:mr n p) (hk:∀i j,i<n->j<n->key i=key j->i=j):∀(f m:Nat),q9 key p (m+1)->m+1+f=n->iI (Pr n) (qy key) (kas_asc p f (m+1)) fun r=>m+1<=r/\r<=n/\q9 key p r/\(r<n->kk key p r<kk key p (r - 1))
 |0,m,h,e=>⟨Nat.le_refl _,by omega,h,fun z=>by omega⟩
 |f+1,m,h,e=>by
  refine⟨o.pr (by omega) (by omega) (by omega),?_⟩
  rw[Nat.add_sub_cancel]
  by_cases hl:kk key p (m+1)<kk key p m
  ·simp only[show qy key (p.getD (m+1) 0) (p.getD m 0)=true from decide_eq_true hl,if_true]
   exact⟨Nat.le_refl _,by omega,h,fun _=>by rw[Nat.add_sub_cancel];exact hl⟩
  ·simp only[show qy key (p.getD (m+1) 0) (p.getD m 0)=false from decide_eq_false hl,Bool.false_eq_true,if_false]
   have hne:kk key p m≠kk key p (m+1):=fun z=>by
    have:=o.inj (i:=m) (j:=m+1) (by omega) (by omega) (hk _ _ (o.lt (by omega)) (o.lt (by omega)) z)
    omega
   refine iI.imp (fun r ⟨a,b,c,d⟩=>⟨by omega,b,c,d⟩) (qz o hk f (m+1) (h.more (by omega)) (by omega))
theorem uP {p:Array Nat} (o:mr n p) (hk:∀i j,i<n->j<n->key i=key j->i=j):∀(f m:Nat),Aa key p (m+1)->m+1+f=n->iI (Pr n) (qy key) (kas_desc f p (m+1) 0) fun r=>r.1=p/\r.2.2=0/\m+1<=r.2.1/\r.2.1<=n/\Aa key p r.2.1
 |0,m,h,e=>⟨rfl,rfl,Nat.le_refl _,by show m+1<=n;omega,h⟩
 |f+1,m,h,e=>by
  refine⟨o.pr (by omega) (by omega) (by omega),?_⟩
  rw[Nat.add_sub_cancel]
  by_cases hl:kk key p (m+1)<kk key p m
  ·simp only[show qy key (p.getD (m+1) 0) (p.getD m 0)=true from decide_eq_true hl,if_true,gt_iff_lt,Nat.lt_irrefl,if_false]
   exact iI.imp (fun r ⟨a,b,c,d⟩=>⟨a,b,by omega,d⟩) (uP o hk f (m+1) (h.more hl) (by omega))
  ·simp only[show qy key (p.getD (m+1) 0) (p.getD m 0)=false from decide_eq_false hl,Bool.false_eq_true,if_false]
   have hne:kk key p m≠kk key p (m+1):=fun z=>by
    have:=o.inj (i:=m) (j:=m+1) (by omega) (by omega) (hk _ _ (o.lt (by omega)) (o.lt (by omega)) z)
    omega
   have hl2:kk key p m<kk key p (m+1):=by omega
   refine⟨o.pr (by omega) (by omega) (by omega),?_⟩
   simp only[show qy key (p.getD m 0) (p.getD (m+1) 0)=true from decide_eq_true hl2,if_true]
   exact⟨rfl,rfl,Nat.le_refl _,by show m+1<=n;omega,h⟩
theorem kX {p q:Array Nat} {i j:Nat} (h:p[i]? =q[j]?):p.getD i 0=q.getD j 0:=by
 rw[Array.getD_eq_getD_getElem?,Array.getD_eq_getD_getElem?,h]
theorem xw {p:Array Nat} (o:mr n p) (i j:Nat):mr n (kas_rev p i j):=
 ⟨by unfold kas_rev;rw[mirror_size];exact o.sz,(Array.perm_iff_toList_perm.mp (mirror_perm p i j _)).trans o.perm⟩
theorem xx {p:Array Nat} (o:mr n p) {m:Nat} (hm:m<=n) (h:Aa key p m):q9 key (kas_rev p 0 m) m:=fun i j hij hj=>by
 have e:∀k,k<m->kk key (kas_rev p 0 m) k=kk key p (m - 1 - k):=fun k hk=>by
  unfold kk
  congr 1
  refine kX ?_
  have:=getElem?_mirror_all (xs:=p) (i:=0) (j:=m) (by rw[o.sz];exact hm) k
  unfold kas_rev
  rw[this,if_pos ⟨Nat.zero_le _,hk⟩,Nat.zero_add]
 rw[e i (by omega),e j hj]
 exact h _ _ (by omega) (by omega)
theorem uQ {p:Array Nat} (o:mr n p) (hn:2<=n) (hk:∀i j,i<n->j<n->key i=key j->i=j):iI (Pr n) (qy key) (kas_count n p) fun r=>1<=r.1/\r.1<=n/\mr n r.2/\q9 key r.2 r.1:=by
 unfold kas_count
 refine iI.bind (iI.imp (fun m ⟨h1,h2,h3,h4⟩=> ?_) (qz o hk (n - 1) 0 (fun i j hij hj=>by omega) (by omega)))
 by_cases e:m=n
 ·rw[if_pos (by simp[e])];exact⟨by show 1<=m;omega,h2,o,h3⟩
 ·rw[if_neg (by simp[e])]
  by_cases e1:m>1
  ·rw[if_pos e1]
   refine⟨o.pr (by omega) (by omega) (by omega),?_⟩
   simp only[show qy key (p.getD 0 0) (p.getD (m - 1) 0)=true from decide_eq_true (h3 0 (m - 1) (by omega) (by omega)),if_true]
   exact⟨by show 1<=m;omega,h2,o,h3⟩
  ·have em:m=1:=by omega
   subst em
   rw[if_neg (by omega)]
   have hd:Aa key p 2:=fun i j hij hj=>by
    have hi:i=0:=by omega
    have hj':j=1:=by omega
    subst hi;subst hj'
    exact h4 (by omega)
   unfold kas_descPart
   refine iI.bind (iI.imp (fun r ⟨a,b,c,d,g⟩=> ?_) (uP o hk (n - (1+1)) 1 hd (by omega)))
   rw[if_neg (by omega)]
   unfold kas_tail3
   rw[a]
   have o2:=xw o 0 r.2.1
   obtain⟨q,hq⟩:∃q,r.2.1=q+1:=⟨r.2.1 - 1,by omega⟩
   rw[hq]at d g o2 ⊢
   refine iI.bind (iI.imp (fun m2 ⟨x1,x2,x3,_⟩=>⟨by show 1<=m2;omega,x2,o2,x3⟩) (qz o2 hk (n - (q+1)) q (xx o d g) (by omega)))
theorem lD {p:Array Nat} (o:mr n p) (hk:∀i j,i<n->j<n->key i=key j->i=j) {k:Nat} (hkn:k<n) (ha:q9 key p k):∀(f l r:Nat),l<=r->r<=k->r - l<=f->(∀i,i<l->kk key p i<kk key p k)->(∀i,r<=i->i<k->kk key p k<kk key p i)->
  iI (Pr n) (qy key) (kas_place p k f l r) fun m=>m<=k/\(∀i,i<m->kk key p i<kk key p k)/\∀i,m<=i->i<k->kk key p k<kk key p i
 |0,l,r,h1,h2,h3,h4,h5=>⟨by omega,h4,fun i hi=>h5 i (by omega)⟩
 |f+1,l,r,h1,h2,h3,h4,h5=>by
  unfold kas_place
  by_cases e:l>=r
  ·rw[if_pos e];exact⟨by omega,h4,fun i hi=>h5 i (by omega)⟩
  ·rw[if_neg e]
   refine⟨o.pr hkn (by omega) (by omega),?_⟩
   have hm1:(l+r) / 2<r:=by omega
   have hm2:l<=(l+r) / 2:=by omega
   by_cases hl:kk key p k<kk key p ((l+r) / 2)
   ·simp only[show qy key (p.getD k 0) (p.getD ((l+r) / 2) 0)=true from decide_eq_true hl,if_true]
    refine lD o hk hkn ha f l ((l+r) / 2) hm2 (by omega) (by omega) h4 fun i hi hik=> ?_
    by_cases z:i=(l+r) / 2
    ·subst z;exact hl
    ·exact Int.lt_trans hl (ha _ _ (by omega) hik)
   ·simp only[show qy key (p.getD k 0) (p.getD ((l+r) / 2) 0)=false from decide_eq_false hl,Bool.false_eq_true,if_false]
    have hne:kk key p ((l+r) / 2)≠kk key p k:=fun z=>by
     have:=o.inj (i:=(l+r) / 2) (j:=k) (by omega) hkn (hk _ _ (o.lt (by omega)) (o.lt hkn) z)
     omega
    have hl2:kk key p ((l+r) / 2)<kk key p k:=by omega
    refine lD o hk hkn ha f ((l+r) / 2+1) r (by omega) h2 (by omega) (fun i hi=> ?_) h5
    by_cases z:i=(l+r) / 2
    ·subst z;exact hl2
    ·exact Int.lt_trans (ha _ _ (show i<(l+r) / 2 by omega) (by omega)) hl2
theorem xy {p:Array Nat} (o:mr n p) {k m:Nat} (hkn:k<n) (hm:m<=k) (ha:q9 key p k) (h1:∀i,i<m->kk key p i<kk key p k) (h2:∀i,m<=i->i<k->kk key p k<kk key p i):mr n (bubble p k (k - m))/\q9 key (bubble p k (k - m)) (k+1):=by
 refine⟨⟨by rw[bubble_size];exact o.sz,(Array.perm_iff_toList_perm.mp (bubble_perm p k _)).trans o.perm⟩,fun i j hij hj=> ?_⟩
 have e:∀q,kk key (bubble p k (k - m)) q=if q=m then kk key p k else if m<q/\q<=k then kk key p (q - 1)else kk key p q:=fun q=>by
  have:=getElem?_bubble (xs:=p) (src:=k) (by rw[o.sz];exact hkn) (k - m) (by omega) q
  rw[show k - (k - m)=m by omega]at this
  unfold kk
  split
  ·rename_i z;rw[if_pos z]at this;congr 1;exact kX this
  ·rename_i z
   rw[if_neg z]at this
   split
   ·rename_i z2;rw[if_pos z2]at this;congr 1;exact kX this
   ·rename_i z2;rw[if_neg z2]at this;congr 1;exact kX this
 rw[e i,e j]
 by_cases i1:i=m
 ·rw[if_pos i1,if_neg (by omega),if_pos (by omega)]
  exact h2 _ (by omega) (by omega)
 ·rw[if_neg i1]
  by_cases i2:m<i/\i<=k
  ·rw[if_pos i2,if_neg (by omega),if_pos (by omega)]
   exact ha _ _ (by omega) (by omega)
  ·rw[if_neg i2]
   by_cases j1:j=m
   ·rw[if_pos j1];exact h1 i (by omega)
   ·rw[if_neg j1]
    by_cases j2:m<j/\j<=k
    ·rw[if_pos j2]
     by_cases z:i=j - 1
     ·omega
     ·exact ha _ _ (by omega) (by omega)
    ·rw[if_neg j2];exact ha _ _ hij (by omega)
theorem uR (hk:∀i j,i<n->j<n->key i=key j->i=j):∀(f:Nat) (p:Array Nat) (k:Nat),mr n p->q9 key p k->k+f=n->iI (Pr n) (qy key) (kas_bin f p k) fun q=>mr n q/\q9 key q n
 |0,p,k,o,h,e=>⟨o,by rw[<-e];exact h⟩
 |f+1,p,k,o,h,e=>by
  unfold kas_bin
  refine iI.bind (iI.imp (fun m ⟨h1,h2,h3⟩=> ?_) (lD o hk (show k<n by omega) h k 0 k (Nat.zero_le _) (Nat.le_refl _) (by omega) (fun i hi=>by omega) fun i h1 h2=>by omega))
  obtain⟨o2,a2⟩:=xy o (show k<n by omega) h1 h h2 h3
  exact uR hk f _ (k+1) o2 a2 (by omega)
theorem xz (hn:2<=n) (hk:∀i j,i<n->j<n->key i=key j->i=j):iI (Pr n) (qy key) (kas_sort n) fun q=>mr n q/\q9 key q n:=by
 have o:mr n (List.toArray (List.range n)):=⟨by simp,by simp⟩
 unfold kas_sort
 refine iI.bind (iI.imp (fun r ⟨h1,h2,h3,h4⟩=> ?_) (uQ o hn hk))
 by_cases e:r.1<n
 ·rw[if_pos e,show max r.1 1=r.1 by omega]
  exact uR hk _ _ _ h3 h4 (by omega)
 ·rw[if_neg e]
  have:r.1=n:=by omega
  rw[this]at h4
  exact⟨h3,h4⟩
end
end L2
namespace L2
open PySem PySem.Spec PyProof.Rows PySem.W
section
variable {prog:Program} {w:World} {A:Around} {E:Value->Shared->Prop} {s:Shared}
noncomputable def jW (h:Heap) (v:Value) (k:Int):Prop:=∃b o t rest m,v= .ref b/\h.get? b=some o/\o.cls= .type "tuple"/\o.data= .seq (Array.mk (Value.int k t::rest)) m
theorem Ab {v u:Value} {k l:Int} {Q:Bool->Shared->Prop} (hv:jW s.heap v k) (hu:jW s.heap u l) (hne:k≠l) (h:Q (decide (k<l)) s):wpAny (model prog w) A (keyLt' (tuples' true) v u) Q E s:=by
 obtain⟨b,o,t,rest,m,rfl,h1,h2,h3⟩:=hv
 obtain⟨b',o',t',rest',m',rfl,g1,g2,g3⟩:=hu
 refine kat_lt h1 h3 g1 g3 ?_
 show KatLex prog w A true _ Q ((Value.int k t,Value.int l t')::rest.zip rest') 0 s
 refine kat_cons (wpAny_eqBool_int ?_)
 have e:(k==l)=false:=beq_eq_false_iff_ne.mpr hne
 rw[e]
 exact kat_no (oneLt_int h)
theorem mZ:∀{vs:List Value} {ks:List Int},vs.length=ks.length->(∀(i:Nat) v,vs[i]? =some v->jW s.heap v (ks.getD i 0))->∃fs:List Value,KatTups s.heap vs fs/\fs.length=vs.length/\∀f∈fs,∃k t,f=Value.int k t
 |[],ks,_,_=>⟨[], .nil,rfl,fun f hf=>by cases hf⟩
 |v::vs,[],hl,_=>by cases hl
 |v::vs,k::ks,hl,h=>by
  obtain⟨fs,h1,h2,h3⟩:=mZ (vs:=vs) (ks:=ks) (by simpa using hl) fun i u hu=>by
   have:=h (i+1) u (by simpa using hu)
   simpa using this
  obtain⟨b,o,t,rest,m,rfl,g1,g2,g3⟩:=h 0 v rfl
  refine⟨_::fs,KatTups.cons g1 g2 g3 (f:=Value.int ((k::ks).getD 0 0) t) rfl h1,by simp[h2],fun f hf=> ?_⟩
  rcases List.mem_cons.mp hf with rfl|hf
  ·exact⟨_,_,rfl⟩
  ·exact h3 f hf
noncomputable def lE (ks:List Int) (p:List Nat):Prop:=p.Perm (List.range ks.length)/\(p.map fun i=>ks.getD i 0).Pairwise (·<·)
theorem nW {key:Nat->Int} {p:Array Nat} {n:Nat} (hs:p.size=n) (h:q9 key p n):(p.toList.map key).Pairwise (·<·):=by
 refine List.pairwise_iff_getElem.mpr fun i j hi hj hij=> ?_
 rw[List.length_map,Array.length_toList]at hi hj
 have:=h i j hij (by omega)
 unfold kk at this
 simpa[Array.getD,hi,hj]using this
theorem sX {α β:Type} {vs:List α} {ks:List β} (hl:vs.length=ks.length) (h:vs.length<2):(vs=[]/\ks=[])\/∃v k,vs=[v]/\ks=[k]:=by
 cases vs with
 |nil=>exact .inl ⟨rfl,List.length_eq_zero_iff.mp hl.symm⟩
 |cons v vs=>
  cases vs with
  |nil=>
   obtain⟨k,hk⟩:=List.length_eq_one_iff.mp hl.symm
   exact .inr ⟨v,k,rfl,hk⟩
  |cons=>exact absurd h (by simp only[List.length_cons];omega)
theorem lF {a:Addr} {vs:List Value} {ks:List Int} {n:Nat} {P:PySem.Fin->Shared->Prop} (ho:s.heap.get? a=some (seqObj "list" vs.toArray n)) (hl:vs.length=ks.length) (hv:∀(i:Nat) v,vs[i]? =some v->jW s.heap v (ks.getD i 0)) (hnd:ks.Nodup) (h64:vs.length<64)
  (h:∀p:List Nat,lE ks p->P (.done (.ret .none)) {s with heap:=sortedHeap s.heap a vs (List.toArray (p.map fun i=>vs.getD i Value.none))}):
  wpAny (model prog w) A (Builtin.«list.sort» ⟨[.ref a],[]⟩) P E s:=by
 rw[list_sort_plain]
 have ha:a<s.heap.objs.size:=Heap.lt_size ho
 refine wpAny_bind (listItems_at ho rfl ?_)
 refine wpAny_bind (listUpdate_at ho rfl ?_ (hsz2:=Nat.zero_le _) (hsz:=by rw[List.size_toArray,sizeLine_eq];omega))
 obtain⟨e1,ho1⟩:∃e1,(s.heap.update a (Obj.mapSeq fun _=> #[])).get? a=some (seqObj "list" #[] e1):=⟨_,get?_update_seq ho (fun _=> #[])⟩
 refine wpAny_bind (seqEpoch_at ho1 rfl ?_)
 refine wpAny_bind (wpAny_newTuple ?_ (by show vs.length<=_;rw[sizeLine_eq];omega))
 refine wpAny_bind (wpAny_newList ?_ (Nat.zero_le _))
 refine wpAny_holding ?_
 have old:∀b o,b≠a->s.heap.get? b=some o->(((s.heap.update a (Obj.mapSeq fun _=> #[])).push (seqObj "tuple" vs.toArray 0)).push (seqObj "list" #[] 0)).get? b=some o:=fun b o hb e=>by
  refine Heap.get?_push_of_some _ (Heap.get?_push_of_some _ ?_)
  rw[Heap.get?_update_ne _ _ _ _ hb];exact e
 have ho6:(((s.heap.update a (Obj.mapSeq fun _=> #[])).push (seqObj "tuple" vs.toArray 0)).push (seqObj "list" #[] 0)).get? a=some (seqObj "list" #[] e1):=Heap.get?_push_of_some _ (Heap.get?_push_of_some _ ho1)
 have hv':∀(i:Nat) v,vs[i]? =some v->jW (((s.heap.update a (Obj.mapSeq fun _=> #[])).push (seqObj "tuple" vs.toArray 0)).push (seqObj "list" #[] 0)) v (ks.getD i 0):=fun i v e=>by
  obtain⟨b,o,t,rest,m,rfl,g1,g2,g3⟩:=hv i v e
  refine⟨b,o,t,rest,m,rfl,old b o (fun z=> ?_) g1,g2,g3⟩
  subst z
  rw[ho]at g1
  cases g1
  exact absurd (show Value.type "list"=Value.type "tuple" from g2) (by decide)
 show wpAny (model prog w) A _ P E {s with heap:=((s.heap.update a (Obj.mapSeq fun _=> #[])).push (seqObj "tuple" vs.toArray 0)).push (seqObj "list" #[] 0)}
 dsimp only
 have hsz:vs.toArray.size=vs.length:=by simp
 have hmap:∀p:List Nat,p.length=vs.length->(List.toArray (p.map fun i=>vs.getD i Value.none)).size<=sizeLine:=fun p hp=>by
  rw[List.size_toArray,List.length_map,hp,sizeLine_eq];omega
 by_cases h2:vs.toArray.size<2
 ·rw[if_pos h2,if_pos h2]
  refine wpAny_bind (wpAny_pure ?_)
  rw[StateT.run_pure]
  refine wpAny_bind (wpAny_pure ?_)
  dsimp only
  obtain⟨p,hp,hpl,heq⟩:∃p:List Nat,lE ks p/\p.length=vs.length/\Array.map (fun x=>x.2) (arrOf (SortSt.mk' general' (vs.toArray.zip vs.toArray) #[] 7 none))=List.toArray (p.map fun i=>vs.getD i Value.none):=by
   rcases sX hl (by simpa using h2)with ⟨rfl,rfl⟩|⟨v,k,rfl,rfl⟩
   ·exact⟨[],⟨List.Perm.refl _,List.Pairwise.nil⟩,rfl,by show Array.map (fun x:Keyed=>x.2) ((#[]:Array Value).zip #[])=_;simp⟩
   ·exact⟨[0],⟨List.Perm.refl _,List.pairwise_singleton _ _⟩,rfl,by show Array.map (fun x:Keyed=>x.2) ((#[v]:Array Value).zip #[v])=_;simp⟩
  refine wpAny_bind (seqEpoch_at ho6 rfl ?_)
  have heq':Array.map (fun x=>x.2) (arrOf (SortSt.mk' general' (vs.toArray.zip vs.toArray) #[] 7 none))=List.toArray (p.map fun i=>vs.getD i Value.none):=heq
  refine wpAny_bind (listUpdate_at ho6 rfl ?_ (hsz2:=by have:=hmap p hpl;rw[<-heq']at this;exact Nat.le_succ_of_le this))
  simp only[bne_self_eq_false,Bool.false_eq_true,if_false]
  have hh:=h p hp
  rw[<-heq']at hh
  exact wpAny_pure hh
 ·rw[if_neg h2,if_neg h2]
  have hn2:2<=vs.length:=by rw[hsz]at h2;omega
  obtain⟨fs,t1,t2,t3⟩:=mZ (s:={s with heap:=((s.heap.update a (Obj.mapSeq fun _=> #[])).push (seqObj "tuple" vs.toArray 0)).push (seqObj "list" #[] 0)}) hl hv'
  refine wpAny_bind (kat_kind (T:= .type "int") t1 (by omega) (fun v hv=> ?_) (by decide) ?_)
  ·obtain⟨k,t,rfl⟩:=t3 v hv
   exact .now
  rw[show (Value.type "int" != Value.type "tuple")=true by decide]
  have tree:(kas_sort vs.length).kasWp (kas_ask prog w A (tuples' true) vs) (fun p s'=>s'={s with heap:=((s.heap.update a (Obj.mapSeq fun _=> #[])).push (seqObj "tuple" vs.toArray 0)).push (seqObj "list" #[] 0)}/\mr vs.length p/\q9 (fun i=>ks.getD i 0) p vs.length) {s with heap:=((s.heap.update a (Obj.mapSeq fun _=> #[])).push (seqObj "tuple" vs.toArray 0)).push (seqObj "list" #[] 0)}:=by
   have hinj:∀i j,i<vs.length->j<vs.length->ks.getD i 0=ks.getD j 0->i=j:=fun i j hi hj e=>by
    have hp:=List.pairwise_iff_getElem.mp hnd
    have e':ks[i]'(by omega)=ks[j]'(by omega):=by simpa[show i<ks.length by omega,show j<ks.length by omega]using e
    rcases Nat.lt_trichotomy i j with z|z|z
    ·exact absurd e' (hp i j _ _ z)
    ·exact z
    ·exact absurd e'.symm (hp j i _ _ z)
   refine iI.wp (V:=Pr vs.length) (lt:=qy fun i=>ks.getD i 0) (Good:=fun s'=>s'={s with heap:=((s.heap.update a (Obj.mapSeq fun _=> #[])).push (seqObj "tuple" vs.toArray 0)).push (seqObj "list" #[] 0)}) (fun i j C s' hpr hg hC=> ?_) (iI.imp (fun p hp s' hs'=>⟨hs',hp⟩) (xz hn2 hinj)) rfl
   subst hg
   have hi:vs[i]? =some (vs.getD i Value.none):=by simp[hpr.1]
   have hj:vs[j]? =some (vs.getD j Value.none):=by simp[hpr.2.1]
   exact Ab (hv' i _ hi) (hv' j _ hj) (fun z=>hpr.2.2 (hinj i j hpr.1 hpr.2.1 z)) (hC _ rfl)
  refine wpAny_bind (wpAny_mono (kat_run (vs:=vs) (ks:=vs) (Q:=fun st' s'=>∃p:Array Nat,arrOf st'=p.map (kas_item (vs.toArray.zip vs.toArray))/\failedOf st'=none/\s'={s with heap:=((s.heap.update a (Obj.mapSeq fun _=> #[])).push (seqObj "tuple" vs.toArray 0)).push (seqObj "list" #[] 0)}/\mr vs.length p/\q9 (fun i=>ks.getD i 0) p vs.length)
   rfl hn2 h64 (fun p' st' s' a1 a2 a3 a4=>⟨p',a2,a3,a4⟩) tree) ?_ fun _ _ e=>e)
  rintro⟨⟨⟩,st'⟩ s' ⟨p,har,hf,rfl,ord,asc⟩
  dsimp only
  have hout:=kat_snds (vs:=vs) (ks:=vs) rfl har
  have hpl:p.toList.length=vs.length:=by rw[Array.length_toList];exact ord.sz
  refine wpAny_bind (seqEpoch_at ho6 rfl ?_)
  rw[hout]
  refine wpAny_bind (listUpdate_at ho6 rfl ?_ (hsz2:=Nat.le_succ_of_le (hmap _ hpl)))
  rw[hf]
  simp only[bne_self_eq_false,Bool.false_eq_true,if_false]
  exact wpAny_pure (h p.toList ⟨by rw[<-hl];exact ord.perm,nW ord.sz asc⟩)
end
section
variable {X:Cx}
inductive gH (H:Hp):List V->List Int->Prop
 |nil:gH H [] []
 |cons {a:Addr} {k:Int} {rest ys:List V} {ks:List Int}:H a=some (.tup (.int k::rest))->gH H ys ks->gH H (.ref a::ys) (k::ks)
theorem gH.length {H:Hp}:∀{ys:List V} {ks:List Int},gH H ys ks->ys.length=ks.length
 |_,_, .nil=>rfl
 |_,_, .cons _ t=>by rw[List.length_cons,List.length_cons,t.length]
theorem o_ {P:Program} {w:World} {H:Hp} {h h':Heap} (ok:gX P w H h) (kp:∀b o,h.get? b=some o->h'.get? b=some o):∀{ys:List V} {ks:List Int} {us:List Value},gH H ys ks->aO ys us->∀(i:Nat) v,us[i]? =some v->jW h' v (ks.getD i 0)
 |_,_,_, .nil, .nil,i,v,e=>by simp at e
 |_,_,_, .cons (a:=a) (k:=k) (rest:=rest) ha t, .cons ru rt,i,v,e=>by
  cases i with
  |zero=>
   simp at e
   subst e
   obtain⟨_,its,r,o,h1,h2,n,h3,_⟩:=(show bK P w H h a (.tup (.int k::rest))from ok a _ ha)
   cases r with
   |cons rk rr=>
    obtain⟨t,rfl⟩:=rk
    exact⟨a,o,t,_,n,ru,kp _ _ h1,h2,h3⟩
  |succ i=>exact o_ ok kp t rt i v (by simpa using e)
theorem m_ {ys:List V} {us:List Value} (r:aO ys us):∀p:List Nat,(∀i∈p,i<ys.length)->aO (p.map fun i=>ys.getD i .non) (p.map fun i=>us.getD i Value.none)
 |[],_=> .nil
 |i::p,h=>by
  have hi:=h i List.mem_cons_self
  have hy:ys[i]? =some (ys.getD i .non):=by simp[hi]
  obtain⟨u,hu,ru⟩:=r.get hy
  have e:us.getD i Value.none=u:=by simp[hu]
  refine .cons ?_ (m_ r p fun j hj=>h j (List.mem_cons_of_mem _ hj))
  show bt (ys.getD i .non) (us.getD i Value.none)
  rw[e];exact ru
theorem nX:cG X (.builtin "sorted") (fun xs H Q=>∃p ys ks,xs=[.ref p]/\(H p=some (.lst ys)\/H p=some (.tup ys))/\gH H ys ks/\ks.Nodup/\ks.length<64/\
  ∀l q,H l=none->lE ks q->Q (.ref l) (br H l (.lst (q.map fun i=>ys.getD i .non)))):=by
 intro pins s σ H xs us Q I rv h
 obtain⟨p,ys,ks,rfl,hp,ra,nd,h64,q⟩:=h
 obtain⟨u,rfl,ru⟩:=gj rv
 cases ru
 have hl:=ra.length
 obtain⟨its,r,T,o,n,hT,ho,hc,hd⟩:∃its:List Value,aO ys its/\∃(T:String) (o:Obj) (n:Nat),(T="list"\/T="tuple")/\s.heap.get? p=some o/\o.cls= .type T/\o.data= .seq its.toArray n:=by
  rcases hp with hp|hp
  ·obtain⟨its,r,⟨o,n,e,c,_,d⟩,_⟩:=I.list (cT.of hp)
   exact⟨its,r,"list",o,n, .inl rfl,e,c,d⟩
  ·obtain⟨hz,its,r,o,e,c,n,d,_⟩:=(show bK X.prog X.w H s.heap p (.tup ys)from I.hok p _ hp)
   exact⟨its,r,"tuple",o,n, .inr rfl,e,c,d⟩
 have hlen:=r.length
 refine Calls.call_function_entry kind_sorted plain_sorted entry_sorted (args_sorted1 _) ?_
 unfold Builtin.«sorted»
 refine wpAny_bind (m:=checkCount "sorted" 1 1 _) (wpAny_pure ?_)
 refine wpAny_bind (wpAny_collect_seq p hT ho hc hd (fun h' hk'=> ?_) (by rw[List.size_toArray,sizeLine_eq];omega))
 have eT:its.toArray.toList=its:=by simp
 rw[eT]
 refine wpAny_bind (wpAny_newList ?_ (by rw[sizeLine_eq];omega))
 have hoL:(h'.push (seqObj "list" its.toArray 0)).get? h'.objs.size=some (seqObj "list" its.toArray 0):=Heap.get?_push_size _ rfl
 refine wpAny_bind (wpAny_holding (wpAny_call_entry slot_list_sort ⟨_,hoL,rfl⟩ entry_list_sort (lF hoL (by omega) (o_ I.hok (fun b o e=>Heap.get?_push_of_some _ (hk' b o e)) ra r) nd (by omega) fun z hz=>⟨_,rfl,?_⟩) (args_list_sort _)))
 refine wpAny_pure ⟨_,rfl,?_⟩
 obtain⟨e,he⟩:=sortedHeap_at (out:=List.toArray (z.map fun i=>its.getD i Value.none)) hoL
 have hfr:s.heap.get? h'.objs.size=none:=by
  cases e:s.heap.get? h'.objs.size with
  |none=>rfl
  |some o=>exact absurd (Heap.lt_size (hk' _ _ e)) (Nat.lt_irrefl _)
 have kk:∀b o,s.heap.get? b=some o->(sortedHeap (h'.push (seqObj "list" its.toArray 0)) h'.objs.size its (List.toArray (z.map fun i=>its.getD i Value.none))).get? b=some o:=fun b o eb=>by
  have hb:=hk' b o eb
  have hlt:b<h'.objs.size:=Heap.lt_size hb
  rw[sortedHeap_old (Nat.ne_of_lt hlt) (by rw[size_push'];exact Nat.lt_succ_of_lt hlt)]
  exact Heap.get?_push_of_some _ hb
 have hzl:z.length=ys.length:=by have:=hz.1.length_eq;rw[List.length_range]at this;omega
 refine⟨.ref h'.objs.size,_,I.laidAt (o:= .lst (z.map fun i=>ys.getD i .non)) kk hfr ⟨?_,z.map fun i=>its.getD i Value.none,e,m_ r z fun i hi=> ?_,by simpa[seqObj]using he⟩,rfl,q _ z (I.hok.nowhere hfr) hz⟩
 ·rw[List.length_map,hzl,sizeLine_eq];omega
 ·have:=List.mem_range.mp (hz.1.mem_iff.mp hi)
  omega
end
end L2
namespace L2
open PySem PySem.Spec PyProof.Rows
section
variable {prog:Program} {w:World} {A:Around} {E:Value->Shared->Prop} {s:Shared}
theorem n0 {I:Addr} {fp wr:List Addr} {items:Array Value} {St:Nat->Heap->Prop} (W:Walks prog w A I fp wr items.size (fun i v=>items[i]? =some v) St):∀(n i:Nat) (s:Shared) (Q:List Value->Shared->Prop),St i s.heap->i+n<=items.size->
  (∀(h':Heap) (tk:Nat),St (i+n) h'->(∀b o,b∉wr->s.heap.get? b=some o->h'.get? b=some o)->Q ((items.toList.drop i).take n) {s with heap:=h',toks:=tk})->wpAny (model prog w) A (draw (.ref I) n) Q E s
 |0,i,s,Q,st,hn,k=>by
  refine wpAny_pure ?_
  have:=k s.heap s.toks st fun _ _ _ e=>e
  rw[List.take_zero]at this
  exact this
 |n+1,i,s,Q,st,hn,k=>by
  unfold draw
  refine wpAny_bind (W.item i s _ E (by omega) st fun v h' tk hv st' kp=> ?_)
  refine wpAny_bind (wpAny_holding (n0 W n (i+1) _ _ st' (by omega) fun h2 tk2 st2 kp2=>wpAny_pure ?_))
  have e:(items.toList.drop i).take (n+1)=v::(items.toList.drop (i+1)).take n:=by
   obtain⟨hl,he⟩:=Array.getElem?_eq_some_iff.mp hv
   rw[List.drop_eq_getElem_cons (by simpa using hl),List.take_succ_cons]
   simp[he]
  have:=k h2 tk2 (by rw[show i+(n+1)=i+1+n by omega];exact st2) fun b o hb e=>kp2 b o hb (kp b o hb e)
  rw[e]at this
  exact this
theorem jX {l:Addr} {items:Array Value} {Q:List Value->Shared->Prop} (hA:A.handled=none) (hl:s.heap.IsList l items)
  (k:∀(h':Heap) (tk:Nat),(∀b o,b≠s.heap.objs.size->s.heap.get? b=some o->h'.get? b=some o)->Q items.toList {s with heap:=h',toks:=tk}):wpAny (model prog w) A (unpackItems (.ref l) items.size none) Q E s:=by
 have hlt:l<s.heap.objs.size:=by obtain⟨o,ho,_⟩:=id hl;exact Heap.lt_size ho
 have ty:s.TypeIs (.ref l) "list":=by obtain⟨o,ho,hc,_⟩:=id hl;exact⟨o,ho,hc⟩
 unfold unpackItems notIterableAtAll
 refine wpAny_bind (wpAny_bind (wpAny_specialOf ty PySem.F.slot_list_iter.lookup ?_))
 refine wpAny_pure ?_
 refine wpAny_bind (wpAny_holding (wpAny_pyIter_list hl ?_))
 have W:=Walks.list (prog:=prog) (w:=w) (A:=A) hA s.heap.objs.size l (Nat.ne_of_lt hlt) items
 refine wpAny_bind (wpAny_holding (n0 W items.size 0 _ _ ⟨⟨_,Heap.get?_push_size _ rfl,rfl,rfl⟩,hl.push _⟩ (by omega) fun h' tk st kp=> ?_))
 have e:((items.toList.drop 0).take items.size)=items.toList:=by rw[List.drop_zero];exact List.take_of_length_le (by simp)
 rw[e]
 rw[if_neg (by simp)]
 rw[Nat.zero_add]at st
 refine wpAny_bind (wpAny_holding (W.done _ _ E st fun h2 tk2 kp2=> ?_))
 refine wpAny_pure (k h2 tk2 fun b o hb eb=> ?_)
 have nb:b∉[s.heap.objs.size]:=fun z=>hb (List.mem_singleton.mp z)
 exact kp2 b o nb (kp b o nb (Heap.get?_push_of_some _ eb))
theorem jj {env:Env} {elts:List Expr} {x1:Nat} {pos:Pos} {l:Addr} {items:Array Value} {Q:Unit->Shared->Prop} (hA:A.handled=none) (hl:s.heap.IsList l items) (hn:(assignEach elts env).length=items.size) (hst:(assignEach elts env).findIdx? (·.1)=none)
  (k:∀(h':Heap) (tk:Nat),(∀b o,b≠s.heap.objs.size->s.heap.get? b=some o->h'.get? b=some o)->wpAny (model prog w) A (assignInOrder ((assignEach elts env).map (·.2)) items.toList) Q E {s with heap:=h',toks:=tk}):
  wpAny (model prog w) A (assign (.Tuple elts x1 pos) env (.ref l)) Q E s:=by
 rw[assign_Tuple]
 refine wpAny_bind (wpAny_standAt ?_)
 unfold unpack
 rw[hst,hn]
 exact wpAny_bind (wpAny_holding (jX hA hl fun h' tk kp=>k h' tk kp))
end
section
variable {X:Cx} {pos:Pos}
noncomputable def Dv (K:PySem.W.Frag) (n:Nat) (t:ul):TG:=fun v σ H Q=>∃a xs,v= .ref a/\cT K H a xs/\xs.length=n/\t xs σ H Q
theorem uS {es:List Expr} {k:Nat} {t:ul} {n:Nat} (hc:X.calm=true) (h:um X es t) (hn:(assignEach es X.env).length=n:=by rfl) (hst:(assignEach es X.env).findIdx? (·.1)=none:=by rfl):PG X (.Tuple es k pos) (Dv X.K n t):=by
 intro pins s σ H v u Q I r hw
 obtain⟨a,xs,e1,hq,hl,hw⟩:=hw
 subst e1
 cases r
 obtain⟨its,rv,ht,hz⟩:=I.list hq
 refine jj (I.ok.hd hc) ht.isList (by simp[hn,<-hl,rv.length]) hst fun h' tk hx=> ?_
 have I1:aC X pins σ H {s with heap:=h',toks:=tk}:=I.kept (t':=tk) fun b o e=>hx b o (Nat.ne_of_lt (Heap.lt_size e)) e
 exact h pins _ σ H xs _ Q I1 (by simpa using rv) hw
noncomputable def Dw (K:PySem.W.Frag):V->Option Int->Option Int->Hp->VK->Prop:=fun x lo hi H Q=>∃a xs,x= .ref a/\eR K H a xs/\(HT.d5 xs.length 0 lo=0/\HT.d5 xs.length xs.length hi=xs.length)/\Q (.ref a) H
theorem iJ {prog:Program} {w:World} {A:Around} {E:Value->Shared->Prop} {s:Shared} {t sl:Addr} {items:Array Value} {vl vu:Value} {lo hi:Option Int} {Q:Value->Shared->Prop} (ht:IsTup s.heap t items) (hs:s.heap.IsSliceOf sl vl vu .none) (pl:IsPart vl lo) (pu:IsPart vu hi)
  (hw:HT.d5 items.size 0 lo=0/\HT.d5 items.size items.size hi=items.size) (h:Q (.ref t) s):wpAny (model prog w) A (getItem (.ref t) (.ref sl)) Q E s:=by
 obtain⟨os,hos,hcs,hds⟩:=id hs
 have hTs:s.TypeIs (.ref sl) "slice":=⟨os,hos,hcs⟩
 unfold getItem
 try with_reducible refine wpAny_holding ?_
 first|refine wpAny_bind (wpAny_pure ?_)|skip
 refine wpAny_bind (wpAny_sequenceKey ht.typeIs (by decide) ?_)
 refine wpAny_bind (wpAny_callSpecial?_slot (name:=Str.ofString "__getitem__") ht.typeIs PyProof.Rows.slot_tuple_getitem
  (wpAny_call_entry PyProof.Rows.slot_tuple_getitem ht.typeIs entry_tuple_getitem ?_ (args_tuple_getitem _ _)))
 show wpAny _ _ (Builtin.Tuple.tupleItemsOf (.ref t)>>=_) _ _ s
 refine wpAny_bind (tupleItemsOf_ ht ?_)
 refine wpAny_bind (wpAny_typeOf hTs ?_)
 rw[if_pos (by decide)]
 refine wpAny_bind (HT.gk hs pl pu ?_)
 show wpAny _ _ (if (((HT.d5 items.size 0 lo:Nat):Int)==0&&(1:Int)==1&&(HT.d5 items.size items.size hi - HT.d5 items.size 0 lo)==items.size)=true then _ else _) _ _ s
 rw[if_pos (by rw[hw.1,hw.2];simp)]
 unfold Builtin.Tuple.tupleIsExact
 refine wpAny_bind (wpAny_bind (wpAny_typeOf ht.typeIs (wpAny_pure ?_)))
 rw[if_pos (by decide)]
 refine wpAny_bind (wpAny_rule ?_)
 exact PySem.W.nd_pure ⟨_,rfl,wpAny_pure h⟩
theorem xA:yE X (Dw X.K):=by
 intro pins s σ H x v vl vu lo hi sl Q I rx hs pl pu h
 obtain⟨a,xs,rfl,hx,hw,q⟩:=h
 cases rx
 obtain⟨its,r,ht,hz⟩:=I.tuple hx
 have hlen:its.toArray.size=xs.length:=by rw[List.size_toArray];exact r.length.symm
 refine⟨"tuple",_,PyProof.Rows.slot_tuple_getitem.lookup,ht.typeIs,?_⟩
 exact iJ ht hs pl pu (by rw[hlen];exact hw) ⟨.ref a,H,I,rfl,q⟩
theorem p0 (l b:Addr) (items items2:Array Value) (n n2:Nat) (dd dd2:Option Addr) (sl sl2:Array (Option Value)) (h0:items.isEmpty=true):
  Meets (Builtin.«tuple.__add__» {pos:=[Value.ref l,Value.ref b]}) fun x R s=>
    s.heap.get? l=some {cls:=Value.type "tuple",dict:=dd,data:=Data.seq items n,slots:=sl}/\
     s.heap.get? b=some {cls:=Value.type "tuple",dict:=dd2,data:=Data.seq items2 n2,slots:=sl2}/\R (Except.ok (Flow.ret (Value.ref b))) s:=by
 intro prog w A R s ⟨g1,g2,q⟩
 have t1:IsTup s.heap l items:=⟨_,g1,rfl,n,rfl⟩
 have t2:IsTup s.heap b items2:=⟨_,g2,rfl,n2,rfl⟩
 unfold Builtin.«tuple.__add__»
 refine wpAny_bind (wpAny_pure (a:=(Value.ref l,[Value.ref b])) ?_)
 dsimp only
 refine wpAny_bind (wpAny_isInstance t2.typeIs sub_tuple_tuple ?_)
 rw[if_neg (by decide)]
 refine wpAny_bind (tupleItemsOf_ t1 (wpAny_bind (tupleItemsOf_ t2 ?_)))
 rw[if_pos h0]
 unfold Builtin.Tuple.tupleIsExact
 refine wpAny_bind (wpAny_bind (wpAny_typeOf t2.typeIs (wpAny_pure ?_)))
 rw[if_pos (by decide)]
 exact wpAny_bind (wpAny_rule (PySem.W.nd_pure q))
noncomputable def yJ (K:PySem.W.Frag):R2:=fun x y H Q=>∃a b ys,x= .ref a/\y= .ref b/\eR K H a []/\eR K H b ys/\Q (.ref b) H
theorem xB:iH X (binaryOp .Add) (yJ X.K):=by
 intro pins s σ H x y v u Q I rx ry h
 obtain⟨a,b,ys,rfl,rfl,ha,hb,q⟩:=h
 cases rx
 cases ry
 obtain⟨its,r1,p1,_⟩:=I.tuple ha
 obtain⟨its2,r2,p2,_⟩:=I.tuple hb
 cases r1
 obtain⟨⟨cls,dd,data,sl⟩,ho,hc,n,hd⟩:=id p1
 obtain⟨⟨cls2,dd2,data2,sl2⟩,ho2,hc2,n2,hd2⟩:=id p2
 simp only at hc hd hc2 hd2
 subst hc hd hc2 hd2
 exact concat_meets ⟨_,ho,rfl⟩ ⟨_,ho2,rfl⟩ noFill_tuple_add seq_tuple_add PySem.F.slot_tuple_add PySem.F.entry_tuple_add (PySem.F.args_tuple_add_2 _ _)
   (p0 a b _ _ n n2 dd dd2 sl sl2 rfl) ⟨ho,ho2,⟨.ref b,H,I,rfl,q⟩⟩
end
end L2
namespace L2
open PySem PySem.Spec PyProof.Rows
section
variable {X:Cx}
theorem jk:∀{bs:List Bool} {its:List Value},aO (bs.map V.bl) its->∀{i:Nat} {v:Value},its[i]? =some v->∃b,bs[i]? =some b/\v= .bool b:=by
 intro bs its r i v e
 have hl:=r.length
 rw[List.length_map]at hl
 have hi:i<bs.length:=by rw[hl];exact(List.getElem?_eq_some_iff.mp e).1
 obtain⟨u,h1,h2⟩:=r.get (i:=i) (x:=V.bl bs[i]) (by simp[hi])
 rw[e]at h1
 cases h1
 exact⟨bs[i],by simp[hi],h2⟩
theorem rW:∀{ns:List Int} {its:List Value},aO (ns.map V.int) its->∀{i:Nat} {v:Value},its[i]? =some v->∃t,v= .int (ns.getD i 0) t:=by
 intro ns its r i v e
 have hl:=r.length
 rw[List.length_map]at hl
 have hi:i<ns.length:=by rw[hl];exact(List.getElem?_eq_some_iff.mp e).1
 obtain⟨u,h1,h2⟩:=r.get (i:=i) (x:=V.int ns[i]) (by simp[hi])
 rw[e]at h1
 cases h1
 obtain⟨t,ht⟩:=h2
 exact⟨t,by rw[ht];simp[hi]⟩
theorem sY {s:Shared} {it:Obj} {h':Heap} (hk:∀b o,b∉[s.heap.objs.size]->(s.heap.push it).get? b=some o->h'.get? b=some o):∀b o,s.heap.get? b=some o->h'.get? b=some o:=fun b o e=>
 hk b o (fun z=>by rw[List.mem_singleton.mp z]at e;exact absurd (Heap.lt_size e) (Nat.lt_irrefl _)) (Heap.get?_push_of_some _ e)
noncomputable def uT (k:Bool):Value->Bool
 | .bool b=>b==k
 |_=>false
theorem rX {k:Bool}:∀{bs:List Bool} {its:List Value},aO (bs.map V.bl) its->its.countP (uT k)=bs.count k
 |[],its,r=>by cases r;rfl
 |b::bs,its,r=>by
  cases r with
  |cons h t=>cases h;rw[List.countP_cons,List.count_cons,rX t];rfl
noncomputable def xC (K:PySem.W.Frag):V->List V->Hp->VK->Prop:=fun x vs H Q=>∃(l:Addr) (k:Bool) (bs:List Bool),x= .ref l/\vs=[.bl k]/\cT K H l (bs.map V.bl)/\Q (.int (bs.count k)) H
theorem sZ:Bc X "list.count" (xC X.K):=by
 intro pins s σ H x vs v us Q I rx rv h
 obtain⟨l,k,bs,rfl,rfl,hx,q⟩:=h
 cases rx
 obtain⟨u,rfl,ru⟩:=rv.one
 cases ru
 obtain⟨its,r,ht,hz⟩:=I.list hx
 obtain⟨⟨cls,dd,data,sl⟩,ho,hc,n,hd⟩:=ht.isList
 simp only at hc hd
 subst hc hd
 refine call_meets PySem.F.slot_list_count ⟨_,ho,rfl⟩ PySem.F.entry_list_count (PySem.F.args_list_count_2 _ _) (PySem.SeqAt.list_countAt l its.toArray n dd sl (.bool k) (uT k)) ⟨ho,fun y hy=> ?_,?_⟩
 ·obtain⟨i,hi,e⟩:=List.getElem_of_mem (show y∈its by simpa using hy)
  obtain⟨b,_,rfl⟩:=jk r (i:=i) (v:=y) (by rw[List.getElem?_eq_getElem hi,e])
  exact PySem.SeqAt.EqAt.bool_bool b k
 ·rw[show its.toArray.toList=its from rfl,rX r]
  exact⟨.int _,H,I.tok _,⟨_,rfl⟩,q⟩
theorem BU {k:Bool} {bs:List Bool} {its:List Value} (r:aO (bs.map V.bl) its) {i:Nat} (hi:i<its.length):∃h:i<bs.length,its[i]= .bool bs[i]:=by
 obtain⟨b,h1,h2⟩:=jk r (i:=i) (v:=its[i]) (List.getElem?_eq_getElem hi)
 obtain⟨l,e⟩:=List.getElem?_eq_some_iff.mp h1
 exact⟨l,by rw[h2,e]⟩
theorem uU {k:Bool}:∀{bs:List Bool} {m:Nat} (hm:m<bs.length),m<bs.idxOf k->(bs[m]==k)=false
 |b::bs,0,hm,h=>by
  rw[List.idxOf_cons]at h
  cases e:b==k with
  |true=>rw[e]at h;simp at h
  |false=>exact e
 |b::bs,m+1,hm,h=>by
  rw[List.idxOf_cons]at h
  cases e:b==k with
  |true=>rw[e]at h;simp at h
  |false=>
   rw[e]at h
   exact uU (bs:=bs) (m:=m) (by simpa using hm) (by simp at h;omega)
noncomputable def xD (K:PySem.W.Frag):V->List V->Hp->VK->Prop:=fun x vs H Q=>∃(l:Addr) (k:Bool) (bs:List Bool),x= .ref l/\vs=[.bl k]/\cT K H l (bs.map V.bl)/\k∈bs/\bs.length<1000/\Q (.int (bs.idxOf k)) H
theorem s_:Bc X "list.index" (xD X.K):=by
 intro pins s σ H x vs v us Q I rx rv h
 obtain⟨l,k,bs,rfl,rfl,hx,hk,hl,q⟩:=h
 cases rx
 obtain⟨u,rfl,ru⟩:=rv.one
 cases ru
 obtain⟨its,r,ht,hz⟩:=I.list hx
 have hlen:=r.length
 rw[List.length_map]at hlen
 obtain⟨⟨cls,dd,data,sl⟩,ho,hc,n,hd⟩:=ht.isList
 simp only at hc hd
 subst hc hd
 have hj:=List.idxOf_lt_length_of_mem hk
 refine call_meets PySem.F.slot_list_index ⟨_,ho,rfl⟩ PySem.F.entry_list_index (PySem.F.args_list_index_2 _ _) (PySem.SeqAt.list_indexAt l its.toArray n dd sl (.bool k) (uT k) (bs.idxOf k) (by rw[List.size_toArray,<-hlen];exact hj) (by omega) ?_ ?_) ⟨ho,fun y hy=> ?_,?_⟩
 ·obtain⟨h1,e⟩:=BU (k:=k) r (i:=bs.idxOf k) (by rw[<-hlen];exact hj)
  show uT k (its[bs.idxOf k]'_)=true
  rw[e]
  show (bs[bs.idxOf k]==k)=true
  simp
 ·intro m hm hlt
  obtain⟨h1,e⟩:=BU (k:=k) r (i:=m) (by simpa using hm)
  show uT k (its[m]'_)=false
  rw[e]
  exact uU h1 hlt
 ·obtain⟨i,hi,e⟩:=List.getElem_of_mem (show y∈its by simpa using hy)
  obtain⟨b,_,rfl⟩:=jk r (i:=i) (v:=y) (by rw[List.getElem?_eq_getElem hi,e])
  exact PySem.SeqAt.EqAt.bool_bool b k
 ·exact⟨.int _,H,I.tok _,⟨_,rfl⟩,q⟩
end
end L2
namespace L2
open PySem PySem.Spec PyProof.Rows
theorem mB:isSubtype (.type "tuple") (.type "set")=pure false:=by rw[isSubtype_type];kernel_rfl
theorem lG:isSubtype (.type "tuple") (.type "frozenset")=pure false:=by rw[isSubtype_type];kernel_rfl
noncomputable abbrev setNew (led:Bool):Obj:={cls:= .type "set",dict:=none,data:= .set #[] 0 (.fresh 0 0 led)}
noncomputable abbrev uV (prog:Program) (w:World) (h':Heap) (a:Addr) (ns:List Int) (n:Nat):Prop:=h'.SetOf (intKind prog w) a (fun k=>(firstMet (fun i=>ns.getD i 0) n).any (·==k)) (firstMet (fun i=>ns.getD i 0) n).length
set_option maxHeartbeats 8000000 in
theorem t0 {prog:Program} {w:World} {A:Around} {E:Value->Shared->Prop} {s:Shared} {u:Addr} {xs:Array Value} {ns:List Int} {Q:Value->Shared->Prop} (hh:A.handled=none) (ht:s.heap.IsTuple u xs) (hi:∀(i:Nat) (v:Value),xs[i]? =some v->∃t,v= .int (ns.getD i 0) t) (hb:xs.size+1<scanBound)
  (fin:∀(h':Heap) (tk:Nat),uV prog w h' s.heap.objs.size ns xs.size->(∀b o,b<s.heap.objs.size->s.heap.get? b=some o->h'.get? b=some o)->Q (.ref s.heap.objs.size) {s with heap:=h',toks:=tk}):wpAny (model prog w) A (call (.type "set") [.ref u]) Q E s:=by
 obtain⟨c,tl,hmro⟩:=F.called_set.mro
 have m1:=F.called_set.made
 have m2:=F.called_set.sub
 have m3:=F.called_set.notType
 have m4:=F.called_set.canCreate
 have m5:=F.typeCall_set_1 (.ref u)
 refine wpAny_call (codeAny_of_tree ?_)
 show wpAny _ _ (callAny (.type "set") _) _ _ _
 refine wpAny_pure ⟨Code.quiet_builtin _ (by decide+kernel),codeAny_builtin F.entry_type_call ?_⟩
 rw[Around.under_plain (weight_type_call_type "set" [.ref u] []) rfl]
 repeat (any_goals (first|assumption|wp_step))
 refine codeAny_mono (code_set_new_1 (.ref u) (E:=E) (Q₁:=fun o s₁=>∃led:Bool,o= .ref s.heap.objs.size/\s₁={s with heap:=s.heap.push (setNew led)}) fun led=>⟨led,rfl,rfl⟩) fun r s₁ hr=> ?_
 cases r with
 |error e=>exact hr
 |ok fl=>
  cases fl with
  |ret o=>
   obtain⟨led,rfl,rfl⟩:=hr
   have gS:(s.heap.push (setNew led)).get? s.heap.objs.size=some (setNew led):=Heap.get?_push_size _ rfl
   have tS:Shared.TypeIs {s with heap:=s.heap.push (setNew led)} (.ref s.heap.objs.size) "set":=⟨_,gS,rfl⟩
   have n1:=F.called_set.init.lookup
   have n2:=F.called_set.init.bind (.ref s.heap.objs.size)
   repeat (any_goals (first|assumption|wp_step))
   refine codeAny_mono (codeAny_call_builtin (R:=wants (fun r s₂=>r= .none/\∃h' tk,s₂={s with heap:=h',toks:=tk}/\uV prog w h' s.heap.objs.size ns xs.size/\∀b o,b<s.heap.objs.size->s.heap.get? b=some o->h'.get? b=some o) E) F.called_set.init.plain F.entry_set_init (check_set_init_1 tS ?_)) fun r₂ s₂ hr₂=> ?_
   ·have ht0:=ht
    obtain⟨ot,hot,hct,nt,hdt⟩:=ht
    obtain⟨ocls,odict,odata,oslots⟩:=ot
    simp only at hct hdt
    subst hct
    subst hdt
    have hot':(s.heap.push (setNew led)).get? u=some {cls:= .type "tuple",dict:=odict,data:= .seq xs nt,slots:=oslots}:=Heap.get?_push_of_some _ hot
    have k1:=mB
    have k2:=lG
    have k3:(Value.type "tuple"==Value.type "dict")=false:=by decide
    have t1:(s.heap.push (setNew led)).IsTuple u xs:=⟨_,hot',rfl,nt,rfl⟩
    unfold Builtin.«set.__init__» noKeywords Builtin.Frozenset.updateFrom
    generalize hPI:pyIter=PI
    wp_walk
    subst hPI
    refine wpAny_pyIter_tuple t1 (wpAny_bind (wpAny_runValue ?_))
    have hu:u<s.heap.objs.size:=Heap.lt_size hot
    have h3:A.in1.in1.in1.handled=none:=by simp[hh]
    have z1:u≠(s.heap.push (setNew led)).objs.size:=by rw[Heap.size_push];exact Nat.ne_of_lt (Nat.lt_succ_of_lt hu)
    have z2:s.heap.objs.size∉[(s.heap.push (setNew led)).objs.size,u]:=by
     rw[Heap.size_push]
     intro z
     rcases List.mem_cons.mp z with z|z
     ·exact Nat.ne_of_lt (Nat.lt_succ_self _) z
     ·exact Nat.ne_of_gt hu (List.mem_singleton.mp z)
    refine codeAny_set_update_loopS (Walks.tuple h3 _ u z1 xs).toS s.heap.objs.size z2 (fun i=>ns.getD i 0) (fun i v hv=>hi i v hv) hb (xs.size - 0) 0 _ (by omega) (Nat.zero_le _) ⟨⟨_,Heap.get?_push_size _ rfl,rfl,rfl⟩,t1.push _⟩ ?a0 ?a1
    case a0=>
     exact SetOf_congr ((setObjOf_fresh (knd:=intKind prog w) led).setOf (Heap.get?_push_of_some _ gS) (by unfold scanBound;omega)) (fun _=>rfl) rfl
    case a1=>
     intro s' hm hS'
     obtain⟨h',g',d',tk',os'⟩:=s'
     obtain rfl:g'=s.gens:=hm.gens
     obtain rfl:d'=s.drawn:=hm.drawn
     obtain rfl:os'=s.os:=hm.os
     show wpAny _ _ _ _ _ _
     refine wpAny_pure ?_
     show wpAny _ _ (ret Value.none) _ _ _
     refine wpAny_pure ⟨rfl,h',tk',rfl,hS',fun b o hb e=>hm.heap b o ?_ (Heap.get?_push_of_some _ (Heap.get?_push_of_some _ e))⟩
     rw[Heap.size_push]
     intro z
     rcases List.mem_cons.mp z with z|z
     ·exact Nat.ne_of_lt hb z
     ·exact Nat.ne_of_lt (Nat.lt_succ_of_lt hb) (List.mem_singleton.mp z)
   ·cases r₂ with
    |error e=>exact hr₂
    |ok fl₂=>
     cases fl₂ with
     |ret r=>
      obtain⟨rfl,h',tk,rfl,hS',hk'⟩:=hr₂
      repeat (any_goals (first|assumption|wp_step))
      exact fin _ _ hS' hk'
     |_=>exact hr₂.elim
  |_=>exact hr.elim
noncomputable def dS (ns:List Int):Nat:=(firstMet (fun i=>ns.getD i 0) ns.length).length
section
variable {X:Cx} {e:Expr} {te:TE} {p1 p2 pos pos2:Pos}
noncomputable def xE (K:PySem.W.Frag) (te:TE):TE:=fun σ H Q=>te σ H fun x H1=>∃(a:Addr) (ns:List Int),[x]=[V.ref a]/\(cT K H1 a (ns.map V.int)\/eR K H1 a (ns.map V.int))/\ns.length<4000/\Q (.int (dS ns)) H1
theorem uW:bootBuiltins "set"=some (.type "set"):=by decide+kernel
theorem t4:bootBuiltins "len"=some (.builtin "len"):=by decide+kernel
theorem t5 (hc:X.calm=true) (he:PE X e te) (hml:X.mg "len"=none) (hms:X.mg "set"=none) (hgl:Gl X "len") (hgs:Gl X "set")
  (he1:starEach [e] X.env=(false,eval e X.env)::starEach [] X.env) (hpl1:(backTo pos2 (starEach [] X.env)).any (·.1)=false)
  (he2:starEach [.Call (.Name "set" p2) [e] [] pos2] X.env=(false,eval (.Call (.Name "set" p2) [e] [] pos2) X.env)::starEach [] X.env) (hpl2:(backTo pos (starEach [] X.env)).any (·.1)=false):
  PE X (.Call (.Name "len" p1) [.Call (.Name "set" p2) [e] [] pos2] [] pos) (xE X.K te):=by
 intro pins s σ H Q I h
 refine wpAny_Call_Name_kw (jQ I hgl hml t4 ?_ (by decide) (by decide))
 refine PyProof.Rows.callWith_builtin1 ?_ he2 hpl2
 rw[he2]
 show wpAny _ _ (spliced ((false,eval (.Call (.Name "set" p2) [e] [] pos2) X.env)::backTo pos (starEach [] X.env))) _ _ s
 refine Calls.spliced_cons ?_
 refine wpAny_Call_Name_kw (jQ I hgs hms uW ?_ (by decide) (by decide))
 refine PyProof.Rows.callWith_type1 ?_ he1 hpl1
 refine cb (c_ he fj he1 pos2 pins s σ H (fun vs H1=>∃(a:Addr) (ns:List Int),vs=[V.ref a]/\(cT X.K H1 a (ns.map V.int)\/eR X.K H1 a (ns.map V.int))/\ns.length<4000/\Q (.int (dS ns)) H1) I h) fun us s1 z_=> ?_
 obtain⟨vs,H1,I1,r1,a,ns,rfl,hx,hl,q⟩:=z_
 obtain⟨u,rfl,ru⟩:=gj r1
 cases ru
 have fin:∀(n:Nat),n=ns.length->∀(h':Heap) (tk:Nat),uV X.prog X.w h' s1.heap.objs.size ns n->(∀b o,b<s1.heap.objs.size->s1.heap.get? b=some o->h'.get? b=some o)->
   wpAny (model X.prog X.w) X.A (spliced (backTo pos (starEach [] X.env))) (fun us s2=>wpAny (model X.prog X.w) X.A (call (.builtin "len") (.ref s1.heap.objs.size::us)) (EP X pins σ Q) X.xe s2) X.xe {s1 with heap:=h',toks:=tk}:=by
  rintro n rfl h' tk hS hk
  refine Calls.spliced_nil ?_
  obtain⟨o,es,ep,t,ho,hex,hd,hel,hmem,_,hf,hcnt⟩:=hS
  have hle:=firstMet_length_le (fun i=>ns.getD i 0) ns.length
  refine call_len_set ho hex hd hf (by rw[hcnt];omega) ?_
  rw[hcnt]
  exact⟨.int _,H1,(I1.kept fun b o e=>hk b o (Heap.lt_size e) e).tok _,⟨_,rfl⟩,q⟩
 rcases hx with hx|hx
 ·obtain⟨its,r,ht,hz⟩:=I1.list hx
  have hlen:=r.length
  rw[List.length_map]at hlen
  exact call_set_list (I1.ok.hd hc) ht.isList (iV r) (by rw[List.size_toArray,<-hlen];unfold scanBound;omega) fun h' tk a b=>fin _ (by rw[List.size_toArray,hlen]) h' tk a b
 ·obtain⟨its,r,ht,hz⟩:=I1.tuple hx
  have hlen:=r.length
  rw[List.length_map]at hlen
  exact t0 (I1.ok.hd hc) ht (fun i v hv=>rW r (by simpa using hv)) (by rw[List.size_toArray,<-hlen];unfold scanBound;omega) fun h' tk a b=>fin _ (by rw[List.size_toArray,hlen]) h' tk a b
end
end L2
namespace L2
open PySem PySem.Spec PyProof.Rows
theorem bK.there {P:Program} {w:World} {H:Hp} {h:Heap} {a:Addr} {o:HO} (x:bK P w H h a o):∃ob,h.get? a=some ob:=by
 cases o with
 |lst xs=>obtain⟨_,_,_,_,e⟩:=x;exact⟨_,e⟩
 |tup xs=>obtain⟨_,_,_,o,e,_⟩:=x;exact⟨_,e⟩
 |dK kvs=>obtain⟨_,_,_,_,o,_,_,e,_⟩:=x;exact⟨_,e⟩
 |dT kvs=>obtain⟨_,_,_,_,o,_,_,e,_⟩:=x;exact⟨_,e⟩
 |set S n=>obtain⟨o,_,_,_,e,_⟩:=x;exact⟨_,e⟩
 |ins C dx fs=>obtain⟨_,_,_,e,_⟩:=x;exact⟨_,e⟩
 |own y=>obtain⟨_,e⟩:=x;exact⟨_,e⟩
 |xd fs=>obtain⟨_,⟨_,_,_,e,_⟩,_⟩:=x;exact⟨_,e⟩
 |rng lo hi=>obtain⟨_,_,_,e⟩:=x;exact⟨_,e⟩
 |frz ob u=>obtain⟨e,_⟩:=x;exact⟨_,e⟩
 |tbl ps=>exact⟨_,(show h.get? a=some _ from x)⟩
 |met f y=>exact⟨_,(show h.get? a=some _ from x)⟩
 |ext φ=>obtain⟨_,⟨_,e⟩,_⟩:=x;exact⟨_,e⟩
theorem gX.none_of {P:Program} {w:World} {H:Hp} {h:Heap} {a:Addr} (x:gX P w H h) (e:h.get? a=none):H a=none:=by
 cases q:H a with
 |none=>rfl
 |some o=>obtain⟨ob,z⟩:=(x a o q).there;rw[e]at z;cases z
structure qa (X:Cx) (pins:List (Addr×Obj)) (H:Hp) (b:Addr):Prop where
 s0:X.s₀.heap.get? b=none
 no:H b=none
 pin:∀p∈X.pn++pins,p.1≠b
structure Ac (X:Cx) (pins:List (Addr×Obj)) (H:Hp) (h:Heap) (a T:Addr) (fl:Value):Prop where
 new:qa X pins H T
 ne:T≠a
 at_:∃oT ts,h.get? T=some oT/\oT.data= .fields ts/\ts[3]? =some fl
structure Fl (X:Cx) (pins:List (Addr×Obj)) (H:Hp) (h:Heap) (a:Addr) (cls:Value):Prop where
 new:qa X pins H a
 at_:∃oe vs,h.get? a=some oe/\oe.cls=cls/\oe.data= .fields vs/\(vs[1]? =some .none\/∃T fl,vs[1]? =some (.ref T)/\Ac X pins H h a T fl/\(fl= .none\/fl=rawInt X.env.locals))
structure wD (X:Cx) (pins:List (Addr×Obj)) (H:Hp) (h:Heap) (a:Addr) (cls fl:Value):Prop where
 new:qa X pins H a
 at_:∃oe vs,h.get? a=some oe/\oe.cls=cls/\oe.data= .fields vs/\∃T,vs[1]? =some (.ref T)/\Ac X pins H h a T fl
noncomputable abbrev Ad (X:Cx) (pins:List (Addr×Obj)) (H:Hp) (h:Heap) (a:Addr) (cls:Value):Prop:=wD X pins H h a cls .none
theorem wD.flo {X:Cx} {pins:List (Addr×Obj)} {H:Hp} {h:Heap} {a:Addr} {cls fl:Value} (f:wD X pins H h a cls fl) (hf:fl= .none\/fl=rawInt X.env.locals):Fl X pins H h a cls:=
 let ⟨oe,vs,h1,h2,h3,T,h4,h5⟩:=f.at_;⟨f.new,oe,vs,h1,h2,h3, .inr ⟨T,fl,h4,h5,hf⟩⟩
theorem wD.fl {X:Cx} {pins:List (Addr×Obj)} {H:Hp} {h:Heap} {a:Addr} {cls:Value} (f:wD X pins H h a cls .none):Fl X pins H h a cls:=f.flo (.inl rfl)
section
variable {X:Cx} {pins:List (Addr×Obj)} {σ:St} {H H':Hp} {s s':Shared} {a:Addr} {cls:Value}
structure dU (X:Cx):Prop where
 st:X.stack=X.env::X.outer
 fr:X.env.frame=some X.env.locals
 ex:X.ex=[]
theorem qa.of (I:aC X pins σ H s) (p:dU X) {b:Addr} (h:s.heap.get? b=none) (hH:H' b=none):qa X pins H' b:=by
 refine⟨?_,hH,fun q hq z=> ?_⟩
 ·cases e:X.s₀.heap.get? b with
  |none=>rfl
  |some o=>
   obtain⟨o',e'⟩:=I.base.there b o e (by rw[p.ex];simp)
   rw[h]at e';cases e'
 ·have:=(I.pin q hq).1
  rw[z,h]at this;cases this
noncomputable def rY (h B:Heap) (a:Addr) (cls fl:Value):Prop:=∃oe vs T oT ts,h.get? a=some oe/\oe.cls=cls/\oe.data= .fields vs/\vs[1]? =some (.ref T)/\B.get? T=none/\T≠a/\h.get? T=some oT/\oT.data= .fields ts/\ts[3]? =some fl
theorem _root_.PySem.Heap.TracedAtW.tl {h B:Heap} {a:Addr} {cls a0 fl:Value} (t:h.TracedAtW B a cls a0 fl):rY h B a cls fl:=
 let ⟨oe,vs,T,oT,ts,g1,g2,g3⟩:=t;⟨oe,vs,T,oT,ts,g1,g2.1,g3⟩
theorem iA (I:aC X pins σ H s) (p:dU X) (fl:Fl X pins H s.heap a cls):∃(B:Heap) (oe:Obj) (vs:Array Value),s.heap.get? a=some oe/\oe.cls=cls/\oe.data= .fields vs/\s.heap.FunFrames B (X.env::X.outer)/\B.StaysIn s.heap/\B.get? a=none/\
  (vs[1]? =some .none\/∃T oT ts fl,vs[1]? =some (.ref T)/\B.get? T=none/\T≠a/\s.heap.get? T=some oT/\oT.data= .fields ts/\ts[3]? =some fl/\(fl= .none\/fl=rawInt X.env.locals))/\
  ∀h' fl,B.StaysIn h'->rY h' B a cls fl->s.heap.UpToSlots h'->aC X pins σ H {s with heap:=h'}/\wD X pins H h' a cls fl:=by
 obtain⟨oe,vs,ge,gc,gd,gt⟩:=fl.at_
 obtain⟨rest,hrest,hnext⟩:∃rest:List Addr,(∀b∈rest,qa X pins H b/\∃oT ts,s.heap.get? b=some oT/\oT.data= .fields ts)/\(vs[1]? =some .none\/∃T fl,vs[1]? =some (.ref T)/\Ac X pins H s.heap a T fl/\(fl= .none\/fl=rawInt X.env.locals)/\T∈rest):=by
  rcases gt with g|⟨T,fl,g,t,hfl⟩
  ·exact⟨[],(fun b hb=>by cases hb), .inl g⟩
  ·obtain⟨oT,ts,e1,e2,_⟩:=t.at_
   exact⟨[T],fun b hb=>by rw[List.mem_singleton.mp hb];exact⟨t.new,oT,ts,e1,e2⟩, .inr ⟨T,fl,g,t,hfl,List.mem_singleton.mpr rfl⟩⟩
 have fsub:∀b,b∈X.fs->b∈kS X.stack:=fun b hb=>by
  rw[p.st]
  unfold kS
  rw[List.filterMap_cons,p.fr]
  exact List.mem_cons_of_mem _ hb
 have lsub:X.env.locals∈kS X.stack:=by
  rw[p.st]
  unfold kS
  rw[List.filterMap_cons,p.fr]
  exact List.mem_cons_self
 have chN:∀b∈a::rest,qa X pins H b/\∃oT ts,s.heap.get? b=some oT/\oT.data= .fields ts:=fun b hb=>by
  rcases List.mem_cons.mp hb with rfl|hb
  ·exact⟨fl.new,oe,vs,ge,gd⟩
  ·exact hrest b hb
 have frD:∀b∈kS X.stack,∃o,s.heap.get? b=some o/\∀vs:Array Value,o.data≠Data.fields vs:=fun b hb=>(I.stack.mem hb).2
 have apart:∀b∈a::rest,b∉kS X.stack:=fun b hb z=>by
  obtain⟨_,o,ts,e1,e2⟩:=chN b hb
  obtain⟨o',e3,e4⟩:=frD b z
  rw[e1]at e3;cases e3
  exact e4 ts e2
 let hid:List Addr:=(a::rest)++kS X.stack
 let B:Heap:=PySem.W.hideAll s.heap hid
 have ff:s.heap.FunFrames B X.stack:=PySem.W.funFrames_hide I.stack fun env he b hb=>List.mem_append_right _ (List.mem_filterMap.mpr ⟨env,he,hb⟩)
 have hB:B.StaysIn s.heap:=fun b o e=>PySem.W.of_hideAll _ e
 have hBa:B.get? a=none:=PySem.W.hideAll_none _ (List.mem_append_left _ List.mem_cons_self)
 have ff':s.heap.FunFrames B (X.env::X.outer):=by rw[<-p.st];exact ff
 refine⟨B,oe,vs,ge,gc,gd,ff',hB,hBa,?_,fun h' fl' st ⟨oe',vs',T',oT',ts',g1,g2,g3,g4,g5,g6,g7,g8,g9⟩ up=> ?_⟩
 ·rcases hnext with g|⟨T,fl,g,t,hfl,hT⟩
  ·exact .inl g
  ·obtain⟨oT,ts,e1,e2,e3⟩:=t.at_
   exact .inr ⟨T,oT,ts,fl,g,PySem.W.hideAll_none _ (List.mem_append_left _ (List.mem_cons_of_mem _ hT)),t.ne,e1,e2,e3,hfl⟩
 ·have inB:∀b o,s.heap.get? b=some o->b∉a::rest->b∉kS X.stack->h'.get? b=some o:=fun b o e n1 n2=>
   st b o (PySem.W.hideAll_get _ e fun z=>(List.mem_append.mp z).elim n1 n2)
  have newT:qa X pins H T':=by
   by_cases hr:T'∈rest
   ·exact(hrest T' hr).1
   ·have hn:s.heap.get? T'=none:=by
     cases e:s.heap.get? T' with
     |none=>rfl
     |some o=>
      by_cases hf:T'∈kS X.stack
      ·obtain⟨o',e3,e4⟩:=frD T' hf
       obtain⟨sl,e5⟩:=up T' o' e3 e4
       rw[g7]at e5;cases e5
       exact absurd g8 (e4 ts')
      ·have:=PySem.W.hideAll_get hid (b:=T') e fun z=>(List.mem_append.mp z).elim (fun q=>(List.mem_cons.mp q).elim g6 hr) hf
       rw[g5]at this;cases this
    exact qa.of I p hn (I.hok.none_of hn)
  refine⟨I.step (g':=s.gens) (d':=s.drawn) (t':=s.toks) (ch:=a::rest) (fun b hb=> ?_) (fun b o n1 n2 n3 e _=> ?_) (fun b o _ hb n3 e _=> ?_) (fun _ _ _ _ n=>n) (fun b o n e=> ?_) (fun _ _ e=>e) (fun _ _ _ e=>e) (fun b ps e=>⟨#[],by rw[e];simp⟩) (fun m hm=> ?_) (fun b u e=> ?_) I.bare,
   ⟨fl.new,oe',vs',g1,g2,g3,T',g4,newT,g6,oT',ts',g7,g8,g9⟩⟩
  ·obtain⟨n,o,ts,e1,e2⟩:=chN b hb
   refine⟨.inr n.s0,fun z=>apart b hb (by rw[z];exact lsub),fun x c hc z=> ?_,n.pin⟩
   obtain⟨v,o',e3,e4⟩:=I.cell x c hc
   rw[z,e1]at e3;cases e3
   rw[e2]at e4;cases e4
  ·exact inB b o e n3 fun z=>(List.mem_cons.mp (I.stkSub b z)).elim n1 n2
  ·obtain⟨o',e3,e4⟩:=frD b (fsub b hb)
   rw[e]at e3;cases e3
   exact up b o e e4
  ·by_cases hf:b∈kS X.stack
   ·obtain⟨o',e3,e4⟩:=frD b hf
    rw[e]at e3;cases e3
    obtain⟨sl,e5⟩:=up b o e e4
    exact⟨_,e5⟩
   ·exact⟨o,inB b o e n hf⟩
  ·obtain⟨o,es,ep,ho,hd,r⟩:=hm
   obtain⟨sl,e5⟩:=up _ o ho fun vs z=>by rw[hd]at z;cases z
   exact⟨_,es,ep,e5,hd,r⟩
  ·have nh:∀c v,H c=some v->c∉a::rest/\c∉kS X.stack:=fun c v hc=>⟨fun z=>(by have:=(chN c z).1.no;rw[hc]at this;cases this),fun z=>(by have:=I.stkFree c z;rw[hc]at this;cases this)⟩
   refine(I.hok b u e).stay (fun c v hc q=> ?_) (fun _ q=>q) fun _ _ q=>q
   rcases hc with z|z
   ·rw[z]at q ⊢;exact inB b v q (nh b u e).1 (nh b u e).2
   ·exact inB c v q (nh c _ z).1 (nh c _ z).2
theorem rZ {vs:Array Value} {v:Value} (h:vs[1]? =some v):1<vs.size/\∃a0,vs[0]? =some a0:=by
 have size1:1<vs.size:=by
  by_cases z:1<vs.size
  ·exact z
  ·rw[Array.getElem?_eq_none (Nat.le_of_not_lt z)]at h;cases h
 exact⟨size1,vs[0]'(by omega),by simp⟩
theorem p6 {Q:Unit->Shared->Prop} {E:Value->Shared->Prop} (I:aC X pins σ H s) (p:dU X) (fl:Fl X pins H s.heap a cls)
  (k:∀h',aC X pins σ H {s with heap:=h'}->Ad X pins H h' a cls->Q () {s with heap:=h'}):
  wpAny (model X.prog X.w) X.A (noteFrame (.ref a) X.env) (fun _ s₂=>wpAny (model X.prog X.w) X.A (setFlight (.ref a) none) Q E s₂) E s:=by
 obtain⟨B,oe,vs,ge,gc,gd,ff,hB,hBa,hn,hk⟩:=iA I p fl
 have hfr:X.A.frames=some (X.env::X.outer):=by rw[I.ok.frames,p.st]
 rcases hn with g|⟨T,oT,ts,f,g1,g2,g3,g4,g5,g6,g7⟩
 ·obtain⟨size1,a0,h0⟩:=rZ g
  unfold noteFrame
  rw[p.fr]
  refine wpAny_bind (wpAny_field (o:=oe) ge (by rw[gd]) g ?_)
  refine wpAny_newEntryW (head:= .none) (hadNext:=false) hfr ff p.fr ge hB hBa gd size1 h0 fun h' z_=> ?_
  obtain⟨st,_,tr,up⟩:=z_
  rw[gc]at tr
  obtain⟨I',f'⟩:=hk h' _ st tr.at.tl up
  exact k h' I' f'
 ·obtain⟨size1,a0,h0⟩:=rZ g1
  rcases g7 with rfl|rfl
  ·refine wpAny_looks_onW (cls:=cls) (a0:=a0) hfr p.fr ⟨hB,hBa,ff,oe,vs,T,oT,ts,ge,⟨gc,h0⟩,gd,g1,g2,g3,g4,g5,g6⟩ fun h1 held u1=> ?_
   refine wpAny_landsW held fun h2 ⟨st,_,_,tr⟩ u2=> ?_
   obtain⟨I',f'⟩:=hk h2 _ st tr.at.tl (u1.trans u2)
   exact k h2 I' f'
  ·have tr0:s.heap.TracedAtW B a cls a0 (rawInt X.env.locals):=⟨oe,vs,T,oT,ts,ge,⟨gc,h0⟩,gd,g1,g2,g3,g4,g5,g6⟩
   refine wpAny_noteFrame_againW p.fr tr0 ?_
   refine wpAny_landsW (base:=B) (l:=X.env::X.outer) (L:=X.env.locals) ⟨hB,hBa,ff,tr0⟩ fun h2 ⟨st,_,_,tr⟩ u2=> ?_
   obtain⟨I',f'⟩:=hk h2 _ st tr.at.tl u2
   exact k h2 I' f'
theorem uX {Q:Unit->Shared->Prop} {E:Value->Shared->Prop} (I:aC X pins σ H s) (p:dU X) (fl:Fl X pins H s.heap a cls)
  (k:∀h',aC X pins σ H {s with heap:=h'}->Ad X pins H h' a cls->Q () {s with heap:=h'}):wpAny (model X.prog X.w) X.A (leaving X.env (.ref a)) Q E s:=
 wpAny_bind (p6 I p fl k)
theorem xF {cenv:Env} {Q:Unit->Shared->Prop} {E:Value->Shared->Prop} (I:aC X pins σ H s) (p:dU X) (fl:Ad X pins H s.heap a cls) (hc:cenv.frame=X.env.frame)
  (k:∀h',aC X pins σ H {s with heap:=h'}->wD X pins H h' a cls (rawInt X.env.locals)->s.heap.UpToSlots h'->Q () {s with heap:=h'}):wpAny (model X.prog X.w) X.A (noteFrame (.ref a) cenv) Q E s:=by
 obtain⟨B,oe,vs,ge,gc,gd,ff,hB,hBa,hn,hk⟩:=iA I p fl.fl
 have hfr:X.A.frames=some (X.env::X.outer):=by rw[I.ok.frames,p.st]
 have en:noteFrame (.ref a) cenv=noteFrame (.ref a) X.env:=by unfold noteFrame PySem.frameOf;rw[hc]
 rw[en]
 obtain⟨oe',vs',e1,e2,e3,T',e4,tr'⟩:=fl.at_
 rw[ge]at e1;cases e1
 rw[gd]at e3;cases e3
 obtain⟨oT',ts',q1,q2,q3⟩:=tr'.at_
 rcases hn with g|⟨T,oT,ts,f,g1,g2,g3,g4,g5,g6,g7⟩
 ·rw[g]at e4;cases e4
 ·rw[e4]at g1;cases g1
  rw[q1]at g4;cases g4
  rw[q2]at g5;cases g5
  obtain⟨size1,a0,h0⟩:=rZ e4
  refine wpAny_looks_onW (cls:=cls) (a0:=a0) hfr p.fr ⟨hB,hBa,ff,oe,vs,T',oT',ts',ge,⟨gc,h0⟩,gd,e4,g2,g3,q1,q2,q3⟩ fun h1 ⟨st,_,_,tr⟩ u1=> ?_
  obtain⟨I',f'⟩:=hk h1 _ st tr.tl u1
  exact k h1 I' f' u1
theorem xG {α:Type} {what:String} {cenv:Env} {Q:α->Shared->Prop} {E:Value->Shared->Prop} (I:aC X pins σ H s) (p:dU X) (fl:wD X pins H s.heap a cls (rawInt X.env.locals)) (hc:cenv.frame=X.env.frame)
  (k:∀h',aC X pins σ H {s with heap:=h'}->wD X pins H h' a cls (rawInt X.env.locals)->E (.ref a) {s with heap:=h'}):wpAny (model X.prog X.w) X.A (PySem.passOn what (.ref a) cenv:Sem α) Q E s:=by
 obtain⟨B,oe,vs,ge,gc,gd,ff,hB,hBa,hn,hk⟩:=iA I p (fl.flo (.inr rfl))
 obtain⟨oe',vs',e1,e2,e3,T',e4,tr'⟩:=fl.at_
 rw[ge]at e1;cases e1
 rw[gd]at e3;cases e3
 obtain⟨oT',ts',q1,q2,q3⟩:=tr'.at_
 rcases hn with g|⟨T,oT,ts,f,g1,g2,g3,g4,g5,g6,g7⟩
 ·rw[g]at e4;cases e4
 ·rw[e4]at g1;cases g1
  rw[q1]at g4;cases g4
  rw[q2]at g5;cases g5
  unfold PySem.passOn
  refine wpAny_bind (wpAny_field ge gd e4 ?_)
  rw[if_neg (by simp)]
  refine wpAny_bind ?_
  unfold setFlight
  refine wpAny_bind (wpAny_field ge gd e4 ?_)
  rw[if_pos (show (Value.ref T' != Value.none)=true from by simp),hc,p.fr]
  have hsz3:3<ts'.size:=(Array.getElem?_eq_some_iff.mp q3).1
  obtain⟨tc,td,tdata,tsl⟩:=oT'
  simp only at q2
  subst q2
  refine wpAny_setField q1 rfl hsz3 ?_
  have other:∀b,b≠T'->(s.heap.update T' (Obj.mapFields (·.setIfInBounds 3 (rawInt X.env.locals)))).get? b=s.heap.get? b:=fun b hb=>Heap.get?_update_other _ _ (Ne.symm hb)
  obtain⟨I',f'⟩:=hk (s.heap.update T' (Obj.mapFields (·.setIfInBounds 3 (rawInt X.env.locals)))) (rawInt X.env.locals) (fun b o e=>by rw[other b (fun z=>by rw[z,g2]at e;cases e)];exact hB b o e)
   ⟨oe,vs,T',_,_,by rw[other a (Ne.symm g3)];exact ge,gc,gd,e4,g2,g3,Heap.get?_update_self _ q1 rfl,rfl,by simp[hsz3]⟩
   (fun b o e hno=>⟨o.slots,by rw[other b (fun z=>by rw[z,q1]at e;cases e;exact hno _ rfl)];exact e⟩)
  exact wpAny_throw (k _ I' f')
noncomputable def E4 (g:Heap) (H:Hp) (h:Heap) (a:Addr) (cls:Value):Prop:=g.get? a=none/\H a=none/\∃oe vs T oT ts,h.get? a=some oe/\oe.cls=cls/\oe.data= .fields vs/\vs[1]? =some (.ref T)/\g.get? T=none/\H T=none/\T≠a/\
 h.get? T=some oT/\oT.data= .fields ts/\ts[3]? =some .none
noncomputable def kM (P:Program) (w:World):ql:=fun outer H s E e s'=>∃a cls H',e= .ref a/\s'.os=s.os/\AllBare s'.gens/\Un (kS outer) [] H H' s.heap s'.heap/\gX P w H' s'.heap/\E4 s.heap H' s'.heap a cls/\E cls (some a) H'
theorem Ae {E:XK} {e:Value} (I:aC X pins σ H s) (p:dU X) (h:kM X.prog X.w X.stack H s E e s'):∃a cls H',e= .ref a/\aC X pins σ H' s'/\Fl X pins H' s'.heap a cls/\E cls (some a) H':=by
 obtain⟨a,cls,H',rfl,os,bare,un,hok,⟨n1,n2,oe,vs,T,oT,ts,g1,g2,g3,g4,g5,g6,g7,g8,g9,g10⟩,q⟩:=h
 refine⟨a,cls,H',rfl,I.call' os un hok bare (fun b hb=>by cases hb),⟨qa.of I p n1 n2,oe,vs,g1,g2,g3, .inr ⟨T, .none,g4,⟨qa.of I p g5 g6,g7,oT,ts,g8,g9,g10⟩, .inl rfl⟩⟩,q⟩
theorem lH {CX:ql} {P:Program} {w:World} {K:PySem.W.Frag} {mg:Str->Option Value} {base:Heap} {N:List Str} {qual:Str} {scope:Scope} {f:Addr} {cd:Value} {A:Around} {outer:List Env} {s:Shared} {H:Hp} {E:XK}:
  dU (hG CX P w K mg base N qual scope f cd A outer s H E):=⟨rfl,rfl,rfl⟩
theorem qA {P:Program} {w:World} {K:PySem.W.Frag} {mg:Str->Option Value} {base:Heap} {N:List Str} {qual:Str} {scope:Scope} {f:Addr} {cd:Value} {A:Around} {outer:List Env} {s0:Shared} {H0:Hp} {E:XK}
  (I:aC (hG (kM P w) P w K mg base N qual scope f cd A outer s0 H0 E) pins σ H s) (fl:Fl (hG (kM P w) P w K mg base N qual scope f cd A outer s0 H0 E) pins H s.heap a cls) (h:E cls (some a) H):
  (hG (kM P w) P w K mg base N qual scope f cd A outer s0 H0 E).xe (.ref a) s:=by
 refine uX I lH fl fun h' I' f'=> ?_
 obtain⟨oe,vs,g1,g2,g3,T,g4,t⟩:=f'.at_
 obtain⟨oT,ts,g5,g6,g7⟩:=t.at_
 exact⟨a,cls,H,rfl,I'.os,I'.bare,I'.base,I'.hok,⟨f'.new.s0,f'.new.no,oe,vs,T,oT,ts,g1,g2,g3,g4,t.new.s0,t.new.no,t.ne,g5,g6,g7⟩,h⟩
end
end L2
namespace L2
open PySem PySem.Spec PyProof.Rows
theorem d7 {α:Type} {M:Model} {A:Around} {t:Sem α} {r:α} {Q:α->Shared->Prop} {E:Value->Shared->Prop} {s:Shared} (l:PySem.W.Looks M s.heap t r) (q:Q r s):wpAny M A t Q E s:=l A Q E s (fun _ _ e=>e) q
theorem iX {M:Model} {h:Heap} {x C:Addr} {ox:Obj} (e:h.get? x=some ox) (hc:ox.cls= .ref C):PySem.W.Looks M h (typeOf (.ref x)) (.ref C):=fun A Q E s k q=>
 wpAny_bind (wpAny_loadPart (k _ _ e) (wpAny_pure (by rw[hc];exact q)))
theorem qB {prog:Program} {w:World} {A:Around} {s:Shared} {K:PySem.W.Frag} {x C:Addr} {R:Result->Shared->Prop} {ox:Obj} {tp:Value} (KX:K.In s.heap) (e:s.heap.get? x=some ox) (hc:ox.cls= .ref C) (hm:PySem.W.mroIn K C (.type "object")=some true)
  (q:R (.ok (.ret (.ref C))) s):codeAny (model prog w) A (.call (.builtin "getset_descriptor.__get__") {pos:=[.builtin "object.__class__", .ref x,tp]}) R s:=by
 refine codeAny_call_builtin PySem.W.KF.slot_gs.plain PySem.W.KF.entry_gs ?_
 refine PySem.W.KF.slot_gs.check _ _ _ _ _ _ _ _ PySem.W.KF.type_class (PySem.W.KF.args_gs _ _ _) ?_
 show wpAny _ _ (Builtin.Getset_descriptor.descrGet _) _ _ _
 unfold Builtin.Getset_descriptor.descrGet
 rw[PySem.W.dga_obj]
 refine wpAny_bind (wpAny_pure ?_)
 dsimp only
 unfold Builtin.Getset_descriptor.descrGetter
 dsimp only
 unfold Builtin.Getset_descriptor.descrCheckInstance Builtin.Getset_descriptor.descrNameAndClass
 dsimp only
 rw[PySem.W.KF.owner_class]
 refine wpAny_bind (wpAny_bind (wpAny_pure ?_))
 refine wpAny_bind (wpAny_bind (d7 (iX e hc) (d7 (PySem.W.looks_mroIn KX hm) ?_)))
 refine wpAny_pure ?_
 refine PySem.W.nd_pure ⟨Code.quiet_builtin _ (by decide+kernel),codeAny_builtin PySem.W.KF.entry_class ?_⟩
 show wpAny _ _ (do let t<-shownTypeOf (.ref x);ret t) _ _ _
 unfold shownTypeOf
 refine wpAny_bind (wpAny_bind (d7 (iX e hc) ?_))
 rw[if_neg (by intro z;exact absurd z (by simp))]
 exact wpAny_pure (PySem.W.nd_pure q)
theorem xH {prog:Program} {w:World} {A:Around} {E:Value->Shared->Prop} {s:Shared} {K:PySem.W.Frag} {x C:Addr} {ox:Obj} {Q:Option Value->Shared->Prop} (KX:K.In s.heap) (e:s.heap.get? x=some ox) (hc:ox.cls= .ref C)
  (h1:PySem.W.findIn K (.ref C) "__getattribute__"=some (some (.builtin "BaseException.__getattribute__"))) (h2:PySem.W.findIn K (.ref C) "__getattr__"=some none) (h3:PySem.W.findIn K (.ref C) "__class__"=some (some (.builtin "object.__class__")))
  (h4:PySem.W.specialIn K (.builtin "object.__class__") "__get__"=some (some (.builtin "getset_descriptor.__get__"))) (h5:PySem.W.takesIn K (.builtin "object.__class__")=some true) (h6:PySem.W.mroIn K C (.type "object")=some true) (h7:PySem.W.mroIn K C (.type "BaseException")=some true)
  (q:Q (some (.ref C)) {s with toks:=s.toks+1}):wpAny (model prog w) A (getAttr? (.ref x) "__class__") Q E s:=by
 unfold getAttr?
 refine wpAny_bind (wpAny_mkText ?_)
 unfold getAttrBy?
 refine wpAny_bind (wpAny_attempt ?_)
 unfold getAttrBy
 refine wpAny_holding (wpAny_bind (d7 (iX e hc) (wpAny_bind (d7 (PySem.W.looks_findIn KX h1) ?_))))
 dsimp only
 rw[if_neg (by rw[show (Value.builtin "BaseException.__getattribute__"==Value.builtin "object.__getattribute__")=false by decide+kernel,Bool.and_false];simp)]
 unfold getAttrByItsOwn hookBefore
 refine wpAny_bind ?_
 rw[if_pos (by rfl)]
 refine d7 (PySem.W.looks_findIn KX h2) ?_
 refine wpAny_bind (wpAny_attempt (wpAny_holding ?_))
 unfold callGetattribute
 rw[if_neg (by simp)]
 unfold boundAndCalled
 rw[F.attrBase_ValueError.ga.bind]
 refine wpAny_bind (wpAny_pure ?_)
 dsimp only
 refine wpAny_call (codeAny_call_builtin F.attrBase_ValueError.ga.plain F.entry_bexc_ga ?_)
 show wpAny _ _ (checkBuiltinCall "BaseException.__getattribute__" {pos:=Value.ref x::[Value.str (Str.ofString "__class__") s.toks],kw:=[]}) _ _ _
 refine PySem.W.check_slot (i:="BaseException.__getattribute__") (owner:="BaseException") (n:="__getattribute__") PySem.wpAny_check_ga_own._proof_1_1 PySem.wpAny_check_ga_own._proof_1_2 (fun A Q E s k q=>wpAny_bind (iX e hc A _ E s k (PySem.W.looks_mroIn KX h7 A _ E s k q))) (F.args_bexc_ga _ _) ?_
 unfold Builtin.«object.__getattribute__»
 refine wpAny_bind (wpAny_pure (a:=(Value.ref x,[Value.str (Str.ofString "__class__") s.toks])) ?_)
 dsimp only
 refine wpAny_bind (wpAny_pure (a:=Str.ofString "__class__") ?_)
 refine wpAny_bind (d7 (iX e hc) ?_)
 refine wpAny_bind ?_
 unfold Builtin.ObjectAttr.find
 refine wpAny_bind (d7 (PySem.W.looks_findIn KX h3) ?_)
 refine wpAny_bind ?_
 show wpAny _ _ (specialOf _ _) _ _ _
 refine d7 (PySem.W.looks_specialIn KX h4) ?_
 refine wpAny_bind ?_
 show wpAny _ _ (do let b<-Builtin.ObjectAttr.takesStores (Value.builtin "object.__class__");if b=true then pure (some (Value.builtin "getset_descriptor.__get__",Value.builtin "object.__class__"))else pure none) _ _ _
 refine wpAny_bind (d7 (PySem.W.looks_takesIn KX h5) ?_)
 rw[if_pos rfl]
 refine wpAny_pure ?_
 dsimp only
 refine wpAny_bind (wpAny_rule (wpAny_pure ?_))
 dsimp only
 unfold Builtin.ObjectAttr.bindTo
 dsimp only
 refine wpAny_bind (wpAny_holding (wpAny_call (qB KX e hc h6 ?_)))
 refine PySem.W.nd_pure ?_
 exact PySem.W.handed_on (by rfl) (wpAny_pure q)
def qC:List Value:=[.type "ValueError", .type "Exception", .type "BaseException", .type "object"]
structure mC (K:PySem.W.Frag) (C:Addr):Prop where
 exc:∃newId Bn inN bmN,PySem.W.excIn K C qC newId=true/\ExcBaseFacts Bn newId inN bmN/\qC.contains (.type Bn)=true
 ga:PySem.W.findIn K (.ref C) "__getattribute__"=some (some (.builtin "BaseException.__getattribute__"))
 gt:PySem.W.findIn K (.ref C) "__getattr__"=some none
 kc:PySem.W.findIn K (.ref C) "__class__"=some (some (.builtin "object.__class__"))
 sp:PySem.W.specialIn K (.builtin "object.__class__") "__get__"=some (some (.builtin "getset_descriptor.__get__"))
 tk:PySem.W.takesIn K (.builtin "object.__class__")=some true
 mo:PySem.W.mroIn K C (.type "object")=some true
 mb:PySem.W.mroIn K C (.type "BaseException")=some true
 kk:PySem.W.kitCls K (.ref C) (.ref C)=some true
theorem r_ {K:PySem.W.Frag} {h:Heap} {C:Addr} {bmB:List Value} {newId:String} (KX:K.In h) (e:PySem.W.excIn K C bmB newId=true):∃bm N nm q bs hdct sn sub ab col dd k0 k1 k2 k3 k5 mN,
  h.get? C=some (excClassObj nm q C N bs bm hdct sn sub ab col dd k0 k1 k2 k3 k5 newId)/\h.Ns N mN/\mN (Str.ofString "__init__")=none/\OwnTail h bmB bm:=by
 unfold PySem.W.excIn at e
 split at e
 ·split at e
  ·rename_i dd cd sl lk _ _ C' bm k0 k1 k2 k3 n k5 e1 e2
   simp only[Bool.and_eq_true]at e
   obtain⟨⟨⟨⟨⟨a1,a2⟩,a3⟩,a4⟩,a5⟩,a6⟩:=e
   have b1:C'=C:=eq_of_beq a1
   have b2:n=newId:=eq_of_beq a2
   subst b1 b2
   have g:=KX _ _ lk
   have esl:sl= #[k0,k1,k2,k3,some (Value.builtin n),k5]:=by rw[<-Array.toList_inj];exact e2
   have hdel:cd.hasDel=false:=by simpa using a3
   obtain⟨nm,bs,mro,N,q,hd,sn,sb,ab,col,del⟩:=cd
   dsimp only at e1 hdel a4 a5 a6
   subst e1 esl hdel
   exact⟨bm,N,nm,q,bs,hd,sn,sb,ab,col,dd,k0,k1,k2,k3,k5,_,g,Heap.Ns.of_isNs (PySem.W.isNs_of_in KX a5),PySem.W.nsMap_none_of_in KX a5 (eq_of_beq a6),PySem.W.tail_of_in KX a4⟩
  ·cases e
 ·cases e
theorem uY {K:PySem.W.Frag} {x C:Addr} (k:mC K C):PySem.W.KitX K (.ref x) (.ref C) fun h=>∃ox,h.get? x=some ox/\ox.cls= .ref C where
 ty:=fun M h _ ⟨ox,e,hc⟩=>iX e hc
 it:=fun M h KX _=>(PySem.W.kit_cls KX k.kk).2.1
 ne:=fun h tp dd its n sl KX e=>by
  cases z:(Value.ref C==Value.ref tp)with
  |false=>rfl
  |true=>
   have ez:Value.ref C=Value.ref tp:=eq_of_beq z
   cases ez
   obtain⟨newId,_,_,_,ei,_⟩:=k.exc
   obtain⟨bm,N,nm,q,bs,hd,sn,sb,ab,col,dd,k0,k1,k2,k3,k5,mN,g,_⟩:=r_ KX ei
   rw[e]at g
   exact absurd (congrArg Obj.data (Option.some.inj g)) (fun z=>by cases z)
 ca:=fun {prog w A E Q s} KX ⟨ox,e,hc⟩ q=>xH KX e hc k.ga k.gt k.kc k.sp k.tk k.mo k.mb q
end L2
namespace L2
open PySem PySem.Spec PyProof.Rows
section
variable {X:Cx} {pins:List (Addr×Obj)} {σ:St} {H:Hp} {s:Shared} {a:Addr} {cls:Value} {x:Str} {np cpos pos:Pos} {e:Expr} {es:List Expr} {t:TA} {C:Addr}
noncomputable def uZ (X:Cx) (C:Addr) (t:TA):TS:=fun _ σ H=>t σ H fun vs H1=>vs.length<=sizeLine/\∀pins s a,aC X pins σ H1 s->Fl X pins H1 s.heap a (.ref C)->X.xe (.ref a) s
theorem xI {h':Heap} {vs:List Value} (I:aC X pins σ H s) (p:dU X) (m:s.heap.MadeExcOf h' a cls vs):aC X pins σ H {s with heap:=h'}/\Fl X pins H h' a cls:=by
 obtain⟨tp,g1,g2,g3⟩:=m.there
 exact⟨I.kept (t':=s.toks) m.keeps,qa.of I p m.new (I.hok.none_of m.new),_,_,g1,rfl,rfl, .inl rfl⟩
theorem u_ (k:mC X.K C) (hm:X.mg x=some (.ref C)) (p:dU X) (hc:X.calm=true) (ha:PA X (e::es) t) (hg:Gl X x:=by rfl) (hdb:(x==("__debug__":Str))=false:=by decide)
  (he:starEach (e::es) X.env=(false,eval e X.env)::starEach es X.env:=by rfl) (hpl:(backTo cpos (starEach es X.env)).any (·.1)=false:=by rfl):PS X (.Raise (some (.Call (.Name x np) (e::es) [] cpos)) none pos) (uZ X C t):=by
 intro pins s σ H D I h
 obtain⟨newId,Bn,inN,bmN,ei,fB,hB⟩:=k.exc
 obtain⟨bm,N,nm,q,bs,hd,sn,sb,ab,col,dd,k0,k1,k2,k3,k5,mN,g,ns,ni,tl⟩:=r_ I.ok.mod.kin ei
 have hcons:backTo cpos (starEach (e::es) X.env)=(false,eval e X.env)::backTo cpos (starEach es X.env):=by rw[he];rfl
 refine wpAny_Raise_call_subU (nm:=nm) (q:=q) (C:=C) (N:=N) (bs:=bs) (hdct:=hd) (sn:=sn) (sub:=sb) (ab:=ab) (col:=col) (dd:=dd) (k0:=k0) (k1:=k1) (k2:=k2) (k3:=k3) (k5:=k5) fB hB F.excBase_ValueError (tl.hasType (by decide)) (I.ok.hd hc) (by rw[hcons];exact hpl) ni (jb I hg hm ⟨rfl,?_⟩ hdb)
 rw[hcons]
 refine Calls.evalArgs_plain ?_
 rw[<-hcons]
 refine cb (ha cpos pins s σ H _ I h) fun us s1 ⟨vs,H1,I1,r,z,q1⟩=>⟨rfl,by rw[<-r.length];exact z,I1.bk _ _ g,ns.keeps I1.bk,tl.keeps I1.bk,fun h' a m=> ?_⟩
 obtain⟨I2,f2⟩:=xI I1 p m
 exact q1 pins _ a I2 f2
noncomputable abbrev Cx.inH (X:Cx) (v:Value):Cx:={X with A:=X.A.mark (some v),calm:=false,xe:=fun _ _=>False}
theorem Cx.Ok.inH {v:Value} (ok:X.Ok):(X.inH v).Ok:=⟨ok.mod,ok.kind,ok.glob,ok.blt,ok.above,ok.inj,ok.has,ok.cab,(fun z=>by cases z),ok.frames,ok.stk,ok.exf,ok.bs,ok.bsz,ok.noex,ok.exfs,ok.funs,ok.frf⟩
theorem aC.inH {v:Value} (I:aC X pins σ H s):aC (X.inH v) pins σ H s:=⟨I.ok.inH,I.os,I.bare,I.base,I.loc,I.cell,I.free,I.freeC,I.pin,I.hok,I.len⟩
theorem aC.outH {v:Value} (ok:X.Ok) (I:aC (X.inH v) pins σ H s):aC X pins σ H s:=⟨ok,I.os,I.bare,I.base,I.loc,I.cell,I.free,I.freeC,I.pin,I.hok,I.len⟩
theorem aC.track {o:HO} {oa:Obj} {vs:Array Value} (I:aC X pins σ H s) (n:qa X pins H a) (ga:s.heap.get? a=some oa) (gd:oa.data= .fields vs) (new:bK X.prog X.w (br H a o) s.heap a o):aC X pins σ (br H a o) s:=by
 have ne:∀b u,H b=some u->b≠a:=fun b u e z=>by rw[z,n.no]at e;cases e
 have neL:X.env.locals≠a:=fun z=>by
  obtain⟨m,⟨o,es,ep,ho,hd,_⟩,_⟩:=I.loc
  rw[z,ga]at ho;cases ho
  rw[gd]at hd;cases hd
 have neC:∀y c,X.env.cells.lookup y=some c->c≠a:=fun y c e z=>by
  obtain⟨v,o,ho,hd⟩:=I.cell y c e
  rw[z,ga]at ho;cases ho
  rw[gd]at hd;cases hd
 refine⟨I.ok,I.os,I.bare,⟨I.base.keep,I.base.slot,fun b o e n' hx=> ?_,I.base.there,fun b xs e=> ?_,fun b o u e=> ?_,fun b ps e=> ?_⟩,I.loc,I.cell,by rw[aw neL];exact I.free,fun y c e=>by rw[aw (neC y c e)];exact I.freeC y c e,fun p hp=> ?_,fun b u e=> ?_,I.len⟩
 ·rw[aw (fun z=>by rw[z,n.s0]at e;cases e)];exact I.base.free b o e n' hx
 ·have q:=I.base.tups b xs e
  rw[aw (ne b _ q)];exact q
 ·have q:=I.base.frzs b o u e
  rw[aw (ne b _ q)];exact q
 ·obtain⟨more,q⟩:=I.base.tbls b ps e
  exact⟨more,by rw[aw (ne b _ q)];exact q⟩
 ·obtain⟨e,n',r⟩:=I.pin p hp
  exact⟨e,by rw[aw (n.pin p hp)];exact n',r⟩
 ·by_cases z:b=a
  ·subst z;rw[aA]at e;cases e;exact new
  ·rw[aw z]at e
   refine(I.hok b u e).stay (fun _ _ _ q=>q) (fun c q=> ?_) fun c xs q=> ?_
   ·rw[aw (ne c _ q)];exact q
   ·rw[aw (ne c _ q)];exact q
theorem t6 {M:Model} {A:Around} {E:Value->Shared->Prop} {i:Nat} {n:Str} {Q:Unit->Shared->Prop} (I:aC X pins σ H s) (hN:X.N.Nodup) (hi:X.N[i]? =some n) (hk:X.env.kindOf n=some .local)
  (k:∀s',aC X pins (σ.set i none) H s'->Q () s'):wpAny M A (do bindName X.env n Value.none;unbindBehindTheSuite X.env n pos) Q E s:=by
 obtain⟨m,hn,hl⟩:=id I.loc
 refine wpAny_nameGoes_keeps hk hn (by rw[I.ok.kind];rfl) fun h' v hn' hs=>k _ ?_
 have neL:∀b o,X.s₀.heap.get? b=some o->b≠X.env.locals:=fun b o e=>Nat.ne_of_lt (Nat.lt_of_lt_of_le (Heap.lt_size e) I.ok.above)
 refine⟨I.ok,I.os,I.bare,⟨fun b o e n hb hx=>(hs.2 b (neL b o e)).trans (I.base.keep b o e n hb hx),fun b o e n hb hx=> ?_,I.base.free,fun b o e hx=> ?_,I.base.tups,I.base.frzs,I.base.tbls⟩,⟨_,hn',fun j y v' e1 e2 e3=> ?_⟩,fun y c e=> ?_,I.free,I.freeC,fun p hp=> ?_,fun b u e=> ?_,by simpa using I.len⟩
 ·obtain⟨sl,e1⟩:=I.base.slot b o e n hb hx
  exact⟨sl,(hs.2 b (neL b o e)).trans e1⟩
 ·obtain⟨o',e1⟩:=I.base.there b o e hx
  exact⟨o',(hs.2 b (neL b o e)).trans e1⟩
 ·by_cases hj:j=i
  ·subst hj
   rw[List.getElem?_set]at e2
   split at e2
   ·split at e2<;>cases e2
   ·exact absurd rfl ‹_›
  ·rw[List.getElem?_set_ne (Ne.symm hj)]at e2
   obtain⟨u',r',q⟩:=hl j y v' e1 e2 e3
   refine⟨u',r',?_⟩
   have ny:y≠n:=fun e=>hj (lg hN e1 (e▸hi))
   rcases q with ⟨k,e⟩|⟨k,c,e,z⟩
   ·exact .inl ⟨k,by show (if y=n then v else m y)=_;rw[if_neg ny];exact e⟩
   ·exact .inr ⟨k,c,e,z.sameBut hs (I.cne y c e)⟩
 ·obtain⟨w',z⟩:=I.cell y c e
  exact⟨w',z.sameBut hs (I.cne y c e)⟩
 ·obtain⟨e,n,ne,nf,d⟩:=I.pin p hp
  exact⟨(hs.2 p.1 ne).trans e,n,ne,nf,d⟩
 ·refine(I.hok b u e).stay (fun c v hc q=>(hs.2 c ?_).trans q) (fun _ q=>q) fun _ _ q=>q
  rintro rfl
  have:=I.free
  rcases hc with z|z
  ·rw[<-z,this]at e;cases e
  ·rw[this]at z;cases z
noncomputable def gl (a:Addr) (cls:Value):Heap->Prop:=fun h=>∃o,h.get? a=some o/\o.cls=cls
theorem t7 {P:Program} {w:World} {h:Heap} (e:gl a cls h):bK P w H h a (.ext (gl a cls)):=by
 obtain⟨o,h1,h2⟩:=e
 exact⟨⟨o,h1,h2⟩,⟨o,h1⟩,fun g1 g2 ⟨o',e1,e2⟩ k=>⟨o',k _ e1,e2⟩⟩
theorem Af (I:aC X pins σ H s) (p:dU X) (fl:Ad X pins H s.heap a cls) {Q:Unit->Shared->Prop} {E:Value->Shared->Prop} {A:Around}
  (k:∀h',aC X pins σ H {s with heap:=h'}->Ad X pins H h' a cls->Q () {s with heap:=h'}):wpAny (model X.prog X.w) A (setFlight (.ref a) none) Q E s:=by
 obtain⟨B,oe,vs,ge,gc,gd,ff,hB,hBa,hn,hk⟩:=iA I p fl.fl
 obtain⟨oe',vs',e1,e2,e3,T',e4,tr'⟩:=fl.at_
 rw[ge]at e1;cases e1
 rw[gd]at e3;cases e3
 obtain⟨oT',ts',q1,q2,q3⟩:=tr'.at_
 rcases hn with g|⟨T,oT,ts,f,g1,g2,g3,g4,g5,g6,g7⟩
 ·rw[g]at e4;cases e4
 ·rw[e4]at g1;cases g1
  obtain⟨size1,a0,h0⟩:=rZ e4
  refine lands_againW (base:=B) (l:=X.env::X.outer) (cls:=cls) (a0:=a0) ⟨hB,hBa,ff,oe,vs,T',oT',ts',ge,⟨gc,h0⟩,gd,e4,g2,g3,q1,q2,q3⟩ fun h2 ⟨st,_,_,tr⟩ up=> ?_
  obtain⟨I',f'⟩:=hk h2 _ st tr.at.tl up
  exact k h2 I' f'
theorem t8 {Cx':Addr} {cx n:Str} {i:Nat} {hpos:Pos} {b₀:Stmt} {suite:List Stmt} {rest:List ExceptHandler} {Q:Flow->Shared->Prop} {E:Value->Shared->Prop} (I:aC X pins σ H s) (p:dU X) (fl:Ad X pins H s.heap a (.ref C)) (hN:X.N.Nodup) (hi:X.N[i]? =some n)
  (hk:X.env.scope.names.lookup n=some .local) (hg:Gl X cx) (hm:X.mg cx=some (.ref Cx')) (hx:PySem.W.exmOne X.K (.ref C) (.ref Cx')=some true) (hdb:(cx==("__debug__":Str))=false)
  (k:∀s',aC (X.inH (.ref a)) pins (σ.set i (some (.ref a))) (br H a (.ext (gl a (.ref C)))) s'->
   wpAny (model X.prog X.w) (X.inH (.ref a)).A (execs (b₀::suite) X.env) (fun f s3=>wpAny (model X.prog X.w) X.A (do bindName X.env n Value.none;unbindBehindTheSuite X.env n hpos) (fun _ s5=>Q f s5) E s3) (fun _ _=>False) s'):
  wpAny (model X.prog X.w) X.A (handleBy (.ref a) X.env (.ExceptHandler (some (.Name cx np)) (some n) (b₀::suite) hpos::rest)) Q E s:=by
 refine wpAny_handleBy_cons (codeAny_handlers_test ?_) (by intro z;cases z)
 refine jb (X:=X.inH (.ref a)) I.inH hg hm ?_ hdb
 obtain⟨oe,vs,ge,gc,gd,_⟩:=fl.at_
 refine d7 (PySem.W.exm_one I.kIn (iX ge gc) hx) ?_
 rw[if_pos rfl]
 refine codeAny_handlers_suite_as ?_
 refine Af I p fl fun h2 I2 f2=> ?_
 obtain⟨oe,vs,ge,gc,gd,_⟩:=f2.at_
 have I3:aC X pins σ (br H a (.ext (gl a (.ref C)))) {s with heap:=h2}:=I2.track f2.new ge gd (t7 ⟨oe,ge,gc⟩)
 refine lh (X:=X.inH (.ref a)) I3.inH hN hi (.inl hk) (v:= .ref a) rfl (fun s' I'=> ?_) (.inr hk)
 exact wpAny_mono (k s' I') (fun f s3 q=>q) fun _ _ z=>z.elim
end
end L2
namespace L2
open PySem PySem.Spec PyProof.Rows
noncomputable def n4 (M:Model) (A:Around) (E:Value->Shared->Prop) (use:Option (Value->Sem Unit)) (Q:Value->Shared->Prop) (acc:Value) (cenv:Env) (r:Result) (s':Shared):Prop:=
 match r,use with
 | .ok _,none=>∃m,s'.heap.Ns cenv.locals m/\∀h',Heap.SameBut cenv.locals s'.heap h'->Q acc {s' with heap:=h'}
 | .ok _,some u=>wpAny M A (u acc) (fun _ s''=>∃m,s''.heap.Ns cenv.locals m/\∀h',Heap.SameBut cenv.locals s''.heap h'->Q .none {s'' with heap:=h'}) E s'
 | .error x,_=>∃m,s'.heap.Ns cenv.locals m/\∀h',Heap.SameBut cenv.locals s'.heap h'->wpAny M A (PySem.passOn "comprehension.variables-let-go" x cenv:Sem Value) (fun _ _=>False) E {s' with heap:=h'}
theorem qD {M:Model} {A:Around} {E:Value->Shared->Prop} {env:Env} {s:Shared} {e:Expr} {scope:Scope} {pos:Pos} {newAcc first:Sem Value} {g:Comprehension} {gs:List Comprehension} {cl:List (Str×Addr)} {use:Option (Value->Sem Unit)}
  {Q:Value->Shared->Prop} (hcl:clausesOf e=g::gs) (hs:∀x,foldedSetIterable g.iter env x=pure x) (hclos:closureFor scope env=pure cl)
  (hkind:scope.kind= .function) (hnames:∀x∈scope.names,x.2= .local->scope.names.lookup x.1=some .local)
  (h:wpAny M A first (fun x s₁=>wpAny M A (pyIter x) (fun it s₂=>wpAny M A newAcc (fun acc s₃=>
   wpAny M A (newFunctionEnv scope env.globals cl [] env.qual none .none (some env)) (fun cenv s₄=>
    codeAny M A (.compStart e 0 it acc {cenv with scope:=relabel scope env}) (n4 M A E use Q acc {cenv with scope:=relabel scope env}) s₄) E s₃) E s₂) E s₁) E s):
  wpAny M A (comprehension e scope env pos newAcc false first use) Q E s:=by
 unfold comprehension
 rw[hclos,hcl]
 refine wpAny_bind (wpAny_mono h (fun x s₁ h₁=>wpAny_bind (wpAny_standAt (wpAny_bind (wpAny_of_eq (hs x) (wpAny_bind (wpAny_holding (wpAny_mono h₁ (fun it s₂ h₂=>
  wpAny_standIf (wpAny_bind (wpAny_mono h₂ (fun acc s₃ h₃=>wpAny_bind (wpAny_pure (wpAny_bind (wpAny_mono h₃ (fun cenv s₄ h₄=> ?_) fun _ _ h'=>h')))) fun _ _ h'=>h')))
   fun _ _ h'=>h'))))))) fun _ _ h'=>h')
 dsimp only
 have hv:∀x∈(scope.names.filter fun x=>(x.2== .local||x.2== .cell)&&x.1 != (".0":Str)).reverse,x.2= .local->
   Env.kindOf {cenv with scope:=relabel scope env} x.1=some .local:=fun x hx hl=>lookup_relabel_local (hnames x (List.mem_filter.mp (List.mem_reverse.mp hx)).1 hl)
 have hv':∀x∈(scope.names.filter fun x=>(x.2== .local||x.2== .cell)&&x.1 != (".0":Str)).reverse.drop 1++(scope.names.filter fun x=>(x.2== .local||x.2== .cell)&&x.1 != (".0":Str)).reverse.take 1,
   x.2= .local->Env.kindOf {cenv with scope:=relabel scope env} x.1=some .local:=fun x hx hl=>by
  rcases List.mem_append.mp hx with h1|h1
  ·exact hv x (List.mem_of_mem_drop h1) hl
  ·exact hv x (List.mem_of_mem_take h1) hl
 refine wpAny_holding (wpAny_bind (wpAny_attempt (wpAny_holding (wpAny_run (codeAny_mono h₄ fun r s' hr=> ?_)))))
 cases r with
 |ok f=>
  cases use with
  |none=>
   obtain⟨m,hn,hr⟩:=hr
   exact wpAny_bind (wpAny_holding (wpAny_comp_letGo (cenv:={cenv with scope:=relabel scope env}) hkind _ s' m hv hn fun h' m' _ hs'=>wpAny_pure (hr h' hs')))
  |some u=>
   refine wpAny_bind (wpAny_rule (wpAny_bind (wpAny_holding (wpAny_mono hr (fun _ s'' hr'=> ?_) fun _ _ h'=>h'))))
   obtain⟨m,hn,hr'⟩:=hr'
   exact wpAny_bind (wpAny_comp_letGo (cenv:={cenv with scope:=relabel scope env}) hkind _ s'' m hv' hn fun h' m' _ hs'=>wpAny_pure (hr' h' hs'))
 |error x=>
  have hr':∃m,s'.heap.Ns cenv.locals m/\∀h',Heap.SameBut cenv.locals s'.heap h'->wpAny M A (PySem.passOn "comprehension.variables-let-go" x {cenv with scope:=relabel scope env}:Sem Value) (fun _ _=>False) E {s' with heap:=h'}:=by cases use<;>exact hr
  obtain⟨m,hn,hr⟩:=hr'
  exact wpAny_bind (wpAny_holding (wpAny_comp_letGo (cenv:={cenv with scope:=relabel scope env}) hkind _ s' m hv hn fun h' m' _ hs'=>wpAny_mono (hr h' hs') (fun _ _ f=>f.elim) fun _ _ y=>y))
noncomputable def bS (X:Cx) (scope:Scope) (s:Shared) (H:Hp) (ex:List Addr) (E:Value->Shared->Prop):Cx:={bR X scope s H ex with xe:=E}
section
variable {X:Cx} {scope:Scope} {s:Shared} {H:Hp} {ex:List Addr} {E:Value->Shared->Prop} {pins':List (Addr×Obj)} {τ:St} {H':Hp} {s':Shared}
theorem BV (ok:(bR X scope s H ex).Ok):(bS X scope s H ex E).Ok:=
 ⟨ok.mod,ok.kind,ok.glob,ok.blt,ok.above,ok.inj,ok.has,ok.cab,ok.hd,ok.frames,ok.stk,ok.exf,ok.bs,ok.bsz,ok.noex,ok.exfs,ok.funs,ok.frf⟩
theorem Dx (ok:(bS X scope s H ex E).Ok):(bR X scope s H ex).Ok:=
 ⟨ok.mod,ok.kind,ok.glob,ok.blt,ok.above,ok.inj,ok.has,ok.cab,ok.hd,ok.frames,ok.stk,ok.exf,ok.bs,ok.bsz,ok.noex,ok.exfs,ok.funs,ok.frf⟩
theorem E5 (I:aC (bR X scope s H ex) pins' τ H' s'):aC (bS X scope s H ex E) pins' τ H' s':=⟨BV I.ok,I.os,I.bare,I.base,I.loc,I.cell,I.free,I.freeC,I.pin,I.hok,I.len⟩
theorem Ag (I:aC (bS X scope s H ex E) pins' τ H' s'):aC (bR X scope s H ex) pins' τ H' s':=⟨Dx I.ok,I.os,I.bare,I.base,I.loc,I.cell,I.free,I.freeC,I.pin,I.hok,I.len⟩
end
section
variable {X:Cx} {elt tg iter:Expr} {ifs:List Expr} {scope:Scope} {pos:Pos} {wi:TI} {g:TG} {tt:TT} {te:TE}
theorem v2 (S:aS X scope) (hc:X.calm=true) {pins:List (Addr×Obj)} {σ:St} {H:Hp} {s:Shared} {fp:List Addr} {EE:Value->Shared->Prop} (hg:PG (bS X scope s H fp EE) tg g) (hif:uN (bS X scope s H fp EE) ifs tt) (hel:PE (bS X scope s H fp EE) elt te)
  (I:aC X pins σ H s) {it D:Addr} {tn:Nat->Heap->Prop} {J:It} (T:oM X.prog X.w X.K tg J fp it tn)
  (hfp:∀b∈fp,eS X pins H b/\b<s.heap.objs.size) {Q:Hp->Prop} {R:Result->Shared->Prop}
  (hR:∀τ H' s',aC (bS X scope s H fp EE) [] τ H' s'->Q H'->R (.ok .next) s') (hE:∀e s',EE e s'->notedBy (model X.prog X.w) X.A (bS X scope s H fp EE).env (fun e s''=>R (.error e) s'') e s')
  {s1:Shared} {τ0:St} (I1:aC (bS X scope s H fp EE) [] τ0 H s1) (ht:tn 0 s1.heap) (q:gF J g tt te D τ0 Q H):
  codeAny (model X.prog X.w) X.A (.compLoop (.ListComp elt [⟨tg,iter,ifs,0⟩] scope pos) 0 (.ref it) (.ref D) (bS X scope s H fp EE).env) R s1:=by
 obtain⟨W,⟨m0,w0⟩,turn⟩:=q
 have stat:∀{H':Hp},(∀b∈fp,H' b=none)->∀b∈fp,eS (bS X scope s H fp EE) [] H' b:=fun {H'} hn b hb=>
  ⟨hn b hb,Nat.ne_of_lt (hfp b hb).2,(BV (nQ S I hfp) (E:=EE)).exfs b hb, .inl hb,fun x c hx=>(hfp b hb).1.2.2.2.2.1 x c (dP (cs:=[]) (by intro c h;simp at h) hx),fun p hp=>by cases hp⟩
 refine codeAny_loop rfl (fun n s'=>∃i ys τ H',aC (bS X scope s H fp EE) [] τ H' s'/\tn i s'.heap/\(∀b∈fp,H' b=none)/\W i n ys τ H') (fun n s2 hI=> ?_) m0 ⟨0,[],τ0,H,I1,ht,fun b hb=>(hfp b hb).1.1,w0⟩
 obtain⟨i,ys,τ,H2,I2,st2,fr2,w2⟩:=hI
 show wpAny _ X.A ((compTurn (.ListComp elt [⟨tg,iter,ifs,0⟩] scope pos) 0 (.ref it) (.ref D) (bS X scope s H fp EE).env).onRaise (fun x=>do noteFrame x (bS X scope s H fp EE).env;theTreesLotGoes x)) _ _ s2
 refine wpAny_noted ?_
 rw[compTurn_list]
 have up:∀{α:Type} {t:Sem α} {Q:α->Shared->Prop} {E:Value->Shared->Prop} {s:Shared},wpAny (model X.prog X.w) X.A t Q (fun _ _=>False) s->wpAny (model X.prog X.w) X.A t Q E s:=fun h=>wpAny_mono h (fun _ _ q=>q) fun _ _ f=>f.elim
 have upE:∀{α:Type} {t:Sem α} {Q:α->Shared->Prop} {s':Shared},wpAny (model X.prog X.w) X.A t Q EE s'->wpAny (model X.prog X.w) X.A t Q (notedBy (model X.prog X.w) X.A (bS X scope s H fp EE).env (fun e s''=>R (.error e) s'')) s':=fun h=>wpAny_mono h (fun _ _ q=>q) fun e s' z=>hE e s' z
 obtain⟨hD,alt⟩:=turn i n ys τ H2 w2
 rcases alt with ⟨stop,qn⟩|⟨go,hz,step⟩
 ·refine wpAny_bind (wpAny_standAt (wpAny_bind (up (cb (T.done (bS X scope s H fp EE) rfl rfl rfl hc i [] s2 τ H2 (fun _ _=>False) I2 (stat fr2) st2 stop) fun r s3 z_=> ?_))))
  obtain⟨hr,I3⟩:=z_
  subst hr
  exact wpAny_pure (hR _ _ _ I3 qn)
 ·refine wpAny_bind (wpAny_standAt (wpAny_bind (up (cb (T.item (bS X scope s H fp EE) rfl rfl rfl hc i [] s2 τ H2 (fun _ _=>False) I2 (stat fr2) st2 go) fun r s3 z_=> ?_))))
  obtain⟨u,hr,h3⟩:=z_
  subst hr
  refine wpAny_bind (up (cb h3 fun _ s4 z_=> ?_))
  obtain⟨x,H4,I4,r4,y4,st4,fr4⟩:=z_
  have I4':=I4.pinned (stat fr4) (T.obj _ _ st4)
  have back:∀{τ7:St} {H7:Hp} {s7:Shared},aC (bS X scope s H fp EE) ([]++jR fp s4.heap) τ7 H7 s7->aC (bS X scope s H fp EE) [] τ7 H7 s7/\tn (i+1) s7.heap/\∀b∈fp,H7 b=none:=fun I7=>
   ⟨I7.unpinned,T.keep _ _ _ st4 fun b hb o e=>(I7.pin (b,o) (List.mem_append_right _ (List.mem_append_right _ (eg hb e)))).1,fun b hb=>by
    obtain⟨o,e,d⟩:=T.obj _ _ st4 b hb
    exact(I7.pin (b,o) (List.mem_append_right _ (List.mem_append_right _ (eg hb e)))).2.1⟩
  refine wpAny_bind (upE (cb (hg _ s4 τ H4 x u _ I4' r4 (step x H4 y4)) fun _ s5 z_=> ?_))
  obtain⟨τ5,H5,I5,q5⟩:=z_
  refine wpAny_bind (upE (cb (hif _ s5 τ5 H5 _ I5 q5) fun ok s6 z_=> ?_))
  obtain⟨H6,I6,q6⟩:=z_
  cases ok with
  |false=>
   obtain⟨m',hm,w'⟩:=q6
   obtain⟨a,b,c⟩:=back I6
   exact wpAny_pure ⟨rfl,m',hm,i+1,ys,τ5,H6,a,b,c,w'⟩
  |true=>
   rw[if_pos rfl]at q6
   refine wpAny_bind (wpAny_bind (upE (cb (hel _ s6 τ5 H6 _ I6 q6) fun v s7 z_=> ?_)))
   obtain⟨y,H7,I7,r7,hD7,m',hm,w'⟩:=z_
   refine wpAny_bind (upE (cb (jU (X:=bS X scope s H fp EE) _ s7 τ5 H7 (.ref D) [y] (.ref D) [v] (fun _ H8=>H8=br H7 D (.lst (ys++[y]))) I7 rfl (.cons r7 .nil) ⟨D,ys,y,rfl,rfl,hD7,hz,rfl⟩) fun _ s8 z_=> ?_))
   obtain⟨_,H8,I8,_,e8⟩:=z_
   subst e8
   obtain⟨a,b,c⟩:=back I8
   exact wpAny_pure (wpAny_pure ⟨rfl,m',hm,i+1,ys++[y],τ5,_,a,b,c,w'⟩)
theorem t9 (S:aS X scope) (hc:X.calm=true) (hg:∀s H ex E,PG (bS X scope s H ex E) tg g) (hif:∀s H ex E,uN (bS X scope s H ex E) ifs tt)
  {pins:List (Addr×Obj)} {σ:St} {H:Hp} {s:Shared} {E:Value->Shared->Prop} {fp:List Addr} {EF:Shared->Hp->Value->Shared->Prop}
  (hel:∀s3 H3,aC X pins σ H3 s3->(∀b∈fp,eS X pins H3 b/\b<s3.heap.objs.size)->PE (bS X scope s3 H3 fp (EF s3 H3)) elt te) (I:aC X pins σ H s) {it:Addr} {tn:Nat->Heap->Prop} {J:It} (T:oM X.prog X.w X.K tg J fp it tn)
  (hfp:∀b∈fp,eS X pins H b) (ht:tn 0 s.heap) {Q:Addr->Hp->Prop} {RR:Value->Env->Result->Shared->Prop}
  (hR:∀(D:Addr) (H3:Hp) (s3:Shared) (τ:St) (H':Hp) (s':Shared),aC X pins σ H3 s3->(∀b∈fp,eS X pins H3 b/\b<s3.heap.objs.size)->aC (bS X scope s3 H3 fp (EF s3 H3)) [] τ H' s'->Q D H'->RR (.ref D) (bR X scope s3 H3 fp).env (.ok .next) s')
  (hE:∀(D:Addr) (H3:Hp) (s3:Shared),aC X pins σ H3 s3->(∀b∈fp,eS X pins H3 b/\b<s3.heap.objs.size)->∀e s',EF s3 H3 e s'->notedBy (model X.prog X.w) X.A (bR X scope s3 H3 fp).env (fun e s''=>RR (.ref D) (bR X scope s3 H3 fp).env (.error e) s'') e s')
  (q:∀D,H D=none->gF J g tt te D (ji X.N scope.names σ) (Q D) (br H D (.lst []))):
  wpAny (model X.prog X.w) X.A (newList []) (fun acc s₃=>wpAny (model X.prog X.w) X.A (newFunctionEnv scope X.env.globals (jh X.env scope.names []) [] X.env.qual none .none (some X.env)) (fun cenv s₄=>
   codeAny (model X.prog X.w) X.A (.compStart (.ListComp elt [⟨tg,iter,ifs,0⟩] scope pos) 0 (.ref it) acc {cenv with scope:=relabel scope X.env}) (RR acc {cenv with scope:=relabel scope X.env}) s₄) E s₃) E s:=by
 have hlt:∀b∈fp,b<s.heap.objs.size:=fun b hb=>by
  obtain⟨o,e,_⟩:=T.obj _ _ ht b hb
  exact Heap.lt_size e
 refine wpAny_newList ?_
 have I3:=I.lnew (ys:=[]) (its:=[]) (t':=s.toks) .nil (Nat.zero_le _)
 have hD:H s.heap.objs.size=none:=I.hok.fresh (Nat.le_refl _)
 have hsz3:(s.heap.push {cls:= .type "list",data:= .seq ([]:List Value).toArray}).objs.size=s.heap.objs.size+1:=Heap.size_push ..
 have hfp3:∀b∈fp,eS X pins (br H s.heap.objs.size (.lst [])) b/\b<({s with heap:=s.heap.push {cls:= .type "list",data:= .seq ([]:List Value).toArray},toks:=s.toks}:Shared).heap.objs.size:=fun b hb=>by
  refine⟨⟨?_,(hfp b hb).2⟩,?_⟩
  ·rw[aw (Nat.ne_of_lt (hlt b hb))];exact(hfp b hb).1
  ·show b<(s.heap.push _).objs.size
   rw[hsz3]
   exact Nat.lt_succ_of_lt (hlt b hb)
 refine wpAny_newFunctionEnv S.nocell (by intro y hy;simp at hy) (fun h₁ hns₁ hsb₁=> ?_) S.kind
 dsimp only at hns₁ hsb₁ ⊢
 have k1:∀b o,(s.heap.push {cls:= .type "list",data:= .seq ([]:List Value).toArray}).get? b=some o->h₁.get? b=some o:=fun b o e=>hsb₁.extBut b o (Nat.ne_of_lt (Heap.lt_size e)) (Heap.get?_push_of_some _ e)
 have I4:=uM (t':=s.toks) S I3 hfp3 (h':=h₁) hns₁ k1
 have ht1:tn 0 h₁:=T.keep _ _ _ ht fun b hb o e=>k1 b o (Heap.get?_push_of_some _ e)
 have loop:codeAny (model X.prog X.w) X.A (.compLoop (.ListComp elt [⟨tg,iter,ifs,0⟩] scope pos) 0 (.ref it) (.ref s.heap.objs.size) (bR X scope {s with heap:=s.heap.push {cls:= .type "list",data:= .seq ([]:List Value).toArray},toks:=s.toks} (br H s.heap.objs.size (.lst [])) fp).env)
   (RR (.ref s.heap.objs.size) (bR X scope {s with heap:=s.heap.push {cls:= .type "list",data:= .seq ([]:List Value).toArray},toks:=s.toks} (br H s.heap.objs.size (.lst [])) fp).env) {s with heap:=h₁,toks:=s.toks}:=
  v2 S hc (hg _ _ _ _) (hif _ _ _ _) (hel _ _ I3 hfp3) I3 T hfp3 (fun τ H' s' I' q'=>hR _ _ _ τ H' s' I3 hfp3 I' q') (hE _ _ _ I3 hfp3) (E5 I4) ht1 (q _ hD)
 exact codeAny_compStart_list loop (T.self _ 0 _ _ _ ht1 loop)
noncomputable def Ah (X:Cx) (pins:List (Addr×Obj)) (scope:Scope) (fp:List Addr) (EO:Value->Hp->Prop) (s3:Shared) (H3:Hp):Value->Shared->Prop:=fun e s'=>
 ∃a cls H' τ,e= .ref a/\aC (bR X scope s3 H3 fp) [] τ H' s'/\Ad X pins H' s'.heap a cls/\EO cls H'
theorem s9 {pins:List (Addr×Obj)} {σ:St} {H3:Hp} {s3:Shared} {fp:List Addr} (I:aC X pins σ H3 s3) (p:dU X) (hfp:∀b∈fp,eS X pins H3 b/\b<s3.heap.objs.size) {pins':List (Addr×Obj)} {τ:St} {H H':Hp} {s:Shared} (I':aC (bR X scope s3 H3 fp) pins' τ H s)
  {b:Addr} (hb:s.heap.get? b=none) (hH:H' b=none):qa X pins H' b:=by
 have gone:∀o,s3.heap.get? b=some o->b∉fp->False:=fun o e n=>by
  obtain⟨o',e'⟩:=I'.base.there b o e n
  rw[hb]at e';cases e'
 refine⟨?_,hH,fun q hq z=> ?_⟩
 ·cases e:X.s₀.heap.get? b with
  |none=>rfl
  |some o=>
   obtain⟨o',e'⟩:=I.base.there b o e (by rw[p.ex];simp)
   refine(gone o' e' fun z=> ?_).elim
   rcases(hfp b z).1.2.2.2.1 with y|y
   ·rw[p.ex]at y;cases y
   ·exact absurd (Heap.lt_size e) (Nat.not_lt.mpr y)
 ·have:=(I.pin q hq).1
  rw[z]at this
  exact gone _ this fun y=>(hfp b y).1.2.2.2.2.2 q hq z
noncomputable def Ai (X:Cx) (names:List (Str×NameKind)) (wi:TI) (g:TG) (tt:TT) (te:(Value->Hp->Prop)->TE) (gy:TG):TS:=fun D σ H=>
 ∃EO:Value->Hp->Prop,(∀cls H' pins s a,EO cls H'->aC X pins σ H' s->Fl X pins H' s.heap a cls->X.xe (.ref a) s)/\
  wi σ H fun J H1=>∀p,H1 p=none->gF J g tt (te EO) p (ji X.N names σ) (fun H2=>gy (.ref p) σ H2 D.nx) (br H1 p (.lst []))
theorem v3 {y:Str} {py spos:Pos} {gy:TG} {te:(Value->Hp->Prop)->TE} (pl:dU X) (S:aS X scope) (hc:X.calm=true) (hi:PI X tg iter wi) (hg:∀s H ex E,PG (bS X scope s H ex E) tg g) (hif:∀s H ex E,uN (bS X scope s H ex E) ifs tt)
  (hel:∀pins σ s3 H3 fp EO,aC X pins σ H3 s3->(∀b∈fp,eS X pins H3 b/\b<s3.heap.objs.size)->PE (bS X scope s3 H3 fp (Ah X pins scope fp EO s3 H3)) elt (te EO)) (hy:PG X (.Name y py) gy) (hsw:swapsWith (.ListComp elt [⟨tg,iter,ifs,0⟩] scope pos) (some (.Name y py)) spos.line X.env=pure true:=by rfl)
  (hs:∀x,foldedSetIterable iter X.env x=pure x:=by intro _;rfl):PS X (.Assign [.Name y py] (.ListComp elt [⟨tg,iter,ifs,0⟩] scope pos) spos) (Ai X scope.names wi g tt te gy):=by
 intro pins s σ H D I h
 obtain⟨EO,hEO,h⟩:=h
 rw[exec_Assign_Name_used _ _ _ _ hsw]
 refine wpAny_bind (wpAny_standAt (wpAny_bind ?_))
 show wpAny _ X.A (do let _<-comprehension (.ListComp elt [⟨tg,iter,ifs,0⟩] scope pos) scope X.env _ (newList []) false (eval iter X.env) (some (assign (.Name y py) X.env))) _ _ s
 refine wpAny_bind (wpAny_mono (qD (use:=some (assign (.Name y py) X.env)) (Q:=fun _ s'=>SP X pins D .next s') rfl hs (nP (S.cellOf I.ok)) S.kind S.loc
  (cb (hi pins s σ H _ I h) fun v s1 h1=>cb h1 fun itv s2 h2=> ?_)) (fun _ s' hq=>wpAny_pure (wpAny_pure hq)) fun _ _ e=>e)
 obtain⟨it,fp,tn,J,H2,e,I2,T,st2,f2,q⟩:=h2
 subst e
 refine t9 (Q:=fun p H2=>gy (.ref p) σ H2 D.nx) (EF:=Ah X pins scope fp EO) (RR:=fun acc cenv=>n4 (model X.prog X.w) X.A X.xe (some (assign (.Name y py) X.env)) (fun _ s'=>SP X pins D .next s') acc cenv) S hc hg hif (fun s3 H3 I3 f3=>hel pins σ s3 H3 fp EO I3 f3) I2 T f2 st2 ?_ ?_ q
 ·intro p H3 s3 τ H' s' I3 f3 I' q'
  have I':=Ag I'
  obtain⟨m,hm,_⟩:=I'.loc
  obtain⟨oC,es,ep,hoC,hdC,hkC,hmC⟩:=hm
  have J1:aC X pins σ H' s':=kW (t':=s'.toks) (h':=s'.heap) I3 f3 I' fun b o _ e=>e
  have hC0:H' s3.heap.objs.size=none:=I'.free
  have hCl:s3.heap.objs.size≠X.env.locals:=fun z=>by have:=I3.lt;rw[<-z]at this;exact Nat.lt_irrefl _ this
  have J2:aC X (pins++[(s3.heap.objs.size,oC)]) σ H' s':=J1.pins_of fun q hq=>by
   rcases List.mem_append.mp hq with hq|hq
   ·exact J1.pin q (List.mem_append_right _ hq)
   ·have e:q=(s3.heap.objs.size,oC):=by simpa using hq
    subst e
    exact⟨hoC,hC0,hCl,I3.nofs (Nat.le_refl _),fun v z=>by rw[hdC]at z;cases z⟩
  refine cb (hy _ s' σ H' (.ref p) (.ref p) D.nx J2 rfl q') fun _ s'' z_=> ?_
  obtain⟨σ5,H5,I5,q5⟩:=z_
  have hp:=I5.pin (s3.heap.objs.size,oC) (List.mem_append_right _ (List.mem_append_right _ List.mem_cons_self))
  refine⟨m,⟨oC,es,ep,hp.1,hdC,hkC,hmC⟩,fun h' hs'=> ?_⟩
  refine⟨σ5,H5,(I5.unpinned).turned (it:=s3.heap.objs.size) (t':=s''.toks) (fun b o hb e=>hs'.extBut b o hb e) hp.2.1 hCl (.inr I3.sz) (fun x c hx z=> ?_) (fun q hq z=> ?_),q5⟩
  ·obtain⟨v,o,ho,_⟩:=I3.cell x c hx
   have:=Heap.lt_size ho
   rw[z]at this
   exact Nat.lt_irrefl _ this
  ·have:=(I3.pin q hq).1
   have:=Heap.lt_size this
   rw[z]at this
   exact Nat.lt_irrefl _ this
 ·rintro p H3 s3 I3 f3 e s' ⟨a,cls,H',τ,rfl,I',fl,eo⟩
  obtain⟨m,hm,_⟩:=I'.loc
  have J1:aC X pins σ H' s':=kW (t':=s'.toks) (h':=s'.heap) I3 f3 I' fun b o _ e=>e
  have hC0:H' s3.heap.objs.size=none:=I'.free
  have hCl:s3.heap.objs.size≠X.env.locals:=fun z=>by have:=I3.lt;rw[<-z]at this;exact Nat.lt_irrefl _ this
  refine xF J1 pl fl rfl fun h1 J2 f2 up=> ?_
  have hm1:=up.ns hm
  refine⟨m,hm1,fun h' hs'=> ?_⟩
  have notC:∀b o vs,h1.get? b=some o->o.data= .fields vs->b≠s3.heap.objs.size:=fun b o vs e1 e2 z=>by
   obtain⟨oC,es,ep,hoC,hdC,_⟩:=hm1
   subst z
   have e1':h1.get? (bR X scope s3 H3 fp).env.locals=some o:=e1
   rw[hoC]at e1'
   cases e1'
   rw[hdC]at e2
   cases e2
  have J3:aC X pins σ H' {s' with heap:=h'}:=aC.turned (s:={s' with heap:=h1}) (it:=s3.heap.objs.size) (t':=s'.toks) J2 (fun b o hb e=>hs'.extBut b o hb e) hC0 hCl (.inr I3.sz) (fun x c hx z=>by
   obtain⟨v,o,ho,_⟩:=I3.cell x c hx
   have:=Heap.lt_size ho
   rw[z]at this
   exact Nat.lt_irrefl _ this) (fun q hq z=>by
   have:=(I3.pin q hq).1
   have:=Heap.lt_size this
   rw[z]at this
   exact Nat.lt_irrefl _ this)
  have f3:wD X pins H' h' a cls (rawInt X.env.locals):=by
   obtain⟨oe,vs,g1,g2,g3,T,g4,t⟩:=f2.at_
   obtain⟨oT,ts,g5,g6,g7⟩:=t.at_
   exact⟨f2.new,oe,vs,hs'.extBut a oe (notC a oe vs g1 g3) g1,g2,g3,T,g4,t.new,t.ne,oT,ts,hs'.extBut T oT (notC T oT ts g5 g6) g5,g6,g7⟩
  exact xG (s:={s' with heap:=h'}) J3 pl f3 rfl fun h2 J4 f4=>hEO cls H' pins {s' with heap:=h2} a eo J4 (f4.flo (.inr rfl))
end
end L2
namespace L2.Pu
open PySem PySem.Spec PyProof.Rows
structure eN where
 x:Nat
 C:Addr
 fl:List (Str×Nat)
variable {ly:List eN}
inductive D where
 |non|bl (b:Bool)|int (i:Int)|str (x:Str)|tup (ds:List D)|lst (ds:List D)|dic (kds:List (bn×D))|ins (x:Str) (fs:List (Str×D))|scr (ns:List Int)|exc (x:Str)
mutual
inductive dq (K:PySem.W.Frag) (F:Hp):V->D->Prop
 |non:dq K F .non .non
 |bl (b:Bool):dq K F (.bl b) (.bl b)
 |int (i:Int):dq K F (.int i) (.int i)
 |str (x:Str):dq K F (.str x) (.str x)
 |tup {a:Addr} {vs:List V} {ds:List D}:F a=some (.tup vs)->Reps K F vs ds->dq K F (.ref a) (.tup ds)
 |lst {a:Addr} {vs:List V} {ds:List D}:F a=some (.lst vs)->Reps K F vs ds->dq K F (.ref a) (.lst ds)
 |scr {a:Addr} {ns:List Int}:cT K F a (ns.map V.int)->dq K F (.ref a) (.scr ns)
 |dic {a:Addr} {kvs:List (bn×V)} {kds:List (bn×D)}:F a=some (.dK kvs)->RepK K F kvs kds->(kvs.map (·.1)).Nodup->dq K F (.ref a) (.dic kds)
 |ins {a C dx:Addr} {x:Str} {fs vs:List (Str×V)} {fds:List (Str×D)}:F a=some (.ins C dx fs)->F dx=some (.own a)->PySem.W.nsIn K mainGlobals x=some (some (.ref C))->(∀p∈vs,fs.lookup p.1=some p.2)->(∀f v,fs.lookup f=some v->f∈vs.map (·.1))->RepF K F vs fds->dq K F (.ref a) (.ins x fds)
 |exc {a C:Addr} {x:Str}:F a=some (.ext (gl a (.ref C)))->PySem.W.nsIn K mainGlobals x=some (some (.ref C))->dq K F (.ref a) (.exc x)
inductive Reps (K:PySem.W.Frag) (F:Hp):List V->List D->Prop
 |nil:Reps K F [] []
 |cons {v:V} {d:D} {vs:List V} {ds:List D}:dq K F v d->Reps K F vs ds->Reps K F (v::vs) (d::ds)
inductive RepK (K:PySem.W.Frag) (F:Hp):List (bn×V)->List (bn×D)->Prop
 |nil:RepK K F [] []
 |cons {k:bn} {v:V} {d:D} {vs:List (bn×V)} {ds:List (bn×D)}:dq K F v d->RepK K F vs ds->RepK K F ((k,v)::vs) ((k,d)::ds)
inductive RepF (K:PySem.W.Frag) (F:Hp):List (Str×V)->List (Str×D)->Prop
 |nil:RepF K F [] []
 |cons {k:Str} {v:V} {d:D} {vs:List (Str×V)} {ds:List (Str×D)}:dq K F v d->RepF K F vs ds->RepF K F ((k,v)::vs) ((k,d)::ds)
end
theorem jl {K:PySem.W.Frag} {F F':Hp} {a:Addr} {xs:List V} (e:aQ F F') (h:cT K F a xs):cT K F' a xs:=e.seq h
theorem dq.mono {K:PySem.W.Frag} {F F':Hp} (e:aQ F F') {v:V} {d:D} (h:dq K F v d):dq K F' v d:=
 dq.rec (motive_1:=fun v d _=>dq K F' v d) (motive_2:=fun v d _=>Reps K F' v d) (motive_3:=fun v d _=>RepK K F' v d) (motive_4:=fun v d _=>RepF K F' v d) .non .bl .int .str (fun h _ r=> .tup (e _ _ h) r) (fun h _ r=> .lst (e _ _ h) r) (fun h=> .scr (jl e h)) (fun h _ n r=> .dic (e _ _ h) r n) (fun h h2 n l1 l2 _ r=> .ins (e _ _ h) (e _ _ h2) n l1 l2 r) (fun h n=> .exc (e _ _ h) n) .nil (fun _ _ a b=> .cons a b) .nil (fun _ _ a b=> .cons a b) .nil (fun _ _ a b=> .cons a b) h
theorem Reps.mono {K:PySem.W.Frag} {F F':Hp} (e:aQ F F') {v:List V} {d:List D} (h:Reps K F v d):Reps K F' v d:=
 Reps.rec (motive_1:=fun v d _=>dq K F' v d) (motive_2:=fun v d _=>Reps K F' v d) (motive_3:=fun v d _=>RepK K F' v d) (motive_4:=fun v d _=>RepF K F' v d) .non .bl .int .str (fun h _ r=> .tup (e _ _ h) r) (fun h _ r=> .lst (e _ _ h) r) (fun h=> .scr (jl e h)) (fun h _ n r=> .dic (e _ _ h) r n) (fun h h2 n l1 l2 _ r=> .ins (e _ _ h) (e _ _ h2) n l1 l2 r) (fun h n=> .exc (e _ _ h) n) .nil (fun _ _ a b=> .cons a b) .nil (fun _ _ a b=> .cons a b) .nil (fun _ _ a b=> .cons a b) h
theorem RepK.mono {K:PySem.W.Frag} {F F':Hp} (e:aQ F F') {v:List (bn×V)} {d:List (bn×D)} (h:RepK K F v d):RepK K F' v d:=
 RepK.rec (motive_1:=fun v d _=>dq K F' v d) (motive_2:=fun v d _=>Reps K F' v d) (motive_3:=fun v d _=>RepK K F' v d) (motive_4:=fun v d _=>RepF K F' v d) .non .bl .int .str (fun h _ r=> .tup (e _ _ h) r) (fun h _ r=> .lst (e _ _ h) r) (fun h=> .scr (jl e h)) (fun h _ n r=> .dic (e _ _ h) r n) (fun h h2 n l1 l2 _ r=> .ins (e _ _ h) (e _ _ h2) n l1 l2 r) (fun h n=> .exc (e _ _ h) n) .nil (fun _ _ a b=> .cons a b) .nil (fun _ _ a b=> .cons a b) .nil (fun _ _ a b=> .cons a b) h
theorem RepF.mono {K:PySem.W.Frag} {F F':Hp} (e:aQ F F') {v:List (Str×V)} {d:List (Str×D)} (h:RepF K F v d):RepF K F' v d:=
 RepF.rec (motive_1:=fun v d _=>dq K F' v d) (motive_2:=fun v d _=>Reps K F' v d) (motive_3:=fun v d _=>RepK K F' v d) (motive_4:=fun v d _=>RepF K F' v d) .non .bl .int .str (fun h _ r=> .tup (e _ _ h) r) (fun h _ r=> .lst (e _ _ h) r) (fun h=> .scr (jl e h)) (fun h _ n r=> .dic (e _ _ h) r n) (fun h h2 n l1 l2 _ r=> .ins (e _ _ h) (e _ _ h2) n l1 l2 r) (fun h n=> .exc (e _ _ h) n) .nil (fun _ _ a b=> .cons a b) .nil (fun _ _ a b=> .cons a b) .nil (fun _ _ a b=> .cons a b) h
section
variable {K:PySem.W.Frag} {F:Hp}
noncomputable def v4 (K:PySem.W.Frag) (F:Hp) (v:V):D->Prop
 | .non=>v= .non
 | .bl b=>v= .bl b
 | .int i=>v= .int i
 | .str x=>v= .str x
 | .tup ds=>∃a vs,v= .ref a/\F a=some (.tup vs)/\Reps K F vs ds
 | .lst ds=>∃a vs,v= .ref a/\F a=some (.lst vs)/\Reps K F vs ds
 | .scr ns=>∃a,v= .ref a/\cT K F a (ns.map V.int)
 | .dic kds=>∃a kvs,v= .ref a/\F a=some (.dK kvs)/\RepK K F kvs kds/\(kvs.map (·.1)).Nodup
 | .ins x fds=>∃a C dx fs vs,v= .ref a/\F a=some (.ins C dx fs)/\PySem.W.nsIn K mainGlobals x=some (some (.ref C))/\(∀p∈vs,fs.lookup p.1=some p.2)/\(∀f v,fs.lookup f=some v->f∈vs.map (·.1))/\RepF K F vs fds
 | .exc x=>∃a C,v= .ref a/\F a=some (.ext (gl a (.ref C)))/\PySem.W.nsIn K mainGlobals x=some (some (.ref C))
theorem dq.inv {v:V} {d:D} (h:dq K F v d):v4 K F v d:=by
 cases h with
 |non=>exact rfl
 |bl=>exact rfl
 |int=>exact rfl
 |str=>exact rfl
 |tup h r=>exact⟨_,_,rfl,h,r⟩
 |lst h r=>exact⟨_,_,rfl,h,r⟩
 |scr h=>exact⟨_,rfl,h⟩
 |dic h r n=>exact⟨_,_,rfl,h,r,n⟩
 |ins h1 _ h3 h4 h5 h6=>exact⟨_,_,_,_,_,rfl,h1,h3,h4,h5,h6⟩
 |exc h n=>exact⟨_,_,rfl,h,n⟩
theorem RepK.nilI {vs:List (bn×V)} (h:RepK K F vs []):vs=[]:=by cases h;rfl
theorem RepK.consI {vs:List (bn×V)} {k:bn} {d:D} {ds:List (bn×D)} (h:RepK K F vs ((k,d)::ds)):∃v us,vs=(k,v)::us/\dq K F v d/\RepK K F us ds:=by
 cases h with
 |cons r t=>exact⟨_,_,rfl,r,t⟩
theorem Reps.nilI {vs:List V} (h:Reps K F vs []):vs=[]:=by cases h;rfl
theorem Reps.consI {vs:List V} {d:D} {ds:List D} (h:Reps K F vs (d::ds)):∃v us,vs=v::us/\dq K F v d/\Reps K F us ds:=by
 cases h with
 |cons r t=>exact⟨_,_,rfl,r,t⟩
theorem dq.intI {v:V} {i:Int} (h:dq K F v (.int i)):v= .int i:=h.inv
theorem dq.tupI {v:V} {ds:List D} (h:dq K F v (.tup ds)):∃a vs,v= .ref a/\F a=some (.tup vs)/\Reps K F vs ds:=h.inv
theorem Reps.int1 {vs:List V} {i:Int} (h:Reps K F vs [.int i]):vs=[.int i]:=by
 obtain⟨v,us,rfl,r,t⟩:=h.consI
 rw[t.nilI,r.intI]
theorem Reps.int2 {vs:List V} {i j:Int} (h:Reps K F vs [.int i, .int j]):vs=[.int i, .int j]:=by
 obtain⟨v,us,rfl,r,t⟩:=h.consI
 rw[t.int1,r.intI]
theorem Reps.length:∀{vs:List V} {ds:List D},Reps K F vs ds->vs.length=ds.length:=by
 intro vs ds
 induction ds generalizing vs with
 |nil=>intro h;rw[h.nilI];rfl
 |cons d ds ih=>
  intro h
  obtain⟨v,us,rfl,_,t⟩:=h.consI
  rw[List.length_cons,List.length_cons,ih t]
theorem RepK.length:∀{vs:List (bn×V)} {ds:List (bn×D)},RepK K F vs ds->vs.length=ds.length:=by
 intro vs ds
 induction ds generalizing vs with
 |nil=>intro h;rw[h.nilI];rfl
 |cons d ds ih=>
  intro h
  obtain⟨v,us,rfl,_,t⟩:=RepK.consI (k:=d.1) (d:=d.2) h
  rw[List.length_cons,List.length_cons,ih t]
theorem Reps.append:∀{vs us:List V} {ds es:List D},Reps K F vs ds->Reps K F us es->Reps K F (vs++us) (ds++es):=by
 intro vs us ds
 induction ds generalizing vs with
 |nil=>intro es h g;rw[h.nilI];exact g
 |cons d ds ih=>
  intro es h g
  obtain⟨v,us,rfl,r,t⟩:=h.consI
  exact .cons r (ih t g)
theorem Reps.get:∀{vs:List V} {ds:List D} {i:Nat} {d:D},Reps K F vs ds->ds[i]? =some d->∃v,vs[i]? =some v/\dq K F v d
 |_,_,_,_, .nil,h=>by simp at h
 |_,_,0,_, .cons r t,h=>by simp at h;subst h;exact⟨_,rfl,r⟩
 |_,_,i+1,_, .cons r t,h=>by
  obtain⟨v,h1,h2⟩:=t.get (i:=i) (by simpa using h)
  exact⟨v,by simpa using h1,h2⟩
theorem Reps.get':∀{vs:List V} {ds:List D} {i:Nat} {v:V},Reps K F vs ds->vs[i]? =some v->∃d,ds[i]? =some d/\dq K F v d
 |_,_,_,_, .nil,h=>by simp at h
 |_,_,0,_, .cons r t,h=>by simp at h;subst h;exact⟨_,rfl,r⟩
 |_,_,i+1,_, .cons r t,h=>by
  obtain⟨v,h1,h2⟩:=t.get' (i:=i) (by simpa using h)
  exact⟨v,by simpa using h1,h2⟩
theorem Reps.set:∀{vs:List V} {ds:List D} {v:V} {d:D} (i:Nat),Reps K F vs ds->dq K F v d->Reps K F (vs.set i v) (ds.set i d)
 |_,_,_,_,_, .nil,_=> .nil
 |_,_,_,_,0, .cons r t,h=> .cons h t
 |_,_,_,_,i+1, .cons r t,h=> .cons r (t.set i h)
theorem Reps.drop:∀{vs:List V} {ds:List D} (i:Nat),Reps K F vs ds->Reps K F (vs.drop i) (ds.drop i)
 |_,_,0,h=>h
 |_,_,_+1, .nil=> .nil
 |_,_,i+1, .cons r t=>t.drop i
theorem Reps.take:∀{vs:List V} {ds:List D} (i:Nat),Reps K F vs ds->Reps K F (vs.take i) (ds.take i)
 |_,_,0,h=> .nil
 |_,_,_+1, .nil=> .nil
 |_,_,i+1, .cons r t=> .cons r (t.take i)
theorem Reps.reverse {vs:List V} {ds:List D} (h:Reps K F vs ds):Reps K F vs.reverse ds.reverse:=by
 induction h using Reps.rec (motive_1:=fun _ _ _=>True) (motive_3:=fun _ _ _=>True) (motive_4:=fun _ _ _=>True)with
 |nil=>exact .nil
 |cons r t _ ih=>rw[List.reverse_cons,List.reverse_cons];exact ih.append (.cons r .nil)
 |_=>trivial
end
structure bL (H F H' F':Hp):Prop where
 sub:aQ F' H'
 keep:aQ H H'
 grow:aQ F F'
 new:∀a,F' a≠none->F a≠none\/H a=none
theorem bL.refl {H F:Hp} (h:aQ F H):bL H F H F:=⟨h,aQ.refl _,aQ.refl _,fun _ h=> .inl h⟩
theorem bL.trans {H F H1 F1 H2 F2:Hp} (a:bL H F H1 F1) (b:bL H1 F1 H2 F2):bL H F H2 F2:=
 ⟨b.sub,a.keep.trans b.keep,a.grow.trans b.grow,fun x h=>(b.new x h).elim (fun q=>a.new x q) fun q=> .inr (a.keep.free q)⟩
theorem bT {H:Hp} {p:Addr} {o:HO} (h:H p=none):aQ H (br H p o):=fun b u e=>by
 rw[aw (fun z=>by rw[z,h]at e;cases e)];exact e
theorem bL.lay {H F:Hp} (s:aQ F H) {p:Addr} {o:HO} (h:H p=none):bL H F (br H p o) (br F p o):=by
 refine⟨fun b u e=> ?_,bT h,bT (s.free h),fun b e=> ?_⟩
 ·by_cases z:b=p
  ·subst z;rw[aA]at e ⊢;exact e
  ·rw[aw z]at e ⊢;exact s b u e
 ·by_cases z:b=p
  ·subst z;exact .inr h
  ·rw[aw z]at e;exact .inl e
theorem bL.layOwn {H F:Hp} (s:aQ F H) {p:Addr} {o:HO} (h:H p=none):bL H F (br H p o) F:=
 ⟨s.trans (bT h),bT h,aQ.refl _,fun _ e=> .inl e⟩
inductive Slot where
 |val (d:D)|own (d:D)|bor (d:D)|obj|cel (x:Str) (vds:List (Str×D)) (f:Str) (hs:List D)
noncomputable def Slot.data:Slot->D
 | .val d=>d
 | .own d=>d
 | .bor d=>d
 | .obj=> .non
 | .cel .. => .non
noncomputable def Slot.single:Slot->Bool
 | .obj=>true
 | .cel .. =>true
 |_=>false
noncomputable abbrev ai:=List (Option Slot)
inductive hV (K:PySem.W.Frag) (F:Hp):HO->D->Prop
 |lst {vs:List V} {ds:List D}:Reps K F vs ds->hV K F (.lst vs) (.lst ds)
 |dic {kvs:List (bn×V)} {kds:List (bn×D)}:RepK K F kvs kds->(kvs.map (·.1)).Nodup->hV K F (.dK kvs) (.dic kds)
theorem hV.mono {K:PySem.W.Frag} {F F':Hp} (e:aQ F F') {o:HO} {d:D}:hV K F o d->hV K F' o d
 | .lst r=> .lst (r.mono e)
 | .dic r n=> .dic (r.mono e) n
structure d4 (ly:List eN)where
 H0:Hp
 F0:Hp
 B:Hp
 Er:Str->ai->Prop
 oa:Nat->Option Addr:=fun _=>none
 Fm:Hp:=fun _=>none
structure sd (K:PySem.W.Frag) (H0 H F:Hp) (a dx b:Addr) (x:Str) (vds:List (Str×D)) (f:Str) (hs:List D):Prop where
 ex:∃C fs vs us,H a=some (.ins C dx fs)/\PySem.W.nsIn K mainGlobals x=some (some (.ref C))/\fs.lookup f=some (.ref b)/\H b=some (.lst us)/\Reps K F us hs/\RepF K F vs vds/\(∀p∈vs,fs.lookup p.1=some p.2)/\
  (∀g v,fs.lookup g=some v->g=f\/g∈vs.map (·.1))/\(fs.map (·.1)).Nodup/\f∉vs.map (·.1)
 own:H dx=some (.own a)
 fa:F a=none
 fd:F dx=none
 fb:F b=none
 za:H0 a=none
 zd:H0 dx=none
 zb:H0 b=none
theorem bL.out {H F H' F':Hp} (e:bL H F H' F') {a:Addr} {o:HO} (h:H a=some o) (hF:F a=none):F' a=none:=by
 cases q:F' a with
 |none=>rfl
 |some u=>
  rcases e.new a (by rw[q];simp)with z|z
  ·exact absurd hF z
  ·rw[h]at z;cases z
theorem sd.step {K:PySem.W.Frag} {H0 H F H' F':Hp} {a dx b:Addr} {x:Str} {vds:List (Str×D)} {f:Str} {hs:List D} (h:sd K H0 H F a dx b x vds f hs) (e:bL H F H' F'):sd K H0 H' F' a dx b x vds f hs:=by
 obtain⟨C,fs,vs,us,h1,h2,h3,h4,h5,h6,h7,h8⟩:=h.ex
 exact⟨⟨C,fs,vs,us,e.keep _ _ h1,h2,h3,e.keep _ _ h4,h5.mono e.grow,h6.mono e.grow,h7,h8⟩,e.keep _ _ h.own,e.out h1 h.fa,e.out h.own h.fd,e.out h4 h.fb,h.za,h.zd,h.zb⟩
structure jm (K:PySem.W.Frag) (H0:Hp) (ρ:ai) (σ:St) (H F:Hp):Prop where
 ex:∀(i:Nat) x vds f hs,ρ[i]? =some (some (.cel x vds f hs))->∃a dx b,σ[i]? =some (some (.ref a))/\sd K H0 H F a dx b x vds f hs/\∀(j:Nat) d,ρ[j]? =some (some (.own d))->σ[j]? ≠some (some (.ref b))
 one:∀(i j:Nat) x vds f hs s,ρ[i]? =some (some (.cel x vds f hs))->ρ[j]? =some (some s)->s.single=true->i=j
theorem jm.no {K:PySem.W.Frag} {H0:Hp} {ρ:ai} {σ:St} {H F:Hp} (h:∀(i:Nat) x vds f hs,ρ[i]? ≠some (some (.cel x vds f hs))):jm K H0 ρ σ H F:=⟨fun i x vds f hs e=>absurd e (h i x vds f hs),fun i j x vds f hs s e=>absurd e (h i x vds f hs)⟩
theorem jm.step {K:PySem.W.Frag} {H0 H F H' F':Hp} {ρ:ai} {σ:St} (h:jm K H0 ρ σ H F) (e:bL H F H' F'):jm K H0 ρ σ H' F':=
 ⟨fun i x vds f hs q=>by obtain⟨a,dx,b,h1,h2,h3⟩:=h.ex i x vds f hs q;exact⟨a,dx,b,h1,h2.step e,h3⟩,h.one⟩
structure RI (K:PySem.W.Frag) (c:d4 ly) (ρ:ai) (σ:St) (H F:Hp):Prop where
 ext:bL c.H0 c.F0 H F
 val:∀(i:Nat) d,ρ[i]? =some (some (.val d))->∃v,σ[i]? =some (some v)/\dq K F v d
 own:∀(i:Nat) d,ρ[i]? =some (some (.own d))->∃a o,σ[i]? =some (some (.ref a))/\H a=some o/\F a=none/\c.H0 a=none/\hV K F o d
 bor:∀(i:Nat) d,ρ[i]? =some (some (.bor d))->∃a o,σ[i]? =some (some (.ref a))/\c.B a=some o/\hV K c.F0 o d
 bh:aQ c.B c.H0
 dis:∀(i j:Nat) d d' a,ρ[i]? =some (some (.own d))->ρ[j]? =some (some (.own d'))->σ[i]? =some (some (.ref a))->σ[j]? =some (some (.ref a))->i=j
 len:ρ.length=σ.length
 obj:∀L∈ly,ρ[L.x]? =some (some .obj)->∃a dx fs,(∀b,c.oa L.x=some b->a=b)/\σ[L.x]? =some (some (.ref a))/\H a=some (.ins L.C dx fs)/\H dx=some (.own a)/\F a=none/\F dx=none/\c.H0 a=none/\c.H0 dx=none/\
  (∀p∈L.fl,fs.lookup p.1=(σ[p.2]?).join)/\(∀f v,fs.lookup f=some v->f∈L.fl.map (·.1))/\(fs.map (·.1)).Nodup
 odis:∀L∈ly,∀L'∈ly,ρ[L.x]? =some (some .obj)->ρ[L'.x]? =some (some .obj)->∀a,σ[L.x]? =some (some (.ref a))->σ[L'.x]? =some (some (.ref a))->L=L'
 fm:aQ c.Fm F
 cel:jm K c.H0 ρ σ H F
 pin:∀L∈ly,∀a,c.oa L.x=some a->σ[L.x]? =some (some (.ref a))
noncomputable def jY (ly:List eN) (i:Nat):Prop:=∀L∈ly,L.x≠i/\∀p∈L.fl,p.2≠i
theorem eF {i:Nat}:jY [] i:=fun L h=>by cases h
section
variable {K:PySem.W.Frag} {c:d4 ly} {ρ:ai} {σ:St} {H F H' F':Hp}
theorem RI.step (r:RI K c ρ σ H F) (e:bL H F H' F'):RI K c ρ σ H' F' where
 cel:=r.cel.step e
 pin:=r.pin
 obj:=fun L hL hρ=>by
  obtain⟨a,dx,fs,h0,h1,h2,h3,h4,h5,h6,h7,h8⟩:=r.obj L hL hρ
  exact⟨a,dx,fs,h0,h1,e.keep _ _ h2,e.keep _ _ h3,e.out h2 h4,e.out h3 h5,h6,h7,h8⟩
 odis:=r.odis
 fm:=r.fm.trans e.grow
 ext:=r.ext.trans e
 val:=fun i d h=>by obtain⟨v,h1,h2⟩:=r.val i d h;exact⟨v,h1,h2.mono e.grow⟩
 own:=fun i d h=>by
  obtain⟨a,o,h1,h2,h3,h4,h5⟩:=r.own i d h
  refine⟨a,o,h1,e.keep _ _ h2,?_,h4,h5.mono e.grow⟩
  cases q:F' a with
  |none=>rfl
  |some u=>
   rcases e.new a (by rw[q];simp)with z|z
   ·exact absurd h3 z
   ·rw[h2]at z;cases z
 bor:=r.bor
 bh:=r.bh
 dis:=r.dis
 len:=r.len
theorem RI.sub (r:RI K c ρ σ H F):aQ F H:=r.ext.sub
theorem aI {α:Type} {l:List α} {i j:Nat} {a b:α} (h:(l.set i a)[j]? =some b):(i=j/\a=b/\i<l.length)\/(i≠j/\l[j]? =some b):=by
 rw[List.getElem?_set]at h
 by_cases e:i=j
 ·rw[if_pos e]at h
  split at h
  ·cases h;exact .inl ⟨e,rfl,by assumption⟩
  ·cases h
 ·rw[if_neg e]at h;exact .inr ⟨e,h⟩
theorem iB {α:Type} {l:List α} {i:Nat} {a:α} (h:i<l.length):(l.set i a)[i]? =some a:=by
 rw[List.getElem?_set,if_pos rfl,if_pos h]
theorem ao {α:Type} {l:List α} {i j:Nat} {a:α} (h:i≠j):(l.set i a)[j]? =l[j]? :=by
 rw[List.getElem?_set,if_neg h]
theorem jm.set {K:PySem.W.Frag} {H0:Hp} {ρ:ai} {σ:St} {H F:Hp} (h:jm K H0 ρ σ H F) (i:Nat) {s:Option Slot} {v:Option V} (hn:∀s',s=some s'->s'.single=false)
  (ho:∀d,s=some (.own d)->∀(j:Nat) x vds f hs a C dx fs b,ρ[j]? =some (some (.cel x vds f hs))->σ[j]? =some (some (.ref a))->H a=some (.ins C dx fs)->fs.lookup f=some (.ref b)->v≠some (.ref b)):jm K H0 (ρ.set i s) (σ.set i v) H F:=by
 refine⟨fun j x vds f hs q=> ?_,fun j k x vds f hs s' q q2 hs'=> ?_⟩
 ·rcases aI q with ⟨_,z,_⟩|⟨z,q⟩
  ·have:=hn _ z;cases this
  ·obtain⟨a,dx,b,h1,h2,h3⟩:=h.ex j x vds f hs q
   refine⟨a,dx,b,by rw[ao z];exact h1,h2,fun k d w=> ?_⟩
   rcases aI w with ⟨rfl,z',l⟩|⟨z',w⟩
   ·obtain⟨C,fs,vs,us,g1,g2,g3,_⟩:=h2.ex
    intro e
    rw[List.getElem?_set]at e
    split at e
    ·split at e
     ·exact ho d z' j x vds f hs a C dx fs b q h1 g1 g3 (by simpa using e)
     ·cases e
    ·rename_i ne;exact absurd rfl ne
   ·rw[ao z'];exact h3 k d w
 ·rcases aI q with ⟨_,z,_⟩|⟨z,q⟩
  ·have:=hn _ z;cases this
  ·rcases aI q2 with ⟨_,z',_⟩|⟨z',q2⟩
   ·have:=hn _ z';rw[hs']at this;cases this
   ·exact h.one j k x vds f hs s' q q2 hs'
theorem RI.setVal (r:RI K c ρ σ H F) (i:Nat) {v:V} {d:D} (hf:jY ly i) (h:dq K F v d):RI K c (ρ.set i (some (.val d))) (σ.set i (some v)) H F where
 cel:=r.cel.set i (fun s' e=>by cases e;rfl) (fun d e=>by cases e)
 pin:=fun L hL a h=>by rw[ao (hf L hL).1.symm];exact r.pin L hL a h
 obj:=fun L hL hρ=>by
  rw[ao (hf L hL).1.symm]at hρ
  obtain⟨a,dx,fs,h0,h1,h2,h3,h4,h5,h6,h7,h8,h9⟩:=r.obj L hL hρ
  refine⟨a,dx,fs,h0,by rw[ao (hf L hL).1.symm];exact h1,h2,h3,h4,h5,h6,h7,fun p hp=> ?_,h9⟩
  rw[ao ((hf L hL).2 p hp).symm];exact h8 p hp
 odis:=fun L hL L' hL' q1 q2 a k1 k2=>by
  rw[ao (hf L hL).1.symm]at k1 q1
  rw[ao (hf L' hL').1.symm]at k2 q2
  exact r.odis L hL L' hL' q1 q2 a k1 k2
 fm:=r.fm
 ext:=r.ext
 val:=fun j e q=>by
  rcases aI q with ⟨rfl,z,l⟩|⟨z,q⟩
  ·cases z;exact⟨v,iB (by rw[<-r.len];exact l),h⟩
  ·rw[ao z];exact r.val j e q
 own:=fun j e q=>by
  rcases aI q with ⟨rfl,z,l⟩|⟨z,q⟩
  ·cases z
  ·rw[ao z];exact r.own j e q
 bor:=fun j e q=>by
  rcases aI q with ⟨rfl,z,l⟩|⟨z,q⟩
  ·cases z
  ·rw[ao z];exact r.bor j e q
 bh:=r.bh
 dis:=fun j k e e' a q1 q2 q3 q4=>by
  rcases aI q1 with ⟨rfl,z,l⟩|⟨z,q1⟩
  ·cases z
  ·rcases aI q2 with ⟨rfl,z',l⟩|⟨z',q2⟩
   ·cases z'
   ·rw[ao z]at q3;rw[ao z']at q4
    exact r.dis j k e e' a q1 q2 q3 q4
 len:=by simp[r.len]
theorem RI.setNone (r:RI K c ρ σ H F) (i:Nat) {v:Option V} (hf:jY ly i):RI K c (ρ.set i none) (σ.set i v) H F where
 cel:=r.cel.set i (fun s' e=>by cases e) (fun d e=>by cases e)
 pin:=fun L hL a h=>by rw[ao (hf L hL).1.symm];exact r.pin L hL a h
 obj:=fun L hL hρ=>by
  rw[ao (hf L hL).1.symm]at hρ
  obtain⟨a,dx,fs,h0,h1,h2,h3,h4,h5,h6,h7,h8,h9⟩:=r.obj L hL hρ
  refine⟨a,dx,fs,h0,by rw[ao (hf L hL).1.symm];exact h1,h2,h3,h4,h5,h6,h7,fun p hp=> ?_,h9⟩
  rw[ao ((hf L hL).2 p hp).symm];exact h8 p hp
 odis:=fun L hL L' hL' q1 q2 a k1 k2=>by
  rw[ao (hf L hL).1.symm]at k1 q1
  rw[ao (hf L' hL').1.symm]at k2 q2
  exact r.odis L hL L' hL' q1 q2 a k1 k2
 fm:=r.fm
 ext:=r.ext
 val:=fun j e q=>by
  rcases aI q with ⟨rfl,z,l⟩|⟨z,q⟩
  ·cases z
  ·rw[ao z];exact r.val j e q
 own:=fun j e q=>by
  rcases aI q with ⟨rfl,z,l⟩|⟨z,q⟩
  ·cases z
  ·rw[ao z];exact r.own j e q
 bor:=fun j e q=>by
  rcases aI q with ⟨rfl,z,l⟩|⟨z,q⟩
  ·cases z
  ·rw[ao z];exact r.bor j e q
 bh:=r.bh
 dis:=fun j k e e' a q1 q2 q3 q4=>by
  rcases aI q1 with ⟨rfl,z,l⟩|⟨z,q1⟩
  ·cases z
  ·rcases aI q2 with ⟨rfl,z',l⟩|⟨z',q2⟩
   ·cases z'
   ·rw[ao z]at q3;rw[ao z']at q4
    exact r.dis j k e e' a q1 q2 q3 q4
 len:=by simp[r.len]
theorem RI.setOwn (r:RI K c ρ σ H F) (i:Nat) {a:Addr} {o:HO} {d:D} (hf:jY ly i) (h:H a=some o) (hF:F a=none) (h0:c.H0 a=none) (q:hV K F o d)
  (ne:∀(j:Nat) d',j≠i->ρ[j]? =some (some (.own d'))->σ[j]? ≠some (some (.ref a)))
  (nb:∀(j:Nat) x vds f hs a' C dx fs,ρ[j]? =some (some (.cel x vds f hs))->σ[j]? =some (some (.ref a'))->H a'=some (.ins C dx fs)->fs.lookup f≠some (.ref a)):RI K c (ρ.set i (some (.own d))) (σ.set i (some (.ref a))) H F where
 cel:=r.cel.set i (fun s' e=>by cases e;rfl) (fun d e j x vds f hs a' C dx fs b q1 q2 q3 q4 z=>by cases z;exact nb j x vds f hs a' C dx fs q1 q2 q3 q4)
 pin:=fun L hL b h=>by rw[ao (hf L hL).1.symm];exact r.pin L hL b h
 obj:=fun L hL hρ=>by
  rw[ao (hf L hL).1.symm]at hρ
  obtain⟨b,dx,fs,h0,h1,h2,h3,h4,h5,h6,h7,h8,h9⟩:=r.obj L hL hρ
  refine⟨b,dx,fs,h0,by rw[ao (hf L hL).1.symm];exact h1,h2,h3,h4,h5,h6,h7,fun p hp=> ?_,h9⟩
  rw[ao ((hf L hL).2 p hp).symm];exact h8 p hp
 odis:=fun L hL L' hL' q1 q2 b k1 k2=>by
  rw[ao (hf L hL).1.symm]at k1 q1
  rw[ao (hf L' hL').1.symm]at k2 q2
  exact r.odis L hL L' hL' q1 q2 b k1 k2
 fm:=r.fm
 ext:=r.ext
 val:=fun j e q=>by
  rcases aI q with ⟨rfl,z,l⟩|⟨z,q⟩
  ·cases z
  ·rw[ao z];exact r.val j e q
 own:=fun j e q'=>by
  rcases aI q' with ⟨rfl,z,l⟩|⟨z,q'⟩
  ·cases z;exact⟨a,o,iB (by rw[<-r.len];exact l),h,hF,h0,q⟩
  ·rw[ao z];exact r.own j e q'
 bor:=fun j e q=>by
  rcases aI q with ⟨rfl,z,l⟩|⟨z,q⟩
  ·cases z
  ·rw[ao z];exact r.bor j e q
 bh:=r.bh
 dis:=fun j k e e' b q1 q2 q3 q4=>by
  rcases aI q1 with ⟨rfl,z,l⟩|⟨z,q1⟩
  ·rw[iB (by rw[<-r.len];exact l)]at q3
   cases q3
   rcases aI q2 with ⟨rfl,z',l⟩|⟨z',q2⟩
   ·rfl
   ·rw[ao z']at q4
    exact absurd q4 (ne k e' (Ne.symm z') q2)
  ·rw[ao z]at q3
   rcases aI q2 with ⟨rfl,z',l⟩|⟨z',q2⟩
   ·rw[iB (by rw[<-r.len];exact l)]at q4
    cases q4
    exact absurd q3 (ne j e (Ne.symm z) q1)
   ·rw[ao z']at q4
    exact r.dis j k e e' b q1 q2 q3 q4
 len:=by simp[r.len]
theorem RI.celNe (r:RI K c ρ σ H F) {H2:Hp} (k:aQ H H2) {p:Addr} (hp:H p=none):∀(j:Nat) x vds f hs a' C dx fs,ρ[j]? =some (some (.cel x vds f hs))->σ[j]? =some (some (.ref a'))->H2 a'=some (.ins C dx fs)->fs.lookup f≠some (.ref p):=fun j x vds f hs a' C dx fs q1 q2 q3 q4=>by
 obtain⟨a,dx0,b,h1,h2,_⟩:=r.cel.ex j x vds f hs q1
 rw[q2]at h1
 cases h1
 obtain⟨C0,fs0,vs,us,g1,g2,g3,g4,_⟩:=h2.ex
 rw[k _ _ g1]at q3
 cases q3
 rw[g3]at q4
 cases q4
 rw[hp]at g4
 cases g4
theorem RI.setNew (r:RI K c ρ σ H F) (i:Nat) {a:Addr} {o:HO} {d:D} (hf:jY ly i) (h:H a=none) (q:hV K F o d):RI K c (ρ.set i (some (.own d))) (σ.set i (some (.ref a))) (br H a o) F:=by
 have r':=r.step (bL.layOwn r.sub (o:=o) h)
 refine r'.setOwn i hf aA (r.sub.free h) (r.ext.keep.free h) q (fun j d' _ hj e=> ?_) (r.celNe (bT h) h)
 obtain⟨b,o',h1,h2,_⟩:=r.own j d' hj
 rw[e]at h1
 cases h1
 rw[h]at h2
 cases h2
theorem RI.change (r:RI K c ρ σ H F) {i:Nat} {a:Addr} {o o':HO} {d d':D} (hi:ρ[i]? =some (some (.own d))) (hs:σ[i]? =some (some (.ref a))) (q:hV K F o' d'):
  RI K c (ρ.set i (some (.own d'))) σ (br H a o') F:=by
 obtain⟨b,u,h1,h2,h3,h4,h5⟩:=r.own i d hi
 rw[hs]at h1
 cases h1
 refine⟨⟨fun x y e=> ?_,fun x y e=> ?_,r.ext.grow,r.ext.new⟩,fun j e w=> ?_,fun j e w=> ?_,fun j e w=> ?_,r.bh,fun j k e e' x q1 q2 q3 q4=> ?_,by simp[r.len],fun L hL hρ=> ?_,fun L hL L' hL' q1 q2=> ?_,r.fm,⟨fun j x vds f hs w=> ?_,fun j k x vds f hs s w w2 hs'=> ?_⟩,r.pin⟩
 ·rw[aw (fun z=>by rw[z,h3]at e;cases e)];exact r.sub x y e
 ·rw[aw (fun z=>by rw[z,h4]at e;cases e)];exact r.ext.keep x y e
 ·rcases aI w with ⟨rfl,z,l⟩|⟨z,w⟩
  ·cases z
  ·exact r.val j e w
 ·rcases aI w with ⟨rfl,z,l⟩|⟨z,w⟩
  ·cases z;exact⟨a,o',hs,aA,h3,h4,q⟩
  ·obtain⟨x,y,k1,k2,k3,k4,k5⟩:=r.own j e w
   refine⟨x,y,k1,?_,k3,k4,k5⟩
   rw[aw (fun zz=>by subst zz;exact z (r.dis i j d e x hi w hs k1))]
   exact k2
 ·rcases aI w with ⟨rfl,z,l⟩|⟨z,w⟩
  ·cases z
  ·exact r.bor j e w
 ·have own_of:∀{l:Nat} {x:D},(ρ.set i (some (.own d')))[l]? =some (some (.own x))->∃y,ρ[l]? =some (some (.own y)):=fun {l x} w=>by
   rcases aI w with ⟨rfl,z,_⟩|⟨z,w⟩
   ·exact⟨d,hi⟩
   ·exact⟨x,w⟩
  obtain⟨y1,w1⟩:=own_of q1
  obtain⟨y2,w2⟩:=own_of q2
  exact r.dis j k y1 y2 x w1 w2 q3 q4
 ·have hρ':ρ[L.x]? =some (some .obj):=by
   rcases aI hρ with ⟨_,z,_⟩|⟨_,w⟩
   ·cases z
   ·exact w
  obtain⟨b,dx,fs,k0,k1,k2,k3,k4⟩:=r.obj L hL hρ'
  have n1:b≠a:=fun z=>by subst z;rw[k2]at h2;cases h2;cases h5
  have n2:dx≠a:=fun z=>by subst z;rw[k3]at h2;cases h2;cases h5
  exact⟨b,dx,fs,k0,k1,by rw[aw n1];exact k2,by rw[aw n2];exact k3,k4⟩
 ·refine r.odis L hL L' hL' ?_ ?_
  ·rcases aI q1 with ⟨_,z,_⟩|⟨_,w⟩
   ·cases z
   ·exact w
  ·rcases aI q2 with ⟨_,z,_⟩|⟨_,w⟩
   ·cases z
   ·exact w
 ·rcases aI w with ⟨rfl,z,l⟩|⟨z,w⟩
  ·cases z
  ·obtain⟨b,dx,bb,k1,k2,k3⟩:=r.cel.ex j x vds f hs w
   obtain⟨C,fs,vs,us,g1,g2,g3,g4,g5⟩:=k2.ex
   have n1:b≠a:=fun z=>by subst z;rw[g1]at h2;cases h2;cases h5
   have n2:dx≠a:=fun z=>by subst z;rw[k2.own]at h2;cases h2;cases h5
   have n3:bb≠a:=fun z=>by subst z;exact k3 i d hi hs
   refine⟨b,dx,bb,k1,⟨⟨C,fs,vs,us,by rw[aw n1];exact g1,g2,g3,by rw[aw n3];exact g4,g5⟩,by rw[aw n2];exact k2.own,k2.fa,k2.fd,k2.fb,k2.za,k2.zd,k2.zb⟩,fun k e w2=> ?_⟩
   rcases aI w2 with ⟨rfl,z',l⟩|⟨z',w2⟩
   ·exact k3 i d hi
   ·exact k3 k e w2
 ·rcases aI w with ⟨rfl,z,l⟩|⟨z,w⟩
  ·cases z
  ·rcases aI w2 with ⟨rfl,z',l⟩|⟨z',w2⟩
   ·cases z';cases hs'
   ·exact r.cel.one j k x vds f hs s w w2 hs'
end
noncomputable def frz1 (i:Nat) (ρ:ai):ai:=match ρ[i]? with
 |some (some (.own d))=>ρ.set i (some (.val d))
 |_=>ρ
noncomputable def frz (L:List Nat) (ρ:ai):ai:=L.foldl (fun r i=>frz1 i r) ρ
theorem RI.frz1 {K:PySem.W.Frag} {c:d4 ly} {ρ:ai} {σ:St} {H F:Hp} (r:RI K c ρ σ H F) (i:Nat):∃F',aQ F F'/\RI K c (frz1 i ρ) σ H F':=by
 unfold L2.Pu.frz1
 split
 ·rename_i d hi
  obtain⟨a,o,h1,h2,h3,h4,h5⟩:=r.own i d hi
  have g:aQ F (br F a o):=bT h3
  refine⟨br F a o,g,⟨⟨fun b u e=> ?_,r.ext.keep,r.ext.grow.trans g,fun b e=> ?_⟩,fun j e w=> ?_,fun j e w=> ?_,fun j e w=> ?_,r.bh,fun j k e e' x q1 q2 q3 q4=> ?_,by simp[r.len],fun L hL hρ=> ?_,fun L hL L' hL' q1 q2=> ?_,r.fm.trans g,⟨fun j x vds f hs w=> ?_,fun j k x vds f hs s w w2 hs'=> ?_⟩,r.pin⟩⟩
  ·by_cases z:b=a
   ·subst z;rw[aA]at e;rw[h2];exact e
   ·rw[aw z]at e;exact r.sub b u e
  ·by_cases z:b=a
   ·subst z;exact .inr h4
   ·rw[aw z]at e;exact r.ext.new b e
  ·rcases aI w with ⟨rfl,z,l⟩|⟨z,w⟩
   ·cases z
    refine⟨.ref a,h1,?_⟩
    cases h5 with
    |lst q=>exact .lst aA (q.mono g)
    |dic q n=>exact .dic aA (q.mono g) n
   ·obtain⟨v,k1,k2⟩:=r.val j e w;exact⟨v,k1,k2.mono g⟩
  ·rcases aI w with ⟨rfl,z,l⟩|⟨z,w⟩
   ·cases z
   ·obtain⟨x,y,k1,k2,k3,k4,k5⟩:=r.own j e w
    refine⟨x,y,k1,k2,?_,k4,k5.mono g⟩
    rw[aw (fun zz=>by subst zz;exact z (r.dis i j d e x hi w h1 k1))]
    exact k3
  ·rcases aI w with ⟨rfl,z,l⟩|⟨z,w⟩
   ·cases z
   ·exact r.bor j e w
  ·rcases aI q1 with ⟨rfl,z,l⟩|⟨z,q1⟩
   ·cases z
   ·rcases aI q2 with ⟨rfl,z',l⟩|⟨z',q2⟩
    ·cases z'
    ·exact r.dis j k e e' x q1 q2 q3 q4
  ·have hρ':ρ[L.x]? =some (some .obj):=by
    rcases aI hρ with ⟨_,z,_⟩|⟨_,w⟩
    ·cases z
    ·exact w
   obtain⟨b,dx,fs,k0,k1,k2,k3,k4,k5,k6⟩:=r.obj L hL hρ'
   have n1:b≠a:=fun z=>by subst z;rw[k2]at h2;cases h2;cases h5
   have n2:dx≠a:=fun z=>by subst z;rw[k3]at h2;cases h2;cases h5
   exact⟨b,dx,fs,k0,k1,k2,k3,by rw[aw n1];exact k4,by rw[aw n2];exact k5,k6⟩
  ·refine r.odis L hL L' hL' ?_ ?_
   ·rcases aI q1 with ⟨_,z,_⟩|⟨_,w⟩
    ·cases z
    ·exact w
   ·rcases aI q2 with ⟨_,z,_⟩|⟨_,w⟩
    ·cases z
    ·exact w
  ·rcases aI w with ⟨rfl,z,l⟩|⟨z,w⟩
   ·cases z
   ·obtain⟨b,dx,bb,k1,k2,k3⟩:=r.cel.ex j x vds f hs w
    obtain⟨C,fs,vs,us,g1,g2,g3,g4,g5,g6,g7⟩:=k2.ex
    have n1:b≠a:=fun z=>by subst z;rw[g1]at h2;cases h2;cases h5
    have n2:dx≠a:=fun z=>by subst z;rw[k2.own]at h2;cases h2;cases h5
    have n3:bb≠a:=fun z=>by subst z;exact k3 i d hi h1
    refine⟨b,dx,bb,k1,⟨⟨C,fs,vs,us,g1,g2,g3,g4,g5.mono g,g6.mono g,g7⟩,k2.own,by rw[aw n1];exact k2.fa,by rw[aw n2];exact k2.fd,by rw[aw n3];exact k2.fb,k2.za,k2.zd,k2.zb⟩,fun k e w2=> ?_⟩
    rcases aI w2 with ⟨rfl,z',l⟩|⟨z',w2⟩
    ·cases z'
    ·exact k3 k e w2
  ·rcases aI w with ⟨rfl,z,l⟩|⟨z,w⟩
   ·cases z
   ·rcases aI w2 with ⟨rfl,z',l⟩|⟨z',w2⟩
    ·cases z';cases hs'
    ·exact r.cel.one j k x vds f hs s w w2 hs'
 ·exact⟨F,aQ.refl _,r⟩
theorem RI.frz {K:PySem.W.Frag} {c:d4 ly} {σ:St} {H:Hp}:∀(L:List Nat) {ρ:ai} {F:Hp},RI K c ρ σ H F->∃F',aQ F F'/\RI K c (frz L ρ) σ H F'
 |[],ρ,F,r=>⟨F,aQ.refl _,r⟩
 |i::L,ρ,F,r=>by
  obtain⟨F1,g1,r1⟩:=r.frz1 i
  obtain⟨F2,g2,r2⟩:=RI.frz L r1
  exact⟨F2,g1.trans g2,r2⟩
end L2.Pu
namespace L2.Pu
open PySem PySem.Spec PyProof.Rows
variable {ly:List eN}
inductive R (α:Type)where
 |ok (a:α)|err (c:Str) (ρ:ai)|bad
noncomputable def R.bind {α β:Type}:R α->(α->R β)->R β
 | .ok a,f=>f a
 | .err c ρ,_=> .err c ρ
 | .bad,_=> .bad
noncomputable instance:Monad R where
 pure:=R.ok
 bind:=R.bind
@[simp] theorem ax {α β:Type} (a:α) (f:α->R β):(R.ok a>>=f)=f a:=rfl
@[simp] theorem BW {α β:Type} (c:Str) (ρ:ai) (f:α->R β):(R.err c ρ>>=f)=R.err c ρ:=rfl
@[simp] theorem BX {α β:Type} (f:α->R β):(R.bad>>=f)=R.bad:=rfl
@[simp] theorem CJ {α:Type} (a:α):(pure a:R α)=R.ok a:=rfl
noncomputable def R.of {α:Type}:Option α->R α
 |some a=> .ok a
 |none=> .bad
@[simp] theorem cN {α:Type} (a:α):R.of (some a)= .ok a:=rfl
@[simp] theorem CK {α:Type}:R.of (none:Option α)= .bad:=rfl
noncomputable def aK {α:Type} (c:d4 ly) (r:R α) (P:α->Prop):Prop:=match r with
 | .ok a=>P a
 | .err e ρ=>c.Er e ρ
 | .bad=>False
theorem aK.imp {α:Type} {c:d4 ly} {r:R α} {P P':α->Prop} (h:aK c r P) (w:∀a,r= .ok a->P a->P' a):aK c r P':=by
 cases r with
 |ok a=>exact w a rfl h
 |err e ρ=>exact h
 |bad=>exact h
theorem aK.bind {α β:Type} {c:d4 ly} {r:R α} {f:α->R β} {P:β->Prop}:aK c (r>>=f) P<->aK c r fun a=>aK c (f a) P:=by
 cases r<;>exact Iff.rfl
theorem aK.of {α:Type} {c:d4 ly} {r:Option α} {P:α->Prop} (h:aK c (R.of r) P):∃a,r=some a/\P a:=by
 cases r with
 |none=>exact h.elim
 |some a=>exact⟨a,rfl,h⟩
noncomputable def cy (K:PySem.W.Frag) (H F:Hp) (v:V) (d:D):Prop:=dq K F v d\/∃a o,v= .ref a/\H a=some o/\hV K F o d
theorem cy.mono {K:PySem.W.Frag} {H F H' F':Hp} {v:V} {d:D} (e:bL H F H' F'):cy K H F v d->cy K H' F' v d
 | .inl r=> .inl (r.mono e.grow)
 | .inr ⟨a,o,h1,h2,h3⟩=> .inr ⟨a,o,h1,e.keep _ _ h2,h3.mono e.grow⟩
theorem cy.lst {K:PySem.W.Frag} {H F:Hp} {v:V} {ds:List D} (s:aQ F H) (h:cy K H F v (.lst ds)):∃a vs,v= .ref a/\H a=some (.lst vs)/\Reps K F vs ds:=by
 rcases h with h|⟨a,o,h1,h2,q⟩
 ·obtain⟨a,vs,e,h,r⟩:=h.inv
  exact⟨a,vs,e,s _ _ h,r⟩
 ·cases q with
  |lst r=>exact⟨_,_,h1,h2,r⟩
theorem cy.dic {K:PySem.W.Frag} {H F:Hp} {v:V} {ds:List (bn×D)} (s:aQ F H) (h:cy K H F v (.dic ds)):∃a vs,v= .ref a/\H a=some (.dK vs)/\RepK K F vs ds/\(vs.map (·.1)).Nodup:=by
 rcases h with h|⟨a,o,h1,h2,q⟩
 ·obtain⟨a,vs,e,h,r⟩:=h.inv
  exact⟨a,vs,e,s _ _ h,r⟩
 ·cases q with
  |dic r n=>exact⟨_,_,h1,h2,r,n⟩
noncomputable def E6:D->Bool
 | .lst _=>true
 | .dic _=>true
 |_=>false
theorem cy.in {K:PySem.W.Frag} {H F:Hp} {v:V} {d:D} (h:cy K H F v d) (n:E6 d=false):v4 K F v d:=by
 rcases h with h|⟨a,o,h1,h2,q⟩
 ·exact h.inv
 ·cases q<;>cases n
theorem cy.tup {K:PySem.W.Frag} {H F:Hp} {v:V} {ds:List D} (s:aQ F H) (h:cy K H F v (.tup ds)):∃a vs,v= .ref a/\H a=some (.tup vs)/\Reps K F vs ds:=by
 obtain⟨a,vs,e,h,r⟩:=h.in rfl
 exact⟨a,vs,e,s _ _ h,r⟩
theorem cy.scr {K:PySem.W.Frag} {H F:Hp} {v:V} {ns:List Int} (s:aQ F H) (h:cy K H F v (.scr ns)):∃a,v= .ref a/\cT K H a (ns.map V.int):=by
 obtain⟨a,e,h⟩:=h.in rfl
 exact⟨a,e,s.seq h⟩
theorem cy.int {K:PySem.W.Frag} {H F:Hp} {v:V} {i:Int} (h:cy K H F v (.int i)):v= .int i:=h.in rfl
theorem cy.bl {K:PySem.W.Frag} {H F:Hp} {v:V} {i:Bool} (h:cy K H F v (.bl i)):v= .bl i:=h.in rfl
theorem cy.str {K:PySem.W.Frag} {H F:Hp} {v:V} {i:Str} (h:cy K H F v (.str i)):v= .str i:=h.in rfl
theorem cy.non {K:PySem.W.Frag} {H F:Hp} {v:V} (h:cy K H F v .non):v= .non:=h.in rfl
inductive hW (K:PySem.W.Frag) (H F:Hp):List V->List D->Prop
 |nil:hW K H F [] []
 |cons {v:V} {d:D} {vs:List V} {ds:List D}:cy K H F v d->hW K H F vs ds->hW K H F (v::vs) (d::ds)
noncomputable def dW (K:PySem.W.Frag) (x:Str) (cls:Value):Prop:=∃C,cls= .ref C/\PySem.W.nsIn K mainGlobals x=some (some (.ref C))
noncomputable def Be (X:Cx) (c:d4 ly) (σ:St):XK:=fun cls _ H'=>∃x ρ F',dW X.K x cls/\RI X.K c ρ σ H' F'/\c.Er x ρ
noncomputable def Aj (X:Cx) (c:d4 ly):Prop:=(dU X/\∀pins σ ρ H F s a cls x,aC X pins σ H s->RI X.K c ρ σ H F->Fl X pins H s.heap a cls->dW X.K x cls->c.Er x ρ->X.xe (.ref a) s)\/(∀x ρ,¬c.Er x ρ)\/(X.stack=X.outer/\iU (kM X.prog X.w) X (Be X c))
noncomputable abbrev iK (ly:List eN) (X:Cx):Type:={c:d4 ly // Aj X c}
theorem Aj.no {X:Cx} {c:d4 ly} (h:∀x ρ,¬c.Er x ρ):Aj X c:= .inr (.inl h)
theorem v5 {X:Cx} (c:iK ly X):iU (kM X.prog X.w) X (Be X c.1):=fun pins σ H s e s' I h=>by
 rcases c.2 with ⟨hp,thr⟩|no|⟨_,ps⟩
 ·obtain⟨a,cls,H',rfl,I',fl,x,ρ,F',ec,ri,er⟩:=Ae I hp h
  exact thr pins σ ρ H' F' s' a cls x I' ri fl ec er
 ·obtain⟨a,cls,H',_,_,_,_,_,_,x,ρ,F',ec,ri,er⟩:=h
  exact absurd er (no x ρ)
 ·exact ps pins σ H s e s' I h
theorem Aj.plain {X:Cx} {c:d4 ly} (h:Aj X c) (hst:X.stack=X.env::X.outer):(dU X/\∀pins σ ρ H F s a cls x,aC X pins σ H s->RI X.K c ρ σ H F->Fl X pins H s.heap a cls->dW X.K x cls->c.Er x ρ->X.xe (.ref a) s)\/∀x ρ,¬c.Er x ρ:=by
 rcases h with h|h|⟨h,_⟩
 ·exact .inl h
 ·exact .inr h
 ·rw[h]at hst
  have:=congrArg List.length hst
  simp at this
noncomputable def tQ (K:PySem.W.Frag) (c:d4 ly) (f:ai->R D):TE:=fun σ H Q=>∃F ρ,RI K c ρ σ H F/\aK c (f ρ) fun d=>∀v H' F',bL H F H' F'->dq K F' v d->Q v H'
noncomputable def tB' (K:PySem.W.Frag) (c:d4 ly) (f:ai->R D):TE:=fun σ H Q=>∃F ρ,RI K c ρ σ H F/\aK c (f ρ) fun d=>∀v H' F',bL H F H' F'->cy K H' F' v d->Q v H'
noncomputable def tT (K:PySem.W.Frag) (c:d4 ly) (f:ai->R Bool):TT:=fun σ H Q=>∃F ρ,RI K c ρ σ H F/\aK c (f ρ) fun b=>∀H' F',bL H F H' F'->Q b H'
noncomputable def CL (K:PySem.W.Frag) (c:d4 ly) (f:ai->R (List D)):TA:=fun σ H Q=>∃F ρ,RI K c ρ σ H F/\aK c (f ρ) fun ds=>∀vs H' F',bL H F H' F'->Reps K F' vs ds->Q vs H'
noncomputable def BY (K:PySem.W.Frag) (c:d4 ly) (f:ai->R (List D)):TA:=fun σ H Q=>∃F ρ,RI K c ρ σ H F/\aK c (f ρ) fun ds=>∀vs H' F',bL H F H' F'->hW K H' F' vs ds->Q vs H'
noncomputable def PQ (ly:List eN) (X:Cx) (e:Expr) (f:ai->R D):Prop:=∀c:iK ly X,PE X e (tQ X.K c.1 f)
noncomputable def PB (ly:List eN) (X:Cx) (e:Expr) (f:ai->R D):Prop:=∀c:iK ly X,PE X e (tB' X.K c.1 f)
noncomputable def qb (ly:List eN) (X:Cx) (e:Expr) (f:ai->R Bool):Prop:=∀c:iK ly X,PT X e (tT X.K c.1 f)
noncomputable def n5 (ly:List eN) (X:Cx) (e:Expr) (f:ai->R Bool):Prop:=∀c:iK ly X,PW X e (tT X.K c.1 f)
noncomputable def tf (ly:List eN) (X:Cx) (es:List Expr) (f:ai->R (List D)):Prop:=∀c:iK ly X,PA X es (CL X.K c.1 f)
noncomputable def Ak (ly:List eN) (X:Cx) (es:List Expr) (f:ai->R (List D)):Prop:=∀c:iK ly X,PA X es (BY X.K c.1 f)
theorem PE.weak {X:Cx} {e:Expr} {t t':TE} (h:PE X e t) (w:∀σ H Q,t' σ H Q->t σ H Q):PE X e t':=fun pins s σ H Q I q=>h pins s σ H Q I (w σ H Q q)
theorem PT.weak {X:Cx} {e:Expr} {t t':TT} (h:PT X e t) (w:∀σ H Q,t' σ H Q->t σ H Q):PT X e t':=fun pins s σ H Q I q=>h pins s σ H Q I (w σ H Q q)
theorem PW.weak {X:Cx} {e:Expr} {t t':TT} (h:PW X e t) (w:∀σ H Q,t' σ H Q->t σ H Q):PW X e t':=fun wh pins s σ H Q I q=>h wh pins s σ H Q I (w σ H Q q)
theorem PA.weak {X:Cx} {e:List Expr} {t t':TA} (h:PA X e t) (w:∀σ H Q,t' σ H Q->t σ H Q):PA X e t':=fun pos pins s σ H Q I q=>h pos pins s σ H Q I (w σ H Q q)
theorem PS.weak {X:Cx} {e:Stmt} {t t':TS} (h:PS X e t) (w:∀D σ H,t' D σ H->t D σ H):PS X e t':=fun pins s σ H D I q=>h pins s σ H D I (w D σ H q)
theorem mL.weak {X:Cx} {e:List Stmt} {t t':TS} (h:mL X e t) (w:∀D σ H,t' D σ H->t D σ H):mL X e t':=fun pins s σ H D I q=>h pins s σ H D I (w D σ H q)
theorem PG.weak {X:Cx} {e:Expr} {t t':TG} (h:PG X e t) (w:∀v σ H Q,t' v σ H Q->t v σ H Q):PG X e t':=fun pins s σ H v u Q I r q=>h pins s σ H v u Q I r (w v σ H Q q)
theorem two {K:PySem.W.Frag} {c:d4 ly} {fa fb:ai->R D} {g:D->D->R D} {σ:St} {H:Hp} {Q:VK} (h:tQ K c (fun ρ=>fa ρ>>=fun x=>fb ρ>>=fun y=>g x y) σ H Q)
  {T:V->V->Hp->Prop} (k:∀F H2 F2 v u x y,bL H F H2 F2->cy K H2 F2 v x->cy K H2 F2 u y->aK c (g x y) (fun d=>∀w H' F',bL H F H' F'->dq K F' w d->Q w H')->T v u H2):
  tB' K c fa σ H fun v H1=>tB' K c fb σ H1 fun u H2=>T v u H2:=by
 obtain⟨F,ρ,ri,w⟩:=h
 refine⟨F,ρ,ri,(aK.bind.mp w).imp fun x hx w1 v H1 F1 e1 r1=>⟨F1,ρ,ri.step e1,(aK.bind.mp w1).imp fun y hy w2 u H2 F2 e2 r2=> ?_⟩⟩
 exact k F H2 F2 v u x y (e1.trans e2) (r1.mono e2) r2 w2
noncomputable def gZ (K:PySem.W.Frag) (r:R2) (g:D->D->Option D):Prop:=∀v u x y d H F Q,aQ F H->cy K H F v x->cy K H F u y->g x y=some d->(∀w H' F',bL H F H' F'->dq K F' w d->Q w H')->r v u H Q
noncomputable def BZ (K:PySem.W.Frag) (r:V->Hp->VK->Prop) (g:D->Option D):Prop:=∀v x d H F Q,aQ F H->cy K H F v x->g x=some d->(∀w H' F',bL H F H' F'->dq K F' w d->Q w H')->r v H Q
noncomputable def iY (K:PySem.W.Frag) (r:List V->Hp->VK->Prop) (g:List D->Option D):Prop:=∀vs ds d H F Q,aQ F H->hW K H F vs ds->g ds=some d->(∀w H' F',bL H F H' F'->dq K F' w d->Q w H')->r vs H Q
section
variable {X:Cx} {a b e:Expr} {es:List Expr} {fa fb f:ai->R D} {fs:ai->R (List D)} {pos:Pos}
theorem PQ.bo (h:PQ ly X e f):PB ly X e f:=fun c=>PE.weak (h c) fun σ H Q ⟨F,ρ,ri,w⟩=>⟨F,ρ,ri,w.imp fun d _ k v H' F' e r=>k v H' F' e (.inl r)⟩
noncomputable def ar (i:Nat):ai->R D:=fun ρ=>match ρ[i]? with
 |some (some (.val d))=> .ok d
 |_=> .bad
noncomputable def ae (i:Nat):ai->R D:=fun ρ=>match ρ[i]? with
 |some (some .obj)=> .bad
 |some (some (.cel ..))=> .bad
 |some (some s)=> .ok s.data
 |_=> .bad
theorem Dy (h:PE X e (wH i)):PQ ly X e (ar i):=fun c=>PE.weak h fun σ H Q ⟨F,ρ,ri,w⟩=>by
 unfold ar at w
 split at w
 ·rename_i d hd
  obtain⟨v,h1,h2⟩:=ri.val i d hd
  exact⟨v,h1,w v H F (bL.refl ri.sub) h2⟩
 ·exact w.elim
theorem Dz (h:PE X e (wH i)):PB ly X e (ae i):=fun c=>PE.weak h fun σ H Q ⟨F,ρ,ri,w⟩=>by
 unfold ae at w
 split at w
 ·exact w.elim
 ·exact w.elim
 ·rename_i s hno1 hno2 hs
  cases s with
  |obj=>exact absurd rfl hno1
  |cel x vds f hs=>exact absurd rfl (hno2 _ _ _ _)
  |val d=>obtain⟨v,h1,h2⟩:=ri.val i d hs;exact⟨v,h1,w v H F (bL.refl ri.sub) (.inl h2)⟩
  |own d=>obtain⟨a,o,h1,h2,h3,h4,h5⟩:=ri.own i d hs;exact⟨_,h1,w _ H F (bL.refl ri.sub) (.inr ⟨a,o,rfl,h2,h5⟩)⟩
  |bor d=>obtain⟨a,o,h1,h2,h3⟩:=ri.bor i d hs;exact⟨_,h1,w _ H F (bL.refl ri.sub) (.inr ⟨a,o,rfl,ri.ext.keep _ _ (ri.bh _ _ h2),h3.mono ri.ext.grow⟩)⟩
 ·exact w.elim
theorem au (i:Nat) {x:Str} (hN:X.N[i]? =some x:=by rfl) (hv:rG X.env.scope x:=by first|exact Or.inl rfl|exact Or.inr (Or.inl rfl)|exact Or.inr (Or.inr rfl)) (hd:(x==("__debug__":Str))=false:=by decide)
  (hcd:(x==("__classdict__":Str))=false:=by decide):PQ ly X (.Name x pos) (ar i):=Dy (pv i hN hv hd hcd)
theorem af (i:Nat) {x:Str} (hN:X.N[i]? =some x:=by rfl) (hv:rG X.env.scope x:=by first|exact Or.inl rfl|exact Or.inr (Or.inl rfl)|exact Or.inr (Or.inr rfl)) (hd:(x==("__debug__":Str))=false:=by decide)
  (hcd:(x==("__classdict__":Str))=false:=by decide):PB ly X (.Name x pos) (ae i):=Dz (pv i hN hv hd hcd)
noncomputable def fC (d:D):ai->R D:=fun _=> .ok d
theorem ag {i:Int} {j:Nat}:PQ ly X (.Constant (.int i) j pos) (fC (.int i)):=fun c=>PE.weak ui fun σ H Q ⟨F,ρ,ri,w⟩=>w _ H F (bL.refl ri.sub) (.int i)
theorem lI {i:Bool} {j:Nat}:PQ ly X (.Constant (.bool i) j pos) (fC (.bl i)):=fun c=>PE.weak Bj fun σ H Q ⟨F,ρ,ri,w⟩=>w _ H F (bL.refl ri.sub) (.bl i)
theorem B_ {j:Nat}:PQ ly X (.Constant .none j pos) (fC .non):=fun c=>PE.weak zq fun σ H Q ⟨F,ρ,ri,w⟩=>w _ H F (bL.refl ri.sub) .non
theorem fP {x:Str} {j:Nat}:PQ ly X (.Constant (.str x) j pos) (fC (.str x)):=fun c=>PE.weak zr fun σ H Q ⟨F,ρ,ri,w⟩=>w _ H F (bL.refl ri.sub) (.str x)
noncomputable def f2 (g:D->D->Option D) (fa fb:ai->R D):ai->R D:=fun ρ=>fa ρ>>=fun x=>fb ρ>>=fun y=>R.of (g x y)
theorem az {op:Operator} {r:R2} {g:D->D->Option D} (ho:iH X (binaryOp op) r) (sem:gZ X.K r g) (ha:PB ly X a fa) (hb:PB ly X b fb):PQ ly X (.BinOp a op b pos) (f2 g fa fb):=fun c=>
 PE.weak (yx ho (ha c) (hb c)) fun σ H Q h=>two h fun F H2 F2 v u x y e rx ry w=>by
  obtain⟨d,hd,k⟩:=w.of
  exact sem v u x y d H2 F2 Q e.sub rx ry hd fun w H' F' e' r'=>k w H' F' (e.trans e') r'
noncomputable def f1 (g:D->Option D) (fa:ai->R D):ai->R D:=fun ρ=>fa ρ>>=fun x=>R.of (g x)
theorem Al {op:UnaryOp} {r:V->Hp->VK->Prop} {g:D->Option D} (ho:CG X (unaryOp op) r) (sem:BZ X.K r g) (ha:PB ly X a fa):PQ ly X (.UnaryOp op a pos) (f1 g fa):=fun c=>
 PE.weak (yy ho (ha c)) fun σ H Q ⟨F,ρ,ri,w⟩=>⟨F,ρ,ri,(aK.bind.mp w).imp fun x hx w1 v H1 F1 e1 r1=>by
  obtain⟨d,hd,k⟩:=w1.of
  exact sem v x d H1 F1 Q e1.sub r1 hd fun w H' F' e' r'=>k w H' F' (e1.trans e') r'⟩
theorem p7 {op:CmpOp} {r:R2} {g:D->D->Option D} (ho:iH X (compareOp op) r) (sem:gZ X.K r g) (ha:PB ly X a fa) (hb:PB ly X b fb) (hm:behindInMarks op b=false:=by first|exact ux _|with_unfolding_all rfl):
  PQ ly X (.Compare a [op] [b] pos) (f2 g fa fb):=fun c=>
 PE.weak (wR ho (ha c) (hb c) hm) fun σ H Q h=>two h fun F H2 F2 v u x y e rx ry w=>by
  obtain⟨d,hd,k⟩:=w.of
  exact sem v u x y d H2 F2 Q e.sub rx ry hd fun w H' F' e' r'=>k w H' F' (e.trans e') r'
noncomputable def fT (f:ai->R D):ai->R Bool:=fun ρ=>f ρ>>=fun d=>match d with
 | .bl b=> .ok b
 |_=> .bad
theorem Am {t:TE} (h:PT X e (yz t)) (w:∀σ H Q,tQ X.K c f σ H Q->t σ H Q):PT X e (tT X.K c (fT f)):=PT.weak h fun σ H Q ⟨F,ρ,ri,k⟩=>by
 refine w σ H _ ⟨F,ρ,ri,(aK.bind.mp k).imp fun d _ k1 v H' F' e r=> ?_⟩
 cases d with
 |bl b=>cases r;exact⟨b,rfl,k1 H' F' e⟩
 |_=>exact k1.elim
theorem bU {op:CmpOp} {r:R2} {g:D->D->Option D} (ho:iH X (compareOp op) r) (sem:gZ X.K r g) (ha:PB ly X a fa) (hb:PB ly X b fb) (hm:behindInMarks op b=false:=by first|exact ux _|with_unfolding_all rfl):
  qb ly X (.Compare a [op] [b] pos) (fT (f2 g fa fb)):=fun c=>Am (wU ho (ha c) (hb c) hm) fun σ H Q h=>two h fun F H2 F2 v u x y e rx ry w=>by
  obtain⟨d,hd,k⟩:=w.of
  exact sem v u x y d H2 F2 Q e.sub rx ry hd fun w H' F' e' r'=>k w H' F' (e.trans e') r'
noncomputable def aj:ai->R (List D):=fun _=> .ok []
noncomputable def aa (f:ai->R D) (fs:ai->R (List D)):ai->R (List D):=fun ρ=>f ρ>>=fun x=>fs ρ>>=fun xs=> .ok (x::xs)
theorem al:tf ly X [] aj:=fun c=>PA.weak fj fun σ H Q ⟨F,ρ,ri,w⟩=>w [] H F (bL.refl ri.sub) .nil
theorem ac (h:PQ ly X e f) (hr:tf ly X es fs) (hs:starEach (e::es) X.env=(false,eval e X.env)::starEach es X.env:=by rfl):tf ly X (e::es) (aa f fs):=fun c=>
 PA.weak (c_ (h c) (hr c) hs) fun σ H Q ⟨F,ρ,ri,w⟩=>⟨F,ρ,ri,(aK.bind.mp w).imp fun x hx w1 v H1 F1 e1 r1=>⟨F1,ρ,ri.step e1,(aK.bind.mp w1).imp fun y hy w2 u H2 F2 e2 r2=>
  w2 _ H2 F2 (e1.trans e2) (.cons (r1.mono e2.grow) r2)⟩⟩
theorem aL:Ak ly X [] aj:=fun c=>PA.weak fj fun σ H Q ⟨F,ρ,ri,w⟩=>w [] H F (bL.refl ri.sub) .nil
theorem aE (h:PB ly X e f) (hr:Ak ly X es fs) (hs:starEach (e::es) X.env=(false,eval e X.env)::starEach es X.env:=by rfl):Ak ly X (e::es) (aa f fs):=fun c=>
 PA.weak (c_ (h c) (hr c) hs) fun σ H Q ⟨F,ρ,ri,w⟩=>⟨F,ρ,ri,(aK.bind.mp w).imp fun x hx w1 v H1 F1 e1 r1=>⟨F1,ρ,ri.step e1,(aK.bind.mp w1).imp fun y hy w2 u H2 F2 e2 r2=>
  w2 _ H2 F2 (e1.trans e2) (.cons (r1.mono e2) r2)⟩⟩
noncomputable def lim:Nat:=100000
theorem eh:lim<=sizeLine:=by decide
noncomputable def gI (fs:ai->R (List D)):ai->R D:=fun ρ=>fs ρ>>=fun ds=>if ds.length<=lim then .ok (.tup ds)else .bad
noncomputable def cO (fs:ai->R (List D)):ai->R D:=fun ρ=>fs ρ>>=fun ds=>if ds.length<=lim then .ok (.lst ds)else .bad
theorem iM {x1:Nat} (h:tf ly X es fs):PQ ly X (.Tuple es x1 pos) (gI fs):=fun c=>PE.weak (zO (h c)) fun σ H Q ⟨F,ρ,ri,w⟩=>⟨F,ρ,ri,(aK.bind.mp w).imp fun ds hd w1 vs H1 F1 e1 r1=>by
 split at w1
 ·rename_i hl
  refine⟨Nat.le_trans (by rw[r1.length];exact hl) eh,fun p hp=> ?_⟩
  have e2:=bL.lay (o:= .tup vs) e1.sub hp
  exact w1 _ _ _ (e1.trans e2) (.tup aA (r1.mono e2.grow))
 ·exact w1.elim⟩
theorem eG (h:tf ly X es fs):PQ ly X (.List es pos) (cO fs):=fun c=>PE.weak (uC (h c)) fun σ H Q ⟨F,ρ,ri,w⟩=>⟨F,ρ,ri,(aK.bind.mp w).imp fun ds hd w1 vs H1 F1 e1 r1=>by
 split at w1
 ·rename_i hl
  refine⟨Nat.le_trans (by rw[r1.length];exact hl) eh,fun p hp=> ?_⟩
  have e2:=bL.lay (o:= .lst vs) e1.sub hp
  exact w1 _ _ _ (e1.trans e2) (.lst aA (r1.mono e2.grow))
 ·exact w1.elim⟩
noncomputable def cI (g:List D->Option D) (fs:ai->R (List D)):ai->R D:=fun ρ=>fs ρ>>=fun ds=>R.of (g ds)
variable {x:Str} {p:Pos} {id T:String} {rc:List V->Hp->VK->Prop}
theorem se {c:d4 ly} {rc:List V->Hp->VK->Prop} {g:List D->Option D} (sem:iY X.K rc g) {σ:St} {H:Hp} {Q:VK} (h:tQ X.K c (cI g fs) σ H Q):Dn rc (BY X.K c fs) σ H Q:=by
 obtain⟨F,ρ,ri,w⟩:=h
 refine⟨F,ρ,ri,(aK.bind.mp w).imp fun ds hd w1 vs H1 F1 e1 r1=> ?_⟩
 obtain⟨d,hd,k⟩:=w1.of
 exact sem vs ds d H1 F1 Q e1.sub r1 hd fun w H' F' e' r'=>k w H' F' (e1.trans e') r'
theorem bj {g:List D->Option D} (hc:cG X (.builtin id) rc) (sem:iY X.K rc g) (hm:X.mg x=none) (hv:bootBuiltins x=some (.builtin id)) (ha:Ak ly X (e::es) fs) (hg:Gl X x:=by rfl) (hn:x≠"__name__":=by decide) (hdb:(x==("__debug__":Str))=false:=by decide)
  (he:starEach (e::es) X.env=(false,eval e X.env)::starEach es X.env:=by rfl) (hpl:(backTo pos (starEach es X.env)).any (·.1)=false:=by rfl):PQ ly X (.Call (.Name x p) (e::es) [] pos) (cI g fs):=fun c=>
 PE.weak (jd hc hg hm hv (ha c) hn hdb he hpl) fun σ H Q h=>se sem h
theorem bw {g:List D->Option D} (hc:cG X (.type T) rc) (sem:iY X.K rc g) (hm:X.mg x=none) (hv:bootBuiltins x=some (.type T)) (ha:Ak ly X (e::es) fs) (hg:Gl X x:=by rfl) (hn:x≠"__name__":=by decide) (hdb:(x==("__debug__":Str))=false:=by decide)
  (he:starEach (e::es) X.env=(false,eval e X.env)::starEach es X.env:=by rfl) (hpl:(backTo pos (starEach es X.env)).any (·.1)=false:=by rfl):PQ ly X (.Call (.Name x p) (e::es) [] pos) (cI g fs):=fun c=>
 PE.weak (iy hc hg hm hv (ha c) hn hdb he hpl) fun σ H Q h=>se sem h
noncomputable def tj (K:PySem.W.Frag) (n:Nat) (m:List D->R D):Sp:=fun vs H Q E=>vs.length=n/\∃F ds,aQ F H/\Reps K F vs ds/\match m ds with
 | .ok d=>∀v H' F',bL H F H' F'->dq K F' v d->Q v H'
 | .err x _=>∀cls a H' F',dW K x cls->bL H F H' F'->E cls a H'
 | .bad=>False
noncomputable def aM (m:List D->R D) (n:Nat) (fs:ai->R (List D)):ai->R D:=fun ρ=>fs ρ>>=fun ds=>if ds.length=n then (match m ds with| .ok d=> .ok d| .err x _=> .err x ρ| .bad=> .bad)else .bad
theorem An {c:d4 ly} {m:List D->R D} {n:Nat} {σ:St} {H:Hp} {Q:VK} (h:tQ X.K c (aM m n fs) σ H Q):yB (tj X.K n m) [] (Be X c) (CL X.K c fs) σ H Q:=by
 obtain⟨F,ρ,ri,w⟩:=h
 refine⟨F,ρ,ri,(aK.bind.mp w).imp fun ds hd w1 vs H1 F1 e1 r1=> ?_⟩
 show tj X.K n m (vs++[]) H1 Q (Be X c σ)
 rw[List.append_nil]
 split at w1
 ·rename_i hl
  refine⟨by rw[r1.length];exact hl,F1,ds,e1.sub,r1,?_⟩
  split at w1
  ·exact fun v H' F' e' r'=>w1 v H' F' (e1.trans e') r'
  ·exact fun cls a H' F' ec e'=>⟨_,ρ,F',ec,ri.step (e1.trans e'),w1⟩
  ·exact w1.elim
 ·exact w1.elim
theorem Ao {n k:Nat} {m:List D->R D} {f:Addr} {fd:FuncData} {ps:List Str} (F:eP X.prog X.w X.K X.mg X.base (kM X.prog X.w) k f fd ps (tj X.K n m)) (hr:dh k X.A) (hm:X.mg x=some (.ref f)) (hk:PySem.W.keepIn X.K (.ref f)=true) (hb:fq X.K fd ps [])
  (ha:tf ly X (e::es) fs) (hg:Gl X x:=by rfl) (hdb:(x==("__debug__":Str))=false:=by decide) (he:starEach (e::es) X.env=(false,eval e X.env)::starEach es X.env:=by rfl) (hpl:(backTo pos (starEach es X.env)).any (·.1)=false:=by rfl):
  PQ ly X (.Call (.Name x p) (e::es) [] pos) (aM m n fs):=fun c=>PE.weak (wY F hr hg hm hk hb .nil (v5 c) (ha c) hdb he hpl) fun σ H Q h=>An h
variable {ga gb:ai->R Bool} {rest:List Expr}
noncomputable def jZ (ga gb:ai->R Bool):ai->R Bool:=fun ρ=>ga ρ>>=fun b=>if b=true then gb ρ else .ok false
noncomputable def tm (ga gb:ai->R Bool):ai->R Bool:=fun ρ=>ga ρ>>=fun b=>if b=true then .ok true else gb ρ
noncomputable def hX (ga:ai->R Bool):ai->R Bool:=fun ρ=>ga ρ>>=fun b=> .ok (!b)
theorem n5.t (h:n5 ly X e ga):qb ly X e ga:=fun c=>(h c).pt
theorem lJ (h:qb ly X a ga):n5 ly X (.BoolOp .And [a] pos) ga:=fun c=>wK (h c)
theorem lK (h:qb ly X a ga):n5 ly X (.BoolOp .Or [a] pos) ga:=fun c=>zu (h c)
theorem p8 (h:qb ly X a ga) (hb:n5 ly X (.BoolOp .And (b::rest) pos) gb):n5 ly X (.BoolOp .And (a::b::rest) pos) (jZ ga gb):=fun c=>PW.weak (zv (h c) (hb c)) fun σ H Q ⟨F,ρ,ri,w⟩=>
 ⟨F,ρ,ri,(aK.bind.mp w).imp fun b hb w1 H1 F1 e1=>by
  cases b with
  |true=>exact⟨F1,ρ,ri.step e1,w1.imp fun b' _ k H2 F2 e2=>k H2 F2 (e1.trans e2)⟩
  |false=>exact w1 H1 F1 e1⟩
theorem qE (h:qb ly X a ga) (hb:n5 ly X (.BoolOp .Or (b::rest) pos) gb):n5 ly X (.BoolOp .Or (a::b::rest) pos) (tm ga gb):=fun c=>PW.weak (Bk (h c) (hb c)) fun σ H Q ⟨F,ρ,ri,w⟩=>
 ⟨F,ρ,ri,(aK.bind.mp w).imp fun b hb w1 H1 F1 e1=>by
  cases b with
  |false=>exact⟨F1,ρ,ri.step e1,w1.imp fun b' _ k H2 F2 e2=>k H2 F2 (e1.trans e2)⟩
  |true=>exact w1 H1 F1 e1⟩
theorem iN (h:qb ly X a ga):qb ly X (.UnaryOp .Not a pos) (hX ga):=fun c=>PT.weak (zw (h c)) fun σ H Q ⟨F,ρ,ri,w⟩=>⟨F,ρ,ri,(aK.bind.mp w).imp fun b hb w1 H1 F1 e1=>w1 H1 F1 e1⟩
noncomputable def iO (fa fb:ai->R D):ai->R D:=fun ρ=>fa ρ>>=fun d=>match d with
 | .bl true=>fb ρ
 | .bl false=> .ok (.bl false)
 |_=> .bad
noncomputable def DA (fa fb:ai->R D):ai->R D:=fun ρ=>fa ρ>>=fun d=>match d with
 | .bl true=> .ok (.bl true)
 | .bl false=>fb ρ
 |_=> .bad
noncomputable def p9 (fa:ai->R D):ai->R D:=fun ρ=>fa ρ>>=fun d=>match d with
 | .bl b=> .ok (.bl (!b))
 |_=> .bad
theorem sf {op:PySem.BoolOp} (h:PQ ly X a fa):PQ ly X (.BoolOp op [a] pos) fa:=fun c=>zx (h c)
theorem pb (ha:PQ ly X a fa) (hb:PQ ly X (.BoolOp .And (b::rest) pos) fb):PQ ly X (.BoolOp .And (a::b::rest) pos) (iO fa fb):=fun c=>PE.weak (zy (ha c) (hb c)) fun σ H Q ⟨F,ρ,ri,w⟩=>
 ⟨F,ρ,ri,(aK.bind.mp w).imp fun d hd w1 v H1 F1 e1 r1=>by
  cases d with
  |bl b=>
   cases r1
   cases b with
   |true=>exact⟨true,rfl,F1,ρ,ri.step e1,w1.imp fun b' _ k v H2 F2 e2 r2=>k v H2 F2 (e1.trans e2) r2⟩
   |false=>exact⟨false,rfl,w1 _ H1 F1 e1 (.bl false)⟩
  |_=>exact w1.elim⟩
theorem C1 (ha:PQ ly X a fa):PQ ly X (.UnaryOp .Not a pos) (p9 fa):=fun c=>PE.weak (zA (ha c)) fun σ H Q ⟨F,ρ,ri,w⟩=>⟨F,ρ,ri,(aK.bind.mp w).imp fun d hd w1 v H1 F1 e1 r1=>by
  cases d with
  |bl b=>cases r1;exact⟨b,rfl,w1 _ H1 F1 e1 (.bl _)⟩
  |_=>exact w1.elim⟩
noncomputable def E7 (gc:ai->R Bool) (fa fb:ai->R D):ai->R D:=fun ρ=>gc ρ>>=fun b=>if b=true then fa ρ else fb ρ
noncomputable def fW:D->Option Bool
 | .non=>some false
 | .bl b=>some b
 | .int i=>some (i != 0)
 | .lst ds=>some (!ds.isEmpty)
 | .tup ds=>some (!ds.isEmpty)
 | .dic ds=>some (!ds.isEmpty)
 |_=>none
noncomputable def eU (f:ai->R D):ai->R Bool:=fun ρ=>f ρ>>=fun d=>R.of (fW d)
theorem Reps.isEmpty {K:PySem.W.Frag} {F:Hp}:∀{vs:List V} {ds:List D},Reps K F vs ds->vs.isEmpty=ds.isEmpty
 |_,_, .nil=>rfl
 |_,_, .cons _ _=>rfl
theorem RepK.isEmpty {K:PySem.W.Frag} {F:Hp}:∀{vs:List (bn×V)} {ds:List (bn×D)},RepK K F vs ds->vs.isEmpty=ds.isEmpty
 |_,_, .nil=>rfl
 |_,_, .cons _ _=>rfl
theorem gm (h:PB ly X e f) (he:∀whole,isTrue e X.env whole=(do let v<-whole;standAt e.pos;holding [v] (truthy v)):=by intro _;rfl):qb ly X e (eU f):=fun c=>PT.weak (uy (h c) he) fun σ H Q ⟨F,ρ,ri,w⟩=>
 ⟨F,ρ,ri,(aK.bind.mp w).imp fun d hd w1 v H1 F1 e1 r1=>by
  obtain⟨b,hb,k⟩:=w1.of
  refine⟨b,?_,k H1 F1 e1⟩
  cases d with
  |non=>cases r1.non;cases hb;rfl
  |bl=>cases r1.bl;cases hb;rfl
  |int=>cases r1.int;cases hb;rfl
  |lst ds=>obtain⟨a,vs,rfl,h1,h2⟩:=r1.lst e1.sub;cases hb;exact .inl ⟨vs,cT.of h1,by rw[h2.isEmpty]⟩
  |tup ds=>obtain⟨a,vs,rfl,h1,h2⟩:=r1.tup e1.sub;cases hb;exact .inr (.inl ⟨vs,eR.of h1,by rw[h2.isEmpty]⟩)
  |dic ds=>obtain⟨a,vs,rfl,h1,h2,h3⟩:=r1.dic e1.sub;cases hb;exact .inr (.inr ⟨vs,h1,by rw[h2.isEmpty]⟩)
  |_=>cases hb⟩
end
end L2.Pu
namespace L2.Pu
open PySem PySem.Spec PyProof.Rows
variable {ly:List eN}
inductive bY where
 |nx (ρ:ai)|ret (d:D)|brk (ρ:ai)|cnt (ρ:ai)|retc (d:D) (ρ:ai)
noncomputable def eI (K:PySem.W.Frag) (c:d4 ly) (F:Hp) (D:ja):bY->Prop
 | .nx ρ=>∀σ' H' F',aQ F F'->RI K c ρ σ' H' F'->D.nx σ' H'
 | .brk ρ=>∀σ' H' F',aQ F F'->RI K c ρ σ' H' F'->D.bk σ' H'
 | .cnt ρ=>∀σ' H' F',aQ F F'->RI K c ρ σ' H' F'->D.ct σ' H'
 | .ret d=>∀v H' F',aQ F F'->bL c.H0 c.F0 H' F'->dq K F' v d->D.rt v H'
 | .retc d ρ=>∀v σ' H' F',aQ F F'->RI K c ρ σ' H' F'->dq K F' v d->D.rt v H'
theorem eI.mono {K:PySem.W.Frag} {c:d4 ly} {F F1:Hp} {D:ja} (g:aQ F F1):∀{o:bY},eI K c F D o->eI K c F1 D o
 | .nx ρ,h=>fun σ' H' F' s r=>h σ' H' F' (g.trans s) r
 | .brk ρ,h=>fun σ' H' F' s r=>h σ' H' F' (g.trans s) r
 | .cnt ρ,h=>fun σ' H' F' s r=>h σ' H' F' (g.trans s) r
 | .ret d,h=>fun v H' F' s e r=>h v H' F' (g.trans s) e r
 | .retc d ρ,h=>fun v σ' H' F' s e r=>h v σ' H' F' (g.trans s) e r
noncomputable def tS (K:PySem.W.Frag) (c:d4 ly) (g:ai->R bY):TS:=fun D σ H=>∃F ρ,RI K c ρ σ H F/\aK c (g ρ) (eI K c F D)
noncomputable def mw (ly:List eN) (X:Cx) (st:Stmt) (g:ai->R bY):Prop:=∀c:iK ly X,PS X st (tS X.K c.1 g)
noncomputable def jn (ly:List eN) (X:Cx) (st:List Stmt) (g:ai->R bY):Prop:=∀c:iK ly X,mL X st (tS X.K c.1 g)
section
variable {X:Cx} {st:Stmt} {rest:List Stmt} {a b e:Expr} {es:List Expr} {fa fb f:ai->R D} {fs:ai->R (List D)} {ga gb g g':ai->R bY} {gt:ai->R Bool} {pos:Pos}
noncomputable def bc:ai->R bY:=fun ρ=> .ok (.nx ρ)
noncomputable def aH (g g':ai->R bY):ai->R bY:=fun ρ=>g ρ>>=fun o=>match o with
 | .nx ρ'=>g' ρ'
 |o=> .ok o
theorem bu:jn ly X [] bc:=fun c=>mL.weak wL fun D σ H ⟨F,ρ,ri,w⟩=>w σ H F (aQ.refl _) ri
theorem ah (h:mw ly X st g) (hr:jn ly X rest g'):jn ly X (st::rest) (aH g g'):=fun c=>mL.weak (uk (h c) (hr c)) fun D σ H ⟨F,ρ,ri,w⟩=>by
 refine⟨F,ρ,ri,(aK.bind.mp w).imp fun o ho w1=> ?_⟩
 cases o with
 |nx ρ'=>exact fun σ' H' F' s r=>⟨F',ρ',r,w1.imp fun o' _ k=>k.mono s⟩
 |ret d=>exact w1
 |brk ρ'=>exact w1
 |cnt ρ'=>exact w1
 |retc d ρ'=>exact w1
theorem aD (h:mw ly X st g):jn ly X [st] g:=fun c=>mL.weak (wM (h c)) fun D σ H w=>w
noncomputable def j_ (L:List Nat) (g:ai->R bY):ai->R bY:=fun ρ=>g (frz L ρ)
theorem jp (L:List Nat) (h:mw ly X st g):mw ly X st (j_ L g):=fun c=>PS.weak (h c) fun D σ H ⟨F,ρ,ri,w⟩=>by
 obtain⟨F',s,ri'⟩:=ri.frz L
 exact⟨F',_,ri',w.imp fun o _ k=>k.mono s⟩
noncomputable def Ap:ai->R bY:=fun ρ=> .ok (.cnt ρ)
theorem qF:mw ly X (.Continue pos) Ap:=fun c=>PS.weak oK fun D σ H ⟨F,ρ,ri,w⟩=>w σ H F (aQ.refl _) ri
noncomputable def bN (f:ai->R D):ai->R bY:=fun ρ=>f ρ>>=fun d=> .ok (.ret d)
theorem bC (h:PQ ly X e f):mw ly X (.Return (some e) pos) (bN f):=fun c=>PS.weak (zB (h c)) fun D σ H ⟨F,ρ,ri,w⟩=>
 ⟨F,ρ,ri,(aK.bind.mp w).imp fun d _ w1 v H' F' e r=>w1 v H' F' e.grow (ri.ext.trans e) r⟩
noncomputable def dN (gc:ai->R Bool) (g g':ai->R bY):ai->R bY:=fun ρ=>gc ρ>>=fun b=>if b=true then g ρ else g' ρ
theorem di {ta tb:List Stmt} (hc:qb ly X e gt) (ha:jn ly X ta g) (hb:jn ly X tb g'):mw ly X (.If e ta tb pos) (dN gt g g'):=fun c=>PS.weak (Bs (hc c) (ha c) (hb c)) fun D σ H ⟨F,ρ,ri,w⟩=>
 ⟨F,ρ,ri,(aK.bind.mp w).imp fun b hb w1 H1 F1 e1=>by
  cases b with
  |true=>exact⟨F1,ρ,ri.step e1,w1.imp fun o _ k=>k.mono e1.grow⟩
  |false=>exact⟨F1,ρ,ri.step e1,w1.imp fun o _ k=>k.mono e1.grow⟩⟩
noncomputable def tG (K:PySem.W.Frag) (c:d4 ly) (gt:D->ai->R ai):TG:=fun v σ H Q=>∃F ρ d,RI K c ρ σ H F/\dq K F v d/\aK c (gt d ρ) fun ρ'=>∀σ' H' F',aQ F F'->RI K c ρ' σ' H' F'->Q σ' H'
noncomputable def wF (ly:List eN) (X:Cx) (tg:Expr) (gt:D->ai->R ai):Prop:=∀c:iK ly X,PG X tg (tG X.K c.1 gt)
noncomputable def gN (i:Nat):D->ai->R ai:=fun d ρ=> .ok (ρ.set i (some (.val d)))
theorem bx (i:Nat) {x:Str} (hN:X.N.Nodup) (hi:X.N[i]? =some x:=by rfl) (hx:uh X.env.scope x:=by first|exact Or.inl rfl|exact Or.inr rfl) (hf:X.fn x=true\/X.env.scope.names.lookup x=some .local:=by first|exact .inl rfl|exact .inr rfl|assumption) (hfr:jY ly i:=by(repeat (first|assumption|exact L2.Pu.eF|refine L2.Pu.free_cons ⟨by first|decide|simp,by first|decide|simp⟩ ?_))):wF ly X (.Name x pos) (gN i):=
 fun c=>PG.weak (nG hN hi hx hf) fun v σ H Q ⟨F,ρ,d,ri,r,w⟩=>w _ H F (aQ.refl _) (ri.setVal i hfr r)
noncomputable def DP (K:PySem.W.Frag) (c:d4 ly) (gt:List D->ai->R ai):ul:=fun vs σ H Q=>∃F ρ ds,RI K c ρ σ H F/\Reps K F vs ds/\aK c (gt ds ρ) fun ρ'=>∀σ' H' F',aQ F F'->RI K c ρ' σ' H' F'->Q σ' H'
noncomputable def v6 (ly:List eN) (X:Cx) (tg:List Expr) (gt:List D->ai->R ai):Prop:=∀c:iK ly X,um X tg (DP X.K c.1 gt)
theorem um.weak {X:Cx} {e:List Expr} {t t':ul} (h:um X e t) (w:∀v σ H Q,t' v σ H Q->t v σ H Q):um X e t':=fun pins s σ H v u Q I r q=>h pins s σ H v u Q I r (w v σ H Q q)
noncomputable def n6:List D->ai->R ai:=fun ds ρ=>match ds with
 |[]=> .ok ρ
 |_=> .bad
noncomputable def ft (g:D->ai->R ai) (gs:List D->ai->R ai):List D->ai->R ai:=fun ds ρ=>match ds with
 |[]=> .bad
 |d::r=>g d ρ>>=fun ρ'=>gs r ρ'
theorem qG:v6 ly X [] n6:=fun c=>um.weak wN fun vs σ H Q ⟨F,ρ,ds,ri,r,w⟩=>by
 cases r with
 |nil=>exact⟨rfl,w σ H F (aQ.refl _) ri⟩
 |cons _ _=>exact w.elim
theorem gJ {g:D->ai->R ai} {gs:List D->ai->R ai} (h:wF ly X e g) (hr:v6 ly X es gs) (hs:(assignEach (e::es) X.env).map (·.2)=assign e X.env::(assignEach es X.env).map (·.2):=by rfl):v6 ly X (e::es) (ft g gs):=
 fun c=>um.weak (uo (h c) (hr c) hs) fun vs σ H Q ⟨F,ρ,ds,ri,r,w⟩=>by
 cases r with
 |nil=>exact w.elim
 | @cons v d vs ds r t=>
  refine⟨v,vs,rfl,F,ρ,d,ri,r,(aK.bind.mp w).imp fun ρ' _ w1 σ' H' F' s ri'=>⟨F',ρ',ds,ri',t.mono s,w1.imp fun ρ2 _ k σ2 H2 F2 s2 r2=>k σ2 H2 F2 (s.trans s2) r2⟩⟩
noncomputable def n8 (n:Nat) (gs:List D->ai->R ai):D->ai->R ai:=fun d ρ=>match d with
 | .tup ds=>if ds.length=n then gs ds ρ else .bad
 | .lst ds=>if ds.length=n then gs ds ρ else .bad
 |_=> .bad
theorem PG.or {X:Cx} {e:Expr} {t t':TG} (h:PG X e t) (h':PG X e t'):PG X e (fun v σ H Q=>t v σ H Q\/t' v σ H Q):=fun pins s σ H v u Q I r q=>q.elim (fun q=>h pins s σ H v u Q I r q) fun q=>h' pins s σ H v u Q I r q
theorem yK {k n:Nat} {gs:List D->ai->R ai} (hc:X.calm=true) (h:v6 ly X es gs) (hn:(assignEach es X.env).length=n:=by rfl) (hst:(assignEach es X.env).findIdx? (·.1)=none:=by rfl):wF ly X (.Tuple es k pos) (n8 n gs):=
 fun c=>PG.weak (PG.or (uq hc (h c) hn hst) (uS hc (h c) hn hst)) fun v σ H Q ⟨F,ρ,d,ri,r,w⟩=>by
 cases r with
 | @tup a vs ds h1 h2=>
  change aK c.1 (if ds.length=n then gs ds ρ else .bad) _ at w
  split at w
  ·rename_i hl
   exact .inl ⟨a,vs,rfl,eR.of (ri.sub _ _ h1),by rw[h2.length];exact hl,F,ρ,ds,ri,h2,w⟩
  ·exact w.elim
 | @lst a vs ds h1 h2=>
  change aK c.1 (if ds.length=n then gs ds ρ else .bad) _ at w
  split at w
  ·rename_i hl
   exact .inr ⟨a,vs,rfl,cT.of (ri.sub _ _ h1),by rw[h2.length];exact hl,F,ρ,ds,ri,h2,w⟩
  ·exact w.elim
 |_=>exact w.elim
noncomputable def aT (f:ai->R D) (g:D->ai->R ai):ai->R bY:=fun ρ=>f ρ>>=fun d=>g d ρ>>=fun ρ'=> .ok (.nx ρ')
theorem Aq {c:d4 ly} {g:D->ai->R ai} {K:PySem.W.Frag} {D':ja} {σ:St} {H:Hp} (h:tS K c (aT f g) D' σ H):zE (tQ K c f) (tG K c g) D' σ H:=by
 obtain⟨F,ρ,ri,w⟩:=h
 refine⟨F,ρ,ri,(aK.bind.mp w).imp fun d _ w1 v H1 F1 e1 r1=>⟨F1,ρ,d,ri.step e1,r1,(aK.bind.mp w1).imp fun ρ' _ w2 σ' H' F' s r'=>w2 σ' H' F' (e1.grow.trans s) r'⟩⟩
theorem yL {tg:Expr} {g:D->ai->R ai} (he:PQ ly X e f) (hg:wF ly X tg g) (hs:swapsWithSole [tg] e pos.line X.env=pure false:=by rfl) (hw:swappedStores [tg] e X.env=pure none:=by rfl)
  (h1:(assignEach [tg] X.env).map (·.2)=[assign tg X.env]:=by rfl):mw ly X (.Assign [tg] e pos) (aT f g):=fun c=>PS.weak (qc (he c) (hg c) hs hw h1) fun D σ H h=>Aq h
theorem a_ (i:Nat) {x:Str} {pos':Pos} (hN:X.N.Nodup) (he:PQ ly X e f) (hi:X.N[i]? =some x:=by rfl) (hx:uh X.env.scope x:=by first|exact Or.inl rfl|exact Or.inr rfl) (hs:swapsWith e (some (.Name x pos')) pos.line X.env=pure false:=by rfl)
  (hf:X.fn x=true\/X.env.scope.names.lookup x=some .local:=by first|exact .inl rfl|exact .inr rfl|assumption) (hfr:jY ly i:=by(repeat (first|assumption|exact L2.Pu.eF|refine L2.Pu.free_cons ⟨by first|decide|simp,by first|decide|simp⟩ ?_))):mw ly X (.Assign [.Name x pos'] e pos) (aT f (gN i)):=fun c=>
 PS.weak (nH hN hi hx (he c) hs hf) fun D σ H h=>by
  obtain⟨F,ρ,ri,w⟩:=h
  exact⟨F,ρ,ri,(aK.bind.mp w).imp fun d _ w1 v H1 F1 e1 r1=>w1 _ H1 F1 e1.grow ((ri.step e1).setVal i hfr r1)⟩
noncomputable def E8 (i j:Nat) (fs:ai->R (List D)):ai->R bY:=fun ρ=>fs ρ>>=fun ds=>match ds with
 |[x,y]=> .ok (.nx ((ρ.set i (some (.val x))).set j (some (.val y))))
 |_=> .bad
noncomputable def hZ (i:Nat) (fs:ai->R (List D)):ai->R bY:=fun ρ=>fs ρ>>=fun ds=>if ds.length<=lim then .ok (.nx (ρ.set i (some (.own (.lst ds)))))else .bad
theorem h_ (i:Nat) {x:Str} {pos' pl:Pos} (hN:X.N.Nodup) (h:tf ly X es fs) (hi:X.N[i]? =some x:=by rfl) (hx:uh X.env.scope x:=by first|exact Or.inl rfl|exact Or.inr rfl) (hs:swapsWith (.List es pl) (some (.Name x pos')) pos.line X.env=pure false:=by rfl)
  (hf:X.fn x=true\/X.env.scope.names.lookup x=some .local:=by first|exact .inl rfl|exact .inr rfl|assumption) (hfr:jY ly i:=by(repeat (first|assumption|exact L2.Pu.eF|refine L2.Pu.free_cons ⟨by first|decide|simp,by first|decide|simp⟩ ?_))):mw ly X (.Assign [.Name x pos'] (.List es pl) pos) (hZ i fs):=fun c=>
 PS.weak (nH hN hi hx (uC (h c)) hs hf) fun D σ H ⟨F,ρ,ri,w⟩=>⟨F,ρ,ri,(aK.bind.mp w).imp fun ds _ w1 vs H1 F1 e1 r1=>by
  split at w1
  ·rename_i hl
   refine⟨Nat.le_trans (by rw[r1.length];exact hl) eh,fun p hp=> ?_⟩
   exact w1 _ _ F1 e1.grow ((ri.step e1).setNew i hfr hp (.lst r1))
  ·exact w1.elim⟩
structure qH (K:PySem.W.Frag) (F:Hp) (J:It) (ds:List D):Prop where
 go:∀i H,aQ F H->i<ds.length->J.go i H
 stop:∀H,aQ F H->J.stop ds.length H
 yld:∀i H F1 x H',aQ F F1->aQ F1 H->J.yld i H x H'->i<ds.length->∃F' d,ds[i]? =some d/\bL H F1 H' F'/\dq K F' x d
noncomputable def tI (K:PySem.W.Frag) (c:d4 ly) (fi:ai->R (List D)):TI:=fun σ H Rk=>∃F ρ,RI K c ρ σ H F/\aK c (fi ρ) fun ds=>∀J H' F',bL H F H' F'->qH K F' J ds->Rk J H'
noncomputable def Ar (ly:List eN) (X:Cx) (tg iter:Expr) (fi:ai->R (List D)):Prop:=∀c:iK ly X,PI X tg iter (tI X.K c.1 fi)
theorem PI.weak {X:Cx} {tg e:Expr} {t t':TI} (h:PI X tg e t) (w:∀σ H Rk,t' σ H Rk->t σ H Rk):PI X tg e t':=fun pins s σ H Rk I q=>h pins s σ H Rk I (w σ H Rk q)
noncomputable def cU (g:D->ai->R ai) (gb:ai->R bY):List D->ai->R bY
 |[],ρ=> .ok (.nx ρ)
 |d::r,ρ=>g d ρ>>=fun ρ1=>gb ρ1>>=fun o=>match o with
  | .nx ρ2=>cU g gb r ρ2
  | .cnt ρ2=>cU g gb r ρ2
  | .brk ρ2=> .ok (.nx ρ2)
  | .ret d=> .ok (.ret d)
  | .retc d ρ2=> .ok (.retc d ρ2)
noncomputable def i5 (fi:ai->R (List D)) (g:D->ai->R ai) (gb:ai->R bY):ai->R bY:=fun ρ=>fi ρ>>=fun ds=>cU g gb ds ρ
theorem qI {g:D->ai->R ai} {gb:ai->R bY} {ds:List D} {i:Nat} {d:D} {ρ:ai} (h:ds[i]? =some d):cU g gb (ds.drop i) ρ=(g d ρ>>=fun ρ1=>gb ρ1>>=fun o=>match o with
  | .nx ρ2=>cU g gb (ds.drop (i+1)) ρ2
  | .cnt ρ2=>cU g gb (ds.drop (i+1)) ρ2
  | .brk ρ2=> .ok (.nx ρ2)
  | .ret d=> .ok (.ret d)
  | .retc d ρ2=> .ok (.retc d ρ2)):=by
 obtain⟨hl,e⟩:=List.getElem?_eq_some_iff.mp h
 rw[List.drop_eq_getElem_cons hl,e]
 rfl
theorem As {K:PySem.W.Frag} {c:d4 ly} {fi:ai->R (List D)} {g:D->ai->R ai} {D':ja} {σ:St} {H:Hp} (h:tS K c (i5 fi g gb) D' σ H):Bx (tI K c fi) (tG K c g) (tS K c gb) D' σ H:=by
 obtain⟨F,ρ,ri,w⟩:=h
 refine⟨F,ρ,ri,(aK.bind.mp w).imp fun ds _ w1 J H1 F1 e1 jo=> ?_⟩
 refine⟨fun i m σ H=>∃F2 ρ2,RI K c ρ2 σ H F2/\aQ F1 F2/\m=ds.length - i/\i<=ds.length/\aK c (cU g gb (ds.drop i) ρ2) (eI K c F2 D'),⟨_,F1,ρ,ri.step e1,aQ.refl _,rfl,Nat.zero_le _,w1.imp fun o _ k=>k.mono e1.grow⟩,?_⟩
 rintro i m σ2 H2 ⟨F2,ρ2,ri2,s2,rfl,hi,w2⟩
 by_cases hl:i<ds.length
 ·refine .inr ⟨jo.go i H2 (s2.trans ri2.sub) hl,fun σ' H'=>∃F3 ρ3,RI K c ρ3 σ' H' F3/\aQ F2 F3/\aK c (cU g gb (ds.drop (i+1)) ρ3) (eI K c F3 D'),?_,fun x H3 y=> ?_⟩
  ·rintro σ' H' ⟨F3,ρ3,ri3,s3,w3⟩
   exact⟨ds.length - (i+1),by omega,F3,ρ3,ri3,s2.trans s3,rfl,hl,w3⟩
  ·obtain⟨F3,d,hd,e3,r3⟩:=jo.yld i H2 F2 x H3 s2 ri2.sub y hl
   rw[qI hd]at w2
   refine⟨F3,ρ2,d,ri2.step e3,r3,(aK.bind.mp w2).imp fun ρ3 _ w3 σ4 H4 F4 s4 r4=>⟨F4,ρ3,r4,(aK.bind.mp w3).imp fun o _ w4=> ?_⟩⟩
   have s24:aQ F2 F4:=e3.grow.trans s4
   cases o with
   |nx ρ5=>exact fun σ' H' F' s' r'=>⟨F',ρ5,r',s24.trans s',w4.imp fun o _ k=>k.mono (s24.trans s')⟩
   |cnt ρ5=>exact fun σ' H' F' s' r'=>⟨F',ρ5,r',s24.trans s',w4.imp fun o _ k=>k.mono (s24.trans s')⟩
   |brk ρ5=>exact fun σ' H' F' s' r'=>w4 σ' H' F' (s24.trans s') r'
   |ret d=>exact fun v H' F' s' e' r'=>w4 v H' F' (s24.trans s') e' r'
   |retc d ρ5=>exact fun v σ' H' F' s' e' r'=>w4 v σ' H' F' (s24.trans s') e' r'
 ·have e:i=ds.length:=by omega
  subst e
  rw[List.drop_length]at w2
  exact .inl ⟨jo.stop H2 (s2.trans ri2.sub),w2 σ2 H2 F2 (aQ.refl _) ri2⟩
theorem jq {tg iter:Expr} {body:List Stmt} {fi:ai->R (List D)} {g:D->ai->R ai} (hp:PassesOwn (model X.prog X.w) X.A X.env X.xe) (hc:X.calm=true) (hi:Ar ly X tg iter fi) (hg:wF ly X tg g) (hb:jn ly X body gb)
  (hs:∀x,foldedSetIterable iter X.env x=pure x:=by intro _;rfl):mw ly X (.For tg iter body [] pos) (i5 fi g gb):=fun c=>PS.weak (zG hp hc (hi c) (hg c) (hb c) hs) fun D σ H h=>As h
theorem tq {K:PySem.W.Frag} {F:Hp} {a:Addr} {vs:List V} {ds:List D} (h:F a=some (.lst vs)) (r:Reps K F vs ds):qH K F (CD K a) ds where
 go:=fun i H s hi=>⟨vs,vs[i]'(by rw[r.length];exact hi),cT.of (s _ _ h),by simp[r.length,hi]⟩
 stop:=fun H s=>⟨vs,cT.of (s _ _ h),Nat.le_of_eq r.length⟩
 yld:=fun i H F1 x H' s1 s2 y hi=>by
  obtain⟨rfl,y⟩:=y
  have:=y vs (cT.of (s2 _ _ (s1 _ _ h)))
  obtain⟨d,hd,rd⟩:=r.get' this
  exact⟨F1,d,hd,bL.refl s2,rd.mono s1⟩
theorem v7 {K:PySem.W.Frag} {F:Hp} {a:Addr} {vs:List V} {ds:List D} (h:F a=some (.tup vs)) (r:Reps K F vs ds):qH K F (Dg K a) ds where
 go:=fun i H s hi=>⟨vs,vs[i]'(by rw[r.length];exact hi),eR.of (s _ _ h),by simp[r.length,hi]⟩
 stop:=fun H s=>⟨vs,eR.of (s _ _ h),Nat.le_of_eq r.length⟩
 yld:=fun i H F1 x H' s1 s2 y hi=>by
  obtain⟨rfl,y⟩:=y
  have:=y vs (eR.of (s2 _ _ (s1 _ _ h)))
  obtain⟨d,hd,rd⟩:=r.get' this
  exact⟨F1,d,hd,bL.refl s2,rd.mono s1⟩
noncomputable def cH (f:ai->R D):ai->R (List D):=fun ρ=>f ρ>>=fun d=>match d with
 | .lst ds=> .ok ds
 | .tup ds=> .ok ds
 | .scr ns=> .ok (ns.map .int)
 |_=> .bad
theorem v8 {K:PySem.W.Frag} {F:Hp} {a:Addr} {ns:List Int} (h:cT K F a (ns.map V.int)):qH K F (CD K a) (ns.map .int)where
 go:=fun i H s hi=>⟨ns.map V.int,(ns.map V.int)[i]'(by simpa using hi),s.seq h,by simp at hi;simp[hi]⟩
 stop:=fun H s=>⟨ns.map V.int,s.seq h,by simp⟩
 yld:=fun i H F1 x H' s1 s2 y hi=>by
  obtain⟨rfl,y⟩:=y
  have:=y (ns.map V.int) ((s1.trans s2).seq h)
  rw[List.getElem?_map]at this
  cases e:ns[i]? with
  |none=>rw[e]at this;cases this
  |some n=>rw[e]at this;cases this;exact⟨F1, .int n,by rw[List.getElem?_map,e];rfl,bL.refl s2, .int n⟩
theorem eQ {tg:Expr} (h:PQ ly X e f):Ar ly X tg e (cH f):=by
 intro c pins s σ H Rk I q
 obtain⟨F,ρ,ri,w⟩:=q
 have w':=aK.bind.mp w
 cases hf:f ρ with
 |bad=>rw[hf]at w';exact w'.elim
 |err er ρe=>
  rw[hf]at w'
  exact nI (h c) pins s σ H Rk I ⟨F,ρ,ri,by rw[hf];exact w'⟩
 |ok d=>
  rw[hf]at w'
  cases d with
  |lst ds=>exact nI (h c) pins s σ H Rk I ⟨F,ρ,ri,by
    rw[hf]
    intro v H1 F1 e1 r1
    cases r1 with
    |lst h1 h2=>exact⟨_,rfl,⟨_,cT.of (e1.sub _ _ h1)⟩,w' _ H1 F1 e1 (tq h1 h2)⟩⟩
  |tup ds=>exact zF (h c) pins s σ H Rk I ⟨F,ρ,ri,by
    rw[hf]
    intro v H1 F1 e1 r1
    cases r1 with
    |tup h1 h2=>exact⟨_,rfl,⟨_,eR.of (e1.sub _ _ h1)⟩,w' _ H1 F1 e1 (v7 h1 h2)⟩⟩
  |scr ns=>exact nI (h c) pins s σ H Rk I ⟨F,ρ,ri,by
    rw[hf]
    intro v H1 F1 e1 r1
    cases r1 with
    |scr h1=>exact⟨_,rfl,⟨_,e1.sub.seq h1⟩,w' _ H1 F1 e1 (v8 h1)⟩⟩
  |_=>exact w'.elim
noncomputable def i6 (lo hi:Int):List D:=(List.range (hi - lo).toNat).map fun k:Nat=>D.int (lo+(k:Int))
theorem qJ {K:PySem.W.Frag} {F:Hp} {lo hi:Int}:qH K F (CF lo (hi - lo).toNat) (i6 lo hi)where
 go:=fun i H s h=>by
  rw[i6,List.length_map,List.length_range]at h
  exact h
 stop:=fun H s=>by show (hi - lo).toNat<=_;rw[i6,List.length_map,List.length_range];exact Nat.le_refl _
 yld:=fun i H F1 x H' s1 s2 y h=>by
  obtain⟨rfl,rfl⟩:=y
  have h':i<(hi - lo).toNat:=by rw[i6,List.length_map,List.length_range]at h;exact h
  exact⟨F1, .int (lo+i),by rw[i6,List.getElem?_map,List.getElem?_range h'];rfl,bL.refl s2, .int _⟩
noncomputable def d0 (f:ai->R (List D)):ai->R (List D):=fun ρ=>f ρ>>=fun ds=>match ds with
 |[.int j]=>if j.natAbs<=lim then .ok (i6 0 j)else .bad
 |_=> .bad
theorem iC {j:Int} (h:j.natAbs<=lim): -(2 ^62)<=j/\j<2 ^62:=by
 unfold lim at h
 omega
theorem dX {tg:Expr} {p:Pos} (hm:X.mg "range"=none) (ha:tf ly X [a] fs) (hg:Gl X "range":=by rfl) (hs:starEach [a] X.env=[(false,eval a X.env)]:=by rfl):Ar ly X tg (.Call (.Name "range" p) [a] [] pos) (d0 fs):=fun c=>
 PI.weak (sH hg hm (ha c) hs) fun σ H Rk ⟨F,ρ,ri,w⟩=>⟨F,ρ,ri,(aK.bind.mp w).imp fun ds _ w1 vs H1 F1 e1 r1=>by
  split at w1
  ·split at w1
   ·rename_i j _ hj
    cases r1.int1
    exact⟨j,rfl,(iC hj).1,(iC hj).2,w1 _ H1 F1 e1 (by simpa using qJ (K:=X.K) (F:=F1) (lo:=0) (hi:=j))⟩
   ·exact w1.elim
  ·exact w1.elim⟩
end
noncomputable def dC (n:Nat) (ds:List D):ai:=ds.map (fun d=>some (.val d))++List.replicate (n - ds.length) none
noncomputable def bA (k n:Nat) (g:ai->R bY) (ds:List D):R D:=if ds.length=k then g (dC n ds)>>=fun o=>match o with
 | .ret d=> .ok d
 | .nx _=> .ok .non
 |_=> .bad else .bad
theorem v9 {K:PySem.W.Frag} {N:List Str} {H F:Hp} {vs:List V} {ds:List D} {Er:Str->ai->Prop} (s:aQ F H) (r:Reps K F vs ds):RI K (⟨H,F,fun _=>none,Er,fun _=>none,fun _=>none⟩:d4 []) (dC N.length ds) (eD N vs) H F:=by
 have hv:∀(i:Nat) sl,(dC N.length ds)[i]? =some (some sl)->∃d,ds[i]? =some d/\sl= .val d:=fun i sl h=>by
  unfold dC at h
  rw[List.getElem?_append]at h
  split at h
  ·rw[List.getElem?_map]at h
   cases e:ds[i]? with
   |none=>rw[e]at h;cases h
   |some d=>rw[e]at h;simp at h;exact⟨d,rfl,h.symm⟩
  ·rw[List.getElem?_replicate]at h
   split at h<;>simp at h
 refine⟨bL.refl s,fun i d h=> ?_,fun i d h=> ?_,fun i d h=> ?_,(fun b o e=>by cases e),fun i j d d' a h=> ?_,?_,(fun L h=>by cases h),(fun L h=>by cases h),(fun _ _ e=>by cases e), .no fun i x vds f hs h=>(by obtain⟨d,_,z⟩:=hv i _ h;cases z),fun L h=>by cases h⟩
 ·obtain⟨d',e,z⟩:=hv i _ h
  cases z
  obtain⟨v,h1,h2⟩:=r.get e
  refine⟨v,?_,h2⟩
  unfold eD
  have hl:i<vs.length:=(List.getElem?_eq_some_iff.mp h1).1
  rw[List.getElem?_append_left (by simpa using hl),List.getElem?_map,h1]
  rfl
 ·obtain⟨d',_,z⟩:=hv i _ h;cases z
 ·obtain⟨d',_,z⟩:=hv i _ h;cases z
 ·obtain⟨d',_,z⟩:=hv i _ h;cases z
 ·simp[dC,eD,r.length]
theorem BV {P:Program} {w:World} {K:PySem.W.Frag} {mg:Str->Option Value} {base:Heap} {x qual:Str} {st:Stmt} {f:Addr} {fd:FuncData} {N ps:List Str} {k:Nat} {sp:Sp} (F:uf K x qual st f fd) (S:aW N ps (ak st)) (len:∀vs H Q E,sp vs H Q E->vs.length=ps.length)
  (hbody:∀(cdv:Value) (A:Around) (outer:List Env) (s:Shared) (H:Hp) (vs:List V) (Q:VK) (E:XK),dh k (A.deeper (envOfC qual (ak st) s.heap.objs.size f cdv))->sp vs H Q E->
   ∃t,mL (hG (kM P w) P w K mg base N qual (ak st) f cdv A outer s H E) (aR st) t/\t {nx:=fun _ H'=>Q .non H',rt:=Q} (eD N vs) H):eP P w K mg base (kM P w) (k+1) f fd ps sp:=by
 obtain⟨oc,od,kV,doc,pm,an,cdv,ct,osl,rfl,lk,hcd⟩:=F.ex
 exact yD lk hcd S len fun A outer s H vs Q E hr hsp=>hbody cdv A outer s H vs Q E hr hsp
theorem va {P:Program} {w:World} {K:PySem.W.Frag} {mg:Str->Option Value} {base:Heap} {N:List Str} {qual:Str} {scope:Scope} {f:Addr} {cd:Value} {A:Around} {outer:List Env} {s0:Shared} {H0:Hp} {E:XK} {c:d4 ly}
  (h:∀x ρ,c.Er x ρ->∀cls a H' F' σ,dW K x cls->RI K c ρ σ H' F'->E cls a H'):Aj (hG (kM P w) P w K mg base N qual scope f cd A outer s0 H0 E) c:=
 .inl ⟨lH,fun pins σ ρ H F s a cls x I ri fl ec er=>qA I fl (h x ρ er cls (some a) H F σ ec ri)⟩
theorem Au {P:Program} {w:World} {K:PySem.W.Frag} {mg:Str->Option Value} {base:Heap} {x qual:Str} {st:Stmt} {f:Addr} {fd:FuncData} {N ps:List Str} {k n m:Nat} {g:ai->R bY} (F:uf K x qual st f fd) (S:aW N ps (ak st)) (hn:ps.length=n) (hm:N.length=m)
  (hbody:∀(cdv:Value) (A:Around) (outer:List Env) (s:Shared) (H:Hp) (E:XK),dh k (A.deeper (envOfC qual (ak st) s.heap.objs.size f cdv))->
   jn [] (hG (kM P w) P w K mg base N qual (ak st) f cdv A outer s H E) (aR st) g):eP P w K mg base (kM P w) (k+1) f fd ps (tj K n (bA n m g)):=by
 refine BV F S (fun vs H Q E h=>by rw[hn];exact h.1) (fun cdv A outer s H vs Q E hr h=> ?_)
 obtain⟨hl,Fz,ds,sub,r,w⟩:=h
 refine⟨_,hbody cdv A outer s H E hr ⟨⟨H,Fz,fun _=>none,fun x _=>∀cls a H' F',dW K x cls->bL H Fz H' F'->E cls a H',fun _=>none,fun _=>none⟩,va fun x ρ er cls a H' F' σ ec ri=>er cls a H' F' ec ri.ext⟩,?_⟩
 refine⟨Fz,dC m ds,by rw[<-hm];exact v9 sub r,?_⟩
 have hd:ds.length=n:=by rw[<-r.length];exact hl
 unfold bA at w
 rw[if_pos hd]at w
 cases e:g (dC m ds)with
 |bad=>rw[e]at w;exact w.elim
 |err c ρ=>rw[e]at w;exact w
 |ok o=>
  rw[e]at w
  cases o with
  |ret d=>exact fun v H' F' _ e' r'=>w v H' F' e' r'
  |nx ρ=>exact fun σ' H' F' _ r'=>w .non H' F' r'.ext .non
  |retc d ρ=>exact w.elim
  |brk ρ=>exact w.elim
  |cnt ρ=>exact w.elim
end L2.Pu
namespace L2.Pu
open PySem PySem.Spec PyProof.Rows
variable {ly:List eN}
noncomputable def Slot.toBor:Slot->Slot
 | .val d=> .val d
 | .own d=> .bor d
 | .bor d=> .bor d
 | .obj=> .obj
 | .cel .. => .obj
noncomputable def gn (N:List Str) (names:List (Str×NameKind)) (ρ:ai):ai:=
 names.map fun x=>if x.2= .free then ((N.findIdx? (·==x.1)).bind fun i=>(ρ[i]?).join.map Slot.toBor)else none
theorem yM {K:PySem.W.Frag} {c:d4 ly} {ρ:ai} {σ:St} {H F H1 F1:Hp} {N:List Str} {names:List (Str×NameKind)} {p:Addr} {o:HO} (ri:RI K c ρ σ H F) (e:bL H F H1 F1) (hp:H1 p=none):
  RI K (⟨br H1 p o,F1,H1,fun _ _=>False,fun _=>none,fun _=>none⟩:d4 []) (gn N names ρ) (ji N names σ) (br H1 p o) F1:=by
 have r1:=ri.step e
 have key:∀(i:Nat) sl,(gn N names ρ)[i]? =some (some sl)->∃(j:Nat) (sl':Slot),ρ[j]? =some (some sl')/\sl=sl'.toBor/\∀v,σ[j]? =some (some v)->(ji N names σ)[i]? =some (some v):=fun i sl h=>by
  unfold gn at h
  rw[List.getElem?_map]at h
  cases en:names[i]? with
  |none=>rw[en]at h;cases h
  |some y=>
   rw[en]at h
   simp only[Option.map_some,Option.some.injEq]at h
   by_cases hf:y.2= .free
   ·rw[if_pos hf]at h
    cases ei:N.findIdx? (·==y.1)with
    |none=>rw[ei]at h;cases h
    |some j=>
     rw[ei]at h
     cases e2:ρ[j]? with
     |none=>simp[e2]at h
     |some u=>
      cases u with
      |none=>simp[e2]at h
      |some sl'=>
       simp[e2]at h
       refine⟨j,sl',e2,h.symm,fun v hv=> ?_⟩
       unfold ji
       rw[List.getElem?_map,en]
       simp only[Option.map_some,Option.some.injEq]
       rw[if_pos hf,ei]
       show (σ[j]?).join=some v
       rw[hv];rfl
   ·rw[if_neg hf]at h;cases h
 refine⟨bL.refl (r1.sub.trans (bT hp)),fun i d h=> ?_,fun i d h=> ?_,fun i d h=> ?_,bT hp,fun i j d d' a h=> ?_,by simp[gn,ji],(fun L h=>by cases h),(fun L h=>by cases h),(fun _ _ e=>by cases e), .no fun i x vds f hs h=>(by obtain⟨j,sl,h1,h2,h3⟩:=key i _ h;cases sl<;>cases h2),fun L h=>by cases h⟩
 ·obtain⟨j,sl,h1,h2,h3⟩:=key i _ h
  cases sl with
  |val d'=>cases h2;obtain⟨v,k1,k2⟩:=r1.val j d h1;exact⟨v,h3 v k1,k2⟩
  |own d'=>cases h2
  |bor d'=>cases h2
  |obj=>cases h2
  |cel=>cases h2
 ·obtain⟨j,sl,h1,h2,h3⟩:=key i _ h;cases sl<;>cases h2
 ·obtain⟨j,sl,h1,h2,h3⟩:=key i _ h
  cases sl with
  |val d'=>cases h2
  |own d'=>cases h2;obtain⟨a,o,k1,k2,k3,k4,k5⟩:=r1.own j d h1;exact⟨a,o,h3 _ k1,k2,k5⟩
  |bor d'=>cases h2;obtain⟨a,o,k1,k2,k3⟩:=r1.bor j d h1;exact⟨a,o,h3 _ k1,r1.ext.keep _ _ (r1.bh _ _ k2),k3.mono r1.ext.grow⟩
  |obj=>cases h2
  |cel=>cases h2
 ·obtain⟨k,sl,h1,h2,h3⟩:=key i _ h;cases sl<;>cases h2
theorem RI.bump {K:PySem.W.Frag} {ρ:ai} {σ:St} {H F H1 F1:Hp} {p:Addr} {o o':HO} {Er:Str->ai->Prop} (r:RI K (⟨br H1 p o,F1,H1,Er,fun _=>none,fun _=>none⟩:d4 []) ρ σ H F) (hp:H1 p=none) (hF:F p=none):
  RI K (⟨br H1 p o',F1,H1,Er,fun _=>none,fun _=>none⟩:d4 []) ρ σ (br H p o') F:=by
 refine⟨⟨fun b u e=> ?_,fun b u e=> ?_,r.ext.grow,fun b e=> ?_⟩,r.val,fun i d h=> ?_,r.bor,bT hp,r.dis,r.len,(fun L h=>by cases h),(fun L h=>by cases h),(fun _ _ e=>by cases e),⟨fun i x vds f hs h=> ?_,r.cel.one⟩,fun L h=>by cases h⟩
 ·rw[aw (fun z=>by rw[z,hF]at e;cases e)];exact r.sub b u e
 ·change br H1 p o' b=some u at e
  by_cases z:b=p
  ·subst z;rw[aA]at e ⊢;exact e
  ·rw[aw z]at e ⊢;exact r.ext.keep b u (by show br H1 p o b=some u;rw[aw z];exact e)
 ·by_cases z:b=p
  ·subst z;exact absurd hF e
  ·rcases r.ext.new b e with q|q
   ·exact .inl q
   ·refine .inr ?_
    change br H1 p o b=none at q
    show br H1 p o' b=none
    rw[aw z]at q ⊢;exact q
 ·obtain⟨a,u,h1,h2,h3,h4,h5⟩:=r.own i d h
  change br H1 p o a=none at h4
  have z:a≠p:=fun z=>by subst z;rw[aA]at h4;cases h4
  refine⟨a,u,h1,by rw[aw z];exact h2,h3,?_,h5⟩
  show br H1 p o' a=none
  rw[aw z]at h4 ⊢;exact h4
 ·obtain⟨a,dx,b,h1,h2,h3⟩:=r.cel.ex i x vds f hs h
  obtain⟨C,fs,vs,us,g1,g2,g3,g4,g5⟩:=h2.ex
  have key:∀{z:Addr},br H1 p o z=none->z≠p/\br H1 p o' z=none:=fun {z} e=>by
   have n:z≠p:=fun q=>by subst q;rw[aA]at e;cases e
   exact⟨n,by rw[aw n]at e ⊢;exact e⟩
  obtain⟨na,ea⟩:=key h2.za
  obtain⟨nd,ed⟩:=key h2.zd
  obtain⟨nb,eb⟩:=key h2.zb
  exact⟨a,dx,b,h1,⟨⟨C,fs,vs,us,by rw[aw na];exact g1,g2,g3,by rw[aw nb];exact g4,g5⟩,by rw[aw nd];exact h2.own,h2.fa,h2.fd,h2.fb,ea,ed,eb⟩,h3⟩
noncomputable def eJ (g:D->ai->R ai) (gt:ai->R Bool) (fe:ai->R D):List D->ai->R (List D)
 |[],_=> .ok []
 |d::r,τ=>g d τ>>=fun τ1=>gt τ1>>=fun b=>if b=true then (fe τ1>>=fun y=>eJ g gt fe r τ1>>=fun ys=> .ok (y::ys))else eJ g gt fe r τ1
noncomputable def CM (K:PySem.W.Frag) (g:D->ai->R ai):TG:=fun v σ H Q=>∃c:d4 [],(∀e ρ,¬c.Er e ρ)/\tG K c g v σ H Q
noncomputable def CN (K:PySem.W.Frag) (g:ai->R Bool):TT:=fun σ H Q=>∃c:d4 [],(∀e ρ,¬c.Er e ρ)/\tT K c g σ H Q
noncomputable def DQ (K:PySem.W.Frag) (g:ai->R D):TE:=fun σ H Q=>∃c:d4 [],(∀e ρ,¬c.Er e ρ)/\tQ K c g σ H Q
noncomputable def qK (ly:List eN) (X:Cx) (ifs:List Expr) (gt:ai->R Bool):Prop:=∀c:iK ly X,uN X ifs (tT X.K c.1 gt)
noncomputable def dY:ai->R Bool:=fun _=> .ok true
theorem i7 {X:Cx}:qK ly X [] dY:=fun c pins s σ H Q I q=>by
 obtain⟨F,ρ,ri,w⟩:=q
 exact xq pins s σ H Q I (w H F (bL.refl ri.sub))
theorem i8 {X:Cx} {c:Expr} {gt:ai->R Bool} (h:qb ly X c gt):qK ly X [c] gt:=fun c=>xr (h c)
theorem kY {α β:Type} {r:R α} {f:α->R β} {b:β} (h:(r>>=f)= .ok b):∃a,r= .ok a/\f a= .ok b:=by
 cases r with
 |ok a=>exact⟨a,rfl,h⟩
 |err c ρ=>cases h
 |bad=>cases h
theorem iZ {K:PySem.W.Frag} {c:d4 ly} {ρ:ai} {σ:St} {H F H1 F1:Hp} {N:List Str} {names:List (Str×NameKind)} {p:Addr} {g:D->ai->R ai} {gt:ai->R Bool} {fe:ai->R D} {J:It} {ds es:List D} {Q:Hp->Prop}
  (ri:RI K c ρ σ H F) (e:bL H F H1 F1) (jo:qH K F1 J ds) (hp:H1 p=none) (hl:ds.length<=lim) (he:eJ g gt fe ds (gn N names ρ)= .ok es)
  (k:∀H2 F2 vs,bL H1 F1 H2 F2->H2 p=some (.lst vs)->F2 p=none->Reps K F2 vs es->Q H2):
  gF J (CM K g) (CN K gt) (DQ K fe) p (ji N names σ) Q (br H1 p (.lst [])):=by
 have s1:aQ F1 H1:=e.sub
 have f1:F1 p=none:=s1.free hp
 refine⟨fun i m ys τ H=>∃F ρ' pre rest,RI K (⟨br H1 p (.lst ys),F1,H1,fun _ _=>False,fun _=>none,fun _=>none⟩:d4 []) ρ' τ H F/\Reps K F ys pre/\pre.length<=i/\m=ds.length - i/\i<=ds.length/\eJ g gt fe (ds.drop i) ρ'= .ok rest/\pre++rest=es,
  ⟨_,F1,_,[],es,yM ri e hp, .nil,Nat.le_refl _,rfl,Nat.zero_le _,he,rfl⟩,?_⟩
 rintro i m ys τ H2 ⟨F2,ρ',pre,rest,r2,rp,hpi,rfl,hi,hc,hes⟩
 have hF2:F2 p=none:=by
  cases q:F2 p with
  |none=>rfl
  |some u=>
   rcases r2.ext.new p (by rw[q];simp)with z|z
   ·exact absurd f1 z
   ·change br H1 p (.lst ys) p=none at z;rw[aA]at z;cases z
 have hD:∀{ρ' τ H F},RI K (⟨br H1 p (.lst ys),F1,H1,fun _ _=>False,fun _=>none,fun _=>none⟩:d4 []) ρ' τ H F->H p=some (.lst ys):=fun r=>r.ext.keep p _ aA
 refine⟨hD r2,?_⟩
 by_cases hlt:i<ds.length
 ·refine .inr ⟨jo.go i H2 (r2.ext.grow.trans r2.sub) hlt,?_,fun x H3 y=> ?_⟩
  ·have:=rp.length
   have:=eh
   omega
  ·obtain⟨F3,d,hd,e3,r3⟩:=jo.yld i H2 F2 x H3 r2.ext.grow r2.sub y hlt
   obtain⟨hl',ed⟩:=List.getElem?_eq_some_iff.mp hd
   rw[List.drop_eq_getElem_cons hl',ed]at hc
   obtain⟨τ1,h1,hc⟩:=kY (r:=g d ρ') hc
   obtain⟨b,h2,hc⟩:=kY (r:=gt τ1) hc
   refine⟨_,fun e ρ h=>h,F3,ρ',d,r2.step e3,r3,?_⟩
   rw[h1]
   intro τ4 H4 F4 s4 r4
   refine⟨_,fun e ρ h=>h,F4,τ1,r4,?_⟩
   rw[h2]
   intro H5 F5 e5
   cases b with
   |false=>
    exact⟨ds.length - (i+1),by omega,F5,τ1,pre,rest,r4.step e5,(rp.mono e3.grow).mono (s4.trans e5.grow),by omega,rfl,hlt,hc,hes⟩
   |true=>
    rw[if_pos rfl]at hc ⊢
    obtain⟨y',h3,hc⟩:=kY (r:=fe τ1) hc
    obtain⟨ys',h4,hc⟩:=kY (r:=eJ g gt fe (ds.drop (i+1)) τ1) hc
    cases hc
    refine⟨_,fun e ρ h=>h,F5,τ1,r4.step e5,?_⟩
    rw[h3]
    intro v H6 F6 e6 r6
    have r6':=(r4.step e5).step e6
    refine⟨hD r6',ds.length - (i+1),by omega,F6,τ1,pre++[y'],ys',r6'.bump hp ?_,(((rp.mono e3.grow).mono (s4.trans e5.grow)).mono e6.grow).append (.cons r6 .nil),by simp;omega,rfl,hlt,h4,by rw[<-hes];simp⟩
    cases q:F6 p with
    |none=>rfl
    |some u=>
     rcases r6'.ext.new p (by rw[q];simp)with z|z
     ·exact absurd f1 z
     ·change br H1 p (.lst ys) p=none at z;rw[aA]at z;cases z
 ·have ei:i=ds.length:=by omega
  subst ei
  rw[List.drop_length]at hc
  cases hc
  rw[List.append_nil]at hes
  subst hes
  refine .inl ⟨jo.stop H2 (r2.ext.grow.trans r2.sub),k H2 F2 ys ⟨r2.sub,(bT hp).trans r2.ext.keep,r2.ext.grow,fun a ha=> ?_⟩ (hD r2) hF2 rp⟩
  rcases r2.ext.new a ha with z|z
  ·exact .inl z
  ·refine .inr ?_
   change br H1 p (.lst ys) a=none at z
   rw[aw (fun q=>by subst q;rw[aA]at z;cases z)]at z
   exact z
section
variable {X:Cx} {elt tg iter:Expr} {ifs:List Expr} {scope:Scope} {pos:Pos} {fi:ai->R (List D)} {g:D->ai->R ai} {gt:ai->R Bool} {fe:ai->R D}
noncomputable def bZ (N:List Str) (names:List (Str×NameKind)) (fi:ai->R (List D)) (g:D->ai->R ai) (gt:ai->R Bool) (fe:ai->R D):ai->R (List D):=fun ρ=>fi ρ>>=fun ds=>if ds.length<=lim then (match eJ g gt fe ds (gn N names ρ)with
 | .ok es=> .ok es
 |_=> .bad)else .bad
noncomputable def fL (f:ai->R (List D)):ai->R D:=fun ρ=>f ρ>>=fun ds=> .ok (.lst ds)
theorem CO {X:Cx} (h:wF [] X tg g):PG X tg (CM X.K g):=fun pins s σ H v u Q I r ⟨c,hn,q⟩=>h ⟨c, .no hn⟩ pins s σ H v u Q I r q
theorem CP {X:Cx} (h:qK [] X ifs gt):uN X ifs (CN X.K gt):=fun pins s σ H Q I ⟨c,hn,q⟩=>h ⟨c, .no hn⟩ pins s σ H Q I q
theorem DB {X:Cx} (h:PQ [] X elt fe):PE X elt (DQ X.K fe):=fun pins s σ H Q I ⟨c,hn,q⟩=>h ⟨c, .no hn⟩ pins s σ H Q I q
theorem i9 (S:aS X scope) (hc:X.calm=true) (hi:Ar ly X tg iter fi) (hg:∀s H ex,wF [] (bR X scope s H ex) tg g) (hif:∀s H ex,qK [] (bR X scope s H ex) ifs gt) (hel:∀s H ex,PQ [] (bR X scope s H ex) elt fe)
  (hs:∀x,foldedSetIterable iter X.env x=pure x:=by intro _;rfl):PQ ly X (.ListComp elt [⟨tg,iter,ifs,0⟩] scope pos) (fL (bZ X.N scope.names fi g gt fe)):=fun c=>
 PE.weak (rV S hc (hi c) (fun s H ex=>CO (hg s H ex)) (fun s H ex=>CP (hif s H ex)) (fun s H ex=>DB (hel s H ex)) hs) fun σ H Q ⟨F,ρ,ri,w⟩=>by
  refine⟨F,ρ,ri,(aK.bind.mp (aK.bind.mp w)).imp fun ds _ w1 J H1 F1 e1 jo p hp=> ?_⟩
  split at w1
  ·rename_i hl
   split at w1
   ·rename_i es he
    refine iZ ri e1 jo hp hl he fun H2 F2 vs e2 hp2 hf2 rv=> ?_
    have g2:aQ F2 (br F2 p (.lst vs)):=bT hf2
    refine w1 (.ref p) H2 (br F2 p (.lst vs)) ⟨fun b u eb=> ?_,e1.keep.trans e2.keep,(e1.grow.trans e2.grow).trans g2,fun a ha=> ?_⟩ (.lst aA (rv.mono g2))
    ·by_cases z:b=p
     ·subst z;rw[aA]at eb;rw[hp2];exact eb
     ·rw[aw z]at eb;exact e2.sub b u eb
    ·by_cases z:a=p
     ·subst z;exact .inr (e1.keep.free hp)
     ·rw[aw z]at ha
      exact(e1.trans e2).new a ha
   ·exact w1.elim
  ·exact w1.elim
noncomputable def gq (i:Nat) (f:ai->R (List D)):ai->R bY:=fun ρ=>f ρ>>=fun ds=> .ok (.nx (ρ.set i (some (.own (.lst ds)))))
theorem lL (i:Nat) {y:Str} {py spos:Pos} (S:aS X scope) (hc:X.calm=true) (hN:X.N.Nodup) (hi:Ar ly X tg iter fi) (hg:∀s H ex,wF [] (bR X scope s H ex) tg g) (hif:∀s H ex,qK [] (bR X scope s H ex) ifs gt) (hel:∀s H ex,PQ [] (bR X scope s H ex) elt fe)
  (hi':X.N[i]? =some y:=by rfl) (hx:uh X.env.scope y:=by first|exact Or.inl rfl|exact Or.inr rfl) (hf:X.fn y=true\/X.env.scope.names.lookup y=some .local:=by first|exact .inl rfl|exact .inr rfl|assumption)
  (hsw:swapsWith (.ListComp elt [⟨tg,iter,ifs,0⟩] scope pos) (some (.Name y py)) spos.line X.env=pure true:=by rfl) (hs:∀x,foldedSetIterable iter X.env x=pure x:=by intro _;rfl) (hfr:jY ly i:=by(repeat (first|assumption|exact L2.Pu.eF|refine L2.Pu.free_cons ⟨by first|decide|simp,by first|decide|simp⟩ ?_))):
  mw ly X (.Assign [.Name y py] (.ListComp elt [⟨tg,iter,ifs,0⟩] scope pos) spos) (gq i (bZ X.N scope.names fi g gt fe)):=fun c=>
 PS.weak (xu S hc (hi c) (fun s H ex=>CO (hg s H ex)) (fun s H ex=>CP (hif s H ex)) (fun s H ex=>DB (hel s H ex)) (nG hN hi' hx hf) hsw hs) fun D σ H ⟨F,ρ,ri,w⟩=>by
  refine⟨F,ρ,ri,(aK.bind.mp (aK.bind.mp w)).imp fun ds _ w1 J H1 F1 e1 jo p hp=> ?_⟩
  split at w1
  ·rename_i hl
   split at w1
   ·rename_i es he
    refine iZ ri e1 jo hp hl he fun H2 F2 vs e2 hp2 hf2 rv=> ?_
    refine w1 _ H2 F2 (e1.grow.trans e2.grow) ((ri.step (e1.trans e2)).setOwn i hfr hp2 hf2 (ri.ext.keep.free (e1.keep.free hp)) (.lst rv) (fun j d' _ hj ej=> ?_) (ri.celNe (e1.trans e2).keep (e1.keep.free hp)))
    obtain⟨a,o,k1,k2,_⟩:=ri.own j d' hj
    rw[ej]at k1
    cases k1
    rw[e1.keep.free hp]at k2
    cases k2
   ·exact w1.elim
  ·exact w1.elim
end
noncomputable def fu:D->Option bn
 | .int i=>some (.inl i)
 | .str x=>some (.inr x)
 |_=>none
noncomputable def gr (kds:List (bn×D)) (k:bn):Option D:=(kds.find? fun kv=>decide (kv.1=k)).map (·.2)
noncomputable def pc (kds:List (bn×D)) (k:bn) (v:D):List (bn×D):=
 if (kds.any fun kv=>decide (kv.1=k))=true then kds.map (fun kv=>if kv.1=k then (kv.1,v)else kv)else kds++[(k,v)]
theorem gu {K:PySem.W.Frag} {H F:Hp} {v:V} {d:D} {k:bn} (h:fu d=some k) (r:cy K H F v d):v=kV k:=by
 cases d with
 |int i=>cases h;exact r.int
 |str x=>cases h;exact r.str
 |_=>cases h
section
variable {K:PySem.W.Frag} {F:Hp}
theorem RepK.any (k:bn):∀{vs:List (bn×V)} {ds:List (bn×D)},RepK K F vs ds->(vs.any fun kv=>decide (kv.1=k))=ds.any fun kv=>decide (kv.1=k):=by
 intro vs ds
 induction ds generalizing vs with
 |nil=>intro h;rw[h.nilI];rfl
 |cons d ds ih=>
  intro h
  obtain⟨v,us,rfl,_,t⟩:=RepK.consI (k:=d.1) (d:=d.2) h
  rw[List.any_cons,List.any_cons,ih t]
theorem RepK.get (k:bn):∀{vs:List (bn×V)} {ds:List (bn×D)},RepK K F vs ds->(gD vs k=none/\gr ds k=none)\/∃v d,gD vs k=some v/\gr ds k=some d/\dq K F v d:=by
 intro vs ds
 induction ds generalizing vs with
 |nil=>intro h;rw[h.nilI];exact .inl ⟨rfl,rfl⟩
 |cons d ds ih=>
  intro h
  obtain⟨a,d⟩:=d
  obtain⟨v,vs,rfl,r,t⟩:=h.consI
  by_cases e:a=k
  ·exact .inr ⟨v,d,by simp[gD,e],by simp[gr,e],r⟩
  ·have h1:gD ((a,v)::vs) k=gD vs k:=by simp[gD,e]
   have h2:gr ((a,d)::ds) k=gr ds k:=by simp[gr,e]
   rw[h1,h2]
   exact ih t
theorem RepK.repl (k:bn) {v:V} {d:D} (h:dq K F v d):∀{vs:List (bn×V)} {ds:List (bn×D)},RepK K F vs ds->RepK K F (vs.map fun kv=>if kv.1=k then (kv.1,v)else kv) (ds.map fun kv=>if kv.1=k then (kv.1,d)else kv):=by
 intro vs ds
 induction ds generalizing vs with
 |nil=>intro h;rw[h.nilI];exact .nil
 |cons x ds ih=>
  intro g
  obtain⟨a,x⟩:=x
  obtain⟨y,vs,rfl,r,t⟩:=g.consI
  rw[List.map_cons,List.map_cons]
  by_cases e:a=k
  ·simp only[e,if_true];exact .cons h (ih t)
  ·simp only[e,if_false];exact .cons r (ih t)
theorem RepK.append:∀{vs us:List (bn×V)} {ds es:List (bn×D)},RepK K F vs ds->RepK K F us es->RepK K F (vs++us) (ds++es):=by
 intro vs us ds
 induction ds generalizing vs with
 |nil=>intro es h g;rw[h.nilI];exact g
 |cons x ds ih=>
  intro es h g
  obtain⟨a,x⟩:=x
  obtain⟨y,vs,rfl,r,t⟩:=h.consI
  exact .cons r (ih t g)
theorem RepK.put (k:bn) {v:V} {d:D} (h:dq K F v d) {vs:List (bn×V)} {ds:List (bn×D)} (r:RepK K F vs ds):RepK K F (gY vs k v) (pc ds k d):=by
 unfold gY pc
 rw[r.any k]
 split
 ·exact r.repl k h
 ·exact r.append (.cons h .nil)
end
theorem vb {kvs:List (bn×V)} {k:bn} (v:V) (hn:(kvs.map (·.1)).Nodup):((gY kvs k v).map (·.1)).Nodup:=by
 unfold gY
 split
 ·have e:(kvs.map fun kv=>if kv.1=k then (kv.1,v)else kv).map (·.1)=kvs.map (·.1):=by
   rw[List.map_map]
   refine List.map_congr_left fun kv _=> ?_
   show (if kv.1=k then (kv.1,v)else kv).1=kv.1
   split<;>rfl
  rw[e];exact hn
 ·rename_i h
  rw[List.map_append]
  refine List.nodup_append.mpr ⟨hn,by simp,fun a ha b hb=> ?_⟩
  have eb:b=k:=by simpa using hb
  subst eb
  intro z
  subst z
  obtain⟨kv,h1,h2⟩:=List.mem_map.mp ha
  exact h (List.any_eq_true.mpr ⟨kv,h1,by simp[h2]⟩)
section
variable {X:Cx} {a b e:Expr} {es:List Expr} {fa fb f fk fv:ai->R D} {fs:ai->R (List D)} {pos:Pos}
noncomputable def kN (i:Nat) (f:ai->R D):ai->R bY:=fun ρ=>match ρ[i]? with
 |some (some (.own (.lst ds)))=>f ρ>>=fun d=>if ds.length<lim then .ok (.nx (ρ.set i (some (.own (.lst (ds++[d]))))))else .bad
 |_=> .bad
theorem RI.ownL {K:PySem.W.Frag} {c:d4 ly} {ρ:ai} {σ:St} {H F:Hp} (ri:RI K c ρ σ H F) {i:Nat} {ds:List D} (h:ρ[i]? =some (some (.own (.lst ds)))):∃a vs,σ[i]? =some (some (.ref a))/\H a=some (.lst vs)/\Reps K F vs ds:=by
 obtain⟨a,o,h1,h2,_,_,h5⟩:=ri.own i _ h
 cases h5 with
 |lst r=>exact⟨a,_,h1,h2,r⟩
theorem RI.ownD {K:PySem.W.Frag} {c:d4 ly} {ρ:ai} {σ:St} {H F:Hp} (ri:RI K c ρ σ H F) {i:Nat} {ds:List (bn×D)} (h:ρ[i]? =some (some (.own (.dic ds)))):∃a vs,σ[i]? =some (some (.ref a))/\H a=some (.dK vs)/\RepK K F vs ds/\(vs.map (·.1)).Nodup:=by
 obtain⟨a,o,h1,h2,_,_,h5⟩:=ri.own i _ h
 cases h5 with
 |dic r n=>exact⟨a,_,h1,h2,r,n⟩
theorem fw (i:Nat) {x:Str} {px apos cpos:Pos} (h:PQ ly X e f) (hN:X.N[i]? =some x:=by rfl) (hv:rG X.env.scope x:=by first|exact Or.inl rfl|exact Or.inr (Or.inl rfl)|exact Or.inr (Or.inr rfl)) (hd:(x==("__debug__":Str))=false:=by decide)
  (hcd:(x==("__classdict__":Str))=false:=by decide) (hbase:attributeBase (.Name x px) "append" X.env (eval (.Name x px) X.env)=eval (.Name x px) X.env:=by rfl)
  (hfew:((backTo cpos (starEach [e] X.env)).all (fun x=> !x.1)&&(backToKw cpos (keywordEach [] X.env)).all (fun x=>x.1.isSome)
   &&decide (([e]:List Expr).length+([]:List Keyword).length+(if ([]:List Keyword).isEmpty then 0 else 1)<30))=true:=by rfl)
  (hline:(apos.endLine==cpos.line)=true:=by rfl) (hs:starEach [e] X.env=(false,eval e X.env)::starEach [] X.env:=by rfl) (hplain:(backTo cpos (starEach [] X.env)).any (·.1)=false:=by rfl)
  (hsw:swapsWith (.Call (.Attribute (.Name x px) "append" apos) [e] [] cpos) none pos.line X.env=pure false:=by rfl):mw ly X (.Expr (.Call (.Attribute (.Name x px) "append" apos) [e] [] cpos) pos) (kN i f):=fun c=>
 PS.weak (rH (oP PySem.F.plainAttrs_list PySem.F.slot_list_append PySem.F.type_list_append jU (pv i hN hv hd hcd) (c_ (h c) fj hs) hbase hfew hline hs hplain) hsw) fun D σ H ⟨F,ρ,ri,w⟩=>by
  unfold kN at w
  split at w
  ·rename_i ds hi
   obtain⟨a,vs,h1,h2,h3⟩:=ri.ownL hi
   refine⟨_,h1, .inl ⟨rfl,vs,cT.of h2⟩,F,ρ,ri,(aK.bind.mp w).imp fun d _ w1 v H1 F1 e1 r1=> ?_⟩
   split at w1
   ·rename_i hl
    refine⟨a,vs,v,rfl,rfl,e1.keep _ _ h2,Nat.lt_of_lt_of_le (by rw[h3.length];exact hl) eh,?_⟩
    exact w1 σ _ F1 e1.grow ((ri.step e1).change (o:= .lst vs) hi h1 (.lst ((h3.mono e1.grow).append (.cons r1 .nil))))
   ·exact w1.elim
  ·exact w.elim
noncomputable def vc (i:Nat) (fk fv:ai->R D):ai->R bY:=fun ρ=>match ρ[i]? with
 |some (some (.own (.dic kds)))=>fv ρ>>=fun v=>fk ρ>>=fun k=>match fu k with
  |some key=>if kds.length<lim then .ok (.nx (ρ.set i (some (.own (.dic (pc kds key v))))))else .bad
  |none=> .bad
 |some (some (.own (.lst ds)))=>fv ρ>>=fun v=>fk ρ>>=fun k=>match k with
  | .int j=>(match rQ ds.length j with
   |some n=> .ok (.nx (ρ.set i (some (.own (.lst (ds.set n v))))))
   |none=> .bad)
  |_=> .bad
 |_=> .bad
theorem yN (i:Nat) {x:Str} {px pos':Pos} (hu:X.A.units+1<cLine) (hk:PQ ly X a fk) (h:PQ ly X e fv) (hN:X.N[i]? =some x:=by rfl) (hv:rG X.env.scope x:=by first|exact Or.inl rfl|exact Or.inr (Or.inl rfl)|exact Or.inr (Or.inr rfl)) (hd:(x==("__debug__":Str))=false:=by decide)
  (hcd:(x==("__classdict__":Str))=false:=by decide) (hs:swapsWith e (some (.Subscript (.Name x px) a pos')) pos.line X.env=pure false:=by rfl)
  (ha:∀v,assign (.Subscript (.Name x px) a pos') X.env v=(do
   let ov<-holding [v] (eval (.Name x px) X.env)
   let iv<-holding [v,ov] (eval a X.env)
   standAt pos'
   holding [v,ov,iv] (setItem ov iv v)
   release [v,ov,iv] []):=by intro _;rfl)
  (hs2:swapsWithSole [.Subscript (.Name x px) a pos'] e pos.line X.env=pure false:=by rfl) (hw:swappedStores [.Subscript (.Name x px) a pos'] e X.env=pure none:=by rfl)
  (h1:(assignEach [.Subscript (.Name x px) a pos'] X.env).map (·.2)=[assign (.Subscript (.Name x px) a pos') X.env]:=by rfl):mw ly X (.Assign [.Subscript (.Name x px) a pos'] e pos) (vc i fk fv):=by
 intro c pins s σ H D I q
 obtain⟨F,ρ,ri,w⟩:=q
 unfold vc at w
 split at w
 ·rename_i kds hi
  obtain⟨p,vs,g1,g2,g3,g4⟩:=ri.ownD hi
  refine xo hu (pv i hN hv hd hcd) (hk c) (h c) hs pins s σ H D I ⟨F,ρ,ri,(aK.bind.mp w).imp fun d _ w1 v H1 F1 e1 r1=> ?_⟩
  refine⟨_,g1,F1,ρ,ri.step e1,(aK.bind.mp w1).imp fun k _ w2 u H2 F2 e2 r2=> ?_⟩
  cases hk':fu k with
  |none=>rw[hk']at w2;exact w2.elim
  |some key=>
   rw[hk']at w2
   cases gu (H:=H2) hk' (.inl r2)
   dsimp only at w2
   split at w2
   ·rename_i hl
    have e12:=e1.trans e2
    refine⟨p,_,rfl,qt.k (k:=key) (e12.keep _ _ g2) (Nat.lt_of_lt_of_le (by rw[g3.length];exact hl) eh),?_⟩
    exact w2 σ _ F2 e12.grow ((ri.step e12).change (o:= .dK vs) hi g1 (.dic ((g3.mono e12.grow).put key (r1.mono e2.grow)) (vb _ g4)))
   ·exact w2.elim
 ·rename_i ds hi
  obtain⟨p,vs,g1,g2,g3⟩:=ri.ownL hi
  refine qc (h c) (zD (pv i hN hv hd hcd) (hk c) uH ha) hs2 hw h1 pins s σ H D I ⟨F,ρ,ri,(aK.bind.mp w).imp fun d _ w1 v H1 F1 e1 r1=> ?_⟩
  refine⟨_,g1,F1,ρ,ri.step e1,(aK.bind.mp w1).imp fun k _ w2 u H2 F2 e2 r2=> ?_⟩
  cases k with
  |int j=>
   cases r2
   dsimp only at w2
   split at w2
   ·rename_i n hn
    have e12:=e1.trans e2
    refine⟨p,vs,j,n,rfl,rfl,e12.keep _ _ g2,by rw[g3.length];exact hn,?_⟩
    exact w2 σ _ F2 e12.grow ((ri.step e12).change (o:= .lst vs) hi g1 (.lst ((g3.mono e12.grow).set n (r1.mono e2.grow))))
   ·exact w2.elim
  |_=>exact w2.elim
 ·exact w.elim
end
end L2.Pu
namespace L2.Pu
open PySem PySem.Spec PyProof.Rows
variable {ly:List eN}
section
variable {K:PySem.W.Frag}
noncomputable def mD (i j:Int):Prop:=i.natAbs<18446744073709551616\/j.natAbs<18446744073709551616
noncomputable def qL (_ j:Int):Prop:=0<j/\j.natAbs<1073741824
noncomputable def qM (i j:Int):Prop:=0<=j/\j.natAbs<=1000000/\i.natAbs<18446744073709551616
noncomputable instance (i j:Int):Decidable (mD i j):=by unfold mD;infer_instance
noncomputable instance (i j:Int):Decidable (qL i j):=by unfold qL;infer_instance
noncomputable instance (i j:Int):Decidable (qM i j):=by unfold qM;infer_instance
theorem mD.c {i j:Int} (h:mD i j):sJ i j:=by
 unfold mD at h
 unfold sJ
 omega
theorem qL.c {i j:Int} (h:qL i j):wO i j:=by
 unfold qL at h
 unfold wO
 omega
theorem qM.c {i j:Int} (h:qM i j):wQ i j:=by
 unfold qM at h
 unfold wQ
 omega
noncomputable def b_:D->D->Option D
 | .int i, .int j=>some (.int (i+j))
 | .lst a, .lst b=>if a.length+b.length<=lim then some (.lst (a++b))else none
 | .tup a, .tup b=>if a.length+b.length<=lim then some (.tup (a++b))else none
 |_,_=>none
noncomputable def yO (K:PySem.W.Frag):R2:=fun x y H Q=>(uu (fun i j=> .int (i+j)) x y H Q\/BJ x y H Q)\/(yF K x y H Q\/yJ K x y H Q)
theorem aX {X:Cx}:iH X (binaryOp .Add) (yO X.K):=(zI.or zW).or (xa.or xB)
theorem aY:gZ K (yO K) b_:=by
 intro v u x y d H F Q s rx ry h k
 unfold b_ at h
 split at h
 ·cases rx.int;cases ry.int;cases h;exact .inl (.inl ⟨_,_,rfl,rfl,k _ H F (bL.refl s) (.int _)⟩)
 ·rename_i a b
  split at h
  ·rename_i hl
   cases h
   obtain⟨p,vs,rfl,h1,h2⟩:=rx.lst s
   obtain⟨q,us,rfl,h3,h4⟩:=ry.lst s
   refine .inl (.inr ⟨p,q,vs,us,rfl,rfl,h1,h3,Nat.le_trans (by rw[h2.length,h4.length];exact hl) eh,fun l hl'=> ?_⟩)
   have e:=bL.lay (o:= .lst (vs++us)) s hl'
   exact k _ _ _ e (.lst aA ((h2.append h4).mono e.grow))
  ·cases h
 ·rename_i a b
  split at h
  ·rename_i hl
   cases h
   obtain⟨p,vs,rfl,h1,h2⟩:=rx.tup s
   obtain⟨q,us,rfl,h3,h4⟩:=ry.tup s
   cases a with
   |nil=>
    cases h2
    refine .inr (.inr ⟨p,q,us,rfl,rfl,eR.of h1,eR.of h3,?_⟩)
    match ry with
    | .inl ry=>exact k _ H F (bL.refl s) ry
   |cons a0 a1=>
    refine .inr (.inl ⟨p,q,vs,us,rfl,rfl,eR.of h1,eR.of h3,(fun z=>by subst z;cases h2),Nat.le_trans (by rw[h2.length,h4.length];exact hl) eh,fun z=> ?_,fun _ l hl'=> ?_⟩)
    ·subst z
     cases h4
     rw[List.append_nil]at k
     match rx with
     | .inl rx=>exact k _ H F (bL.refl s) rx
    ·have e:=bL.lay (o:= .tup (vs++us)) s hl'
     exact k _ _ _ e (.tup aA ((h2.append h4).mono e.grow))
  ·cases h
 ·cases h
noncomputable def Bf (g:Int->Int->D):D->D->Option D
 | .int i, .int j=>some (g i j)
 |_,_=>none
noncomputable def xJ (C:Int->Int->Prop) [∀i j,Decidable (C i j)] (g:Int->Int->D):D->D->Option D
 | .int i, .int j=>if C i j then some (g i j)else none
 |_,_=>none
theorem qN {gv:Int->Int->V} {g:Int->Int->D} (hg:∀F i j,dq K F (gv i j) (g i j)):gZ K (uu gv) (Bf g):=by
 intro v u x y d H F Q s rx ry h k
 cases x with
 |int i=>
  cases y with
  |int j=>cases rx.int;cases ry.int;cases h;exact⟨i,j,rfl,rfl,k _ H F (bL.refl s) (hg F i j)⟩
  |_=>cases h
 |_=>cases h
theorem qO {C C':Int->Int->Prop} [∀i j,Decidable (C i j)] {gv:Int->Int->V} {g:Int->Int->D} (hC:∀i j,C i j->C' i j) (hg:∀F i j,dq K F (gv i j) (g i j)):gZ K (rI C' gv) (xJ C g):=by
 intro v u x y d H F Q s rx ry h k
 cases x with
 |int i=>
  cases y with
  |int j=>
   cases rx.int;cases ry.int
   replace h:(if C i j then some (g i j)else none)=some d:=h
   split at h
   ·cases h;exact⟨i,j,rfl,rfl,hC i j (by assumption),k _ H F (bL.refl s) (hg F i j)⟩
   ·cases h
  |_=>cases h
 |_=>cases h
noncomputable def g_:=Bf fun i j=> .int (i - j)
noncomputable def bD:=xJ qL fun i j=> .int (i / j)
noncomputable def bM:=xJ (fun _ j=>0<j) fun i j=> .int (i%j)
noncomputable def qP:=xJ qM fun i j=> .int (i ^j.toNat)
noncomputable def Av:=Bf fun i j=> .bl (decide (i<j))
noncomputable def E9:=Bf fun i j=> .bl (decide (i<=j))
noncomputable def vd:=Bf fun i j=> .bl (decide (j<i))
noncomputable def Ea:=Bf fun i j=> .bl (decide (j<=i))
theorem dZ:gZ K (uu fun i j=> .int (i - j)) g_:=qN fun F i j=> .int _
theorem bF:gZ K (rI wO fun i j=> .int (i / j)) bD:=qO (fun _ _ h=>h.c) fun F i j=> .int _
theorem aP:gZ K (rI (fun _ j=>0<j) fun i j=> .int (i%j)) bM:=qO (fun _ _ h=>h) fun F i j=> .int _
theorem xK:gZ K (rI wQ fun i j=> .int (i ^j.toNat)) qP:=qO (fun _ _ h=>h.c) fun F i j=> .int _
theorem nY:gZ K (uu fun i j=> .bl (decide (i<j))) Av:=qN fun F i j=> .bl _
theorem nZ:gZ K (uu fun i j=> .bl (decide (j<i))) vd:=qN fun F i j=> .bl _
noncomputable def mE:D->D->Option D
 | .int i, .int j=>if mD i j then some (.int (i*j))else none
 | .lst a, .int k=>if k.natAbs<=lim/\a.length*k.toNat<=lim then some (.lst (List.replicate k.toNat a).flatten)else none
 |_,_=>none
noncomputable def ve:R2:=fun x y H Q=>rI sJ (fun i j=> .int (i*j)) x y H Q\/BK x y H Q
theorem gK {X:Cx}:iH X (binaryOp .Mult) ve:=zJ.or zX
theorem Reps.rep {F:Hp} {vs:List V} {ds:List D} (h:Reps K F vs ds):∀k:Nat,Reps K F (List.replicate k vs).flatten (List.replicate k ds).flatten
 |0=> .nil
 |k+1=>by
  rw[List.replicate_succ,List.replicate_succ,List.flatten_cons,List.flatten_cons]
  exact h.append (h.rep k)
theorem iD:gZ K ve mE:=by
 intro v u x y d H F Q s rx ry h k
 unfold mE at h
 split at h
 ·rename_i i j
  cases rx.int;cases ry.int
  replace h:(if mD i j then some (D.int (i*j))else none)=some d:=h
  split at h
  ·rename_i hb;cases h;exact .inl ⟨i,j,rfl,rfl,mD.c hb,k _ H F (bL.refl s) (.int _)⟩
  ·cases h
 ·rename_i a j
  split at h
  ·rename_i hl
   cases h
   cases ry.int
   obtain⟨p,vs,rfl,h1,h2⟩:=rx.lst s
   refine .inr ⟨p,j,vs,rfl,rfl,h1,by have:=iC hl.1;omega,by have:=iC hl.1;omega,Nat.le_trans (by rw[h2.length];exact hl.2) eh,fun l hl'=> ?_⟩
   have e:=bL.lay (o:= .lst (List.replicate j.toNat vs).flatten) s hl'
   exact k _ _ _ e (.lst aA ((h2.rep _).mono e.grow))
  ·cases h
 ·cases h
noncomputable def n_:D->Option D
 | .int i=>some (.int (-i))
 |_=>none
theorem o0:BZ K (rU fun i=> .int (-i)) n_:=by
 intro v x d H F Q s rx h k
 cases x with
 |int i=>cases rx.int;cases h;exact⟨i,rfl,k _ H F (bL.refl s) (.int _)⟩
 |_=>cases h
noncomputable def qQ:D->D->Option Bool
 | .non, .non=>some true
 | .non, .int _=>some false
 | .int _, .non=>some false
 | .non, .bl _=>some false
 | .bl _, .non=>some false
 | .non, .str _=>some false
 | .str _, .non=>some false
 | .int i, .int j=>some (decide (i=j))
 | .bl i, .bl j=>some (decide (i=j))
 | .str i, .str j=>some (decide (i=j))
 | .int _, .str _=>some false
 | .str _, .int _=>some false
 | .bl _, .str _=>some false
 | .str _, .bl _=>some false
 |_,_=>none
noncomputable def iE (x y:D):Option D:=(qQ x y).map .bl
noncomputable def yP (x y:D):Option D:=(qQ x y).map fun b=> .bl (!b)
theorem n9 {H F:Hp} {v u:V} {x y:D} {b:Bool} (rx:cy K H F v x) (ry:cy K H F u y) (h:qQ x y=some b):zL v u=true/\decide (v=u)=b:=by
 cases x<;>cases y<;>first
  |(exfalso;revert h;simp[qQ];done)
  |(first|cases rx.int|cases rx.bl|cases rx.str|cases rx.non)<;>(first|cases ry.int|cases ry.bl|cases ry.str|cases ry.non)<;>(refine⟨rfl,?_⟩;simp[qQ]at h ⊢;try exact h)
theorem cP:gZ K DK iE:=by
 intro v u x y d H F Q s rx ry h k
 unfold iE at h
 cases e:qQ x y with
 |none=>rw[e]at h;cases h
 |some b=>
  rw[e]at h
  cases h
  obtain⟨h1,h2⟩:=n9 rx ry e
  exact⟨h1,by rw[h2];exact k _ H F (bL.refl s) (.bl b)⟩
theorem qR:gZ K DL yP:=by
 intro v u x y d H F Q s rx ry h k
 unfold yP at h
 cases e:qQ x y with
 |none=>rw[e]at h;cases h
 |some b=>
  rw[e]at h
  cases h
  obtain⟨h1,h2⟩:=n9 rx ry e
  exact⟨h1,by rw[h2];exact k _ H F (bL.refl s) (.bl _)⟩
noncomputable def C3:D->D->Option D
 | .non, .non=>some (.bl true)
 | .scr _, .non=>none
 |_, .non=>some (.bl false)
 |_,_=>none
noncomputable def yQ:D->Bool
 | .non=>true
 |_=>false
theorem DC {x y d:D} (h:C3 x y=some d):y= .non/\d= .bl (yQ x):=by
 unfold C3 at h
 split at h
 ·cases h;exact⟨rfl,rfl⟩
 ·cases h
 ·rename_i n1 _
  cases h
  refine⟨rfl,?_⟩
  unfold yQ
  split
  ·exact absurd rfl n1
  ·rfl
 ·cases h
noncomputable def jr:D->Bool
 | .non=>true
 | .bl _=>true
 | .int _=>true
 | .str _=>true
 |_=>false
noncomputable def C4:D->D->Bool
 | .non, .non=>true
 | .bl a, .bl b=>a==b
 | .bl a, .int b=>(if a then 1 else 0)==b
 | .int a, .bl b=>a==(if b then 1 else 0)
 | .int a, .int b=>a==b
 | .str a, .str b=>a==b
 |_,_=>false
theorem pe {F:Hp} {v:V} {d:D} (r:dq K F v d) (h:jr d=true):gQ v=true:=by
 cases r<;>first|rfl|cases h
theorem Aw {F:Hp} {v u:V} {x y:D} (r:dq K F v x) (q:dq K F u y) (hx:jr x=true) (hy:jr y=true):xh v u=C4 x y:=by
 cases r<;>first|(cases hx;done)|(cases q<;>first|rfl|(cases hy;done))
theorem Reps.flat {F:Hp}:∀{vs:List V} {ds:List D},Reps K F vs ds->ds.all jr=true->vs.all gQ=true:=by
 intro vs ds
 induction ds generalizing vs with
 |nil=>intro h _;rw[h.nilI];rfl
 |cons d ds ih=>
  intro g h
  obtain⟨v,us,rfl,r,t⟩:=g.consI
  rw[List.all_cons,Bool.and_eq_true]at h
  rw[List.all_cons,pe r h.1,ih t h.2];rfl
theorem Reps.inV {F:Hp} {v:V} {x:D} (rx:dq K F v x) (hx:jr x=true) {vs:List V} {ds:List D} (g:Reps K F vs ds):ds.all jr=true->L2.inV v vs=ds.any fun y=>C4 y x:=by
 induction ds generalizing vs with
 |nil=>intro _;rw[g.nilI];rfl
 |cons d ds ih=>
  intro h
  obtain⟨w,us,e0,r,t⟩:=g.consI
  rw[List.all_cons,Bool.and_eq_true]at h
  have:=ih t h.2
  rw[e0]
  unfold L2.inV at this ⊢
  rw[List.any_cons,List.any_cons,Aw r rx h.1 hx,this]
noncomputable def xL (neg:Bool) (x:D) (ds:List D):Option D:=if jr x=true/\ds.all jr=true then some (.bl (if neg then !(ds.any fun y=>C4 y x)else ds.any fun y=>C4 y x))else none
noncomputable def qS (neg:Bool):D->D->Option D
 |x, .lst ds=>xL neg x ds
 |x, .tup ds=>xL neg x ds
 |_,_=>none
theorem pf {H F:Hp} {neg:Bool} {v:V} {x d:D} {ds:List D} (rx:cy K H F v x) (h:xL neg x ds=some d) {vs:List V} (rv:Reps K F vs ds):
  gQ v=true/\vs.all gQ=true/\d= .bl (if neg then !L2.inV v vs else L2.inV v vs):=by
 unfold xL at h
 split at h
 ·rename_i hf
  cases h
  have rx':dq K F v x:=by
   rcases rx with rx|⟨a,o,rfl,_,q⟩
   ·exact rx
   ·cases q<;>cases hf.1
  exact⟨pe rx' hf.1,rv.flat hf.2,by rw[rv.inV rx' hf.1 hf.2]⟩
 ·cases h
theorem ka {neg:Bool}:gZ K (Dr K neg) (qS neg):=by
 intro v u x y d H F Q s rx ry h k
 cases y with
 |lst ds=>
  obtain⟨a,vs,rfl,h1,h2⟩:=ry.lst s
  obtain⟨g1,g2,rfl⟩:=pf rx h h2
  exact⟨a,vs,rfl, .inl (cT.of h1),g1,g2,k _ H F (bL.refl s) (.bl _)⟩
 |tup ds=>
  obtain⟨a,vs,rfl,h1,h2⟩:=ry.tup s
  obtain⟨g1,g2,rfl⟩:=pf rx h h2
  exact⟨a,vs,rfl, .inr (eR.of h1),g1,g2,k _ H F (bL.refl s) (.bl _)⟩
 |_=>cases h
noncomputable def o1 (neg:Bool):D->D->Option D
 |x, .dic kds=>(fu x).map fun k=> .bl (if neg then !(gr kds k).isSome else (gr kds k).isSome)
 |_,_=>none
noncomputable def cQ (neg:Bool) (x y:D):Option D:=match y with
 | .dic _=>o1 neg x y
 |_=>qS neg x y
theorem RepK.look {F:Hp} {vs:List (bn×V)} {ds:List (bn×D)} (r:RepK K F vs ds) (k:bn):(gD vs k).isSome=(gr ds k).isSome:=by
 rcases r.get k with ⟨h1,h2⟩|⟨v,d,h1,h2,_⟩<;>rw[h1,h2]<;>rfl
end
section
variable {X:Cx} {a b e:Expr} {es:List Expr} {fa fb f fk fv:ai->R D} {fs:ai->R (List D)} {pos:Pos}
theorem yR {g h:ai->R D} (hg:PQ ly X e g) (hh:PQ ly X e h) (sel:∀ρ,f ρ=g ρ\/f ρ=h ρ):PQ ly X e f:=fun c pins s σ H Q I ⟨F,ρ,ri,w⟩=>
 (sel ρ).elim (fun z=>hg c pins s σ H Q I ⟨F,ρ,ri,z▸w⟩) fun z=>hh c pins s σ H Q I ⟨F,ρ,ri,z▸w⟩
theorem yS {g h f:ai->R Bool} (hg:qb ly X e g) (hh:qb ly X e h) (sel:∀ρ,f ρ=g ρ\/f ρ=h ρ):qb ly X e f:=fun c pins s σ H Q I ⟨F,ρ,ri,w⟩=>
 (sel ρ).elim (fun z=>hg c pins s σ H Q I ⟨F,ρ,ri,z▸w⟩) fun z=>hh c pins s σ H Q I ⟨F,ρ,ri,z▸w⟩
theorem qT {neg:Bool} (ρ:ai):f2 (cQ neg) fa fb ρ=f2 (qS neg) fa fb ρ\/f2 (cQ neg) fa fb ρ=f2 (o1 neg) fa fb ρ:=by
 unfold f2
 cases fa ρ with
 |ok x=>
  cases fb ρ with
  |ok y=>cases y<;>first|exact .inl rfl|exact .inr rfl
  |_=>exact .inl rfl
 |_=>exact .inl rfl
theorem ph {K:PySem.W.Frag} {c:d4 ly} {σ:St} {H:Hp} {Q:VK} (h:tQ K c (f2 (o1 false) fa fb) σ H Q):zY (tB' K c fa) (tB' K c fb) σ H Q:=two h fun F H2 F2 v u x y e rx ry w=>by
 obtain⟨d,hd,k⟩:=w.of
 cases y with
 |dic kds=>
  obtain⟨p,vs,rfl,h1,h2,h3⟩:=ry.dic e.sub
  replace hd:(fu x).map (fun k=>D.bl (if false then !(gr kds k).isSome else (gr kds k).isSome))=some d:=hd
  cases hk:fu x with
  |none=>rw[hk]at hd;cases hd
  |some key=>
   rw[hk]at hd
   cases hd
   cases gu hk rx
   exact⟨p,_,rfl,jg.k (k:=key) h1,k _ H2 F2 e (by rw[h2.look];exact .bl _)⟩
 |_=>cases hd
theorem pi {K:PySem.W.Frag} {c:d4 ly} {σ:St} {H:Hp} {Q:VK} (h:tQ K c (f2 (o1 true) fa fb) σ H Q):nO (tB' K c fa) (tB' K c fb) σ H Q:=two h fun F H2 F2 v u x y e rx ry w=>by
 obtain⟨d,hd,k⟩:=w.of
 cases y with
 |dic kds=>
  obtain⟨p,vs,rfl,h1,h2,h3⟩:=ry.dic e.sub
  replace hd:(fu x).map (fun k=>D.bl (if true then !(gr kds k).isSome else (gr kds k).isSome))=some d:=hd
  cases hk:fu x with
  |none=>rw[hk]at hd;cases hd
  |some key=>
   rw[hk]at hd
   cases hd
   cases gu hk rx
   exact⟨p,_,rfl,jg.k (k:=key) h1,k _ H2 F2 e (by rw[h2.look];exact .bl _)⟩
 |_=>cases hd
theorem C5 (hu:X.A.units+1<cLine) (ha:PB ly X a fa) (hb:PB ly X b fb) (hm:behindInMarks .In b=false:=by with_unfolding_all rfl):PQ ly X (.Compare a [.In] [b] pos) (f2 (cQ false) fa fb):=
 yR (p7 mT ka ha hb hm) (fun c=>PE.weak (zt (uK hu (ha c) (hb c)) hm) fun σ H Q h=>ph h) qT
theorem vf {g h:ai->R D} (sel:∀ρ,f ρ=g ρ\/f ρ=h ρ) (ρ:ai):fT f ρ=fT g ρ\/fT f ρ=fT h ρ:=by
 unfold fT
 rcases sel ρ with z|z
 ·exact .inl (by rw[z])
 ·exact .inr (by rw[z])
theorem Ax (hu:X.A.units+1<cLine) (ha:PB ly X a fa) (hb:PB ly X b fb) (hm:behindInMarks .In b=false:=by with_unfolding_all rfl):qb ly X (.Compare a [.In] [b] pos) (fT (f2 (cQ false) fa fb)):=
 yS (bU mT ka ha hb hm) (fun c=>Am (c:=c.1) (t:=zY (tB' X.K c.1 fa) (tB' X.K c.1 fb)) (uj (uK hu (ha c) (hb c)) hm) fun σ H Q h=>ph h) (vf qT)
theorem gL (hu:X.A.units+1<cLine) (ha:PB ly X a fa) (hb:PB ly X b fb) (hm:behindInMarks .NotIn b=false:=by with_unfolding_all rfl):qb ly X (.Compare a [.NotIn] [b] pos) (fT (f2 (cQ true) fa fb)):=
 yS (bU nM ka ha hb hm) (fun c=>Am (c:=c.1) (t:=nO (tB' X.K c.1 fa) (tB' X.K c.1 fb)) (uj (sS hu (ha c) (hb c)) hm) fun σ H Q h=>pi h) (vf qT)
noncomputable def o3:D->D->Option D
 | .lst ds, .int i=>atI ds i
 | .tup ds, .int i=>atI ds i
 | .scr ns, .int i=>(atI ns i).map .int
 |_,_=>none
noncomputable def vg:D->D->Option D
 | .dic kds,k=>(fu k).bind fun key=>gr kds key
 |_,_=>none
noncomputable def bv (x y:D):Option D:=match x with
 | .dic _=>vg x y
 |_=>o3 x y
theorem Reps.atI {K:PySem.W.Frag} {F:Hp} {vs:List V} {ds:List D} {i:Int} {d:D} (r:Reps K F vs ds) (h:atI ds i=some d):∃v,L2.atI vs i=some v/\dq K F v d:=by
 unfold L2.atI at h ⊢
 rw[r.length]
 cases e:rQ ds.length i with
 |none=>rw[e]at h;cases h
 |some j=>rw[e]at h;exact r.get h
theorem tu {K:PySem.W.Frag}:gZ K (DM K) o3:=by
 intro v u x y d H F Q s rx ry h k
 unfold o3 at h
 split at h
 ·cases ry.int
  obtain⟨a,vs,rfl,h1,h2⟩:=rx.lst s
  obtain⟨w,h3,h4⟩:=h2.atI h
  exact .inl ⟨a,vs,_,w,rfl,rfl,cT.of h1,h3,k _ H F (bL.refl s) h4⟩
 ·cases ry.int
  obtain⟨a,vs,rfl,h1,h2⟩:=rx.tup s
  obtain⟨w,h3,h4⟩:=h2.atI h
  exact .inr (.inl ⟨a,vs,_,w,rfl,rfl,eR.of h1,h3,k _ H F (bL.refl s) h4⟩)
 ·rename_i ns i
  cases ry.int
  obtain⟨a,rfl,h1⟩:=rx.scr s
  cases e:atI ns i with
  |none=>rw[e]at h;cases h
  |some n=>
   rw[e]at h
   cases h
   refine .inl ⟨a,ns.map V.int,i, .int n,rfl,rfl,h1,?_,k _ H F (bL.refl s) (.int n)⟩
   unfold L2.atI at e ⊢
   rw[List.length_map]
   cases e2:rQ ns.length i with
   |none=>rw[e2]at e;cases e
   |some j=>
    rw[e2]at e
    show (ns.map V.int)[j]? =_
    rw[List.getElem?_map,show ns[j]? =some n from e]
    rfl
 ·cases h
theorem Ay (ρ:ai):f2 bv fa fb ρ=f2 o3 fa fb ρ\/f2 bv fa fb ρ=f2 vg fa fb ρ:=by
 unfold f2
 cases fa ρ with
 |ok x=>
  cases fb ρ with
  |ok y=>cases x<;>first|exact .inl rfl|exact .inr rfl
  |_=>exact .inl rfl
 |_=>exact .inl rfl
theorem aU (hu:X.A.units+1<cLine) (ha:PB ly X a fa) (hb:PB ly X b fb) (hs:rS b:=by intro _ _;rfl):PQ ly X (.Subscript a b pos) (f2 bv fa fb):=
 yR (fun c=>PE.weak (BE zT (ha c) (hb c) hs) fun σ H Q h=>two h fun F H2 F2 v u x y e rx ry w=>by
   obtain⟨d,hd,k⟩:=w.of
   exact tu v u x y d H2 F2 Q e.sub rx ry hd fun w H' F' e' r'=>k w H' F' (e.trans e') r')
  (fun c=>PE.weak (xn hu (ha c) (hb c) hs) fun σ H Q h=>two h fun F H2 F2 v u x y e rx ry w=>by
   obtain⟨d,hd,k⟩:=w.of
   cases x with
   |dic kds=>
    obtain⟨p,vs,rfl,h1,h2,h3⟩:=rx.dic e.sub
    replace hd:((fu y).bind fun key=>gr kds key)=some d:=hd
    cases hk:fu y with
    |none=>rw[hk]at hd;cases hd
    |some key=>
     rw[hk]at hd
     cases gu hk ry
     rcases h2.get key with ⟨_,z⟩|⟨v',d',z1,z2,z3⟩
     ·rw[show gr kds key=some d from hd]at z;cases z
     ·rw[show gr kds key=some d from hd]at z2
      cases z2
      exact⟨p,v',rfl,z1▸jg.k (k:=key) h1,k _ H2 F2 e z3⟩
   |_=>cases hd) Ay
end
end L2.Pu
namespace L2.Pu
open PySem PySem.Spec PyProof.Rows
variable {ly:List eN}
section
variable {K:PySem.W.Frag}
theorem hW.one {H F:Hp} {vs:List V} {d:D}:hW K H F vs [d]->∃v,vs=[v]/\cy K H F v d:=fun h=>by
 cases h with
 |cons r t=>cases t;exact⟨_,rfl,r⟩
theorem hW.two {H F:Hp} {vs:List V} {d e:D}:hW K H F vs [d,e]->∃v u,vs=[v,u]/\cy K H F v d/\cy K H F u e:=fun h=>by
 cases h with
 |cons r t=>
  obtain⟨u,e,q⟩:=hW.one t
  exact⟨_,u,by rw[e],r,q⟩
noncomputable def cJ:List D->Option D
 |[.lst ds]=>some (.int ds.length)
 |[.tup ds]=>some (.int ds.length)
 |[.scr ns]=>some (.int ns.length)
 |[.dic ds]=>some (.int ds.length)
 |_=>none
noncomputable def yT (K:PySem.W.Frag):List V->Hp->VK->Prop:=fun xs H Q=>(∃p ys,xs=[.ref p]/\(cT K H p ys\/eR K H p ys)/\Q (.int ys.length) H)\/∃p kvs,xs=[.ref p]/\H p=some (.dK kvs)/\Q (.int kvs.length) H
theorem ba {X:Cx}:cG X (.builtin "len") (yT X.K):=by
 intro pins s σ H xs us Q I rv h
 rcases h with h|⟨p,kvs,rfl,hk,q⟩
 ·exact nN pins s σ H xs us Q I rv h
 ·obtain⟨u,rfl,ru⟩:=gj rv
  cases ru
  exact BM I (.inl hk) fun t s' I'=>⟨.int kvs.length,H,I',⟨t,rfl⟩,q⟩
theorem bO:iY K (yT K) cJ:=by
 intro vs ds d H F Q s rv h k
 match ds,h with
 |[.lst xs],h=>
  obtain⟨v,rfl,r⟩:=rv.one
  obtain⟨a,ws,rfl,h1,h2⟩:=r.lst s
  cases h
  exact .inl ⟨a,ws,rfl, .inl (cT.of h1),by rw[h2.length];exact k _ H F (bL.refl s) (.int _)⟩
 |[.tup xs],h=>
  obtain⟨v,rfl,r⟩:=rv.one
  obtain⟨a,ws,rfl,h1,h2⟩:=r.tup s
  cases h
  exact .inl ⟨a,ws,rfl, .inr (eR.of h1),by rw[h2.length];exact k _ H F (bL.refl s) (.int _)⟩
 |[.scr ns],h=>
  obtain⟨v,rfl,r⟩:=rv.one
  obtain⟨a,rfl,h1⟩:=r.scr s
  cases h
  exact .inl ⟨a,_,rfl, .inl h1,by rw[List.length_map];exact k _ H F (bL.refl s) (.int _)⟩
 |[.dic xs],h=>
  obtain⟨v,rfl,r⟩:=rv.one
  obtain⟨a,ws,rfl,h1,h2,h3⟩:=r.dic s
  cases h
  exact .inr ⟨a,ws,rfl,h1,by rw[h2.length];exact k _ H F (bL.refl s) (.int _)⟩
noncomputable def d8:List D->Option D
 |[.lst ds]=>some (.tup ds)
 |[.tup ds]=>some (.tup ds)
 |_=>none
theorem cp:iY K (fun xs H Q=>∃p ys,xs=[.ref p]/\((cT K H p ys/\∀l,H l=none->Q (.ref l) (br H l (.tup ys)))\/(eR K H p ys/\Q (.ref p) H))) d8:=by
 intro vs ds d H F Q s rv h k
 match ds,h with
 |[.lst xs],h=>
  obtain⟨v,rfl,r⟩:=rv.one
  obtain⟨a,ws,rfl,h1,h2⟩:=r.lst s
  cases h
  refine⟨a,ws,rfl, .inl ⟨cT.of h1,fun l hl=> ?_⟩⟩
  have e:=bL.lay (o:= .tup ws) s hl
  exact k _ _ _ e (.tup aA (h2.mono e.grow))
 |[.tup xs],h=>
  obtain⟨v,rfl,r⟩:=rv.one
  obtain⟨a,ws,rfl,h1,h2⟩:=r.tup s
  cases h
  refine⟨a,ws,rfl, .inr ⟨eR.of h1,?_⟩⟩
  match r with
  | .inl r=>exact k _ H F (bL.refl s) r
noncomputable def gw:List D->Option D
 |[.lst ds]=>some (.lst ds)
 |[.tup ds]=>some (.lst ds)
 |[.scr ns]=>some (.lst (ns.map .int))
 |_=>none
theorem eZ {F:Hp}:∀ns:List Int,Reps K F (ns.map V.int) (ns.map D.int)
 |[]=> .nil
 |n::r=> .cons (.int n) (eZ r)
theorem fz:iY K (fun xs H Q=>∃p ys,xs=[.ref p]/\(cT K H p ys\/eR K H p ys)/\∀l,H l=none->Q (.ref l) (br H l (.lst ys))) gw:=by
 intro vs ds d H F Q s rv h k
 match ds,h with
 |[.lst xs],h=>
  obtain⟨v,rfl,r⟩:=rv.one
  obtain⟨a,ws,rfl,h1,h2⟩:=r.lst s
  cases h
  refine⟨a,ws,rfl, .inl (cT.of h1),fun l hl=> ?_⟩
  have e:=bL.lay (o:= .lst ws) s hl
  exact k _ _ _ e (.lst aA (h2.mono e.grow))
 |[.tup xs],h=>
  obtain⟨v,rfl,r⟩:=rv.one
  obtain⟨a,ws,rfl,h1,h2⟩:=r.tup s
  cases h
  refine⟨a,ws,rfl, .inr (eR.of h1),fun l hl=> ?_⟩
  have e:=bL.lay (o:= .lst ws) s hl
  exact k _ _ _ e (.lst aA (h2.mono e.grow))
 |[.scr ns],h=>
  obtain⟨v,rfl,r⟩:=rv.one
  obtain⟨a,rfl,h1⟩:=r.scr s
  cases h
  refine⟨a,_,rfl, .inl h1,fun l hl=> ?_⟩
  have e:=bL.lay (o:= .lst (ns.map V.int)) s hl
  exact k _ _ _ e (.lst aA (eZ ns))
noncomputable def cZ:List D->Option (List Int)
 |[]=>some []
 | .int i::r=>(cZ r).map (i::·)
 |_::_=>none
theorem gM {F:Hp}:∀{ds:List D} {ns:List Int} {vs:List V},cZ ds=some ns->Reps K F vs ds->vs=ns.map V.int:=by
 intro ds
 induction ds with
 |nil=>intro ns vs h r;cases r.nilI;cases h;rfl
 |cons d r ih=>
  intro ns vs h rv
  obtain⟨v,us,rfl,r1,t⟩:=rv.consI
  cases d with
  |int i=>
   cases r1.intI
   replace h:(cZ r).map (i::·)=some ns:=h
   cases e:cZ r with
   |none=>rw[e]at h;cases h
   |some ms=>
    rw[e]at h
    cases h
    rw[ih e t];rfl
  |_=>cases h
theorem lM (ns:List Int):cZ (ns.map .int)=some ns:=by
 induction ns with
 |nil=>rfl
 |cons n r ih=>show (cZ (r.map D.int)).map (n::·)=_;rw[ih];rfl
noncomputable def Eb:List D->Option D
 |[.lst ds]=>(cZ ds).map fun ns=> .int ns.sum
 |_=>none
noncomputable def o4:List D->Option D
 |[.lst ds]=>(cZ ds).bind fun ns=>if ns.length<64 then some (.lst ((dr ns).map .int))else none
 |_=>none
theorem qU:iY K (fun xs H Q=>∃p ns,xs=[.ref p]/\cT K H p (ns.map V.int)/\ns.length<64/\∀l,H l=none->Q (.ref l) (br H l (.lst ((dr ns).map V.int)))) o4:=by
 intro vs ds d H F Q s rv h k
 match ds,h with
 |[.lst xs],h=>
  obtain⟨v,rfl,r⟩:=rv.one
  obtain⟨a,ws,rfl,h1,h2⟩:=r.lst s
  replace h:((cZ xs).bind fun ns=>if ns.length<64 then some (D.lst ((dr ns).map .int))else none)=some d:=h
  cases e:cZ xs with
  |none=>rw[e]at h;cases h
  |some ns=>
   rw[e]at h
   replace h:(if ns.length<64 then some (D.lst ((dr ns).map .int))else none)=some d:=h
   split at h
   ·rename_i hl
    cases h
    rw[gM e h2]at h1
    refine⟨a,ns,rfl,cT.of h1,hl,fun l hl'=> ?_⟩
    have e:=bL.lay (o:= .lst ((dr ns).map V.int)) s hl'
    exact k _ _ _ e (.lst aA (eZ _))
   ·cases h
noncomputable def tw:List D->Option D
 |[.int i, .int j]=>some (.int (if j<i then j else i))
 |_=>none
noncomputable def tz:List D->Option D
 |[.int i, .int j]=>some (.int (if j>i then j else i))
 |_=>none
theorem sg:iY K (fun xs H Q=>∃i j,xs=[.int i, .int j]/\Q (.int (if j<i then j else i)) H) tw:=by
 intro vs ds d H F Q s rv h k
 match ds,h with
 |[.int i, .int j],h=>
  obtain⟨v,u,rfl,r,q⟩:=rv.two
  cases r.int;cases q.int;cases h
  exact⟨i,j,rfl,k _ H F (bL.refl s) (.int _)⟩
theorem sh:iY K (fun xs H Q=>∃i j,xs=[.int i, .int j]/\Q (.int (if j>i then j else i)) H) tz:=by
 intro vs ds d H F Q s rv h k
 match ds,h with
 |[.int i, .int j],h=>
  obtain⟨v,u,rfl,r,q⟩:=rv.two
  cases r.int;cases q.int;cases h
  exact⟨i,j,rfl,k _ H F (bL.refl s) (.int _)⟩
noncomputable def Az:List D->Option D
 |[.int i]=>some (.int i)
 |[.bl k]=>some (.int (if k then 1 else 0))
 |_=>none
theorem xM:iY K (fun xs H Q=>(∃i,xs=[.int i]/\Q (.int i) H)\/∃k,xs=[.bl k]/\Q (.int (if k then 1 else 0)) H) Az:=by
 intro vs ds d H F Q s rv h k
 match ds,h with
 |[.int i],h=>obtain⟨v,rfl,r⟩:=rv.one;cases r.int;cases h;exact .inl ⟨i,rfl,k _ H F (bL.refl s) (.int _)⟩
 |[.bl i],h=>obtain⟨v,rfl,r⟩:=rv.one;cases r.bl;cases h;exact .inr ⟨i,rfl,k _ H F (bL.refl s) (.int _)⟩
end
section
variable {X:Cx} {a b e:Expr} {es:List Expr} {fa fb f fk fv:ai->R D} {fs:ai->R (List D)} {pos p p2:Pos}
noncomputable def CQ:D->Option String
 | .non=>some "NoneType"
 | .bl _=>some "bool"
 | .int _=>some "int"
 | .str _=>some "str"
 | .tup _=>some "tuple"
 | .lst _=>some "list"
 | .dic _=>some "dict"
 |_=>none
noncomputable def nc (t T:String):Option Bool:=if t=T then some true else if t="bool"/\T="int" then some true
 else if ["NoneType","bool","int","str","tuple","list","dict"].contains t/\["bool","int","str","tuple","list","dict"].contains T then some false else none
theorem vh (K:PySem.W.Frag) {t T:String} {k:Bool} (ht:t="NoneType"\/t="bool"\/t="int"\/t="str"\/t="tuple"\/t="list"\/t="dict") (hT:T="bool"\/T="int"\/T="str"\/T="tuple"\/T="list"\/T="dict") (h:nc t T=some k):
  PySem.W.kitOne K (.type t) (.type T)=some k:=by
 rcases ht with rfl|rfl|rfl|rfl|rfl|rfl|rfl<;>rcases hT with rfl|rfl|rfl|rfl|rfl|rfl<;>(revert h;unfold nc;simp+decide;rintro rfl;first|rfl|(unfold PySem.W.kitOne PySem.W.kitCls;decide+kernel))
noncomputable def kO (T:String) (d:D):Option D:=(CQ d).bind fun t=>(nc t T).map .bl
noncomputable def mF (T:String) (f:ai->R D):ai->R D:=fun ρ=>f ρ>>=fun d=>R.of (kO T d)
theorem AA {K:PySem.W.Frag} {H F:Hp} {v:V} {d:D} {t:String} (s:aQ F H) (r:cy K H F v d) (h:CQ d=some t):jc K H v (.type t):=by
 cases d with
 |non=>cases r.non;cases h;exact .non
 |bl=>cases r.bl;cases h;exact .bl _
 |int=>cases r.int;cases h;exact .int _
 |str=>cases r.str;cases h;exact .str _
 |tup=>obtain⟨a,vs,rfl,h1,_⟩:=r.tup s;cases h;exact .tup h1
 |lst=>obtain⟨a,vs,rfl,h1,_⟩:=r.lst s;cases h;exact .lst h1
 |dic=>obtain⟨a,vs,rfl,h1,_⟩:=r.dic s;cases h;exact .dK h1
 |_=>cases h
theorem tD {d:D} {t:String} (h:CQ d=some t):t="NoneType"\/t="bool"\/t="int"\/t="str"\/t="tuple"\/t="list"\/t="dict":=by
 cases d<;>cases h<;>simp
theorem ng {x:Str} {T:String} (hT:T="bool"\/T="int"\/T="str"\/T="tuple"\/T="list"\/T="dict") (hm1:X.mg "isinstance"=none) (hm:X.mg x=none) (hv:bootBuiltins x=some (.type T)) (ha:PB ly X a fa) (hg1:Gl X "isinstance":=by rfl) (hg:Gl X x:=by rfl)
  (hn:x≠"__name__":=by decide) (hdb:(x==("__debug__":Str))=false:=by decide)
  (he:starEach [a, .Name x p2] X.env=(false,eval a X.env)::starEach [.Name x p2] X.env:=by rfl) (he2:starEach [.Name x p2] X.env=(false,eval (.Name x p2) X.env)::starEach [] X.env:=by rfl) (hpl:(backTo pos (starEach [.Name x p2] X.env)).any (·.1)=false:=by rfl):
  PQ ly X (.Call (.Name "isinstance" p) [a, .Name x p2] [] pos) (mF T fa):=fun c=>
 PE.weak (jd uO hg1 hm1 oW (c_ (ha c) (c_ (wJ (v:= .ty T) hg hm hv rfl hn hdb) fj he2) he) (by decide) (by decide) he hpl) fun σ H Q ⟨F,ρ,ri,w⟩=>
  ⟨F,ρ,ri,(aK.bind.mp w).imp fun d _ w1 v H1 F1 e1 r1=>by
   obtain⟨d',hd,k⟩:=w1.of
   unfold kO at hd
   cases ht:CQ d with
   |none=>rw[ht]at hd;cases hd
   |some t=>
    rw[ht]at hd
    cases hs:nc t T with
    |none=>
     replace hd:(nc t T).map D.bl=some d':=hd
     rw[hs]at hd;cases hd
    |some kk=>
     replace hd:(nc t T).map D.bl=some d':=hd
     rw[hs]at hd
     cases hd
     exact⟨v,T,_,kk,rfl,AA e1.sub r1 ht,vh X.K (tD ht) hT hs,k _ H1 F1 e1 (.bl kk)⟩⟩
noncomputable def tE (f:ai->R D):ai->R D:=fun ρ=>f ρ>>=fun d=>match d with
 | .lst ds=> .ok (.lst ds.reverse)
 |_=> .bad
theorem vi {j:Nat} {pu pk:Pos} (ha:PB ly X a fa):PQ ly X (.Subscript a (.Slice none none (some (.UnaryOp .USub (.Constant (.int 1) j pk) pu)) p2) pos) (tE fa):=fun c=>
 PE.weak (A0 (ha c) (rP (yy nJ ui))) fun σ H Q ⟨F,ρ,ri,w⟩=>⟨F,ρ,ri,(aK.bind.mp w).imp fun d _ w1 v H1 F1 e1 r1=>by
  cases d with
  |lst ds=>
   obtain⟨p,vs,rfl,h1,h2⟩:=r1.lst e1.sub
   refine⟨1,rfl,-1,rfl,rfl,p,vs,rfl,cT.of h1,fun l hl=> ?_⟩
   have e2:=bL.lay (o:= .lst vs.reverse) e1.sub hl
   exact w1 _ _ _ (e1.trans e2) (.lst aA (h2.reverse.mono e2.grow))
  |_=>exact w1.elim⟩
noncomputable def o5 (ds:List D) (lo hi:Option Int):List D:=(ds.drop (HT.d5 ds.length 0 lo)).take (HT.d5 ds.length ds.length hi - HT.d5 ds.length 0 lo)
theorem Reps.cut {K:PySem.W.Frag} {F:Hp} {vs:List V} {ds:List D} (r:Reps K F vs ds) (lo hi:Option Int):Reps K F (mx vs lo hi) (o5 ds lo hi):=by
 unfold mx o5
 rw[r.length]
 exact(r.drop _).take _
noncomputable def Ec (K:PySem.W.Frag) (c:d4 ly) (f:ai->R (Option Int)):TO:=fun σ H Q=>∃F ρ,RI K c ρ σ H F/\aK c (f ρ) fun o=>∀H' F',bL H F H' F'->Q o H'
noncomputable def CS (ly:List eN) (X:Cx) (e:Option Expr) (f:ai->R (Option Int)):Prop:=∀c:iK ly X,PO X e (Ec X.K c.1 f)
theorem PO.weak {X:Cx} {e:Option Expr} {t t':TO} (h:PO X e t) (w:∀σ H Q,t' σ H Q->t σ H Q):PO X e t':=fun pins s σ H Q I q=>h pins s σ H Q I (w σ H Q q)
noncomputable def ku:ai->R (Option Int):=fun _=> .ok none
noncomputable def kx (f:ai->R D):ai->R (Option Int):=fun ρ=>f ρ>>=fun d=>match d with
 | .int i=> .ok (some i)
 |_=> .bad
theorem lN:CS ly X none ku:=fun c=>PO.weak x5 fun σ H Q ⟨F,ρ,ri,w⟩=>w H F (bL.refl ri.sub)
theorem lO (h:PQ ly X e f):CS ly X (some e) (kx f):=fun c=>PO.weak (rP (h c)) fun σ H Q ⟨F,ρ,ri,w⟩=>⟨F,ρ,ri,(aK.bind.mp w).imp fun d _ w1 v H1 F1 e1 r1=>by
 cases d with
 |int i=>cases r1;exact⟨i,rfl,w1 H1 F1 e1⟩
 |_=>exact w1.elim⟩
variable {lo hi:Option Expr} {fl fh:ai->R (Option Int)}
noncomputable def yU (d:D) (lo hi:Option Int):Option D:=match d with
 | .lst ds=>some (.lst (o5 ds lo hi))
 | .tup ds=>if HT.d5 ds.length 0 lo=0/\HT.d5 ds.length ds.length hi=ds.length then some (.tup ds)else some (.tup (o5 ds lo hi))
 |_=>none
noncomputable def yV (f:ai->R D) (fl fh:ai->R (Option Int)):ai->R D:=fun ρ=>f ρ>>=fun d=>fl ρ>>=fun l=>fh ρ>>=fun h=>R.of (yU d l h)
theorem js (ha:PB ly X a fa) (hl:CS ly X lo fl) (hh:CS ly X hi fh):PQ ly X (.Subscript a (.Slice lo hi none p2) pos) (yV fa fl fh):=fun c=>
 PE.weak (uG ((xg.or zQ).or xA) (ha c) (hl c) (hh c)) fun σ H Q ⟨F,ρ,ri,w⟩=>⟨F,ρ,ri,(aK.bind.mp w).imp fun d _ w1 v H1 F1 e1 r1=>⟨F1,ρ,ri.step e1,(aK.bind.mp w1).imp fun l _ w2 H2 F2 e2=>
  ⟨F2,ρ,(ri.step e1).step e2,(aK.bind.mp w2).imp fun h _ w3 H3 F3 e3=>by
   obtain⟨d',hd,k⟩:=w3.of
   have e13:=(e1.trans e2).trans e3
   have r3:=(r1.mono e2).mono e3
   cases d with
   |lst ds=>
    cases hd
    obtain⟨p,vs,rfl,h1,h2⟩:=r3.lst e13.sub
    refine .inl (.inl ⟨p,vs,rfl,cT.of h1,fun q hq=> ?_⟩)
    have e4:=bL.lay (o:= .lst (mx vs l h)) e13.sub hq
    exact k _ _ _ (e13.trans e4) (.lst aA ((h2.cut l h).mono e4.grow))
   |tup ds=>
    replace hd:(if HT.d5 ds.length 0 l=0/\HT.d5 ds.length ds.length h=ds.length then some (D.tup ds)else some (D.tup (o5 ds l h)))=some d':=hd
    split at hd
    ·rename_i hw
     cases hd
     rcases r3 with r3|⟨_,_,_,_,q⟩
     ·cases r3 with
      | @tup p vs _ h1 h2=>exact .inr ⟨p,vs,rfl,eR.of (e13.sub _ _ h1),by rw[h2.length];exact hw,k _ _ _ e13 (.tup h1 h2)⟩
     ·cases q
    ·rename_i hw
     cases hd
     obtain⟨p,vs,rfl,h1,h2⟩:=r3.tup e13.sub
     refine .inl <| .inr ⟨p,vs,rfl,eR.of h1,by rw[h2.length];exact hw,fun q hq=> ?_⟩
     have e4:=bL.lay (o:= .tup (mx vs l h)) e13.sub hq
     exact k _ _ _ (e13.trans e4) (.tup aA ((h2.cut l h).mono e4.grow))
   |_=>cases hd⟩⟩⟩
noncomputable def fX (kvs more:List (bn×D)):List (bn×D):=more.foldl (fun acc kv=>pc acc kv.1 kv.2) kvs
theorem RepK.merge {K:PySem.W.Frag} {F:Hp}:∀{more:List (bn×V)} {dmore:List (bn×D)} {vs:List (bn×V)} {ds:List (bn×D)},RepK K F more dmore->RepK K F vs ds->(vs.map (·.1)).Nodup->RepK K F (gE vs more) (fX ds dmore)/\((gE vs more).map (·.1)).Nodup:=by
 intro more dmore
 induction dmore generalizing more with
 |nil=>intro vs ds r h n;rw[r.nilI];exact⟨h,n⟩
 |cons d s ih=>
  intro vs ds r h n
  obtain⟨k,d⟩:=d
  obtain⟨v,us,rfl,q,t⟩:=r.consI
  exact ih (more:=us) t (h.put k q) (vb v n)
inductive C6 (ly:List eN) (X:Cx) (pos:Pos):List (Option Expr)->List Expr->List ((ai->R D)×(ai->R D))->Prop
 |nil:C6 ly X pos [] [] []
 |cons {k v:Expr} {ks:List (Option Expr)} {vs:List Expr} {fk fv:ai->R D} {ps:List ((ai->R D)×(ai->R D))}:PQ ly X k fk->PQ ly X v fv->C6 ly X pos ks vs ps->C6 ly X pos (some k::ks) (v::vs) ((fk,fv)::ps)
theorem C6.len {X:Cx} {pos:Pos}:∀{ks:List (Option Expr)} {vs:List Expr} {ps:List ((ai->R D)×(ai->R D))},C6 ly X pos ks vs ps->ks.length=vs.length/\ks.length=ps.length/\ks.all (·.isSome)=true
 |_,_,_, .nil=>⟨rfl,rfl,rfl⟩
 |_,_,_, .cons _ _ r=>by
  obtain⟨a,b,c⟩:=r.len
  exact⟨by simp[a],by simp[b],by simp[List.all_cons,c]⟩
end
end L2.Pu
namespace L2.Pu
open PySem PySem.Spec PyProof.Rows
variable {ly:List eN}
noncomputable def pj (scope outer:Scope):Bool:=
 scope.kind== .function&&scope.names.all (fun y=>y.2 != .cell)&&scope.names.all (fun y=>y.2 != .local||scope.names.lookup y.1==some .local)&&
 scope.names.all (fun y=>y.2 != .free||outer.names.lookup y.1==some .cell||outer.names.lookup y.1==some .free)&&decide ((scope.names.map (·.1)).Nodup)
theorem aS.of {X:Cx} {scope outer:Scope} (h:X.env.scope=outer) (k:pj scope outer=true):aS X scope:=by
 unfold pj at k
 simp only[Bool.and_eq_true,List.all_eq_true,decide_eq_true_eq,Bool.or_eq_true,bne_iff_ne,beq_iff_eq]at k
 obtain⟨⟨⟨⟨k1,k2⟩,k3⟩,k4⟩,k5⟩:=k
 refine⟨k1,k2,fun y hy hl=> ?_,fun y hy hf=> ?_,k5⟩
 ·rcases k3 y hy with z|z
  ·exact absurd hl z
  ·exact z
 ·show X.env.scope.names.lookup y.1=_\/X.env.scope.names.lookup y.1=_
  rw[h]
  rcases k4 y hy with (z|z)|z
  ·exact absurd hf z
  ·exact .inl z
  ·exact .inr z
structure bE (K:PySem.W.Frag) (mg:Str->Option Value) (x:Str) (st:Stmt) (ps:List Str):Prop where
 ex:∃f fd,uf K x x st f fd/\mg x=some (.ref f)/\fq K fd ps []
structure bp (P:Program) (w:World) (K:PySem.W.Frag) (mg:Str->Option Value) (base:Heap) (k:Nat) (x:Str) (n:Nat) (m:List D->R D):Prop where
 ex:∃f fd ps,eP P w K mg base (kM P w) k f fd ps (tj K n m)/\mg x=some (.ref f)/\PySem.W.keepIn K (.ref f)=true/\fq K fd ps []
section
variable {P:Program} {w:World} {K:PySem.W.Frag} {mg:Str->Option Value} {base:Heap}
theorem cn {x:Str} {st:Stmt} {N ps:List Str} {k n m:Nat} {g:ai->R bY} (A:bE K mg x st ps) (S:aW N ps (ak st)) (hn:ps.length=n) (hm:N.length=m)
  (hbody:∀(f:Addr) (cdv:Value) (A:Around) (outer:List Env) (s:Shared) (H:Hp) (E:XK),dh k (A.deeper (envOfC x (ak st) s.heap.objs.size f cdv))->
   jn [] (hG (kM P w) P w K mg base N x (ak st) f cdv A outer s H E) (aR st) g):bp P w K mg base (k+1) x n (bA n m g):=by
 obtain⟨f,fd,F,h1,h2⟩:=A.ex
 exact⟨f,fd,ps,Au F S hn hm fun cdv A outer s H E hr=>hbody f cdv A outer s H E hr,h1,F.kp,h2⟩
theorem bp.mono {x:Str} {j k n:Nat} {m:List D->R D} (F:bp P w K mg base j x n m) (h:j<=k):bp P w K mg base k x n m:=by
 obtain⟨f,fd,ps,h1,h2⟩:=F.ex
 exact⟨f,fd,ps,h1.mono h,h2⟩
theorem vj {x:Str} {st:Stmt} {ps:List Str} {n:Nat} (A:bE K mg x st ps) (hn:ps.length=n):bp P w K mg base 0 x n (fun _=> .bad):=by
 obtain⟨f,fd,F,h1,h2⟩:=A.ex
 refine⟨f,fd,ps,⟨fun vs H Q E h=>by rw[hn];exact h.1,fun A outer s H args us vs Q E hr e0 hb rv h=> ?_⟩,h1,F.kp,h2⟩
 obtain⟨_,F',ds,_,_,z⟩:=h
 exact z.elim
end
section
variable {X:Cx} {e:Expr} {es:List Expr} {fs:ai->R (List D)} {x:Str} {p pos:Pos}
theorem ce {n k:Nat} {m:List D->R D} (F:bp X.prog X.w X.K X.mg X.base k x n m) (hr:dh k X.A)
  (ha:tf ly X (e::es) fs) (hg:Gl X x:=by rfl) (hdb:(x==("__debug__":Str))=false:=by decide) (he:starEach (e::es) X.env=(false,eval e X.env)::starEach es X.env:=by rfl) (hpl:(backTo pos (starEach es X.env)).any (·.1)=false:=by rfl):
  PQ ly X (.Call (.Name x p) (e::es) [] pos) (aM m n fs):=by
 obtain⟨f,fd,ps,h1,h2,h3,h4⟩:=F.ex
 exact Ao h1 hr h2 h3 h4 ha hg hdb he hpl
end
structure Bl (mg:Str->Option Value) (xs:List Str):Prop where
 no:∀x∈xs,mg x=none
theorem bG:bootBuiltins "tuple"=some (.type "tuple"):=by decide+kernel
theorem dj:bootBuiltins "list"=some (.type "list"):=by decide+kernel
theorem tF:bootBuiltins "dict"=some (.type "dict"):=by decide+kernel
theorem pq:bootBuiltins "int"=some (.type "int"):=by decide+kernel
theorem kb:bootBuiltins "bool"=some (.type "bool"):=by decide+kernel
theorem ky:bootBuiltins "sorted"=some (.builtin "sorted"):=by decide+kernel
theorem pw:bootBuiltins "min"=some (.builtin "min"):=by decide+kernel
theorem pz:bootBuiltins "max"=some (.builtin "max"):=by decide+kernel
theorem AB {K:PySem.W.Frag} {m:List D->R D} {H:Hp} {a:Addr} {ns:List Int} {E:XK} (h:m [.scr ns]= .ok (.bl true)) (hs:cT K H a (ns.map V.int)):tj K 1 m [.ref a] H (fun v _=>v= .bl true) E:=by
 refine⟨rfl,H,[.scr ns],aQ.refl _, .cons (.scr hs) .nil,?_⟩
 rw[h]
 intro v H' F' e r
 cases r
 rfl
end L2.Pu
namespace L2.Pu
open PySem PySem.Spec PyProof.Rows
variable {ly:List eN}
section
variable {i j:Int}
theorem aN (h:0<j):bM (.int i) (.int j)=some (.int (i%j)):=if_pos h
theorem cq (h:0<j/\j<1073741824):bD (.int i) (.int j)=some (.int (i / j)):=if_pos (show qL i j from ⟨h.1,by omega⟩)
theorem o6 (h:j.natAbs<18446744073709551616):mE (.int i) (.int j)=some (.int (i*j)):=if_pos (show mD i j from .inr h)
theorem vm (h:i.natAbs<18446744073709551616):mE (.int i) (.int j)=some (.int (i*j)):=if_pos (show mD i j from .inl h)
theorem xN (h:qM i j):qP (.int i) (.int j)=some (.int (i ^j.toNat)):=if_pos h
theorem qV:b_ (.int i) (.int j)=some (.int (i+j)):=rfl
theorem AD:g_ (.int i) (.int j)=some (.int (i - j)):=rfl
theorem yW:Av (.int i) (.int j)=some (.bl (decide (i<j))):=rfl
theorem C7:E9 (.int i) (.int j)=some (.bl (decide (i<=j))):=rfl
theorem C8:vd (.int i) (.int j)=some (.bl (decide (j<i))):=rfl
theorem C9:Ea (.int i) (.int j)=some (.bl (decide (j<=i))):=rfl
theorem vn:iE (.int i) (.int j)=some (.bl (decide (i=j))):=rfl
theorem yX:yP (.int i) (.int j)=some (.bl (!decide (i=j))):=rfl
theorem yY {a b:Bool}:iE (.bl a) (.bl b)=some (.bl (decide (a=b))):=rfl
theorem AE:n_ (.int i)=some (.int (-i)):=rfl
end
theorem AF {a b:List D} (h:a.length+b.length<=lim):b_ (.lst a) (.lst b)=some (.lst (a++b)):=if_pos h
theorem yZ {ds:List D} {i:Int}:bv (.lst ds) (.int i)=atI ds i:=rfl
theorem y_ {ds:List D} {i:Int}:bv (.tup ds) (.int i)=atI ds i:=rfl
theorem Ca {ns:List Int} {i:Int}:bv (.scr ns) (.int i)=(atI ns i).map .int:=rfl
theorem qW {ds:List D}:cJ [.lst ds]=some (.int ds.length):=rfl
theorem o7 {ds:List D}:cJ [.tup ds]=some (.int ds.length):=rfl
theorem AG {ds:List Int}:cJ [.scr ds]=some (.int ds.length):=rfl
theorem vo {ds:List D}:d8 [.lst ds]=some (.tup ds):=rfl
theorem vp {ds:List D}:d8 [.tup ds]=some (.tup ds):=rfl
theorem xO {ds:List D}:gw [.lst ds]=some (.lst ds):=rfl
theorem xP {ds:List D}:gw [.tup ds]=some (.lst ds):=rfl
theorem dD {α:Type} {xs:List α} {k:Nat} (h:k<xs.length):L2.atI xs (k:Int)=some xs[k]:=xb (by simp[h])
theorem xQ (x:Int) (xs:List Int):((xs.map D.int).any fun y=>C4 y (.int x))=decide (x∈xs):=by
 induction xs with
 |nil=>rfl
 |cons y r ih=>
  rw[List.map_cons,List.any_cons,ih]
  show (y==x||decide (x∈r))=decide (x∈y::r)
  by_cases e:x=y
  ·subst e;simp
  ·have:(y==x)=false:=beq_eq_false_iff_ne.mpr (Ne.symm e)
   simp[this,e]
theorem xR (xs:List Int):(xs.map D.int).all jr=true:=by
 induction xs with
 |nil=>rfl
 |cons y r ih=>rw[List.map_cons,List.all_cons,ih];rfl
theorem jt (neg:Bool) (x:Int) (xs:List Int):xL neg (.int x) (xs.map .int)=some (.bl (if neg then !decide (x∈xs)else decide (x∈xs))):=by
 unfold xL
 rw[if_pos ⟨rfl,xR xs⟩,xQ]
theorem Cb {x:Int} {xs:List Int}:cQ false (.int x) (.lst (xs.map .int))=some (.bl (decide (x∈xs))):=jt false x xs
theorem Cd {x:Int} {xs:List Int}:cQ false (.int x) (.tup (xs.map .int))=some (.bl (decide (x∈xs))):=jt false x xs
theorem fA {x:Int} {xs:List Int}:cQ true (.int x) (.lst (xs.map .int))=some (.bl (!decide (x∈xs))):=jt true x xs
theorem vq {x:Int} {xs:List Int}:cQ true (.int x) (.tup (xs.map .int))=some (.bl (!decide (x∈xs))):=jt true x xs
theorem qX (n:Nat):i6 0 (n:Int)=(List.range n).map fun k:Nat=>D.int (k:Int):=by
 unfold i6
 simp
theorem AH {ds:List D}:kO "tuple" (.tup ds)=some (.bl true):=rfl
theorem AI {i:Int}:kO "tuple" (.int i)=some (.bl false):=rfl
theorem AJ {i:Int}:kO "int" (.int i)=some (.bl true):=rfl
theorem AK {i:Int}:kO "bool" (.int i)=some (.bl false):=rfl
theorem vt {m:List D->R D} {n:Nat} {fs:ai->R (List D)} {ρ:ai} {ds:List D} {d:D} (h:fs ρ= .ok ds) (hl:ds.length=n) (hm:m ds= .ok d):aM m n fs ρ= .ok d:=by
 unfold aM
 rw[h,ax,if_pos hl,hm]
end L2.Pu
namespace L2.Pu
theorem iF {g:D->ai->R ai} {gb:ai->R bY} {d:D} {r:List D} {ρ ρ1 ρ2:ai} (h1:g d ρ= .ok ρ1) (h2:gb ρ1= .ok (.nx ρ2)):cU g gb (d::r) ρ=cU g gb r ρ2:=by
 rw[cU,h1,ax,h2,ax]
theorem vv {g:D->ai->R ai} {gb:ai->R bY} {d:D} {r:List D} {ρ ρ1 ρ2:ai} (h1:g d ρ= .ok ρ1) (h2:gb ρ1= .ok (.cnt ρ2)):cU g gb (d::r) ρ=cU g gb r ρ2:=by
 rw[cU,h1,ax,h2,ax]
theorem vw {g:D->ai->R ai} {gb:ai->R bY} {d e:D} {r:List D} {ρ ρ1:ai} (h1:g d ρ= .ok ρ1) (h2:gb ρ1= .ok (.ret e)):cU g gb (d::r) ρ= .ok (.ret e):=by
 rw[cU,h1,ax,h2,ax]
end L2.Pu
namespace L2.Pu
theorem bd {k n:Nat} {g:ai->R bY} {ds:List D} {d:D} (h:ds.length=k) (e:g (dC n ds)= .ok (.ret d)):bA k n g ds= .ok d:=by
 unfold bA
 rw[if_pos h,e,ax]
theorem av {g g':ai->R bY} {ρ ρ':ai} (h:g ρ= .ok (.nx ρ')):aH g g' ρ=g' ρ':=by
 unfold aH
 rw[h,ax]
theorem eV {g g':ai->R bY} {ρ:ai} {d:D} (h:g ρ= .ok (.ret d)):aH g g' ρ= .ok (.ret d):=by
 unfold aH
 rw[h,ax]
theorem o8 {fi:ai->R (List D)} {g:D->ai->R ai} {gb:ai->R bY} {ρ:ai} {ds:List D} (h:fi ρ= .ok ds):i5 fi g gb ρ=cU g gb ds ρ:=by
 unfold i5
 rw[h,ax]
end L2.Pu
namespace L2.Pu
theorem gx {fs:ai->R (List D)} {ρ:ai} {n:Nat} (h:fs ρ= .ok [.int (n:Int)]) (hn:n<=lim):d0 fs ρ= .ok ((List.range n).map fun k:Nat=>D.int (k:Int)):=by
 unfold d0
 rw[h,ax]
 have hc:(n:Int).natAbs<=lim:=by rw[Int.natAbs_natCast];exact hn
 exact(if_pos hc).trans (congrArg R.ok (qX n))
end L2.Pu
namespace L2.Pu
open PySem PySem.Spec PyProof.Rows
variable {ly:List eN}
section
variable {X:Cx} {elt tg iter:Expr} {ifs:List Expr} {scope:Scope} {pos:Pos} {fi:ai->R (List D)} {g:D->ai->R ai} {gt:ai->R Bool} {fe:ai->R D}
theorem si (i:Nat) {y:Str} {py spos:Pos} (S:aS X scope) (hc:X.calm=true) (hN:X.N.Nodup) (hi:Ar ly X tg iter fi) (hg:∀s H ex,wF [] (bR X scope s H ex) tg g) (hif:∀s H ex,qK [] (bR X scope s H ex) ifs gt) (hel:∀s H ex,PQ [] (bR X scope s H ex) elt fe)
  (hi':X.N[i]? =some y:=by rfl) (hx:uh X.env.scope y:=by first|exact Or.inl rfl|exact Or.inr rfl) (hf:X.fn y=true\/X.env.scope.names.lookup y=some .local:=by first|exact .inl rfl|exact .inr rfl|assumption)
  (hsw:swapsWith (.ListComp elt [⟨tg,iter,ifs,0⟩] scope pos) (some (.Name y py)) spos.line X.env=pure false:=by rfl) (hs:∀x,foldedSetIterable iter X.env x=pure x:=by intro _;rfl) (hfr:jY ly i:=by(repeat (first|assumption|exact L2.Pu.eF|refine L2.Pu.free_cons ⟨by first|decide|simp,by first|decide|simp⟩ ?_))):
  mw ly X (.Assign [.Name y py] (.ListComp elt [⟨tg,iter,ifs,0⟩] scope pos) spos) (gq i (bZ X.N scope.names fi g gt fe)):=fun c=>
 PS.weak (nH hN hi' hx (rV S hc (hi c) (fun s H ex=>CO (hg s H ex)) (fun s H ex=>CP (hif s H ex)) (fun s H ex=>DB (hel s H ex)) hs) hsw hf) fun D σ H ⟨F,ρ,ri,w⟩=>by
  refine⟨F,ρ,ri,(aK.bind.mp (aK.bind.mp w)).imp fun ds _ w1 J H1 F1 e1 jo p hp=> ?_⟩
  split at w1
  ·rename_i hl
   split at w1
   ·rename_i es he
    refine iZ ri e1 jo hp hl he fun H2 F2 vs e2 hp2 hf2 rv=> ?_
    refine w1 _ H2 F2 (e1.grow.trans e2.grow) ((ri.step (e1.trans e2)).setOwn i hfr hp2 hf2 (ri.ext.keep.free (e1.keep.free hp)) (.lst rv) (fun j d' _ hj ej=> ?_) (ri.celNe (e1.trans e2).keep (e1.keep.free hp)))
    obtain⟨a,o,k1,k2,_⟩:=ri.own j d' hj
    rw[ej]at k1
    cases k1
    rw[e1.keep.free hp]at k2
    cases k2
   ·exact w1.elim
  ·exact w1.elim
end
end L2.Pu
namespace L2.Pu
open PySem PySem.Spec PyProof.Rows
variable {ly:List eN}
theorem ia {f:ai->R D} {ρ:ai} {d:D} (h:f ρ= .ok d):bN f ρ= .ok (.ret d):=by unfold bN;rw[h,ax]
theorem qY {g:List D->Option D} {fs:ai->R (List D)} {ρ:ai} {ds:List D} {d:D} (h:fs ρ= .ok ds) (h2:g ds=some d):cI g fs ρ= .ok d:=by unfold cI;rw[h,ax,h2,cN]
theorem dA {f:ai->R D} {fs:ai->R (List D)} {ρ:ai} {ds:List D} {d:D} (h:f ρ= .ok d) (h2:fs ρ= .ok ds):aa f fs ρ= .ok (d::ds):=by unfold aa;rw[h,ax,h2,ax]
theorem pA {f:ai->R (List D)} {ρ:ai} {ds:List D} (h:f ρ= .ok ds):fL f ρ= .ok (.lst ds):=by unfold fL;rw[h,ax]
theorem cR {N:List Str} {names:List (Str×NameKind)} {fi:ai->R (List D)} {g:D->ai->R ai} {gt:ai->R Bool} {fe:ai->R D} {ρ τ:ai} {ds es:List D} (h:fi ρ= .ok ds) (hl:ds.length<=lim) (hr:gn N names ρ=τ) (hc:eJ g gt fe ds τ= .ok es):
  bZ N names fi g gt fe ρ= .ok es:=by
 unfold bZ
 rw[h,ax,if_pos hl,hr,hc]
theorem own_of {i:Nat} {f:ai->R (List D)} {ρ:ai} {ds:List D} (h:f ρ= .ok ds):gq i f ρ= .ok (.nx (ρ.set i (some (.own (.lst ds))))):=by unfold gq;rw[h,ax]
theorem kZ {m:List D->R D} {n:Nat} {fs:ai->R (List D)} {ρ:ai} {ds:List D} {d:D} (h:fs ρ= .ok ds) (hl:ds.length=n) (hm:m ds= .ok d):aM m n fs ρ= .ok d:=vt h hl hm
theorem ef {g:D->D->Option D} {fa fb:ai->R D} {ρ:ai} {a b d:D} (h:fa ρ= .ok a) (h2:fb ρ= .ok b) (h3:g a b=some d):f2 g fa fb ρ= .ok d:=by unfold f2;rw[h,ax,h2,ax,h3,cN]
end L2.Pu
namespace L2.Pu
theorem vx (d:D):(Slot.val d).data=d:=rfl
theorem vy (d:D):(Slot.own d).data=d:=rfl
theorem vz (d:D):(Slot.bor d).data=d:=rfl
end L2.Pu
namespace L2.Pu
open PySem PySem.Spec PyProof.Rows
variable {ly:List eN}
noncomputable def gO:List (bn×D)->Option (List Int)
 |[]=>some []
 |(.inl i,_)::r=>(gO r).map (i::·)
 |(.inr _,_)::_=>none
noncomputable def fD:List D->Option D
 |[.lst ds]=>(cZ ds).bind fun ns=>if ns.length<64 then some (.lst ((dr ns).map .int))else none
 |[.dic kds]=>(gO kds).bind fun ns=>if ns.length<64 then some (.lst ((dr ns).map .int))else none
 |_=>none
theorem pB {K:PySem.W.Frag} {F:Hp}:∀{ds:List (bn×D)} {ns:List Int} {vs:List (bn×V)},gO ds=some ns->RepK K F vs ds->vs.map (·.1)=ns.map Sum.inl:=by
 intro ds
 induction ds with
 |nil=>intro ns vs h r;rw[r.nilI];cases h;rfl
 |cons d r ih=>
  intro ns vs h rr
  obtain⟨k,d⟩:=d
  obtain⟨v,us,rfl,_,t⟩:=rr.consI
  cases k with
  |inr i=>cases h
  |inl i=>
   replace h:(gO r).map (i::·)=some ns:=h
   cases e:gO r with
   |none=>rw[e]at h;cases h
   |some ms=>
    rw[e]at h
    cases h
    rw[List.map_cons,List.map_cons,ih e t]
noncomputable def ju (K:PySem.W.Frag):List V->Hp->VK->Prop:=fun xs H Q=>
 (∃p ns,xs=[.ref p]/\cT K H p (ns.map V.int)/\ns.length<64/\∀l,H l=none->Q (.ref l) (br H l (.lst ((dr ns).map V.int))))\/
 ∃p kvs ns,xs=[.ref p]/\H p=some (.dK kvs)/\kvs.map (·.1)=ns.map Sum.inl/\ns.length<64/\∀l,H l=none->Q (.ref l) (br H l (.lst ((dr ns).map V.int)))
theorem o9 {X:Cx} (hc:X.calm=true):cG X (.builtin "sorted") (ju X.K):=nR.or (nU hc)
theorem pC {K:PySem.W.Frag}:iY K (ju K) fD:=by
 intro vs ds d H F Q s rv h k
 match ds,h with
 |[.lst xs],h=>exact .inl (qU vs _ d H F Q s rv h k)
 |[.dic xs],h=>
  obtain⟨v,rfl,r⟩:=rv.one
  obtain⟨a,ws,rfl,h1,h2,_⟩:=r.dic s
  replace h:((gO xs).bind fun ns=>if ns.length<64 then some (D.lst ((dr ns).map .int))else none)=some d:=h
  cases e:gO xs with
  |none=>rw[e]at h;cases h
  |some ns=>
   rw[e]at h
   replace h:(if ns.length<64 then some (D.lst ((dr ns).map .int))else none)=some d:=h
   split at h
   ·rename_i hl
    cases h
    refine .inr ⟨a,ws,ns,rfl,h1,pB e h2,hl,fun l hl'=> ?_⟩
    have e:=bL.lay (o:= .lst ((dr ns).map V.int)) s hl'
    exact k _ _ _ e (.lst aA (eZ _))
   ·cases h
section
variable {X:Cx} {a b:Expr} {fs:ai->R (List D)} {pos p1 p2 pos2:Pos}
noncomputable def et (fs:ai->R (List D)):ai->R D:=fun ρ=>fs ρ>>=fun ds=>match ds with
 |[.int i, .int j]=>if i.natAbs<=lim/\j.natAbs<=lim then .ok (.lst ((dB i j).map .int))else .bad
 |_=> .bad
theorem pD (hc:X.calm=true) (hml:X.mg "list"=none) (hmr:X.mg "range"=none) (ha:tf ly X [a,b] fs) (hgl:Gl X "list":=by rfl) (hgr:Gl X "range":=by rfl)
  (he:starEach [a,b] X.env=(false,eval a X.env)::starEach [b] X.env:=by rfl) (hpl:(backTo pos2 (starEach [b] X.env)).any (·.1)=false:=by rfl)
  (he1:starEach [.Call (.Name "range" p2) [a,b] [] pos2] X.env=(false,eval (.Call (.Name "range" p2) [a,b] [] pos2) X.env)::starEach [] X.env:=by rfl) (hpl1:(backTo pos (starEach [] X.env)).any (·.1)=false:=by rfl):
  PQ ly X (.Call (.Name "list" p1) [.Call (.Name "range" p2) [a,b] [] pos2] [] pos) (et fs):=fun c=>
 PE.weak (iy (nT hc) hgl hml L2.Pu.dj (c_ (iy nS hgr hmr PyProof.Rows.boot_range (ha c) (by decide) (by decide) he hpl) fj he1) (by decide) (by decide) he1 hpl1) fun σ H Q ⟨F,ρ,ri,w⟩=>
  ⟨F,ρ,ri,(aK.bind.mp w).imp fun ds _ w1 vs H1 F1 e1 r1=>by
   split at w1
   ·rename_i i j _
    cases r1.int2
    ·split at w1
     ·rename_i hl
      refine⟨i,j,rfl,fun p hp=> ?_⟩
      have e2:=bL.layOwn (o:= .rng i j) e1.sub hp
      have hi:=lim_int20 hl.1
      have hj:=lim_int20 hl.2
      refine⟨p,i,j,rfl,aA,hi,hj,fun l hl'=> ?_⟩
      have e3:=bL.lay (o:= .lst ((dB i j).map V.int)) e2.sub hl'
      exact w1 _ _ _ ((e1.trans e2).trans e3) (.lst aA (eZ _))
     ·exact w1.elim
   ·exact w1.elim⟩
where
 lim_int20 {j:Int} (h:j.natAbs<=lim): -(2 ^20)<=j/\j<=2 ^20:=by
  unfold lim at h
  omega
end
end L2.Pu
namespace L2.Pu
open PySem PySem.Spec PyProof.Rows
variable {ly:List eN}
end L2.Pu
namespace L2.Pu
open PySem PySem.Spec PyProof.Rows
variable {ly:List eN}
section
variable {X:Cx} {a:Expr} {fa:ai->R D} {pos p1 p2 pos2:Pos}
end
section
variable {K:PySem.W.Frag}
noncomputable def gz:List D->Option (List (bn×D))
 |[]=>some []
 | .tup [k,v]::r=>(fu k).bind fun key=>(gz r).map fun ps=>(key,v)::ps
 |_::_=>none
noncomputable def vA:List D->Option D
 |[.lst ds]=>(gz ds).map fun ps=> .dic (fX [] ps)
 |[.tup ds]=>(gz ds).map fun ps=> .dic (fX [] ps)
 |_=>none
theorem tH {H F:Hp} (s:aQ F H):∀{ds:List D} {vs:List V} {ps:List (bn×D)},gz ds=some ps->Reps K F vs ds->∃kvs,fO H vs kvs/\RepK K F kvs ps:=by
 intro ds
 induction ds with
 |nil=>intro vs ps h r;cases r.nilI;cases h;exact⟨[], .nil, .nil⟩
 |cons d r ih=>
  intro vs ps h rr
  obtain⟨k,v,rfl⟩:∃k v,d= .tup [k,v]:=by
   cases d with
   |tup xs=>
    cases xs with
    |nil=>cases h
    |cons k xs=>
     cases xs with
     |nil=>cases h
     |cons v xs=>
      cases xs with
      |nil=>exact⟨k,v,rfl⟩
      |cons _ _=>cases h
   |_=>cases h
  obtain⟨v0,us,rfl,r1,t⟩:=rr.consI
  obtain⟨a0,xs,rfl,ha,r2⟩:=r1.tupI
  obtain⟨k1,us1,rfl,rk,t1⟩:=r2.consI
  obtain⟨v1,us2,rfl,rv,t2⟩:=t1.consI
  cases t2.nilI
  replace h:(fu k).bind (fun key=>(gz r).map fun ps=>(key,v)::ps)=some ps:=h
  cases hk:fu k with
  |none=>rw[hk]at h;cases h
  |some key=>
   rw[hk]at h
   replace h:(gz r).map (fun ps=>(key,v)::ps)=some ps:=h
   cases hr:gz r with
   |none=>rw[hr]at h;cases h
   |some qs=>
    rw[hr]at h
    cases h
    obtain⟨kvs,h1,h2⟩:=ih hr t
    cases gu (H:=H) hk (.inl rk)
    exact⟨_, .cons (s _ _ ha) h1, .cons rv h2⟩
theorem vB:iY K (fun xs H Q=>∃p ys ps,xs=[.ref p]/\(H p=some (.lst ys)\/H p=some (.tup ys))/\fO H ys ps/\∀l,H l=none->Q (.ref l) (br H l (.dK (gE [] ps)))) vA:=by
 intro vs ds d H F Q s rv h k
 have fin:∀{xs:List D} {ws:List V} {a:Addr},Reps K F ws xs->(gz xs).map (fun ps=>D.dic (fX [] ps))=some d->(H a=some (.lst ws)\/H a=some (.tup ws))->
   ∃p ys ps,[V.ref a]=[V.ref p]/\(H p=some (.lst ys)\/H p=some (.tup ys))/\fO H ys ps/\∀l,H l=none->Q (.ref l) (br H l (.dK (gE [] ps))):=by
  intro xs ws a h2 h h1
  cases e:gz xs with
  |none=>rw[e]at h;cases h
  |some ps=>
   rw[e]at h
   cases h
   obtain⟨kvs,g1,g2⟩:=tH s e h2
   refine⟨a,ws,kvs,rfl,h1,g1,fun l hl=> ?_⟩
   have e:=bL.lay (o:= .dK (gE [] kvs)) s hl
   obtain⟨m1,m2⟩:=RepK.merge (g2.mono e.grow) .nil List.nodup_nil
   exact k _ _ _ e (.dic aA m1 m2)
 match ds,h with
 |[.lst xs],h=>
  obtain⟨v,rfl,r⟩:=rv.one
  obtain⟨a,ws,rfl,h1,h2⟩:=r.lst s
  exact fin h2 h (.inl h1)
 |[.tup xs],h=>
  obtain⟨v,rfl,r⟩:=rv.one
  obtain⟨a,ws,rfl,h1,h2⟩:=r.tup s
  exact fin h2 h (.inr h1)
end
end L2.Pu
namespace L2.Pu
open PySem PySem.Spec PyProof.Rows
variable {ly:List eN}
structure lP (K:PySem.W.Frag) (x:Str) (C:Addr):Prop where
 ns:PySem.W.nsIn K mainGlobals x=some (some (.ref C))
 cl:sN K C
theorem RepF.nilI {K:PySem.W.Frag} {F:Hp} {vs:List (Str×V)} (h:RepF K F vs []):vs=[]:=by cases h;rfl
theorem RepF.consI {K:PySem.W.Frag} {F:Hp} {vs:List (Str×V)} {k:Str} {d:D} {ds:List (Str×D)} (h:RepF K F vs ((k,d)::ds)):∃v us,vs=(k,v)::us/\dq K F v d/\RepF K F us ds:=by
 cases h with
 |cons r t=>exact⟨_,_,rfl,r,t⟩
theorem RepF.get {K:PySem.W.Frag} {F:Hp} {f:Str} {d:D} {vs:List (Str×V)} {ds:List (Str×D)} (g:RepF K F vs ds):ds.lookup f=some d->∃v,(f,v)∈vs/\dq K F v d:=by
 induction ds generalizing vs with
 |nil=>intro h;cases h
 |cons p ds ih=>
  intro h
  obtain⟨v,us,e0,r,t⟩:=RepF.consI (k:=p.1) (d:=p.2) g
  subst e0
  rw[List.lookup_cons]at h
  cases e:f==p.1 with
  |true=>rw[e]at h;cases h;cases eq_of_beq e;exact⟨v,List.mem_cons_self,r⟩
  |false=>
   rw[e]at h
   obtain⟨v',h1,h2⟩:=ih t h
   exact⟨v',List.mem_cons_of_mem _ h1,h2⟩
theorem RepF.names {K:PySem.W.Frag} {F:Hp} {vs:List (Str×V)} {ds:List (Str×D)} (g:RepF K F vs ds):vs.map (·.1)=ds.map (·.1):=by
 induction ds generalizing vs with
 |nil=>rw[g.nilI];rfl
 |cons p ds ih=>
  obtain⟨v,us,e0,_,t⟩:=RepF.consI (k:=p.1) (d:=p.2) g
  rw[e0,List.map_cons,List.map_cons,ih t]
theorem ib {α:Type} {f:Str}:∀{ds:List (Str×α)},ds.lookup f=none->f∉ds.map (·.1)
 |[],_=>by simp
 |(k,v)::ds,h=>by
  rw[List.lookup_cons]at h
  cases e:f==k with
  |true=>rw[e]at h;cases h
  |false=>
   rw[e]at h
   rw[List.map_cons]
   intro z
   rcases List.mem_cons.mp z with z|z
   ·rw[z]at e;simp at e
   ·exact ib h z
theorem cy.ins {K:PySem.W.Frag} {H F:Hp} {v:V} {x:Str} {fds:List (Str×D)} (s:aQ F H):cy K H F v (.ins x fds)->∃a C dx fs vs,v= .ref a/\H a=some (.ins C dx fs)/\PySem.W.nsIn K mainGlobals x=some (some (.ref C))/\(∀p∈vs,fs.lookup p.1=some p.2)/\(∀f v,fs.lookup f=some v->f∈vs.map (·.1))/\RepF K F vs fds:=fun h=>by
 obtain⟨a,C,dx,fs,vs,e,h,r⟩:=h.in rfl
 exact⟨a,C,dx,fs,vs,e,s _ _ h,r⟩
section
variable {X:Cx} {a o e:Expr} {es:List Expr} {fa fo:ai->R D} {fs:ai->R (List D)} {pos apos p:Pos} {cls f m x:Str} {C:Addr}
noncomputable def fE (cls f:Str) (fa:ai->R D):ai->R D:=fun ρ=>fa ρ>>=fun d=>match d with
 | .ins y fds=>if y=cls then R.of (fds.lookup f)else .bad
 |_=> .bad
theorem Cf (T:lP X.K cls C) (n:eO X.K C f) (ha:PB ly X a fa) (hb:attributeBase a f X.env (eval a X.env)=eval a X.env:=by rfl):PQ ly X (.Attribute a f pos) (fE cls f fa):=fun c=>
 PE.weak (zN (ha c) hb) fun σ H Q ⟨F,ρ,ri,w⟩=>⟨F,ρ,ri,(aK.bind.mp w).imp fun d _ w1 v H1 F1 e1 r1=>by
  cases d with
  |ins y fds=>
   dsimp only at w1
   split at w1
   ·rename_i hy
    subst hy
    obtain⟨d',hd,k⟩:=w1.of
    obtain⟨a,C',dx,fs,vs,rfl,h1,h2,h3,h4,h5⟩:=r1.ins e1.sub
    have ec:C'=C:=by rw[T.ns]at h2;cases h2;rfl
    subst ec
    obtain⟨u,hu,ru⟩:=h5.get hd
    exact⟨a,C',dx,fs,u,rfl,h1,T.cl,n,h3 _ hu,k u H1 F1 e1 ru⟩
   ·exact w1.elim
  |_=>exact w1.elim⟩
structure eu (P:Program) (w:World) (K:PySem.W.Frag) (mg:Str->Option Value) (base:Heap) (k:Nat) (cls m:Str) (n:Nat) (r:List D->R D):Prop where
 ex:∃C f fd ps,eP P w K mg base (kM P w) k f fd ps (tj K n r)/\lP K cls C/\uB K C m f/\fq K fd ps []
noncomputable def du (cls m:Str) (n:Nat) (r:List D->R D) (fo:ai->R D) (fs:ai->R (List D)):ai->R D:=fun ρ=>fo ρ>>=fun d=>match d with
 | .ins y fds=>if y=cls/\fds.lookup m=none then (fs ρ>>=fun ds=>if ds.length+1=n then (match r (d::ds)with| .ok z=> .ok z| .err x _=> .err x ρ| .bad=> .bad)else .bad)else .bad
 |_=> .bad
theorem xS {c:d4 ly} {r:List D->R D} {n:Nat} {σ:St} {H:Hp} {Q:VK} (T:lP X.K cls C) (h:tQ X.K c (du cls m n r fo fs) σ H Q):yC C m (tj X.K n r) [] (Be X c) (tQ X.K c fo) (CL X.K c fs) σ H Q:=by
 obtain⟨F,ρ,ri,w⟩:=h
 refine⟨F,ρ,ri,(aK.bind.mp w).imp fun d hd w1 v H1 F1 e1 r1=> ?_⟩
 cases d with
 |ins y fds=>
  dsimp only at w1
  split at w1
  ·rename_i hy
   obtain⟨rfl,hm⟩:=hy
   obtain⟨a,C',dx,fs',vs,rfl,h1,h2,h3,h4,h5⟩:=cy.ins e1.sub (H:=H1) (.inl r1)
   have ec:C'=C:=by rw[T.ns]at h2;cases h2;rfl
   subst ec
   have hno:fs'.lookup m=none:=by
    cases e:fs'.lookup m with
    |none=>rfl
    |some v=>
     have:=h4 m v e
     rw[h5.names]at this
     exact absurd this (ib hm)
   refine⟨a,dx,fs',rfl,h1,hno,F1,ρ,ri.step e1,(aK.bind.mp w1).imp fun ds _ w2 us H2 F2 e2 r2=> ?_⟩
   show tj X.K n r (V.ref a::(us++[])) H2 Q (Be X c σ)
   rw[List.append_nil]
   split at w2
   ·rename_i hl
    refine⟨by rw[List.length_cons,r2.length];exact hl,F2,_,e2.sub, .cons (r1.mono e2.grow) r2,?_⟩
    split at w2
    ·rename_i z hz
     try rw[hz]
     exact fun v H' F' e' r'=>w2 v H' F' ((e1.trans e2).trans e') r'
    ·rename_i z _ hz
     try rw[hz]
     exact fun cls a H' F' ec e'=>⟨_,ρ,F',ec,ri.step ((e1.trans e2).trans e'),w2⟩
    ·exact w2.elim
   ·exact w2.elim
  ·exact w1.elim
 |_=>exact w1.elim
theorem kd {k n:Nat} {r:List D->R D} {pl:Sem Bool} (G:eu X.prog X.w X.K X.mg X.base k cls m n r) (hr:dh k X.A) (ho:PQ ly X o fo) (ha:tf ly X (e::es) fs)
  (hst:starEach (e::es) X.env=(false,eval e X.env)::starEach es X.env:=by rfl) (hpl:(backTo pos (starEach es X.env)).any (·.1)=false:=by rfl)
  (ht:eval (.Call (.Attribute o m apos) (e::es) [] pos) X.env=(do
   let ov<-eval o X.env
   standAt apos.atName
   let (f,first)<-holding [ov] (getMethod ov m pl)
   callWith pos f first (backTo pos (starEach (e::es) X.env)) (backToKw pos (keywordEach [] X.env))):=by rfl):
  PQ ly X (.Call (.Attribute o m apos) (e::es) [] pos) (du cls m n r fo fs):=by
 obtain⟨C,f,fd,ps,h1,h2,h3,h4⟩:=G.ex
 exact fun c=>PE.weak (wZ (pl:=pl) (ho c) h2.cl h3 h1 hr h4 .nil (v5 c) (ha c) hst hpl ht) fun σ H Q h=>xS h2 h
theorem aC.ghost {pins:List (Addr×Obj)} {σ:St} {H:Hp} {s:Shared} (I:aC X pins σ H s) {i:Nat} {g:Str} {v:Option V} (hi:X.N[i]? =some g) (hv:¬rG X.env.scope g):aC X pins (σ.set i v) H s:=by
 refine {I with loc:= ?_,len:=by rw[List.length_set];exact I.len}
 obtain⟨mm,h1,h2⟩:=I.loc
 refine⟨mm,h1,fun j x u e1 e2 e3=> ?_⟩
 by_cases z:i=j
 ·subst z
  rw[hi]at e1
  cases e1
  exact absurd e3 hv
 ·rw[ao z]at e2
  exact h2 j x u e1 e2 e3
noncomputable def Cg (K:PySem.W.Frag) (i:Nat) (ta tv:TE) (f:Str):TS:=fun D σ H=>tv σ H fun y H1=>ta σ H1 fun x H2=>∃a C dx fs,x= .ref a/\H2 a=some (.ins C dx fs)/\sN K C/\eO K C f/\fs.length<1000/\
 D.nx (σ.set i (some y)) (br H2 a (.ins C dx (fU f y fs)))
theorem xT {value:Expr} {pos':Pos} {ta tv:TE} {g:Str} (i:Nat) (hi:X.N[i]? =some g) (hvis:¬rG X.env.scope g) (ha:PE X o ta) (hv:PE X value tv) (hs:swapsWith value (some (.Attribute o f pos')) pos.line X.env=pure false):
  PS X (.Assign [.Attribute o f pos'] value pos) (Cg X.K i ta tv f):=by
 intro pins s σ H D I h
 refine plainObj_wpAny_Assign_Attribute (cb (hv pins s σ H _ I h) fun u s1 z=> ?_) hs
 obtain⟨y,H1,I1,ry,q⟩:=z
 refine cb (ha pins s1 σ H1 _ I1 q) fun ov s2 z=> ?_
 obtain⟨x,H2,I2,rx,a,C,dx,fs,ex,ea,c,n,l,q2⟩:=z
 subst ex
 obtain rfl:ov=Value.ref a:=rx
 exact qi I2 ea c n l ry fun s3 I3=>⟨_,_,L2.Pu.aC.ghost I3 hi hvis,q2⟩
theorem nj (f:Str) (v:V):∀fs:List (Str×V),(fU f v fs).map (·.1)=if f∈fs.map (·.1)then fs.map (·.1)else fs.map (·.1)++[f]
 |[]=>rfl
 |(g,x)::r=>by
  show (if g=f then (g,v)::r else (g,x)::fU f v r).map (·.1)=_
  by_cases e:g=f
  ·subst e;simp
  ·rw[if_neg e,List.map_cons,nj f v r]
   by_cases h:f∈r.map (·.1)
   ·rw[if_pos h,if_pos (by rw[List.map_cons];exact List.mem_cons_of_mem _ h)];rfl
   ·rw[if_neg h,if_neg (by rw[List.map_cons];intro z;exact(List.mem_cons.mp z).elim (fun q=>e q.symm) h)];rfl
theorem xU (f:Str) (v:V) {fs:List (Str×V)} (h:(fs.map (·.1)).Nodup):((fU f v fs).map (·.1)).Nodup:=by
 rw[nj]
 split
 ·exact h
 ·rename_i hf
  refine List.nodup_append.mpr ⟨h,by simp,fun a ha b hb=> ?_⟩
  rw[List.mem_singleton.mp hb]
  intro z;subst z;exact hf ha
theorem iP {α:Type} [DecidableEq α]:∀{l m:List α},l.Nodup->(∀x∈l,x∈m)->l.length<=m.length
 |[],_,_,_=>Nat.zero_le _
 |a::l,m,h,s=>by
  obtain⟨h1,h2⟩:=List.nodup_cons.mp h
  have ha:=s a List.mem_cons_self
  have:=iP (m:=m.erase a) h2 fun x hx=>(List.mem_erase_of_ne (fun z=>h1 (by rw[<-z];exact hx))).mpr (s x (List.mem_cons_of_mem _ hx))
  rw[List.length_erase_of_mem ha]at this
  have hp:0<m.length:=List.length_pos_of_mem ha
  rw[List.length_cons]
  omega
theorem lQ {α:Type} {f:Str}:∀{fs:List (Str×α)},f∈fs.map (·.1)->∃v,fs.lookup f=some v
 |(g,x)::r,h=>by
  rw[List.lookup_cons]
  cases e:f==g with
  |true=>exact⟨x,rfl⟩
  |false=>
   rw[List.map_cons]at h
   rcases List.mem_cons.mp h with z|z
   ·rw[z]at e;simp at e
   ·exact lQ z
theorem RI.fld {K:PySem.W.Frag} {c:d4 ly} {ρ:ai} {σ:St} {H F:Hp} (r:RI K c ρ σ H F) {L:eN} (hL:L∈ly) (hρ:ρ[L.x]? =some (some .obj)) {a dx:Addr} {fs:List (Str×V)} {i:Nat} (hx:σ[L.x]? =some (some (.ref a))) (ha:H a=some (.ins L.C dx fs)) (hf:(f,i)∈L.fl)
  (hn:∀p∈L.fl,p.1=f<->p.2=i) (hxi:L.x≠i) (hoth:∀M∈ly,M≠L->M.x≠i/\∀p∈M.fl,p.2≠i) {v:V} {d:D} (hd:dq K F v d) (hil:i<σ.length):
  RI K c (ρ.set i (some (.val d))) (σ.set i (some v)) (br H a (.ins L.C dx (fU f v fs))) F:=by
 obtain⟨b,dx',fs',k0,k1,k2,k3,k4,k5,k6,k7,k8,k9,k10⟩:=r.obj L hL hρ
 rw[hx]at k1
 cases k1
 rw[ha]at k2
 cases k2
 have hne:∀{b:Addr} {o:HO},H b=some o->hV K F o d->b≠a:=fun {b o} e q z=>by subst z;rw[ha]at e;cases e;cases q
 refine⟨⟨fun x y e=> ?_,fun x y e=> ?_,r.ext.grow,r.ext.new⟩,fun j e q=> ?_,fun j e q=> ?_,fun j e q=> ?_,r.bh,fun j k e e' x q1 q2 q3 q4=> ?_,by simp[r.len],fun M hM hq=> ?_,fun M hM M' hM' q01 q02 x q1 q2=> ?_,r.fm, .no fun j x vds g hs w=> ?_,fun M hM a h=> ?_⟩
 ·rw[aw (fun z=>by rw[z,k4]at e;cases e)];exact r.sub x y e
 ·rw[aw (fun z=>by rw[z,k6]at e;cases e)];exact r.ext.keep x y e
 ·rcases aI q with ⟨rfl,z,l⟩|⟨z,q⟩
  ·cases z;exact⟨v,iB hil,hd⟩
  ·rw[ao z];exact r.val j e q
 ·rcases aI q with ⟨rfl,z,l⟩|⟨z,q⟩
  ·cases z
  ·obtain⟨x,o,g1,g2,g3,g4,g5⟩:=r.own j e q
   have nx:x≠a:=fun z=>by subst z;rw[ha]at g2;cases g2;cases g5
   exact⟨x,o,by rw[ao z];exact g1,by rw[aw nx];exact g2,g3,g4,g5⟩
 ·rcases aI q with ⟨rfl,z,l⟩|⟨z,q⟩
  ·cases z
  ·rw[ao z];exact r.bor j e q
 ·rcases aI q1 with ⟨rfl,z,l⟩|⟨z,q1⟩
  ·cases z
  ·rcases aI q2 with ⟨rfl,z',l⟩|⟨z',q2⟩
   ·cases z'
   ·rw[ao z]at q3;rw[ao z']at q4
    exact r.dis j k e e' x q1 q2 q3 q4
 ·by_cases hML:M=L
  ·subst hML
   refine⟨a,dx,fU f v fs,k0,by rw[ao hxi.symm];exact hx,aA,?_,k4,k5,k6,k7,fun p hp=> ?_,fun g u hu=> ?_,xU _ _ k10⟩
   ·rw[aw (fun z=>by rw[z,ha]at k3;cases k3)];exact k3
   ·rw[fN]
    by_cases e:p.1=f
    ·rw[if_pos e,(hn p hp).mp e,iB hil];rfl
    ·rw[if_neg e,ao (fun z=>e ((hn p hp).mpr z.symm))];exact k8 p hp
   ·rw[fN]at hu
    by_cases e:g=f
    ·subst e;exact List.mem_map.mpr ⟨_,hf,rfl⟩
    ·rw[if_neg e]at hu;exact k9 g u hu
  ·have ho:=hoth M hM hML
   rw[ao ho.1.symm]at hq
   obtain⟨b,dy,gs,g0,g1,g2,g3,g4,g5,g6,g7,g8,g9⟩:=r.obj M hM hq
   have nb:b≠a:=fun z=>hML (r.odis M hM L hL hq hρ a (by rw[<-z];exact g1) hx)
   have nd:dy≠a:=fun z=>by subst z;rw[ha]at g3;cases g3
   refine⟨b,dy,gs,g0,by rw[ao ho.1.symm];exact g1,by rw[aw nb];exact g2,by rw[aw nd];exact g3,g4,g5,g6,g7,fun p hp=> ?_,g9⟩
   rw[ao (ho.2 p hp).symm];exact g8 p hp
 ·have hxs:∀M∈ly,M.x≠i:=fun M hM=>by
   by_cases hML:M=L
   ·subst hML;exact hxi
   ·exact(hoth M hM hML).1
  rw[ao (hxs M hM).symm]at q1 q01
  rw[ao (hxs M' hM').symm]at q2 q02
  exact r.odis M hM M' hM' q01 q02 x q1 q2
 ·rcases aI w with ⟨rfl,z,l⟩|⟨z,w⟩
  ·cases z
  ·have:=r.cel.one j L.x x vds g hs .obj w hρ rfl
   subst this
   rw[hρ]at w
   cases w
 ·have hxs:M.x≠i:=by
   by_cases hML:M=L
   ·subst hML;exact hxi
   ·exact(hoth M hM hML).1
  rw[ao hxs.symm];exact r.pin M hM a h
noncomputable def pE (x:Nat) (g:ai->R bY):ai->R bY:=fun ρ=>match ρ[x]? with
 |some (some .obj)=>g ρ
 |_=> .bad
theorem xV {c:d4 ly} {x:Nat} {g:ai->R bY} {ρ:ai} {P:bY->Prop} (w:aK c (pE x g ρ) P):ρ[x]? =some (some .obj)/\aK c (g ρ) P:=by
 unfold pE at w
 split at w
 ·rename_i h;exact⟨h,w⟩
 ·exact w.elim
structure zc (ly:List eN) (L:eN) (f:Str) (i:Nat):Prop where
 mem:L∈ly
 fl:(f,i)∈L.fl
 un:∀p∈L.fl,p.1=f<->p.2=i
 x:L.x≠i
 oth:∀M∈ly,M≠L->M.x≠i/\∀p∈M.fl,p.2≠i
 few:L.fl.length<1000
theorem og {value:Expr} {pos' px:Pos} {fv:ai->R D} {y g:Str} {L:eN} (i:Nat) (hC:sN X.K L.C) (n:eO X.K L.C f) (A:zc ly L f i) (hv:PQ ly X value fv) (hN:X.N[L.x]? =some y:=by rfl) (hvy:rG X.env.scope y:=by first|exact Or.inl rfl|exact Or.inr (Or.inl rfl)|exact Or.inr (Or.inr rfl)) (hd:(y==("__debug__":Str))=false:=by decide)
  (hcd:(y==("__classdict__":Str))=false:=by decide) (hi:X.N[i]? =some g:=by rfl) (hvis:¬rG X.env.scope g:=by decide+kernel) (hs:swapsWith value (some (.Attribute (.Name y px) f pos')) pos.line X.env=pure false:=by rfl):
  mw ly X (.Assign [.Attribute (.Name y px) f pos'] value pos) (pE L.x (aT fv (gN i))):=fun c pins s σ H D I q=>by
 refine xT i hi hvis (pv L.x hN hvy hd hcd) (hv c) hs pins s σ H D I ?_
 obtain⟨F,ρ,ri,w⟩:=q
 obtain⟨hρ,w⟩:=xV w
 refine⟨F,ρ,ri,(aK.bind.mp w).imp fun d _ w1 v H1 F1 e1 r1=> ?_⟩
 have ri1:=ri.step e1
 obtain⟨a,dx,fs,h0,h1,h2,h3,h4,h5,h6,h7,h8,h9,h10⟩:=ri1.obj L A.mem hρ
 have hil:i<σ.length:=by rw[I.len];exact(List.getElem?_eq_some_iff.mp hi).1
 have hlen:fs.length<1000:=by
  have:=iP (m:=L.fl.map (·.1)) h10 fun x hx=>by
   obtain⟨v,e⟩:=lQ hx
   exact h9 x v e
  rw[List.length_map,List.length_map]at this
  exact Nat.lt_of_le_of_lt this A.few
 refine⟨.ref a,h1,a,L.C,dx,fs,rfl,h2,hC,n,hlen,?_⟩
 exact w1 _ _ F1 e1.grow (ri1.fld A.mem hρ h1 h2 A.fl A.un A.x A.oth r1 hil)
end
end L2.Pu
namespace L2.Pu
open PySem PySem.Spec PyProof.Rows
variable {ly:List eN}
section
variable {X:Cx} {pos px:Pos} {f y:Str}
noncomputable def DR (x:Nat) (g:ai->R D):ai->R D:=fun ρ=>match ρ[x]? with
 |some (some .obj)=>g ρ
 |_=> .bad
end
noncomputable def d_:List (Str×Nat)->ai->Option (List (Str×D))
 |[],_=>some []
 |p::r,ρ=>match ρ[p.2]? with
  |some (some (.val d))=>(d_ r ρ).map fun t=>(p.1,d)::t
  |_=>none
noncomputable def i_ (n:Nat) (ds:List D):ai:=some Slot.obj::dC n ds
noncomputable def tJ (fl:List (Str×Nat)) (ρ:ai):R (List (Str×D)):=match ρ[0]? with
 |some (some Slot.obj)=>R.of (d_ fl ρ)
 |_=> .bad
noncomputable def jv (k n:Nat) (fl:List (Str×Nat)) (g:ai->R bY) (ds:List D):R (List (Str×D)):=if ds.length=k then g (i_ n ds)>>=fun o=>match o with
 | .nx ρ=>tJ fl ρ
 |_=> .bad else .bad
noncomputable def vC (K:PySem.W.Frag) (C:Addr) (cls:Str) (k:Nat) (mi:List D->R (List (Str×D))):Sp:=fun vs H Q E=>∃F x dx us ds Hz,vs= .ref x::us/\us.length=k/\aQ F Hz/\Hz x=none/\Hz dx=none/\dx≠x/\H=br (br Hz dx (.own x)) x (.ins C dx [])/\Reps K F us ds/\match mi ds with
 | .ok fds=>∀H' F',bL Hz F H' F'->dq K F' (.ref x) (.ins cls fds)->Q .non H'
 | .err z _=>∀ec a H' F',dW K z ec->bL Hz F H' F'->E ec a H'
 | .bad=>False
theorem lR {K:PySem.W.Frag} {c:d4 ly} {ρ:ai} {σ:St} {H F:Hp} (ri:RI K c ρ σ H F) {fs:List (Str×V)}:∀{fl:List (Str×Nat)} {fds:List (Str×D)},d_ fl ρ=some fds->(∀p∈fl,fs.lookup p.1=(σ[p.2]?).join)->
  ∃vs:List (Str×V),RepF K F vs fds/\vs.map (·.1)=fl.map (·.1)/\∀p∈vs,fs.lookup p.1=some p.2
 |[],fds,h,_=>by cases h;exact⟨[], .nil,rfl,fun p hp=>by cases hp⟩
 |p::fl,fds,h,hl=>by
  unfold d_ at h
  split at h
  ·rename_i d hd
   cases e:d_ fl ρ with
   |none=>rw[e]at h;cases h
   |some t=>
    rw[e]at h
    cases h
    obtain⟨vs,h1,h2,h3⟩:=lR ri e fun q hq=>hl q (List.mem_cons_of_mem _ hq)
    obtain⟨v,g1,g2⟩:=ri.val _ d hd
    refine⟨(p.1,v)::vs, .cons g2 h1,by rw[List.map_cons,List.map_cons,h2],fun q hq=> ?_⟩
    rcases List.mem_cons.mp hq with rfl|hq
    ·have:=hl p List.mem_cons_self
     rw[this,g1];rfl
    ·exact h3 q hq
  ·cases h
theorem tK {K:PySem.W.Frag} {N:List Str} {C x dx:Addr} {fl:List (Str×Nat)} {Hz F:Hp} {us:List V} {ds:List D} {Er:Str->ai->Prop} {n:Nat} (hn:N.length=n+1) (s:aQ F Hz) (hx:Hz x=none) (hdx:Hz dx=none) (hne:dx≠x) (r:Reps K F us ds) (hus:us.length<=n) (hg:∀p∈fl,us.length<p.2):
  RI K (⟨Hz,F,fun _=>none,Er,fun _=>some x,fun _=>none⟩:d4 [⟨0,C,fl⟩]) (i_ n ds) (eD N (.ref x::us)) (br (br Hz dx (.own x)) x (.ins C dx [])) F:=by
 have keep:aQ Hz (br (br Hz dx (.own x)) x (.ins C dx [])):=(bT hdx).trans (bT (by rw[aw (Ne.symm hne)];exact hx))
 have hv:∀(i:Nat) sl,(i_ n ds)[i]? =some (some sl)->(i=0/\sl= .obj)\/∃j d,i=j+1/\ds[j]? =some d/\sl= .val d:=fun i sl h=>by
  cases i with
  |zero=>exact .inl ⟨rfl,by cases h;rfl⟩
  |succ j=>
   have h':(dC n ds)[j]? =some (some sl):=h
   refine .inr ?_
   unfold dC at h'
   rw[List.getElem?_append]at h'
   split at h'
   ·rw[List.getElem?_map]at h'
    cases e:ds[j]? with
    |none=>rw[e]at h';cases h'
    |some d=>rw[e]at h';simp at h';exact⟨j,d,rfl,e,h'.symm⟩
   ·rw[List.getElem?_replicate]at h'
    split at h'<;>simp at h'
 have hs0:(eD N (V.ref x::us))[0]? =some (some (V.ref x)):=rfl
 refine⟨⟨s.trans keep,keep,aQ.refl _,fun _ h=> .inl h⟩,fun i d h=> ?_,fun i d h=> ?_,fun i d h=> ?_,(fun b o e=>by cases e),fun i j d d' a h=> ?_,?_,fun L hL _=> ?_,fun L hL L' hL' _ _ a _ _=> ?_,(fun _ _ e=>by cases e), .no fun i x vds f hs h=>(by obtain⟨_,z⟩|⟨j,d',_,_,z⟩:=hv i _ h<;>cases z),fun L hL a h=>by rw[List.mem_singleton.mp hL];cases h;exact hs0⟩
 ·obtain⟨rfl,z⟩|⟨j,d',rfl,e,z⟩:=hv i _ h
  ·cases z
  cases z
  obtain⟨v,h1,h2⟩:=r.get e
  refine⟨v,?_,h2⟩
  unfold eD
  have hl:j<us.length:=(List.getElem?_eq_some_iff.mp h1).1
  rw[List.getElem?_append_left (by simpa using hl),List.getElem?_map]
  show (us[j]?).map some=_
  rw[h1]
  rfl
 ·obtain⟨_,z⟩|⟨j,d',_,_,z⟩:=hv i _ h<;>cases z
 ·obtain⟨_,z⟩|⟨j,d',_,_,z⟩:=hv i _ h<;>cases z
 ·obtain⟨_,z⟩|⟨j,d',_,_,z⟩:=hv i _ h<;>cases z
 ·simp only[i_,dC,eD,List.length_cons,List.length_append,List.length_map,List.length_replicate,hn]
  have:=r.length
  omega
 ·rw[List.mem_singleton.mp hL]
  refine⟨x,dx,[],(fun b hb=>by cases hb;rfl),hs0,aA,?_,s.free hx,s.free hdx,hx,hdx,fun p hp=> ?_,(fun f v h=>by cases h),List.nodup_nil⟩
  ·rw[aw hne];exact aA
  ·have hp2:=hg p hp
   show none=_
   unfold eD
   rw[List.getElem?_append_right (by simp;omega),List.getElem?_replicate]
   split<;>rfl
 ·rw[List.mem_singleton.mp hL,List.mem_singleton.mp hL']
theorem xW {K:PySem.W.Frag} {C:Addr} {cls:Str} {fl:List (Str×Nat)} {c:d4 [⟨0,C,fl⟩]} {ρ:ai} {σ:St} {H F:Hp} {fds:List (Str×D)} {x:Addr} (ri:RI K c ρ σ H F) (hρ:ρ[0]? =some (some .obj)) (hoa:c.oa 0=some x) (hns:PySem.W.nsIn K mainGlobals cls=some (some (.ref C))) (h:d_ fl ρ=some fds):
  ∃F',bL c.H0 c.F0 H F'/\dq K F' (.ref x) (.ins cls fds):=by
 obtain⟨a,dx,fs,h0,h1,h2,h3,h4,h5,h6,h7,h8,h9,h10⟩:=ri.obj _ (List.mem_singleton.mpr rfl) hρ
 cases h0 x hoa
 obtain⟨vs,g1,g2,g3⟩:=lR ri h h8
 have hne:dx≠x:=fun z=>by rw[z,h2]at h3;cases h3
 have s1:aQ F (br F dx (.own x)):=bT h5
 have s2:aQ (br F dx (.own x)) (br (br F dx (.own x)) x (.ins C dx fs)):=bT (by rw[aw (Ne.symm hne)];exact h4)
 have sF:=s1.trans s2
 refine⟨br (br F dx (.own x)) x (.ins C dx fs),⟨fun b u e=> ?_,ri.ext.keep,ri.ext.grow.trans sF,fun b e=> ?_⟩, .ins aA (by rw[aw hne];exact aA) hns g3 (fun f v e=>by rw[g2];exact h9 f v e) (g1.mono sF)⟩
 ·by_cases z:b=x
  ·subst z;rw[aA]at e;rw[<-e];exact h2
  ·rw[aw z]at e
   by_cases z2:b=dx
   ·subst z2;rw[aA]at e;rw[<-e];exact h3
   ·rw[aw z2]at e;exact ri.sub b u e
 ·by_cases z:b=x
  ·subst z;exact .inr h6
  ·rw[aw z]at e
   by_cases z2:b=dx
   ·subst z2;exact .inr h7
   ·rw[aw z2]at e;exact ri.ext.new b e
theorem xX {P:Program} {w:World} {K:PySem.W.Frag} {mg:Str->Option Value} {base:Heap} {x qual cls:Str} {st:Stmt} {f C:Addr} {fd:FuncData} {N ps:List Str} {k n m:Nat} {fl:List (Str×Nat)} {g:ai->R bY} (F:uf K x qual st f fd) (S:aW N ps (ak st))
  (hns:PySem.W.nsIn K mainGlobals cls=some (some (.ref C))) (hn:ps.length=n+1) (hm:N.length=m+1) (hg:∀p∈fl,n<p.2) (hnm:n<=m)
  (hbody:∀(cdv:Value) (A:Around) (outer:List Env) (s:Shared) (H:Hp) (E:XK),dh k (A.deeper (envOfC qual (ak st) s.heap.objs.size f cdv))->
   jn [⟨0,C,fl⟩] (hG (kM P w) P w K mg base N qual (ak st) f cdv A outer s H E) (aR st) g):eP P w K mg base (kM P w) (k+1) f fd ps (vC K C cls n (jv n m fl g)):=by
 refine BV F S (fun vs H Q E h=> ?_) (fun cdv A outer s H vs Q E hr h=> ?_)
 ·obtain⟨Fz,y,dy,us,ds,Hz,rfl,hl,_⟩:=h
  rw[List.length_cons,hl,hn]
 ·obtain⟨Fz,y,dy,us,ds,Hz,rfl,hl,sub,hy,hdy,hne,rfl,r,w⟩:=h
  refine⟨_,hbody cdv A outer s _ E hr ⟨⟨Hz,Fz,fun _=>none,fun z _=>∀ec a H' F',dW K z ec->bL Hz Fz H' F'->E ec a H',fun _=>some y,fun _=>none⟩,va fun z ρ er ec a H' F' σ hc ri=>er ec a H' F' hc ri.ext⟩,?_⟩
  refine⟨Fz,i_ m ds,tK hm sub hy hdy hne r (by omega) (fun p hp=>by rw[hl];exact hg p hp),?_⟩
  have hd:ds.length=n:=by rw[<-r.length];exact hl
  unfold jv at w
  rw[if_pos hd]at w
  cases e:g (i_ m ds)with
  |bad=>rw[e]at w;exact w.elim
  |err c ρ=>rw[e]at w;exact w
  |ok o=>
   rw[e]at w
   cases o with
   |nx ρ=>
    intro σ' H' F' _ ri'
    rw[ax]at w
    split at w
    ·rename_i fds hf
     replace hf:tJ fl ρ= .ok fds:=hf
     unfold tJ at hf
     split at hf
     ·rename_i hρ
      cases e2:d_ fl ρ with
      |none=>rw[e2]at hf;cases hf
      |some gds=>
       rw[e2]at hf
       cases hf
       obtain⟨F2,x1,x2⟩:=xW ri' hρ rfl hns e2
       exact w H' F2 x1 x2
     ·cases hf
    ·rename_i z ρe hf
     replace hf:tJ fl ρ= .err z ρe:=hf
     unfold tJ at hf
     split at hf
     ·cases e2:d_ fl ρ<;>rw[e2]at hf<;>cases hf
     ·cases hf
    ·exact w.elim
   |_=>exact w.elim
structure ke (P:Program) (w:World) (K:PySem.W.Frag) (mg:Str->Option Value) (base:Heap) (k:Nat) (cls:Str) (n:Nat) (mi:List D->R (List (Str×D))):Prop where
 ex:∃C f fd ps,eP P w K mg base (kM P w) k f fd ps (vC K C cls n mi)/\mg cls=some (.ref C)/\Mk K C f/\fq K fd ps []
section
variable {X:Cx} {e:Expr} {es:List Expr} {fs:ai->R (List D)} {cls:Str} {p pos:Pos}
noncomputable def jw (cls:Str) (n:Nat) (mi:List D->R (List (Str×D))) (fs:ai->R (List D)):ai->R D:=fun ρ=>fs ρ>>=fun ds=>if ds.length=n then (match mi ds with| .ok fds=> .ok (.ins cls fds)| .err x _=> .err x ρ| .bad=> .bad)else .bad
theorem lS {k n:Nat} {mi:List D->R (List (Str×D))} (G:ke X.prog X.w X.K X.mg X.base k cls n mi) (hr:dh (k+1) X.A) (ha:tf ly X (e::es) fs) (hg:Gl X cls:=by rfl) (hdb:(cls==("__debug__":Str))=false:=by decide)
  (he:starEach (e::es) X.env=(false,eval e X.env)::starEach es X.env:=by rfl) (hpl:(backTo pos (starEach es X.env)).any (·.1)=false:=by rfl):PQ ly X (.Call (.Name cls p) (e::es) [] pos) (jw cls n mi fs):=by
 obtain⟨C,f,fd,ps,h1,h2,h3,h4⟩:=G.ex
 refine fun c=>PE.weak (w_ h3 h1 hr hg h2 h4 .nil (v5 c) (ha c) hdb he hpl) fun σ H Q ⟨F,ρ,ri,w⟩=>⟨F,ρ,ri,(aK.bind.mp w).imp fun ds _ w1 vs H1 F1 e1 r1 x dx hx hdx hne=> ?_⟩
 rw[List.append_nil]
 split at w1
 ·rename_i hl
  refine⟨F1,x,dx,vs,ds,H1,rfl,by rw[r1.length];exact hl,e1.sub,hx,hdx,hne,rfl,r1,?_⟩
  split at w1
  ·rename_i fds hm
   exact fun H' F' e' r'=>⟨rfl,w1 _ H' F' (e1.trans e') r'⟩
  ·exact fun ec a H' F' hc e'=>⟨_,ρ,F',hc,ri.step (e1.trans e'),w1⟩
  ·exact w1.elim
 ·exact w1.elim
end
end L2.Pu
namespace L2.Pu
open PySem PySem.Spec PyProof.Rows
variable {ly:List eN}
section
variable {X:Cx} {e:Expr} {es:List Expr} {fs:ai->R (List D)} {x:Str} {np cpos pos:Pos}
structure lT (K:PySem.W.Frag) (mg:Str->Option Value) (x:Str):Prop where
 ex:∃C,PySem.W.nsIn K mainGlobals x=some (some (.ref C))/\mg x=some (.ref C)/\mC K C
noncomputable def j0 (x:Str) (fs:ai->R (List D)):ai->R bY:=fun ρ=>fs ρ>>=fun ds=>if ds.length<=lim then .err x ρ else .bad
theorem vD {c:iK ly X} {C:Addr} {σ:St} {H:Hp} {D:ja} {ρ:ai} {F:Hp} (hns:PySem.W.nsIn X.K mainGlobals x=some (some (.ref C)))
  (thr:∀pins σ ρ H F s a cls x,aC X pins σ H s->RI X.K c.1 ρ σ H F->Fl X pins H s.heap a cls->dW X.K x cls->c.1.Er x ρ->X.xe (.ref a) s)
  (ri:RI X.K c.1 ρ σ H F) (w:aK c.1 (j0 x fs ρ) (eI X.K c.1 F D)):uZ X C (CL X.K c.1 fs) D σ H:=by
 refine⟨F,ρ,ri,(aK.bind.mp w).imp fun ds _ w1 vs H1 F1 e1 r1=> ?_⟩
 split at w1
 ·rename_i hl
  exact⟨Nat.le_trans (by rw[r1.length];exact hl) eh,fun pins s a I fl=>thr pins σ ρ H1 F1 s a _ x I (ri.step e1) fl ⟨C,rfl,hns⟩ w1⟩
 ·exact w1.elim
theorem vE {c:d4 ly} {ρ:ai} {F:Hp} {D:ja} (no:∀x ρ,¬c.Er x ρ) (w:aK c (j0 x fs ρ) (eI X.K c F D)):False:=by
 unfold j0 at w
 cases h:fs ρ with
 |bad=>rw[h]at w;exact w
 |err y ρ'=>rw[h]at w;exact no _ _ w
 |ok ds=>
  rw[h,ax]at w
  split at w
  ·exact no _ _ w
  ·exact w
theorem oh (k:lT X.K X.mg x) (hc:X.calm=true) (ha:tf ly X (e::es) fs) (hg:Gl X x:=by rfl) (hdb:(x==("__debug__":Str))=false:=by decide)
  (he:starEach (e::es) X.env=(false,eval e X.env)::starEach es X.env:=by rfl) (hpl:(backTo cpos (starEach es X.env)).any (·.1)=false:=by rfl) (hst:X.stack=X.env::X.outer:=by rfl):mw ly X (.Raise (some (.Call (.Name x np) (e::es) [] cpos)) none pos) (j0 x fs):=by
 obtain⟨C,h1,h2,h3⟩:=k.ex
 intro c pins s σ H D I q
 obtain⟨F,ρ,ri,w⟩:=q
 rcases c.2.plain hst with ⟨hp,thr⟩|no
 ·exact u_ h3 h2 hp hc (ha c) hg hdb he hpl pins s σ H D I (vD h1 thr ri w)
 ·exact(vE (X:=X) no w).elim
end
noncomputable def Ch (i:Nat):bY->bY
 | .nx ρ=> .nx (ρ.set i none)
 | .brk ρ=> .brk (ρ.set i none)
 | .cnt ρ=> .cnt (ρ.set i none)
 | .ret d=> .ret d
 | .retc d ρ=> .retc d (ρ.set i none)
noncomputable def sj (i:Nat) (sub:Str->Bool) (gh:ai->R bY) (x:Str) (ρ:ai):R bY:=if sub x=true then (match gh (ρ.set i (some (.val (.exc x))))with
 | .ok o=> .ok (Ch i o)
 |_=> .bad)else .bad
noncomputable def qZ (i:Nat) (sub:Str->Bool) (g gh:ai->R bY):ai->R bY:=fun ρ=>match g ρ with
 | .err x ρ'=>sj i sub gh x ρ'
 |r=>r
section
variable {X:Cx} {pins:List (Addr×Obj)} {σ:St} {H:Hp} {s:Shared}
noncomputable abbrev _root_.L2.Cx.inT (X:Cx) (E:Value->Shared->Prop) (pn:List (Addr×Obj)):Cx:={X with xe:=E,pn:=pn}
theorem Ed {E:Value->Shared->Prop} {pn:List (Addr×Obj)} (ok:X.Ok):(X.inT E pn).Ok:=
 ⟨ok.mod,ok.kind,ok.glob,ok.blt,ok.above,ok.inj,ok.has,ok.cab,ok.hd,ok.frames,ok.stk,ok.exf,ok.bs,ok.bsz,ok.noex,ok.exfs,ok.funs,ok.frf⟩
theorem inT {E:Value->Shared->Prop} (I:aC X pins σ H s):aC (X.inT E (X.pn++pins)) [] σ H s:=⟨Ed I.ok,I.os,I.bare,I.base,I.loc,I.cell,I.free,I.freeC,fun p hp=>I.pin p (by simpa using hp),I.hok,I.len⟩
theorem vF {E:Value->Shared->Prop} {pins':List (Addr×Obj)} (ok:X.Ok) (I:aC (X.inT E (X.pn++pins)) pins' σ H s):aC X pins σ H s:=⟨ok,I.os,I.bare,I.base,I.loc,I.cell,I.free,I.freeC,fun p hp=>I.pin p (List.mem_append_left _ hp),I.hok,I.len⟩
theorem newT {E:Value->Shared->Prop} {pins':List (Addr×Obj)} {b:Addr} (n:qa (X.inT E (X.pn++pins)) pins' H b):qa X pins H b:=⟨n.s0,n.no,fun p hp=>n.pin p (List.mem_append_left _ hp)⟩
theorem Ee {E:Value->Shared->Prop} {pins':List (Addr×Obj)} {h:Heap} {a:Addr} {cls:Value} (f:Fl (X.inT E (X.pn++pins)) pins' H h a cls):Fl X pins H h a cls:=by
 obtain⟨oe,vs,h1,h2,h3,h4⟩:=f.at_
 refine⟨newT f.new,oe,vs,h1,h2,h3,h4.imp id fun ⟨T,fl,e,t,hf⟩=>⟨T,fl,e,⟨newT t.new,t.ne,t.at_⟩,hf⟩⟩
theorem Ef {E:Value->Shared->Prop} {D:ja} {f:Flow} (ok:X.Ok) (h:SP (X.inT E (X.pn++pins)) [] D f s):SP X pins D f s:=by
 cases f with
 |next=>obtain⟨σ',H',I,q⟩:=h;exact⟨σ',H',vF ok I,q⟩
 |brk=>obtain⟨σ',H',I,q⟩:=h;exact⟨σ',H',vF ok I,q⟩
 |cont=>obtain⟨σ',H',I,q⟩:=h;exact⟨σ',H',vF ok I,q⟩
 |ret u=>obtain⟨v,σ',H',I,r,q⟩:=h;exact⟨v,σ',H',vF ok I,r,q⟩
end
section
variable {K:PySem.W.Frag} {c:d4 ly} {ρ:ai} {σ:St} {H F:Hp}
noncomputable def d4.er (c:d4 ly) (F:Hp) (Er:Str->ai->Prop):d4 ly:=⟨c.H0,c.F0,c.B,Er,c.oa,F⟩
theorem RI.er {Er:Str->ai->Prop} (r:RI K c ρ σ H F):RI K (c.er F Er) ρ σ H F:=⟨r.ext,r.val,r.own,r.bor,r.bh,r.dis,r.len,r.obj,r.odis,aQ.refl _,r.cel,r.pin⟩
theorem RI.unEr {F1:Hp} {Er:Str->ai->Prop} (r:RI K (c.er F1 Er) ρ σ H F) (m:aQ c.Fm F1):RI K c ρ σ H F:=⟨r.ext,r.val,r.own,r.bor,r.bh,r.dis,r.len,r.obj,r.odis,m.trans r.fm,r.cel,r.pin⟩
theorem eI.er {D:ja} {o:bY} {F1:Hp} {Er:Str->ai->Prop} (m:aQ c.Fm F1) (h:eI K c F D o):eI K (c.er F1 Er) F D o:=by
 cases o with
 |nx ρ=>exact fun σ' H' F' s r=>h σ' H' F' s (r.unEr m)
 |brk ρ=>exact fun σ' H' F' s r=>h σ' H' F' s (r.unEr m)
 |cnt ρ=>exact fun σ' H' F' s r=>h σ' H' F' s (r.unEr m)
 |ret d=>exact fun v H' F' s e r=>h v H' F' s e r
 |retc d ρ=>exact fun v σ' H' F' s e r=>h v σ' H' F' s (e.unEr m) r
end
section
variable {X:Cx} {body suite:List Stmt} {b₀:Stmt} {g gh:ai->R bY} {cx n:Str} {np hpos pos:Pos} {sub:Str->Bool}
structure sk (K:PySem.W.Frag) (mg:Str->Option Value) (cx:Str) (sub:Str->Bool):Prop where
 ex:∃C,mg cx=some (.ref C)/\∀x cls,sub x=true->dW K x cls->PySem.W.exmOne K cls (.ref C)=some true
theorem Ci (i:Nat) (p:dU X) (hN:X.N.Nodup) (U:sk X.K X.mg cx sub) (hb:∀E pn,jn ly (X.inT E pn) body g) (hh:∀v,jn ly (X.inH v) (b₀::suite) gh) (hi:X.N[i]? =some n:=by rfl) (hk:X.env.scope.names.lookup n=some .local:=by rfl) (hg:Gl X cx:=by rfl)
  (hdb:(cx==("__debug__":Str))=false:=by decide) (hfr:jY ly i:=by(repeat (first|assumption|exact L2.Pu.eF|refine L2.Pu.free_cons ⟨by first|decide|simp,by first|decide|simp⟩ ?_))):mw ly X (.Try body [.ExceptHandler (some (.Name cx np)) (some n) (b₀::suite) hpos] [] [] pos) (qZ i sub g gh):=by
 obtain⟨Cc,hm,hsub⟩:=U.ex
 intro c pins s σ H D I q
 obtain⟨F,ρ,ri,w⟩:=q
 refine wpAny_Try_except ?_
 have ok:=I.ok
 let xe':Value->Shared->Prop:=fun e s₁=>wpAny (model X.prog X.w) X.A (noteFrame e X.env) (fun _ s₂=>wpAny (model X.prog X.w) X.A (setFlight e none) (fun _ s₃=>wpAny (model X.prog X.w) X.A (handleBy e X.env [.ExceptHandler (some (.Name cx np)) (some n) (b₀::suite) hpos]) (SP X pins D) X.xe s₃) X.xe s₂) X.xe s₁
 let c':d4 ly:=c.1.er F fun x ρ'=>aK c.1 (sj i sub gh x ρ') (eI X.K c.1 F D)
 have thr:Aj (X.inT xe' (X.pn++pins)) c':=by
  refine .inl ⟨⟨p.st,p.fr,p.ex⟩,fun pins' σ' ρ' H' F' s' a cls x I' ri' fl ec er=> ?_⟩
  obtain⟨C,rfl,hns⟩:=ec
  have ri0:RI X.K c.1 ρ' σ' H' F':=ri'.unEr ri.fm
  have sF:aQ F F':=ri'.fm
  refine p6 (vF ok I') p (Ee fl) fun h2 I2 f2=> ?_
  replace er:aK c.1 (sj i sub gh x ρ') (eI X.K c.1 F D):=er
  unfold sj at er
  split at er
  ·rename_i hs
   refine t8 I2 p f2 hN hi hk hg hm (hsub x _ hs ⟨C,rfl,hns⟩) hdb fun s3 I3=> ?_
   have e2:=bL.lay (o:= .ext (gl a (.ref C))) ri0.sub f2.new.no
   have ri3:=(ri0.step e2).setVal i hfr (dq.exc aA hns)
   split at er
   ·rename_i o ho
    let D2:ja:={nx:=fun σ1 H1=>D.nx (σ1.set i none) H1,rt:=D.rt,bk:=fun σ1 H1=>D.bk (σ1.set i none) H1,ct:=fun σ1 H1=>D.ct (σ1.set i none) H1}
    have want:eI X.K (c.1.er F fun _ _=>False) (br F' a (.ext (gl a (.ref C)))) D2 o:=by
     have sFF:=sF.trans e2.grow
     cases o with
     |nx ρ1=>exact fun σ1 H1 F1 s1 r1=>er _ H1 F1 (sFF.trans s1) ((r1.unEr ri.fm).setNone i hfr)
     |brk ρ1=>exact fun σ1 H1 F1 s1 r1=>er _ H1 F1 (sFF.trans s1) ((r1.unEr ri.fm).setNone i hfr)
     |cnt ρ1=>exact fun σ1 H1 F1 s1 r1=>er _ H1 F1 (sFF.trans s1) ((r1.unEr ri.fm).setNone i hfr)
     |ret d=>exact fun v H1 F1 s1 e1 r1=>er v H1 F1 (sFF.trans s1) e1 r1
     |retc d ρ1=>exact fun v σ1 H1 F1 s1 e1 r1=>er v _ H1 F1 (sFF.trans s1) ((e1.unEr ri.fm).setNone i (v:=none) hfr) r1
    have ri4:RI X.K (c.1.er F fun _ _=>False) (ρ'.set i (some (.val (.exc x)))) (σ'.set i (some (.ref a))) (br H' a (.ext (gl a (.ref C)))) (br F' a (.ext (gl a (.ref C)))):=⟨ri3.ext,ri3.val,ri3.own,ri3.bor,ri3.bh,ri3.dis,ri3.len,ri3.obj,ri3.odis,sF.trans e2.grow,ri3.cel,ri3.pin⟩
    refine cb (hh (.ref a) ⟨c.1.er F fun _ _=>False, .no fun _ _ z=>z⟩ pins s3 _ _ D2 I3 ⟨_,_,ri4,by rw[ho];exact want⟩) fun f s4 q4=> ?_
    have gone:∀{σ1 H1},aC (X.inH (.ref a)) pins σ1 H1 s4->(∀s5,aC X pins (σ1.set i none) H1 s5->SP X pins D f s5)->wpAny (model X.prog X.w) X.A (do bindName X.env n Value.none;unbindBehindTheSuite X.env n hpos) (fun _ s5=>SP X pins D f s5) X.xe s4:=fun I4 kk=>t6 (I4.outH ok) hN hi hk kk
    cases f with
    |next=>obtain⟨σ1,H1,I4,q5⟩:=q4;exact gone I4 fun s5 I5=>⟨_,H1,I5,q5⟩
    |brk=>obtain⟨σ1,H1,I4,q5⟩:=q4;exact gone I4 fun s5 I5=>⟨_,H1,I5,q5⟩
    |cont=>obtain⟨σ1,H1,I4,q5⟩:=q4;exact gone I4 fun s5 I5=>⟨_,H1,I5,q5⟩
    |ret u=>obtain⟨v,σ1,H1,I4,r,q5⟩:=q4;exact gone I4 fun s5 I5=>⟨v,_,H1,I5,r,q5⟩
   ·exact er.elim
  ·exact er.elim
 have wb:aK c' (g ρ) (eI X.K c' F D):=by
  unfold qZ at w
  cases h:g ρ with
  |bad=>rw[h]at w;exact w
  |err x ρ'=>rw[h]at w;exact w
  |ok o=>rw[h]at w;exact eI.er ri.fm w
 refine cb (hb xe' (X.pn++pins) ⟨c',thr⟩ [] s σ H D (inT I) ⟨F,ρ,ri.er,wb⟩) fun f s1 q1=> ?_
 have q2:=Ef ok q1
 cases f with
 |next=>exact wpAny_execs_nil q2
 |brk=>exact q2
 |cont=>exact q2
 |ret u=>exact q2
end
section
variable {X:Cx} {a:Expr} {fa:ai->R D} {x:Str} {p p2 pos:Pos} {tb:Str->Option Bool}
structure sm (K:PySem.W.Frag) (v:Value) (tb:Str->Option Bool):Prop where
 ok:∀x b cls,tb x=some b->dW K x cls->PySem.W.kitOne K cls v=some b/\∃C,cls= .ref C/\mC K C
noncomputable def tL (tb:Str->Option Bool) (f:ai->R D):ai->R D:=fun ρ=>f ρ>>=fun d=>match d with
 | .exc x=>R.of ((tb x).map .bl)
 |_=> .bad
noncomputable def Cj (K:PySem.W.Frag):List V->Hp->VK->Prop:=fun xs H Q=>∃a C v c b,xs=[.ref a,v]/\H a=some (.ext (gl a (.ref C)))/\mC K C/\((∃T,v= .ty T/\c= .type T)\/∃C2,v= .ref C2/\c= .ref C2)/\PySem.W.kitOne K (.ref C) c=some b/\Q (.bl b) H
theorem vG:cG X (.builtin "isinstance") (Cj X.K):=by
 intro pins s σ H xs us Q I rv h
 obtain⟨a,C,v,c,b,rfl,ea,k,hc,e,q⟩:=h
 obtain⟨u,w',rfl,ru,rw'⟩:=oN rv
 cases (show u=Value.ref a from ru)
 obtain⟨⟨o,g1,g2⟩,_⟩:=(show bK X.prog X.w H s.heap a (.ext (gl a (.ref C)))from I.hok a _ ea)
 have ew:w'=c:=by
  rcases hc with ⟨T,rfl,rfl⟩|⟨C2,rfl,rfl⟩
  ·exact rw'
  ·exact rw'
 subst ew
 exact PySem.W.kia_one (uY k) I.kIn ⟨o,g1,g2⟩ e (fun z=>nomatch z) fun tk=>⟨.bl b,H,I.tok tk,rfl,q⟩
theorem cy.exc {K:PySem.W.Frag} {H F:Hp} {v:V} {x:Str} (s:aQ F H):cy K H F v (.exc x)->∃a C,v= .ref a/\H a=some (.ext (gl a (.ref C)))/\PySem.W.nsIn K mainGlobals x=some (some (.ref C)):=fun h=>by
 obtain⟨a,C,e,h,n⟩:=h.in rfl
 exact⟨a,C,e,s _ _ h,n⟩
theorem AL {K:PySem.W.Frag} {c:d4 ly} {tv:V} {cv:Value} {σ:St} {H:Hp} {Q:VK} (T:sm K cv tb) (hv:(∃T,tv= .ty T/\cv= .type T)\/∃C2,tv= .ref C2/\cv= .ref C2) (h:tQ K c (tL tb fa) σ H Q):
  tB' K c fa σ H fun v H1=>Cj K [v,tv] H1 Q:=by
 obtain⟨F,ρ,ri,w⟩:=h
 refine⟨F,ρ,ri,(aK.bind.mp w).imp fun d _ w1 v H1 F1 e1 r1=> ?_⟩
 cases d with
 |exc x=>
  obtain⟨d',hd,k⟩:=w1.of
  cases ht:tb x with
  |none=>rw[ht]at hd;cases hd
  |some b=>
   rw[ht]at hd
   cases hd
   obtain⟨a,C,rfl,h1,h2⟩:=r1.exc e1.sub
   obtain⟨g1,C',g2,g3⟩:=T.ok x b (.ref C) ht ⟨C,rfl,h2⟩
   cases g2
   exact⟨a,C,tv,cv,b,rfl,h1,g3,hv,g1,k _ H1 F1 e1 (.bl b)⟩
 |_=>exact w1.elim
theorem Ck {C2:Addr} (T:sm X.K (.ref C2) tb) (hm:X.mg x=some (.ref C2)) (hm1:X.mg "isinstance"=none) (ha:PB ly X a fa) (hg1:Gl X "isinstance":=by rfl) (hg:Gl X x:=by rfl) (hdb:(x==("__debug__":Str))=false:=by decide)
  (he:starEach [a, .Name x p2] X.env=(false,eval a X.env)::starEach [.Name x p2] X.env:=by rfl) (he2:starEach [.Name x p2] X.env=(false,eval (.Name x p2) X.env)::starEach [] X.env:=by rfl) (hpl:(backTo pos (starEach [.Name x p2] X.env)).any (·.1)=false:=by rfl):
  PQ ly X (.Call (.Name "isinstance" p) [a, .Name x p2] [] pos) (tL tb fa):=fun c=>
 PE.weak (jd vG hg1 hm1 oW (c_ (ha c) (c_ (wI hg hm (v:= .ref C2) rfl hdb) fj he2) he) (by decide) (by decide) he hpl) fun σ H Q h=>AL T (.inr ⟨C2,rfl,rfl⟩) h
end
end L2.Pu
namespace L2.Pu
open PySem PySem.Spec PyProof.Rows
variable {ly:List eN}
noncomputable def mG:D->Option Int
 | .tup (.int k::_)=>some k
 |_=>none
noncomputable def eA (d:D):Int:=(mG d).getD 0
noncomputable def dk:List D->Option (List Int)
 |[]=>some []
 |d::r=>(mG d).bind fun k=>(dk r).map (k::·)
noncomputable def q_ (d:D):List D->List D
 |[]=>[d]
 |e::r=>if eA d<=eA e then d::e::r else e::q_ d r
noncomputable def iQ:List D->List D
 |[]=>[]
 |d::r=>q_ d (iQ r)
theorem kf (d:D):∀l:List D,(q_ d l).Perm (d::l)
 |[]=> .refl _
 |e::r=>by
  unfold q_
  split
  ·exact .refl _
  ·exact((kf d r).cons e).trans (.swap d e r)
theorem lU:∀l:List D,(iQ l).Perm l
 |[]=> .refl _
 |d::r=>(kf d _).trans ((lU r).cons d)
theorem kz (d:D):∀{l:List D},l.Pairwise (fun a b=>eA a<=eA b)->(q_ d l).Pairwise (fun a b=>eA a<=eA b)
 |[],_=>by simp[q_]
 |e::r,h=>by
  obtain⟨h1,h2⟩:=List.pairwise_cons.mp h
  unfold q_
  split
  ·rename_i hd
   refine List.pairwise_cons.mpr ⟨fun x hx=> ?_,h⟩
   rcases List.mem_cons.mp hx with rfl|hx
   ·exact hd
   ·exact Int.le_trans hd (h1 x hx)
  ·rename_i hd
   refine List.pairwise_cons.mpr ⟨fun x hx=> ?_,kz d h2⟩
   rcases List.mem_cons.mp ((kf d r).mem_iff.mp hx)with rfl|hx
   ·omega
   ·exact h1 x hx
theorem jx:∀l:List D,(iQ l).Pairwise (fun a b=>eA a<=eA b)
 |[]=> .nil
 |d::r=>kz d (jx r)
theorem kA:∀{l m:List D},l.Perm m->l.Pairwise (fun a b=>eA a<eA b)->m.Pairwise (fun a b=>eA a<eA b)->l=m
 |[],m,p,_,_=>(List.Perm.nil_eq p)
 |a::l,[],p,_,_=>absurd p.length_eq (by simp)
 |a::l,b::m,p,h1,h2=>by
  obtain⟨g1,g2⟩:=List.pairwise_cons.mp h1
  obtain⟨k1,k2⟩:=List.pairwise_cons.mp h2
  have e:a=b:=by
   have ha:a∈b::m:=p.mem_iff.mp List.mem_cons_self
   have hb:b∈a::l:=p.mem_iff.mpr List.mem_cons_self
   rcases List.mem_cons.mp ha with z|ha
   ·exact z
   ·rcases List.mem_cons.mp hb with z|hb
    ·exact z.symm
    ·have:=g1 b hb
     have:=k1 a ha
     omega
  subst e
  rw[kA (p.cons_inv) g2 k2]
theorem tM {l:List D} (h:l.Pairwise (fun a b=>eA a<=eA b)) (nd:(l.map eA).Nodup):l.Pairwise (fun a b=>eA a<eA b):=by
 have:=List.pairwise_map.mp nd
 exact(h.and this).imp fun {x y} ⟨a,b⟩=>by omega
theorem pF {l m:List D} (p:l.Perm m) (h:m.Pairwise (fun a b=>eA a<eA b)):iQ l=m:=by
 have q:=(lU l).trans p
 refine kA q (tM (jx l) ?_) h
 refine(q.map eA).nodup_iff.mpr (List.pairwise_map.mpr (h.imp fun z=>Int.ne_of_lt z))
theorem kB:∀{ds:List D} {ks:List Int},dk ds=some ks->ks=ds.map eA
 |[],ks,h=>by cases h;rfl
 |d::r,ks,h=>by
  replace h:((mG d).bind fun k=>(dk r).map (k::·))=some ks:=h
  cases e:mG d with
  |none=>rw[e]at h;cases h
  |some k=>
   rw[e]at h
   cases e2:dk r with
   |none=>rw[e2]at h;cases h
   |some q=>
    rw[e2]at h
    cases h
    rw[List.map_cons,<-kB e2]
    simp[eA,e]
theorem xY {K:PySem.W.Frag} {H F:Hp} (s:aQ F H):∀{ds:List D} {ks:List Int} {vs:List V},dk ds=some ks->Reps K F vs ds->gH H vs ks:=by
 intro ds
 induction ds with
 |nil=>intro ks vs h r;cases r.nilI;cases h;exact .nil
 |cons d r ih=>
  intro ks vs h rr
  replace h:((mG d).bind fun k=>(dk r).map (k::·))=some ks:=h
  obtain⟨v0,us,rfl,rv,t⟩:=rr.consI
  obtain⟨k,ds,rfl⟩:∃k ds,d= .tup (.int k::ds):=by
   cases d with
   |tup xs=>
    cases xs with
    |nil=>cases h
    |cons x xs=>
     cases x with
     |int k=>exact⟨k,xs,rfl⟩
     |_=>cases h
   |_=>cases h
  obtain⟨a0,xs,rfl,h1,r2⟩:=rv.tupI
  obtain⟨k1,us1,rfl,rk,t1⟩:=r2.consI
  cases rk.intI
  ·cases e2:dk r with
   |none=>rw[e2]at h;cases h
   |some q=>
    rw[e2]at h
    cases h
    exact .cons (s _ _ h1) (ih e2 t)
theorem nk {K:PySem.W.Frag} {F:Hp} {vs:List V} {ds:List D} (h:Reps K F vs ds):∀q:List Nat,(∀i∈q,i<ds.length)->Reps K F (q.map fun i=>vs.getD i .non) (q.map fun i=>ds.getD i .non)
 |[],_=> .nil
 |i::q,hq=>by
  have hi:=hq i List.mem_cons_self
  obtain⟨v,h1,h2⟩:=h.get (i:=i) (d:=ds[i]) (List.getElem?_eq_getElem hi)
  refine .cons ?_ (nk h q fun j hj=>hq j (List.mem_cons_of_mem _ hj))
  show dq K F (vs.getD i .non) (ds.getD i .non)
  rw[List.getD_eq_getElem?_getD,List.getD_eq_getElem?_getD,h1,List.getElem?_eq_getElem hi]
  exact h2
theorem pG {ds:List D} {q:List Nat} (p:lE (ds.map eA) q):(q.map fun i=>ds.getD i .non)=iQ ds:=by
 obtain⟨p1,p2⟩:=p
 rw[List.length_map]at p1
 have hm:∀i∈q,i<ds.length:=fun i hi=>List.mem_range.mp (p1.mem_iff.mp hi)
 have perm:(q.map fun i=>ds.getD i .non).Perm ds:=by
  refine(p1.map fun i=>ds.getD i .non).trans ?_
  have e:(List.range ds.length).map (fun i=>ds.getD i .non)=ds:=by
   refine List.ext_getElem (by simp) fun i h1 h2=> ?_
   simp[h2]
  rw[e]
 symm
 refine pF perm.symm ?_
 rw[List.pairwise_map]at p2 ⊢
 refine p2.imp_of_mem fun {a b} ha hb z=> ?_
 have ea:(ds.map eA).getD a 0=eA (ds.getD a .non):=by simp[hm a ha]
 have eb:(ds.map eA).getD b 0=eA (ds.getD b .non):=by simp[hm b hb]
 rw[ea,eb]at z
 exact z
noncomputable def jy:List D->Option D
 |[.lst ds]=>(dk ds).bind fun ks=>if ks.Nodup/\ks.length<64 then some (.lst (iQ ds))else none
 |[.tup ds]=>(dk ds).bind fun ks=>if ks.Nodup/\ks.length<64 then some (.lst (iQ ds))else none
 |_=>none
noncomputable def jz:List V->Hp->VK->Prop:=fun xs H Q=>∃p ys ks,xs=[.ref p]/\(H p=some (.lst ys)\/H p=some (.tup ys))/\gH H ys ks/\ks.Nodup/\ks.length<64/\∀l q,H l=none->lE ks q->Q (.ref l) (br H l (.lst (q.map fun i=>ys.getD i .non)))
theorem lV {K:PySem.W.Frag} {H F:Hp} {p:Addr} {ys:List V} {ds:List D} {d:D} {Q:VK} (s:aQ F H) (hp:H p=some (.lst ys)\/H p=some (.tup ys)) (r:Reps K F ys ds) (h:((dk ds).bind fun ks=>if ks.Nodup/\ks.length<64 then some (D.lst (iQ ds))else none)=some d)
  (k:∀w H' F',bL H F H' F'->dq K F' w d->Q w H'):jz [.ref p] H Q:=by
 cases e:dk ds with
 |none=>rw[e]at h;cases h
 |some ks=>
  rw[e]at h
  replace h:(if ks.Nodup/\ks.length<64 then some (D.lst (iQ ds))else none)=some d:=h
  split at h
  ·rename_i hk
   cases h
   refine⟨p,ys,ks,rfl,hp,xY s e r,hk.1,hk.2,fun l q hl pl=> ?_⟩
   have ek:=kB e
   subst ek
   have e2:=bL.lay (o:= .lst (q.map fun i=>ys.getD i .non)) s hl
   refine k _ _ _ e2 (.lst aA ?_)
   rw[<-pG pl]
   refine(nk r q fun i hi=> ?_).mono e2.grow
   have:=List.mem_range.mp (pl.1.mem_iff.mp hi)
   simpa using this
  ·cases h
theorem pH {K:PySem.W.Frag}:iY K jz jy:=by
 intro vs ds d H F Q s rv h k
 match ds,h with
 |[.lst xs],h=>
  obtain⟨v,rfl,r⟩:=rv.one
  obtain⟨a,ws,rfl,h1,h2⟩:=r.lst s
  exact lV s (.inl h1) h2 h k
 |[.tup xs],h=>
  obtain⟨v,rfl,r⟩:=rv.one
  obtain⟨a,ws,rfl,h1,h2⟩:=r.tup s
  exact lV s (.inr h1) h2 h k
noncomputable def fF (ds:List D):Option D:=match fD ds with
 |some d=>some d
 |none=>jy ds
theorem jA {X:Cx} (hc:X.calm=true):cG X (.builtin "sorted") (fun xs H Q=>ju X.K xs H Q\/jz xs H Q):=(o9 hc).or nX
theorem kC {K:PySem.W.Frag}:iY K (fun xs H Q=>ju K xs H Q\/jz xs H Q) fF:=by
 intro vs ds d H F Q s rv h k
 unfold fF at h
 cases e:fD ds with
 |some d'=>rw[e]at h;cases h;exact .inl (pC vs ds d H F Q s rv e k)
 |none=>rw[e]at h;exact .inr (pH vs ds d H F Q s rv h k)
noncomputable def tN (K:PySem.W.Frag) (c:d4 ly) (f:ai->R D):TE:=fun σ H Q=>∃F ρ,RI K c ρ σ H F/\aK c (f ρ) fun d=>∀a o H' F',bL H F H' F'->H a=none->H' a=some o->F' a=none->hV K F' o d->Q (.ref a) H'
noncomputable def PN (ly:List eN) (X:Cx) (e:Expr) (f:ai->R D):Prop:=∀c:iK ly X,PE X e (tN X.K c.1 f)
noncomputable def ze (K:PySem.W.Frag) (r:R2) (g:D->D->Option D):Prop:=∀v u x y d H F Q,aQ F H->cy K H F v x->cy K H F u y->g x y=some d->(∀a o,H a=none->hV K F o d->Q (.ref a) (br H a o))->r v u H Q
noncomputable def vH (K:PySem.W.Frag) (r:List V->Hp->VK->Prop) (g:List D->Option D):Prop:=∀vs ds d H F Q,aQ F H->hW K H F vs ds->g ds=some d->(∀a o,H a=none->hV K F o d->Q (.ref a) (br H a o))->r vs H Q
section
variable {X:Cx} {a b e:Expr} {es:List Expr} {fa fb f:ai->R D} {fs:ai->R (List D)} {pos p:Pos} {x:Str} {id T:String} {rc:List V->Hp->VK->Prop}
theorem oi {K:PySem.W.Frag} {H F H1 F1:Hp} {d:D} {Q:VK} (e1:bL H F H1 F1) (k:∀a o H' F',bL H F H' F'->H a=none->H' a=some o->F' a=none->hV K F' o d->Q (.ref a) H'):∀a o,H1 a=none->hV K F1 o d->Q (.ref a) (br H1 a o):=
 fun a o ha r=>k a o (br H1 a o) F1 (e1.trans (bL.layOwn e1.sub ha)) (e1.keep.free ha) aA (e1.sub.free ha) r
theorem Cm {op:Operator} {r:R2} {g:D->D->Option D} (ho:iH X (binaryOp op) r) (sem:ze X.K r g) (ha:PB ly X a fa) (hb:PB ly X b fb):PN ly X (.BinOp a op b pos) (f2 g fa fb):=fun c=>
 PE.weak (yx ho (ha c) (hb c)) fun σ H Q ⟨F,ρ,ri,w⟩=>⟨F,ρ,ri,(aK.bind.mp w).imp fun x hx w1 v H1 F1 e1 r1=>⟨F1,ρ,ri.step e1,(aK.bind.mp w1).imp fun y hy w2 u H2 F2 e2 r2=>by
  obtain⟨d,hd,k⟩:=w2.of
  exact sem v u x y d H2 F2 Q (e1.trans e2).sub (r1.mono e2) r2 hd (oi (e1.trans e2) k)⟩⟩
theorem CT {g:List D->Option D} (hc:cG X (.builtin id) rc) (sem:vH X.K rc g) (hm:X.mg x=none) (hv:bootBuiltins x=some (.builtin id)) (ha:Ak ly X (e::es) fs) (hg:Gl X x:=by rfl) (hn:x≠"__name__":=by decide) (hdb:(x==("__debug__":Str))=false:=by decide)
  (he:starEach (e::es) X.env=(false,eval e X.env)::starEach es X.env:=by rfl) (hpl:(backTo pos (starEach es X.env)).any (·.1)=false:=by rfl):PN ly X (.Call (.Name x p) (e::es) [] pos) (cI g fs):=fun c=>
 PE.weak (jd hc hg hm hv (ha c) hn hdb he hpl) fun σ H Q ⟨F,ρ,ri,w⟩=>⟨F,ρ,ri,(aK.bind.mp w).imp fun ds hd w1 vs H1 F1 e1 r1=>by
  obtain⟨d,hd,k⟩:=w1.of
  exact sem vs ds d H1 F1 Q e1.sub r1 hd (oi e1 k)⟩
theorem vI {g:List D->Option D} (hc:cG X (.type T) rc) (sem:vH X.K rc g) (hm:X.mg x=none) (hv:bootBuiltins x=some (.type T)) (ha:Ak ly X (e::es) fs) (hg:Gl X x:=by rfl) (hn:x≠"__name__":=by decide) (hdb:(x==("__debug__":Str))=false:=by decide)
  (he:starEach (e::es) X.env=(false,eval e X.env)::starEach es X.env:=by rfl) (hpl:(backTo pos (starEach es X.env)).any (·.1)=false:=by rfl):PN ly X (.Call (.Name x p) (e::es) [] pos) (cI g fs):=fun c=>
 PE.weak (iy hc hg hm hv (ha c) hn hdb he hpl) fun σ H Q ⟨F,ρ,ri,w⟩=>⟨F,ρ,ri,(aK.bind.mp w).imp fun ds hd w1 vs H1 F1 e1 r1=>by
  obtain⟨d,hd,k⟩:=w1.of
  exact sem vs ds d H1 F1 Q e1.sub r1 hd (oi e1 k)⟩
noncomputable def pI (i:Nat) (f:ai->R D):ai->R bY:=fun ρ=>f ρ>>=fun d=> .ok (.nx (ρ.set i (some (.own d))))
theorem vJ (i:Nat) {x:Str} {pos':Pos} (hN:X.N.Nodup) (h:PN ly X e f) (hi:X.N[i]? =some x:=by rfl) (hx:uh X.env.scope x:=by first|exact Or.inl rfl|exact Or.inr rfl) (hs:swapsWith e (some (.Name x pos')) pos.line X.env=pure false:=by rfl)
  (hf:X.fn x=true\/X.env.scope.names.lookup x=some .local:=by first|exact .inl rfl|exact .inr rfl|assumption) (hfr:jY ly i:=by(repeat (first|assumption|exact L2.Pu.eF|refine L2.Pu.free_cons ⟨by first|decide|simp,by first|decide|simp⟩ ?_))):mw ly X (.Assign [.Name x pos'] e pos) (pI i f):=fun c=>
 PS.weak (nH hN hi hx (h c) hs hf) fun D σ H ⟨F,ρ,ri,w⟩=>⟨F,ρ,ri,(aK.bind.mp w).imp fun d _ w1 a o H1 F1 e1 n1 h1 f1 r1=>by
  refine w1 _ H1 F1 e1.grow ((ri.step e1).setOwn i hfr h1 f1 (ri.ext.keep.free n1) r1 (fun j d' _ hj ej=> ?_) (ri.celNe e1.keep n1))
  obtain⟨b,o',k1,k2,_⟩:=ri.own j d' hj
  rw[ej]at k1
  cases k1
  rw[n1]at k2
  cases k2⟩
end
section
variable {K:PySem.W.Frag}
noncomputable def pJ:D->D->Option D
 | .lst a, .int k=>if k.natAbs<=lim/\a.length*k.toNat<=lim then some (.lst (List.replicate k.toNat a).flatten)else none
 |_,_=>none
theorem vK:ze K ve pJ:=by
 intro v u x y d H F Q s rx ry h k
 unfold pJ at h
 split at h
 ·rename_i a j
  split at h
  ·rename_i hl
   cases h
   cases ry.int
   obtain⟨p,vs,rfl,h1,h2⟩:=rx.lst s
   refine .inr ⟨p,j,vs,rfl,rfl,h1,by have:=iC hl.1;omega,by have:=iC hl.1;omega,Nat.le_trans (by rw[h2.length];exact hl.2) eh,fun l hl'=> ?_⟩
   exact k _ _ hl' (.lst (h2.rep _))
  ·cases h
 ·cases h
theorem tO:vH K (fun xs H Q=>∃p ys,xs=[.ref p]/\(cT K H p ys\/eR K H p ys)/\∀l,H l=none->Q (.ref l) (br H l (.lst ys))) gw:=by
 intro vs ds d H F Q s rv h k
 match ds,h with
 |[.lst xs],h=>
  obtain⟨v,rfl,r⟩:=rv.one
  obtain⟨a,ws,rfl,h1,h2⟩:=r.lst s
  cases h
  exact⟨a,ws,rfl, .inl (cT.of h1),fun l hl=>k _ _ hl (.lst h2)⟩
 |[.tup xs],h=>
  obtain⟨v,rfl,r⟩:=rv.one
  obtain⟨a,ws,rfl,h1,h2⟩:=r.tup s
  cases h
  exact⟨a,ws,rfl, .inr (eR.of h1),fun l hl=>k _ _ hl (.lst h2)⟩
 |[.scr ns],h=>
  obtain⟨v,rfl,r⟩:=rv.one
  obtain⟨a,rfl,h1⟩:=r.scr s
  cases h
  exact⟨a,_,rfl, .inl h1,fun l hl=>k _ _ hl (.lst (eZ ns))⟩
end
end L2.Pu
namespace L2.Pu
open PySem PySem.Spec PyProof.Rows
variable {ly:List eN}
structure j3 (K:PySem.W.Frag) (cls m qual:Str) (st:Stmt) (ps:List Str):Prop where
 ex:∃C f fd,uf K m qual st f fd/\lP K cls C/\uB K C m f/\fq K fd ps []
structure r8 (K:PySem.W.Frag) (mg:Str->Option Value) (cls qual:Str) (st:Stmt) (ps:List Str) (fs:List Str):Prop where
 ex:∃C f fd,uf K "__init__" qual st f fd/\lP K cls C/\mg cls=some (.ref C)/\Mk K C f/\fq K fd ps []/\∀x∈fs,eO K C x
structure nl (K:PySem.W.Frag) (cls:Str) (fs:List Str):Prop where
 ex:∃C,lP K cls C/\∀x∈fs,eO K C x
section
variable {P:Program} {w:World} {K:PySem.W.Frag} {mg:Str->Option Value} {base:Heap}
theorem kg {cls mm qual:Str} {st:Stmt} {N ps:List Str} {k n m:Nat} {g:ai->R bY} (A:j3 K cls mm qual st ps) (S:aW N ps (ak st)) (hn:ps.length=n) (hm:N.length=m)
  (hbody:∀(f:Addr) (cdv:Value) (A:Around) (outer:List Env) (s:Shared) (H:Hp) (E:XK),dh k (A.deeper (envOfC qual (ak st) s.heap.objs.size f cdv))->
   jn [] (hG (kM P w) P w K mg base N qual (ak st) f cdv A outer s H E) (aR st) g):eu P w K mg base (k+1) cls mm n (bA n m g):=by
 obtain⟨C,f,fd,F,h1,h2,h3⟩:=A.ex
 exact⟨C,f,fd,ps,Au F S hn hm fun cdv A outer s H E hr=>hbody f cdv A outer s H E hr,h1,h2,h3⟩
theorem tP {cls qual:Str} {st:Stmt} {N ps fs:List Str} {k n m:Nat} {fl:List (Str×Nat)} {g:ai->R bY} (A:r8 K mg cls qual st ps fs) (S:aW N ps (ak st)) (hn:ps.length=n+1) (hm:N.length=m+1) (hg:∀p∈fl,n<p.2) (hnm:n<=m)
  (hbody:∀(C f:Addr) (cdv:Value) (A:Around) (outer:List Env) (s:Shared) (H:Hp) (E:XK),sN K C->(∀x∈fs,eO K C x)->dh k (A.deeper (envOfC qual (ak st) s.heap.objs.size f cdv))->
   jn [⟨0,C,fl⟩] (hG (kM P w) P w K mg base N qual (ak st) f cdv A outer s H E) (aR st) g):ke P w K mg base (k+1) cls n (jv n m fl g):=by
 obtain⟨C,f,fd,F,h1,h2,h3,h4,h5⟩:=A.ex
 exact⟨C,f,fd,ps,xX F S h1.ns hn hm hg hnm fun cdv A outer s H E hr=>hbody C f cdv A outer s H E h1.cl h5 hr,h2,h3,h4⟩
theorem oj {C:Addr} {fl:List (Str×Nat)} {f:Str} {i:Nat} (h1:(f,i)∈fl) (h2:∀p∈fl,p.1=f<->p.2=i) (h3:0≠i) (h4:fl.length<1000):zc [⟨0,C,fl⟩] ⟨0,C,fl⟩ f i:=
 ⟨List.mem_cons_self,h1,h2,h3,fun M hM hne=>absurd (List.mem_singleton.mp hM) hne,h4⟩
theorem ol {C:Addr} (e1:PySem.W.excIn K C qC "ValueError.__new__"=true) (e2:PySem.W.findIn K (.ref C) "__getattribute__"=some (some (.builtin "BaseException.__getattribute__"))) (e3:PySem.W.findIn K (.ref C) "__getattr__"=some none)
  (e4:PySem.W.findIn K (.ref C) "__class__"=some (some (.builtin "object.__class__"))) (e5:PySem.W.mroIn K C (.type "object")=some true) (e6:PySem.W.mroIn K C (.type "BaseException")=some true) (e7:PySem.W.kitCls K (.ref C) (.ref C)=some true)
  (e8:PySem.W.specialIn K (.builtin "object.__class__") "__get__"=some (some (.builtin "getset_descriptor.__get__"))) (e9:PySem.W.takesIn K (.builtin "object.__class__")=some true):mC K C:=
 ⟨⟨_,_,_,_,e1,F.excBase_ValueError,by decide⟩,e2,e3,e4,e8,e9,e5,e6,e7⟩
theorem r9 {D:Addr} {bmB:List Value} {nid:String} (e:PySem.W.excIn K D bmB nid=true):((PySem.W.clsIn K D).isSome&&PySem.W.typeIn K (.ref D)==some (.type "type"))=true:=by
 unfold PySem.W.excIn at e
 split at e
 ·rename_i lk
  unfold PySem.W.clsIn PySem.W.typeIn
  simp only[lk]
  rfl
 ·cases e
theorem gA {C D:Addr} {b:Bool} {bmB:List Value} {nid:String} (e:PySem.W.excIn K D bmB nid=true) (m:PySem.W.mroIn K C (.ref D)=some b):PySem.W.kitCls K (.ref C) (.ref D)=some b:=by
 unfold PySem.W.kitCls
 dsimp only
 rw[if_pos (r9 e)]
 exact m
theorem dm {C D:Addr} {b:Bool} {bmB:List Value} {nid:String} (e:PySem.W.excIn K D bmB nid=true) (m:PySem.W.mroIn K C (.ref D)=some b) (s:PySem.W.mroIn K C (.ref C)=some true):PySem.W.kitOne K (.ref C) (.ref D)=some b:=by
 unfold PySem.W.kitOne
 split
 ·rename_i h
  have ez:Value.ref C=Value.ref D:=eq_of_beq h
  cases ez
  exact s.symm.trans m
 ·exact gA e m
theorem kh {C D:Addr} {b:Bool} {bmB:List Value} {nid:String} (e:PySem.W.excIn K D bmB nid=true) (m:PySem.W.mroIn K C (.ref D)=some b) (mb:PySem.W.mroIn K D (.type "BaseException")=some true):PySem.W.exmOne K (.ref C) (.ref D)=some b:=by
 unfold PySem.W.exmOne
 rw[if_pos (by show (PySem.W.mroIn K D (.type "BaseException")==some true)=true;rw[mb];rfl)]
 exact gA e m
noncomputable def vL (xs:List Str) (x:Str):Bool:=xs.contains x
theorem vM {cx:Str} {C:Addr} {xs:List Str} (hm:mg cx=some (.ref C)) (h:∀x∈xs,∃Ce,PySem.W.nsIn K mainGlobals x=some (some (.ref Ce))/\PySem.W.exmOne K (.ref Ce) (.ref C)=some true):sk K mg cx (vL xs):=by
 refine⟨C,hm,fun x cls hx ⟨C',e,hc⟩=> ?_⟩
 obtain⟨Ce,h1,h2⟩:=h x (by simpa[vL]using hx)
 rw[hc]at h1
 cases h1
 rw[e]
 exact h2
noncomputable def mH (l:List (Str×Bool)) (x:Str):Option Bool:=l.lookup x
theorem nn {α:Type} {x:Str} {b:α}:∀{l:List (Str×α)},l.lookup x=some b->(x,b)∈l
 |(k,v)::r,h=>by
  rw[List.lookup_cons]at h
  cases e:x==k with
  |true=>rw[e]at h;cases h;cases eq_of_beq e;exact List.mem_cons_self
  |false=>rw[e]at h;exact List.mem_cons_of_mem _ (nn h)
theorem lW {v:Value} {l:List (Str×Bool)} (h:∀p∈l,∃Ce,PySem.W.nsIn K mainGlobals p.1=some (some (.ref Ce))/\PySem.W.kitOne K (.ref Ce) v=some p.2/\mC K Ce):sm K v (mH l):=by
 refine⟨fun x b cls hb ⟨C',e,hc⟩=> ?_⟩
 obtain⟨Ce,h1,h2,h3⟩:=h _ (nn hb)
 rw[hc]at h1
 cases h1
 subst e
 exact⟨h2,C',rfl,h3⟩
structure rb (K:PySem.W.Frag) (mg:Str->Option Value) (x:Str) (tb:Str->Option Bool):Prop where
 ex:∃C,mg x=some (.ref C)/\sm K (.ref C) tb
end
section
variable {X:Cx} {a e o:Expr} {es:List Expr} {fa f fo:ai->R D} {fs:ai->R (List D)} {cls fld x m:Str} {p p2 pos apos:Pos} {xs:List Str} {tb:Str->Option Bool}
theorem fY (T:nl X.K cls xs) (hf:fld∈xs) (ha:PB ly X a fa) (hb:attributeBase a fld X.env (eval a X.env)=eval a X.env:=by rfl):PQ ly X (.Attribute a fld pos) (fE cls fld fa):=by
 obtain⟨C,h1,h2⟩:=T.ex
 exact Cf h1 (h2 fld hf) ha hb
theorem re (T:rb X.K X.mg x tb) (hm1:X.mg "isinstance"=none) (ha:PB ly X a fa) (hg1:Gl X "isinstance":=by rfl) (hg:Gl X x:=by rfl) (hdb:(x==("__debug__":Str))=false:=by decide)
  (he:starEach [a, .Name x p2] X.env=(false,eval a X.env)::starEach [.Name x p2] X.env:=by rfl) (he2:starEach [.Name x p2] X.env=(false,eval (.Name x p2) X.env)::starEach [] X.env:=by rfl) (hpl:(backTo pos (starEach [.Name x p2] X.env)).any (·.1)=false:=by rfl):
  PQ ly X (.Call (.Name "isinstance" p) [a, .Name x p2] [] pos) (tL tb fa):=by
 obtain⟨C,h1,h2⟩:=T.ex
 exact Ck h2 h1 hm1 ha hg1 hg hdb he he2 hpl
end
theorem AM {P:Program} {w:World} {outer:List Env} {H:Hp} {s s':Shared} {e:Value} (h:kM P w outer H s (fun _ _ _=>False) e s'):False:=by
 obtain⟨_,_,_,_,_,_,_,_,_,z⟩:=h
 exact z
end L2.Pu
namespace L2.Pu
open PySem PySem.Spec PyProof.Rows
variable {ly:List eN}
theorem RI.up {K:PySem.W.Frag} {c:d4 ly} {ρ:ai} {σ:St} {H F H':Hp} (r:RI K c ρ σ H F) (e:aQ H H'):RI K c ρ σ H' F:=r.step ⟨r.sub.trans e,e,aQ.refl _,fun _ h=> .inl h⟩
noncomputable def ki:D->Bool
 | .non=>true
 | .bl _=>true
 | .int _=>true
 | .str _=>true
 |_=>false
theorem vN {K:PySem.W.Frag} {F F':Hp} {v:V} {d:D} (h:ki d=true) (r:dq K F v d):dq K F' v d:=by
 cases r with
 |non=>exact .non
 |bl b=>exact .bl b
 |int i=>exact .int i
 |str x=>exact .str x
 |_=>cases h
theorem tR {K:PySem.W.Frag} {F F':Hp} {vs:List V} {ds:List D} (h:ds.all ki=true) (g:Reps K F vs ds):Reps K F' vs ds:=by
 induction ds generalizing vs with
 |nil=>rw[g.nilI];exact .nil
 |cons d ds ih=>
  obtain⟨w,us,e0,r,t⟩:=g.consI
  rw[List.all_cons,Bool.and_eq_true]at h
  rw[e0]
  exact .cons (vN h.1 r) (ih h.2 t)
section
variable {X:Cx} {e:Expr} {es:List Expr} {f:ai->R D} {g:ai->R Bool} {pos:Pos}
noncomputable def vO (L:List Nat) (f:ai->R D) (n:Nat) (gs:List D->ai->R ai):ai->R bY:=fun ρ=>f (frz L ρ)>>=fun d=>match d with
 | .lst ds=>if ds.length=n/\ds.all ki=true then (gs ds ρ>>=fun ρ'=> .ok (.nx ρ'))else .bad
 | .tup ds=>if ds.length=n/\ds.all ki=true then (gs ds ρ>>=fun ρ'=> .ok (.nx ρ'))else .bad
 |_=> .bad
theorem AN (L:List Nat) {k n:Nat} {pt:Pos} {gs:List D->ai->R ai} (hc:X.calm=true) (he:PQ ly X e f) (h:v6 ly X es gs) (hn:(assignEach es X.env).length=n:=by rfl) (hst:(assignEach es X.env).findIdx? (·.1)=none:=by rfl)
  (hs:swapsWithSole [.Tuple es k pt] e pos.line X.env=pure false:=by rfl) (hw:swappedStores [.Tuple es k pt] e X.env=pure none:=by rfl)
  (h1:(assignEach [.Tuple es k pt] X.env).map (·.2)=[assign (.Tuple es k pt) X.env]:=by rfl):mw ly X (.Assign [.Tuple es k pt] e pos) (vO L f n gs):=fun c=>
 PS.weak (qc (he c) (PG.or (uq hc (h c) hn hst) (uS hc (h c) hn hst)) hs hw h1) fun D σ H ⟨F,ρ,ri,w⟩=>by
  obtain⟨F',s,ri'⟩:=ri.frz L
  refine⟨F',_,ri',(aK.bind.mp w).imp fun d _ w1 v H1 F1 e1 r1=> ?_⟩
  have key:∀{ds:List L2.Pu.D} {vs:List V},Reps X.K F1 vs ds->aK c.1 (if ds.length=n/\ds.all ki=true then (gs ds ρ>>=fun ρ'=>R.ok (bY.nx ρ'))else .bad) (eI X.K c.1 F D)->
    vs.length=n/\DP X.K c.1 gs vs σ H1 (fun σ' H'=>D.nx σ' H'):=by
   intro ds vs r2 w2
   split at w2
   ·rename_i hl
    refine⟨by rw[r2.length];exact hl.1,F,ρ,ds,ri.up e1.keep,tR hl.2 r2,(aK.bind.mp w2).imp fun ρ' _ w3 σ' H' F2 s2 r'=>w3 σ' H' F2 s2 r'⟩
   ·exact w2.elim
  cases r1 with
  | @tup a vs ds g1 g2=>
   obtain⟨k1,k2⟩:=key g2 w1
   exact .inl ⟨a,vs,rfl,eR.of (e1.sub _ _ g1),k1,k2⟩
  | @lst a vs ds g1 g2=>
   obtain⟨k1,k2⟩:=key g2 w1
   exact .inr ⟨a,vs,rfl,cT.of (e1.sub _ _ g1),k1,k2⟩
  |_=>exact w1.elim
end
section
variable {X:Cx} {e:Expr} {f:ai->R D} {pos:Pos}
end
end L2.Pu
namespace L2
open PySem PySem.Spec PyProof.Rows
section
variable {X:Cx} {tg:Expr}
end
end L2
namespace L2.Pu
open PySem PySem.Spec PyProof.Rows
variable {ly:List eN}
section
variable {X:Cx} {a b d:Expr} {fs:ai->R (List D)} {pos:Pos}
end
end L2.Pu
namespace L2
open PySem PySem.Spec PyProof.Rows
end L2
namespace L2.Pu
open PySem PySem.Spec PyProof.Rows
variable {ly:List eN}
end L2.Pu
namespace L2.Pu
section
variable {α:Type} {P:List α->Prop}
theorem Eg (h:P []):∀us:List α,us.length=0->P us:=fun us e=>by
 rw[List.length_eq_zero_iff.mp e];exact h
theorem Cn {n:Nat} (h:∀a us,us.length=n->P (a::us)):∀us:List α,us.length=n+1->P us:=fun us e=>by
 cases us with
 |nil=>cases e
 |cons a us=>exact h a us (Nat.succ.inj e)
theorem CU (h:∀a,P [a]):∀us:List α,us.length=1->P us:=Cn fun a=>Eg (P:=fun us=>P (a::us)) (h a)
theorem vP (h:∀a b,P [a,b]):∀us:List α,us.length=2->P us:=Cn fun a=>CU (P:=fun us=>P (a::us)) (h a)
theorem CV (h:∀a b c,P [a,b,c]):∀us:List α,us.length=3->P us:=Cn fun a=>vP (P:=fun us=>P (a::us)) (h a)
theorem CW (h:∀a b c d,P [a,b,c,d]):∀us:List α,us.length=4->P us:=Cn fun a=>CV (P:=fun us=>P (a::us)) (h a)
theorem CY (h:∀a b c d e,P [a,b,c,d,e]):∀us:List α,us.length=5->P us:=Cn fun a=>CW (P:=fun us=>P (a::us)) (h a)
end
end L2.Pu
namespace L2
open PySem PySem.Spec PyProof.Rows
end L2
namespace L2.Pu
open PySem PySem.Spec PyProof.Rows
variable {ly:List eN}
end L2.Pu
namespace L2.Pu
open PySem PySem.Spec PyProof.Rows
variable {ly:List eN}
noncomputable def Slot.kind:Slot->Nat
 | .own _=>1
 | .cel .. =>2
 |_=>0
inductive At (ρ:ai) (σ:St):List Nat->List Slot->List Addr->Prop
 |nil:At ρ σ [] [] []
 |cons {i:Nat} {s:Slot} {a:Addr} {is:List Nat} {ss:List Slot} {as:List Addr}:ρ[i]? =some (some s)->s.kind≠0->σ[i]? =some (some (.ref a))->At ρ σ is ss as->At ρ σ (i::is) (s::ss) (a::as)
theorem At.idx {ρ:ai} {σ:St} {is:List Nat} {ss:List Slot} {as:List Addr} (h:At ρ σ is ss as):∀{k i:Nat},is[k]? =some i->∃s a,ss[k]? =some s/\as[k]? =some a/\ρ[i]? =some (some s)/\s.kind≠0/\σ[i]? =some (some (.ref a)):=by
 induction h with
 |nil=>intro k i e;simp at e
 |cons h1 h2 h3 _ ih=>
  intro k i e
  cases k with
  |zero=>cases e;exact⟨_,_,rfl,rfl,h1,h2,h3⟩
  |succ k=>exact ih e
theorem At.lens {ρ:ai} {σ:St} {is:List Nat} {ss:List Slot} {as:List Addr} (h:At ρ σ is ss as):ss.length=is.length/\as.length=is.length:=by
 induction h with
 |nil=>exact⟨rfl,rfl⟩
 |cons _ _ _ _ ih=>exact⟨by simp[ih.1],by simp[ih.2]⟩
theorem At.get {ρ:ai} {σ:St} {is:List Nat} {ss:List Slot} {as:List Addr} (h:At ρ σ is ss as) {k:Nat} {s:Slot} (e:ss[k]? =some s):∃i a,is[k]? =some i/\as[k]? =some a/\ρ[i]? =some (some s)/\s.kind≠0/\σ[i]? =some (some (.ref a)):=by
 have hk:k<is.length:=by rw[<-h.lens.1];exact(List.getElem?_eq_some_iff.mp e).1
 obtain⟨s',a,h1,h2,h3⟩:=h.idx (k:=k) (i:=is[k]) (by simp[hk])
 rw[e]at h1
 cases h1
 exact⟨is[k],a,by simp[hk],h2,h3⟩
noncomputable def Co (H:Hp) (ρ:ai) (σ:St) (i:Nat) (z:Addr):Prop:=
 (∃d,ρ[i]? =some (some (.own d))/\σ[i]? =some (some (.ref z)))\/∃x vds f hs a C dx fs,ρ[i]? =some (some (.cel x vds f hs))/\σ[i]? =some (some (.ref a))/\H a=some (.ins C dx fs)/\(z=a\/z=dx\/fs.lookup f=some (.ref z))
open Classical in
noncomputable def vQ (H:Hp) (ρ:ai) (σ:St) (is:List Nat):Hp:=fun z=>if ∃i∈is,Co H ρ σ i z then none else H z
theorem pK {H:Hp} {ρ:ai} {σ:St} {is:List Nat} {z:Addr} {i:Nat} (hi:i∈is) (h:Co H ρ σ i z):vQ H ρ σ is z=none:=if_pos ⟨i,hi,h⟩
theorem tU {H:Hp} {ρ:ai} {σ:St} {is:List Nat} {z:Addr} {u:HO} (h:vQ H ρ σ is z=some u):H z=some u:=by
 unfold vQ at h
 split at h
 ·cases h
 ·exact h
section
variable {K:PySem.W.Frag} {c:d4 ly} {ρ:ai} {σ:St} {H F:Hp} {i j:Nat} {z:Addr}
end
noncomputable abbrev MC (Hz F:Hp):d4 []:=⟨Hz,F,fun _=>none,fun _ _=>False,fun _=>none,fun _=>none⟩
noncomputable def Eh (K:PySem.W.Frag) (Hz F:Hp) (ss:List Slot) (as:List Addr) (H' F':Hp):Prop:=RI K (MC Hz F) (ss.map some) (as.map fun a=>some (.ref a)) H' F'
theorem map_some {α β:Type} {l:List α} {g:α->β} {k:Nat} {b:β} (h:(l.map g)[k]? =some b):∃a,l[k]? =some a/\g a=b:=by
 rw[List.getElem?_map]at h
 cases e:l[k]? with
 |none=>rw[e]at h;cases h
 |some a=>rw[e]at h;exact⟨a,rfl,by simpa using h⟩
theorem xZ {α β:Type} {l:List α} {g:α->β} {k:Nat} {a:α} (h:l[k]? =some a):(l.map g)[k]? =some (g a):=by rw[List.getElem?_map,h];rfl
theorem vR {is:List Nat} (nd:is.Nodup) {k k' i:Nat} (h:is[k]? =some i) (h':is[k']? =some i):k=k':=by
 obtain⟨l,e⟩:=List.getElem?_eq_some_iff.mp h
 obtain⟨l',e'⟩:=List.getElem?_eq_some_iff.mp h'
 exact(List.getElem_inj nd).mp (e.trans e'.symm)
section
variable {K:PySem.W.Frag} {c:d4 ly} {ρ:ai} {σ:St} {H F H' F':Hp} {is:List Nat} {ss ss':List Slot} {as:List Addr}
theorem RI.split (r:RI K c ρ σ H F) (A:At ρ σ is ss as) (nd:is.Nodup):Eh K (vQ H ρ σ is) F ss as H F:=by
 have got:∀{k:Nat} {s:Slot},(ss.map some)[k]? =some (some s)->∃i a,is[k]? =some i/\as[k]? =some a/\ρ[i]? =some (some s)/\s.kind≠0/\σ[i]? =some (some (.ref a)):=fun {k s} h=>by
  obtain⟨s',h1,h2⟩:=map_some h
  cases h2
  exact A.get h1
 have gota:∀{k:Nat} {a:Addr},as[k]? =some a->(as.map fun a=>some (V.ref a))[k]? =some (some (.ref a)):=fun h=>xZ h
 have ung:∀{k:Nat} {a a':Addr},as[k]? =some a->(as.map fun a=>some (V.ref a))[k]? =some (some (.ref a'))->a=a':=fun {k a a'} h h'=>by
  rw[gota h]at h';cases h';rfl
 refine⟨⟨r.sub,fun z u e=>tU e,aQ.refl _,fun _ h=> .inl h⟩,fun k d h=> ?_,fun k d h=> ?_,fun k d h=> ?_,(fun _ _ e=>by cases e),fun k k' d d' a h h' e e'=> ?_,?_,(fun L h=>by cases h),(fun L h=>by cases h),(fun _ _ e=>by cases e),⟨fun k x vds f hs h=> ?_,fun k k' x vds f hs s h h' hs'=> ?_⟩,(fun L h=>by cases h)⟩
 ·obtain⟨i,a,_,_,_,z,_⟩:=got h;exact absurd rfl z
 ·obtain⟨i,a,h1,h2,h3,h4,h5⟩:=got h
  obtain⟨p,u,k1,k2,k3,k4,k5⟩:=r.own i d h3
  rw[h5]at k1
  cases k1
  exact⟨a,u,gota h2,k2,k3,pK (List.mem_of_getElem? h1) (.inl ⟨d,h3,h5⟩),k5⟩
 ·obtain⟨i,a,_,_,_,z,_⟩:=got h;exact absurd rfl z
 ·obtain⟨i1,a1,h1,h2,h3,h4,h5⟩:=got h
  obtain⟨i2,a2,g1,g2,g3,g4,g5⟩:=got h'
  cases ung h2 e
  cases ung g2 e'
  cases r.dis i1 i2 d d' _ h3 g3 h5 g5
  exact vR nd h1 g1
 ·simp only[List.length_map];rw[A.lens.1,A.lens.2]
 ·obtain⟨i,a,h1,h2,h3,h4,h5⟩:=got h
  obtain⟨a',dx,b,k1,k2,k3⟩:=r.cel.ex i x vds f hs h3
  rw[h5]at k1
  cases k1
  have k2':=k2
  obtain⟨C,fs,vs,us,g1,g2,g3,g4⟩:=k2.ex
  have o:∀z,(z=a\/z=dx\/fs.lookup f=some (.ref z))->vQ H ρ σ is z=none:=fun z hz=>pK (List.mem_of_getElem? h1) (.inr ⟨x,vds,f,hs,a,C,dx,fs,h3,h5,g1,hz⟩)
  refine⟨a,dx,b,gota h2,⟨k2.ex,k2.own,k2.fa,k2.fd,k2.fb,o a (.inl rfl),o dx (.inr (.inl rfl)),o b (.inr (.inr g3))⟩,fun k' d h' e=> ?_⟩
  obtain⟨i2,a2,m1,m2,m3,m4,m5⟩:=got h'
  cases ung m2 e
  exact k3 i2 d m3 m5
 ·obtain⟨i1,a1,h1,h2,h3,h4,h5⟩:=got h
  obtain⟨i2,a2,g1,g2,g3,g4,g5⟩:=got h'
  cases r.cel.one i1 i2 x vds f hs s h3 g3 hs'
  exact vR nd h1 g1
end
end L2.Pu
namespace L2.Pu
open PySem PySem.Spec PyProof.Rows
variable {ly:List eN}
section
variable {P:Program} {w:World} {K:PySem.W.Frag} {mg:Str->Option Value} {base:Heap}
end
section
variable {X:Cx} {e:Expr} {es:List Expr} {fs:ai->R (List D)} {is:List Nat} {p pos apos:Pos} {x m:Str}
end
end L2.Pu
namespace L2.Pu
open PySem PySem.Spec PyProof.Rows
variable {ly:List eN}
section
variable {K:PySem.W.Frag} {c:d4 ly} {ρ:ai} {σ:St} {H F:Hp} {i:Nat} {z:Addr}
end
section
variable {X:Cx} {a b e value:Expr} {es:List Expr} {fa fb f fv:ai->R D} {fs:ai->R (List D)} {pos px apos bpos cpos pos':Pos} {y g cls:Str} {xs:List Str}
variable {fx:ai->R (D×ai)}
end
end L2.Pu
namespace L2.Pu
open PySem PySem.Spec PyProof.Rows
variable {ly:List eN}
section
variable {K:PySem.W.Frag} {c:d4 ly} {ρ:ai} {σ:St} {H F H' F':Hp} {L:List Nat}
theorem RepF.snoc {vs:List (Str×V)} {vds:List (Str×D)} {f:Str} {v:V} {d:D} (h:RepF K F vs vds) (r:dq K F v d):RepF K F (vs++[(f,v)]) (vds++[(f,d)]):=by
 induction vds generalizing vs with
 |nil=>rw[h.nilI];exact .cons r .nil
 |cons p vds ih=>
  obtain⟨k,x⟩:=p
  obtain⟨u,us,rfl,h1,h2⟩:=h.consI
  exact .cons h1 (ih h2)
end
section
variable {X:Cx} {e:Expr} {es:List Expr} {f:ai->R D} {g:ai->R Bool} {pos:Pos}
end
end L2.Pu
namespace L2.Pu
open PySem PySem.Spec PyProof.Rows
variable {ly:List eN}
section
variable {X:Cx} {pos pos' px pl:Pos} {f y g:Str}
end
section
variable {X:Cx} {e:Expr} {es:List Expr} {fs:ai->R (List D)} {cls:Str} {p pos spos pos':Pos}
end
end L2.Pu
namespace L2.Pu
open PySem PySem.Spec PyProof.Rows
variable {ly:List eN}
section
variable {K:PySem.W.Frag} {F:Hp}
noncomputable def fG:List D->Option (List Bool)
 |[]=>some []
 | .bl b::r=>(fG r).map (b::·)
 |_=>none
theorem kj:∀{ds:List D} {bs:List Bool} {vs:List V},fG ds=some bs->Reps K F vs ds->vs=bs.map V.bl:=by
 intro ds
 induction ds with
 |nil=>intro bs vs h r;cases h;rw[r.nilI];rfl
 |cons d r ih=>
  intro bs vs h g
  obtain⟨v,us,rfl,r1,t⟩:=g.consI
  cases d with
  |bl b=>
   cases r1
   replace h:(fG r).map (b::·)=some bs:=h
   cases e:fG r with
   |none=>rw[e]at h;cases h
   |some ms=>rw[e]at h;cases h;rw[ih e t];rfl
  |_=>cases h
theorem tV (bs:List Bool):fG (bs.map .bl)=some bs:=by
 induction bs with
 |nil=>rfl
 |cons n r ih=>show (fG (r.map D.bl)).map (n::·)=_;rw[ih];rfl
noncomputable def Ei:List D->Option D
 |[.lst ds]=>(fG ds).map fun bs=> .bl (bs.any id)
 |_=>none
end
section
variable {X:Cx} {a o e:Expr} {fa fo fk:ai->R D} {apos cpos pos pos2 p1 p2:Pos}
noncomputable def iG (f:ai->R D):ai->R D:=fun ρ=>f ρ>>=fun d=>match d with
 | .lst ds=>(match cZ ds with|some ns=>if ns.length<4000 then .ok (.int (dS ns))else .bad|none=> .bad)
 | .tup ds=>(match cZ ds with|some ns=>if ns.length<4000 then .ok (.int (dS ns))else .bad|none=> .bad)
 |_=> .bad
theorem vS (hc:X.calm=true) (hml:X.mg "len"=none) (hms:X.mg "set"=none) (ha:PB ly X a fa) (hgl:Gl X "len":=by rfl) (hgs:Gl X "set":=by rfl)
  (he1:starEach [a] X.env=(false,eval a X.env)::starEach [] X.env:=by rfl) (hpl1:(backTo pos2 (starEach [] X.env)).any (·.1)=false:=by rfl)
  (he2:starEach [.Call (.Name "set" p2) [a] [] pos2] X.env=(false,eval (.Call (.Name "set" p2) [a] [] pos2) X.env)::starEach [] X.env:=by rfl) (hpl2:(backTo pos (starEach [] X.env)).any (·.1)=false:=by rfl):
  PQ ly X (.Call (.Name "len" p1) [.Call (.Name "set" p2) [a] [] pos2] [] pos) (iG fa):=fun c=>
 PE.weak (t5 hc (ha c) hml hms hgl hgs he1 hpl1 he2 hpl2) fun σ H Q ⟨F,ρ,ri,w⟩=>⟨F,ρ,ri,(aK.bind.mp w).imp fun d _ w1 v H1 F1 e1 r1=>by
  cases d with
  |lst ds=>
   obtain⟨p,vs,rfl,h1,h2⟩:=r1.lst e1.sub
   cases q:cZ ds with
   |none=>simp only[q]at w1;exact w1.elim
   |some ns=>
    simp only[q]at w1
    split at w1
    ·rename_i hl
     rw[gM q h2]at h1
     exact⟨p,ns,rfl, .inl (cT.of h1),hl,w1 _ H1 F1 e1 (.int _)⟩
    ·exact w1.elim
  |tup ds=>
   obtain⟨p,vs,rfl,h1,h2⟩:=r1.tup e1.sub
   cases q:cZ ds with
   |none=>simp only[q]at w1;exact w1.elim
   |some ns=>
    simp only[q]at w1
    split at w1
    ·rename_i hl
     rw[gM q h2]at h1
     exact⟨p,ns,rfl, .inr (eR.of h1),hl,w1 _ H1 F1 e1 (.int _)⟩
    ·exact w1.elim
  |_=>exact w1.elim⟩
noncomputable def zf (fo fk:ai->R D):ai->R D:=fun ρ=>fo ρ>>=fun d=>match d with
 | .lst ds=>fk ρ>>=fun k=>(match fG ds,k with
  |some bs, .bl b=> .ok (.int (bs.count b))
  |_,_=> .bad)
 |_=> .bad
noncomputable def zg (fo fk:ai->R D):ai->R D:=fun ρ=>fo ρ>>=fun d=>match d with
 | .lst ds=>fk ρ>>=fun k=>(match fG ds,k with
  |some bs, .bl b=>if b∈bs/\bs.length<1000 then .ok (.int (bs.idxOf b))else .bad
  |_,_=> .bad)
 |_=> .bad
theorem AO (ho:PB ly X o fo) (hk:PQ ly X a fk) (hbase:attributeBase o "count" X.env (eval o X.env)=eval o X.env:=by rfl)
  (hfew:((backTo cpos (starEach [a] X.env)).all (fun x=> !x.1)&&(backToKw cpos (keywordEach [] X.env)).all (fun x=>x.1.isSome)
   &&decide (([a]:List Expr).length+([]:List Keyword).length+(if ([]:List Keyword).isEmpty then 0 else 1)<30))=true:=by rfl)
  (hline:(apos.endLine==cpos.line)=true:=by rfl) (hs:starEach [a] X.env=(false,eval a X.env)::starEach [] X.env:=by rfl) (hplain:(backTo cpos (starEach [] X.env)).any (·.1)=false:=by rfl):
  PQ ly X (.Call (.Attribute o "count" apos) [a] [] cpos) (zf fo fk):=fun c=>
 PE.weak (oP PySem.F.plainAttrs_list PySem.F.slot_list_count PySem.F.type_list_count sZ (ho c) (c_ (hk c) fj hs) hbase hfew hline hs hplain) fun σ H Q ⟨F,ρ,ri,w⟩=>⟨F,ρ,ri,(aK.bind.mp w).imp fun d _ w1 v H1 F1 e1 r1=>by
  cases d with
  |lst ds=>
   obtain⟨p,vs,rfl,h1,h2⟩:=r1.lst e1.sub
   refine⟨.inl ⟨rfl,vs,cT.of h1⟩,F1,ρ,ri.step e1,(aK.bind.mp w1).imp fun k _ w2 u H2 F2 e2 r2=> ?_⟩
   cases q:fG ds with
   |none=>simp only[q]at w2;exact w2.elim
   |some bs=>
    cases k with
    |bl b=>
     cases r2
     simp only[q]at w2
     rw[kj q h2]at h1
     exact⟨p,b,bs,rfl,rfl,cT.of (e2.keep _ _ h1),w2 _ H2 F2 (e1.trans e2) (.int _)⟩
    |_=>simp only[q]at w2;exact w2.elim
  |_=>exact w1.elim⟩
theorem AQ (ho:PB ly X o fo) (hk:PQ ly X a fk) (hbase:attributeBase o "index" X.env (eval o X.env)=eval o X.env:=by rfl)
  (hfew:((backTo cpos (starEach [a] X.env)).all (fun x=> !x.1)&&(backToKw cpos (keywordEach [] X.env)).all (fun x=>x.1.isSome)
   &&decide (([a]:List Expr).length+([]:List Keyword).length+(if ([]:List Keyword).isEmpty then 0 else 1)<30))=true:=by rfl)
  (hline:(apos.endLine==cpos.line)=true:=by rfl) (hs:starEach [a] X.env=(false,eval a X.env)::starEach [] X.env:=by rfl) (hplain:(backTo cpos (starEach [] X.env)).any (·.1)=false:=by rfl):
  PQ ly X (.Call (.Attribute o "index" apos) [a] [] cpos) (zg fo fk):=fun c=>
 PE.weak (oP PySem.F.plainAttrs_list PySem.F.slot_list_index PySem.F.type_list_index s_ (ho c) (c_ (hk c) fj hs) hbase hfew hline hs hplain) fun σ H Q ⟨F,ρ,ri,w⟩=>⟨F,ρ,ri,(aK.bind.mp w).imp fun d _ w1 v H1 F1 e1 r1=>by
  cases d with
  |lst ds=>
   obtain⟨p,vs,rfl,h1,h2⟩:=r1.lst e1.sub
   refine⟨.inl ⟨rfl,vs,cT.of h1⟩,F1,ρ,ri.step e1,(aK.bind.mp w1).imp fun k _ w2 u H2 F2 e2 r2=> ?_⟩
   cases q:fG ds with
   |none=>simp only[q]at w2;exact w2.elim
   |some bs=>
    cases k with
    |bl b=>
     cases r2
     simp only[q]at w2
     split at w2
     ·rename_i hb
      rw[kj q h2]at h1
      exact⟨p,b,bs,rfl,rfl,cT.of (e2.keep _ _ h1),hb.1,hb.2,w2 _ H2 F2 (e1.trans e2) (.int _)⟩
     ·exact w2.elim
    |_=>simp only[q]at w2;exact w2.elim
  |_=>exact w1.elim⟩
end
end L2.Pu
namespace L2
open PySem PySem.Spec PyProof.Rows
section
variable {X:Cx}
theorem rf (bs:List Bool):((List.range bs.length).all fun i=>bs.getD i false)=bs.all id:=by
 rw[Bool.eq_iff_iff,List.all_eq_true,List.all_eq_true]
 constructor
 ·intro h b hb
  obtain⟨i,hi,e⟩:=List.getElem_of_mem hb
  have:=h i (List.mem_range.mpr hi)
  simp[hi,e]at this
  exact this
 ·intro h i hi
  have hi:=List.mem_range.mp hi
  have:=h bs[i] (List.getElem_mem hi)
  simpa[hi]using this
theorem tW (hc:X.calm=true):cG X (.builtin "all") (fun xs H Q=>∃(p:Addr) (bs:List Bool),xs=[.ref p]/\cT X.K H p (bs.map V.bl)/\Q (.bl (bs.all id)) H):=by
 intro pins s σ H xs us Q I rv h
 obtain⟨p,bs,rfl,hx,q⟩:=h
 obtain⟨u,rfl,ru⟩:=gj rv
 cases ru
 obtain⟨its,r,ht,hz⟩:=I.list hx
 have hl:=ht.isList
 have hlt:p<s.heap.objs.size:=by obtain⟨_,e,_⟩:=hl;exact Heap.lt_size e
 refine call_all_walk (wpAny_pyIter_list hl ?_)
 refine⟨s.heap.objs.size,[s.heap.objs.size,p],[s.heap.objs.size],its.toArray.size,_,_,fun i=>bs.getD i false,rfl,Walks.list (A:=X.A.in1) (I.ok.hd hc) _ p (Nat.ne_of_lt hlt) its.toArray,⟨⟨_,Heap.get?_push_size _ rfl,rfl,rfl⟩,hl.push _⟩,fun i v s' Q' E' hP hQ=> ?_,fun h' tk hk=> ?_⟩
 ·obtain⟨b,e,rfl⟩:=jk r (i:=i) (v:=v) (by simpa using hP)
  have:bs.getD i false=b:=by simp[List.getD_eq_getElem?_getD,e]
  dsimp only at hQ
  rw[this]at hQ
  exact wpAny_truthy_bool hQ
 ·have e:((List.range its.toArray.size).all fun i=>bs.getD i false)=bs.all id:=by
   have hl:=r.length
   rw[List.length_map]at hl
   rw[List.size_toArray,<-hl];exact rf bs
  rw[e]
  exact⟨.bl _,H,I.kept (sY hk),rfl,q⟩
noncomputable def Cp (k:Int):Value->Bool
 | .int b _=>b==k
 |_=>false
theorem sq {k:Int}:∀{ns:List Int} {its:List Value},aO (ns.map V.int) its->its.countP (Cp k)=ns.count k
 |[],its,r=>by cases r;rfl
 |b::bs,its,r=>by
  cases r with
  |cons h t=>obtain⟨u,rfl⟩:=h;rw[List.countP_cons,List.count_cons,sq t];rfl
noncomputable def x_ (K:PySem.W.Frag):V->List V->Hp->VK->Prop:=fun x vs H Q=>∃(l:Addr) (k:Int) (ns:List Int),x= .ref l/\vs=[.int k]/\cT K H l (ns.map V.int)/\Q (.int (ns.count k)) H
theorem tX:Bc X "list.count" (x_ X.K):=by
 intro pins s σ H x vs v us Q I rx rv h
 obtain⟨l,k,bs,rfl,rfl,hx,q⟩:=h
 cases rx
 obtain⟨u,rfl,ru⟩:=rv.one
 obtain⟨tk,rfl⟩:=ru
 obtain⟨its,r,ht,hz⟩:=I.list hx
 obtain⟨⟨cls,dd,data,sl⟩,ho,hc,n,hd⟩:=ht.isList
 simp only at hc hd
 subst hc hd
 refine call_meets PySem.F.slot_list_count ⟨_,ho,rfl⟩ PySem.F.entry_list_count (PySem.F.args_list_count_2 _ _) (PySem.SeqAt.list_countAt l its.toArray n dd sl (.int k tk) (Cp k)) ⟨ho,fun y hy=> ?_,?_⟩
 ·obtain⟨i,hi,e⟩:=List.getElem_of_mem (show y∈its by simpa using hy)
  obtain⟨t,rfl⟩:=rW r (i:=i) (v:=y) (by rw[List.getElem?_eq_getElem hi,e])
  exact PySem.SeqAt.EqAt.int_int _ t k tk
 ·rw[show its.toArray.toList=its from rfl,sq r]
  exact⟨.int _,H,I.tok _,⟨_,rfl⟩,q⟩
noncomputable def iR {α:Type} (xs:List α) (k:Nat) (y:α):List α:=xs.take k++y::xs.drop k
theorem nq {α:Type} (xs:List α) (k:Nat) (y:α):(iR xs k y).length=xs.length+1:=by
 unfold iR;rw[List.length_append,List.length_cons,List.length_take,List.length_drop];omega
noncomputable def y0:V->List V->Hp->VK->Prop:=fun x vs H Q=>∃l xs i y,x= .ref l/\vs=[.int i,y]/\H l=some (.lst xs)/\0<=i/\i<=(xs.length:Int)/\xs.length<sizeLine/\Q .non (br H l (.lst (iR xs i.toNat y)))
theorem tY:Bc X "list.insert" y0:=by
 intro pins s σ H x vs v us Q I rx rv h
 obtain⟨l,xs,i,y,rfl,rfl,hH,h0,h1,hz,q⟩:=h
 cases rx
 obtain⟨u,w,rfl,ru,rw_⟩:=rv.two
 obtain⟨t,rfl⟩:=ru
 obtain⟨z,its,n,r,hl,e⟩:=I.lstM hH
 have big:(sizeLine:Int)<2 ^63:=by decide
 have hfit:¬(!Builtin.List.listFitsIndex i)=true:=by
  rw[fitsIndex_both (by omega) (by omega)]
  exact Bool.false_ne_true
 refine call_meets F.slot_list_insert ⟨_,e,rfl⟩ F.entry_list_insert (F.args_list_insert_3 _ _ _) (AutoListH.list_insert_list_int_val_1 l its.toArray n i t w hfit (by rw[List.size_toArray];omega)) ⟨e,?_⟩
 refine⟨.non,_,I.lset (its':=iR its i.toNat w) hH e ?_ ((r.take _).append (.cons rw_ (r.drop _))) ?_,rfl,q⟩
 ·show (its.toArray.extract 0 (if i<0 then _ else min i.toNat its.toArray.size)).push w++its.toArray.extract (if i<0 then _ else min i.toNat its.toArray.size)=_
  rw[if_neg (by omega),Nat.min_eq_left (by rw[List.size_toArray];omega)]
  apply Array.ext'
  simp[iR]
  exact List.take_of_length_le (by simp)
 ·show (iR xs i.toNat y).length<=_
  rw[nq]
  omega
noncomputable def Cq (K:PySem.W.Frag):R2:=fun x y H Q=>∃p q xs,x= .ref p/\y= .ref q/\cT K H p xs/\cT K H q []/\Q (.bl (!xs.isEmpty)) H
theorem lX (hu:X.A.units+1<cLine):iH X (compareOp .NotEq) (Cq X.K):=by
 intro pins s σ H x y v u Q I rx ry h
 obtain⟨p,q,xs,rfl,rfl,h1,h2,k⟩:=h
 cases rx
 cases ry
 obtain⟨its,r,pl,hz⟩:=I.list h1
 obtain⟨its2,r2,pl2,hz2⟩:=I.list h2
 cases r2
 have l:=r.length
 cases xs with
 |nil=>
  cases its with
  |nil=>exact SeqAt.RcNeAt.lists (e:=fun _=>true) pl.isList pl2.isList rfl (by omega) (fun j a b=>by simp at b) X.prog X.w X.xe (EP X pins σ Q) ⟨.bl _,H,I,rfl,by simpa using k⟩
  |cons a b=>cases l
 |cons a b=>
  cases its with
  |nil=>cases l
  |cons c d=>exact SeqAt.RcNeAt.lists_lengths pl.isList pl2.isList (by simp) (by omega) X.prog X.w X.xe (EP X pins σ Q) ⟨.bl _,H,I,rfl,by simpa using k⟩
end
end L2
namespace L2.Pu
open PySem PySem.Spec PyProof.Rows
variable {ly:List eN}
section
variable {K:PySem.W.Frag} {F:Hp}
noncomputable def y3:List D->Option D
 |[.lst ds]=>(fG ds).map fun bs=> .bl (bs.all id)
 |_=>none
theorem ya:iY K (fun xs H Q=>∃(p:Addr) (bs:List Bool),xs=[.ref p]/\cT K H p (bs.map V.bl)/\Q (.bl (bs.all id)) H) y3:=by
 intro vs ds d H F Q s rv h k
 match ds,h with
 |[.lst xs],h=>
  obtain⟨v,rfl,r⟩:=rv.one
  obtain⟨a,ws,rfl,h1,h2⟩:=r.lst s
  replace h:(fG xs).map (fun bs=>D.bl (bs.all id))=some d:=h
  cases e:fG xs with
  |none=>rw[e]at h;cases h
  |some bs=>
   rw[e]at h
   cases h
   rw[kj e h2]at h1
   exact⟨a,bs,rfl,cT.of h1,k _ H F (bL.refl s) (.bl _)⟩
theorem vT:bootBuiltins "all"=some (.builtin "all"):=by decide+kernel
noncomputable def ic:D->D->Option D
 | .lst ds, .lst []=>some (.bl (!ds.isEmpty))
 |_,_=>none
theorem jB:gZ K (Cq K) ic:=by
 intro v u x y d H F Q s rx ry h k
 unfold ic at h
 split at h
 ·rename_i ds
  cases h
  obtain⟨p,vs,rfl,h1,h2⟩:=rx.lst s
  obtain⟨q,us,rfl,h3,h4⟩:=ry.lst s
  rw[h4.nilI]at h3
  refine⟨p,q,vs,rfl,rfl,cT.of h1,cT.of h3,?_⟩
  have l:=h2.length
  have e:vs.isEmpty=ds.isEmpty:=by
   cases vs<;>cases ds<;>first|rfl|cases l
  rw[e]
  exact k _ H F (bL.refl s) (.bl _)
 ·cases h
end
section
variable {X:Cx} {a b o e:Expr} {fa fb fo fk:ai->R D} {apos cpos pos:Pos}
noncomputable def pL (fo fk:ai->R D):ai->R D:=fun ρ=>fo ρ>>=fun d=>match d with
 | .lst ds=>fk ρ>>=fun k=>(match cZ ds,k with
  |some bs, .int b=> .ok (.int (bs.count b))
  |_,_=> .bad)
 |_=> .bad
theorem AR (ho:PB ly X o fo) (hk:PQ ly X a fk) (hbase:attributeBase o "count" X.env (eval o X.env)=eval o X.env:=by rfl)
  (hfew:((backTo cpos (starEach [a] X.env)).all (fun x=> !x.1)&&(backToKw cpos (keywordEach [] X.env)).all (fun x=>x.1.isSome)
   &&decide (([a]:List Expr).length+([]:List Keyword).length+(if ([]:List Keyword).isEmpty then 0 else 1)<30))=true:=by rfl)
  (hline:(apos.endLine==cpos.line)=true:=by rfl) (hs:starEach [a] X.env=(false,eval a X.env)::starEach [] X.env:=by rfl) (hplain:(backTo cpos (starEach [] X.env)).any (·.1)=false:=by rfl):
  PQ ly X (.Call (.Attribute o "count" apos) [a] [] cpos) (pL fo fk):=fun c=>
 PE.weak (oP PySem.F.plainAttrs_list PySem.F.slot_list_count PySem.F.type_list_count tX (ho c) (c_ (hk c) fj hs) hbase hfew hline hs hplain) fun σ H Q ⟨F,ρ,ri,w⟩=>⟨F,ρ,ri,(aK.bind.mp w).imp fun d _ w1 v H1 F1 e1 r1=>by
  cases d with
  |lst ds=>
   obtain⟨p,vs,rfl,h1,h2⟩:=r1.lst e1.sub
   refine⟨.inl ⟨rfl,vs,cT.of h1⟩,F1,ρ,ri.step e1,(aK.bind.mp w1).imp fun k _ w2 u H2 F2 e2 r2=> ?_⟩
   cases q:cZ ds with
   |none=>simp only[q]at w2;exact w2.elim
   |some bs=>
    cases k with
    |int b=>
     cases r2
     simp only[q]at w2
     rw[gM q h2]at h1
     exact⟨p,b,bs,rfl,rfl,cT.of (e2.keep _ _ h1),w2 _ H2 F2 (e1.trans e2) (.int _)⟩
    |_=>simp only[q]at w2;exact w2.elim
  |_=>exact w1.elim⟩
noncomputable def lY (i:Nat) (fa fb:ai->R D):ai->R bY:=fun ρ=>match ρ[i]? with
 |some (some (.own (.lst ds)))=>fa ρ>>=fun k=>fb ρ>>=fun d=>match k with
  | .int j=>if 0<=j/\j<=(ds.length:Int)/\ds.length<lim then .ok (.nx (ρ.set i (some (.own (.lst (iR ds j.toNat d))))))else .bad
  |_=> .bad
 |_=> .bad
theorem lZ (i:Nat) {x:Str} {px apos cpos:Pos} (ha:PQ ly X a fa) (hb:PQ ly X b fb) (hN:X.N[i]? =some x:=by rfl) (hv:rG X.env.scope x:=by first|exact Or.inl rfl|exact Or.inr (Or.inl rfl)|exact Or.inr (Or.inr rfl)) (hd:(x==("__debug__":Str))=false:=by decide)
  (hcd:(x==("__classdict__":Str))=false:=by decide) (hbase:attributeBase (.Name x px) "insert" X.env (eval (.Name x px) X.env)=eval (.Name x px) X.env:=by rfl)
  (hfew:((backTo cpos (starEach [a,b] X.env)).all (fun x=> !x.1)&&(backToKw cpos (keywordEach [] X.env)).all (fun x=>x.1.isSome)
   &&decide (([a,b]:List Expr).length+([]:List Keyword).length+(if ([]:List Keyword).isEmpty then 0 else 1)<30))=true:=by rfl)
  (hline:(apos.endLine==cpos.line)=true:=by rfl) (hs:starEach [a,b] X.env=(false,eval a X.env)::starEach [b] X.env:=by rfl) (hs2:starEach [b] X.env=(false,eval b X.env)::starEach [] X.env:=by rfl) (hplain:(backTo cpos (starEach [b] X.env)).any (·.1)=false:=by rfl)
  (hsw:swapsWith (.Call (.Attribute (.Name x px) "insert" apos) [a,b] [] cpos) none pos.line X.env=pure false:=by rfl):mw ly X (.Expr (.Call (.Attribute (.Name x px) "insert" apos) [a,b] [] cpos) pos) (lY i fa fb):=fun c=>
 PS.weak (rH (oP PySem.F.plainAttrs_list PySem.F.slot_list_insert PySem.F.type_list_insert tY (pv i hN hv hd hcd) (c_ (ha c) (c_ (hb c) fj hs2) hs) hbase hfew hline hs hplain) hsw) fun D σ H ⟨F,ρ,ri,w⟩=>by
  unfold lY at w
  split at w
  ·rename_i ds hi
   obtain⟨p,vs,h1,h2,h3⟩:=ri.ownL hi
   refine⟨_,h1, .inl ⟨rfl,vs,cT.of h2⟩,F,ρ,ri,(aK.bind.mp w).imp fun k _ w1 v H1 F1 e1 r1=>⟨F1,ρ,ri.step e1,(aK.bind.mp w1).imp fun d _ w2 u H2 F2 e2 r2=> ?_⟩⟩
   cases k with
   |int j=>
    cases r1
    dsimp only at w2
    split at w2
    ·rename_i hl
     have e12:=e1.trans e2
     have hlen:=h3.length
     refine⟨p,vs,j,u,rfl,rfl,e12.keep _ _ h2,hl.1,by rw[hlen];exact hl.2.1,Nat.lt_of_lt_of_le (by rw[hlen];exact hl.2.2) eh,?_⟩
     exact w2 σ _ F2 e12.grow ((ri.step e12).change (o:= .lst vs) hi h1 (.lst (((h3.mono e12.grow).take _).append (.cons r2 ((h3.mono e12.grow).drop _)))))
    ·exact w2.elim
   |_=>exact w2.elim
  ·exact w.elim
end
end L2.Pu
namespace L2.Pu
open PySem PySem.Spec PyProof.Rows
variable {ly:List eN}
noncomputable def dE (g:D->ai->R ai) (gt:ai->R Bool) (fe:ai->R D):List D->ai->R (List D)
 |[],_=> .ok []
 |d::r,τ=>match g d τ with
  | .ok τ1=>(match gt τ1 with
   | .ok b=>if b=true then (fe τ1>>=fun y=>dE g gt fe r τ1>>=fun ys=> .ok (y::ys))else dE g gt fe r τ1
   |_=> .bad)
  |_=> .bad
noncomputable def j4 (N:List Str) (names:List (Str×NameKind)) (fi:ai->R (List D)) (g:D->ai->R ai) (gt:ai->R Bool) (fe:ai->R D):ai->R (List D):=fun ρ=>fi ρ>>=fun ds=>if ds.length<=lim then (match dE g gt fe ds (gn N names ρ)with
 | .ok es=> .ok es
 | .err x _=> .err x ρ
 | .bad=> .bad)else .bad
noncomputable def DD (K:PySem.W.Frag) (fe:ai->R D) (EO:Value->Hp->Prop):TE:=fun σ H Q=>∃c:d4 [],(∀x ρ σ' H' F' cls,dW K x cls->RI K c ρ σ' H' F'->c.Er x ρ->EO cls H')/\tQ K c fe σ H Q
theorem Ej {X:Cx} {scope:Scope} {elt:Expr} {fe:ai->R D} (pl:dU X) (h:∀s H ex E,PQ [] (bS X scope s H ex E) elt fe):∀pins σ s3 H3 fp EO,aC X pins σ H3 s3->(∀b∈fp,eS X pins H3 b/\b<s3.heap.objs.size)->PE (bS X scope s3 H3 fp (Ah X pins scope fp EO s3 H3)) elt (DD X.K fe EO):=by
 intro pins σ s3 H3 fp EO I3 f3 pins' s τ H Q I hq
 obtain⟨c,hb,q⟩:=hq
 refine h s3 H3 fp _ ⟨c, .inr (.inr ⟨rfl,?_⟩)⟩ pins' s τ H Q I q
 intro pins2 σ2 H2 s2 e s' I2 hx
 obtain⟨a,cls,H',rfl,os,bare,un,hok,⟨n1,n2,oe,vs,T,oT,ts,g1,g2,g3,g4,g5,g6,g7,g8,g9,g10⟩,x,ρ',F',ec,ri,er⟩:=hx
 have I2':aC (bR X scope s3 H3 fp) pins2 σ2 H2 s2:=Ag I2
 exact⟨a,cls,H',σ2,rfl,(Ag (I2.call' os un hok bare (fun b hb=>by cases hb))).pins_of (fun p hp=>by cases hp),⟨s9 I3 pl f3 I2' n1 n2,oe,vs,g1,g2,g3,T,g4,s9 I3 pl f3 I2' g5 g6,g7,oT,ts,g8,g9,g10⟩,hb x ρ' σ2 H' F' cls ec ri er⟩
theorem RI.reEr {K:PySem.W.Frag} {A B C:Hp} {Er Er':Str->ai->Prop} {ρ:ai} {σ:St} {H F:Hp} (r:RI K (⟨A,B,C,Er,fun _=>none,fun _=>none⟩:d4 []) ρ σ H F):RI K (⟨A,B,C,Er',fun _=>none,fun _=>none⟩:d4 []) ρ σ H F:=
 ⟨r.1,r.2,r.3,r.4,r.5,r.6,r.7,r.8,r.9,r.10,r.11,r.12⟩
noncomputable def sr (K:PySem.W.Frag) (p:Addr) (H1 F1:Hp) (Q:Hp->Prop) (er:Str->Prop):R (List D)->Prop
 | .ok es=>∀H2 F2 vs,bL H1 F1 H2 F2->H2 p=some (.lst vs)->F2 p=none->Reps K F2 vs es->Q H2
 | .err x _=>er x
 | .bad=>False
noncomputable def DE (pre:List D):R (List D)->R (List D)
 | .ok es=> .ok (pre++es)
 |r=>r
theorem pM {K:PySem.W.Frag} {c:d4 ly} {ρ:ai} {σ:St} {H F H1 F1:Hp} {N:List Str} {names:List (Str×NameKind)} {p:Addr} {g:D->ai->R ai} {gt:ai->R Bool} {fe:ai->R D} {J:It} {ds:List D} {Q:Hp->Prop}
  (ri:RI K c ρ σ H F) (e:bL H F H1 F1) (jo:qH K F1 J ds) (hp:H1 p=none) (hl:ds.length<=lim) (he:sr K p H1 F1 Q (fun x=>c.Er x ρ) (dE g gt fe ds (gn N names ρ))):
  gF J (CM K g) (CN K gt) (DD K fe fun cls H'=>∃x F',dW K x cls/\RI K c ρ σ H' F'/\c.Er x ρ) p (ji N names σ) Q (br H1 p (.lst [])):=by
 have s1:aQ F1 H1:=e.sub
 have f1:F1 p=none:=s1.free hp
 refine⟨fun i m ys τ H=>∃F ρ' pre,RI K (⟨br H1 p (.lst ys),F1,H1,fun _ _=>False,fun _=>none,fun _=>none⟩:d4 []) ρ' τ H F/\Reps K F ys pre/\pre.length<=i/\m=ds.length - i/\i<=ds.length/\sr K p H1 F1 Q (fun x=>c.Er x ρ) (DE pre (dE g gt fe (ds.drop i) ρ')),
  ⟨_,F1,_,[],yM ri e hp, .nil,Nat.le_refl _,rfl,Nat.zero_le _,?_⟩,?_⟩
 ·rw[List.drop_zero]
  cases q:dE g gt fe ds (gn N names ρ)<;>rw[q]at he<;>exact he
 rintro i m ys τ H2 ⟨F2,ρ',pre,r2,rp,hpi,rfl,hi,hc⟩
 have ext2:∀{Er ρ' τ H F},RI K (⟨br H1 p (.lst ys),F1,H1,Er,fun _=>none,fun _=>none⟩:d4 []) ρ' τ H F->bL H1 F1 H F:=fun {Er ρ' τ H F} r=>⟨r.sub,(bT hp).trans r.ext.keep,r.ext.grow,fun a ha=>by
  rcases r.ext.new a ha with z|z
  ·exact .inl z
  ·refine .inr ?_
   change br H1 p (.lst ys) a=none at z
   rw[aw (fun q=>by subst q;rw[aA]at z;cases z)]at z
   exact z⟩
 have hF2:F2 p=none:=by
  cases q:F2 p with
  |none=>rfl
  |some u=>
   rcases r2.ext.new p (by rw[q];simp)with z|z
   ·exact absurd f1 z
   ·change br H1 p (.lst ys) p=none at z;rw[aA]at z;cases z
 have hD:∀{ρ' τ H F},RI K (⟨br H1 p (.lst ys),F1,H1,fun _ _=>False,fun _=>none,fun _=>none⟩:d4 []) ρ' τ H F->H p=some (.lst ys):=fun r=>r.ext.keep p _ aA
 refine⟨hD r2,?_⟩
 by_cases hlt:i<ds.length
 ·refine .inr ⟨jo.go i H2 (r2.ext.grow.trans r2.sub) hlt,?_,fun x H3 y=> ?_⟩
  ·have:=rp.length
   have:=eh
   omega
  ·obtain⟨F3,d,hd,e3,r3⟩:=jo.yld i H2 F2 x H3 r2.ext.grow r2.sub y hlt
   obtain⟨hl',ed⟩:=List.getElem?_eq_some_iff.mp hd
   rw[List.drop_eq_getElem_cons hl',ed,dE]at hc
   cases h1:g d ρ' with
   |err x ρ''=>rw[h1]at hc;exact hc.elim
   |bad=>rw[h1]at hc;exact hc.elim
   |ok τ1=>
   rw[h1]at hc
   dsimp only at hc
   cases h2:gt τ1 with
   |err x ρ''=>rw[h2]at hc;exact hc.elim
   |bad=>rw[h2]at hc;exact hc.elim
   |ok b=>
   rw[h2]at hc
   dsimp only at hc
   refine⟨_,fun e ρ h=>h,F3,ρ',d,r2.step e3,r3,?_⟩
   rw[h1]
   intro τ4 H4 F4 s4 r4
   refine⟨_,fun e ρ h=>h,F4,τ1,r4,?_⟩
   rw[h2]
   intro H5 F5 e5
   cases b with
   |false=>
    rw[if_neg (by decide)]at hc
    exact⟨ds.length - (i+1),by omega,F5,τ1,pre,r4.step e5,(rp.mono e3.grow).mono (s4.trans e5.grow),by omega,rfl,hlt,hc⟩
   |true=>
    rw[if_pos rfl]at hc ⊢
    refine⟨⟨br H1 p (.lst ys),F1,H1,fun x _=>c.Er x ρ,fun _=>none,fun _=>none⟩,fun x ρ' σ' H' F' cls ec r er=>⟨x,F',ec,ri.step (e.trans (ext2 r)),er⟩,F5,τ1,(r4.step e5).reEr,?_⟩
    cases h3:fe τ1 with
    |err x ρ''=>rw[h3]at hc;exact hc
    |bad=>rw[h3]at hc;exact hc.elim
    |ok y'=>
    rw[h3,ax]at hc
    intro v H6 F6 e6 r6
    have r6':=(r4.step e5).step e6
    refine⟨hD r6',ds.length - (i+1),by omega,F6,τ1,pre++[y'],r6'.bump hp ?_,(((rp.mono e3.grow).mono (s4.trans e5.grow)).mono e6.grow).append (.cons r6 .nil),by simp;omega,rfl,hlt,?_⟩
    ·cases q:F6 p with
     |none=>rfl
     |some u=>
      rcases r6'.ext.new p (by rw[q];simp)with z|z
      ·exact absurd f1 z
      ·change br H1 p (.lst ys) p=none at z;rw[aA]at z;cases z
    ·cases h4:dE g gt fe (ds.drop (i+1)) τ1 with
     |err x ρ''=>rw[h4]at hc;exact hc
     |bad=>rw[h4]at hc;exact hc
     |ok rest=>
      rw[h4,ax]at hc
      show sr K p H1 F1 Q (fun x=>c.Er x ρ) (.ok (pre++[y']++rest))
      rw[List.append_assoc]
      exact hc
 ·have ei:i=ds.length:=by omega
  subst ei
  rw[List.drop_length]at hc
  replace hc:sr K p H1 F1 Q (fun x=>c.Er x ρ) (.ok (pre++[])):=hc
  rw[List.append_nil]at hc
  exact .inl ⟨jo.stop H2 (r2.ext.grow.trans r2.sub),hc H2 F2 ys (ext2 r2) (hD r2) hF2 rp⟩
section
variable {X:Cx} {elt tg iter:Expr} {ifs:List Expr} {scope:Scope} {pos:Pos} {fi:ai->R (List D)} {g:D->ai->R ai} {gt:ai->R Bool} {fe:ai->R D}
theorem yb (i:Nat) {y:Str} {py spos:Pos} (S:aS X scope) (hc:X.calm=true) (hN:X.N.Nodup) (hi:Ar ly X tg iter fi) (hg:∀s H ex E,wF [] (bS X scope s H ex E) tg g) (hif:∀s H ex E,qK [] (bS X scope s H ex E) ifs gt) (hel:∀s H ex E,PQ [] (bS X scope s H ex E) elt fe)
  (pl:dU X:=by exact⟨rfl,rfl,rfl⟩)
  (hi':X.N[i]? =some y:=by rfl) (hx:uh X.env.scope y:=by first|exact Or.inl rfl|exact Or.inr rfl) (hf:X.fn y=true\/X.env.scope.names.lookup y=some .local:=by first|exact .inl rfl|exact .inr rfl|assumption)
  (hsw:swapsWith (.ListComp elt [⟨tg,iter,ifs,0⟩] scope pos) (some (.Name y py)) spos.line X.env=pure true:=by rfl) (hs:∀x,foldedSetIterable iter X.env x=pure x:=by intro _;rfl) (hfr:jY ly i:=by(repeat (first|assumption|exact L2.Pu.eF|refine L2.Pu.free_cons ⟨by first|decide|simp,by first|decide|simp⟩ ?_))):
  mw ly X (.Assign [.Name y py] (.ListComp elt [⟨tg,iter,ifs,0⟩] scope pos) spos) (gq i (j4 X.N scope.names fi g gt fe)):=fun c=>
 PS.weak (v3 (g:=CM X.K g) (tt:=CN X.K gt) (te:=DD X.K fe) pl S hc (hi c) (fun s H ex E=>CO (hg s H ex E)) (fun s H ex E=>CP (hif s H ex E)) (Ej pl hel) (nG hN hi' hx hf) hsw hs) fun D σ H ⟨F,ρ,ri,w⟩=>by
  refine⟨fun cls H'=>∃x F',dW X.K x cls/\RI X.K c.1 ρ σ H' F'/\c.1.Er x ρ,fun cls H' pins s a ⟨x,F',ec,r,er⟩ I fl=> ?_,F,ρ,ri,(aK.bind.mp (aK.bind.mp w)).imp fun ds _ w1 J H1 F1 e1 jo p hp=> ?_⟩
  ·rcases c.2.plain pl.st with ⟨_,thr⟩|no
   ·exact thr pins σ ρ H' F' s a cls x I r fl ec er
   ·exact absurd er (no x ρ)
  split at w1
  ·rename_i hl
   refine pM ri e1 jo hp hl ?_
   cases q:dE g gt fe ds (gn X.N scope.names ρ)with
   |err x ρ'=>rw[q]at w1;exact w1
   |bad=>rw[q]at w1;exact w1
   |ok es=>
    rw[q]at w1
    intro H2 F2 vs e2 hp2 hf2 rv
    refine w1 _ H2 F2 (e1.grow.trans e2.grow) ((ri.step (e1.trans e2)).setOwn i hfr hp2 hf2 (ri.ext.keep.free (e1.keep.free hp)) (.lst rv) (fun j d' _ hj ej=> ?_) (ri.celNe (e1.trans e2).keep (e1.keep.free hp)))
    obtain⟨a,o,k1,k2,_⟩:=ri.own j d' hj
    rw[ej]at k1
    cases k1
    rw[e1.keep.free hp]at k2
    cases k2
  ·exact w1.elim
end
end L2.Pu
namespace My
open PySem PySem.Spec PyProof.Rows L2 L2.Pu
noncomputable def l_ (i:Nat):Stmt:=PySem.Challenge.pw_tankbalance_k08_doubting.main.body.getD i (.Pass ⟨0,0,0,0⟩)
noncomputable abbrev gP:List Str:=["tanks","streams","rises","readings"]
noncomputable abbrev d9:Stmt:=kU (l_ 7) 0
noncomputable def m6:ai->R bY:=
 aH (pE 0 (aT (ar 1) (gN 5)))
  (aH (pE 0 (aT (cI d8 (aa (cI fF (aa (ae 2) (aj))) (aj))) (gN 6)))
  (aH (pE 0 (aT (cI d8 (aa (ae 3) (aj))) (gN 7)))
  (pE 0 (aT (cI d8 (aa (cI fF (aa (ae 4) (aj))) (aj))) (gN 8)))))
noncomputable def kD:List (Str×Nat):=[("tanks",5),("streams",6),("rises",7),("readings",8)]
noncomputable def bH:List D->R (List (Str×D)):=jv 4 8 kD m6
noncomputable abbrev cS:Stmt:=kU (l_ 7) 1
noncomputable def cX:ai->R bY:=
 dN (fT (f2 iE (f2 bv (ae 2) (fC (.int 0))) (ae 1)))
  (bN (ar 2))
  (bc)
noncomputable def eW:ai->R bY:=
 aH (i5 (cH (fE "Day" "streams" (ae 0))) (gN 2) (cX))
  (j0 "UnknownStream" (aa (fC (.str "no stream of this day has that number")) (aj)))
noncomputable def dn:List D->R D:=bA 2 3 eW
noncomputable abbrev cz:Stmt:=kU (l_ 7) 2
noncomputable def fZ:ai->R bY:=
 aH (aT (du "Day" "stream" 2 dn (ar 0) (aa (ar 1) (aj))) (gN 2))
  (bN (f2 (cQ false) (f2 bv (ae 2) (fC (.int 0))) (cI vA (aa (fE "Day" "readings" (ae 0)) (aj)))))
noncomputable def aJ:List D->R D:=bA 2 3 fZ
noncomputable abbrev cf:Stmt:=kU (l_ 7) 5
noncomputable def cg:ai->R bY:=
 aH (gq 2 (j4 ["self","numbers","meters_there","kept"] [(".0", .local),("number", .local),("self", .free)] (cH (ar 1)) (gN 1) (dY) (du "Day" "metered" 2 aJ (ar 2) (aa (ar 1) (aj)))))
  (aH (dN (fT (f2 Av (iG (ae 1)) (cI cJ (aa (ae 1) (aj)))))
  (j0 "Twice" (aa (fC (.str "a stream is named twice")) (aj)))
  (bc))
  (aH (dN (hX (eU (cI y3 (aa (ae 2) (aj)))))
  (j0 "NotMetered" (aa (fC (.str "a stream that is named has no meter on this day")) (aj)))
  (bc))
  (aH (gq 3 (bZ ["self","numbers","meters_there","kept"] [(".0", .local),("pair", .local),("numbers", .free)] (cH (fE "Day" "readings" (ae 0))) (gN 1) (fT (f2 (cQ true) (f2 bv (ae 1) (fC (.int 0))) (ae 2))) (ar 1)))
  (j_ [3] (bN (jw "Day" 4 bH (aa (fE "Day" "tanks" (ae 0)) (aa (fE "Day" "streams" (ae 0)) (aa (fE "Day" "rises" (ae 0)) (aa (ar 3) (aj)))))))))))
noncomputable def aG:List D->R D:=bA 2 4 cg
noncomputable abbrev fH:Stmt:=l_ 9
noncomputable def pN:ai->R bY:=
 aH (dN (fT (f2 Av (ae 1) (cI cJ (aa (ae 0) (aj)))))
  (bN (f2 bv (ae 0) (ae 1)))
  (bc))
  (bN (fC (.int 0)))
noncomputable def cV:List D->R D:=bA 2 2 pN
noncomputable abbrev dF:Stmt:=l_ 10
noncomputable def j5:ai->R bY:=
 aH (dN (fT (f2 iE (f2 bM (aM cV 2 (aa (ar 0) (aa (fC (.int 0)) (aj)))) (fC (.int 2))) (fC (.int 0))))
  (bN (aM cV 2 (aa (ar 0) (aa (ar 1) (aj)))))
  (bc))
  (aH (aT (f2 bM (f2 mE (f2 b_ (f2 b_ (f2 b_ (aM cV 2 (aa (ar 0) (aa (ar 1) (aj)))) (f2 bD (aM cV 2 (aa (ar 0) (aa (fC (.int 0)) (aj)))) (fC (.int 2)))) (f2 mE (fC (.int 7919)) (ae 1))) (fC (.int 1))) (fC (.int 48271))) (fC (.int 2147483647))) (gN 2))
  (bN (f2 bM (f2 mE (f2 b_ (ae 2) (ae 1)) (fC (.int 69621))) (fC (.int 2147483647)))))
noncomputable def aq:List D->R D:=bA 2 3 j5
noncomputable abbrev cA:Stmt:=l_ 11
noncomputable def cK:ai->R bY:=
 dN (eU (ae 1))
  (aH (aT (f2 bM (f2 mE (f2 b_ (f2 b_ (ae 0) (f2 mE (fC (.int 7919)) (ae 6))) (fC (.int 1))) (fC (.int 48271))) (fC (.int 2147483647))) (gN 7))
  (kN 4 (f2 bM (f2 bM (f2 mE (f2 b_ (ae 7) (ae 6)) (fC (.int 69621))) (fC (.int 2147483647))) (ae 3))))
  (aH (kN 4 (f2 bM (ae 5) (ae 3)))
  (aT (f2 bD (ae 5) (ae 3)) (gN 5)))
noncomputable def f_:ai->R bY:=
 aH (hZ 4 (aj))
  (aH (aT (ar 0) (gN 5))
  (aH (i5 (d0 (aa (ar 2) (aj))) (gN 6) (cK))
  (j_ [4] (bN (ar 4)))))
noncomputable def dv:List D->R D:=bA 4 8 f_
noncomputable abbrev da:Stmt:=l_ 12
noncomputable def fQ (rec_:List D->R D):ai->R bY:=
 dN (hX (eU (aM rec_ 2 (aa (f2 bv (ae 0) (ae 2)) (aa (f2 bv (ae 1) (ae 2)) (aj))))))
  (bN (fC (.bl false)))
  (bc)
noncomputable def dG (rec_:List D->R D):ai->R bY:=
 aH (dN (eU (mF "tuple" (ae 1)))
  (aH (dN (tm (hX (eU (mF "tuple" (ae 0)))) (fT (f2 yP (cI cJ (aa (ae 0) (aj))) (cI cJ (aa (ae 1) (aj))))))
  (bN (fC (.bl false)))
  (bc))
  (aH (i5 (d0 (aa (cI cJ (aa (ae 1) (aj))) (aj))) (gN 2) (fQ rec_))
  (bN (fC (.bl true)))))
  (bc))
  (aH (dN (eU (mF "bool" (ae 1)))
  (bN (iO (mF "bool" (ae 0)) (f2 iE (ae 0) (ae 1))))
  (bc))
  (bN (iO (mF "int" (ae 0)) (iO (p9 (mF "bool" (ae 0))) (f2 iE (ae 0) (ae 1))))))
noncomputable def cu:Nat->List D->R D
 |0=>fun _=> .bad
 |n+1=>bA 2 3 (dG (cu n))
noncomputable def aZ:List D->R D:=cu 8
noncomputable abbrev cB:Stmt:=l_ 13
noncomputable def ee:ai->R bY:=
 aH (aT (f2 b_ (f2 g_ (f2 g_ (fC (.int 61)) (ae 4)) (ae 2)) (ae 5)) (gN 6))
  (aH (aT (aM aq 2 (aa (ar 0) (aa (f2 b_ (fC (.int 5)) (ae 5)) (aj)))) (gN 7))
  (aH (aT (f2 bM (ae 7) (ae 6)) (gN 8))
  (aH (dN (fT (f2 iE (f2 bM (f2 bD (aM aq 2 (aa (ar 0) (aa (fC (.int 4)) (aj)))) (fC (.int 8))) (fC (.int 2))) (fC (.int 1))))
  (aT (f2 bM (ae 8) (fC (.int 4))) (gN 8))
  (bc))
  (aH (aT (f2 b_ (f2 b_ (ae 4) (fC (.int 1))) (ae 8)) (gN 4))
  (aH (aT (f2 bM (f2 bD (ae 7) (ae 6)) (f2 b_ (ae 1) (fC (.int 1)))) (gN 9))
  (aH (aT (f2 bM (f2 b_ (f2 b_ (ae 9) (fC (.int 1))) (f2 bM (f2 bD (f2 bD (ae 7) (ae 6)) (f2 b_ (ae 1) (fC (.int 1)))) (ae 1))) (f2 b_ (ae 1) (fC (.int 1)))) (gN 10))
  (kN 3 (gI (aa (ar 4) (aa (ar 9) (aa (ar 10) (aj))))))))))))
noncomputable def gf:ai->R bY:=
 aH (hZ 3 (aj))
  (aH (aT (fC (.int 0)) (gN 4))
  (aH (i5 (d0 (aa (ar 2) (aj))) (gN 5) (ee))
  (j_ [3] (bN (ar 3)))))
noncomputable def dw:List D->R D:=bA 3 11 gf
noncomputable abbrev cC:Stmt:=l_ 14
noncomputable def cL:ai->R bY:=
 dN (jZ (fT (f2 Av (f2 bM (aM aq 2 (aa (ar 0) (aa (f2 b_ (fC (.int 17)) (ae 4)) (aj)))) (fC (.int 4))) (ae 2))) (fT (f2 Av (cI cJ (aa (ae 3) (aj))) (fC (.int 10)))))
  (kN 3 (f2 bv (f2 bv (ae 1) (ae 4)) (fC (.int 0))))
  (bc)
noncomputable def gg:ai->R bY:=
 aH (hZ 3 (aj))
  (aH (i5 (d0 (aa (cI cJ (aa (ae 1) (aj))) (aj))) (gN 4) (cL))
  (j_ [3] (bN (ar 3))))
noncomputable def dz:List D->R D:=bA 3 5 gg
noncomputable abbrev dH:Stmt:=l_ 15
noncomputable def j6:ai->R bY:=
 aH (aT (f1 n_ (ae 3)) (gN 4))
  (aH (aT (ar 3) (gN 5))
  (aH (dN (fT (f2 vd (ae 1) (fC (.int 0))))
  (aH (aT (cI tz (aa (ae 4) (aa (f2 g_ (f2 bv (ae 0) (ae 1)) (fC (.int 1000))) (aj)))) (gN 4))
  (aT (cI tw (aa (ae 5) (aa (f2 b_ (f2 bv (ae 0) (ae 1)) (fC (.int 1000))) (aj)))) (gN 5)))
  (bc))
  (aH (dN (fT (f2 vd (ae 2) (fC (.int 0))))
  (aH (aT (cI tz (aa (ae 4) (aa (f2 g_ (f1 n_ (fC (.int 1000))) (f2 bv (ae 0) (ae 2))) (aj)))) (gN 4))
  (aT (cI tw (aa (ae 5) (aa (f2 g_ (fC (.int 1000)) (f2 bv (ae 0) (ae 2))) (aj)))) (gN 5)))
  (bc))
  (bN (cO (aa (ar 4) (aa (ar 5) (aj))))))))
noncomputable def fI:List D->R D:=bA 4 6 j6
noncomputable abbrev db:Stmt:=l_ 16
noncomputable def eX:ai->R bY:=
 aH (aT (f2 bv (ae 2) (ae 7)) (n8 3 (ft (gN 8) (ft (gN 9) (ft (gN 10) (n6))))))
  (aH (vO [5] (aM fI 4 (aa (ar 5) (aa (ar 9) (aa (ar 10) (aa (f2 bv (ae 4) (cI Az (aa (f2 (cQ false) (ae 8) (ae 3)) (aj)))) (aj)))))) 2 (ft (gN 11) (ft (gN 12) (n6))))
  (aH (aT (f2 b_ (ae 11) (f2 bM (f2 bv (ae 0) (ae 7)) (f2 b_ (f2 g_ (ae 12) (ae 11)) (fC (.int 1))))) (gN 13))
  (aH (vc 5 (ar 9) (f2 g_ (f2 bv (ae 5) (ae 9)) (ae 13)))
  (aH (vc 5 (ar 10) (f2 b_ (f2 bv (ae 5) (ae 10)) (ae 13)))
  (kN 6 (gI (aa (ar 8) (aa (ar 13) (aj)))))))))
noncomputable def ie:ai->R bY:=
 aH (pI 5 (f2 pJ (cO (aa (fC (.int 0)) (aj))) (f2 b_ (ae 1) (fC (.int 1)))))
  (aH (hZ 6 (aj))
  (aH (i5 (d0 (aa (cI cJ (aa (ae 2) (aj))) (aj))) (gN 7) (eX))
  (bN (cO (aa (cI d8 (aa (ae 6) (aj))) (aa (cI d8 (aa (yV (ae 5) (kx (fC (.int 1))) (ku)) (aj))) (aj)))))))
noncomputable def eK:List D->R D:=bA 5 14 ie
noncomputable abbrev dc:Stmt:=l_ 17
noncomputable def ig:ai->R bY:=
 aH (gq 5 (bZ ["_law_script","_law_n","_law_streams_here","_law_metered_here","_law_small","_law_figures_here"] [(".0", .local),("_law_k", .local),("_law_cell", .globalImplicit),("_law_script", .free)] (d0 (aa (cI cJ (aa (ae 2) (aj))) (aj))) (gN 1) (dY) (f2 bD (aM aq 2 (aa (ar 3) (aa (f2 b_ (fC (.int 17)) (ae 1)) (aj)))) (fC (.int 4)))))
  (j_ [5] (bN (aM eK 5 (aa (ar 5) (aa (ar 1) (aa (ar 2) (aa (ar 3) (aa (f2 bv (cO (aa (cO (aa (fC (.int 5000)) (aa (fC (.int 1000)) (aj)))) (aa (cO (aa (fC (.int 2)) (aa (fC (.int 2)) (aj)))) (aj)))) (ae 4)) (aj)))))))))
noncomputable def eL:List D->R D:=bA 5 6 ig
noncomputable abbrev cj:Stmt:=l_ 18
noncomputable def cW:ai->R bY:=
 aH (aT (f2 bv (ae 1) (ae 6)) (n8 2 (ft (gN 7) (ft (gN 8) (n6)))))
  (aH (aT (aM aq 2 (aa (ar 0) (aa (f2 b_ (fC (.int 29)) (ae 6)) (aj)))) (gN 9))
  (aH (dN (fT (f2 (cQ true) (ae 7) (ae 2)))
  (Ap)
  (bc))
  (aH (dN (tm (fT (f2 iE (ae 3) (fC (.int 3)))) (jZ (fT (f2 iE (ae 3) (fC (.int 1)))) (fT (f2 iE (f2 bM (ae 9) (fC (.int 3))) (fC (.int 0))))))
  (aT (f2 bv (cO (aa (f2 g_ (f2 bM (f2 bD (ae 9) (fC (.int 3))) (fC (.int 2001))) (fC (.int 1000))) (aa (f2 g_ (f2 bM (f2 bD (ae 9) (fC (.int 3))) (fC (.int 5))) (fC (.int 2))) (aj)))) (ae 4)) (gN 8))
  (bc))
  (kN 5 (gI (aa (ar 7) (aa (ar 8) (aj))))))))
noncomputable def fJ:ai->R bY:=
 aH (hZ 5 (aj))
  (aH (i5 (d0 (aa (cI cJ (aa (ae 1) (aj))) (aj))) (gN 6) (cW))
  (j_ [5] (bN (ar 5))))
noncomputable def de:List D->R D:=bA 5 10 fJ
noncomputable abbrev df:Stmt:=l_ 19
noncomputable def eY:ai->R bY:=
 aH (aT (aM aq 2 (aa (ar 0) (aa (f2 b_ (fC (.int 41)) (ae 5)) (aj)))) (gN 6))
  (aH (aT (f2 bv (ae 1) (ae 5)) (gN 7))
  (aH (dN (tm (fT (f2 iE (ae 2) (fC (.int 3)))) (jZ (fT (f2 iE (ae 2) (fC (.int 2)))) (fT (f2 iE (f2 bM (ae 6) (fC (.int 3))) (fC (.int 0))))))
  (aT (f2 bv (cO (aa (f2 g_ (f2 bM (f2 bD (ae 6) (fC (.int 3))) (fC (.int 2001))) (fC (.int 1000))) (aa (f2 g_ (f2 bM (f2 bD (ae 6) (fC (.int 3))) (fC (.int 5))) (fC (.int 2))) (aj)))) (ae 3)) (gN 7))
  (bc))
  (kN 4 (ar 7))))
noncomputable def ii:ai->R bY:=
 aH (hZ 4 (aj))
  (aH (i5 (d0 (aa (cI cJ (aa (ae 1) (aj))) (aj))) (gN 5) (eY))
  (j_ [4] (bN (ar 4))))
noncomputable def eM:List D->R D:=bA 4 8 ii
noncomputable abbrev dI:Stmt:=l_ 20
noncomputable def j7:ai->R bY:=
 aH (aT (f2 bM (aM aq 2 (aa (ar 0) (aa (fC (.int 1)) (aj)))) (fC (.int 8))) (gN 1))
  (aH (aT (fC (.int 0)) (gN 2))
  (aH (dN (fT (f2 vd (ae 1) (fC (.int 0))))
  (aT (f2 bM (aM aq 2 (aa (ar 0) (aa (fC (.int 2)) (aj)))) (fC (.int 13))) (gN 2))
  (bc))
  (aH (aT (f2 bM (aM aq 2 (aa (ar 0) (aa (fC (.int 4)) (aj)))) (fC (.int 4))) (gN 3))
  (aH (aT (f2 bM (f2 bD (aM aq 2 (aa (ar 0) (aa (fC (.int 4)) (aj)))) (fC (.int 4))) (fC (.int 2))) (gN 4))
  (aH (aT (aM dw 3 (aa (ar 0) (aa (ar 1) (aa (ar 2) (aj))))) (gN 5))
  (aH (aT (aM dz 3 (aa (ar 0) (aa (ar 5) (aa (f2 bM (aM aq 2 (aa (ar 0) (aa (fC (.int 3)) (aj)))) (fC (.int 5))) (aj))))) (gN 6))
  (aH (aT (aM eL 5 (aa (ar 0) (aa (ar 1) (aa (ar 5) (aa (ar 6) (aa (ar 4) (aj))))))) (gN 7))
  (aH (aT (aM de 5 (aa (ar 0) (aa (f2 bv (ae 7) (fC (.int 0))) (aa (ar 6) (aa (ar 3) (aa (ar 4) (aj))))))) (gN 8))
  (aH (aT (aM eM 4 (aa (ar 0) (aa (f2 bv (ae 7) (fC (.int 1))) (aa (ar 3) (aa (ar 4) (aj)))))) (gN 9))
  (bN (gI (aa (ar 1) (aa (cI d8 (aa (ae 5) (aj))) (aa (cI d8 (aa (ae 9) (aj))) (aa (cI d8 (aa (ae 8) (aj))) (aj))))))))))))))))
noncomputable def fK:List D->R D:=bA 1 10 j7
noncomputable abbrev eB:Stmt:=l_ 21
noncomputable def kl:ai->R bY:=
 aH (aT (f2 bM (aM aq 2 (aa (ar 0) (aa (fC (.int 48)) (aj)))) (fC (.int 4))) (gN 2))
  (aH (dN (fT (f2 iE (ae 2) (fC (.int 0))))
  (bN (jw "Day" 4 bH (aa (f2 bv (ae 1) (fC (.int 0))) (aa (cI gw (aa (f2 bv (ae 1) (fC (.int 1))) (aj))) (aa (cI gw (aa (f2 bv (ae 1) (fC (.int 2))) (aj))) (aa (cI gw (aa (f2 bv (ae 1) (fC (.int 3))) (aj))) (aj)))))))
  (bc))
  (aH (dN (fT (f2 iE (ae 2) (fC (.int 1))))
  (bN (jw "Day" 4 bH (aa (f2 bv (ae 1) (fC (.int 0))) (aa (tE (cI gw (aa (f2 bv (ae 1) (fC (.int 1))) (aj)))) (aa (cI gw (aa (f2 bv (ae 1) (fC (.int 2))) (aj))) (aa (tE (cI gw (aa (f2 bv (ae 1) (fC (.int 3))) (aj)))) (aj)))))))
  (bc))
  (aH (dN (fT (f2 iE (ae 2) (fC (.int 2))))
  (bN (jw "Day" 4 bH (aa (f2 bv (ae 1) (fC (.int 0))) (aa (f2 bv (ae 1) (fC (.int 1))) (aa (f2 bv (ae 1) (fC (.int 2))) (aa (f2 bv (ae 1) (fC (.int 3))) (aj)))))))
  (bc))
  (aH (aT (f2 bD (cI cJ (aa (f2 bv (ae 1) (fC (.int 1))) (aj))) (fC (.int 2))) (gN 3))
  (aH (aT (f2 bD (cI cJ (aa (f2 bv (ae 1) (fC (.int 3))) (aj))) (fC (.int 2))) (gN 4))
  (bN (jw "Day" 4 bH (aa (f2 bv (ae 1) (fC (.int 0))) (aa (f2 b_ (yV (f2 bv (ae 1) (fC (.int 1))) (kx (ar 3)) (ku)) (yV (f2 bv (ae 1) (fC (.int 1))) (ku) (kx (ar 3)))) (aa (f2 bv (ae 1) (fC (.int 2))) (aa (f2 b_ (yV (f2 bv (ae 1) (fC (.int 3))) (kx (ar 4)) (ku)) (yV (f2 bv (ae 1) (fC (.int 3))) (ku) (kx (ar 4)))) (aj))))))))))))
noncomputable def gB:List D->R D:=bA 2 5 kl
noncomputable abbrev dJ:Stmt:=l_ 22
noncomputable def j8:ai->R bY:=
 aH (dN (tm (hX (eU (aM aZ 2 (aa (fE "Day" "tanks" (ae 0)) (aa (f2 bv (ae 1) (fC (.int 0))) (aj)))))) (hX (eU (aM aZ 2 (aa (fE "Day" "streams" (ae 0)) (aa (f2 bv (ae 1) (fC (.int 1))) (aj)))))))
  (bN (fC (.bl false)))
  (bc))
  (bN (iO (aM aZ 2 (aa (fE "Day" "rises" (ae 0)) (aa (f2 bv (ae 1) (fC (.int 2))) (aj)))) (aM aZ 2 (aa (fE "Day" "readings" (ae 0)) (aa (f2 bv (ae 1) (fC (.int 3))) (aj))))))
noncomputable def cD:List D->R D:=bA 2 2 j8
noncomputable abbrev dg:Stmt:=l_ 23
noncomputable def ij:ai->R bY:=
 aH (gq 1 (bZ ["_law_case_here","_law_read"] [(".0", .local),("_law_row", .local)] (cH (f2 bv (ae 0) (fC (.int 3)))) (gN 1) (dY) (f2 bv (ae 1) (fC (.int 0)))))
  (bN (fL (bZ ["_law_case_here","_law_read"] [(".0", .local),("_law_stream", .local),("_law_read", .free)] (cH (f2 bv (ae 0) (fC (.int 1)))) (gN 1) (fT (f2 (cQ true) (f2 bv (ae 1) (fC (.int 0))) (ae 2))) (ar 1))))
noncomputable def dL:List D->R D:=bA 1 2 ij
noncomputable abbrev cE:Stmt:=l_ 24
noncomputable def gi:ai->R bY:=
 aH (gq 3 (bZ ["_law_script","_law_case_here","_law_named","_law_there","_law_row","_law_how","_law_spot","_law_loose_here","_law_others"] [(".0", .local),("_law_stream", .local)] (cH (f2 bv (ae 1) (fC (.int 1)))) (gN 1) (dY) (f2 bv (ae 1) (fC (.int 0)))))
  (aH (pI 4 (cI gw (aa (ae 2) (aj))))
  (aH (aT (f2 bM (aM aq 2 (aa (ar 0) (aa (fC (.int 50)) (aj)))) (fC (.int 12))) (gN 5))
  (aH (aT (aM aq 2 (aa (ar 0) (aa (fC (.int 51)) (aj)))) (gN 6))
  (aH (gq 7 (bZ ["_law_script","_law_case_here","_law_named","_law_there","_law_row","_law_how","_law_spot","_law_loose_here","_law_others"] [(".0", .local),("_law_stream", .local)] (cH (aM dL 1 (aa (ar 1) (aj)))) (gN 1) (dY) (f2 bv (ae 1) (fC (.int 0)))))
  (aH (dN (jZ (fT (f2 (cQ false) (ae 5) (gI (aa (fC (.int 4)) (aa (fC (.int 7)) (aa (fC (.int 8)) (aa (fC (.int 10)) (aj)))))))) (fT (f2 ic (ae 4) (cO (aj)))))
  (lY 4 (f2 bM (ae 6) (f2 b_ (cI cJ (aa (ae 4) (aj))) (fC (.int 1)))) (f2 bv (ae 4) (f2 bM (f2 bD (ae 6) (fC (.int 20))) (cI cJ (aa (ae 4) (aj))))))
  (bc))
  (aH (dN (jZ (fT (f2 (cQ false) (ae 5) (gI (aa (fC (.int 5)) (aa (fC (.int 8)) (aa (fC (.int 9)) (aa (fC (.int 10)) (aj)))))))) (fT (f2 ic (ae 7) (cO (aj)))))
  (lY 4 (f2 bM (f2 bD (ae 6) (fC (.int 400))) (f2 b_ (cI cJ (aa (ae 4) (aj))) (fC (.int 1)))) (f2 bv (ae 7) (f2 bM (f2 bD (ae 6) (fC (.int 8000))) (cI cJ (aa (ae 7) (aj))))))
  (bc))
  (aH (dN (fT (f2 (cQ false) (ae 5) (gI (aa (fC (.int 6)) (aa (fC (.int 7)) (aa (fC (.int 9)) (aa (fC (.int 10)) (aj))))))))
  (aH (gq 8 (bZ ["_law_script","_law_case_here","_law_named","_law_there","_law_row","_law_how","_law_spot","_law_loose_here","_law_others"] [(".0", .local),("_law_number", .local),("_law_there", .free)] (cH (f2 b_ (et (aa (f1 n_ (fC (.int 1))) (aa (fC (.int 62)) (aj)))) (cO (aa (f2 qP (fC (.int 10)) (fC (.int 20))) (aj))))) (gN 1) (fT (f2 (cQ true) (ae 1) (ae 2))) (ar 1)))
  (lY 4 (f2 bM (f2 bD (ae 6) (fC (.int 200000))) (f2 b_ (cI cJ (aa (ae 4) (aj))) (fC (.int 1)))) (f2 bv (ae 8) (f2 bM (f2 bD (ae 6) (fC (.int 4000000))) (cI cJ (aa (ae 8) (aj)))))))
  (bc))
  (j_ [4] (bN (ar 4))))))))))
noncomputable def cY:List D->R D:=bA 3 9 gi
noncomputable abbrev cF:Stmt:=l_ 25
noncomputable def bP:ai->R bY:=
 aH (hZ 2 (aj))
  (aH (qZ 3 (vL ["UnknownStream","Twice","NotMetered"])
  (bN (cO (aa (du "Day" "doubting" 2 aG (ar 0) (aa (ar 1) (aj))) (aa (fC (.str "")) (aj)))))
  (hZ 2 (aa (tL (mH [("UnknownStream",true),("Twice",false),("NotMetered",false)]) (ae 3)) (aa (tL (mH [("UnknownStream",false),("Twice",true),("NotMetered",false)]) (ae 3)) (aa (tL (mH [("UnknownStream",false),("Twice",false),("NotMetered",true)]) (ae 3)) (aj))))))
  (aH (aT (fC (.str "another")) (gN 4))
  (aH (dN (fT (f2 iE (zf (ae 2) (fC (.bl true))) (fC (.int 1))))
  (aT (f2 bv (cO (aa (fC (.str "UnknownStream")) (aa (fC (.str "Twice")) (aa (fC (.str "NotMetered")) (aj))))) (zg (ae 2) (fC (.bl true)))) (gN 4))
  (bc))
  (bN (cO (aa (fC .non) (aa (ar 4) (aj))))))))
noncomputable def bQ:List D->R D:=bA 2 5 bP
noncomputable abbrev cm:Stmt:=l_ 26
noncomputable def bI:ai->R bY:=
 aH (dN (fT (f2 ic (fL (bZ ["_law_case_here","_law_row"] [(".0", .local),("_law_number", .local),("_law_case_here", .free)] (cH (ar 1)) (gN 1) (fT (f2 (cQ true) (ae 1) (fL (bZ [".0","_law_number","_law_case_here"] [(".0", .local),("_law_stream", .local)] (cH (f2 bv (ae 2) (fC (.int 1)))) (gN 1) (dY) (f2 bv (ae 1) (fC (.int 0))))))) (ar 1))) (cO (aj))))
  (bN (fC (.str "UnknownStream")))
  (bc))
  (aH (dN (fT (f2 ic (fL (bZ ["_law_case_here","_law_row"] [(".0", .local),("_law_number", .local),("_law_row", .free)] (cH (ar 1)) (gN 1) (fT (f2 vd (pL (ae 2) (ar 1)) (fC (.int 1)))) (ar 1))) (cO (aj))))
  (bN (fC (.str "Twice")))
  (bc))
  (aH (dN (fT (f2 ic (fL (bZ ["_law_case_here","_law_row"] [(".0", .local),("_law_number", .local),("_law_case_here", .free)] (cH (ar 1)) (gN 1) (fT (f2 (cQ true) (ae 1) (fL (bZ [".0","_law_number","_law_case_here"] [(".0", .local),("_law_one", .local)] (cH (f2 bv (ae 2) (fC (.int 3)))) (gN 1) (dY) (f2 bv (ae 1) (fC (.int 0))))))) (ar 1))) (cO (aj))))
  (bN (fC (.str "NotMetered")))
  (bc))
  (bN (fC (.str "")))))
noncomputable def bJ:List D->R D:=bA 2 2 bI
noncomputable abbrev iS:Stmt:=l_ 27
noncomputable def om:ai->R bY:=
 dN (tm (hX (eU (aM aZ 2 (aa (du "Day" "metered" 2 aJ (f2 bv (ae 7) (fC (.int 0))) (aa (ar 10) (aj))) (aa (fC (.bl false)) (aj)))))) (hX (eU (aM aZ 2 (aa (du "Day" "metered" 2 aJ (ar 2) (aa (ar 10) (aj))) (aa (fC (.bl true)) (aj)))))))
  (bN (fC (.bl false)))
  (bc)
noncomputable def vU:ai->R bY:=
 aH (aT (aM fK 1 (aa (ar 0) (aj))) (gN 1))
  (aH (aT (aM gB 2 (aa (ar 0) (aa (ar 1) (aj)))) (gN 2))
  (aH (aT (aM dv 4 (aa (aM aq 2 (aa (ar 0) (aa (fC (.int 49)) (aj)))) (aa (f2 iE (f2 bM (aM cV 2 (aa (ar 0) (aa (fC (.int 0)) (aj)))) (fC (.int 2))) (fC (.int 1))) (aa (cI cJ (aa (f2 bv (ae 1) (fC (.int 3))) (aj))) (aa (fC (.int 2)) (aj)))))) (gN 3))
  (aH (gq 4 (bZ ["_law_script","_law_case_here","_law_day_here","_law_figures_here","_law_named","_law_row","_law_handed","_law_found","_law_word","_law_left","_law_number","_law_rest"] [(".0", .local),("_law_k", .local),("_law_case_here", .free),("_law_figures_here", .free)] (d0 (aa (cI cJ (aa (f2 bv (ae 1) (fC (.int 3))) (aj))) (aj))) (gN 1) (fT (f2 iE (f2 bv (ae 3) (ae 1)) (fC (.int 1)))) (f2 bv (f2 bv (f2 bv (ae 2) (fC (.int 3))) (ae 1)) (fC (.int 0)))))
  (aH (dN (fT (f2 iE (f2 bM (aM aq 2 (aa (ar 0) (aa (fC (.int 52)) (aj)))) (fC (.int 2))) (fC (.int 1))))
  (aT (tE (ae 4)) (gN 4))
  (bc))
  (aH (j_ [4] (aT (aM cY 3 (aa (ar 0) (aa (ar 1) (aa (ar 4) (aj))))) (gN 5)))
  (aH (aT (cI gw (aa (ae 5) (aj))) (gN 6))
  (aH (aT (aM bQ 2 (aa (ar 2) (aa (ar 6) (aj)))) (gN 7))
  (aH (dN (tm (hX (eU (aM aZ 2 (aa (cI d8 (aa (ae 6) (aj))) (aa (cI d8 (aa (ae 5) (aj))) (aj)))))) (hX (eU (aM cD 2 (aa (ar 2) (aa (ar 1) (aj)))))))
  (bN (fC (.bl false)))
  (bc))
  (aH (aT (aM bJ 2 (aa (ar 1) (aa (ar 5) (aj)))) (gN 8))
  (aH (dN (tm (fT (f2 yP (ae 8) (fC (.str "")))) (fT (f2 yP (f2 bv (ae 7) (fC (.int 1))) (fC (.str "")))))
  (bN (f2 iE (f2 bv (ae 7) (fC (.int 1))) (ae 8)))
  (bc))
  (aH (aT (cI d8 (aa (fL (bZ ["_law_script","_law_case_here","_law_day_here","_law_figures_here","_law_named","_law_row","_law_handed","_law_found","_law_word","_law_left","_law_number","_law_rest"] [(".0", .local),("_law_one", .local),("_law_row", .free)] (cH (f2 bv (ae 1) (fC (.int 3)))) (gN 1) (fT (f2 (cQ true) (f2 bv (ae 1) (fC (.int 0))) (ae 2))) (ar 1))) (aj))) (gN 9))
  (aH (i5 (cH (ar 5)) (gN 10) (om))
  (aH (dN (hX (eU (aM cD 2 (aa (f2 bv (ae 7) (fC (.int 0))) (aa (gI (aa (f2 bv (ae 1) (fC (.int 0))) (aa (f2 bv (ae 1) (fC (.int 1))) (aa (f2 bv (ae 1) (fC (.int 2))) (aa (ar 9) (aj)))))) (aj))))))
  (bN (fC (.bl false)))
  (bc))
  (aH (aT (du "Day" "doubting" 2 aG (f2 bv (ae 7) (fC (.int 0))) (aa (cI d8 (aa (fL (bZ ["_law_script","_law_case_here","_law_day_here","_law_figures_here","_law_named","_law_row","_law_handed","_law_found","_law_word","_law_left","_law_number","_law_rest"] [(".0", .local),("_law_one", .local)] (cH (ar 9)) (gN 1) (dY) (f2 bv (ae 1) (fC (.int 0))))) (aj))) (aj))) (gN 11))
  (bN (iO (aM cD 2 (aa (ar 11) (aa (gI (aa (f2 bv (ae 1) (fC (.int 0))) (aa (f2 bv (ae 1) (fC (.int 1))) (aa (f2 bv (ae 1) (fC (.int 2))) (aa (gI (aj)) (aj)))))) (aj)))) (aM cD 2 (aa (ar 2) (aa (ar 1) (aj))))))))))))))))))))
noncomputable def nr:List D->R D:=bA 1 12 vU
end My
namespace My
open PySem PySem.Spec PyProof.Rows L2 L2.Pu
section
variable {P:Program} {w:World} {K:PySem.W.Frag} {mg:Str->Option Value} {base:Heap}
noncomputable abbrev BN:List Str:=["all","bool","dict","int","isinstance","len","list","max","min","range","set","sorted","tuple"]
theorem kE:aW ["self","tanks","streams","rises","readings","self.tanks","self.streams","self.rises","self.readings"] ["self","tanks","streams","rises","readings"] (ak d9):=⟨rfl,rfl,rfl,by decide+kernel,rfl,by decide+kernel,by decide+kernel⟩
theorem fR:∀g∈(["self.tanks","self.streams","self.rises","self.readings"]:List Str),¬rG (ak d9) g:=by unfold rG;decide+kernel
theorem pO (A:r8 K mg "Day" "Day.__init__" d9 ["self","tanks","streams","rises","readings"] gP) (B:Bl mg BN):ke P w K mg base 1 "Day" 4 bH:=by
 refine tP A kE rfl rfl (by decide) (by decide) fun C f cdv A outer s H E hC hno hr=> ?_
 have hu:=d6 hr
 have S:=kE
 exact ah (og 5 hC (hno "tanks" (by decide)) (oj (by decide) (by decide) (by decide) (by decide)) (au 1) (hvis:=fR "self.tanks" (by decide)))
     (ah (og 6 hC (hno "streams" (by decide)) (oj (by decide) (by decide) (by decide) (by decide)) (bw bq cp (B.no "tuple" (by decide)) L2.Pu.bG (aE (PQ.bo (bj (jA rfl) kC (B.no "sorted" (by decide)) L2.Pu.ky (aE (af 2) (aL)))) (aL))) (hvis:=fR "self.streams" (by decide)))
     (ah (og 7 hC (hno "rises" (by decide)) (oj (by decide) (by decide) (by decide) (by decide)) (bw bq cp (B.no "tuple" (by decide)) L2.Pu.bG (aE (af 3) (aL))) (hvis:=fR "self.rises" (by decide)))
     (aD (og 8 hC (hno "readings" (by decide)) (oj (by decide) (by decide) (by decide) (by decide)) (bw bq cp (B.no "tuple" (by decide)) L2.Pu.bG (aE (PQ.bo (bj (jA rfl) kC (B.no "sorted" (by decide)) L2.Pu.ky (aE (af 4) (aL)))) (aL))) (hvis:=fR "self.readings" (by decide))))))
theorem iT:aW ["self","number","stream"] ["self","number"] (ak cS):=⟨rfl,rfl,rfl,by decide+kernel,rfl,by decide+kernel,by decide+kernel⟩
theorem mI (A:j3 K "Day" "stream" "Day.stream" cS ["self","number"]) (B:Bl mg BN) (E_UnknownStream:lT K mg "UnknownStream") (T_Day:nl K "Day" gP):eu P w K mg base 1 "Day" "stream" 2 dn:=by
 refine kg A iT rfl rfl fun f cdv A outer s H E hr=> ?_
 have hu:=d6 hr
 have S:=iT
 exact ah (jq PassesOwn.leaving rfl (eQ (fY T_Day (by decide) (af 0))) (bx 2 S.nd)
     (aD (di (bU dO cP (PQ.bo (aU hu (af 2) (PQ.bo (ag)))) (af 1))
     (aD (bC (au 2)))
     (bu))))
     (aD (oh E_UnknownStream rfl (ac (fP) (al))))
theorem ik:aW ["self","number","stream"] ["self","number"] (ak cz):=⟨rfl,rfl,rfl,by decide+kernel,rfl,by decide+kernel,by decide+kernel⟩
theorem m7 (A:j3 K "Day" "metered" "Day.metered" cz ["self","number"]) (B:Bl mg BN) (G_Day_stream:eu P w K mg base 1 "Day" "stream" 2 dn) (T_Day:nl K "Day" gP):eu P w K mg base 2 "Day" "metered" 2 aJ:=by
 refine kg A ik rfl rfl fun f cdv A outer s H E hr=> ?_
 have hu:=d6 hr
 have S:=ik
 exact ah (a_ 2 S.nd (kd G_Day_stream (hr.mono (by decide)) (au 0) (ac (au 1) (al))))
     (aD (bC (C5 hu (PQ.bo (aU hu (af 2) (PQ.bo (ag)))) (PQ.bo (bw (oZ rfl) vB (B.no "dict" (by decide)) L2.Pu.tF (aE (PQ.bo (fY T_Day (by decide) (af 0))) (aL)))))))
theorem gR:aW ["self","numbers","meters_there","kept"] ["self","numbers"] (ak cf):=⟨rfl,rfl,rfl,by decide+kernel,rfl,by decide+kernel,by decide+kernel⟩
theorem kP (A:j3 K "Day" "doubting" "Day.doubting" cf ["self","numbers"]) (B:Bl mg BN) (G_Day_metered:eu P w K mg base 2 "Day" "metered" 2 aJ) (G_Day_init:ke P w K mg base 1 "Day" 4 bH) (E_NotMetered:lT K mg "NotMetered") (E_Twice:lT K mg "Twice") (T_Day:nl K "Day" gP):eu P w K mg base 3 "Day" "doubting" 2 aG:=by
 refine kg A gR rfl rfl fun f cdv A outer s H E hr=> ?_
 have hu:=d6 hr
 have S:=gR
 exact ah (yb 2 (aS.of rfl (by first|decide+kernel|rfl)) rfl S.nd (eQ (au 1)) (fun _ _ _ _=>bx 1 (show ([".0","number","self"]:List Str).Nodup by decide+kernel)) (fun _ _ _ _=>i7) (fun _ _ _ _=>kd G_Day_metered (hr.mono (by decide)) (au 2) (ac (au 1) (al))))
     (ah (di (bU rM nY (PQ.bo (vS rfl (B.no "len" (by decide)) (B.no "set" (by decide)) (af 1))) (PQ.bo (bj ba bO (B.no "len" (by decide)) PySem.boot_len (aE (af 1) (aL)))))
     (aD (oh E_Twice rfl (ac (fP) (al))))
     (bu))
     (ah (di (iN (gm (PQ.bo (bj (tW rfl) ya (B.no "all" (by decide)) L2.Pu.vT (aE (af 2) (aL))))))
     (aD (oh E_NotMetered rfl (ac (fP) (al))))
     (bu))
     (ah (lL 3 (aS.of rfl (by first|decide+kernel|rfl)) rfl S.nd (eQ (fY T_Day (by decide) (af 0))) (fun _ _ _=>bx 1 (show ([".0","pair","numbers"]:List Str).Nodup by decide+kernel)) (fun _ _ _=>i8 (gL hu (PQ.bo (aU hu (af 1) (PQ.bo (ag)))) (af 2))) (fun _ _ _=>au 1))
     (aD (jp [3] (bC (lS G_Day_init (hr.mono (by decide)) (ac (fY T_Day (by decide) (af 0)) (ac (fY T_Day (by decide) (af 0)) (ac (fY T_Day (by decide) (af 0)) (ac (au 3) (al))))))))))))
theorem nu:aW ["_law_script","_law_k"] ["_law_script","_law_k"] (ak fH):=⟨rfl,rfl,rfl,by decide+kernel,rfl,by decide+kernel,by decide+kernel⟩
theorem tZ (A:bE K mg "_law_at" fH ["_law_script","_law_k"]) (B:Bl mg BN):bp P w K mg base 1 "_law_at" 2 cV:=by
 refine cn A nu rfl rfl fun f cdv A outer s H E hr=> ?_
 have hu:=d6 hr
 have S:=nu
 exact ah (di (bU rM nY (af 1) (PQ.bo (bj ba bO (B.no "len" (by decide)) PySem.boot_len (aE (af 0) (aL)))))
     (aD (bC (aU hu (af 0) (af 1))))
     (bu))
     (aD (bC (ag)))
theorem kF:aW ["_law_script","_law_k","_law_mixed"] ["_law_script","_law_k"] (ak dF):=⟨rfl,rfl,rfl,by decide+kernel,rfl,by decide+kernel,by decide+kernel⟩
theorem pP (A:bE K mg "_law_cell" dF ["_law_script","_law_k"]) (B:Bl mg BN) (G_law_at:bp P w K mg base 1 "_law_at" 2 cV):bp P w K mg base 2 "_law_cell" 2 aq:=by
 refine cn A kF rfl rfl fun f cdv A outer s H E hr=> ?_
 have hu:=d6 hr
 have S:=kF
 exact ah (di (bU dO cP (PQ.bo (az bf aP (PQ.bo (ce G_law_at (hr.mono (by decide)) (ac (au 0) (ac (ag) (al))))) (PQ.bo (ag)))) (PQ.bo (ag)))
     (aD (bC (ce G_law_at (hr.mono (by decide)) (ac (au 0) (ac (au 1) (al))))))
     (bu))
     (ah (a_ 2 S.nd (az bf aP (PQ.bo (az gK iD (PQ.bo (az aX aY (PQ.bo (az aX aY (PQ.bo (az aX aY (PQ.bo (ce G_law_at (hr.mono (by decide)) (ac (au 0) (ac (au 1) (al))))) (PQ.bo (az bV bF (PQ.bo (ce G_law_at (hr.mono (by decide)) (ac (au 0) (ac (ag) (al))))) (PQ.bo (ag)))))) (PQ.bo (az gK iD (PQ.bo (ag)) (af 1))))) (PQ.bo (ag)))) (PQ.bo (ag)))) (PQ.bo (ag))))
     (aD (bC (az bf aP (PQ.bo (az gK iD (PQ.bo (az aX aY (af 2) (af 1))) (PQ.bo (ag)))) (PQ.bo (ag))))))
theorem il:aW ["_law_cell_here","_law_mixed","_law_many","_law_size","_law_found","_law_rest","_law_k","_law_one"] ["_law_cell_here","_law_mixed","_law_many","_law_size"] (ak cA):=⟨rfl,rfl,rfl,by decide+kernel,rfl,by decide+kernel,by decide+kernel⟩
theorem m8 (A:bE K mg "_law_figures" cA ["_law_cell_here","_law_mixed","_law_many","_law_size"]) (B:Bl mg BN):bp P w K mg base 1 "_law_figures" 4 dv:=by
 refine cn A il rfl rfl fun f cdv A outer s H E hr=> ?_
 have hu:=d6 hr
 have S:=il
 exact ah (h_ 4 S.nd (al))
     (ah (a_ 5 S.nd (au 0))
     (ah (jq PassesOwn.leaving rfl (dX (B.no "range" (by decide)) (ac (au 2) (al))) (bx 6 S.nd)
     (aD (di (gm (af 1))
     (ah (a_ 7 S.nd (az bf aP (PQ.bo (az gK iD (PQ.bo (az aX aY (PQ.bo (az aX aY (af 0) (PQ.bo (az gK iD (PQ.bo (ag)) (af 6))))) (PQ.bo (ag)))) (PQ.bo (ag)))) (PQ.bo (ag))))
     (aD (fw 4 (az bf aP (PQ.bo (az bf aP (PQ.bo (az gK iD (PQ.bo (az aX aY (af 7) (af 6))) (PQ.bo (ag)))) (PQ.bo (ag)))) (af 3)))))
     (ah (fw 4 (az bf aP (af 5) (af 3)))
     (aD (a_ 5 S.nd (az bV bF (af 5) (af 3))))))))
     (aD (jp [4] (bC (au 4))))))
theorem kG:aW ["_law_found","_law_due","_law_k"] ["_law_found","_law_due"] (ak da):=⟨rfl,rfl,rfl,by decide+kernel,rfl,by decide+kernel,by decide+kernel⟩
theorem jC (A:bE K mg "_law_same" da ["_law_found","_law_due"]) (B:Bl mg BN):∀n:Nat,bp P w K mg base n "_law_same" 2 (cu n)
 |0=>vj A rfl
 |n+1=>by
  have Grec:=jC A B n
  refine cn A kG rfl rfl fun f cdv A outer s H E hr=> ?_
  have hu:=d6 hr
  have S:=kG
  exact ah (di (gm (PQ.bo (ng (.inr (.inr (.inr (.inl rfl)))) (B.no "isinstance" (by decide)) (B.no "tuple" (by decide)) L2.Pu.bG (af 1))))
     (ah (di (n5.t (qE (iN (gm (PQ.bo (ng (.inr (.inr (.inr (.inl rfl)))) (B.no "isinstance" (by decide)) (B.no "tuple" (by decide)) L2.Pu.bG (af 0))))) (lK (bU uw qR (PQ.bo (bj ba bO (B.no "len" (by decide)) PySem.boot_len (aE (af 0) (aL)))) (PQ.bo (bj ba bO (B.no "len" (by decide)) PySem.boot_len (aE (af 1) (aL))))))))
     (aD (bC (lI)))
     (bu))
     (ah (jq PassesOwn.leaving rfl (dX (B.no "range" (by decide)) (ac (bj ba bO (B.no "len" (by decide)) PySem.boot_len (aE (af 1) (aL))) (al))) (bx 2 S.nd)
     (aD (di (iN (gm (PQ.bo (ce Grec (hr.mono (by omega)) (ac (aU hu (af 0) (af 2)) (ac (aU hu (af 1) (af 2)) (al)))))))
     (aD (bC (lI)))
     (bu))))
     (aD (bC (lI)))))
     (bu))
     (ah (di (gm (PQ.bo (ng (.inl rfl) (B.no "isinstance" (by decide)) (B.no "bool" (by decide)) L2.Pu.kb (af 1))))
     (aD (bC (pb (ng (.inl rfl) (B.no "isinstance" (by decide)) (B.no "bool" (by decide)) L2.Pu.kb (af 0)) (sf (p7 dO cP (af 0) (af 1))))))
     (bu))
     (aD (bC (pb (ng (.inr (.inl rfl)) (B.no "isinstance" (by decide)) (B.no "int" (by decide)) L2.Pu.pq (af 0)) (pb (C1 (ng (.inl rfl) (B.no "isinstance" (by decide)) (B.no "bool" (by decide)) L2.Pu.kb (af 0))) (sf (p7 dO cP (af 0) (af 1))))))))
theorem pQ (A:bE K mg "_law_same" da ["_law_found","_law_due"]) (B:Bl mg BN):bp P w K mg base 8 "_law_same" 2 aZ:=(jC A B 8).mono (by decide)
theorem im:aW ["_law_script","_law_n","_law_many","_law_rows","_law_number","_law_k","_law_room","_law_cell_here","_law_gap","_law_source","_law_target"] ["_law_script","_law_n","_law_many"] (ak cB):=⟨rfl,rfl,rfl,by decide+kernel,rfl,by decide+kernel,by decide+kernel⟩
theorem m9 (A:bE K mg "_law_streams" cB ["_law_script","_law_n","_law_many"]) (B:Bl mg BN) (G_law_cell:bp P w K mg base 2 "_law_cell" 2 aq):bp P w K mg base 3 "_law_streams" 3 dw:=by
 refine cn A im rfl rfl fun f cdv A outer s H E hr=> ?_
 have hu:=d6 hr
 have S:=im
 exact ah (h_ 3 S.nd (al))
     (ah (a_ 4 S.nd (ag))
     (ah (jq PassesOwn.leaving rfl (dX (B.no "range" (by decide)) (ac (au 2) (al))) (bx 5 S.nd)
     (ah (a_ 6 S.nd (az aX aY (PQ.bo (az fc dZ (PQ.bo (az fc dZ (PQ.bo (ag)) (af 4))) (af 2))) (af 5)))
     (ah (a_ 7 S.nd (ce G_law_cell (hr.mono (by decide)) (ac (au 0) (ac (az aX aY (PQ.bo (ag)) (af 5)) (al)))))
     (ah (a_ 8 S.nd (az bf aP (af 7) (af 6)))
     (ah (di (bU dO cP (PQ.bo (az bf aP (PQ.bo (az bV bF (PQ.bo (ce G_law_cell (hr.mono (by decide)) (ac (au 0) (ac (ag) (al))))) (PQ.bo (ag)))) (PQ.bo (ag)))) (PQ.bo (ag)))
     (aD (a_ 8 S.nd (az bf aP (af 8) (PQ.bo (ag)))))
     (bu))
     (ah (a_ 4 S.nd (az aX aY (PQ.bo (az aX aY (af 4) (PQ.bo (ag)))) (af 8)))
     (ah (a_ 9 S.nd (az bf aP (PQ.bo (az bV bF (af 7) (af 6))) (PQ.bo (az aX aY (af 1) (PQ.bo (ag))))))
     (ah (a_ 10 S.nd (az bf aP (PQ.bo (az aX aY (PQ.bo (az aX aY (af 9) (PQ.bo (ag)))) (PQ.bo (az bf aP (PQ.bo (az bV bF (PQ.bo (az bV bF (af 7) (af 6))) (PQ.bo (az aX aY (af 1) (PQ.bo (ag)))))) (af 1))))) (PQ.bo (az aX aY (af 1) (PQ.bo (ag))))))
     (aD (fw 3 (iM (ac (au 4) (ac (au 9) (ac (au 10) (al)))))))))))))))
     (aD (jp [3] (bC (au 3))))))
theorem io:aW ["_law_script","_law_streams_here","_law_share","_law_found","_law_k"] ["_law_script","_law_streams_here","_law_share"] (ak cC):=⟨rfl,rfl,rfl,by decide+kernel,rfl,by decide+kernel,by decide+kernel⟩
theorem ma (A:bE K mg "_law_metered" cC ["_law_script","_law_streams_here","_law_share"]) (B:Bl mg BN) (G_law_cell:bp P w K mg base 2 "_law_cell" 2 aq):bp P w K mg base 3 "_law_metered" 3 dz:=by
 refine cn A io rfl rfl fun f cdv A outer s H E hr=> ?_
 have hu:=d6 hr
 have S:=io
 exact ah (h_ 3 S.nd (al))
     (ah (jq PassesOwn.leaving rfl (dX (B.no "range" (by decide)) (ac (bj ba bO (B.no "len" (by decide)) PySem.boot_len (aE (af 1) (aL))) (al))) (bx 4 S.nd)
     (aD (di (n5.t (p8 (bU rM nY (PQ.bo (az bf aP (PQ.bo (ce G_law_cell (hr.mono (by decide)) (ac (au 0) (ac (az aX aY (PQ.bo (ag)) (af 4)) (al))))) (PQ.bo (ag)))) (af 2)) (lJ (bU rM nY (PQ.bo (bj ba bO (B.no "len" (by decide)) PySem.boot_len (aE (af 3) (aL)))) (PQ.bo (ag))))))
     (aD (fw 3 (aU hu (PQ.bo (aU hu (af 1) (af 4))) (PQ.bo (ag)))))
     (bu))))
     (aD (jp [3] (bC (au 3)))))
theorem kH:aW ["_law_levels","_law_source","_law_target","_law_most","_law_low","_law_high"] ["_law_levels","_law_source","_law_target","_law_most"] (ak dH):=⟨rfl,rfl,rfl,by decide+kernel,rfl,by decide+kernel,by decide+kernel⟩
theorem pR (A:bE K mg "_law_span" dH ["_law_levels","_law_source","_law_target","_law_most"]) (B:Bl mg BN):bp P w K mg base 1 "_law_span" 4 fI:=by
 refine cn A kH rfl rfl fun f cdv A outer s H E hr=> ?_
 have hu:=d6 hr
 have S:=kH
 exact ah (a_ 4 S.nd (Al nJ o0 (af 3)))
     (ah (a_ 5 S.nd (au 3))
     (ah (di (bU rN nZ (af 1) (PQ.bo (ag)))
     (ah (a_ 4 S.nd (bj (mM rfl) sh (B.no "max" (by decide)) L2.Pu.pz (aE (af 4) (aE (PQ.bo (az fc dZ (PQ.bo (aU hu (af 0) (af 1))) (PQ.bo (ag)))) (aL)))))
     (aD (a_ 5 S.nd (bj (mO rfl) sg (B.no "min" (by decide)) L2.Pu.pw (aE (af 5) (aE (PQ.bo (az aX aY (PQ.bo (aU hu (af 0) (af 1))) (PQ.bo (ag)))) (aL)))))))
     (bu))
     (ah (di (bU rN nZ (af 2) (PQ.bo (ag)))
     (ah (a_ 4 S.nd (bj (mM rfl) sh (B.no "max" (by decide)) L2.Pu.pz (aE (af 4) (aE (PQ.bo (az fc dZ (PQ.bo (Al nJ o0 (PQ.bo (ag)))) (PQ.bo (aU hu (af 0) (af 2))))) (aL)))))
     (aD (a_ 5 S.nd (bj (mO rfl) sg (B.no "min" (by decide)) L2.Pu.pw (aE (af 5) (aE (PQ.bo (az fc dZ (PQ.bo (ag)) (PQ.bo (aU hu (af 0) (af 2))))) (aL)))))))
     (bu))
     (aD (bC (eG (ac (au 4) (ac (au 5) (al)))))))))
theorem jD:aW ["_law_figures_here","_law_n","_law_streams_here","_law_meters","_law_bounds","_law_levels","_law_rows","_law_k","_law_number","_law_source","_law_target","_law_low","_law_high","_law_amount"] ["_law_figures_here","_law_n","_law_streams_here","_law_meters","_law_bounds"] (ak db):=⟨rfl,rfl,rfl,by decide+kernel,rfl,by decide+kernel,by decide+kernel⟩
theorem oo (A:bE K mg "_law_flows" db ["_law_figures_here","_law_n","_law_streams_here","_law_meters","_law_bounds"]) (B:Bl mg BN) (G_law_span:bp P w K mg base 1 "_law_span" 4 fI):bp P w K mg base 2 "_law_flows" 5 eK:=by
 refine cn A jD rfl rfl fun f cdv A outer s H E hr=> ?_
 have hu:=d6 hr
 have S:=jD
 exact ah (vJ 5 S.nd (Cm gK vK (PQ.bo (eG (ac (ag) (al)))) (PQ.bo (az aX aY (af 1) (PQ.bo (ag))))))
     (ah (h_ 6 S.nd (al))
     (ah (jq PassesOwn.leaving rfl (dX (B.no "range" (by decide)) (ac (bj ba bO (B.no "len" (by decide)) PySem.boot_len (aE (af 2) (aL))) (al))) (bx 7 S.nd)
     (ah (yL (aU hu (af 2) (af 7)) (yK rfl (gJ (bx 8 S.nd) (gJ (bx 9 S.nd) (gJ (bx 10 S.nd) (qG))))))
     (ah (AN [5] rfl (ce G_law_span (hr.mono (by decide)) (ac (au 5) (ac (au 9) (ac (au 10) (ac (aU hu (af 4) (PQ.bo (bw sK xM (B.no "int" (by decide)) L2.Pu.pq (aE (PQ.bo (C5 hu (af 8) (af 3))) (aL))))) (al)))))) (gJ (bx 11 S.nd) (gJ (bx 12 S.nd) (qG))))
     (ah (a_ 13 S.nd (az aX aY (af 11) (PQ.bo (az bf aP (PQ.bo (aU hu (af 0) (af 7))) (PQ.bo (az aX aY (PQ.bo (az fc dZ (af 12) (af 11))) (PQ.bo (ag))))))))
     (ah (yN 5 hu (au 9) (az fc dZ (PQ.bo (aU hu (af 5) (af 9))) (af 13)))
     (ah (yN 5 hu (au 10) (az aX aY (PQ.bo (aU hu (af 5) (af 10))) (af 13)))
     (aD (fw 6 (iM (ac (au 8) (ac (au 13) (al))))))))))))
     (aD (bC (eG (ac (bw bq cp (B.no "tuple" (by decide)) L2.Pu.bG (aE (af 6) (aL))) (ac (bw bq cp (B.no "tuple" (by decide)) L2.Pu.bG (aE (PQ.bo (js (af 5) (lO (ag)) (lN))) (aL))) (al))))))))
theorem jE:aW ["_law_script","_law_n","_law_streams_here","_law_metered_here","_law_small","_law_figures_here"] ["_law_script","_law_n","_law_streams_here","_law_metered_here","_law_small"] (ak dc):=⟨rfl,rfl,rfl,by decide+kernel,rfl,by decide+kernel,by decide+kernel⟩
theorem oq (A:bE K mg "_law_truth" dc ["_law_script","_law_n","_law_streams_here","_law_metered_here","_law_small"]) (B:Bl mg BN) (G_law_cell:bp P w K mg base 2 "_law_cell" 2 aq) (G_law_flows:bp P w K mg base 2 "_law_flows" 5 eK):bp P w K mg base 3 "_law_truth" 5 eL:=by
 refine cn A jE rfl rfl fun f cdv A outer s H E hr=> ?_
 have hu:=d6 hr
 have S:=jE
 exact ah (lL 5 (aS.of rfl (by first|decide+kernel|rfl)) rfl S.nd (dX (B.no "range" (by decide)) (ac (bj ba bO (B.no "len" (by decide)) PySem.boot_len (aE (af 2) (aL))) (al))) (fun _ _ _=>bx 1 (show ([".0","_law_k","_law_cell","_law_script"]:List Str).Nodup by decide+kernel)) (fun _ _ _=>i7) (fun _ _ _=>az bV bF (PQ.bo (ce G_law_cell (hr.mono (by decide)) (ac (au 3) (ac (az aX aY (PQ.bo (ag)) (af 1)) (al))))) (PQ.bo (ag))))
     (aD (jp [5] (bC (ce G_law_flows (hr.mono (by decide)) (ac (au 5) (ac (au 1) (ac (au 2) (ac (au 3) (ac (aU hu (PQ.bo (eG (ac (eG (ac (ag) (ac (ag) (al)))) (ac (eG (ac (ag) (ac (ag) (al)))) (al))))) (af 4)) (al))))))))))
theorem gT:aW ["_law_script","_law_truth_here","_law_metered_here","_law_mode","_law_small","_law_found","_law_k","_law_number","_law_amount","_law_cell_here"] ["_law_script","_law_truth_here","_law_metered_here","_law_mode","_law_small"] (ak cj):=⟨rfl,rfl,rfl,by decide+kernel,rfl,by decide+kernel,by decide+kernel⟩
theorem kQ (A:bE K mg "_law_readings" cj ["_law_script","_law_truth_here","_law_metered_here","_law_mode","_law_small"]) (B:Bl mg BN) (G_law_cell:bp P w K mg base 2 "_law_cell" 2 aq):bp P w K mg base 3 "_law_readings" 5 de:=by
 refine cn A gT rfl rfl fun f cdv A outer s H E hr=> ?_
 have hu:=d6 hr
 have S:=gT
 exact ah (h_ 5 S.nd (al))
     (ah (jq PassesOwn.leaving rfl (dX (B.no "range" (by decide)) (ac (bj ba bO (B.no "len" (by decide)) PySem.boot_len (aE (af 1) (aL))) (al))) (bx 6 S.nd)
     (ah (yL (aU hu (af 1) (af 6)) (yK rfl (gJ (bx 7 S.nd) (gJ (bx 8 S.nd) (qG)))))
     (ah (a_ 9 S.nd (ce G_law_cell (hr.mono (by decide)) (ac (au 0) (ac (az aX aY (PQ.bo (ag)) (af 6)) (al)))))
     (ah (di (gL hu (af 7) (af 2))
     (aD (qF))
     (bu))
     (ah (di (n5.t (qE (bU dO cP (af 3) (PQ.bo (ag))) (lK (n5.t (p8 (bU dO cP (af 3) (PQ.bo (ag))) (lJ (bU dO cP (PQ.bo (az bf aP (af 9) (PQ.bo (ag)))) (PQ.bo (ag)))))))))
     (aD (a_ 8 S.nd (aU hu (PQ.bo (eG (ac (az fc dZ (PQ.bo (az bf aP (PQ.bo (az bV bF (af 9) (PQ.bo (ag)))) (PQ.bo (ag)))) (PQ.bo (ag))) (ac (az fc dZ (PQ.bo (az bf aP (PQ.bo (az bV bF (af 9) (PQ.bo (ag)))) (PQ.bo (ag)))) (PQ.bo (ag))) (al))))) (af 4))))
     (bu))
     (aD (fw 5 (iM (ac (au 7) (ac (au 8) (al)))))))))))
     (aD (jp [5] (bC (au 5)))))
theorem jF:aW ["_law_script","_law_levels","_law_mode","_law_small","_law_found","_law_k","_law_cell_here","_law_rise"] ["_law_script","_law_levels","_law_mode","_law_small"] (ak df):=⟨rfl,rfl,rfl,by decide+kernel,rfl,by decide+kernel,by decide+kernel⟩
theorem ou (A:bE K mg "_law_rises" df ["_law_script","_law_levels","_law_mode","_law_small"]) (B:Bl mg BN) (G_law_cell:bp P w K mg base 2 "_law_cell" 2 aq):bp P w K mg base 3 "_law_rises" 4 eM:=by
 refine cn A jF rfl rfl fun f cdv A outer s H E hr=> ?_
 have hu:=d6 hr
 have S:=jF
 exact ah (h_ 4 S.nd (al))
     (ah (jq PassesOwn.leaving rfl (dX (B.no "range" (by decide)) (ac (bj ba bO (B.no "len" (by decide)) PySem.boot_len (aE (af 1) (aL))) (al))) (bx 5 S.nd)
     (ah (a_ 6 S.nd (ce G_law_cell (hr.mono (by decide)) (ac (au 0) (ac (az aX aY (PQ.bo (ag)) (af 5)) (al)))))
     (ah (a_ 7 S.nd (aU hu (af 1) (af 5)))
     (ah (di (n5.t (qE (bU dO cP (af 2) (PQ.bo (ag))) (lK (n5.t (p8 (bU dO cP (af 2) (PQ.bo (ag))) (lJ (bU dO cP (PQ.bo (az bf aP (af 6) (PQ.bo (ag)))) (PQ.bo (ag)))))))))
     (aD (a_ 7 S.nd (aU hu (PQ.bo (eG (ac (az fc dZ (PQ.bo (az bf aP (PQ.bo (az bV bF (af 6) (PQ.bo (ag)))) (PQ.bo (ag)))) (PQ.bo (ag))) (ac (az fc dZ (PQ.bo (az bf aP (PQ.bo (az bV bF (af 6) (PQ.bo (ag)))) (PQ.bo (ag)))) (PQ.bo (ag))) (al))))) (af 3))))
     (bu))
     (aD (fw 4 (au 7)))))))
     (aD (jp [4] (bC (au 4)))))
theorem kI:aW ["_law_script","_law_n","_law_many","_law_mode","_law_small","_law_streams_here","_law_metered_here","_law_truth_here","_law_readings_here","_law_rises_here"] ["_law_script"] (ak dI):=⟨rfl,rfl,rfl,by decide+kernel,rfl,by decide+kernel,by decide+kernel⟩
theorem pS (A:bE K mg "_law_case" dI ["_law_script"]) (B:Bl mg BN) (G_law_cell:bp P w K mg base 2 "_law_cell" 2 aq) (G_law_streams:bp P w K mg base 3 "_law_streams" 3 dw) (G_law_metered:bp P w K mg base 3 "_law_metered" 3 dz) (G_law_truth:bp P w K mg base 3 "_law_truth" 5 eL) (G_law_readings:bp P w K mg base 3 "_law_readings" 5 de) (G_law_rises:bp P w K mg base 3 "_law_rises" 4 eM):bp P w K mg base 4 "_law_case" 1 fK:=by
 refine cn A kI rfl rfl fun f cdv A outer s H E hr=> ?_
 have hu:=d6 hr
 have S:=kI
 exact ah (a_ 1 S.nd (az bf aP (PQ.bo (ce G_law_cell (hr.mono (by decide)) (ac (au 0) (ac (ag) (al))))) (PQ.bo (ag))))
     (ah (a_ 2 S.nd (ag))
     (ah (di (bU rN nZ (af 1) (PQ.bo (ag)))
     (aD (a_ 2 S.nd (az bf aP (PQ.bo (ce G_law_cell (hr.mono (by decide)) (ac (au 0) (ac (ag) (al))))) (PQ.bo (ag)))))
     (bu))
     (ah (a_ 3 S.nd (az bf aP (PQ.bo (ce G_law_cell (hr.mono (by decide)) (ac (au 0) (ac (ag) (al))))) (PQ.bo (ag))))
     (ah (a_ 4 S.nd (az bf aP (PQ.bo (az bV bF (PQ.bo (ce G_law_cell (hr.mono (by decide)) (ac (au 0) (ac (ag) (al))))) (PQ.bo (ag)))) (PQ.bo (ag))))
     (ah (a_ 5 S.nd (ce G_law_streams (hr.mono (by decide)) (ac (au 0) (ac (au 1) (ac (au 2) (al))))))
     (ah (a_ 6 S.nd (ce G_law_metered (hr.mono (by decide)) (ac (au 0) (ac (au 5) (ac (az bf aP (PQ.bo (ce G_law_cell (hr.mono (by decide)) (ac (au 0) (ac (ag) (al))))) (PQ.bo (ag))) (al))))))
     (ah (a_ 7 S.nd (ce G_law_truth (hr.mono (by decide)) (ac (au 0) (ac (au 1) (ac (au 5) (ac (au 6) (ac (au 4) (al))))))))
     (ah (a_ 8 S.nd (ce G_law_readings (hr.mono (by decide)) (ac (au 0) (ac (aU hu (af 7) (PQ.bo (ag))) (ac (au 6) (ac (au 3) (ac (au 4) (al))))))))
     (ah (a_ 9 S.nd (ce G_law_rises (hr.mono (by decide)) (ac (au 0) (ac (aU hu (af 7) (PQ.bo (ag))) (ac (au 3) (ac (au 4) (al)))))))
     (aD (bC (iM (ac (au 1) (ac (bw bq cp (B.no "tuple" (by decide)) L2.Pu.bG (aE (af 5) (aL))) (ac (bw bq cp (B.no "tuple" (by decide)) L2.Pu.bG (aE (af 9) (aL))) (ac (bw bq cp (B.no "tuple" (by decide)) L2.Pu.bG (aE (af 8) (aL))) (al)))))))))))))))))
theorem md:aW ["_law_script","_law_case_here","_law_turned","_law_half","_law_mid"] ["_law_script","_law_case_here"] (ak eB):=⟨rfl,rfl,rfl,by decide+kernel,rfl,by decide+kernel,by decide+kernel⟩
theorem rg (A:bE K mg "_law_day" eB ["_law_script","_law_case_here"]) (B:Bl mg BN) (G_law_cell:bp P w K mg base 2 "_law_cell" 2 aq) (G_Day_init:ke P w K mg base 1 "Day" 4 bH):bp P w K mg base 3 "_law_day" 2 gB:=by
 refine cn A md rfl rfl fun f cdv A outer s H E hr=> ?_
 have hu:=d6 hr
 have S:=md
 exact ah (a_ 2 S.nd (az bf aP (PQ.bo (ce G_law_cell (hr.mono (by decide)) (ac (au 0) (ac (ag) (al))))) (PQ.bo (ag))))
     (ah (di (bU dO cP (af 2) (PQ.bo (ag)))
     (aD (bC (lS G_Day_init (hr.mono (by decide)) (ac (aU hu (af 1) (PQ.bo (ag))) (ac (bw cr fz (B.no "list" (by decide)) L2.Pu.dj (aE (PQ.bo (aU hu (af 1) (PQ.bo (ag)))) (aL))) (ac (bw cr fz (B.no "list" (by decide)) L2.Pu.dj (aE (PQ.bo (aU hu (af 1) (PQ.bo (ag)))) (aL))) (ac (bw cr fz (B.no "list" (by decide)) L2.Pu.dj (aE (PQ.bo (aU hu (af 1) (PQ.bo (ag)))) (aL))) (al))))))))
     (bu))
     (ah (di (bU dO cP (af 2) (PQ.bo (ag)))
     (aD (bC (lS G_Day_init (hr.mono (by decide)) (ac (aU hu (af 1) (PQ.bo (ag))) (ac (vi (PQ.bo (bw cr fz (B.no "list" (by decide)) L2.Pu.dj (aE (PQ.bo (aU hu (af 1) (PQ.bo (ag)))) (aL))))) (ac (bw cr fz (B.no "list" (by decide)) L2.Pu.dj (aE (PQ.bo (aU hu (af 1) (PQ.bo (ag)))) (aL))) (ac (vi (PQ.bo (bw cr fz (B.no "list" (by decide)) L2.Pu.dj (aE (PQ.bo (aU hu (af 1) (PQ.bo (ag)))) (aL))))) (al))))))))
     (bu))
     (ah (di (bU dO cP (af 2) (PQ.bo (ag)))
     (aD (bC (lS G_Day_init (hr.mono (by decide)) (ac (aU hu (af 1) (PQ.bo (ag))) (ac (aU hu (af 1) (PQ.bo (ag))) (ac (aU hu (af 1) (PQ.bo (ag))) (ac (aU hu (af 1) (PQ.bo (ag))) (al))))))))
     (bu))
     (ah (a_ 3 S.nd (az bV bF (PQ.bo (bj ba bO (B.no "len" (by decide)) PySem.boot_len (aE (PQ.bo (aU hu (af 1) (PQ.bo (ag)))) (aL)))) (PQ.bo (ag))))
     (ah (a_ 4 S.nd (az bV bF (PQ.bo (bj ba bO (B.no "len" (by decide)) PySem.boot_len (aE (PQ.bo (aU hu (af 1) (PQ.bo (ag)))) (aL)))) (PQ.bo (ag))))
     (aD (bC (lS G_Day_init (hr.mono (by decide)) (ac (aU hu (af 1) (PQ.bo (ag))) (ac (az aX aY (PQ.bo (js (PQ.bo (aU hu (af 1) (PQ.bo (ag)))) (lO (au 3)) (lN))) (PQ.bo (js (PQ.bo (aU hu (af 1) (PQ.bo (ag)))) (lN) (lO (au 3))))) (ac (aU hu (af 1) (PQ.bo (ag))) (ac (az aX aY (PQ.bo (js (PQ.bo (aU hu (af 1) (PQ.bo (ag)))) (lO (au 4)) (lN))) (PQ.bo (js (PQ.bo (aU hu (af 1) (PQ.bo (ag)))) (lN) (lO (au 4))))) (al)))))))))))))
theorem kJ:aW ["_law_day_here","_law_case_here"] ["_law_day_here","_law_case_here"] (ak dJ):=⟨rfl,rfl,rfl,by decide+kernel,rfl,by decide+kernel,by decide+kernel⟩
theorem pT (A:bE K mg "_law_kept" dJ ["_law_day_here","_law_case_here"]) (B:Bl mg BN) (G_law_same:bp P w K mg base 8 "_law_same" 2 aZ) (T_Day:nl K "Day" gP):bp P w K mg base 9 "_law_kept" 2 cD:=by
 refine cn A kJ rfl rfl fun f cdv A outer s H E hr=> ?_
 have hu:=d6 hr
 have S:=kJ
 exact ah (di (n5.t (qE (iN (gm (PQ.bo (ce G_law_same (hr.mono (by decide)) (ac (fY T_Day (by decide) (af 0)) (ac (aU hu (af 1) (PQ.bo (ag))) (al))))))) (lK (iN (gm (PQ.bo (ce G_law_same (hr.mono (by decide)) (ac (fY T_Day (by decide) (af 0)) (ac (aU hu (af 1) (PQ.bo (ag))) (al))))))))))
     (aD (bC (lI)))
     (bu))
     (aD (bC (pb (ce G_law_same (hr.mono (by decide)) (ac (fY T_Day (by decide) (af 0)) (ac (aU hu (af 1) (PQ.bo (ag))) (al)))) (sf (ce G_law_same (hr.mono (by decide)) (ac (fY T_Day (by decide) (af 0)) (ac (aU hu (af 1) (PQ.bo (ag))) (al))))))))
theorem jG:aW ["_law_case_here","_law_read"] ["_law_case_here"] (ak dg):=⟨rfl,rfl,rfl,by decide+kernel,rfl,by decide+kernel,by decide+kernel⟩
theorem ow (A:bE K mg "_law_loose" dg ["_law_case_here"]) (B:Bl mg BN):bp P w K mg base 1 "_law_loose" 1 dL:=by
 refine cn A jG rfl rfl fun f cdv A outer s H E hr=> ?_
 have hu:=d6 hr
 have S:=jG
 exact ah (si 1 (aS.of rfl (by first|decide+kernel|rfl)) rfl S.nd (eQ (aU hu (af 0) (PQ.bo (ag)))) (fun _ _ _=>bx 1 (show ([".0","_law_row"]:List Str).Nodup by decide+kernel)) (fun _ _ _=>i7) (fun _ _ _=>aU hu (af 1) (PQ.bo (ag))))
     (aD (bC (i9 (aS.of rfl (by first|decide+kernel|rfl)) rfl (eQ (aU hu (af 0) (PQ.bo (ag)))) (fun _ _ _=>bx 1 (show ([".0","_law_stream","_law_read"]:List Str).Nodup by decide+kernel)) (fun _ _ _=>i8 (gL hu (PQ.bo (aU hu (af 1) (PQ.bo (ag)))) (af 2))) (fun _ _ _=>au 1))))
theorem ip:aW ["_law_script","_law_case_here","_law_named","_law_there","_law_row","_law_how","_law_spot","_law_loose_here","_law_others"] ["_law_script","_law_case_here","_law_named"] (ak cE):=⟨rfl,rfl,rfl,by decide+kernel,rfl,by decide+kernel,by decide+kernel⟩
theorem me (A:bE K mg "_law_spoiled" cE ["_law_script","_law_case_here","_law_named"]) (B:Bl mg BN) (G_law_cell:bp P w K mg base 2 "_law_cell" 2 aq) (G_law_loose:bp P w K mg base 1 "_law_loose" 1 dL):bp P w K mg base 3 "_law_spoiled" 3 cY:=by
 refine cn A ip rfl rfl fun f cdv A outer s H E hr=> ?_
 have hu:=d6 hr
 have S:=ip
 exact ah (si 3 (aS.of rfl (by first|decide+kernel|rfl)) rfl S.nd (eQ (aU hu (af 1) (PQ.bo (ag)))) (fun _ _ _=>bx 1 (show ([".0","_law_stream"]:List Str).Nodup by decide+kernel)) (fun _ _ _=>i7) (fun _ _ _=>aU hu (af 1) (PQ.bo (ag))))
     (ah (vJ 4 S.nd (vI cr tO (B.no "list" (by decide)) L2.Pu.dj (aE (af 2) (aL))))
     (ah (a_ 5 S.nd (az bf aP (PQ.bo (ce G_law_cell (hr.mono (by decide)) (ac (au 0) (ac (ag) (al))))) (PQ.bo (ag))))
     (ah (a_ 6 S.nd (ce G_law_cell (hr.mono (by decide)) (ac (au 0) (ac (ag) (al)))))
     (ah (lL 7 (aS.of rfl (by first|decide+kernel|rfl)) rfl S.nd (eQ (ce G_law_loose (hr.mono (by decide)) (ac (au 1) (al)))) (fun _ _ _=>bx 1 (show ([".0","_law_stream"]:List Str).Nodup by decide+kernel)) (fun _ _ _=>i7) (fun _ _ _=>aU hu (af 1) (PQ.bo (ag))))
     (ah (di (n5.t (p8 (Ax hu (af 5) (PQ.bo (iM (ac (ag) (ac (ag) (ac (ag) (ac (ag) (al)))))))) (lJ (bU (lX hu) jB (af 4) (PQ.bo (eG (al)))))))
     (aD (lZ 4 (az bf aP (af 6) (PQ.bo (az aX aY (PQ.bo (bj ba bO (B.no "len" (by decide)) PySem.boot_len (aE (af 4) (aL)))) (PQ.bo (ag))))) (aU hu (af 4) (PQ.bo (az bf aP (PQ.bo (az bV bF (af 6) (PQ.bo (ag)))) (PQ.bo (bj ba bO (B.no "len" (by decide)) PySem.boot_len (aE (af 4) (aL)))))))))
     (bu))
     (ah (di (n5.t (p8 (Ax hu (af 5) (PQ.bo (iM (ac (ag) (ac (ag) (ac (ag) (ac (ag) (al)))))))) (lJ (bU (lX hu) jB (af 7) (PQ.bo (eG (al)))))))
     (aD (lZ 4 (az bf aP (PQ.bo (az bV bF (af 6) (PQ.bo (ag)))) (PQ.bo (az aX aY (PQ.bo (bj ba bO (B.no "len" (by decide)) PySem.boot_len (aE (af 4) (aL)))) (PQ.bo (ag))))) (aU hu (af 7) (PQ.bo (az bf aP (PQ.bo (az bV bF (af 6) (PQ.bo (ag)))) (PQ.bo (bj ba bO (B.no "len" (by decide)) PySem.boot_len (aE (af 7) (aL)))))))))
     (bu))
     (ah (di (Ax hu (af 5) (PQ.bo (iM (ac (ag) (ac (ag) (ac (ag) (ac (ag) (al))))))))
     (ah (lL 8 (aS.of rfl (by first|decide+kernel|rfl)) rfl S.nd (eQ (az aX aY (PQ.bo (pD rfl (B.no "list" (by decide)) (B.no "range" (by decide)) (ac (Al nJ o0 (PQ.bo (ag))) (ac (ag) (al))))) (PQ.bo (eG (ac (az zK xK (PQ.bo (ag)) (PQ.bo (ag))) (al)))))) (fun _ _ _=>bx 1 (show ([".0","_law_number","_law_there"]:List Str).Nodup by decide+kernel)) (fun _ _ _=>i8 (gL hu (af 1) (af 2))) (fun _ _ _=>au 1))
     (aD (lZ 4 (az bf aP (PQ.bo (az bV bF (af 6) (PQ.bo (ag)))) (PQ.bo (az aX aY (PQ.bo (bj ba bO (B.no "len" (by decide)) PySem.boot_len (aE (af 4) (aL)))) (PQ.bo (ag))))) (aU hu (af 8) (PQ.bo (az bf aP (PQ.bo (az bV bF (af 6) (PQ.bo (ag)))) (PQ.bo (bj ba bO (B.no "len" (by decide)) PySem.boot_len (aE (af 8) (aL))))))))))
     (bu))
     (aD (jp [4] (bC (au 4)))))))))))
theorem iq:aW ["_law_day_here","_law_row","_law_kinds","e","_law_word"] ["_law_day_here","_law_row"] (ak cF):=⟨rfl,rfl,rfl,by decide+kernel,rfl,by decide+kernel,by decide+kernel⟩
theorem mf (A:bE K mg "_law_doubted" cF ["_law_day_here","_law_row"]) (B:Bl mg BN) (G_Day_doubting:eu P w K mg base 3 "Day" "doubting" 2 aG) (I_NotMetered:rb K mg "NotMetered" (mH [("UnknownStream",false),("Twice",false),("NotMetered",true)])) (I_Twice:rb K mg "Twice" (mH [("UnknownStream",false),("Twice",true),("NotMetered",false)])) (I_UnknownStream:rb K mg "UnknownStream" (mH [("UnknownStream",true),("Twice",false),("NotMetered",false)])) (U_CellarError:sk K mg "CellarError" (vL ["UnknownStream","Twice","NotMetered"])):bp P w K mg base 4 "_law_doubted" 2 bQ:=by
 refine cn A iq rfl rfl fun f cdv A outer s H E hr=> ?_
 have hu:=d6 hr
 have S:=iq
 exact ah (h_ 2 S.nd (al))
     (ah (Ci 3 lH S.nd U_CellarError (fun _ _=>aD (bC (eG (ac (kd G_Day_doubting (hr.mono (by decide)) (au 0) (ac (au 1) (al))) (ac (fP) (al))))))
     (fun _=>aD (h_ 2 S.nd (ac (re I_UnknownStream (B.no "isinstance" (by decide)) (af 3)) (ac (re I_Twice (B.no "isinstance" (by decide)) (af 3)) (ac (re I_NotMetered (B.no "isinstance" (by decide)) (af 3)) (al)))))))
     (ah (a_ 4 S.nd (fP))
     (ah (di (bU dO cP (PQ.bo (AO (af 2) (lI))) (PQ.bo (ag)))
     (aD (a_ 4 S.nd (aU hu (PQ.bo (eG (ac (fP) (ac (fP) (ac (fP) (al)))))) (PQ.bo (AQ (af 2) (lI))))))
     (bu))
     (aD (bC (eG (ac (B_) (ac (au 4) (al)))))))))
theorem gU:aW ["_law_case_here","_law_row"] ["_law_case_here","_law_row"] (ak cm):=⟨rfl,rfl,rfl,by decide+kernel,rfl,by decide+kernel,by decide+kernel⟩
theorem kR (A:bE K mg "_law_due_word" cm ["_law_case_here","_law_row"]) (B:Bl mg BN):bp P w K mg base 1 "_law_due_word" 2 bJ:=by
 refine cn A gU rfl rfl fun f cdv A outer s H E hr=> ?_
 have hu:=d6 hr
 have S:=gU
 exact ah (di (bU (lX hu) jB (PQ.bo (i9 (aS.of rfl (by first|decide+kernel|rfl)) rfl (eQ (au 1)) (fun _ _ _=>bx 1 (show ([".0","_law_number","_law_case_here"]:List Str).Nodup by decide+kernel)) (fun _ _ _=>i8 (gL hu (af 1) (PQ.bo (i9 (aS.of rfl (by first|decide+kernel|rfl)) rfl (eQ (aU hu (af 2) (PQ.bo (ag)))) (fun _ _ _=>bx 1 (show ([".0","_law_stream"]:List Str).Nodup by decide+kernel)) (fun _ _ _=>i7) (fun _ _ _=>aU hu (af 1) (PQ.bo (ag))))))) (fun _ _ _=>au 1))) (PQ.bo (eG (al))))
     (aD (bC (fP)))
     (bu))
     (ah (di (bU (lX hu) jB (PQ.bo (i9 (aS.of rfl (by first|decide+kernel|rfl)) rfl (eQ (au 1)) (fun _ _ _=>bx 1 (show ([".0","_law_number","_law_row"]:List Str).Nodup by decide+kernel)) (fun _ _ _=>i8 (bU rN nZ (PQ.bo (AR (af 2) (au 1))) (PQ.bo (ag)))) (fun _ _ _=>au 1))) (PQ.bo (eG (al))))
     (aD (bC (fP)))
     (bu))
     (ah (di (bU (lX hu) jB (PQ.bo (i9 (aS.of rfl (by first|decide+kernel|rfl)) rfl (eQ (au 1)) (fun _ _ _=>bx 1 (show ([".0","_law_number","_law_case_here"]:List Str).Nodup by decide+kernel)) (fun _ _ _=>i8 (gL hu (af 1) (PQ.bo (i9 (aS.of rfl (by first|decide+kernel|rfl)) rfl (eQ (aU hu (af 2) (PQ.bo (ag)))) (fun _ _ _=>bx 1 (show ([".0","_law_one"]:List Str).Nodup by decide+kernel)) (fun _ _ _=>i7) (fun _ _ _=>aU hu (af 1) (PQ.bo (ag))))))) (fun _ _ _=>au 1))) (PQ.bo (eG (al))))
     (aD (bC (fP)))
     (bu))
     (aD (bC (fP)))))
theorem vV:aW ["_law_script","_law_case_here","_law_day_here","_law_figures_here","_law_named","_law_row","_law_handed","_law_found","_law_word","_law_left","_law_number","_law_rest"] ["_law_script"] (ak iS):=⟨rfl,rfl,rfl,by decide+kernel,rfl,by decide+kernel,by decide+kernel⟩
theorem AS {f:Addr} {fd:FuncData} (F:uf K "law" "law" iS f fd) (B:Bl mg BN) (G_law_case:bp P w K mg base 4 "_law_case" 1 fK) (G_law_day:bp P w K mg base 3 "_law_day" 2 gB) (G_law_figures:bp P w K mg base 1 "_law_figures" 4 dv) (G_law_cell:bp P w K mg base 2 "_law_cell" 2 aq) (G_law_at:bp P w K mg base 1 "_law_at" 2 cV) (G_law_spoiled:bp P w K mg base 3 "_law_spoiled" 3 cY) (G_law_doubted:bp P w K mg base 4 "_law_doubted" 2 bQ) (G_law_same:bp P w K mg base 8 "_law_same" 2 aZ) (G_law_kept:bp P w K mg base 9 "_law_kept" 2 cD) (G_law_due_word:bp P w K mg base 1 "_law_due_word" 2 bJ) (G_Day_metered:eu P w K mg base 2 "Day" "metered" 2 aJ) (G_Day_doubting:eu P w K mg base 3 "Day" "doubting" 2 aG):eP P w K mg base (kM P w) 10 f fd ["_law_script"] (tj K 1 nr):=by
 refine Au F vV rfl rfl fun cdv A outer s H E hr=> ?_
 have hu:=d6 hr
 have S:=vV
 exact ah (a_ 1 S.nd (ce G_law_case (hr.mono (by decide)) (ac (au 0) (al))))
     (ah (a_ 2 S.nd (ce G_law_day (hr.mono (by decide)) (ac (au 0) (ac (au 1) (al)))))
     (ah (a_ 3 S.nd (ce G_law_figures (hr.mono (by decide)) (ac (ce G_law_cell (hr.mono (by decide)) (ac (au 0) (ac (ag) (al)))) (ac (p7 dO cP (PQ.bo (az bf aP (PQ.bo (ce G_law_at (hr.mono (by decide)) (ac (au 0) (ac (ag) (al))))) (PQ.bo (ag)))) (PQ.bo (ag))) (ac (bj ba bO (B.no "len" (by decide)) PySem.boot_len (aE (PQ.bo (aU hu (af 1) (PQ.bo (ag)))) (aL))) (ac (ag) (al)))))))
     (ah (lL 4 (aS.of rfl (by first|decide+kernel|rfl)) rfl S.nd (dX (B.no "range" (by decide)) (ac (bj ba bO (B.no "len" (by decide)) PySem.boot_len (aE (PQ.bo (aU hu (af 1) (PQ.bo (ag)))) (aL))) (al))) (fun _ _ _=>bx 1 (show ([".0","_law_k","_law_case_here","_law_figures_here"]:List Str).Nodup by decide+kernel)) (fun _ _ _=>i8 (bU dO cP (PQ.bo (aU hu (af 3) (af 1))) (PQ.bo (ag)))) (fun _ _ _=>aU hu (PQ.bo (aU hu (PQ.bo (aU hu (af 2) (PQ.bo (ag)))) (af 1))) (PQ.bo (ag))))
     (ah (di (bU dO cP (PQ.bo (az bf aP (PQ.bo (ce G_law_cell (hr.mono (by decide)) (ac (au 0) (ac (ag) (al))))) (PQ.bo (ag)))) (PQ.bo (ag)))
     (aD (a_ 4 S.nd (vi (af 4))))
     (bu))
     (ah (jp [4] (a_ 5 S.nd (ce G_law_spoiled (hr.mono (by decide)) (ac (au 0) (ac (au 1) (ac (au 4) (al)))))))
     (ah (a_ 6 S.nd (bw cr fz (B.no "list" (by decide)) L2.Pu.dj (aE (af 5) (aL))))
     (ah (a_ 7 S.nd (ce G_law_doubted (hr.mono (by decide)) (ac (au 2) (ac (au 6) (al)))))
     (ah (di (n5.t (qE (iN (gm (PQ.bo (ce G_law_same (hr.mono (by decide)) (ac (bw bq cp (B.no "tuple" (by decide)) L2.Pu.bG (aE (af 6) (aL))) (ac (bw bq cp (B.no "tuple" (by decide)) L2.Pu.bG (aE (af 5) (aL))) (al))))))) (lK (iN (gm (PQ.bo (ce G_law_kept (hr.mono (by decide)) (ac (au 2) (ac (au 1) (al))))))))))
     (aD (bC (lI)))
     (bu))
     (ah (a_ 8 S.nd (ce G_law_due_word (hr.mono (by decide)) (ac (au 1) (ac (au 5) (al)))))
     (ah (di (n5.t (qE (bU uw qR (af 8) (PQ.bo (fP))) (lK (bU uw qR (PQ.bo (aU hu (af 7) (PQ.bo (ag)))) (PQ.bo (fP))))))
     (aD (bC (p7 dO cP (PQ.bo (aU hu (af 7) (PQ.bo (ag)))) (af 8))))
     (bu))
     (ah (a_ 9 S.nd (bw bq cp (B.no "tuple" (by decide)) L2.Pu.bG (aE (PQ.bo (i9 (aS.of rfl (by first|decide+kernel|rfl)) rfl (eQ (aU hu (af 1) (PQ.bo (ag)))) (fun _ _ _=>bx 1 (show ([".0","_law_one","_law_row"]:List Str).Nodup by decide+kernel)) (fun _ _ _=>i8 (gL hu (PQ.bo (aU hu (af 1) (PQ.bo (ag)))) (af 2))) (fun _ _ _=>au 1))) (aL))))
     (ah (jq PassesOwn.leaving rfl (eQ (au 5)) (bx 10 S.nd)
     (aD (di (n5.t (qE (iN (gm (PQ.bo (ce G_law_same (hr.mono (by decide)) (ac (kd G_Day_metered (hr.mono (by decide)) (aU hu (af 7) (PQ.bo (ag))) (ac (au 10) (al))) (ac (lI) (al))))))) (lK (iN (gm (PQ.bo (ce G_law_same (hr.mono (by decide)) (ac (kd G_Day_metered (hr.mono (by decide)) (au 2) (ac (au 10) (al))) (ac (lI) (al))))))))))
     (aD (bC (lI)))
     (bu))))
     (ah (di (iN (gm (PQ.bo (ce G_law_kept (hr.mono (by decide)) (ac (aU hu (af 7) (PQ.bo (ag))) (ac (iM (ac (aU hu (af 1) (PQ.bo (ag))) (ac (aU hu (af 1) (PQ.bo (ag))) (ac (aU hu (af 1) (PQ.bo (ag))) (ac (au 9) (al)))))) (al)))))))
     (aD (bC (lI)))
     (bu))
     (ah (a_ 11 S.nd (kd G_Day_doubting (hr.mono (by decide)) (aU hu (af 7) (PQ.bo (ag))) (ac (bw bq cp (B.no "tuple" (by decide)) L2.Pu.bG (aE (PQ.bo (i9 (aS.of rfl (by first|decide+kernel|rfl)) rfl (eQ (au 9)) (fun _ _ _=>bx 1 (show ([".0","_law_one"]:List Str).Nodup by decide+kernel)) (fun _ _ _=>i7) (fun _ _ _=>aU hu (af 1) (PQ.bo (ag))))) (aL))) (al))))
     (aD (bC (pb (ce G_law_kept (hr.mono (by decide)) (ac (au 11) (ac (iM (ac (aU hu (af 1) (PQ.bo (ag))) (ac (aU hu (af 1) (PQ.bo (ag))) (ac (aU hu (af 1) (PQ.bo (ag))) (ac (iM (al)) (al)))))) (al)))) (sf (ce G_law_kept (hr.mono (by decide)) (ac (au 2) (ac (au 1) (al))))))))))))))))))))))
theorem AT {l:PySem.W.OpenLaw} {h:Heap} {fa f1 f2 f3 f4 f5 f6 f7 f8 f9 f10 f11 f12 f13 f14 f15 f16 f17 f18 f19 f20 f21 f22 f23 C_Day C_CellarError C_NotMetered C_Twice C_UnknownStream:Addr} (X:K.In h) (G:h.Ns mainGlobals mg) (hfa:mg "law"=some (.ref fa))
  {od1 an1 od2 an2 od3 an3 od4 an4 od5 an5 od6 an6 od7 an7 od8 an8 od9 an9 od10 an10 od11 an11 od12 an12 od13 an13 od14 an14 od15 an15 od16 an16 od17 an17 od18 an18 od19 an19 od20 an20 od21 an21 od22 an22 od23 an23:Option Addr} {sl1 sl2 sl3 sl4 sl5 sl6 sl7 sl8 sl9 sl10 sl11 sl12 sl13 sl14 sl15 sl16 sl17 sl18 sl19 sl20 sl21 sl22 sl23:Array (Option Value)} {oc1 kV1 dc1 pm1 cd1 ct1 oc2 kV2 dc2 pm2 cd2 ct2 oc3 kV3 dc3 pm3 cd3 ct3 oc4 kV4 dc4 pm4 cd4 ct4 oc5 kV5 dc5 pm5 cd5 ct5 oc6 kV6 dc6 pm6 cd6 ct6 oc7 kV7 dc7 pm7 cd7 ct7 oc8 kV8 dc8 pm8 cd8 ct8 oc9 kV9 dc9 pm9 cd9 ct9 oc10 kV10 dc10 pm10 cd10 ct10 oc11 kV11 dc11 pm11 cd11 ct11 oc12 kV12 dc12 pm12 cd12 ct12 oc13 kV13 dc13 pm13 cd13 ct13 oc14 kV14 dc14 pm14 cd14 ct14 oc15 kV15 dc15 pm15 cd15 ct15 oc16 kV16 dc16 pm16 cd16 ct16 oc17 kV17 dc17 pm17 cd17 ct17 oc18 kV18 dc18 pm18 cd18 ct18 oc19 kV19 dc19 pm19 cd19 ct19 oc20 kV20 dc20 pm20 cd20 ct20 oc21 kV21 dc21 pm21 cd21 ct21 oc22 kV22 dc22 pm22 cd22 ct22 oc23 kV23 dc23 pm23 cd23 ct23:Value}
  (n_Day:PySem.W.nsIn K mainGlobals "Day"=some (some (.ref C_Day)))
  (n_CellarError:PySem.W.nsIn K mainGlobals "CellarError"=some (some (.ref C_CellarError)))
  (n_NotMetered:PySem.W.nsIn K mainGlobals "NotMetered"=some (some (.ref C_NotMetered)))
  (n_Twice:PySem.W.nsIn K mainGlobals "Twice"=some (some (.ref C_Twice)))
  (n_UnknownStream:PySem.W.nsIn K mainGlobals "UnknownStream"=some (some (.ref C_UnknownStream)))
  (p1_Day:PySem.W.plainGet K C_Day Str.empty=true)
  (p2_Day:PySem.W.hasDictIn K C_Day=true)
  (p3_Day:PySem.W.plainOver K C_Day=true)
  (p4_Day:PySem.W.findIn K (.ref C_Day) "__setattr__"=some (some (.builtin "object.__setattr__")))
  (q_Day_tanks:PySem.W.findIn K (.ref C_Day) "tanks"=some none)
  (q_Day_streams:PySem.W.findIn K (.ref C_Day) "streams"=some none)
  (q_Day_rises:PySem.W.findIn K (.ref C_Day) "rises"=some none)
  (q_Day_readings:PySem.W.findIn K (.ref C_Day) "readings"=some none)
  (p5_Day:PySem.W.makesIn K C_Day=true)
  (p6_Day:PySem.W.keepIn K (.ref C_Day)=true)
  (a1:PySem.W.findIn K (.ref C_Day) "__init__"=some (some (.ref f1)))
  (l1:K.lookup f1=some ⟨oc1,od1, .func (PySem.W.fnOf "__init__" "Day.__init__" (bi d9) (aR d9) (ak d9) .none kV1 dc1 pm1 an1 cd1 ct1),sl1⟩)
  (c1:PySem.W.codeIn K cd1 "Day.__init__"=true)
  (k1:PySem.W.keepIn K (.ref f1)=true)
  (i1:PySem.W.isFn K (.ref f1)=true)
  (a2:PySem.W.findIn K (.ref C_Day) "stream"=some (some (.ref f2)))
  (l2:K.lookup f2=some ⟨oc2,od2, .func (PySem.W.fnOf "stream" "Day.stream" (bi cS) (aR cS) (ak cS) .none kV2 dc2 pm2 an2 cd2 ct2),sl2⟩)
  (c2:PySem.W.codeIn K cd2 "Day.stream"=true)
  (k2:PySem.W.keepIn K (.ref f2)=true)
  (i2:PySem.W.isFn K (.ref f2)=true)
  (a3:PySem.W.findIn K (.ref C_Day) "metered"=some (some (.ref f3)))
  (l3:K.lookup f3=some ⟨oc3,od3, .func (PySem.W.fnOf "metered" "Day.metered" (bi cz) (aR cz) (ak cz) .none kV3 dc3 pm3 an3 cd3 ct3),sl3⟩)
  (c3:PySem.W.codeIn K cd3 "Day.metered"=true)
  (k3:PySem.W.keepIn K (.ref f3)=true)
  (i3:PySem.W.isFn K (.ref f3)=true)
  (a4:PySem.W.findIn K (.ref C_Day) "doubting"=some (some (.ref f4)))
  (l4:K.lookup f4=some ⟨oc4,od4, .func (PySem.W.fnOf "doubting" "Day.doubting" (bi cf) (aR cf) (ak cf) .none kV4 dc4 pm4 an4 cd4 ct4),sl4⟩)
  (c4:PySem.W.codeIn K cd4 "Day.doubting"=true)
  (k4:PySem.W.keepIn K (.ref f4)=true)
  (i4:PySem.W.isFn K (.ref f4)=true)
  (a5:PySem.W.nsIn K mainGlobals "_law_at"=some (some (.ref f5)))
  (l5:K.lookup f5=some ⟨oc5,od5, .func (PySem.W.fnOf "_law_at" "_law_at" (bi fH) (aR fH) (ak fH) .none kV5 dc5 pm5 an5 cd5 ct5),sl5⟩)
  (c5:PySem.W.codeIn K cd5 "_law_at"=true)
  (k5:PySem.W.keepIn K (.ref f5)=true)
  (a6:PySem.W.nsIn K mainGlobals "_law_cell"=some (some (.ref f6)))
  (l6:K.lookup f6=some ⟨oc6,od6, .func (PySem.W.fnOf "_law_cell" "_law_cell" (bi dF) (aR dF) (ak dF) .none kV6 dc6 pm6 an6 cd6 ct6),sl6⟩)
  (c6:PySem.W.codeIn K cd6 "_law_cell"=true)
  (k6:PySem.W.keepIn K (.ref f6)=true)
  (a7:PySem.W.nsIn K mainGlobals "_law_figures"=some (some (.ref f7)))
  (l7:K.lookup f7=some ⟨oc7,od7, .func (PySem.W.fnOf "_law_figures" "_law_figures" (bi cA) (aR cA) (ak cA) .none kV7 dc7 pm7 an7 cd7 ct7),sl7⟩)
  (c7:PySem.W.codeIn K cd7 "_law_figures"=true)
  (k7:PySem.W.keepIn K (.ref f7)=true)
  (a8:PySem.W.nsIn K mainGlobals "_law_same"=some (some (.ref f8)))
  (l8:K.lookup f8=some ⟨oc8,od8, .func (PySem.W.fnOf "_law_same" "_law_same" (bi da) (aR da) (ak da) .none kV8 dc8 pm8 an8 cd8 ct8),sl8⟩)
  (c8:PySem.W.codeIn K cd8 "_law_same"=true)
  (k8:PySem.W.keepIn K (.ref f8)=true)
  (a9:PySem.W.nsIn K mainGlobals "_law_streams"=some (some (.ref f9)))
  (l9:K.lookup f9=some ⟨oc9,od9, .func (PySem.W.fnOf "_law_streams" "_law_streams" (bi cB) (aR cB) (ak cB) .none kV9 dc9 pm9 an9 cd9 ct9),sl9⟩)
  (c9:PySem.W.codeIn K cd9 "_law_streams"=true)
  (k9:PySem.W.keepIn K (.ref f9)=true)
  (a10:PySem.W.nsIn K mainGlobals "_law_metered"=some (some (.ref f10)))
  (l10:K.lookup f10=some ⟨oc10,od10, .func (PySem.W.fnOf "_law_metered" "_law_metered" (bi cC) (aR cC) (ak cC) .none kV10 dc10 pm10 an10 cd10 ct10),sl10⟩)
  (c10:PySem.W.codeIn K cd10 "_law_metered"=true)
  (k10:PySem.W.keepIn K (.ref f10)=true)
  (a11:PySem.W.nsIn K mainGlobals "_law_span"=some (some (.ref f11)))
  (l11:K.lookup f11=some ⟨oc11,od11, .func (PySem.W.fnOf "_law_span" "_law_span" (bi dH) (aR dH) (ak dH) .none kV11 dc11 pm11 an11 cd11 ct11),sl11⟩)
  (c11:PySem.W.codeIn K cd11 "_law_span"=true)
  (k11:PySem.W.keepIn K (.ref f11)=true)
  (a12:PySem.W.nsIn K mainGlobals "_law_flows"=some (some (.ref f12)))
  (l12:K.lookup f12=some ⟨oc12,od12, .func (PySem.W.fnOf "_law_flows" "_law_flows" (bi db) (aR db) (ak db) .none kV12 dc12 pm12 an12 cd12 ct12),sl12⟩)
  (c12:PySem.W.codeIn K cd12 "_law_flows"=true)
  (k12:PySem.W.keepIn K (.ref f12)=true)
  (a13:PySem.W.nsIn K mainGlobals "_law_truth"=some (some (.ref f13)))
  (l13:K.lookup f13=some ⟨oc13,od13, .func (PySem.W.fnOf "_law_truth" "_law_truth" (bi dc) (aR dc) (ak dc) .none kV13 dc13 pm13 an13 cd13 ct13),sl13⟩)
  (c13:PySem.W.codeIn K cd13 "_law_truth"=true)
  (k13:PySem.W.keepIn K (.ref f13)=true)
  (a14:PySem.W.nsIn K mainGlobals "_law_readings"=some (some (.ref f14)))
  (l14:K.lookup f14=some ⟨oc14,od14, .func (PySem.W.fnOf "_law_readings" "_law_readings" (bi cj) (aR cj) (ak cj) .none kV14 dc14 pm14 an14 cd14 ct14),sl14⟩)
  (c14:PySem.W.codeIn K cd14 "_law_readings"=true)
  (k14:PySem.W.keepIn K (.ref f14)=true)
  (a15:PySem.W.nsIn K mainGlobals "_law_rises"=some (some (.ref f15)))
  (l15:K.lookup f15=some ⟨oc15,od15, .func (PySem.W.fnOf "_law_rises" "_law_rises" (bi df) (aR df) (ak df) .none kV15 dc15 pm15 an15 cd15 ct15),sl15⟩)
  (c15:PySem.W.codeIn K cd15 "_law_rises"=true)
  (k15:PySem.W.keepIn K (.ref f15)=true)
  (a16:PySem.W.nsIn K mainGlobals "_law_case"=some (some (.ref f16)))
  (l16:K.lookup f16=some ⟨oc16,od16, .func (PySem.W.fnOf "_law_case" "_law_case" (bi dI) (aR dI) (ak dI) .none kV16 dc16 pm16 an16 cd16 ct16),sl16⟩)
  (c16:PySem.W.codeIn K cd16 "_law_case"=true)
  (k16:PySem.W.keepIn K (.ref f16)=true)
  (a17:PySem.W.nsIn K mainGlobals "_law_day"=some (some (.ref f17)))
  (l17:K.lookup f17=some ⟨oc17,od17, .func (PySem.W.fnOf "_law_day" "_law_day" (bi eB) (aR eB) (ak eB) .none kV17 dc17 pm17 an17 cd17 ct17),sl17⟩)
  (c17:PySem.W.codeIn K cd17 "_law_day"=true)
  (k17:PySem.W.keepIn K (.ref f17)=true)
  (a18:PySem.W.nsIn K mainGlobals "_law_kept"=some (some (.ref f18)))
  (l18:K.lookup f18=some ⟨oc18,od18, .func (PySem.W.fnOf "_law_kept" "_law_kept" (bi dJ) (aR dJ) (ak dJ) .none kV18 dc18 pm18 an18 cd18 ct18),sl18⟩)
  (c18:PySem.W.codeIn K cd18 "_law_kept"=true)
  (k18:PySem.W.keepIn K (.ref f18)=true)
  (a19:PySem.W.nsIn K mainGlobals "_law_loose"=some (some (.ref f19)))
  (l19:K.lookup f19=some ⟨oc19,od19, .func (PySem.W.fnOf "_law_loose" "_law_loose" (bi dg) (aR dg) (ak dg) .none kV19 dc19 pm19 an19 cd19 ct19),sl19⟩)
  (c19:PySem.W.codeIn K cd19 "_law_loose"=true)
  (k19:PySem.W.keepIn K (.ref f19)=true)
  (a20:PySem.W.nsIn K mainGlobals "_law_spoiled"=some (some (.ref f20)))
  (l20:K.lookup f20=some ⟨oc20,od20, .func (PySem.W.fnOf "_law_spoiled" "_law_spoiled" (bi cE) (aR cE) (ak cE) .none kV20 dc20 pm20 an20 cd20 ct20),sl20⟩)
  (c20:PySem.W.codeIn K cd20 "_law_spoiled"=true)
  (k20:PySem.W.keepIn K (.ref f20)=true)
  (a21:PySem.W.nsIn K mainGlobals "_law_doubted"=some (some (.ref f21)))
  (l21:K.lookup f21=some ⟨oc21,od21, .func (PySem.W.fnOf "_law_doubted" "_law_doubted" (bi cF) (aR cF) (ak cF) .none kV21 dc21 pm21 an21 cd21 ct21),sl21⟩)
  (c21:PySem.W.codeIn K cd21 "_law_doubted"=true)
  (k21:PySem.W.keepIn K (.ref f21)=true)
  (a22:PySem.W.nsIn K mainGlobals "_law_due_word"=some (some (.ref f22)))
  (l22:K.lookup f22=some ⟨oc22,od22, .func (PySem.W.fnOf "_law_due_word" "_law_due_word" (bi cm) (aR cm) (ak cm) .none kV22 dc22 pm22 an22 cd22 ct22),sl22⟩)
  (c22:PySem.W.codeIn K cd22 "_law_due_word"=true)
  (k22:PySem.W.keepIn K (.ref f22)=true)
  (a23:PySem.W.nsIn K mainGlobals "law"=some (some (.ref f23)))
  (l23:K.lookup f23=some ⟨oc23,od23, .func (PySem.W.fnOf "law" "law" (bi iS) (aR iS) (ak iS) .none kV23 dc23 pm23 an23 cd23 ct23),sl23⟩)
  (c23:PySem.W.codeIn K cd23 "law"=true)
  (k23:PySem.W.keepIn K (.ref f23)=true)
  (s1:PySem.W.specialIn K (.builtin "object.__class__") "__get__"=some (some (.builtin "getset_descriptor.__get__")))
  (s2:PySem.W.takesIn K (.builtin "object.__class__")=some true)
  (e1_UnknownStream:PySem.W.excIn K C_UnknownStream qC "ValueError.__new__"=true)
  (e2_UnknownStream:PySem.W.findIn K (.ref C_UnknownStream) "__getattribute__"=some (some (.builtin "BaseException.__getattribute__")))
  (e3_UnknownStream:PySem.W.findIn K (.ref C_UnknownStream) "__getattr__"=some none)
  (e4_UnknownStream:PySem.W.findIn K (.ref C_UnknownStream) "__class__"=some (some (.builtin "object.__class__")))
  (e5_UnknownStream:PySem.W.mroIn K C_UnknownStream (.type "object")=some true)
  (e6_UnknownStream:PySem.W.mroIn K C_UnknownStream (.type "BaseException")=some true)
  (e7_UnknownStream:PySem.W.mroIn K C_UnknownStream (.ref C_UnknownStream)=some true)
  (e1_Twice:PySem.W.excIn K C_Twice qC "ValueError.__new__"=true)
  (e2_Twice:PySem.W.findIn K (.ref C_Twice) "__getattribute__"=some (some (.builtin "BaseException.__getattribute__")))
  (e3_Twice:PySem.W.findIn K (.ref C_Twice) "__getattr__"=some none)
  (e4_Twice:PySem.W.findIn K (.ref C_Twice) "__class__"=some (some (.builtin "object.__class__")))
  (e5_Twice:PySem.W.mroIn K C_Twice (.type "object")=some true)
  (e6_Twice:PySem.W.mroIn K C_Twice (.type "BaseException")=some true)
  (e7_Twice:PySem.W.mroIn K C_Twice (.ref C_Twice)=some true)
  (e1_NotMetered:PySem.W.excIn K C_NotMetered qC "ValueError.__new__"=true)
  (e2_NotMetered:PySem.W.findIn K (.ref C_NotMetered) "__getattribute__"=some (some (.builtin "BaseException.__getattribute__")))
  (e3_NotMetered:PySem.W.findIn K (.ref C_NotMetered) "__getattr__"=some none)
  (e4_NotMetered:PySem.W.findIn K (.ref C_NotMetered) "__class__"=some (some (.builtin "object.__class__")))
  (e5_NotMetered:PySem.W.mroIn K C_NotMetered (.type "object")=some true)
  (e6_NotMetered:PySem.W.mroIn K C_NotMetered (.type "BaseException")=some true)
  (e7_NotMetered:PySem.W.mroIn K C_NotMetered (.ref C_NotMetered)=some true)
  (e1_CellarError:PySem.W.excIn K C_CellarError qC "ValueError.__new__"=true)
  (e6_CellarError:PySem.W.mroIn K C_CellarError (.type "BaseException")=some true)
  (m_CellarError_NotMetered:PySem.W.mroIn K C_NotMetered (.ref C_CellarError)=some true)
  (m_CellarError_Twice:PySem.W.mroIn K C_Twice (.ref C_CellarError)=some true)
  (m_CellarError_UnknownStream:PySem.W.mroIn K C_UnknownStream (.ref C_CellarError)=some true)
  (m_NotMetered_NotMetered:PySem.W.mroIn K C_NotMetered (.ref C_NotMetered)=some true)
  (m_NotMetered_Twice:PySem.W.mroIn K C_Twice (.ref C_NotMetered)=some false)
  (m_NotMetered_UnknownStream:PySem.W.mroIn K C_UnknownStream (.ref C_NotMetered)=some false)
  (m_Twice_NotMetered:PySem.W.mroIn K C_NotMetered (.ref C_Twice)=some false)
  (m_Twice_Twice:PySem.W.mroIn K C_Twice (.ref C_Twice)=some true)
  (m_Twice_UnknownStream:PySem.W.mroIn K C_UnknownStream (.ref C_Twice)=some false)
  (m_UnknownStream_NotMetered:PySem.W.mroIn K C_NotMetered (.ref C_UnknownStream)=some false)
  (m_UnknownStream_Twice:PySem.W.mroIn K C_Twice (.ref C_UnknownStream)=some false)
  (m_UnknownStream_UnknownStream:PySem.W.mroIn K C_UnknownStream (.ref C_UnknownStream)=some true)
  (z0:PySem.W.nsIn K mainGlobals "all"=some none)
  (z1:PySem.W.nsIn K mainGlobals "bool"=some none)
  (z2:PySem.W.nsIn K mainGlobals "dict"=some none)
  (z3:PySem.W.nsIn K mainGlobals "int"=some none)
  (z4:PySem.W.nsIn K mainGlobals "isinstance"=some none)
  (z5:PySem.W.nsIn K mainGlobals "len"=some none)
  (z6:PySem.W.nsIn K mainGlobals "list"=some none)
  (z7:PySem.W.nsIn K mainGlobals "max"=some none)
  (z8:PySem.W.nsIn K mainGlobals "min"=some none)
  (z9:PySem.W.nsIn K mainGlobals "range"=some none)
  (z10:PySem.W.nsIn K mainGlobals "set"=some none)
  (z11:PySem.W.nsIn K mainGlobals "sorted"=some none)
  (z12:PySem.W.nsIn K mainGlobals "tuple"=some none)
  :∃fd:FuncData,(∀(s:Shared) (v:Value),BindsTo s fd ⟨[v],[]⟩ [("_law_script",v)])/\∀base:Heap,K.In base->base.Ns mainGlobals mg->eP l.prog w K mg base (kM l.prog w) 10 fa fd ["_law_script"] (tj K 1 nr):=by
 have e:=hfa.symm.trans (PySem.W.mg_of X G a23)
 cases e
 have B:Bl mg BN:=⟨fun x hx=>by
  simp only[BN,List.mem_cons,List.not_mem_nil,or_false]at hx
  rcases hx with rfl|rfl|rfl|rfl|rfl|rfl|rfl|rfl|rfl|rfl|rfl|rfl|rfl
  ·exact PySem.W.mg_none_of X G z0
  ·exact PySem.W.mg_none_of X G z1
  ·exact PySem.W.mg_none_of X G z2
  ·exact PySem.W.mg_none_of X G z3
  ·exact PySem.W.mg_none_of X G z4
  ·exact PySem.W.mg_none_of X G z5
  ·exact PySem.W.mg_none_of X G z6
  ·exact PySem.W.mg_none_of X G z7
  ·exact PySem.W.mg_none_of X G z8
  ·exact PySem.W.mg_none_of X G z9
  ·exact PySem.W.mg_none_of X G z10
  ·exact PySem.W.mg_none_of X G z11
  ·exact PySem.W.mg_none_of X G z12⟩
 have cl_Day:lP K "Day" C_Day:=⟨n_Day,p1_Day,p2_Day,p3_Day,p4_Day⟩
 have no_Day:∀x∈gP,eO K C_Day x:=fun x hx=>by
  simp only[gP,List.mem_cons,List.not_mem_nil,or_false]at hx
  rcases hx with rfl|rfl|rfl|rfl
  ·exact q_Day_tanks
  ·exact q_Day_streams
  ·exact q_Day_rises
  ·exact q_Day_readings
 have T_Day:nl K "Day" gP:=⟨_,cl_Day,no_Day⟩
 have F1:=cc (st:=d9) l1 c1 k1
 have b1:=F1.binds (ps:=["self","tanks","streams","rises","readings"]) fun _ _ _ _ _ _ us hl=>CY (P:=fun us=>bindArgs _ ⟨us,[]⟩=pure (List.zip _ us)) (fun _ _ _ _ _=>rfl) us hl
 have A1:r8 K mg "Day" "Day.__init__" d9 ["self","tanks","streams","rises","readings"] gP:=⟨_,_,_,F1,cl_Day,PySem.W.mg_of X G n_Day,⟨p5_Day,a1,i1,p6_Day⟩,b1,no_Day⟩
 have F2:=cc (st:=cS) l2 c2 k2
 have b2:=F2.binds (ps:=["self","number"]) fun _ _ _ _ _ _ us hl=>vP (P:=fun us=>bindArgs _ ⟨us,[]⟩=pure (List.zip _ us)) (fun _ _=>rfl) us hl
 have A2:j3 K "Day" "stream" "Day.stream" cS ["self","number"]:=⟨_,_,_,F2,cl_Day,⟨a2,i2,k2⟩,b2⟩
 have F3:=cc (st:=cz) l3 c3 k3
 have b3:=F3.binds (ps:=["self","number"]) fun _ _ _ _ _ _ us hl=>vP (P:=fun us=>bindArgs _ ⟨us,[]⟩=pure (List.zip _ us)) (fun _ _=>rfl) us hl
 have A3:j3 K "Day" "metered" "Day.metered" cz ["self","number"]:=⟨_,_,_,F3,cl_Day,⟨a3,i3,k3⟩,b3⟩
 have F4:=cc (st:=cf) l4 c4 k4
 have b4:=F4.binds (ps:=["self","numbers"]) fun _ _ _ _ _ _ us hl=>vP (P:=fun us=>bindArgs _ ⟨us,[]⟩=pure (List.zip _ us)) (fun _ _=>rfl) us hl
 have A4:j3 K "Day" "doubting" "Day.doubting" cf ["self","numbers"]:=⟨_,_,_,F4,cl_Day,⟨a4,i4,k4⟩,b4⟩
 have F5:=cc (st:=fH) l5 c5 k5
 have b5:=F5.binds (ps:=["_law_script","_law_k"]) fun _ _ _ _ _ _ us hl=>vP (P:=fun us=>bindArgs _ ⟨us,[]⟩=pure (List.zip _ us)) (fun _ _=>rfl) us hl
 have A5:bE K mg "_law_at" fH ["_law_script","_law_k"]:=⟨_,_,F5,PySem.W.mg_of X G a5,b5⟩
 have F6:=cc (st:=dF) l6 c6 k6
 have b6:=F6.binds (ps:=["_law_script","_law_k"]) fun _ _ _ _ _ _ us hl=>vP (P:=fun us=>bindArgs _ ⟨us,[]⟩=pure (List.zip _ us)) (fun _ _=>rfl) us hl
 have A6:bE K mg "_law_cell" dF ["_law_script","_law_k"]:=⟨_,_,F6,PySem.W.mg_of X G a6,b6⟩
 have F7:=cc (st:=cA) l7 c7 k7
 have b7:=F7.binds (ps:=["_law_cell_here","_law_mixed","_law_many","_law_size"]) fun _ _ _ _ _ _ us hl=>CW (P:=fun us=>bindArgs _ ⟨us,[]⟩=pure (List.zip _ us)) (fun _ _ _ _=>rfl) us hl
 have A7:bE K mg "_law_figures" cA ["_law_cell_here","_law_mixed","_law_many","_law_size"]:=⟨_,_,F7,PySem.W.mg_of X G a7,b7⟩
 have F8:=cc (st:=da) l8 c8 k8
 have b8:=F8.binds (ps:=["_law_found","_law_due"]) fun _ _ _ _ _ _ us hl=>vP (P:=fun us=>bindArgs _ ⟨us,[]⟩=pure (List.zip _ us)) (fun _ _=>rfl) us hl
 have A8:bE K mg "_law_same" da ["_law_found","_law_due"]:=⟨_,_,F8,PySem.W.mg_of X G a8,b8⟩
 have F9:=cc (st:=cB) l9 c9 k9
 have b9:=F9.binds (ps:=["_law_script","_law_n","_law_many"]) fun _ _ _ _ _ _ us hl=>CV (P:=fun us=>bindArgs _ ⟨us,[]⟩=pure (List.zip _ us)) (fun _ _ _=>rfl) us hl
 have A9:bE K mg "_law_streams" cB ["_law_script","_law_n","_law_many"]:=⟨_,_,F9,PySem.W.mg_of X G a9,b9⟩
 have F10:=cc (st:=cC) l10 c10 k10
 have b10:=F10.binds (ps:=["_law_script","_law_streams_here","_law_share"]) fun _ _ _ _ _ _ us hl=>CV (P:=fun us=>bindArgs _ ⟨us,[]⟩=pure (List.zip _ us)) (fun _ _ _=>rfl) us hl
 have A10:bE K mg "_law_metered" cC ["_law_script","_law_streams_here","_law_share"]:=⟨_,_,F10,PySem.W.mg_of X G a10,b10⟩
 have F11:=cc (st:=dH) l11 c11 k11
 have b11:=F11.binds (ps:=["_law_levels","_law_source","_law_target","_law_most"]) fun _ _ _ _ _ _ us hl=>CW (P:=fun us=>bindArgs _ ⟨us,[]⟩=pure (List.zip _ us)) (fun _ _ _ _=>rfl) us hl
 have A11:bE K mg "_law_span" dH ["_law_levels","_law_source","_law_target","_law_most"]:=⟨_,_,F11,PySem.W.mg_of X G a11,b11⟩
 have F12:=cc (st:=db) l12 c12 k12
 have b12:=F12.binds (ps:=["_law_figures_here","_law_n","_law_streams_here","_law_meters","_law_bounds"]) fun _ _ _ _ _ _ us hl=>CY (P:=fun us=>bindArgs _ ⟨us,[]⟩=pure (List.zip _ us)) (fun _ _ _ _ _=>rfl) us hl
 have A12:bE K mg "_law_flows" db ["_law_figures_here","_law_n","_law_streams_here","_law_meters","_law_bounds"]:=⟨_,_,F12,PySem.W.mg_of X G a12,b12⟩
 have F13:=cc (st:=dc) l13 c13 k13
 have b13:=F13.binds (ps:=["_law_script","_law_n","_law_streams_here","_law_metered_here","_law_small"]) fun _ _ _ _ _ _ us hl=>CY (P:=fun us=>bindArgs _ ⟨us,[]⟩=pure (List.zip _ us)) (fun _ _ _ _ _=>rfl) us hl
 have A13:bE K mg "_law_truth" dc ["_law_script","_law_n","_law_streams_here","_law_metered_here","_law_small"]:=⟨_,_,F13,PySem.W.mg_of X G a13,b13⟩
 have F14:=cc (st:=cj) l14 c14 k14
 have b14:=F14.binds (ps:=["_law_script","_law_truth_here","_law_metered_here","_law_mode","_law_small"]) fun _ _ _ _ _ _ us hl=>CY (P:=fun us=>bindArgs _ ⟨us,[]⟩=pure (List.zip _ us)) (fun _ _ _ _ _=>rfl) us hl
 have A14:bE K mg "_law_readings" cj ["_law_script","_law_truth_here","_law_metered_here","_law_mode","_law_small"]:=⟨_,_,F14,PySem.W.mg_of X G a14,b14⟩
 have F15:=cc (st:=df) l15 c15 k15
 have b15:=F15.binds (ps:=["_law_script","_law_levels","_law_mode","_law_small"]) fun _ _ _ _ _ _ us hl=>CW (P:=fun us=>bindArgs _ ⟨us,[]⟩=pure (List.zip _ us)) (fun _ _ _ _=>rfl) us hl
 have A15:bE K mg "_law_rises" df ["_law_script","_law_levels","_law_mode","_law_small"]:=⟨_,_,F15,PySem.W.mg_of X G a15,b15⟩
 have F16:=cc (st:=dI) l16 c16 k16
 have b16:=F16.binds (ps:=["_law_script"]) fun _ _ _ _ _ _ us hl=>CU (P:=fun us=>bindArgs _ ⟨us,[]⟩=pure (List.zip _ us)) (fun _=>rfl) us hl
 have A16:bE K mg "_law_case" dI ["_law_script"]:=⟨_,_,F16,PySem.W.mg_of X G a16,b16⟩
 have F17:=cc (st:=eB) l17 c17 k17
 have b17:=F17.binds (ps:=["_law_script","_law_case_here"]) fun _ _ _ _ _ _ us hl=>vP (P:=fun us=>bindArgs _ ⟨us,[]⟩=pure (List.zip _ us)) (fun _ _=>rfl) us hl
 have A17:bE K mg "_law_day" eB ["_law_script","_law_case_here"]:=⟨_,_,F17,PySem.W.mg_of X G a17,b17⟩
 have F18:=cc (st:=dJ) l18 c18 k18
 have b18:=F18.binds (ps:=["_law_day_here","_law_case_here"]) fun _ _ _ _ _ _ us hl=>vP (P:=fun us=>bindArgs _ ⟨us,[]⟩=pure (List.zip _ us)) (fun _ _=>rfl) us hl
 have A18:bE K mg "_law_kept" dJ ["_law_day_here","_law_case_here"]:=⟨_,_,F18,PySem.W.mg_of X G a18,b18⟩
 have F19:=cc (st:=dg) l19 c19 k19
 have b19:=F19.binds (ps:=["_law_case_here"]) fun _ _ _ _ _ _ us hl=>CU (P:=fun us=>bindArgs _ ⟨us,[]⟩=pure (List.zip _ us)) (fun _=>rfl) us hl
 have A19:bE K mg "_law_loose" dg ["_law_case_here"]:=⟨_,_,F19,PySem.W.mg_of X G a19,b19⟩
 have F20:=cc (st:=cE) l20 c20 k20
 have b20:=F20.binds (ps:=["_law_script","_law_case_here","_law_named"]) fun _ _ _ _ _ _ us hl=>CV (P:=fun us=>bindArgs _ ⟨us,[]⟩=pure (List.zip _ us)) (fun _ _ _=>rfl) us hl
 have A20:bE K mg "_law_spoiled" cE ["_law_script","_law_case_here","_law_named"]:=⟨_,_,F20,PySem.W.mg_of X G a20,b20⟩
 have F21:=cc (st:=cF) l21 c21 k21
 have b21:=F21.binds (ps:=["_law_day_here","_law_row"]) fun _ _ _ _ _ _ us hl=>vP (P:=fun us=>bindArgs _ ⟨us,[]⟩=pure (List.zip _ us)) (fun _ _=>rfl) us hl
 have A21:bE K mg "_law_doubted" cF ["_law_day_here","_law_row"]:=⟨_,_,F21,PySem.W.mg_of X G a21,b21⟩
 have F22:=cc (st:=cm) l22 c22 k22
 have b22:=F22.binds (ps:=["_law_case_here","_law_row"]) fun _ _ _ _ _ _ us hl=>vP (P:=fun us=>bindArgs _ ⟨us,[]⟩=pure (List.zip _ us)) (fun _ _=>rfl) us hl
 have A22:bE K mg "_law_due_word" cm ["_law_case_here","_law_row"]:=⟨_,_,F22,PySem.W.mg_of X G a22,b22⟩
 have F23:=cc (st:=iS) l23 c23 k23
 have b23:=F23.binds (ps:=["_law_script"]) fun _ _ _ _ _ _ us hl=>CU (P:=fun us=>bindArgs _ ⟨us,[]⟩=pure (List.zip _ us)) (fun _=>rfl) us hl
 have A23:bE K mg "law" iS ["_law_script"]:=⟨_,_,F23,PySem.W.mg_of X G a23,b23⟩
 have ek_UnknownStream:mC K C_UnknownStream:=ol e1_UnknownStream e2_UnknownStream e3_UnknownStream e4_UnknownStream e5_UnknownStream e6_UnknownStream (gA e1_UnknownStream e7_UnknownStream) s1 s2
 have ek_Twice:mC K C_Twice:=ol e1_Twice e2_Twice e3_Twice e4_Twice e5_Twice e6_Twice (gA e1_Twice e7_Twice) s1 s2
 have ek_NotMetered:mC K C_NotMetered:=ol e1_NotMetered e2_NotMetered e3_NotMetered e4_NotMetered e5_NotMetered e6_NotMetered (gA e1_NotMetered e7_NotMetered) s1 s2
 have E_NotMetered:lT K mg "NotMetered":=⟨_,n_NotMetered,PySem.W.mg_of X G n_NotMetered,ek_NotMetered⟩
 have E_Twice:lT K mg "Twice":=⟨_,n_Twice,PySem.W.mg_of X G n_Twice,ek_Twice⟩
 have E_UnknownStream:lT K mg "UnknownStream":=⟨_,n_UnknownStream,PySem.W.mg_of X G n_UnknownStream,ek_UnknownStream⟩
 have I_NotMetered:rb K mg "NotMetered" (mH [("UnknownStream",false),("Twice",false),("NotMetered",true)]):=⟨_,PySem.W.mg_of X G n_NotMetered,lW (fun x hx=>by
  simp only[List.mem_cons,List.not_mem_nil,or_false]at hx
  rcases hx with rfl|rfl|rfl
  ·exact⟨_,n_UnknownStream,dm e1_NotMetered m_NotMetered_UnknownStream e7_UnknownStream,ek_UnknownStream⟩
  ·exact⟨_,n_Twice,dm e1_NotMetered m_NotMetered_Twice e7_Twice,ek_Twice⟩
  ·exact⟨_,n_NotMetered,dm e1_NotMetered m_NotMetered_NotMetered e7_NotMetered,ek_NotMetered⟩)⟩
 have I_Twice:rb K mg "Twice" (mH [("UnknownStream",false),("Twice",true),("NotMetered",false)]):=⟨_,PySem.W.mg_of X G n_Twice,lW (fun x hx=>by
  simp only[List.mem_cons,List.not_mem_nil,or_false]at hx
  rcases hx with rfl|rfl|rfl
  ·exact⟨_,n_UnknownStream,dm e1_Twice m_Twice_UnknownStream e7_UnknownStream,ek_UnknownStream⟩
  ·exact⟨_,n_Twice,dm e1_Twice m_Twice_Twice e7_Twice,ek_Twice⟩
  ·exact⟨_,n_NotMetered,dm e1_Twice m_Twice_NotMetered e7_NotMetered,ek_NotMetered⟩)⟩
 have I_UnknownStream:rb K mg "UnknownStream" (mH [("UnknownStream",true),("Twice",false),("NotMetered",false)]):=⟨_,PySem.W.mg_of X G n_UnknownStream,lW (fun x hx=>by
  simp only[List.mem_cons,List.not_mem_nil,or_false]at hx
  rcases hx with rfl|rfl|rfl
  ·exact⟨_,n_UnknownStream,dm e1_UnknownStream m_UnknownStream_UnknownStream e7_UnknownStream,ek_UnknownStream⟩
  ·exact⟨_,n_Twice,dm e1_UnknownStream m_UnknownStream_Twice e7_Twice,ek_Twice⟩
  ·exact⟨_,n_NotMetered,dm e1_UnknownStream m_UnknownStream_NotMetered e7_NotMetered,ek_NotMetered⟩)⟩
 have U_CellarError:sk K mg "CellarError" (vL ["UnknownStream","Twice","NotMetered"]):=vM (PySem.W.mg_of X G n_CellarError) (fun x hx=>by
  simp only[List.mem_cons,List.not_mem_nil,or_false]at hx
  rcases hx with rfl|rfl|rfl
  ·exact⟨_,n_UnknownStream,kh e1_CellarError m_CellarError_UnknownStream e6_CellarError⟩
  ·exact⟨_,n_Twice,kh e1_CellarError m_CellarError_Twice e6_CellarError⟩
  ·exact⟨_,n_NotMetered,kh e1_CellarError m_CellarError_NotMetered e6_CellarError⟩)
 refine⟨PySem.W.fnOf "law" "law" (bi iS) (aR iS) (ak iS) .none kV23 dc23 pm23 an23 cd23 ct23,fun s v=> .of_eq rfl,fun base _ _=> ?_⟩
 have G_Day_init:ke l.prog w K mg base 1 "Day" 4 bH:=pO A1 B
 have G_Day_stream:eu l.prog w K mg base 1 "Day" "stream" 2 dn:=mI A2 B E_UnknownStream T_Day
 have G_Day_metered:eu l.prog w K mg base 2 "Day" "metered" 2 aJ:=m7 A3 B G_Day_stream T_Day
 have G_Day_doubting:eu l.prog w K mg base 3 "Day" "doubting" 2 aG:=kP A4 B G_Day_metered G_Day_init E_NotMetered E_Twice T_Day
 have G_law_at:bp l.prog w K mg base 1 "_law_at" 2 cV:=tZ A5 B
 have G_law_cell:bp l.prog w K mg base 2 "_law_cell" 2 aq:=pP A6 B G_law_at
 have G_law_figures:bp l.prog w K mg base 1 "_law_figures" 4 dv:=m8 A7 B
 have G_law_same:bp l.prog w K mg base 8 "_law_same" 2 aZ:=pQ A8 B
 have G_law_streams:bp l.prog w K mg base 3 "_law_streams" 3 dw:=m9 A9 B G_law_cell
 have G_law_metered:bp l.prog w K mg base 3 "_law_metered" 3 dz:=ma A10 B G_law_cell
 have G_law_span:bp l.prog w K mg base 1 "_law_span" 4 fI:=pR A11 B
 have G_law_flows:bp l.prog w K mg base 2 "_law_flows" 5 eK:=oo A12 B G_law_span
 have G_law_truth:bp l.prog w K mg base 3 "_law_truth" 5 eL:=oq A13 B G_law_cell G_law_flows
 have G_law_readings:bp l.prog w K mg base 3 "_law_readings" 5 de:=kQ A14 B G_law_cell
 have G_law_rises:bp l.prog w K mg base 3 "_law_rises" 4 eM:=ou A15 B G_law_cell
 have G_law_case:bp l.prog w K mg base 4 "_law_case" 1 fK:=pS A16 B G_law_cell G_law_streams G_law_metered G_law_truth G_law_readings G_law_rises
 have G_law_day:bp l.prog w K mg base 3 "_law_day" 2 gB:=rg A17 B G_law_cell G_Day_init
 have G_law_kept:bp l.prog w K mg base 9 "_law_kept" 2 cD:=pT A18 B G_law_same T_Day
 have G_law_loose:bp l.prog w K mg base 1 "_law_loose" 1 dL:=ow A19 B
 have G_law_spoiled:bp l.prog w K mg base 3 "_law_spoiled" 3 cY:=me A20 B G_law_cell G_law_loose
 have G_law_doubted:bp l.prog w K mg base 4 "_law_doubted" 2 bQ:=mf A21 B G_Day_doubting I_NotMetered I_Twice I_UnknownStream U_CellarError
 have G_law_due_word:bp l.prog w K mg base 1 "_law_due_word" 2 bJ:=kR A22 B
 exact AS F23 B G_law_case G_law_day G_law_figures G_law_cell G_law_at G_law_spoiled G_law_doubted G_law_same G_law_kept G_law_due_word G_Day_metered G_Day_doubting
end
theorem walk {l:PySem.W.OpenLaw} {q:Program} {loose:List Str} {XP:(Str->Option Value)->Heap->Prop} {YP:World->Heap->Prop} {d:DefRec} {K:Params->PySem.W.Frag} (hn:l.most=some 63) (hdf:d.params.defaults=[])
  (hY:∀(w:World) (h:Heap),YP w h->(K w.params).In h) (main:∀ns:List Int,ns.length<=63->nr [.scr ns]= .ok (.bl true))
  (F:∀(w:World) (mg:Str->Option Value) (fa:Addr) (h:Heap),(K w.params).In h->h.Ns mainGlobals mg->mg d.name=some (.ref fa)->
   ∃fd:FuncData,(∀(s:Shared) (u:Value),BindsTo s fd ⟨[u],[]⟩ [("_law_script",u)])/\∀base:Heap,(K w.params).In base->base.Ns mainGlobals mg->eP l.prog w (K w.params) mg base (kM l.prog w) 10 fa fd ["_law_script"] (tj (K w.params) 1 nr)):
  PySem.W.WalkO q loose XP YP l.row.toRowW d [] (fun f vs=>PySem.call f vs):=
 L2.xp (n:=63) (k:=10) (x:="_law_script") (CX:=fun w=>kM l.prog w) (sp:=fun w=>tj (K w.params) 1 nr) hn (by decide) hdf ⟨rfl,by decide,by decide⟩ hY F (fun _ _ a ns hl _ hS=>AB (main ns hl) hS) fun _ _ _ _ _ z=>L2.Pu.AM z
end My
namespace My
open PySem PySem.Spec PyProof.Rows L2 L2.Pu
local macro_rules|`(tactic|simp! [$xs,*])=>`(tactic|simp only[aH,aT,gN,dN,bN,bc,j_,i5,hZ,gq,kN,frz,frz1,List.foldl,cH,f2,f1,cI,cO,gI,fL,aM,iO,DA,p9,E7,fT,eU,jZ,tm,hX,aa,aj,ar,ae,fC,tE,ax,cN,List.getElem?_cons_zero,List.getElem?_cons_succ,List.set_cons_zero,List.set_cons_succ,vx,vy,vz,List.length_cons,List.length_nil,Nat.zero_add,Nat.reduceAdd,if_true,if_false,Bool.false_eq_true,Bool.not_true,Bool.not_false,fW,decide_true,decide_false,qV,AD,vn,yX,yW,C7,C8,C9,AE,yY,qW,o7,xO,xP,vo,vp,yZ,y_,List.nil_append,Option.map_some,Nat.zero_le,$xs,*])
noncomputable def cel (ns:List Int) (k:Nat):Int:=ns.getD k 0
theorem su (ns:List Int) (k:Nat):cV [.scr ns, .int (k:Int)]= .ok (.int (cel ns k)):=by
 unfold cV bA
 simp only[dC,pN,aH,dN,bN,bc,f2,cI,ae,fC,fT,aa,aj,AG,yW,Ca,List.length_cons,List.length_nil,if_true,List.map_cons,List.map_nil,List.replicate,Nat.sub_self,List.append_nil,List.getElem?_cons_zero,List.getElem?_cons_succ,Slot.data,ax,cN]
 by_cases h:k<ns.length
 ·have h':(k:Int)<(ns.length:Int):=by omega
  simp only[h',decide_true,if_true,dD h,Option.map_some,cN,ax]
  simp[cel,h]
 ·have h':¬(k:Int)<(ns.length:Int):=by omega
  simp only[h',decide_false,if_false,Bool.false_eq_true,ax]
  simp[cel,Nat.le_of_not_lt h]
theorem DS (ns:List Int):cV [.scr ns, .int 0]= .ok (.int (cel ns 0)):=su ns 0
noncomputable def cl (ns:List Int) (k:Nat):Int:=if cel ns 0%2=0 then cel ns k else ((cel ns k+cel ns 0 / 2+7919*(k:Int)+1)*48271%2147483647+(k:Int))*69621%2147483647
theorem cM (ns:List Int) (k:Nat):aq [.scr ns, .int (k:Int)]= .ok (.int (cl ns k)):=by
 refine bd rfl ?_
 show j5 [some (.val (.scr ns)),some (.val (.int (k:Int))),none]=_
 by_cases h:cel ns 0%2=0<;>simp! [j5,DS,su,h,aN (show (0:Int)<2 by decide),cq (show (0:Int)<2/\(2:Int)<1073741824 by decide),o6 (show Int.natAbs 48271<18446744073709551616 by decide),o6 (show Int.natAbs 69621<18446744073709551616 by decide),vm (show Int.natAbs 7919<18446744073709551616 by decide),aN (show (0:Int)<2147483647 by decide),cl]
theorem pU {g:D->ai->R ai} {gb:ai->R bY} {n:Nat} {P:Nat->ai->Prop} (h:∀k,k<n->∀ρ,P k ρ->∃ρ1 ρ2,g (.int (k:Int)) ρ= .ok ρ1/\(gb ρ1= .ok (.nx ρ2)\/gb ρ1= .ok (.cnt ρ2))/\P (k+1) ρ2):∀(j k:Nat) (ρ:ai),k+j=n->P k ρ->∃ρ',cU g gb ((List.range' k j).map fun k:Nat=>D.int (k:Int)) ρ= .ok (.nx ρ')/\P n ρ'
 |0,k,ρ,e,hp=>⟨ρ,rfl,by rw[Nat.add_zero]at e;exact e▸hp⟩
 |j+1,k,ρ,e,hp=>by
  obtain⟨ρ1,ρ2,e1,e2,h2⟩:=h k (by omega) ρ hp
  obtain⟨ρ',e3,h3⟩:=pU h j (k+1) ρ2 (by omega) h2
  refine⟨ρ',?_,h3⟩
  rw[List.range'_succ,List.map_cons]
  rcases e2 with e2|e2
  ·rw[iF e1 e2,e3]
  ·rw[vv e1 e2,e3]
theorem jH {g:D->ai->R ai} {gb:ai->R bY} {n:Nat} {P:Nat->ai->Prop} {fs:ai->R (List D)} {ρ:ai} (hf:fs ρ= .ok [.int (n:Int)]) (hn:n<=1000) (h0:P 0 ρ) (h:∀k,k<n->∀ρ,P k ρ->∃ρ1 ρ2,g (.int (k:Int)) ρ= .ok ρ1/\(gb ρ1= .ok (.nx ρ2)\/gb ρ1= .ok (.cnt ρ2))/\P (k+1) ρ2):∃ρ',i5 (d0 fs) g gb ρ= .ok (.nx ρ')/\P n ρ':=by
 obtain⟨ρ',e,hp⟩:=pU h n 0 ρ (by omega) h0
 rw[<-List.range_eq_range']at e
 exact⟨ρ',(o8 (gx hf (by unfold lim;omega))).trans e,hp⟩
theorem mh {α β:Type} (f:α->β) {l:List α} {k:Nat} (h:k<l.length):(l.take (k+1)).map f=(l.take k).map f++[f l[k]]:=by
 rw[<-List.take_append_getElem h,List.map_append];rfl
noncomputable abbrev eC:=Int×Int×Int
noncomputable def bg (r:eC):D:= .tup [.int r.1, .int r.2.1, .int r.2.2]
structure Good (n:Nat) (ss:List eC):Prop where
 inc:ss.Pairwise fun a b=>a.1<b.1
 num:∀r∈ss,1<=r.1/\r.1<=60
 src:∀r∈ss,0<=r.2.1/\r.2.1<=n
 tgt:∀r∈ss,0<=r.2.2/\r.2.2<=n
 ne:∀r∈ss,r.2.1≠r.2.2
noncomputable def jI (ns:List Int) (c room:Int):Int:=if cl ns 4 / 8%2=1 then c%room%4 else c%room
noncomputable def pV (ns:List Int) (n num room c:Int):eC:=(num+1+jI ns c room,c / room%(n+1),(c / room%(n+1)+1+c / room / (n+1)%n)%(n+1))
theorem zh (ns:List Int):aq [.scr ns, .int 4]= .ok (.int (cl ns 4)):=cM ns 4
theorem vW {ns:List Int} {n many k:Nat} {num:Int} {acc:List D} {x6 x7 x8 x9 x10:Option Slot} (hn:0<n) (hn7:n<=7) (hr:0<61 - num - (many:Int)+(k:Int)) (hr2:61 - num - (many:Int)+(k:Int)<=100) (hlim:acc.length<lim):
  ∃y6 y7 y8 y9 y10,ee [some (.val (.scr ns)),some (.val (.int (n:Int))),some (.val (.int (many:Int))),some (.own (.lst acc)),some (.val (.int num)),some (.val (.int (k:Int))),x6,x7,x8,x9,x10]
   = .ok (.nx [some (.val (.scr ns)),some (.val (.int (n:Int))),some (.val (.int (many:Int))),some (.own (.lst (acc++[bg (pV ns n num (61 - num - (many:Int)+(k:Int)) (cl ns (5+k)))]))),some (.val (.int (num+1+jI ns (cl ns (5+k)) (61 - num - (many:Int)+(k:Int))))),some (.val (.int (k:Int))),y6,y7,y8,y9,y10]):=by
 have hc:aq [.scr ns, .int (5+(k:Int))]= .ok (.int (cl ns (5+k))):=by
  have:=cM ns (5+k)
  rwa [show ((5+k:Nat):Int)=5+(k:Int) by omega]at this
 have hn1:(0:Int)<(n:Int)+1:=by omega
 have hn0:(0:Int)<(n:Int):=by omega
 have hl3:(3:Nat)<=lim:=by decide
 generalize he:(61 - num - (many:Int)+(k:Int))=room at*
 refine⟨some (.val (.int room)),some (.val (.int (cl ns (5+k)))),some (.val (.int (jI ns (cl ns (5+k)) room))),some (.val (.int (cl ns (5+k) / room%((n:Int)+1)))),some (.val (.int ((cl ns (5+k) / room%((n:Int)+1)+1+cl ns (5+k) / room / ((n:Int)+1)%(n:Int))%((n:Int)+1)))),?_⟩
 by_cases h:cl ns 4 / 8%2=1<;>simp! [ee,he,hc,zh,h,cq (show (0:Int)<8/\(8:Int)<1073741824 by decide),aN (show (0:Int)<2 by decide),aN (show (0:Int)<4 by decide),aN hr,cq (show 0<room/\room<1073741824 from ⟨hr,by omega⟩),aN hn1,aN hn0,cq (show 0<(n:Int)+1/\(n:Int)+1<1073741824 from ⟨hn1,by omega⟩),hlim,hl3,jI,pV,bg]
theorem AU (ns:List Int) (c room:Int) (h:0<room):0<=jI ns c room/\jI ns c room<room:=by
 unfold jI
 have h1:=Int.emod_nonneg c (show room≠0 by omega)
 have h2:=Int.emod_lt_of_pos c h
 split<;>omega
theorem vX (ns:List Int) (n:Nat) (num room c:Int) (hn:0<n):let r:=pV ns n num room c;(0<=r.2.1/\r.2.1<=n)/\(0<=r.2.2/\r.2.2<=n)/\r.2.1≠r.2.2:=by
 have hp:(0:Int)<(n:Int)+1:=by omega
 have h0:(0:Int)<(n:Int):=by omega
 have a1:=Int.emod_nonneg (c / room) (show (n:Int)+1≠0 by omega)
 have a2:=Int.emod_lt_of_pos (c / room) hp
 have b1:=Int.emod_nonneg (c / room / ((n:Int)+1)) (show (n:Int)≠0 by omega)
 have b2:=Int.emod_lt_of_pos (c / room / ((n:Int)+1)) h0
 have c1:=Int.emod_nonneg (c / room%((n:Int)+1)+1+c / room / ((n:Int)+1)%(n:Int)) (show (n:Int)+1≠0 by omega)
 have c2:=Int.emod_lt_of_pos (c / room%((n:Int)+1)+1+c / room / ((n:Int)+1)%(n:Int)) hp
 refine⟨⟨a1,by show c / room%((n:Int)+1)<=(n:Int);omega⟩,⟨c1,by show (c / room%((n:Int)+1)+1+c / room / ((n:Int)+1)%(n:Int))%((n:Int)+1)<=(n:Int);omega⟩,?_⟩
 show c / room%((n:Int)+1)≠(c / room%((n:Int)+1)+1+c / room / ((n:Int)+1)%(n:Int))%((n:Int)+1)
 generalize c / room%((n:Int)+1)=s at*
 generalize c / room / ((n:Int)+1)%(n:Int)=e at*
 by_cases hlt:s+1+e<(n:Int)+1
 ·rw[Int.emod_eq_of_lt (by omega) hlt];omega
 ·have:(s+1+e)%((n:Int)+1)=s+1+e - ((n:Int)+1):=by
   rw[<-Int.sub_emod_right,Int.emod_eq_of_lt (by omega) (by omega)]
  rw[this];omega
theorem Good.snoc {n:Nat} {ss:List eC} {r:eC} (g:Good n ss) (h1:∀q∈ss,q.1<r.1) (h2:1<=r.1/\r.1<=60) (h3:(0<=r.2.1/\r.2.1<=n)/\(0<=r.2.2/\r.2.2<=n)/\r.2.1≠r.2.2):Good n (ss++[r]):=by
 have key:∀{Q:eC->Prop},(∀q∈ss,Q q)->Q r->∀q∈ss++[r],Q q:=fun a b q hq=>(List.mem_append.mp hq).elim (a q) fun z=>List.mem_singleton.mp z▸b
 exact⟨List.pairwise_append.mpr ⟨g.inc,List.pairwise_singleton _ _,fun a ha b hb=>List.mem_singleton.mp hb▸h1 a ha⟩,key g.num h2,key g.src h3.1,key g.tgt h3.2.1,key g.ne h3.2.2⟩
theorem oy (ns:List Int) (n many:Nat) (hn7:n<=7) (hm:many<=12) (h0:0<n\/many=0):∃ss:List eC,dw [.scr ns, .int (n:Int), .int (many:Int)]= .ok (.lst (ss.map bg))/\ss.length=many/\Good n ss:=by
 obtain⟨ρ',e,ss,num,y5,y6,y7,y8,y9,y10,rfl,h1,h2,_⟩:=jH (g:=gN 5) (gb:=ee) (n:=many) (fs:=aa (ar 2) (aj)) (ρ:=[some (.val (.scr ns)),some (.val (.int (n:Int))),some (.val (.int (many:Int))),some (.own (.lst (([]:List eC).map bg))),some (.val (.int 0)),none,none,none,none,none,none])
  (P:=fun k ρ=>∃(ss:List eC) (num:Int) (y5 y6 y7 y8 y9 y10:Option Slot),ρ=[some (.val (.scr ns)),some (.val (.int (n:Int))),some (.val (.int (many:Int))),some (.own (.lst (ss.map bg))),some (.val (.int num)),y5,y6,y7,y8,y9,y10]/\ss.length=k/\Good n ss/\(∀r∈ss,r.1<=num)/\0<=num/\num+(many:Int) - (k:Int)<=60)
  rfl (by omega) ⟨[],0,_,_,_,_,_,_,rfl,rfl,⟨.nil,by simp,by simp,by simp,by simp⟩,by simp,Int.le_refl _,by omega⟩ (fun k hk ρ hρ=>by
   obtain⟨ss,num,y5,y6,y7,y8,y9,y10,rfl,l1,g,hb,hz,hn⟩:=hρ
   have hr:0<61 - num - (many:Int)+(k:Int):=by omega
   obtain⟨z6,z7,z8,z9,z10,es⟩:=vW (ns:=ns) (n:=n) (many:=many) (k:=k) (num:=num) (acc:=ss.map bg) (x6:=y6) (x7:=y7) (x8:=y8) (x9:=y9) (x10:=y10) (by omega) hn7 hr (by omega) (by rw[List.length_map];unfold lim;omega)
   have hg:=AU ns (cl ns (5+k)) _ hr
   have hrow:=vX ns n num (61 - num - (many:Int)+(k:Int)) (cl ns (5+k)) (by omega)
   have hnum:(pV ns n num (61 - num - (many:Int)+(k:Int)) (cl ns (5+k))).1=num+1+jI ns (cl ns (5+k)) (61 - num - (many:Int)+(k:Int)):=rfl
   generalize pV ns n num (61 - num - (many:Int)+(k:Int)) (cl ns (5+k))=row at*
   generalize jI ns (cl ns (5+k)) (61 - num - (many:Int)+(k:Int))=gp at*
   refine⟨_,_,rfl, .inl es,ss++[row],_,_,_,_,_,_,_,by rw[List.map_append];rfl,by simp[l1],g.snoc (fun q hq=> ?_) (by omega) hrow,fun q hq=> ?_,by omega,by omega⟩
   ·have:=hb q hq
    omega
   ·rcases List.mem_append.mp hq with hq|hq
    ·have:=hb q hq
     omega
    ·rw[List.mem_singleton.mp hq,hnum]
     exact Int.le_refl _)
 refine⟨ss,bd rfl ?_,h1,h2⟩
 show gf [some (.val (.scr ns)),some (.val (.int (n:Int))),some (.val (.int (many:Int))),none,none,none,none,none,none,none,none]=_
 unfold gf
 rw[av (ρ':=[some (.val (.scr ns)),some (.val (.int (n:Int))),some (.val (.int (many:Int))),some (.own (.lst (([]:List eC).map bg))),none,none,none,none,none,none,none]) rfl,
  av (ρ':=[some (.val (.scr ns)),some (.val (.int (n:Int))),some (.val (.int (many:Int))),some (.own (.lst (([]:List eC).map bg))),some (.val (.int 0)),none,none,none,none,none,none]) rfl,av e]
 rfl
inductive Wf:Nat->D->Prop
 |int (n:Nat) (i:Int):Wf n (.int i)
 |bl (n:Nat) (b:Bool):Wf n (.bl b)
 |tup {n:Nat} {ds:List D}:ds.length<=1000->(∀d∈ds,Wf n d)->Wf (n+1) (.tup ds)
theorem Wf.up {n:Nat} {d:D} (h:Wf n d):∀k,Wf (n+k) d:=by
 induction h with
 |int n i=>exact fun k=> .int _ i
 |bl n b=>exact fun k=> .bl _ b
 | @tup n ds h1 h2 ih=>exact fun k=>by rw[Nat.add_right_comm];exact .tup h1 fun d hd=>ih d hd k
theorem t_ {rec_:List D->R D} {ds:List D} (h:∀d∈ds,rec_ [d,d]= .ok (.bl true)) {k:Nat} (hk:k<ds.length):
  fQ rec_ [some (.val (.tup ds)),some (.val (.tup ds)),some (.val (.int (k:Int)))]= .ok (.nx [some (.val (.tup ds)),some (.val (.tup ds)),some (.val (.int (k:Int)))]):=by
 have hr:=h ds[k] (List.getElem_mem hk)
 simp only[fQ,dN,hX,eU,aM,aa,aj,f2,ae,bN,bc,fC,ax,cN,List.getElem?_cons_zero,List.getElem?_cons_succ,Slot.data,y_,dD hk,List.length_cons,List.length_nil,if_true,hr,fW,Bool.not_true,Bool.false_eq_true,if_false]
theorem nv {rec_:List D->R D} {ds:List D} (h:∀d∈ds,rec_ [d,d]= .ok (.bl true)):∀(ks:List Nat) (x:Option Slot),(∀k∈ks,k<ds.length)->
  ∃y,cU (gN 2) (fQ rec_) (ks.map fun k:Nat=>D.int (k:Int)) [some (.val (.tup ds)),some (.val (.tup ds)),x]= .ok (.nx [some (.val (.tup ds)),some (.val (.tup ds)),y])
 |[],x,_=>⟨x,rfl⟩
 |k::ks,x,hk=>by
  obtain⟨y,e⟩:=nv h ks (some (.val (.int (k:Int)))) fun j hj=>hk j (List.mem_cons_of_mem _ hj)
  exact⟨y,by rw[List.map_cons,iF rfl (t_ h (hk k List.mem_cons_self)),e]⟩
theorem AV {i:Int}:kO "str" (.int i)=some (.bl false):=rfl
theorem AW {b:Bool}:kO "tuple" (.bl b)=some (.bl false):=rfl
theorem AX {b:Bool}:kO "bool" (.bl b)=some (.bl true):=rfl
theorem AY {x:Str}:kO "tuple" (.str x)=some (.bl false):=rfl
theorem AZ {x:Str}:kO "bool" (.str x)=some (.bl false):=rfl
theorem A_ {x:Str}:kO "str" (.str x)=some (.bl true):=rfl
theorem Cr {x y:Str}:iE (.str x) (.str y)=some (.bl (decide (x=y))):=rfl
theorem yc (n:Nat) (b:Bool):cu (n+1) [.bl b, .bl b]= .ok (.bl true):=by
 refine bd rfl ?_
 show dG (cu n) [some (.val (.bl b)),some (.val (.bl b)),none]=_
 simp only[dG,aH,dN,bN,bc,eU,mF,ae,iO,p9,f2,fT,fC,ax,cN,List.getElem?_cons_zero,List.getElem?_cons_succ,Slot.data,AW,AX,yY,AY,AZ,A_,Cr,fW,if_true,Bool.false_eq_true,if_false,Bool.not_false,decide_true]
theorem vY (n:Nat) (i:Int):cu (n+1) [.int i, .int i]= .ok (.bl true):=by
 refine bd rfl ?_
 show dG (cu n) [some (.val (.int i)),some (.val (.int i)),none]=_
 simp only[dG,aH,dN,bN,bc,eU,mF,ae,iO,p9,f2,ax,cN,List.getElem?_cons_zero,List.getElem?_cons_succ,Slot.data,AI,AJ,AK,AV,fW,Bool.false_eq_true,if_false,Bool.not_false,vn,decide_true]
theorem u0 {n:Nat} {d:D} (h:Wf n d):cu (n+1) [d,d]= .ok (.bl true):=by
 induction h with
 |int n i=>exact vY n i
 |bl n b=>exact yc n b
 | @tup n ds h1 h2 ih=>
  obtain⟨y,e⟩:=nv ih (List.range ds.length) none fun k hk=>List.mem_range.mp hk
  refine bd rfl ?_
  show dG (cu (n+1)) [some (.val (.tup ds)),some (.val (.tup ds)),none]=_
  simp only[dG,aH,dN,bN,bc,tm,hX,fT,eU,mF,ae,fC,f2,cI,aa,aj,ax,cN,List.getElem?_cons_zero,List.getElem?_cons_succ,Slot.data,AH,fW,if_true,Bool.not_true,Bool.false_eq_true,if_false,o7,yX,decide_true,i5]
  rw[gx (n:=ds.length) (by simp only[aa,aj,cI,ae,ax,cN,List.getElem?_cons_zero,List.getElem?_cons_succ,Slot.data,o7]) (by unfold lim;omega),ax,e]
  simp only[ax]
theorem ir {n:Nat} (hn:n<=7) {d:D} (h:Wf n d):aZ [d,d]= .ok (.bl true):=by
 have:=u0 (h.up (7 - n))
 rw[show n+(7 - n)+1=8 by omega]at this
 exact this
theorem u3 (i:Int):aZ [.int i, .int i]= .ok (.bl true):=ir (Nat.zero_le _) (.int 0 i)
theorem oz (ns:List Int) (h:ns.length<=1000):Wf 1 (.tup (ns.map .int)):= .tup (by simpa using h) fun d hd=>by obtain⟨i,_,rfl⟩:=List.mem_map.mp hd;exact .int 0 i
theorem nw (ns:List Int) (h:ns.length<=1000):aZ [.tup (ns.map .int), .tup (ns.map .int)]= .ok (.bl true):=ir (by omega) (oz ns h)
theorem vZ {ss:List eC} {k:Nat} (h:k<ss.length):L2.atI (ss.map bg) (k:Int)=some (bg ss[k]):=by
 rw[dD (by simpa using h)]
 simp
theorem dM {α:Type} {x:α} {xs:List α}:L2.atI (x::xs) 0=some x:=by
 have:=dD (xs:=x::xs) (k:=0) (by simp)
 simpa using this
theorem iu {α:Type} {x y:α} {xs:List α}:L2.atI (x::y::xs) 1=some y:=by
 have:=dD (xs:=x::y::xs) (k:=1) (by simp)
 simpa using this
theorem k_ (ns:List Int) (c k:Nat) {ci:Int} (h:ci=(c:Int)):aq [.scr ns, .int (ci+(k:Int))]= .ok (.int (cl ns (c+k))):=by
 have:=cM ns (c+k)
 rwa [show ((c+k:Nat):Int)=ci+(k:Int) by omega]at this
theorem v_ {ns:List Int} {ss:List eC} {share:Int} {acc:List Int} {k:Nat} (hk:k<ss.length) (hl:acc.length<=10):∃acc':List Int,cL [some (.val (.scr ns)),some (.val (.lst (ss.map bg))),some (.val (.int share)),some (.own (.lst (acc.map .int))),some (.val (.int (k:Int)))]
   = .ok (.nx [some (.val (.scr ns)),some (.val (.lst (ss.map bg))),some (.val (.int share)),some (.own (.lst (acc'.map .int))),some (.val (.int (k:Int)))])/\(acc'=acc\/acc'=acc++[ss[k].1])/\acc'.length<=10:=by
 have hc:aq [.scr ns, .int (17+(k:Int))]=_:=k_ ns 17 k rfl
 have hlim:acc.length<lim:=by unfold lim;omega
 have ap:acc.map D.int++[D.int ss[k].1]=(acc++[ss[k].1]).map D.int:=by simp
 by_cases h1:cl ns (17+k)%4<share
 ·by_cases h2:acc.length<10
  ·refine⟨acc++[ss[k].1],?_, .inr rfl,by simp;omega⟩
   have h2':(acc.length:Int)<10:=by omega
   simp! [cL,hc,aN (show (0:Int)<4 by decide),h1,h2',vZ hk,bg,dM,hlim,List.length_map,ap]
  ·refine⟨acc,?_, .inl rfl,hl⟩
   have h2':¬(acc.length:Int)<10:=by omega
   simp! [cL,hc,aN (show (0:Int)<4 by decide),h1,h2',List.length_map]
 ·refine⟨acc,?_, .inl rfl,hl⟩
  simp! [cL,hc,aN (show (0:Int)<4 by decide),h1,List.length_map]
theorem oA (ns:List Int) (ss:List eC) (hs:ss.length<=1000) (share:Int):∃mm:List Int,dz [.scr ns, .lst (ss.map bg), .int share]= .ok (.lst (mm.map .int))/\mm.Sublist (ss.map (·.1))/\mm.length<=10:=by
 obtain⟨ρ',e,mm,y4,rfl,h1,h2⟩:=jH (g:=gN 4) (gb:=cL) (n:=ss.length) (fs:=aa (cI cJ (aa (ae 1) (aj))) (aj)) (ρ:=[some (.val (.scr ns)),some (.val (.lst (ss.map bg))),some (.val (.int share)),some (.own (.lst (([]:List Int).map .int))),none])
  (P:=fun k ρ=>∃(acc:List Int) (y4:Option Slot),ρ=[some (.val (.scr ns)),some (.val (.lst (ss.map bg))),some (.val (.int share)),some (.own (.lst (acc.map .int))),y4]/\acc.Sublist ((ss.take k).map (·.1))/\acc.length<=10)
  (by simp! [List.length_map]) hs ⟨_,_,rfl, .slnil,by simp⟩ (fun k hk ρ hρ=>by
   obtain⟨acc,y4,rfl,hs,hl⟩:=hρ
   obtain⟨acc1,e1,h1,h2⟩:=v_ (ns:=ns) (share:=share) hk hl
   refine⟨_,_,rfl, .inl e1,acc1,_,rfl,?_,h2⟩
   rw[mh _ hk]
   rcases h1 with rfl|rfl
   ·exact hs.trans (List.sublist_append_left _ _)
   ·exact hs.append (List.Sublist.refl _))
 rw[List.take_length]at h1
 refine⟨mm,bd rfl ?_,h1,h2⟩
 show gg [some (.val (.scr ns)),some (.val (.lst (ss.map bg))),some (.val (.int share)),none,none]=_
 unfold gg
 rw[av (ρ':=[some (.val (.scr ns)),some (.val (.lst (ss.map bg))),some (.val (.int share)),some (.own (.lst (([]:List Int).map .int))),none]) rfl,av e]
 rfl
noncomputable def lv (L:List Int) (i:Int):Int:=L.getD i.toNat 0
theorem sv {L:List Int} {i:Int} (h0:0<=i) (h1:i<L.length):L2.atI (L.map D.int) i=some (.int (lv L i)):=by
 obtain⟨k,rfl⟩:=Int.eq_ofNat_of_zero_le h0
 have hk:k<L.length:=by omega
 rw[dD (by simpa using hk)]
 simp[lv,hk]
theorem w5 {i j:Int}:tz [.int i, .int j]=some (.int (if j>i then j else i)):=rfl
theorem w6 {i j:Int}:tw [.int i, .int j]=some (.int (if j<i then j else i)):=rfl
theorem zi {a b c:Int} (h1:a<=c) (h2:b<=c):(if b>a then b else a)<=c:=by split<;>assumption
theorem w8 {a b c:Int} (h:c<=a):c<=(if b>a then b else a):=by
 split
 ·exact Int.le_trans h (Int.le_of_lt (by assumption))
 ·exact h
theorem w9 {a b c:Int} (h:c<=b):c<=(if b>a then b else a):=by
 split
 ·exact h
 ·exact Int.le_trans h (Int.not_lt.mp (by assumption))
theorem zj {a b c:Int} (h1:c<=a) (h2:c<=b):c<=(if b<a then b else a):=by split<;>assumption
theorem wa {a b c:Int} (h:a<=c):(if b<a then b else a)<=c:=by
 split
 ·exact Int.le_trans (Int.le_of_lt (by assumption)) h
 ·exact h
theorem wc {a b c:Int} (h:b<=c):(if b<a then b else a)<=c:=by
 split
 ·exact h
 ·exact Int.le_trans (Int.not_lt.mp (by assumption)) h
theorem u4 {L:List Int} {n:Nat} {s t most:Int} (hL:L.length=n+1) (hs:0<=s/\s<=n) (ht:0<=t/\t<=n) (hm:0<=most) (hb:∀i:Int,1<=i->i<=n-> -1000<=lv L i/\lv L i<=1000):
  ∃lo hi:Int,fI [.lst (L.map .int), .int s, .int t, .int most]= .ok (.lst [.int lo, .int hi])/\lo<=0/\0<=hi/\ -most<=lo/\hi<=most/\(0<s->lv L s - 1000<=lo/\hi<=lv L s+1000)/\(0<t-> -1000 - lv L t<=lo/\hi<=1000 - lv L t):=by
 have hsl:L2.atI (L.map D.int) s=some (.int (lv L s)):=sv hs.1 (by omega)
 have htl:L2.atI (L.map D.int) t=some (.int (lv L t)):=sv ht.1 (by omega)
 have hl2:(2:Nat)<=lim:=by decide
 have hm': -most<=0:=Int.neg_nonpos_of_nonneg hm
 have r:= @Int.le_refl
 have key:∀i:Int,0<i->i<=n->(lv L i - 1000<=0/\0<=lv L i+1000)/\ -1000 - lv L i<=0/\0<=1000 - lv L i:=fun i h1 h2=>by
  have:=hb i h1 h2
  omega
 obtain⟨lo1,hi1,e1,p1,p2,p3,p4,p5⟩:∃lo1 hi1:Int,dN (fT (f2 vd (ae 1) (fC (.int 0)))) (aH (aT (cI tz (aa (ae 4) (aa (f2 g_ (f2 bv (ae 0) (ae 1)) (fC (.int 1000))) (aj)))) (gN 4)) (aT (cI tw (aa (ae 5) (aa (f2 b_ (f2 bv (ae 0) (ae 1)) (fC (.int 1000))) (aj)))) (gN 5))) (bc) [some (.val (.lst (L.map .int))),some (.val (.int s)),some (.val (.int t)),some (.val (.int most)),some (.val (.int (-most))),some (.val (.int most))]
   = .ok (.nx [some (.val (.lst (L.map .int))),some (.val (.int s)),some (.val (.int t)),some (.val (.int most)),some (.val (.int lo1)),some (.val (.int hi1))])/\lo1<=0/\0<=hi1/\ -most<=lo1/\hi1<=most/\(0<s->lv L s - 1000<=lo1/\hi1<=lv L s+1000):=by
  by_cases h1:0<s
  ·have k:=(key s h1 hs.2).1
   exact⟨_,_,by simp! [h1,hsl,w5,w6],zi hm' k.1,zj hm k.2,w8 (r _),wa (r _),fun _=>⟨w9 (r _),wc (r _)⟩⟩
  ·exact⟨-most,most,by simp! [h1],hm',hm,r _,r _,fun z=>absurd z h1⟩
 obtain⟨lo2,hi2,e2,q1,q2,q3,q4,q5⟩:∃lo2 hi2:Int,dN (fT (f2 vd (ae 2) (fC (.int 0)))) (aH (aT (cI tz (aa (ae 4) (aa (f2 g_ (f1 n_ (fC (.int 1000))) (f2 bv (ae 0) (ae 2))) (aj)))) (gN 4)) (aT (cI tw (aa (ae 5) (aa (f2 g_ (fC (.int 1000)) (f2 bv (ae 0) (ae 2))) (aj)))) (gN 5))) (bc) [some (.val (.lst (L.map .int))),some (.val (.int s)),some (.val (.int t)),some (.val (.int most)),some (.val (.int lo1)),some (.val (.int hi1))]
   = .ok (.nx [some (.val (.lst (L.map .int))),some (.val (.int s)),some (.val (.int t)),some (.val (.int most)),some (.val (.int lo2)),some (.val (.int hi2))])/\lo2<=0/\0<=hi2/\lo1<=lo2/\hi2<=hi1/\(0<t-> -1000 - lv L t<=lo2/\hi2<=1000 - lv L t):=by
  by_cases h1:0<t
  ·have k:=(key t h1 ht.2).2
   exact⟨_,_,by simp! [h1,htl,w5,w6],zi p1 k.1,zj p2 k.2,w8 (r _),wa (r _),fun _=>⟨w9 (r _),wc (r _)⟩⟩
  ·exact⟨lo1,hi1,by simp! [h1],p1,p2,r _,r _,fun z=>absurd z h1⟩
 refine⟨lo2,hi2,bd rfl ?_,q1,q2,Int.le_trans p3 q3,Int.le_trans q4 p4,fun z=>⟨Int.le_trans (p5 z).1 q3,Int.le_trans q4 (p5 z).2⟩,q5⟩
 show j6 [some (.val (.lst (L.map .int))),some (.val (.int s)),some (.val (.int t)),some (.val (.int most)),none,none]=_
 unfold j6
 rw[av (ρ':=[some (.val (.lst (L.map .int))),some (.val (.int s)),some (.val (.int t)),some (.val (.int most)),some (.val (.int (-most))),none]) rfl,
  av (ρ':=[some (.val (.lst (L.map .int))),some (.val (.int s)),some (.val (.int t)),some (.val (.int most)),some (.val (.int (-most))),some (.val (.int most))]) rfl,av e1,av e2]
 simp! [hl2]
noncomputable def aF (p:Int×Int):D:= .tup [.int p.1, .int p.2]
theorem B0 {b:Bool}:Az [.bl b]=some (.int (if b=true then 1 else 0)):=rfl
theorem rh {L:List Int} {i j v:Int} (hi:0<=i) (hl:i<L.length) (hj:0<=j):lv (L.set i.toNat v) j=if j=i then v else lv L j:=by
 unfold lv
 rw[List.getD_eq_getElem?_getD,List.getElem?_set]
 by_cases h:j=i
 ·subst h
  rw[if_pos rfl,if_pos (by omega),if_pos rfl];rfl
 ·rw[if_neg (by omega),if_neg h,List.getD_eq_getElem?_getD]
theorem wd {n:Nat} {i:Int} (h0:0<=i) (h1:i<n):L2.rQ n i=some i.toNat:=by unfold L2.rQ;rw[if_pos h0,if_pos h1]
theorem pW (L:List Int) (i:Nat) (v:Int):(L.map D.int).set i (.int v)=(L.set i v).map D.int:=by rw[List.map_set]
theorem DT {i:Nat} {gs:List D->ai->R ai} {d:D} {ds:List D} {ρ:ai}:ft (gN i) gs (d::ds) ρ=gs ds (ρ.set i (some (.val d))):=rfl
theorem DU {ρ:ai}:n6 [] ρ= .ok ρ:=rfl
theorem u5 {n:Nat} {figs:List Int} {ss:List eC} {mm:List Int} {b0 b1:Int} {L:List Int} {rows:List (Int×Int)} {k:Nat} {x8 x9 x10 x11 x12 x13:Option Slot} (hk:k<ss.length) (hf:k<figs.length) (g:Good n ss) (hn:n<=7) (hL:L.length=n+1) (h0:0<=b0) (h1:0<=b1)
  (hb:∀i:Int,1<=i->i<=n-> -1000<=lv L i/\lv L i<=1000) (hr:rows.length<=1000):
  ∃(a:Int) (L':List Int) (y8 y9 y10 y11 y12 y13:Option Slot),eX [some (.val (.lst (figs.map .int))),some (.val (.int (n:Int))),some (.val (.lst (ss.map bg))),some (.val (.lst (mm.map .int))),some (.val (.lst [.int b0, .int b1])),some (.own (.lst (L.map .int))),some (.own (.lst (rows.map aF))),some (.val (.int (k:Int))),x8,x9,x10,x11,x12,x13]
   = .ok (.nx [some (.val (.lst (figs.map .int))),some (.val (.int (n:Int))),some (.val (.lst (ss.map bg))),some (.val (.lst (mm.map .int))),some (.val (.lst [.int b0, .int b1])),some (.own (.lst (L'.map .int))),some (.own (.lst ((rows++[(ss[k].1,a)]).map aF))),some (.val (.int (k:Int))),y8,y9,y10,y11,y12,y13])/\
   L'.length=n+1/\(∀i:Int,1<=i->i<=n-> -1000<=lv L' i/\lv L' i<=1000):=by
 have hmem:=List.getElem_mem hk
 have hrow:=vZ hk
 have hs:=g.src _ hmem
 have ht:=g.tgt _ hmem
 have hne:=g.ne _ hmem
 generalize ss[k]=row at*
 obtain⟨num,s,t⟩:=row
 replace hs:0<=s/\s<=n:=hs
 replace ht:0<=t/\t<=n:=ht
 replace hne:s≠t:=hne
 have hm:0<=(if num∈mm then b1 else b0):=by split<;>omega
 obtain⟨lo,hi,e,c1,c2,c3,c4,c5,c6⟩:=u4 hL hs ht hm hb
 have hfig:L2.atI (figs.map D.int) (k:Int)=some (.int figs[k]):=by
  rw[dD (by simpa using hf)];simp
 have hd:(0:Int)<hi - lo+1:=by omega
 generalize figs[k]=fg at hfig
 have a1:=Int.emod_nonneg fg (show hi - lo+1≠0 by omega)
 have a2:=Int.emod_lt_of_pos fg hd
 have hsl:L2.atI (L.map D.int) s=some (.int (lv L s)):=sv hs.1 (by omega)
 have hb2:L2.atI [D.int b0,D.int b1] (if decide (num∈mm)=true then 1 else 0)=some (.int (if num∈mm then b1 else b0)):=by
  by_cases h:num∈mm
  ·simp only[h,decide_true,if_true,iu]
  ·simp only[h,decide_false,Bool.false_eq_true,if_false,dM]
 have hixs:L2.rQ (L.map D.int).length s=some s.toNat:=wd hs.1 (by rw[List.length_map];omega)
 have L1len:(L.set s.toNat (lv L s - (lo+fg%(hi - lo+1)))).length=n+1:=by rw[List.length_set];exact hL
 have htl:L2.atI ((L.set s.toNat (lv L s - (lo+fg%(hi - lo+1)))).map D.int) t=some (.int (lv L t)):=by
  rw[sv ht.1 (by omega),rh hs.1 (by omega) ht.1,if_neg (Ne.symm hne)]
 have hixt:L2.rQ ((L.set s.toNat (lv L s - (lo+fg%(hi - lo+1)))).map D.int).length t=some t.toNat:=wd ht.1 (by rw[List.length_map];omega)
 have hrl:(rows.map aF).length<lim:=by rw[List.length_map];unfold lim;omega
 have hl2:(2:Nat)<=lim:=by decide
 have ap:rows.map aF++[D.tup [.int num, .int (lo+fg%(hi - lo+1))]]=(rows++[(num,lo+fg%(hi - lo+1))]).map aF:=by simp[aF]
 generalize ha:lo+fg%(hi - lo+1)=a at*
 refine⟨a,(L.set s.toNat (lv L s - a)).set t.toNat (lv L t+a),some (.val (.int num)),some (.val (.int s)),some (.val (.int t)),some (.val (.int lo)),some (.val (.int hi)),some (.val (.int a)),?_,by rw[List.length_set];exact L1len,?_⟩
 ·simp! [eX,vO,n8,DT,DU,vc,hrow,bg,e,Cb,B0,hb2,ki,List.all_cons,List.all_nil,Bool.and_true,and_self,hfig,aN hd,ha,hsl,hixs,pW,htl,hixt,hrl,hl2,ap]
 ·intro i hi1 hin
  rw[rh ht.1 (by omega) (by omega),rh hs.1 (by omega) (by omega)]
  by_cases h1:i=t
  ·subst h1
   rw[if_pos rfl]
   have:=c6 (by omega);omega
  ·rw[if_neg h1]
   by_cases h2:i=s
   ·subst h2
    rw[if_pos rfl]
    have:=c5 (by omega);omega
   ·rw[if_neg h2];exact hb i hi1 hin
theorem yd {k:Int} (h0:0<=k) (h:k<=1000):pJ (.lst [.int 0]) (.int k)=some (.lst ((List.replicate k.toNat (0:Int)).map .int)):=by
 show (if k.natAbs<=lim/\[D.int 0].length*k.toNat<=lim then some (D.lst (List.replicate k.toNat [D.int 0]).flatten)else none)=_
 rw[if_pos ⟨by unfold lim;omega,by unfold lim;simp;omega⟩]
 congr 2
 induction k.toNat with
 |zero=>rfl
 |succ m ih=>rw[List.replicate_succ,List.replicate_succ,List.flatten_cons,ih];rfl
theorem DF {x:D} {ds:List D}:yU (.lst (x::ds)) (some 1) none=some (.lst ds):=by
 show some (D.lst (L2.Pu.o5 (x::ds) (some 1) none))=_
 unfold L2.Pu.o5 HT.d5
 simp
theorem ye {m:Nat} (i:Int):lv (List.replicate m 0) i=0:=by
 unfold lv
 rw[List.getD_eq_getElem?_getD,List.getElem?_replicate]
 split<;>rfl
theorem rj {n:Nat} {figs:List Int} {ss:List eC} {mm:List Int} {b0 b1:Int} (hf:ss.length<=figs.length) (g:Good n ss) (hn:n<=7) (h0:0<=b0) (h1:0<=b1) (hs:ss.length<=1000):
  ∃(ps:List (Int×Int)) (lev:List Int),eK [.lst (figs.map .int), .int (n:Int), .lst (ss.map bg), .lst (mm.map .int), .lst [.int b0, .int b1]]= .ok (.lst [.tup (ps.map aF), .tup (lev.map .int)])/\ps.map (·.1)=ss.map (·.1)/\lev.length=n:=by
 have hd:pJ (.lst [.int 0]) (.int ((n:Int)+1))=some (.lst ((List.replicate (n+1) (0:Int)).map .int)):=by
  have:=yd (k:=(n:Int)+1) (by omega) (by omega)
  rwa [show ((n:Int)+1).toNat=n+1 by omega]at this
 have hl1:(1:Nat)<=lim:=by decide
 have hl2:(2:Nat)<=lim:=by decide
 obtain⟨ρ',e,L',rows,y7,y8,y9,y10,y11,y12,y13,rfl,e2,_,e4⟩:=jH (g:=gN 7) (gb:=eX) (n:=ss.length) (fs:=aa (cI cJ (aa (ae 2) (aj))) (aj)) (ρ:=[some (.val (.lst (figs.map .int))),some (.val (.int (n:Int))),some (.val (.lst (ss.map bg))),some (.val (.lst (mm.map .int))),some (.val (.lst [.int b0, .int b1])),some (.own (.lst ((List.replicate (n+1) (0:Int)).map .int))),some (.own (.lst (([]:List (Int×Int)).map aF))),none,none,none,none,none,none,none])
  (P:=fun k ρ=>∃(L:List Int) (rows:List (Int×Int)) (y7 y8 y9 y10 y11 y12 y13:Option Slot),ρ=[some (.val (.lst (figs.map .int))),some (.val (.int (n:Int))),some (.val (.lst (ss.map bg))),some (.val (.lst (mm.map .int))),some (.val (.lst [.int b0, .int b1])),some (.own (.lst (L.map .int))),some (.own (.lst (rows.map aF))),y7,y8,y9,y10,y11,y12,y13]/\L.length=n+1/\(∀i:Int,1<=i->i<=n-> -1000<=lv L i/\lv L i<=1000)/\rows.map (·.1)=(ss.take k).map (·.1))
  (by simp! [List.length_map]) hs ⟨_,_,_,_,_,_,_,_,_,rfl,by simp,fun i _ _=>by rw[ye];omega,rfl⟩ (fun k hk ρ hρ=>by
   obtain⟨L,rows,y7,y8,y9,y10,y11,y12,y13,rfl,hL,hb,hr⟩:=hρ
   have hrl:rows.length<=1000:=by
    have:=congrArg List.length hr
    simp at this
    omega
   obtain⟨a,L1,z8,z9,z10,z11,z12,z13,e1,l1,b1'⟩:=u5 (figs:=figs) (mm:=mm) (b0:=b0) (b1:=b1) (L:=L) (rows:=rows) (k:=k) (x8:=y8) (x9:=y9) (x10:=y10) (x11:=y11) (x12:=y12) (x13:=y13) hk (by omega) g hn hL h0 h1 hb hrl
   exact⟨_,_,rfl, .inl e1,L1,_,_,_,_,_,_,_,_,rfl,l1,b1',by rw[List.map_append,hr,mh _ hk];rfl⟩)
 rw[List.take_length]at e4
 obtain⟨z,lev,rfl⟩:∃z lev,L'=z::lev:=by
  cases L' with
  |nil=>simp at e2
  |cons z lev=>exact⟨z,lev,rfl⟩
 refine⟨rows,lev,bd rfl ?_,e4,by simpa using e2⟩
 show ie [some (.val (.lst (figs.map .int))),some (.val (.int (n:Int))),some (.val (.lst (ss.map bg))),some (.val (.lst (mm.map .int))),some (.val (.lst [.int b0, .int b1])),none,none,none,none,none,none,none,none,none]=_
 unfold ie
 rw[av (ρ':=[some (.val (.lst (figs.map .int))),some (.val (.int (n:Int))),some (.val (.lst (ss.map bg))),some (.val (.lst (mm.map .int))),some (.val (.lst [.int b0, .int b1])),some (.own (.lst ((List.replicate (n+1) (0:Int)).map .int))),none,none,none,none,none,none,none,none]) (by simp! [pI,hd,hl1]),
  av (ρ':=[some (.val (.lst (figs.map .int))),some (.val (.int (n:Int))),some (.val (.lst (ss.map bg))),some (.val (.lst (mm.map .int))),some (.val (.lst [.int b0, .int b1])),some (.own (.lst ((List.replicate (n+1) (0:Int)).map .int))),some (.own (.lst (([]:List (Int×Int)).map aF))),none,none,none,none,none,none,none]) rfl,av e]
 simp! [yV,kx,ku,List.map_cons,DF,hl2]
theorem sx {ns:List Int} {a0 a2:Option Slot}:∀(ks:List Nat) (x:Option Slot),eJ (gN 1) dY (f2 bD (aM aq 2 (aa (ar 3) (aa (f2 b_ (fC (.int 17)) (ae 1)) (aj)))) (fC (.int 4))) (ks.map fun k:Nat=>D.int (k:Int)) [a0,x,a2,some (.val (.scr ns))]
  = .ok ((ks.map fun k=>cl ns (17+k) / 4).map .int)
 |[],x=>rfl
 |k::ks,x=>by
  have hc:aq [.scr ns, .int (17+(k:Int))]=_:=k_ ns 17 k rfl
  have ih:=sx (ns:=ns) (a0:=a0) (a2:=a2) ks (some (.val (.int (k:Int))))
  rw[List.map_cons,eJ]
  simp only[gN,dY,ax,List.set_cons_succ,List.set_cons_zero,if_true,ih]
  simp! [hc,cq (show (0:Int)<4/\(4:Int)<1073741824 by decide),List.map_cons]
noncomputable def yf (small:Int):Int:=if small=0 then 5000 else 2
noncomputable def yg (small:Int):Int:=if small=0 then 1000 else 2
theorem rm {ns:List Int} {n:Nat} {ss:List eC} {mm:List Int} {small:Int} (g:Good n ss) (hn:n<=7) (hs:ss.length<=1000) (hsm:small=0\/small=1):
  ∃(ps:List (Int×Int)) (lev:List Int),eL [.scr ns, .int (n:Int), .lst (ss.map bg), .lst (mm.map .int), .int small]= .ok (.lst [.tup (ps.map aF), .tup (lev.map .int)])/\ps.map (·.1)=ss.map (·.1)/\lev.length=n:=by
 obtain⟨ps,lev,e,h⟩:=rj (n:=n) (figs:=(List.range ss.length).map fun k=>cl ns (17+k) / 4) (ss:=ss) (mm:=mm) (b0:=yf small) (b1:=yg small) (by simp) g hn (by unfold yf;split<;>omega) (by unfold yg;split<;>omega) hs
 refine⟨ps,lev,?_,h⟩
 refine bd rfl ?_
 show ig [some (.val (.scr ns)),some (.val (.int (n:Int))),some (.val (.lst (ss.map bg))),some (.val (.lst (mm.map .int))),some (.val (.int small)),none]=_
 unfold ig
 rw[av (ρ':=[some (.val (.scr ns)),some (.val (.int (n:Int))),some (.val (.lst (ss.map bg))),some (.val (.lst (mm.map .int))),some (.val (.int small)),some (.own (.lst (((List.range ss.length).map fun k=>cl ns (17+k) / 4).map .int)))])
  (own_of (cR (gx (n:=ss.length) (by simp! [List.length_map]) (by unfold lim;omega)) (by simp;unfold lim;omega) rfl (sx _ _)))]
 have hl2:(2:Nat)<=lim:=by decide
 rcases hsm with rfl|rfl
 ·simp! [dM,hl2]
  simp only[show yf 0=5000 from rfl,show yg 0=1000 from rfl]at e
  simp only[e,ax]
 ·simp! [iu,hl2]
  simp only[show yf 1=2 from rfl,show yg 1=2 from rfl]at e
  simp only[e,ax]
theorem yh {ps:List (Int×Int)} {k:Nat} (h:k<ps.length):L2.atI (ps.map aF) (k:Int)=some (aF ps[k]):=by
 rw[dD (by simpa using h)]
 simp
theorem nz {x:Int} {xs:List Int}:cQ true (.int x) (.lst (xs.map .int))=some (.bl (!decide (x∈xs))):=by
 show xL true (.int x) (xs.map .int)=_
 rw[jt]
 simp
theorem zk {a b small:Int} (h:small=0\/small=1):L2.atI [D.int a,D.int b] small=some (.int (if small=0 then a else b)):=by
 rcases h with rfl|rfl
 ·rw[dM];rfl
 ·rw[iu];rfl
noncomputable def nA (c small:Int):Int:=if small=0 then c / 3%2001 - 1000 else c / 3%5 - 2
theorem we {mode c:Int} {m:Int} {ρ:ai} {i j:Nat} (hi:ρ[i]? =some (some (.val (.int mode)))) (hj:ρ[j]? =some (some (.val (.int c)))):∃b,tm (fT (f2 iE (ae i) (fC (.int 3)))) (jZ (fT (f2 iE (ae i) (fC (.int m)))) (fT (f2 iE (f2 bM (ae j) (fC (.int 3))) (fC (.int 0))))) ρ= .ok b:=by
 by_cases h3:mode=3
 ·exact⟨true,by simp! [hi,h3]⟩
 ·by_cases h1:mode=m
  ·subst h1
   exact⟨decide (c%3=0),by simp! [hi,hj,h3,aN (show (0:Int)<3 by decide)]⟩
  ·exact⟨false,by simp! [hi,h3,h1]⟩
theorem yi {ns:List Int} {ps:List (Int×Int)} {mm:List Int} {mode small:Int} {acc:List (Int×Int)} {k:Nat} {x7 x8 x9:Option Slot} (hk:k<ps.length) (hsm:small=0\/small=1) (hl:acc.length<=1000):
  ∃(acc':List (Int×Int)) (ρ:ai) (y7 y8 y9:Option Slot),ρ=[some (.val (.scr ns)),some (.val (.tup (ps.map aF))),some (.val (.lst (mm.map .int))),some (.val (.int mode)),some (.val (.int small)),some (.own (.lst (acc'.map aF))),some (.val (.int (k:Int))),y7,y8,y9]/\
   (cW [some (.val (.scr ns)),some (.val (.tup (ps.map aF))),some (.val (.lst (mm.map .int))),some (.val (.int mode)),some (.val (.int small)),some (.own (.lst (acc.map aF))),some (.val (.int (k:Int))),x7,x8,x9]= .ok (.nx ρ)\/cW [some (.val (.scr ns)),some (.val (.tup (ps.map aF))),some (.val (.lst (mm.map .int))),some (.val (.int mode)),some (.val (.int small)),some (.own (.lst (acc.map aF))),some (.val (.int (k:Int))),x7,x8,x9]= .ok (.cnt ρ))/\
   acc'.map (·.1)=acc.map (·.1)++[ps[k].1].filter (fun x=>decide (x∈mm)):=by
 have hp:=yh hk
 generalize ps[k]=p at*
 obtain⟨num,am⟩:=p
 have hc:aq [.scr ns, .int (29+(k:Int))]=_:=k_ ns 29 k rfl
 have hlim:(acc.map aF).length<lim:=by rw[List.length_map];unfold lim;omega
 have hl2:(2:Nat)<=lim:=by decide
 have ap:∀r:Int,acc.map aF++[D.tup [.int num, .int r]]=(acc++[(num,r)]).map aF:=fun r=>by simp[aF]
 have e12:∀g',aH (aT (f2 bv (ae 1) (ae 6)) (n8 2 (ft (gN 7) (ft (gN 8) (n6))))) (aH (aT (aM aq 2 (aa (ar 0) (aa (f2 b_ (fC (.int 29)) (ae 6)) (aj)))) (gN 9)) g') [some (.val (.scr ns)),some (.val (.tup (ps.map aF))),some (.val (.lst (mm.map .int))),some (.val (.int mode)),some (.val (.int small)),some (.own (.lst (acc.map aF))),some (.val (.int (k:Int))),x7,x8,x9]
   =g' [some (.val (.scr ns)),some (.val (.tup (ps.map aF))),some (.val (.lst (mm.map .int))),some (.val (.int mode)),some (.val (.int small)),some (.own (.lst (acc.map aF))),some (.val (.int (k:Int))),some (.val (.int num)),some (.val (.int am)),some (.val (.int (cl ns (29+k))))]:=fun g'=>by
  simp! [n8,DT,DU,hp,aF,hc]
 unfold cW
 rw[e12]
 by_cases h:num∈mm
 ·obtain⟨b,hb⟩:=we (m:=1) (ρ:=[some (.val (.scr ns)),some (.val (.tup (ps.map aF))),some (.val (.lst (mm.map .int))),some (.val (.int mode)),some (.val (.int small)),some (.own (.lst (acc.map aF))),some (.val (.int (k:Int))),some (.val (.int num)),some (.val (.int am)),some (.val (.int (cl ns (29+k))))]) (i:=3) (j:=9) rfl rfl
  rw[av (ρ':=[some (.val (.scr ns)),some (.val (.tup (ps.map aF))),some (.val (.lst (mm.map .int))),some (.val (.int mode)),some (.val (.int small)),some (.own (.lst (acc.map aF))),some (.val (.int (k:Int))),some (.val (.int num)),some (.val (.int am)),some (.val (.int (cl ns (29+k))))]) (by simp! [nz,h])]
  obtain⟨r,hr⟩:∃r:Int,dN (tm (fT (f2 iE (ae 3) (fC (.int 3)))) (jZ (fT (f2 iE (ae 3) (fC (.int 1)))) (fT (f2 iE (f2 bM (ae 9) (fC (.int 3))) (fC (.int 0)))))) (aT (f2 bv (cO (aa (f2 g_ (f2 bM (f2 bD (ae 9) (fC (.int 3))) (fC (.int 2001))) (fC (.int 1000))) (aa (f2 g_ (f2 bM (f2 bD (ae 9) (fC (.int 3))) (fC (.int 5))) (fC (.int 2))) (aj)))) (ae 4)) (gN 8)) (bc) [some (.val (.scr ns)),some (.val (.tup (ps.map aF))),some (.val (.lst (mm.map .int))),some (.val (.int mode)),some (.val (.int small)),some (.own (.lst (acc.map aF))),some (.val (.int (k:Int))),some (.val (.int num)),some (.val (.int am)),some (.val (.int (cl ns (29+k))))]= .ok (.nx [some (.val (.scr ns)),some (.val (.tup (ps.map aF))),some (.val (.lst (mm.map .int))),some (.val (.int mode)),some (.val (.int small)),some (.own (.lst (acc.map aF))),some (.val (.int (k:Int))),some (.val (.int num)),some (.val (.int r)),some (.val (.int (cl ns (29+k))))]):=by
   cases b with
   |true=>
    refine⟨nA (cl ns (29+k)) small,?_⟩
    unfold dN
    rw[hb]
    simp! [cq (show (0:Int)<3/\(3:Int)<1073741824 by decide),aN (show (0:Int)<2001 by decide),aN (show (0:Int)<5 by decide),zk hsm,hl2,nA]
   |false=>
    refine⟨am,?_⟩
    unfold dN
    rw[hb]
    rfl
  refine⟨acc++[(num,r)],_,some (.val (.int num)),some (.val (.int r)),some (.val (.int (cl ns (29+k)))),rfl, .inl (Eq.trans (av hr) ?_),by simp[h]⟩
  simp! [hlim,hl2,ap]
 ·refine⟨acc,_,some (.val (.int num)),some (.val (.int am)),some (.val (.int (cl ns (29+k)))),rfl, .inr ?_,by simp[h]⟩
  simp! [Ap,nz,h]
theorem mJ {ns:List Int} {ps:List (Int×Int)} {mm:List Int} {mode small:Int} (hsm:small=0\/small=1) (hl:ps.length<=1000):∃rd:List (Int×Int),de [.scr ns, .tup (ps.map aF), .lst (mm.map .int), .int mode, .int small]= .ok (.lst (rd.map aF))/\rd.map (·.1)=(ps.map (·.1)).filter (fun x=>decide (x∈mm)):=by
 obtain⟨ρ',e,rd,y6,y7,y8,y9,rfl,e4⟩:=jH (g:=gN 6) (gb:=cW) (n:=ps.length) (fs:=aa (cI cJ (aa (ae 1) (aj))) (aj)) (ρ:=[some (.val (.scr ns)),some (.val (.tup (ps.map aF))),some (.val (.lst (mm.map .int))),some (.val (.int mode)),some (.val (.int small)),some (.own (.lst (([]:List (Int×Int)).map aF))),none,none,none,none])
  (P:=fun k ρ=>∃(acc:List (Int×Int)) (y6 y7 y8 y9:Option Slot),ρ=[some (.val (.scr ns)),some (.val (.tup (ps.map aF))),some (.val (.lst (mm.map .int))),some (.val (.int mode)),some (.val (.int small)),some (.own (.lst (acc.map aF))),y6,y7,y8,y9]/\acc.map (·.1)=((ps.take k).map (·.1)).filter (fun x=>decide (x∈mm)))
  (by simp! [List.length_map]) hl ⟨_,_,_,_,_,rfl,rfl⟩ (fun k hk ρ hρ=>by
   obtain⟨acc,y6,y7,y8,y9,rfl,hr⟩:=hρ
   have hrl:acc.length<=1000:=by
    have h1:=congrArg List.length hr
    have h2:=List.length_filter_le (fun x=>decide (x∈mm)) ((ps.take k).map (·.1))
    simp at h1 h2
    omega
   obtain⟨acc',ρ2,z7,z8,z9,rfl,e1,h1⟩:=yi (ns:=ns) (mm:=mm) (mode:=mode) (small:=small) (acc:=acc) (x7:=y7) (x8:=y8) (x9:=y9) hk hsm hrl
   exact⟨_,_,rfl,e1,acc',_,_,_,_,rfl,by rw[h1,hr,mh _ hk,List.filter_append]⟩)
 rw[List.take_length]at e4
 refine⟨rd,bd rfl ?_,e4⟩
 show fJ [some (.val (.scr ns)),some (.val (.tup (ps.map aF))),some (.val (.lst (mm.map .int))),some (.val (.int mode)),some (.val (.int small)),none,none,none,none,none]=_
 unfold fJ
 rw[av (ρ':=[some (.val (.scr ns)),some (.val (.tup (ps.map aF))),some (.val (.lst (mm.map .int))),some (.val (.int mode)),some (.val (.int small)),some (.own (.lst (([]:List (Int×Int)).map aF))),none,none,none,none]) rfl,av e]
 rfl
theorem yj {ns:List Int} {lev:List Int} {mode small:Int} {acc:List Int} {k:Nat} {x6 x7:Option Slot} (hk:k<lev.length) (hsm:small=0\/small=1) (hl:acc.length<=1000):
  ∃(r:Int) (y6 y7:Option Slot),eY [some (.val (.scr ns)),some (.val (.tup (lev.map .int))),some (.val (.int mode)),some (.val (.int small)),some (.own (.lst (acc.map .int))),some (.val (.int (k:Int))),x6,x7]
   = .ok (.nx [some (.val (.scr ns)),some (.val (.tup (lev.map .int))),some (.val (.int mode)),some (.val (.int small)),some (.own (.lst ((acc++[r]).map .int))),some (.val (.int (k:Int))),y6,y7]):=by
 have hp:L2.atI (lev.map D.int) (k:Int)=some (.int lev[k]):=by rw[dD (by simpa using hk)];simp
 generalize lev[k]=lk at*
 have hc:aq [.scr ns, .int (41+(k:Int))]=_:=k_ ns 41 k rfl
 have hlim:(acc.map D.int).length<lim:=by rw[List.length_map];unfold lim;omega
 have hl2:(2:Nat)<=lim:=by decide
 have ap:∀r:Int,acc.map D.int++[.int r]=(acc++[r]).map .int:=fun r=>by simp
 obtain⟨b,hb⟩:=we (m:=2) (ρ:=[some (.val (.scr ns)),some (.val (.tup (lev.map .int))),some (.val (.int mode)),some (.val (.int small)),some (.own (.lst (acc.map .int))),some (.val (.int (k:Int))),some (.val (.int (cl ns (41+k)))),some (.val (.int lk))]) (i:=2) (j:=6) rfl rfl
 unfold eY
 rw[av (ρ':=[some (.val (.scr ns)),some (.val (.tup (lev.map .int))),some (.val (.int mode)),some (.val (.int small)),some (.own (.lst (acc.map .int))),some (.val (.int (k:Int))),some (.val (.int (cl ns (41+k)))),x7]) (by simp! [hc]),
  av (ρ':=[some (.val (.scr ns)),some (.val (.tup (lev.map .int))),some (.val (.int mode)),some (.val (.int small)),some (.own (.lst (acc.map .int))),some (.val (.int (k:Int))),some (.val (.int (cl ns (41+k)))),some (.val (.int lk))]) (by simp! [hp])]
 cases b with
 |true=>
  refine⟨nA (cl ns (41+k)) small,_,some (.val (.int (nA (cl ns (41+k)) small))),Eq.trans (av (ρ':=[some (.val (.scr ns)),some (.val (.tup (lev.map .int))),some (.val (.int mode)),some (.val (.int small)),some (.own (.lst (acc.map .int))),some (.val (.int (k:Int))),some (.val (.int (cl ns (41+k)))),some (.val (.int (nA (cl ns (41+k)) small)))]) ?_) (by simp! [hlim,ap];rfl)⟩
  unfold dN
  rw[hb]
  simp! [cq (show (0:Int)<3/\(3:Int)<1073741824 by decide),aN (show (0:Int)<2001 by decide),aN (show (0:Int)<5 by decide),zk hsm,hl2,nA]
 |false=>
  refine⟨lk,_,some (.val (.int lk)),Eq.trans (av (ρ':=[some (.val (.scr ns)),some (.val (.tup (lev.map .int))),some (.val (.int mode)),some (.val (.int small)),some (.own (.lst (acc.map .int))),some (.val (.int (k:Int))),some (.val (.int (cl ns (41+k)))),some (.val (.int lk))]) ?_) (by simp! [hlim,ap];rfl)⟩
  unfold dN
  rw[hb]
  rfl
theorem rn {ns:List Int} {lev:List Int} {mode small:Int} (hsm:small=0\/small=1) (hl:lev.length<=1000):∃rs:List Int,eM [.scr ns, .tup (lev.map .int), .int mode, .int small]= .ok (.lst (rs.map .int))/\rs.length=lev.length:=by
 obtain⟨ρ',e,rs,y5,y6,y7,rfl,e4⟩:=jH (g:=gN 5) (gb:=eY) (n:=lev.length) (fs:=aa (cI cJ (aa (ae 1) (aj))) (aj)) (ρ:=[some (.val (.scr ns)),some (.val (.tup (lev.map .int))),some (.val (.int mode)),some (.val (.int small)),some (.own (.lst (([]:List Int).map .int))),none,none,none])
  (P:=fun k ρ=>∃(acc:List Int) (y5 y6 y7:Option Slot),ρ=[some (.val (.scr ns)),some (.val (.tup (lev.map .int))),some (.val (.int mode)),some (.val (.int small)),some (.own (.lst (acc.map .int))),y5,y6,y7]/\acc.length=k)
  (by simp! [List.length_map]) hl ⟨_,_,_,_,rfl,rfl⟩ (fun k hk ρ hρ=>by
   obtain⟨acc,y5,y6,y7,rfl,hr⟩:=hρ
   obtain⟨r,z6,z7,e1⟩:=yj (ns:=ns) (mode:=mode) (small:=small) (acc:=acc) (x6:=y6) (x7:=y7) hk hsm (by omega)
   exact⟨_,_,rfl, .inl e1,_,_,_,_,rfl,by simp[hr]⟩)
 refine⟨rs,bd rfl ?_,e4⟩
 show ii [some (.val (.scr ns)),some (.val (.tup (lev.map .int))),some (.val (.int mode)),some (.val (.int small)),none,none,none,none]=_
 unfold ii
 rw[av (ρ':=[some (.val (.scr ns)),some (.val (.tup (lev.map .int))),some (.val (.int mode)),some (.val (.int small)),some (.own (.lst (([]:List Int).map .int))),none,none,none]) rfl,av e]
 rfl
theorem j9:∀{l m:List Int},l.Nodup->m.Sublist l->l.filter (fun x=>decide (x∈m))=m
 |[],m,_,s=>by rw[List.sublist_nil.mp s];rfl
 |a::l,m,nd,s=>by
  obtain⟨n1,n2⟩:=List.nodup_cons.mp nd
  cases s with
  |cons _ s=>
   rw[List.filter_cons_of_neg (by simpa using fun h=>n1 (s.subset h)),j9 n2 s]
  | @cons_cons m' _ _ s=>
   rw[List.filter_cons_of_pos (by simp)]
   have:l.filter (fun x=>decide (x∈a::m'))=l.filter (fun x=>decide (x∈m')):=List.filter_congr fun x hx=>by
    have:x≠a:=fun z=>n1 (z▸hx)
    simp[this]
   rw[this,j9 n2 s]
theorem Good.nd {n:Nat} {ss:List eC} (g:Good n ss):(ss.map (·.1)).Nodup:=List.pairwise_map.mpr (g.inc.imp fun h=>Int.ne_of_lt h)
structure fM (n:Nat) (ss:List eC) (rs:List Int) (rd:List (Int×Int)):Prop where
 n7:n<=7
 good:Good n ss
 len:ss.length<=12
 rsl:rs.length=n
 sub:(rd.map (·.1)).Sublist (ss.map (·.1))
 ten:rd.length<=10
noncomputable def ay (n:Nat) (ss:List eC) (rs:List Int) (rd:List (Int×Int)):D:= .tup [.int (n:Int), .tup (ss.map bg), .tup (rs.map .int), .tup (rd.map aF)]
theorem Cs (ns:List Int):aq [.scr ns, .int 1]= .ok (.int (cl ns 1)):=cM ns 1
theorem Ct (ns:List Int):aq [.scr ns, .int 2]= .ok (.int (cl ns 2)):=cM ns 2
theorem Cu (ns:List Int):aq [.scr ns, .int 3]= .ok (.int (cl ns 3)):=cM ns 3
theorem u6 (ns:List Int):∃(n:Nat) (ss:List eC) (rs:List Int) (rd:List (Int×Int)),fK [.scr ns]= .ok (ay n ss rs rd)/\fM n ss rs rd:=by
 obtain⟨n,en,hn7⟩:∃n:Nat,cl ns 1%8=(n:Int)/\n<=7:=⟨(cl ns 1%8).toNat,by omega,by omega⟩
 obtain⟨m0,em,hm⟩:∃m:Nat,cl ns 2%13=(m:Int)/\m<=12:=⟨(cl ns 2%13).toNat,by omega,by omega⟩
 obtain⟨many,hmany,hm12,h0⟩:∃many:Nat,many=(if (n:Int)>0 then m0 else 0)/\many<=12/\(0<n\/many=0):=⟨_,rfl,by split<;>omega,by split<;>omega⟩
 obtain⟨ss,e1,l1,g⟩:=oy ns n many hn7 hm12 h0
 have hsl:ss.length<=1000:=by omega
 obtain⟨mm,e2,s2,t2⟩:=oA ns ss hsl (cl ns 3%5)
 have hsm:cl ns 4 / 4%2=0\/cl ns 4 / 4%2=1:=by omega
 obtain⟨ps,lev,e3,f1,f2'⟩:=rm (ns:=ns) (mm:=mm) g hn7 hsl hsm
 have pl:ps.length=ss.length:=by have:=congrArg List.length f1;simpa using this
 obtain⟨rd,e4,f4⟩:=mJ (ns:=ns) (ps:=ps) (mm:=mm) (mode:=cl ns 4%4) hsm (by omega)
 obtain⟨rs,e5,l5⟩:=rn (ns:=ns) (lev:=lev) (mode:=cl ns 4%4) hsm (by omega)
 rw[f1,j9 g.nd s2]at f4
 refine⟨n,ss,rs,rd,bd rfl ?_,⟨hn7,g,by omega,by omega,by rw[f4];exact s2,by have:=congrArg List.length f4;simp at this;omega⟩⟩
 show j7 [some (.val (.scr ns)),none,none,none,none,none,none,none,none,none]=_
 have hl4:(4:Nat)<=lim:=by decide
 have em2:∀x,dN (fT (f2 vd (ae 1) (fC (.int 0)))) (aT (f2 bM (aM aq 2 (aa (ar 0) (aa (fC (.int 2)) (aj)))) (fC (.int 13))) (gN 2)) (bc) (some (.val (.scr ns))::some (.val (.int (n:Int)))::some (.val (.int 0))::x)= .ok (.nx (some (.val (.scr ns))::some (.val (.int (n:Int)))::some (.val (.int (many:Int)))::x)):=fun x=>by
  rw[hmany]
  by_cases hp:(n:Int)>0
  ·simp! [Ct,aN (show (0:Int)<13 by decide),em,hp]
  ·simp! [hp]
   rfl
 unfold j7
 rw[av (ρ':=[some (.val (.scr ns)),some (.val (.int (n:Int))),none,none,none,none,none,none,none,none]) (by simp! [Cs,aN (show (0:Int)<8 by decide),en]),
  av (ρ':=[some (.val (.scr ns)),some (.val (.int (n:Int))),some (.val (.int 0)),none,none,none,none,none,none,none]) rfl,av (em2 _)]
 simp! [Cu,zh,aN (show (0:Int)<4 by decide),cq (show (0:Int)<4/\(4:Int)<1073741824 by decide),aN (show (0:Int)<2 by decide),aN (show (0:Int)<5 by decide),e1,e2,e3,e4,e5,dM,iu,hl4,ay]
theorem fS {α:Type} {f e:α->D} {p:α->Bool} {gt:ai->R Bool} {fe:ai->R D} {a0:Option Slot} {ρ:ai}:∀(l:List α),(∀a∈l,gt (a0::some (.val (f a))::ρ)= .ok (p a))->(∀a∈l,p a=true->fe (a0::some (.val (f a))::ρ)= .ok (e a))->∀x:Option Slot,eJ (gN 1) gt fe (l.map f) (a0::x::ρ)= .ok ((l.filter p).map e)
 |[],_,_,_=>rfl
 |a::l,h1,h2,x=>by
  have ih:=fS l (fun b hb=>h1 b (List.mem_cons_of_mem _ hb)) (fun b hb=>h2 b (List.mem_cons_of_mem _ hb)) (some (.val (f a)))
  have g1:=h1 a List.mem_cons_self
  rw[List.map_cons,eJ]
  simp only[gN,ax,List.set_cons_succ,List.set_cons_zero,g1]
  by_cases hp:p a=true
  ·simp only[hp,if_true,h2 a List.mem_cons_self hp,ax,ih,List.filter_cons,List.map_cons]
  ·simp only[hp,if_false,ih,List.filter_cons,Bool.false_eq_true]
theorem pX {g:D->ai->R ai} {gb:ai->R bY} {P:ai->Prop}:∀(ds:List D),(∀d∈ds,∀ρ,P ρ->∃ρ1 ρ2,g d ρ= .ok ρ1/\gb ρ1= .ok (.nx ρ2)/\P ρ2)->∀ρ,P ρ->∃ρ',cU g gb ds ρ= .ok (.nx ρ')/\P ρ'
 |[],_,ρ,h=>⟨ρ,rfl,h⟩
 |d::ds,hs,ρ,h=>by
  obtain⟨ρ1,ρ2,e1,e2,h2⟩:=hs d List.mem_cons_self ρ h
  obtain⟨ρ',e,h'⟩:=pX ds (fun d hd=>hs d (List.mem_cons_of_mem _ hd)) ρ2 h2
  exact⟨ρ',by rw[iF e1 e2,e],h'⟩
theorem mj {α:Type} {f:α->D} {k:α->Int} (hk:∀a,mG (f a)=some (k a)):∀l:List α,dk (l.map f)=some (l.map k)
 |[]=>rfl
 |a::l=>by
  rw[List.map_cons,dk,hk,mj hk l];rfl
theorem u7 {α:Type} {f:α->D} {k:α->Int} (hk:∀a,mG (f a)=some (k a)) {l:List α} (h:l≠[]):cZ (l.map f)=none:=by
 cases l with
 |nil=>exact absurd rfl h
 |cons a l=>
  have:=hk a
  rw[List.map_cons]
  cases e:f a<;>rw[e]at this<;>first|rfl|cases this
theorem sy {α:Type} {f:α->D} {k:α->Int} (hk:∀a,mG (f a)=some (k a)) {l m:List α} (p:l.Perm m) (inc:m.Pairwise fun a b=>k a<k b) (hl:m.length<64) {d:D} (hd:d= .lst (l.map f)\/d= .tup (l.map f)):fF [d]=some (.lst (m.map f)):=by
 by_cases h0:l=[]
 ·subst h0
  have:m=[]:=(List.Perm.nil_eq p).symm
  subst this
  rcases hd with rfl|rfl<;>rfl
 ·have hn:(l.map k).Nodup:=(p.map k).nodup_iff.mpr (List.pairwise_map.mpr (inc.imp fun h=>Int.ne_of_lt h))
  have hs:iQ (l.map f)=m.map f:=pF (p.map f) (by
   rw[List.pairwise_map]
   refine inc.imp fun {a b} h=> ?_
   show (mG (f a)).getD 0<(mG (f b)).getD 0
   rw[hk,hk];exact h)
  have hl':(l.map k).length<64:=by rw[List.length_map,p.length_eq];exact hl
  have hr:=mj hk l
  have ha:=u7 hk h0
  rcases hd with rfl|rfl
  ·have:fD [.lst (l.map f)]=none:=by simp[fD,o4,ha]
   simp only[fF,this,jy,hr,Option.bind_some,hn,hl',and_self,if_true,hs]
  ·have:fD [.tup (l.map f)]=none:=by simp[fD,o4,ha]
   simp only[fF,this,jy,hr,Option.bind_some,hn,hl',and_self,if_true,hs]
noncomputable def mK (n:Nat) (ss:List eC) (rs:List Int) (rd:List (Int×Int)):List (Str×D):=[("tanks", .int (n:Int)),("streams", .tup (ss.map bg)),("rises", .tup (rs.map .int)),("readings", .tup (rd.map aF))]
noncomputable def aB (n:Nat) (ss:List eC) (rs:List Int) (rd:List (Int×Int)):D:= .ins "Day" (mK n ss rs rd)
theorem fM.inc {n:Nat} {ss:List eC} {rs:List Int} {rd:List (Int×Int)} (c:fM n ss rs rd):rd.Pairwise fun a b=>a.1<b.1:=List.pairwise_map.mp ((List.pairwise_map.mpr c.good.inc).sublist c.sub)
theorem gC {n:Nat} {ss sl:List eC} {rs:List Int} {rd rl:List (Int×Int)} (c:fM n ss rs rd) (p1:sl.Perm ss) (p2:rl.Perm rd) {d1 d2 d3:D} (h1:d1= .lst (sl.map bg)\/d1= .tup (sl.map bg)) (h2:d2= .lst (rs.map .int)\/d2= .tup (rs.map .int)) (h3:d3= .lst (rl.map aF)\/d3= .tup (rl.map aF)):
  bH [.int (n:Int),d1,d2,d3]= .ok (mK n ss rs rd):=by
 have e1:=sy (f:=bg) (k:=(·.1)) (fun a=>rfl) p1 c.good.inc (by have:=c.len;omega) h1
 have e3:=sy (f:=aF) (k:=(·.1)) (fun a=>rfl) p2 c.inc (by have:=c.ten;omega) h3
 have e2:d8 [d2]=some (.tup (rs.map .int)):=by rcases h2 with rfl|rfl<;>rfl
 simp! [bH,jv,i_,dC,m6,pE,e1,e2,e3,List.map_cons,List.map_nil,List.replicate,List.cons_append,Nat.reduceSub,tJ,kD,L2.Pu.d_,Option.map_some,mK]
theorem jJ {n:Nat} {ss:List eC} {rs:List Int} {rd:List (Int×Int)} {fs:ai->R (List D)} {ρ:ai} {ds:List D} (h:fs ρ= .ok ds) (h4:ds.length=4) (e:bH ds= .ok (mK n ss rs rd)):jw "Day" 4 bH fs ρ= .ok (aB n ss rs rd):=by
 unfold jw
 simp only[h,ax,h4,if_true,e,aB]
theorem Cv {a b c d:D}:L2.atI [a,b,c,d] 2=some c:=by
 have:=dD (xs:=[a,b,c,d]) (k:=2) (by simp)
 simpa using this
theorem u8 {a b c d:D}:L2.atI [a,b,c,d] 3=some d:=by
 have:=dD (xs:=[a,b,c,d]) (k:=3) (by simp)
 simpa using this
theorem B1 (ns:List Int):aq [.scr ns, .int 48]= .ok (.int (cl ns 48)):=cM ns 48
theorem yk {ds:List D} {k:Nat} (h:k<=ds.length):yU (.tup ds) (some (k:Int)) none=some (.tup (ds.drop k)):=by
 have e:HT.d5 ds.length 0 (some (k:Int))=k:=by simp only[HT.d5];rw[if_neg (by omega)];omega
 have e2:HT.d5 ds.length ds.length (none:Option Int)=ds.length:=rfl
 unfold yU
 simp only[e,e2,L2.Pu.o5]
 split
 ·rename_i z;rw[z.1];rfl
 ·rw[List.take_of_length_le (by simp)]
theorem Cw {ds:List D} {k:Nat} (h:k<=ds.length):yU (.tup ds) none (some (k:Int))=some (.tup (ds.take k)):=by
 have e:HT.d5 ds.length ds.length (some (k:Int))=k:=by simp only[HT.d5];rw[if_neg (by omega)];omega
 have e2:HT.d5 ds.length 0 (none:Option Int)=0:=rfl
 unfold yU
 simp only[e,e2,L2.Pu.o5]
 split
 ·rename_i z;rw[z.2,List.take_of_length_le (by omega)]
 ·simp
theorem B2 {a b:List D} (h:a.length+b.length<=lim):b_ (.tup a) (.tup b)=some (.tup (a++b)):=by
 unfold b_;simp only[h,if_true]
theorem nB {α:Type} (l:List α) (k:Nat):(l.drop k++l.take k).Perm l:=by
 have:=List.perm_append_comm (l₁:=l.drop k) (l₂:=l.take k)
 rwa [List.take_append_drop]at this
theorem wg {c:ai->R Bool} {g g':ai->R bY} {ρ:ai} (h:c ρ= .ok true):dN c g g' ρ=g ρ:=by
 unfold dN
 rw[h];rfl
theorem rq {c:ai->R Bool} {g g':ai->R bY} {ρ:ai} (h:c ρ= .ok false):dN c g g' ρ=g' ρ:=by
 unfold dN
 rw[h];rfl
theorem DG {i:Nat} {x y:Int} {ρ:ai} (h:ae i ρ= .ok (.int x)) (n:x≠y):fT (f2 iE (ae i) (fC (.int y))) ρ= .ok false:=by
 unfold fT f2
 rw[h]
 simp only[fC,ax,vn,cN,decide_eq_false n]
theorem wj (ns:List Int) {n:Nat} {ss:List eC} {rs:List Int} {rd:List (Int×Int)} (c:fM n ss rs rd):gB [.scr ns,ay n ss rs rd]= .ok (aB n ss rs rd):=by
 have l1:=c.len
 have l2:=c.ten
 refine bd rfl ?_
 show kl [some (.val (.scr ns)),some (.val (ay n ss rs rd)),none,none,none]=_
 unfold kl
 rw[av (ρ':=[some (.val (.scr ns)),some (.val (ay n ss rs rd)),some (.val (.int (cl ns 48%4))),none,none]) (by simp! [B1,aN (show (0:Int)<4 by decide)])]
 generalize cl ns 48%4=tn
 have i0:bv (ay n ss rs rd) (.int 0)=some (.int (n:Int)):=rfl
 have i1:bv (ay n ss rs rd) (.int 1)=some (.tup (ss.map bg)):=rfl
 have i2:bv (ay n ss rs rd) (.int 2)=some (.tup (rs.map .int)):=rfl
 have i3:bv (ay n ss rs rd) (.int 3)=some (.tup (rd.map aF)):=rfl
 generalize ay n ss rs rd=cd at*
 by_cases h0:tn=0
 ·subst h0
  refine eV ((wg rfl).trans (ia (jJ (ds:=[.int (n:Int), .lst (ss.map bg), .lst (rs.map .int), .lst (rd.map aF)]) ?_ rfl (gC c (.refl _) (.refl _) (.inl rfl) (.inl rfl) (.inl rfl)))))
  simp! [i0,i1,i2,i3]
 refine Eq.trans (av (rq (DG rfl h0))) ?_
 by_cases h1:tn=1
 ·subst h1
  refine eV ((wg rfl).trans (ia (jJ (ds:=[.int (n:Int), .lst (ss.reverse.map bg), .lst (rs.map .int), .lst (rd.reverse.map aF)]) ?_ rfl (gC c (List.reverse_perm _) (List.reverse_perm _) (.inl rfl) (.inl rfl) (.inl rfl)))))
  simp! [i0,i1,i2,i3,List.map_reverse]
 refine Eq.trans (av (rq (DG rfl h1))) ?_
 by_cases h2:tn=2
 ·subst h2
  refine eV ((wg rfl).trans (ia (jJ (ds:=[.int (n:Int), .tup (ss.map bg), .tup (rs.map .int), .tup (rd.map aF)]) ?_ rfl (gC c (.refl _) (.refl _) (.inr rfl) (.inr rfl) (.inr rfl)))))
  simp! [i0,i1,i2,i3]
 refine Eq.trans (av (rq (DG rfl h2))) ?_
 have sp:∀{α:Type} (f:α->D) (l:List α),l.length<=1000->yU (.tup (l.map f)) (some ((l.length / 2:Nat):Int)) none=some (.tup ((l.drop (l.length / 2)).map f))/\yU (.tup (l.map f)) none (some ((l.length / 2:Nat):Int))=some (.tup ((l.take (l.length / 2)).map f))/\b_ (.tup ((l.drop (l.length / 2)).map f)) (.tup ((l.take (l.length / 2)).map f))=some (.tup ((l.drop (l.length / 2)++l.take (l.length / 2)).map f)):=fun f l hl=>by
  have hk:l.length / 2<=(l.map f).length:=by rw[List.length_map];omega
  rw[yk hk,Cw hk,List.map_drop,List.map_take,List.map_append,List.map_drop,List.map_take]
  refine⟨rfl,rfl,B2 ?_⟩
  rw[List.length_drop,List.length_take,List.length_map]
  unfold lim
  omega
 obtain⟨a1,a2,a5⟩:=sp bg ss (by omega)
 obtain⟨a3,a4,a6⟩:=sp aF rd (by omega)
 have q1:((ss.length:Int)) / 2=((ss.length / 2:Nat):Int):=rfl
 have q2:((rd.length:Int)) / 2=((rd.length / 2:Nat):Int):=rfl
 rw[av (ρ':=[some (.val (.scr ns)),some (.val cd),some (.val (.int tn)),some (.val (.int ((ss.length / 2:Nat):Int))),none]) (by simp! [i1,List.length_map,cq (show (0:Int)<2/\(2:Int)<1073741824 by decide),q1]),
  av (ρ':=[some (.val (.scr ns)),some (.val cd),some (.val (.int tn)),some (.val (.int ((ss.length / 2:Nat):Int))),some (.val (.int ((rd.length / 2:Nat):Int)))]) (by simp! [i3,List.length_map,cq (show (0:Int)<2/\(2:Int)<1073741824 by decide),q2])]
 refine ia (jJ (ds:=[.int (n:Int), .tup ((ss.drop (ss.length / 2)++ss.take (ss.length / 2)).map bg), .tup (rs.map .int), .tup ((rd.drop (rd.length / 2)++rd.take (rd.length / 2)).map aF)]) ?_ rfl (gC c (nB _ _) (nB _ _) (.inr rfl) (.inr rfl) (.inr rfl)))
 simp! [i0,i1,i2,i3,yV,kx,ku,a1,a2,a3,a4,a5,a6]
theorem yl (ss:List eC) (h:ss.length<=1000):Wf 2 (.tup (ss.map bg)):= .tup (by simpa using h) fun d hd=>by
 obtain⟨r,_,rfl⟩:=List.mem_map.mp hd
 exact oz [r.1,r.2.1,r.2.2] (by simp)
theorem u9 (ss:List eC) (h:ss.length<=1000):aZ [.tup (ss.map bg), .tup (ss.map bg)]= .ok (.bl true):=ir (by omega) (yl ss h)
theorem wk (ss:List (Int×Int)) (h:ss.length<=1000):Wf 2 (.tup (ss.map aF)):= .tup (by simpa using h) fun d hd=>by
 obtain⟨r,_,rfl⟩:=List.mem_map.mp hd
 exact oz [r.1,r.2] (by simp)
theorem rz (ss:List (Int×Int)) (h:ss.length<=1000):aZ [.tup (ss.map aF), .tup (ss.map aF)]= .ok (.bl true):=ir (by omega) (wk ss h)
theorem Cy {n:Nat} {ss:List eC} {rs:List Int} {rd:List (Int×Int)}:(mK n ss rs rd).lookup ("tanks":Str)=some (D.int (n:Int)):=rfl
theorem ym {n:Nat} {ss:List eC} {rs:List Int} {rd:List (Int×Int)}:(mK n ss rs rd).lookup ("streams":Str)=some (D.tup (ss.map bg)):=rfl
theorem Cz {n:Nat} {ss:List eC} {rs:List Int} {rd:List (Int×Int)}:(mK n ss rs rd).lookup ("rises":Str)=some (D.tup (rs.map .int)):=rfl
theorem B3 {n:Nat} {ss:List eC} {rs:List Int} {rd:List (Int×Int)}:(mK n ss rs rd).lookup ("readings":Str)=some (D.tup (rd.map aF)):=rfl
theorem km {n:Nat} {ss:List eC} {rs:List Int} {rd:List (Int×Int)} (c:fM n ss rs rd):cD [aB n ss rs rd,ay n ss rs rd]= .ok (.bl true):=by
 have l1:=c.len
 have l2:=c.ten
 have l3:=c.rsl
 have l4:=c.n7
 refine bd rfl ?_
 show j8 [some (.val (aB n ss rs rd)),some (.val (ay n ss rs rd))]=_
 have s1:=u3 (n:Int)
 have s2:=u9 ss (by omega)
 have s3:=nw rs (by omega)
 have s4:=rz rd (by omega)
 simp! [j8,fE,aB,ay,Cy,ym,Cz,B3,dM,iu,Cv,u8,s1,s2,s3,s4]
theorem oB {a0:Option Slot} {k:Int}:∀(ss:List eC) (x:Option Slot),(∃r∈ss,r.1=k/\cU (gN 2) cX (ss.map bg) [a0,some (.val (.int k)),x]= .ok (.ret (bg r)))\/((∀r∈ss,r.1≠k)/\∃y,cU (gN 2) cX (ss.map bg) [a0,some (.val (.int k)),x]= .ok (.nx [a0,some (.val (.int k)),y]))
 |[],x=> .inr ⟨by simp,x,rfl⟩
 |r::ss,x=>by
  by_cases h:r.1=k
  ·refine .inl ⟨r,List.mem_cons_self,h,?_⟩
   rw[List.map_cons]
   exact vw rfl (by simp! [cX,bg,dM,h])
  ·have e:cX [a0,some (.val (.int k)),some (.val (bg r))]= .ok (.nx [a0,some (.val (.int k)),some (.val (bg r))]):=by simp! [cX,bg,dM,h]
   rcases oB (a0:=a0) (k:=k) ss (some (.val (bg r)))with ⟨q,h1,h2,h3⟩|⟨h1,y,h2⟩
   ·exact .inl ⟨q,List.mem_cons_of_mem _ h1,h2,by rw[List.map_cons,iF rfl e,h3]⟩
   ·exact .inr ⟨fun q hq=>(List.mem_cons.mp hq).elim (fun z=>z▸h) (h1 q),y,by rw[List.map_cons,iF rfl e,h2]⟩
theorem CA {ss:List eC} (h:(ss.map (·.1)).Nodup) {r q:eC} (hr:r∈ss) (hq:q∈ss) (e:r.1=q.1):r=q:=by
 induction ss with
 |nil=>cases hr
 |cons a ss ih=>
  rw[List.map_cons]at h
  obtain⟨h1,h2⟩:=List.nodup_cons.mp h
  rcases List.mem_cons.mp hr with hr1|hr1<;>rcases List.mem_cons.mp hq with hq1|hq1
  ·rw[hr1,hq1]
  ·exact(h1 (List.mem_map.mpr ⟨q,hq1,by rw[<-e,hr1]⟩)).elim
  ·exact(h1 (List.mem_map.mpr ⟨r,hr1,by rw[e,hq1]⟩)).elim
  ·exact ih h2 hr1 hq1
theorem jK {k n:Nat} {g:ai->R bY} {ds:List D} {x:Str} {ρ:ai} (h:ds.length=k) (e:g (dC n ds)= .err x ρ):bA k n g ds= .err x ρ:=by
 unfold bA
 rw[if_pos h,e];rfl
theorem l0 {g g':ai->R bY} {ρ ρ':ai} {x:Str} (h:g ρ= .err x ρ'):aH g g' ρ= .err x ρ':=by
 unfold aH
 rw[h];rfl
theorem yn {f:ai->R D} {g:D->ai->R ai} {ρ ρ':ai} {x:Str} (h:f ρ= .err x ρ'):aT f g ρ= .err x ρ':=by
 unfold aT
 rw[h];rfl
section
variable {n:Nat} {ss:List eC} {rs:List Int} {rd:List (Int×Int)}
theorem ua (c:fM n ss rs rd) {r:eC} (hr:r∈ss):dn [aB n ss rs rd, .int r.1]= .ok (bg r):=by
 refine bd rfl ?_
 show eW [some (.val (aB n ss rs rd)),some (.val (.int r.1)),none]=_
 have e0:cH (fE "Day" "streams" (ae 0)) [some (.val (aB n ss rs rd)),some (.val (.int r.1)),none]= .ok (ss.map bg):=by simp! [fE,aB,ym]
 rcases oB (a0:=some (.val (aB n ss rs rd))) (k:=r.1) ss none with ⟨q,h1,h2,h3⟩|⟨h1,_⟩
 ·rw[CA c.good.nd h1 hr h2]at h3
  exact eV ((o8 e0).trans h3)
 ·exact absurd rfl (h1 r hr)
theorem rA {k:Int} (hk:∀r∈ss,r.1≠k):∃ρ,dn [aB n ss rs rd, .int k]= .err "UnknownStream" ρ:=by
 have e0:cH (fE "Day" "streams" (ae 0)) [some (.val (aB n ss rs rd)),some (.val (.int k)),none]= .ok (ss.map bg):=by simp! [fE,aB,ym]
 rcases oB (a0:=some (.val (aB n ss rs rd))) (k:=k) ss none with ⟨q,h1,h2,h3⟩|⟨h1,y,h2⟩
 ·exact absurd h2 (hk q h1)
 ·refine⟨[some (.val (aB n ss rs rd)),some (.val (.int k)),y],?_⟩
  have e:eW [some (.val (aB n ss rs rd)),some (.val (.int k)),none]= .err "UnknownStream" [some (.val (aB n ss rs rd)),some (.val (.int k)),y]:=by
   unfold eW
   rw[av ((o8 e0).trans h2)]
   rfl
  exact jK rfl e
theorem CB {m:Str} (h:m≠"tanks"/\m≠"streams"/\m≠"rises"/\m≠"readings":=by decide):(mK n ss rs rd).lookup m=none:=by
 obtain⟨h1,h2,h3,h4⟩:=h
 simp[mK,List.lookup_cons,beq_eq_false_iff_ne.mpr h1,beq_eq_false_iff_ne.mpr h2,beq_eq_false_iff_ne.mpr h3,beq_eq_false_iff_ne.mpr h4]
theorem yo {m:Str} {k:Nat} {r:List D->R D} {fo:ai->R D} {fs:ai->R (List D)} {ρ:ai} {ds:List D} {z:D} (h1:fo ρ= .ok (aB n ss rs rd)) (h2:fs ρ= .ok ds) (hl:ds.length+1=k) (e:r (aB n ss rs rd::ds)= .ok z) (hm:m≠"tanks"/\m≠"streams"/\m≠"rises"/\m≠"readings":=by decide):du "Day" m k r fo fs ρ= .ok z:=by
 unfold du
 simp only[h1,ax]
 unfold aB at e ⊢
 simp only[CB hm,and_self,if_true,h2,ax,hl,e]
theorem wl {m x:Str} {k:Nat} {r:List D->R D} {fo:ai->R D} {fs:ai->R (List D)} {ρ ρ':ai} {ds:List D} (h1:fo ρ= .ok (aB n ss rs rd)) (h2:fs ρ= .ok ds) (hl:ds.length+1=k) (e:r (aB n ss rs rd::ds)= .err x ρ') (hm:m≠"tanks"/\m≠"streams"/\m≠"rises"/\m≠"readings":=by decide):du "Day" m k r fo fs ρ= .err x ρ:=by
 unfold du
 simp only[h1,ax]
 unfold aB at e ⊢
 simp only[CB hm,and_self,if_true,h2,ax,hl,e]
theorem ml {m:Str} {r:List D->R D} {fo f:ai->R D} {ρ:ai} {d z:D} (h1:fo ρ= .ok (aB n ss rs rd)) (h2:f ρ= .ok d) (e:r [aB n ss rs rd,d]= .ok z) (hm:m≠"tanks"/\m≠"streams"/\m≠"rises"/\m≠"readings":=by decide):du "Day" m 2 r fo (aa f aj) ρ= .ok z:=yo (ds:=[d]) h1 (dA h2 rfl) rfl e hm
theorem kn {m x:Str} {r:List D->R D} {fo f:ai->R D} {ρ ρ':ai} {d:D} (h1:fo ρ= .ok (aB n ss rs rd)) (h2:f ρ= .ok d) (e:r [aB n ss rs rd,d]= .err x ρ') (hm:m≠"tanks"/\m≠"streams"/\m≠"rises"/\m≠"readings":=by decide):du "Day" m 2 r fo (aa f aj) ρ= .err x ρ:=wl (ds:=[d]) h1 (dA h2 rfl) rfl e hm
theorem B4 {f:ai->R D} {ρ:ai} {d:D} {i:Nat} (h:f ρ= .ok d):aT f (gN i) ρ= .ok (.nx (ρ.set i (some (.val d)))):=by
 unfold aT gN
 rw[h];rfl
end
noncomputable def Bg (x:Int×Int):D:= .tup [.int x.1, .int x.2]
noncomputable def iL (ps:List (Int×Int)):List (bn×D):=ps.map fun x=>(Sum.inl x.1, .int x.2)
theorem pY (ps:List (Int×Int)):gz (ps.map Bg)=some (iL ps):=by
 induction ps with
 |nil=>rfl
 |cons x r ih=>
  show (fu (.int x.1)).bind (fun key=>(gz (r.map Bg)).map fun ps=>(key,D.int x.2)::ps)=_
  rw[ih]
  rfl
noncomputable def CZ (ps:List (Int×Int)):List (bn×D):=fX [] (iL ps)
theorem wm {pd:D} {ps:List (Int×Int)} (h:pd= .lst (ps.map Bg)\/pd= .tup (ps.map Bg)):vA [pd]=some (.dic (CZ ps)):=by
 rcases h with rfl|rfl
 ·show (gz (ps.map Bg)).map (fun qs=>D.dic (fX [] qs))=_
  rw[pY];rfl
 ·show (gz (ps.map Bg)).map (fun qs=>D.dic (fX [] qs))=_
  rw[pY];rfl
theorem yp {kds:List (bn×D)} {k:bn} {v:D} (h:k∉kds.map (·.1)):pc kds k v=kds++[(k,v)]:=by
 unfold pc
 rw[if_neg]
 intro z
 obtain⟨kv,h1,h2⟩:=List.any_eq_true.mp z
 exact h (List.mem_map.mpr ⟨kv,h1,by simpa using h2⟩)
theorem wo (ps:List (Int×Int)) (n:Int):(Sum.inl n:bn)∈(iL ps).map (·.1)<->n∈ps.map (·.1):=by
 unfold iL
 rw[List.map_map]
 constructor
 ·intro h
  obtain⟨p,hp,e⟩:=List.mem_map.mp h
  cases e
  exact List.mem_map_of_mem hp
 ·intro h
  obtain⟨p,hp,rfl⟩:=List.mem_map.mp h
  exact List.mem_map.mpr ⟨p,hp,rfl⟩
theorem yq {ps:List (Int×Int)} {p:Int×Int} (h:p.1∉ps.map (·.1)):pc (iL ps) (Sum.inl p.1) (.int p.2)=iL (ps++[p]):=by
 rw[yp (fun z=>h ((wo ps p.1).mp z))]
 simp[iL]
theorem yr {ps:List (Int×Int)} (nd:(ps.map (·.1)).Nodup):CZ ps=iL ps:=by
 have key:∀(b a:List (Int×Int)),((a++b).map (·.1)).Nodup->fX (iL a) (iL b)=iL (a++b):=by
  intro b
  induction b with
  |nil=>intro a _;simp[fX,iL]
  |cons p b ih=>
   intro a nd
   show fX (pc (iL a) (Sum.inl p.1) (.int p.2)) (iL b)=_
   have hp:p.1∉a.map (·.1):=by
    rw[List.map_append,List.map_cons]at nd
    have:=(List.nodup_append.mp nd).2.2
    intro z
    exact this _ z p.1 List.mem_cons_self rfl
   rw[yq hp,ih (a++[p]) (by rw[List.append_assoc];exact nd),List.append_assoc]
   rfl
 exact key ps [] nd
noncomputable def jL (ss:List eC) (rd:List (Int×Int)):List eC:=ss.filter fun r=>decide (r.1∉rd.map (·.1))
theorem la {a0:Option Slot}:∀(rd:List (Int×Int)) (x:Option Slot),eJ (gN 1) dY (f2 bv (ae 1) (fC (.int 0))) (rd.map aF) [a0,x]= .ok ((rd.map (·.1)).map .int)
 |[],x=>rfl
 |p::rd,x=>by
  have ih:=la (a0:=a0) rd (some (.val (aF p)))
  rw[List.map_cons,eJ]
  simp only[gN,dY,ax,List.set_cons_succ,List.set_cons_zero,if_true,ih]
  simp! [aF,dM,List.map_cons]
theorem sA {a0:Option Slot} {rr:List Int}:∀(ss:List eC) (x:Option Slot),eJ (gN 1) (fT (f2 (cQ true) (f2 bv (ae 1) (fC (.int 0))) (ae 2))) (ar 1) (ss.map bg) [a0,x,some (.bor (.lst (rr.map .int)))]= .ok ((ss.filter fun r=>decide (r.1∉rr)).map bg)
 |[],x=>rfl
 |r::ss,x=>by
  have ih:=sA (a0:=a0) (rr:=rr) ss (some (.val (bg r)))
  rw[List.map_cons,eJ]
  simp only[gN,ax,List.set_cons_succ,List.set_cons_zero,ih]
  by_cases h:r.1∈rr
  ·simp! [bg,dM,fA,h,not_true,List.filter_cons,decide_false]
  ·simp! [bg,dM,fA,h,not_false_eq_true,List.filter_cons,decide_true,List.map_cons]
theorem rB {n:Nat} {ss:List eC} {rs:List Int} {rd:List (Int×Int)} (h1:ss.length<=1000) (h2:rd.length<=1000):dL [ay n ss rs rd]= .ok (.lst ((jL ss rd).map bg)):=by
 refine bd rfl ?_
 show ij [some (.val (ay n ss rs rd)),none]=_
 have e3:L2.atI [D.int (n:Int), .tup (ss.map bg), .tup (rs.map .int), .tup (rd.map aF)] 3=some (.tup (rd.map aF)):=by
  have:=dD (xs:=[D.int (n:Int), .tup (ss.map bg), .tup (rs.map .int), .tup (rd.map aF)]) (k:=3) (by simp)
  simpa using this
 unfold ij
 rw[av (ρ':=[some (.val (ay n ss rs rd)),some (.own (.lst ((rd.map (·.1)).map .int)))]) (own_of (cR (ds:=rd.map aF) (τ:=[none,none]) (by simp! [ay,e3]) (by simp;unfold lim;omega) rfl (la _ _)))]
 refine ia (pA (cR (ds:=ss.map bg) (τ:=[none,none,some (.bor (.lst ((rd.map (·.1)).map .int)))]) (by simp! [ay,iu]) (by simp;unfold lim;omega) rfl (sA _ _)))
theorem fM.rnd {n:Nat} {ss:List eC} {rs:List Int} {rd:List (Int×Int)} (c:fM n ss rs rd):(rd.map (·.1)).Nodup:=List.Nodup.sublist c.sub c.good.nd
theorem wq (ps:List (Int×Int)) (k:Int):(gr (iL ps) (Sum.inl k)).isSome=decide (k∈ps.map (·.1)):=by
 induction ps with
 |nil=>rfl
 |cons x r ih=>
  unfold gr iL at ih ⊢
  rw[List.map_cons,List.find?_cons,List.map_cons]
  by_cases h:x.1=k
  ·simp[h]
  ·have e:decide ((Sum.inl x.1:bn)=Sum.inl k)=false:=by simpa using h
   simp only[e]
   rw[ih]
   have:¬k=x.1:=fun z=>h z.symm
   simp[this]
theorem B5 {ps:List (Int×Int)} (nd:(ps.map (·.1)).Nodup) (k:Int):cQ false (.int k) (.dic (CZ ps))=some (.bl (decide (k∈ps.map (·.1)))):=by
 show some (D.bl (gr (CZ ps) (Sum.inl k)).isSome)=_
 rw[yr nd,wq]
section
variable {n:Nat} {ss:List eC} {rs:List Int} {rd:List (Int×Int)}
theorem rC (c:fM n ss rs rd) {r:eC} (hr:r∈ss):aJ [aB n ss rs rd, .int r.1]= .ok (.bl (decide (r.1∈rd.map (·.1)))):=by
 refine bd rfl ?_
 show fZ [some (.val (aB n ss rs rd)),some (.val (.int r.1)),none]=_
 unfold fZ
 refine Eq.trans (av (B4 (ml rfl rfl (ua c hr)))) ?_
 have e:=wm (pd:= .tup (rd.map aF)) (ps:=rd) (.inr rfl)
 have e2:=B5 c.rnd r.1
 simp! [fE,aB,B3,bg,dM,e,e2]
theorem pZ {k:Int} (hk:∀r∈ss,r.1≠k):∃ρ,aJ [aB n ss rs rd, .int k]= .err "UnknownStream" ρ:=by
 obtain⟨ρ,e⟩:=rA (n:=n) (rs:=rs) (rd:=rd) hk
 exact⟨_,jK rfl (l0 (yn (kn rfl rfl e)))⟩
end
theorem oE:∀(ns acc:List Int),acc.Nodup->(ns.foldl step_dedup acc).length<=acc.length+ns.length/\((ns.foldl step_dedup acc).length=acc.length+ns.length<->(acc++ns).Nodup)
 |[],acc,h=>⟨by simp,by simpa using h⟩
 |k::ns,acc,h=>by
  rw[List.foldl_cons]
  unfold step_dedup
  by_cases hk:k∈acc
  ·have e:acc.any (·==k)=true:=List.any_eq_true.mpr ⟨k,hk,by simp⟩
   rw[if_pos e]
   obtain⟨h1,_⟩:=oE ns acc h
   refine⟨by rw[List.length_cons];exact Nat.le_succ_of_le h1,fun z=> ?_,fun z=> ?_⟩
   ·rw[List.length_cons]at z
    have:=h1
    unfold step_dedup at this
    omega
   ·exact absurd rfl ((List.nodup_append.mp z).2.2 k hk k List.mem_cons_self)
  ·have e:¬acc.any (·==k)=true:=fun z=>by
    obtain⟨x,hx,hx2⟩:=List.any_eq_true.mp z
    have:x=k:=by simpa using hx2
    exact hk (this▸hx)
   rw[if_neg e]
   have hn:(acc++[k]).Nodup:=List.nodup_append.mpr ⟨h,by simp,fun a ha b hb=>by
    have:b=k:=by simpa using hb
    subst this
    intro z
    exact hk (z▸ha)⟩
   obtain⟨h1,h2⟩:=oE ns (acc++[k]) hn
   rw[List.length_append,List.length_singleton]at h1 h2
   rw[List.append_assoc]at h2
   rw[List.length_cons]
   unfold step_dedup at h1 h2
   refine⟨by omega,?_⟩
   rw[show acc.length+(ns.length+1)=acc.length+1+ns.length by omega]
   exact h2
theorem rD (ns:List Int):(List.range ns.length).map (fun i=>ns.getD i 0)=ns:=by
 apply List.ext_getElem
 ·simp
 ·intro i h1 h2
  simp[h2]
theorem p_ (ns:List Int):decide ((L2.dS ns:Int)<(ns.length:Int))= !decide ns.Nodup:=by
 have e:L2.dS ns=(ns.foldl step_dedup []).length:=by
  unfold L2.dS firstMet
  rw[rD]
 obtain⟨h1,h2⟩:=oE ns [] List.nodup_nil
 rw[List.length_nil,Nat.zero_add]at h1 h2
 rw[List.nil_append]at h2
 rw[e]
 by_cases h:ns.Nodup
 ·have:=h2.mpr h
  simp[h,this]
 ·have:(ns.foldl step_dedup []).length≠ns.length:=fun z=>h (h2.mp z)
  simp[h]
  omega
noncomputable def aV (rd:List (Int×Int)) (row:List Int):List (Int×Int):=rd.filter fun p=>decide (p.1∉row)
section
variable {n:Nat} {ss:List eC} {rs:List Int} {rd:List (Int×Int)}
theorem fM.left (c:fM n ss rs rd) (row:List Int):fM n ss rs (aV rd row):=
 ⟨c.n7,c.good,c.len,c.rsl,((List.filter_sublist (l:=rd) (p:=fun p=>decide (p.1∉row))).map (·.1)).trans c.sub,Nat.le_trans (List.length_filter_le _ _) c.ten⟩
theorem oF (c:fM n ss rs rd) {k:Int} (h:k∈ss.map (·.1)):aJ [aB n ss rs rd, .int k]= .ok (.bl (decide (k∈rd.map (·.1)))):=by
 obtain⟨r,hr,rfl⟩:=List.mem_map.mp h
 exact rC c hr
theorem yt {k:Int} (h:k∉ss.map (·.1)):∃ρ,aJ [aB n ss rs rd, .int k]= .err "UnknownStream" ρ:=pZ fun r hr z=>h (List.mem_map.mpr ⟨r,hr,z⟩)
theorem q8 (c:fM n ss rs rd):∀(l:List Int) (x:Option Slot),(∀k∈l,k∈ss.map (·.1))->dE (gN 1) dY (du "Day" "metered" 2 aJ (ar 2) (aa (ar 1) (aj))) (l.map .int) [none,x,some (.val (aB n ss rs rd))]= .ok ((l.map fun k=>decide (k∈rd.map (·.1))).map .bl)
 |[],x,_=>rfl
 |k::l,x,h=>by
  have ih:=q8 c l (some (.val (.int k))) fun j hj=>h j (List.mem_cons_of_mem _ hj)
  have e:=ml (m:="metered") (r:=aJ) (fo:=ar 2) (f:=ar 1) (ρ:=[none,some (.val (.int k)),some (.val (aB n ss rs rd))]) rfl rfl (oF c (h k List.mem_cons_self))
  rw[List.map_cons,dE]
  simp only[gN,dY,List.set_cons_succ,List.set_cons_zero,if_true,e,ax,ih,List.map_cons]
theorem jM (c:fM n ss rs rd):∀(l:List Int) (x:Option Slot),(∃k∈l,k∉ss.map (·.1))->∃ρ,dE (gN 1) dY (du "Day" "metered" 2 aJ (ar 2) (aa (ar 1) (aj))) (l.map .int) [none,x,some (.val (aB n ss rs rd))]= .err "UnknownStream" ρ
 |[],x,h=>by obtain⟨k,hk,_⟩:=h;cases hk
 |k::l,x,h=>by
  rw[List.map_cons,dE]
  by_cases hk:k∈ss.map (·.1)
  ·obtain⟨ρ,ih⟩:=jM c l (some (.val (.int k))) (by
    obtain⟨j,hj,hj2⟩:=h
    rcases List.mem_cons.mp hj with rfl|hj
    ·exact absurd hk hj2
    ·exact⟨j,hj,hj2⟩)
   have e:=ml (m:="metered") (r:=aJ) (fo:=ar 2) (f:=ar 1) (ρ:=[none,some (.val (.int k)),some (.val (aB n ss rs rd))]) rfl rfl (oF c hk)
   refine⟨ρ,?_⟩
   simp only[gN,dY,List.set_cons_succ,List.set_cons_zero,if_true,e,ax,ih]
   rfl
  ·obtain⟨ρ,e0⟩:=yt (n:=n) (rs:=rs) (rd:=rd) hk
   have e:=kn (m:="metered") (r:=aJ) (fo:=ar 2) (f:=ar 1) (ρ:=[none,some (.val (.int k)),some (.val (aB n ss rs rd))]) rfl rfl e0
   refine⟨[none,some (.val (.int k)),some (.val (aB n ss rs rd))],?_⟩
   simp only[gN,dY,List.set_cons_succ,List.set_cons_zero,if_true,e]
   rfl
theorem wt {N:List Str} {names:List (Str×NameKind)} {fi:ai->R (List D)} {g:D->ai->R ai} {gt:ai->R Bool} {fe:ai->R D} {ρ τ:ai} {ds es:List D} (h:fi ρ= .ok ds) (hl:ds.length<=lim) (hr:gn N names ρ=τ) (hc:dE g gt fe ds τ= .ok es):
  j4 N names fi g gt fe ρ= .ok es:=by
 unfold j4
 rw[h,ax,if_pos hl,hr,hc]
theorem ub {N:List Str} {names:List (Str×NameKind)} {fi:ai->R (List D)} {g:D->ai->R ai} {gt:ai->R Bool} {fe:ai->R D} {ρ τ ρ':ai} {ds:List D} {x:Str} (h:fi ρ= .ok ds) (hl:ds.length<=lim) (hr:gn N names ρ=τ) (hc:dE g gt fe ds τ= .err x ρ'):
  j4 N names fi g gt fe ρ= .err x ρ:=by
 unfold j4
 rw[h,ax,if_pos hl,hr,hc]
noncomputable def jN (d:D) (row:List Int):Prop:=d= .lst (row.map .int)\/d= .tup (row.map .int)
theorem jN.seq {d:D} {row:List Int} (h:jN d row) {ρ:ai} {f:ai->R D} (e:f ρ= .ok d):cH f ρ= .ok (row.map .int):=by
 unfold cH
 rw[e]
 rcases h with rfl|rfl<;>rfl
theorem jN.len {d:D} {row:List Int} (h:jN d row):cJ [d]=some (.int (row.length:Int)):=by
 rcases h with rfl|rfl
 ·rw[qW,List.length_map]
 ·rw[o7,List.length_map]
theorem jN.set {d:D} {row:List Int} (h:jN d row) (hl:row.length<4000) {ρ:ai} {f:ai->R D} (e:f ρ= .ok d):iG f ρ= .ok (.int (L2.dS row)):=by
 unfold iG
 rw[e]
 rcases h with rfl|rfl<;>simp only[ax,lM,hl,if_true]
theorem jN.out {d:D} {row:List Int} (h:jN d row) (k:Int):cQ true (.int k) d=some (.bl (!decide (k∈row))):=by
 rcases h with rfl|rfl
 ·exact fA
 ·exact vq
theorem mn (c:fM n ss rs rd) {d:D} {row:List Int} (h:jN d row) (hl:row.length<=100):
  ((∃k∈row,k∉ss.map (·.1))->∃ρ,aG [aB n ss rs rd,d]= .err "UnknownStream" ρ)/\
  ((∀k∈row,k∈ss.map (·.1))->¬row.Nodup->∃ρ,aG [aB n ss rs rd,d]= .err "Twice" ρ)/\
  ((∀k∈row,k∈ss.map (·.1))->row.Nodup->(∃k∈row,k∉rd.map (·.1))->∃ρ,aG [aB n ss rs rd,d]= .err "NotMetered" ρ)/\
  ((∀k∈row,k∈ss.map (·.1))->row.Nodup->(∀k∈row,k∈rd.map (·.1))->aG [aB n ss rs rd,d]= .ok (aB n ss rs (aV rd row))):=by
 have l1:(1:Nat)<=lim:=by decide
 have hds:(row.map D.int).length<=lim:=by rw[List.length_map];unfold lim;omega
 have h0:cH (ar 1) [some (.val (aB n ss rs rd)),some (.val d),none,none]= .ok (row.map .int):=h.seq rfl
 have st1:(∀k∈row,k∈ss.map (·.1))->aG [aB n ss rs rd,d]=aG [aB n ss rs rd,d]:=fun _=>rfl
 have hset:iG (ae 1) [some (.val (aB n ss rs rd)),some (.val d),some (.own (.lst ((row.map fun k=>decide (k∈rd.map (·.1))).map .bl))),none]= .ok (.int (L2.dS row)):=h.set (by omega) rfl
 have hlen:=h.len
 have t2:fT (f2 Av (iG (ae 1)) (cI cJ (aa (ae 1) (aj)))) [some (.val (aB n ss rs rd)),some (.val d),some (.own (.lst ((row.map fun k=>decide (k∈rd.map (·.1))).map .bl))),none]= .ok (!decide row.Nodup):=by
  unfold fT f2
  rw[hset]
  simp! [hlen,p_]
 have t3:hX (eU (cI y3 (aa (ae 2) (aj)))) [some (.val (aB n ss rs rd)),some (.val d),some (.own (.lst ((row.map fun k=>decide (k∈rd.map (·.1))).map .bl))),none]= .ok (!(row.map fun k=>decide (k∈rd.map (·.1))).all id):=by
  have:y3 [.lst ((row.map fun k=>decide (k∈rd.map (·.1))).map .bl)]=some (.bl ((row.map fun k=>decide (k∈rd.map (·.1))).all id)):=by
   show (fG ((row.map fun k=>decide (k∈rd.map (·.1))).map D.bl)).map (fun bs=>D.bl (bs.all id))=_
   rw[tV];rfl
  simp! [this]
 have s1:(∀k∈row,k∈ss.map (·.1))->gq 2 (j4 ["self","numbers","meters_there","kept"] [(".0", .local),("number", .local),("self", .free)] (cH (ar 1)) (gN 1) (dY) (du "Day" "metered" 2 aJ (ar 2) (aa (ar 1) (aj)))) [some (.val (aB n ss rs rd)),some (.val d),none,none]
   = .ok (.nx [some (.val (aB n ss rs rd)),some (.val d),some (.own (.lst ((row.map fun k=>decide (k∈rd.map (·.1))).map .bl))),none]):=fun ha=>
  own_of (wt h0 hds rfl (q8 c row none ha))
 refine⟨fun hx=> ?_,fun ha hn=> ?_,fun ha hn hx=> ?_,fun ha hn hm=> ?_⟩
 ·obtain⟨ρ,e⟩:=jM c row none hx
  refine⟨[some (.val (aB n ss rs rd)),some (.val d),none,none],jK rfl (l0 ?_)⟩
  show gq 2 _ [some (.val (aB n ss rs rd)),some (.val d),none,none]=_
  unfold gq
  rw[ub h0 hds rfl e]
  rfl
 ·refine⟨[some (.val (aB n ss rs rd)),some (.val d),some (.own (.lst ((row.map fun k=>decide (k∈rd.map (·.1))).map .bl))),none],jK rfl ?_⟩
  show cg [some (.val (aB n ss rs rd)),some (.val d),none,none]=_
  unfold cg
  rw[av (s1 ha)]
  refine l0 ?_
  rw[decide_eq_false hn]at t2
  rw[wg t2]
  rfl
 ·refine⟨[some (.val (aB n ss rs rd)),some (.val d),some (.own (.lst ((row.map fun k=>decide (k∈rd.map (·.1))).map .bl))),none],jK rfl ?_⟩
  show cg [some (.val (aB n ss rs rd)),some (.val d),none,none]=_
  unfold cg
  rw[decide_eq_true hn]at t2
  have t3':(row.map fun k=>decide (k∈rd.map (·.1))).all id=false:=by
   obtain⟨k,hk,hk2⟩:=hx
   rw[List.all_eq_false]
   exact⟨decide (k∈rd.map (·.1)),List.mem_map.mpr ⟨k,hk,rfl⟩,by simpa using hk2⟩
  rw[t3']at t3
  rw[av (s1 ha),av (rq t2)]
  refine l0 ?_
  rw[wg t3]
  rfl
 ·refine bd rfl ?_
  show cg [some (.val (aB n ss rs rd)),some (.val d),none,none]=_
  unfold cg
  rw[decide_eq_true hn]at t2
  have t3':(row.map fun k=>decide (k∈rd.map (·.1))).all id=true:=by
   rw[List.all_eq_true]
   intro b hb
   obtain⟨k,hk,rfl⟩:=List.mem_map.mp hb
   simpa using hm k hk
  rw[t3']at t3
  have ten:=c.ten
  rw[av (s1 ha),av (rq t2),av (rq t3),
   av (ρ':=[some (.val (aB n ss rs rd)),some (.val d),some (.own (.lst ((row.map fun k=>decide (k∈rd.map (·.1))).map .bl))),some (.own (.lst ((aV rd row).map aF)))]) (own_of (cR (ds:=rd.map aF) (τ:=[none,none,some (.val d)]) (by simp! [fE,aB,B3]) (by simp[lim];omega) rfl
    (fS (e:=aF) (p:=fun p:Int×Int=>decide (p.1∉row)) rd (fun p _=>by
     have:=h.out p.1
     simp! [aF,dM,this,decide_not]) (fun p _ _=>rfl) _)))]
  have hmk:jw "Day" 4 bH (aa (fE "Day" "tanks" (ae 0)) (aa (fE "Day" "streams" (ae 0)) (aa (fE "Day" "rises" (ae 0)) (aa (ar 3) (aj))))) [some (.val (aB n ss rs rd)),some (.val d),some (.own (.lst ((row.map fun k=>decide (k∈rd.map (·.1))).map .bl))),some (.val (.lst ((aV rd row).map aF)))]= .ok (aB n ss rs (aV rd row)):=
   jJ (ds:=[.int (n:Int), .tup (ss.map bg), .tup (rs.map .int), .lst ((aV rd row).map aF)]) (by simp! [fE,aB,Cy,ym,Cz]) rfl (gC (c.left row) (.refl _) (.refl _) (.inr rfl) (.inr rfl) (.inl rfl))
  show bN _ [some (.val (aB n ss rs rd)),some (.val d),some (.own (.lst ((row.map fun k=>decide (k∈rd.map (·.1))).map .bl))),some (.val (.lst ((aV rd row).map aF)))]=_
  exact ia hmk
end
theorem iw {f:ai->R D} {ρ:ai} {b:Bool} (h:f ρ= .ok (.bl b)):fT f ρ= .ok b:=by unfold fT;rw[h];rfl
theorem yu {f:ai->R D} {ρ ρ':ai} {x:Str} (h:f ρ= .err x ρ'):bN f ρ= .err x ρ':=by unfold bN;rw[h];rfl
theorem yv {f:ai->R (List D)} {ρ ρ':ai} {x:Str} (h:f ρ= .err x ρ'):cO f ρ= .err x ρ':=by unfold cO;rw[h];rfl
theorem wu {f:ai->R D} {fs:ai->R (List D)} {ρ ρ':ai} {x:Str} (h:f ρ= .err x ρ'):aa f fs ρ= .err x ρ':=by unfold aa;rw[h];rfl
theorem B6 {f:ai->R (List D)} {ρ:ai} {ds:List D} (h:f ρ= .ok ds) (hl:ds.length<=lim):cO f ρ= .ok (.lst ds):=by unfold cO;rw[h,ax,if_pos hl]
theorem jO {i j:Int} (h:0<j/\j<1073741824):bD (.int i) (.int j)=some (.int (i / j)):=cq h
section
variable {n:Nat} {ss:List eC} {rs:List Int} {rd:List (Int×Int)}
theorem oG {d:D}:
  (∀z,aG [aB n ss rs rd,d]= .ok z->bQ [aB n ss rs rd,d]= .ok (.lst [z, .str ""]))/\
  (∀ρ,aG [aB n ss rs rd,d]= .err "UnknownStream" ρ->bQ [aB n ss rs rd,d]= .ok (.lst [.non, .str "UnknownStream"]))/\
  (∀ρ,aG [aB n ss rs rd,d]= .err "Twice" ρ->bQ [aB n ss rs rd,d]= .ok (.lst [.non, .str "Twice"]))/\
  (∀ρ,aG [aB n ss rs rd,d]= .err "NotMetered" ρ->bQ [aB n ss rs rd,d]= .ok (.lst [.non, .str "NotMetered"])):=by
 have l2:(2:Nat)<=lim:=by decide
 have er:∀x ρ,aG [aB n ss rs rd,d]= .err x ρ->bN (cO (aa (du "Day" "doubting" 2 aG (ar 0) (aa (ar 1) (aj))) (aa (fC (.str "")) (aj)))) [some (.val (aB n ss rs rd)),some (.val d),some (.own (.lst [])),none,none]= .err x [some (.val (aB n ss rs rd)),some (.val d),some (.own (.lst [])),none,none]:=fun x ρ hz=>by
  have e:=kn (m:="doubting") (r:=aG) (fo:=ar 0) (f:=ar 1) (ρ:=[some (.val (aB n ss rs rd)),some (.val d),some (.own (.lst [])),none,none]) rfl rfl hz
  exact yu (yv (wu e))
 refine⟨fun z hz=> ?_,fun ρ hz=> ?_,fun ρ hz=> ?_,fun ρ hz=> ?_⟩
 ·have e:=ml (m:="doubting") (r:=aG) (fo:=ar 0) (f:=ar 1) (ρ:=[some (.val (aB n ss rs rd)),some (.val d),some (.own (.lst [])),none,none]) rfl rfl hz
  refine bd rfl ?_
  show bP [some (.val (aB n ss rs rd)),some (.val d),none,none,none]=_
  unfold bP
  rw[av (ρ':=[some (.val (aB n ss rs rd)),some (.val d),some (.own (.lst [])),none,none]) rfl]
  refine eV ?_
  unfold qZ
  have e2:cO (aa (du "Day" "doubting" 2 aG (ar 0) (aa (ar 1) (aj))) (aa (fC (.str "")) (aj))) [some (.val (aB n ss rs rd)),some (.val d),some (.own (.lst [])),none,none]= .ok (.lst [z, .str ""]):=B6 (ds:=[z, .str ""]) (dA (ds:=[.str ""]) e rfl) l2
  rw[ia e2]
 ·have tr:=er _ _ hz
  refine bd rfl ?_
  show bP [some (.val (aB n ss rs rd)),some (.val d),none,none,none]=_
  unfold bP
  rw[av (ρ':=[some (.val (aB n ss rs rd)),some (.val d),some (.own (.lst [])),none,none]) rfl,
   av (ρ':=[some (.val (aB n ss rs rd)),some (.val d),some (.own (.lst [.bl true, .bl false, .bl false])),none,none]) (by unfold qZ;rw[tr];rfl)]
  rfl
 ·have tr:=er _ _ hz
  refine bd rfl ?_
  show bP [some (.val (aB n ss rs rd)),some (.val d),none,none,none]=_
  unfold bP
  rw[av (ρ':=[some (.val (aB n ss rs rd)),some (.val d),some (.own (.lst [])),none,none]) rfl,
   av (ρ':=[some (.val (aB n ss rs rd)),some (.val d),some (.own (.lst [.bl false, .bl true, .bl false])),none,none]) (by unfold qZ;rw[tr];rfl)]
  rfl
 ·have tr:=er _ _ hz
  refine bd rfl ?_
  show bP [some (.val (aB n ss rs rd)),some (.val d),none,none,none]=_
  unfold bP
  rw[av (ρ':=[some (.val (aB n ss rs rd)),some (.val d),some (.own (.lst [])),none,none]) rfl,
   av (ρ':=[some (.val (aB n ss rs rd)),some (.val d),some (.own (.lst [.bl false, .bl false, .bl true])),none,none]) (by unfold qZ;rw[tr];rfl)]
  rfl
theorem lb {a0:Option Slot}:∀(ss:List eC) (x:Option Slot),eJ (gN 1) dY (f2 bv (ae 1) (fC (.int 0))) (ss.map bg) [a0,x]= .ok ((ss.map (·.1)).map .int)
 |[],x=>rfl
 |p::ss,x=>by
  have ih:=lb (a0:=a0) ss (some (.val (bg p)))
  rw[List.map_cons,eJ]
  simp only[gN,dY,ax,List.set_cons_succ,List.set_cons_zero,if_true,ih]
  simp! [bg,dM,List.map_cons]
theorem nD:∀(l:List Int),l.Nodup<->∀k∈l,l.count k<=1:=by
 intro l
 induction l with
 |nil=>simp
 |cons a l ih=>
  rw[List.nodup_cons,ih]
  constructor
  ·rintro⟨h1,h2⟩ k hk
   rw[List.count_cons]
   by_cases e:a=k
   ·subst e
    rw[List.count_eq_zero.mpr h1];simp
   ·rcases List.mem_cons.mp hk with z|z
    ·exact absurd z.symm e
    ·have:=h2 k z
     simp[e];omega
  ·intro h
   refine⟨fun z=> ?_,fun k hk=> ?_⟩
   ·have:=h a List.mem_cons_self
    rw[List.count_cons_self]at this
    have:=List.count_pos_iff.mpr z
    omega
   ·have:=h k (List.mem_cons_of_mem _ hk)
    rw[List.count_cons]at this
    omega
theorem Bh {p:Int->Bool} {l:List Int}:(!((l.filter p).map D.int).isEmpty)=true<->∃k∈l,p k=true:=by
 rw[List.isEmpty_map,Bool.not_eq_true',List.isEmpty_eq_false_iff]
 constructor
 ·intro h
  obtain⟨k,hk⟩:=List.exists_mem_of_ne_nil _ h
  exact⟨k,(List.mem_filter.mp hk).1,(List.mem_filter.mp hk).2⟩
 ·rintro⟨k,h1,h2⟩ z
  have:k∈l.filter p:=List.mem_filter.mpr ⟨h1,h2⟩
  rw[z]at this
  cases this
theorem wv (c:fM n ss rs rd) {row:List Int} (hl:row.length<=100):
  ((∃k∈row,k∉ss.map (·.1))->bJ [ay n ss rs rd, .lst (row.map .int)]= .ok (.str "UnknownStream"))/\
  ((∀k∈row,k∈ss.map (·.1))->¬row.Nodup->bJ [ay n ss rs rd, .lst (row.map .int)]= .ok (.str "Twice"))/\
  ((∀k∈row,k∈ss.map (·.1))->row.Nodup->(∃k∈row,k∉rd.map (·.1))->bJ [ay n ss rs rd, .lst (row.map .int)]= .ok (.str "NotMetered"))/\
  ((∀k∈row,k∈ss.map (·.1))->row.Nodup->(∀k∈row,k∈rd.map (·.1))->bJ [ay n ss rs rd, .lst (row.map .int)]= .ok (.str "")):=by
 have len:=c.len
 have ten:=c.ten
 have hds:(row.map D.int).length<=lim:=by rw[List.length_map];unfold lim;omega
 have t1:fT (f2 ic (fL (bZ ["_law_case_here","_law_row"] [(".0", .local),("_law_number", .local),("_law_case_here", .free)] (cH (ar 1)) (gN 1) (fT (f2 (cQ true) (ae 1) (fL (bZ [".0","_law_number","_law_case_here"] [(".0", .local),("_law_stream", .local)] (cH (f2 bv (ae 2) (fC (.int 1)))) (gN 1) (dY) (f2 bv (ae 1) (fC (.int 0))))))) (ar 1))) (cO (aj))) [some (.val (ay n ss rs rd)),some (.val (.lst (row.map .int)))]
   = .ok (!((row.filter fun k=>decide (k∉ss.map (·.1))).map D.int).isEmpty):=by
  have e:=pA (cR (N:=["_law_case_here","_law_row"]) (names:=[(".0", .local),("_law_number", .local),("_law_case_here", .free)]) (fi:=cH (ar 1)) (g:=gN 1) (ρ:=[some (.val (ay n ss rs rd)),some (.val (.lst (row.map .int)))]) (ds:=row.map .int) (τ:=[none,none,some (.val (ay n ss rs rd))]) rfl hds rfl
   (fS (gt:=fT (f2 (cQ true) (ae 1) (fL (bZ [".0","_law_number","_law_case_here"] [(".0", .local),("_law_stream", .local)] (cH (f2 bv (ae 2) (fC (.int 1)))) (gN 1) (dY) (f2 bv (ae 1) (fC (.int 0))))))) (fe:=ar 1) (f:=D.int) (e:=D.int) (p:=fun k=>decide (k∉ss.map (·.1))) row (fun k _=>by
    have e2:=pA (cR (N:=[".0","_law_number","_law_case_here"]) (names:=[(".0", .local),("_law_stream", .local)]) (fi:=cH (f2 bv (ae 2) (fC (.int 1)))) (g:=gN 1) (gt:=dY) (fe:=f2 bv (ae 1) (fC (.int 0))) (ρ:=[none,some (.val (.int k)),some (.val (ay n ss rs rd))]) (ds:=ss.map bg) (τ:=[none,none]) (by simp! [ay,iu]) (by simp[lim];omega) rfl (lb ss none))
    rw[iw (ef (g:=cQ true) (fa:=ae 1) rfl e2 fA),decide_not]) (fun k _ _=>rfl) none))
  exact iw (ef (g:=ic) e (fb:=cO aj) rfl rfl)
 have t2:fT (f2 ic (fL (bZ ["_law_case_here","_law_row"] [(".0", .local),("_law_number", .local),("_law_row", .free)] (cH (ar 1)) (gN 1) (fT (f2 vd (pL (ae 2) (ar 1)) (fC (.int 1)))) (ar 1))) (cO (aj))) [some (.val (ay n ss rs rd)),some (.val (.lst (row.map .int)))]
   = .ok (!((row.filter fun k=>decide ((row.count k:Int)>1)).map D.int).isEmpty):=by
  have e:=pA (cR (N:=["_law_case_here","_law_row"]) (names:=[(".0", .local),("_law_number", .local),("_law_row", .free)]) (fi:=cH (ar 1)) (g:=gN 1) (ρ:=[some (.val (ay n ss rs rd)),some (.val (.lst (row.map .int)))]) (ds:=row.map .int) (τ:=[none,none,some (.val (.lst (row.map .int)))]) rfl hds rfl
   (fS (gt:=fT (f2 vd (pL (ae 2) (ar 1)) (fC (.int 1)))) (fe:=ar 1) (f:=D.int) (e:=D.int) (p:=fun k=>decide ((row.count k:Int)>1)) row (fun k _=>by
    simp! [pL,lM]) (fun k _ _=>rfl) none))
  exact iw (ef (g:=ic) e (fb:=cO aj) rfl rfl)
 have t3:fT (f2 ic (fL (bZ ["_law_case_here","_law_row"] [(".0", .local),("_law_number", .local),("_law_case_here", .free)] (cH (ar 1)) (gN 1) (fT (f2 (cQ true) (ae 1) (fL (bZ [".0","_law_number","_law_case_here"] [(".0", .local),("_law_one", .local)] (cH (f2 bv (ae 2) (fC (.int 3)))) (gN 1) (dY) (f2 bv (ae 1) (fC (.int 0))))))) (ar 1))) (cO (aj))) [some (.val (ay n ss rs rd)),some (.val (.lst (row.map .int)))]
   = .ok (!((row.filter fun k=>decide (k∉rd.map (·.1))).map D.int).isEmpty):=by
  have e:=pA (cR (N:=["_law_case_here","_law_row"]) (names:=[(".0", .local),("_law_number", .local),("_law_case_here", .free)]) (fi:=cH (ar 1)) (g:=gN 1) (ρ:=[some (.val (ay n ss rs rd)),some (.val (.lst (row.map .int)))]) (ds:=row.map .int) (τ:=[none,none,some (.val (ay n ss rs rd))]) rfl hds rfl
   (fS (gt:=fT (f2 (cQ true) (ae 1) (fL (bZ [".0","_law_number","_law_case_here"] [(".0", .local),("_law_one", .local)] (cH (f2 bv (ae 2) (fC (.int 3)))) (gN 1) (dY) (f2 bv (ae 1) (fC (.int 0))))))) (fe:=ar 1) (f:=D.int) (e:=D.int) (p:=fun k=>decide (k∉rd.map (·.1))) row (fun k _=>by
    have e2:=pA (cR (N:=[".0","_law_number","_law_case_here"]) (names:=[(".0", .local),("_law_one", .local)]) (fi:=cH (f2 bv (ae 2) (fC (.int 3)))) (g:=gN 1) (gt:=dY) (fe:=f2 bv (ae 1) (fC (.int 0))) (ρ:=[none,some (.val (.int k)),some (.val (ay n ss rs rd))]) (ds:=rd.map aF) (τ:=[none,none]) (by simp! [ay,u8]) (by simp[lim];omega) rfl (la rd none))
    rw[iw (ef (g:=cQ true) (fa:=ae 1) rfl e2 fA),decide_not]) (fun k _ _=>rfl) none))
  exact iw (ef (g:=ic) e (fb:=cO aj) rfl rfl)
 have no1:(∀k∈row,k∈ss.map (·.1))->(!((row.filter fun k=>decide (k∉ss.map (·.1))).map D.int).isEmpty)=false:=fun ha=>Bool.eq_false_iff.mpr fun z=>by
  obtain⟨k,h1,h2⟩:=Bh.mp z
  exact(of_decide_eq_true h2) (ha k h1)
 have no2:row.Nodup->(!((row.filter fun k=>decide ((row.count k:Int)>1)).map D.int).isEmpty)=false:=fun hn=>Bool.eq_false_iff.mpr fun z=>by
  obtain⟨k,h1,h2⟩:=Bh.mp z
  have:=(nD row).mp hn k h1
  have:=of_decide_eq_true h2
  omega
 have no3:(∀k∈row,k∈rd.map (·.1))->(!((row.filter fun k=>decide (k∉rd.map (·.1))).map D.int).isEmpty)=false:=fun ha=>Bool.eq_false_iff.mpr fun z=>by
  obtain⟨k,h1,h2⟩:=Bh.mp z
  exact(of_decide_eq_true h2) (ha k h1)
 refine⟨fun hx=>bd rfl ?_,fun ha hn=>bd rfl ?_,fun ha hn hx=>bd rfl ?_,fun ha hn hm=>bd rfl ?_⟩
 ·show bI [some (.val (ay n ss rs rd)),some (.val (.lst (row.map .int)))]=_
  unfold bI
  obtain⟨k,h1,h2⟩:=hx
  rw[Bh.mpr ⟨k,h1,decide_eq_true h2⟩]at t1
  exact eV ((wg t1).trans rfl)
 ·show bI [some (.val (ay n ss rs rd)),some (.val (.lst (row.map .int)))]=_
  unfold bI
  rw[no1 ha]at t1
  rw[Bh.mpr (by
   have:¬∀k∈row,row.count k<=1:=fun z=>hn ((nD row).mpr z)
   obtain⟨k,hk⟩:=Classical.not_forall.mp this
   obtain⟨h1,h2⟩:=Classical.not_imp.mp hk
   exact⟨k,h1,decide_eq_true (by omega)⟩)]at t2
  rw[av (rq t1)]
  exact eV ((wg t2).trans rfl)
 ·show bI [some (.val (ay n ss rs rd)),some (.val (.lst (row.map .int)))]=_
  unfold bI
  obtain⟨k,h1,h2⟩:=hx
  rw[no1 ha]at t1
  rw[no2 hn]at t2
  rw[Bh.mpr ⟨k,h1,decide_eq_true h2⟩]at t3
  rw[av (rq t1),av (rq t2)]
  exact eV ((wg t3).trans rfl)
 ·show bI [some (.val (ay n ss rs rd)),some (.val (.lst (row.map .int)))]=_
  unfold bI
  rw[no1 ha]at t1
  rw[no2 hn]at t2
  rw[no3 hm]at t3
  rw[av (rq t1),av (rq t2),av (rq t3)]
  rfl
end
theorem B7 (ns:List Int):aq [.scr ns, .int 50]= .ok (.int (cl ns 50)):=cM ns 50
theorem B8 (ns:List Int):aq [.scr ns, .int 51]= .ok (.int (cl ns 51)):=cM ns 51
theorem ww {i:Nat} {ρ:ai} {ds:List D} (h:ρ[i]? =some (some (.own (.lst ds)))):ae i ρ= .ok (.lst ds):=by
 unfold ae
 rw[h];rfl
theorem B9 {xs:List Int} {j:Int} (h0:0<=j) (h1:j<(xs.length:Int)):∃v,L2.atI (xs.map D.int) j=some (.int v):=by
 obtain⟨k,rfl⟩:=Int.eq_ofNat_of_zero_le h0
 have hk:k<(xs.map D.int).length:=by rw[List.length_map];omega
 refine⟨xs[k]'(by omega),?_⟩
 rw[dD hk]
 simp
theorem wx {i:Nat} {ρ:ai} {xs:List Int} (h:ρ[i]? =some (some (.own (.lst (xs.map .int))))):cI cJ (aa (ae i) (aj)) ρ= .ok (.int (xs.length:Int)):=
 qY (dA (ww h) rfl) (by rw[qW,List.length_map])
theorem Ba {fa fb:ai->R D} {ρ:ai} {row:List Int} {i v:Int} (h:ρ[4]? =some (some (.own (.lst (row.map .int))))) (ha:fa ρ= .ok (.int i)) (hb:fb ρ= .ok (.int v)) (h0:0<=i) (h1:i<=(row.length:Int)) (hl:row.length<=100):
  lY 4 fa fb ρ= .ok (.nx (ρ.set 4 (some (.own (.lst ((iR row i.toNat v).map .int)))))):=by
 unfold lY
 simp only[h,ha,hb,ax,List.length_map]
 rw[if_pos ⟨h0,h1,by unfold lim;omega⟩]
 simp[iR]
theorem mq {ρ:ai} {row xs:List Int} {src:Nat} {spot a b:Int} {fs:ai->R D} (h:ρ[4]? =some (some (.own (.lst (row.map .int))))) (hx:ρ[src]? =some (some (.own (.lst (xs.map .int))))) (hs:fs ρ= .ok (.int a)) {fs':ai->R D} (hs':fs' ρ= .ok (.int b)) (hne:xs≠[]) (hl:row.length<=100):
  ∃row':List Int,row'.length=row.length+1/\lY 4 (f2 bM fs (f2 b_ (cI cJ (aa (ae 4) (aj))) (fC (.int 1)))) (f2 bv (ae src) (f2 bM fs' (cI cJ (aa (ae src) (aj))))) ρ= .ok (.nx (ρ.set 4 (some (.own (.lst (row'.map .int)))))):=by
 have hp:0<(xs.length:Int):=by
  have:=List.length_pos_iff.mpr hne
  omega
 have hq:0<(row.length:Int)+1:=by omega
 have h1:=ef (g:=bM) hs (ef (g:=b_) (wx h) (fb:=fC (.int 1)) rfl qV) (aN hq)
 obtain⟨v,hv⟩:=B9 (xs:=xs) (Int.emod_nonneg b (by omega)) (Int.emod_lt_of_pos b hp)
 have h2:=ef (g:=bv) (ww hx) (ef (g:=bM) hs' (wx hx) (aN hp)) (by rw[yZ];exact hv)
 refine⟨iR row (a%((row.length:Int)+1)).toNat v,nq _ _ _,Ba h h1 h2 (Int.emod_nonneg _ (by omega)) ?_ hl⟩
 have:=Int.emod_lt_of_pos a hq
 omega
theorem DH {ρ:ai} {a b c d:Int}:gI (aa (fC (.int a)) (aa (fC (.int b)) (aa (fC (.int c)) (aa (fC (.int d)) (aj))))) ρ= .ok (.tup ([a,b,c,d].map .int)):=rfl
theorem DI {ρ:ai} {a b c d x:Int} {f:ai->R D} (h:f ρ= .ok (.int x)):fT (f2 (cQ false) f (gI (aa (fC (.int a)) (aa (fC (.int b)) (aa (fC (.int c)) (aa (fC (.int d)) (aj))))))) ρ= .ok (decide (x∈[a,b,c,d])):=
 iw (ef h DH Cd)
theorem wy {f g:ai->R Bool} {ρ:ai} {a b:Bool} (h:f ρ= .ok a) (h2:g ρ= .ok b):jZ f g ρ= .ok (a&&b):=by
 unfold jZ
 rw[h]
 cases a
 ·rfl
 ·show g ρ=_
  rw[h2];rfl
theorem rF {i:Nat} {ρ:ai} {xs:List Int} (h:ρ[i]? =some (some (.own (.lst (xs.map .int))))):fT (f2 ic (ae i) (cO (aj))) ρ= .ok (!xs.isEmpty):=
 iw (ef (g:=ic) (ww h) (fb:=cO aj) rfl (by show some (D.bl (!(xs.map D.int).isEmpty))=_;rw[List.isEmpty_map]))
section
variable {n:Nat} {ss:List eC} {rs:List Int} {rd:List (Int×Int)}
theorem jP (ns:List Int) (c:fM n ss rs rd) {nm:List Int} (hl:nm.length<=10):∃row:List Int,row.length<=13/\cY [.scr ns,ay n ss rs rd, .lst (nm.map .int)]= .ok (.lst (row.map .int)):=by
 have len:=c.len
 have ten:=c.ten
 have lo:=rB (n:=n) (ss:=ss) (rs:=rs) (rd:=rd) (by omega) (by omega)
 have hll:(jL ss rd).length<=12:=Nat.le_trans (List.length_filter_le _ _) len
 generalize hL:(jL ss rd).map (·.1)=L
 have s1:gq 3 (bZ ["_law_script","_law_case_here","_law_named","_law_there","_law_row","_law_how","_law_spot","_law_loose_here","_law_others"] [(".0", .local),("_law_stream", .local)] (cH (f2 bv (ae 1) (fC (.int 1)))) (gN 1) (dY) (f2 bv (ae 1) (fC (.int 0)))) [some (.val (.scr ns)),some (.val (ay n ss rs rd)),some (.val (.lst (nm.map .int))),none,none,none,none,none,none]
   = .ok (.nx [some (.val (.scr ns)),some (.val (ay n ss rs rd)),some (.val (.lst (nm.map .int))),some (.own (.lst ((ss.map (·.1)).map .int))),none,none,none,none,none]):=
  own_of (cR (ds:=ss.map bg) (τ:=[none,none]) (by simp! [ay,iu]) (by simp[lim];omega) rfl (lb ss none))
 have s2:pI 4 (cI gw (aa (ae 2) (aj))) [some (.val (.scr ns)),some (.val (ay n ss rs rd)),some (.val (.lst (nm.map .int))),some (.own (.lst ((ss.map (·.1)).map .int))),none,none,none,none,none]
   = .ok (.nx [some (.val (.scr ns)),some (.val (ay n ss rs rd)),some (.val (.lst (nm.map .int))),some (.own (.lst ((ss.map (·.1)).map .int))),some (.own (.lst (nm.map .int))),none,none,none,none]):=rfl
 have s3:aT (f2 bM (aM aq 2 (aa (ar 0) (aa (fC (.int 50)) (aj)))) (fC (.int 12))) (gN 5) [some (.val (.scr ns)),some (.val (ay n ss rs rd)),some (.val (.lst (nm.map .int))),some (.own (.lst ((ss.map (·.1)).map .int))),some (.own (.lst (nm.map .int))),none,none,none,none]
   = .ok (.nx [some (.val (.scr ns)),some (.val (ay n ss rs rd)),some (.val (.lst (nm.map .int))),some (.own (.lst ((ss.map (·.1)).map .int))),some (.own (.lst (nm.map .int))),some (.val (.int (cl ns 50%12))),none,none,none]):=by
  simp! [B7,aN (show (0:Int)<12 by decide)]
 have s4:aT (aM aq 2 (aa (ar 0) (aa (fC (.int 51)) (aj)))) (gN 6) [some (.val (.scr ns)),some (.val (ay n ss rs rd)),some (.val (.lst (nm.map .int))),some (.own (.lst ((ss.map (·.1)).map .int))),some (.own (.lst (nm.map .int))),some (.val (.int (cl ns 50%12))),none,none,none]
   = .ok (.nx [some (.val (.scr ns)),some (.val (ay n ss rs rd)),some (.val (.lst (nm.map .int))),some (.own (.lst ((ss.map (·.1)).map .int))),some (.own (.lst (nm.map .int))),some (.val (.int (cl ns 50%12))),some (.val (.int (cl ns 51))),none,none]):=by
  simp! [B8]
 generalize cl ns 50%12=how at*
 generalize cl ns 51=spot at*
 have s5:gq 7 (bZ ["_law_script","_law_case_here","_law_named","_law_there","_law_row","_law_how","_law_spot","_law_loose_here","_law_others"] [(".0", .local),("_law_stream", .local)] (cH (aM dL 1 (aa (ar 1) (aj)))) (gN 1) (dY) (f2 bv (ae 1) (fC (.int 0)))) [some (.val (.scr ns)),some (.val (ay n ss rs rd)),some (.val (.lst (nm.map .int))),some (.own (.lst ((ss.map (·.1)).map .int))),some (.own (.lst (nm.map .int))),some (.val (.int how)),some (.val (.int spot)),none,none]
   = .ok (.nx [some (.val (.scr ns)),some (.val (ay n ss rs rd)),some (.val (.lst (nm.map .int))),some (.own (.lst ((ss.map (·.1)).map .int))),some (.own (.lst (nm.map .int))),some (.val (.int how)),some (.val (.int spot)),some (.own (.lst (L.map .int))),none]):=by
  rw[<-hL]
  exact own_of (cR (ds:=(jL ss rd).map bg) (τ:=[none,none]) (by simp! [lo]) (by simp[lim];omega) rfl (lb (jL ss rd) none))
 have s6:∃r1:List Int,r1.length<=11/\dN (jZ (fT (f2 (cQ false) (ae 5) (gI (aa (fC (.int 4)) (aa (fC (.int 7)) (aa (fC (.int 8)) (aa (fC (.int 10)) (aj)))))))) (fT (f2 ic (ae 4) (cO (aj)))))
  (lY 4 (f2 bM (ae 6) (f2 b_ (cI cJ (aa (ae 4) (aj))) (fC (.int 1)))) (f2 bv (ae 4) (f2 bM (f2 bD (ae 6) (fC (.int 20))) (cI cJ (aa (ae 4) (aj))))))
  (bc) [some (.val (.scr ns)),some (.val (ay n ss rs rd)),some (.val (.lst (nm.map .int))),some (.own (.lst ((ss.map (·.1)).map .int))),some (.own (.lst (nm.map .int))),some (.val (.int how)),some (.val (.int spot)),some (.own (.lst (L.map .int))),none]
   = .ok (.nx [some (.val (.scr ns)),some (.val (ay n ss rs rd)),some (.val (.lst (nm.map .int))),some (.own (.lst ((ss.map (·.1)).map .int))),some (.own (.lst (r1.map .int))),some (.val (.int how)),some (.val (.int spot)),some (.own (.lst (L.map .int))),none]):=by
  have t:=wy (DI (a:=4) (b:=7) (c:=8) (d:=10) (f:=ae 5) (x:=how) (ρ:=[some (.val (.scr ns)),some (.val (ay n ss rs rd)),some (.val (.lst (nm.map .int))),some (.own (.lst ((ss.map (·.1)).map .int))),some (.own (.lst (nm.map .int))),some (.val (.int how)),some (.val (.int spot)),some (.own (.lst (L.map .int))),none]) rfl) (rF (i:=4) (xs:=nm) rfl)
  cases hb:(decide (how∈[(4:Int),7,8,10])&& !nm.isEmpty)with
  |false=>rw[hb]at t;exact⟨nm,by omega,(rq t).trans rfl⟩
  |true=>
   rw[hb]at t
   have hne:nm≠[]:=fun z=>by rw[z]at hb;simp at hb
   obtain⟨r1,h1,h2⟩:=mq (src:=4) (row:=nm) (xs:=nm) (spot:=0) (fs:=ae 6) (fs':=f2 bD (ae 6) (fC (.int 20))) (ρ:=[some (.val (.scr ns)),some (.val (ay n ss rs rd)),some (.val (.lst (nm.map .int))),some (.own (.lst ((ss.map (·.1)).map .int))),some (.own (.lst (nm.map .int))),some (.val (.int how)),some (.val (.int spot)),some (.own (.lst (L.map .int))),none]) rfl rfl (a:=spot) rfl (ef (g:=bD) (fa:=ae 6) (fb:=fC (.int 20)) rfl rfl (jO ⟨by decide,by decide⟩)) hne (by omega)
   exact⟨r1,by omega,(wg t).trans h2⟩
 obtain⟨r1,l1,s6⟩:=s6
 have s7:∃r2:List Int,r2.length<=12/\dN (jZ (fT (f2 (cQ false) (ae 5) (gI (aa (fC (.int 5)) (aa (fC (.int 8)) (aa (fC (.int 9)) (aa (fC (.int 10)) (aj)))))))) (fT (f2 ic (ae 7) (cO (aj)))))
  (lY 4 (f2 bM (f2 bD (ae 6) (fC (.int 400))) (f2 b_ (cI cJ (aa (ae 4) (aj))) (fC (.int 1)))) (f2 bv (ae 7) (f2 bM (f2 bD (ae 6) (fC (.int 8000))) (cI cJ (aa (ae 7) (aj))))))
  (bc) [some (.val (.scr ns)),some (.val (ay n ss rs rd)),some (.val (.lst (nm.map .int))),some (.own (.lst ((ss.map (·.1)).map .int))),some (.own (.lst (r1.map .int))),some (.val (.int how)),some (.val (.int spot)),some (.own (.lst (L.map .int))),none]
   = .ok (.nx [some (.val (.scr ns)),some (.val (ay n ss rs rd)),some (.val (.lst (nm.map .int))),some (.own (.lst ((ss.map (·.1)).map .int))),some (.own (.lst (r2.map .int))),some (.val (.int how)),some (.val (.int spot)),some (.own (.lst (L.map .int))),none]):=by
  have t:=wy (DI (a:=5) (b:=8) (c:=9) (d:=10) (f:=ae 5) (x:=how) (ρ:=[some (.val (.scr ns)),some (.val (ay n ss rs rd)),some (.val (.lst (nm.map .int))),some (.own (.lst ((ss.map (·.1)).map .int))),some (.own (.lst (r1.map .int))),some (.val (.int how)),some (.val (.int spot)),some (.own (.lst (L.map .int))),none]) rfl) (rF (i:=7) (xs:=L) rfl)
  cases hb:(decide (how∈[(5:Int),8,9,10])&& !L.isEmpty)with
  |false=>rw[hb]at t;exact⟨r1,by omega,(rq t).trans rfl⟩
  |true=>
   rw[hb]at t
   have hne:L≠[]:=fun z=>by rw[z]at hb;simp at hb
   obtain⟨r2,h1,h2⟩:=mq (src:=7) (row:=r1) (xs:=L) (spot:=0) (fs:=f2 bD (ae 6) (fC (.int 400))) (fs':=f2 bD (ae 6) (fC (.int 8000))) (ρ:=[some (.val (.scr ns)),some (.val (ay n ss rs rd)),some (.val (.lst (nm.map .int))),some (.own (.lst ((ss.map (·.1)).map .int))),some (.own (.lst (r1.map .int))),some (.val (.int how)),some (.val (.int spot)),some (.own (.lst (L.map .int))),none]) rfl rfl (ef (g:=bD) (fa:=ae 6) (fb:=fC (.int 400)) rfl rfl (jO ⟨by decide,by decide⟩)) (ef (g:=bD) (fa:=ae 6) (fb:=fC (.int 8000)) rfl rfl (jO ⟨by decide,by decide⟩)) hne (by omega)
   exact⟨r2,by omega,(wg t).trans h2⟩
 obtain⟨r2,l2,s7⟩:=s7
 have s8:∃(r3:List Int) (y:Option Slot),r3.length<=13/\dN (fT (f2 (cQ false) (ae 5) (gI (aa (fC (.int 6)) (aa (fC (.int 7)) (aa (fC (.int 9)) (aa (fC (.int 10)) (aj))))))))
  (aH (gq 8 (bZ ["_law_script","_law_case_here","_law_named","_law_there","_law_row","_law_how","_law_spot","_law_loose_here","_law_others"] [(".0", .local),("_law_number", .local),("_law_there", .free)] (cH (f2 b_ (et (aa (f1 n_ (fC (.int 1))) (aa (fC (.int 62)) (aj)))) (cO (aa (f2 qP (fC (.int 10)) (fC (.int 20))) (aj))))) (gN 1) (fT (f2 (cQ true) (ae 1) (ae 2))) (ar 1)))
  (lY 4 (f2 bM (f2 bD (ae 6) (fC (.int 200000))) (f2 b_ (cI cJ (aa (ae 4) (aj))) (fC (.int 1)))) (f2 bv (ae 8) (f2 bM (f2 bD (ae 6) (fC (.int 4000000))) (cI cJ (aa (ae 8) (aj)))))))
  (bc) [some (.val (.scr ns)),some (.val (ay n ss rs rd)),some (.val (.lst (nm.map .int))),some (.own (.lst ((ss.map (·.1)).map .int))),some (.own (.lst (r2.map .int))),some (.val (.int how)),some (.val (.int spot)),some (.own (.lst (L.map .int))),none]
   = .ok (.nx [some (.val (.scr ns)),some (.val (ay n ss rs rd)),some (.val (.lst (nm.map .int))),some (.own (.lst ((ss.map (·.1)).map .int))),some (.own (.lst (r3.map .int))),some (.val (.int how)),some (.val (.int spot)),some (.own (.lst (L.map .int))),y]):=by
  have t:=DI (a:=6) (b:=7) (c:=9) (d:=10) (f:=ae 5) (x:=how) (ρ:=[some (.val (.scr ns)),some (.val (ay n ss rs rd)),some (.val (.lst (nm.map .int))),some (.own (.lst ((ss.map (·.1)).map .int))),some (.own (.lst (r2.map .int))),some (.val (.int how)),some (.val (.int spot)),some (.own (.lst (L.map .int))),none]) rfl
  cases hb:decide (how∈[(6:Int),7,9,10])with
  |false=>rw[hb]at t;exact⟨r2,none,by omega,(rq t).trans rfl⟩
  |true=>
   rw[hb]at t
   have p1:qP (.int 10) (.int 20)=some (.int (10 ^20)):=xN ⟨by decide,by decide,by decide⟩
   have lm1:(1:Nat)<=lim:=by decide
   have hks:cH (f2 b_ (et (aa (f1 n_ (fC (.int 1))) (aa (fC (.int 62)) (aj)))) (cO (aa (f2 qP (fC (.int 10)) (fC (.int 20))) (aj)))) [some (.val (.scr ns)),some (.val (ay n ss rs rd)),some (.val (.lst (nm.map .int))),some (.own (.lst ((ss.map (·.1)).map .int))),some (.own (.lst (r2.map .int))),some (.val (.int how)),some (.val (.int spot)),some (.own (.lst (L.map .int))),none]= .ok ((dB (-1) 62++[10 ^20]).map .int):=by
    have e0:et (aa (f1 n_ (fC (.int 1))) (aa (fC (.int 62)) (aj))) [some (.val (.scr ns)),some (.val (ay n ss rs rd)),some (.val (.lst (nm.map .int))),some (.own (.lst ((ss.map (·.1)).map .int))),some (.own (.lst (r2.map .int))),some (.val (.int how)),some (.val (.int spot)),some (.own (.lst (L.map .int))),none]= .ok (.lst ((dB (-1) 62).map .int)):=by
     unfold et
     simp! []
     rw[if_pos (by decide)]
    have e1:cO (aa (f2 qP (fC (.int 10)) (fC (.int 20))) (aj)) [some (.val (.scr ns)),some (.val (ay n ss rs rd)),some (.val (.lst (nm.map .int))),some (.own (.lst ((ss.map (·.1)).map .int))),some (.own (.lst (r2.map .int))),some (.val (.int how)),some (.val (.int spot)),some (.own (.lst (L.map .int))),none]= .ok (.lst [.int (10 ^20)]):=by
     simp! [p1,lm1]
    have e2:=ef e0 e1 (AF (by show ((dB (-1) 62).map D.int).length+1<=lim;rw[List.length_map];decide))
    unfold cH
    rw[e2,List.map_append]
    rfl
   have so:=own_of (i:=8) (cR (N:=["_law_script","_law_case_here","_law_named","_law_there","_law_row","_law_how","_law_spot","_law_loose_here","_law_others"]) (names:=[(".0", .local),("_law_number", .local),("_law_there", .free)]) (g:=gN 1) hks (by rw[List.length_map];decide) (τ:=[none,none,some (.bor (.lst ((ss.map (·.1)).map .int)))]) rfl
    (fS (gt:=fT (f2 (cQ true) (ae 1) (ae 2))) (fe:=ar 1) (f:=D.int) (e:=D.int) (p:=fun k=> !decide (k∈ss.map (·.1))) (dB (-1) 62++[10 ^20]) (fun k _=>iw (ef (g:=cQ true) (fa:=ae 1) (fb:=ae 2) rfl rfl fA)) (fun k _ _=>rfl) none))
   have hne:((dB (-1) 62++[10 ^20]).filter fun k:Int=> !decide (k∈(ss.map (fun r:eC=>r.1):List Int)))≠[]:=fun z=>by
    have:(10 ^20:Int)∈(dB (-1) 62++[10 ^20]).filter fun k:Int=> !decide (k∈(ss.map (fun r:eC=>r.1):List Int)):=List.mem_filter.mpr ⟨by simp,by
     rw[Bool.not_eq_true',decide_eq_false_iff_not]
     intro y
     obtain⟨r,hr,e⟩:=List.mem_map.mp y
     have:=(c.good.num r hr).2
     rw[e]at this
     exact absurd this (by decide)⟩
    rw[z]at this
    cases this
   generalize (dB (-1) 62++[10 ^20]).filter (fun k:Int=> !decide (k∈(ss.map (fun r:eC=>r.1):List Int)))=O at so hne
   obtain⟨r3,h1,h2⟩:=mq (src:=8) (row:=r2) (xs:=O) (spot:=0) (fs:=f2 bD (ae 6) (fC (.int 200000))) (fs':=f2 bD (ae 6) (fC (.int 4000000))) (ρ:=[some (.val (.scr ns)),some (.val (ay n ss rs rd)),some (.val (.lst (nm.map .int))),some (.own (.lst ((ss.map (·.1)).map .int))),some (.own (.lst (r2.map .int))),some (.val (.int how)),some (.val (.int spot)),some (.own (.lst (L.map .int))),some (.own (.lst (O.map .int)))]) rfl rfl (ef (g:=bD) (fa:=ae 6) (fb:=fC (.int 200000)) rfl rfl (jO ⟨by decide,by decide⟩)) (ef (g:=bD) (fa:=ae 6) (fb:=fC (.int 4000000)) rfl rfl (jO ⟨by decide,by decide⟩)) hne (by omega)
   exact⟨r3,_,by omega,(wg t).trans ((av so).trans h2)⟩
 obtain⟨r3,y,l3,s8⟩:=s8
 refine⟨r3,l3,bd rfl ?_⟩
 show gi [some (.val (.scr ns)),some (.val (ay n ss rs rd)),some (.val (.lst (nm.map .int))),none,none,none,none,none,none]=_
 unfold gi
 rw[av s1,av s2,av s3,av s4,av s5,av s6,av s7,av s8]
 rfl
end
noncomputable def ix (c:Int) (b:Bool) (size r k:Int):Int:=if b then ((c+7919*k+1)*48271%2147483647+k)*69621%2147483647%size else r%size
noncomputable def lc (b:Bool) (size r:Int):Int:=if b then r else r / size
theorem uc {c:Int} {b:Bool} {size r k:Int} (hs:0<size):0<=ix c b size r k/\ix c b size r k<size:=by
 unfold ix
 split<;>exact⟨Int.emod_nonneg _ (by omega),Int.emod_lt_of_pos _ hs⟩
theorem ud {c size k r:Int} {b:Bool} {n:D} {acc:List D} {x7:Option Slot} (hs:0<size) (hs2:size<1073741824) (hlim:acc.length<lim):
  ∃y7,cK [some (.val (.int c)),some (.val (.bl b)),some (.val n),some (.val (.int size)),some (.own (.lst acc)),some (.val (.int r)),some (.val (.int k)),x7]
   = .ok (.nx [some (.val (.int c)),some (.val (.bl b)),some (.val n),some (.val (.int size)),some (.own (.lst (acc++[.int (ix c b size r k)]))),some (.val (.int (lc b size r))),some (.val (.int k)),y7]):=by
 cases b with
 |true=>
  refine⟨some (.val (.int ((c+7919*k+1)*48271%2147483647))),?_⟩
  simp only[gN,cK,dN,eU,fW,aH,aT,kN,f2,ae,fC,ax,cN,List.set_cons_zero,List.set_cons_succ,List.getElem?_cons_zero,List.getElem?_cons_succ,Slot.data,if_true,
     o6 (show Int.natAbs 48271<18446744073709551616 by decide),o6 (show Int.natAbs 69621<18446744073709551616 by decide),vm (show Int.natAbs 7919<18446744073709551616 by decide),
     qV,aN (show (0:Int)<2147483647 by decide),aN hs,hlim,ix,lc]
 |false=>
  refine⟨x7,?_⟩
  simp only[gN,cK,dN,eU,fW,aH,aT,kN,f2,ae,fC,ax,cN,List.set_cons_zero,List.set_cons_succ,List.getElem?_cons_zero,List.getElem?_cons_succ,Slot.data,if_false,Bool.false_eq_true,if_true,
     aN hs,cq ⟨hs,hs2⟩,hlim,ix,lc]
theorem nE {c size:Int} {b:Bool} {n:D} (hs:0<size) (hs2:size<1073741824):∀(ks:List Int) (acc:List D) (r:Int) (x6 x7:Option Slot),acc.length+ks.length<=1000->
  ∃(xs:List Int) (r':Int) (y6 y7:Option Slot),cU (gN 6) cK (ks.map .int) [some (.val (.int c)),some (.val (.bl b)),some (.val n),some (.val (.int size)),some (.own (.lst acc)),some (.val (.int r)),x6,x7]
   = .ok (.nx [some (.val (.int c)),some (.val (.bl b)),some (.val n),some (.val (.int size)),some (.own (.lst (acc++xs.map .int))),some (.val (.int r')),y6,y7])/\xs.length=ks.length/\∀x∈xs,0<=x/\x<size
 |[],acc,r,x6,x7,_=>⟨[],r,x6,x7,by simp[cU],rfl,by simp⟩
 |k::ks,acc,r,x6,x7,hl=>by
  have hlim:acc.length<lim:=by simp only[List.length_cons]at hl;unfold lim;omega
  obtain⟨z7,es⟩:=ud (c:=c) (k:=k) (r:=r) (b:=b) (n:=n) (x7:=x7) hs hs2 hlim
  obtain⟨xs,r',y6,y7,e,h1,h2⟩:=nE (c:=c) (b:=b) (n:=n) hs hs2 ks (acc++[.int (ix c b size r k)]) (lc b size r) (some (.val (.int k))) z7 (by simp only[List.length_append,List.length_cons,List.length_nil]at hl ⊢;omega)
  refine⟨ix c b size r k::xs,r',y6,y7,?_,by simp[h1],fun x hx=> ?_⟩
  ·rw[List.map_cons,iF rfl es,e]
   simp
  ·rcases List.mem_cons.mp hx with rfl|hx
   ·exact uc hs
   ·exact h2 x hx
theorem ue (c:Int) (b:Bool) (n:Nat) (size:Int) (hn:n<=1000) (hs:0<size) (hs2:size<1073741824):∃xs:List Int,dv [.int c, .bl b, .int (n:Int), .int size]= .ok (.lst (xs.map .int))/\xs.length=n/\∀x∈xs,0<=x/\x<size:=by
 obtain⟨xs,r',y6,y7,e,h1,h2⟩:=nE (c:=c) (b:=b) (n:= .int (n:Int)) hs hs2 ((List.range n).map fun k:Nat=>(k:Int)) [] c none none (by simp;omega)
 refine⟨xs,?_,by simpa using h1,h2⟩
 rw[List.map_map]at e
 refine bd rfl ?_
 show f_ [some (.val (.int c)),some (.val (.bl b)),some (.val (.int (n:Int))),some (.val (.int size)),none,none,none,none]=_
 have e2:cU (gN 6) cK ((List.range n).map fun k:Nat=>D.int (k:Int)) [some (.val (.int c)),some (.val (.bl b)),some (.val (.int (n:Int))),some (.val (.int size)),some (.own (.lst [])),some (.val (.int c)),none,none]=_:=e
 simp only[f_,aH,hZ,aT,gN,i5,j_,bN,ar,aj,List.length_nil,if_true,ax,
  List.set_cons_zero,List.set_cons_succ,List.getElem?_cons_zero,List.getElem?_cons_succ,Nat.zero_le]
 rw[gx (n:=n) (by simp only[aa,aj,ar,ax,List.getElem?_cons_zero,List.getElem?_cons_succ]) (by unfold lim;omega),ax,e2]
 simp only[ax,frz,frz1,List.foldl,List.set_cons_zero,List.set_cons_succ,List.getElem?_cons_zero,List.getElem?_cons_succ,List.nil_append]
theorem Bb (ns:List Int):aq [.scr ns, .int 49]= .ok (.int (cl ns 49)):=cM ns 49
theorem wz (ns:List Int):aq [.scr ns, .int 52]= .ok (.int (cl ns 52)):=cM ns 52
theorem wA (b:Bool):aZ [.bl b, .bl b]= .ok (.bl true):=ir (Nat.zero_le _) (.bl 0 b)
theorem wB (rd:List (Int×Int)):aV rd (rd.map (·.1))=[]:=by
 unfold aV
 rw[List.filter_eq_nil_iff]
 intro p hp
 simp only[decide_eq_true_eq,Classical.not_not]
 exact List.mem_map_of_mem hp
section
variable {n:Nat} {ss:List eC} {rs:List Int} {rd:List (Int×Int)}
theorem rE (c:fM n ss rs rd) {xs:List Int} (hx:xs.length=rd.length) {a0 a2:Option Slot}:∃nm:List Int,nm.length<=10/\
  bZ ["_law_script","_law_case_here","_law_day_here","_law_figures_here","_law_named","_law_row","_law_handed","_law_found","_law_word","_law_left","_law_number","_law_rest"] [(".0", .local),("_law_k", .local),("_law_case_here", .free),("_law_figures_here", .free)] (d0 (aa (cI cJ (aa (f2 bv (ae 1) (fC (.int 3))) (aj))) (aj))) (gN 1) (fT (f2 iE (f2 bv (ae 3) (ae 1)) (fC (.int 1)))) (f2 bv (f2 bv (f2 bv (ae 2) (fC (.int 3))) (ae 1)) (fC (.int 0)))
   [a0,some (.val (ay n ss rs rd)),a2,some (.val (.lst (xs.map .int))),none,none,none,none,none,none,none,none]= .ok (nm.map .int):=by
 have ten:=c.ten
 refine⟨((List.range rd.length).filter fun k=>decide (xs.getD k 0=1)).map fun k=>(rd.getD k (0,0)).1,?_,?_⟩
 ·rw[List.length_map]
  have:=List.length_filter_le (fun k=>decide (xs.getD k 0=1)) (List.range rd.length)
  rw[List.length_range]at this
  omega
 ·rw[List.map_map]
  refine cR (ds:=(List.range rd.length).map fun k:Nat=>D.int (k:Int)) (τ:=[none,none,some (.val (ay n ss rs rd)),some (.val (.lst (xs.map .int)))]) (gx (by simp! [ay,u8,List.length_map]) (by unfold lim;omega)) (by simp[lim];omega) rfl
   (fS (f:=fun k:Nat=>D.int (k:Int)) (e:=D.int∘fun k=>(rd.getD k (0,0)).1) (p:=fun k=>decide (xs.getD k 0=1)) (List.range rd.length) (fun k hk=> ?_) (fun k hk _=> ?_) none)
  ·have hk':k<(xs.map D.int).length:=by rw[List.length_map,hx];exact List.mem_range.mp hk
   have hk2:k<xs.length:=by rw[hx];exact List.mem_range.mp hk
   have e:=dD hk'
   have e2:(xs.map D.int)[k]= .int (xs.getD k 0):=by simp[hk2]
   rw[e2]at e
   simp! [e]
  ·have hk2:k<rd.length:=List.mem_range.mp hk
   have hk':k<(rd.map aF).length:=by rw[List.length_map];exact hk2
   have e:=dD hk'
   have e2:(rd.map aF)[k]= .tup [.int (rd.getD k (0,0)).1, .int (rd.getD k (0,0)).2]:=by simp[hk2,aF]
   rw[e2]at e
   simp! [ay,u8,e,dM]
   rfl
theorem wC (c:fM n ss rs rd) {a0 a3 a4 a6 a8 a9 a11 x:Option Slot} {row:List Int} {k:Int} {w:D} (hk:k∈row) (ha:∀k∈row,k∈ss.map (·.1)) (hm:∀k∈row,k∈rd.map (·.1)):
  om [a0,some (.val (ay n ss rs rd)),some (.val (aB n ss rs rd)),a3,a4,some (.val (.lst (row.map .int))),a6,some (.val (.lst [aB n ss rs (aV rd row),w])),a8,a9,some (.val (.int k)),a11]
   = .ok (.nx [a0,some (.val (ay n ss rs rd)),some (.val (aB n ss rs rd)),a3,a4,some (.val (.lst (row.map .int))),a6,some (.val (.lst [aB n ss rs (aV rd row),w])),a8,a9,some (.val (.int k)),a11]):=by
 have m1:=oF (c.left row) (ha k hk)
 have m2:=oF c (ha k hk)
 have n1:decide (k∈(aV rd row).map (·.1))=false:=by
  rw[decide_eq_false_iff_not]
  intro z
  obtain⟨p,hp,rfl⟩:=List.mem_map.mp z
  have:=(List.mem_filter.mp hp).2
  simp at this
  exact this hk
 rw[n1]at m1
 rw[decide_eq_true (hm k hk)]at m2
 have e1:=ml (m:="metered") (r:=aJ) (fo:=f2 bv (ae 7) (fC (.int 0))) (f:=ar 10) (ρ:=[a0,some (.val (ay n ss rs rd)),some (.val (aB n ss rs rd)),a3,a4,some (.val (.lst (row.map .int))),a6,some (.val (.lst [aB n ss rs (aV rd row),w])),a8,a9,some (.val (.int k)),a11]) (by simp! [dM]) rfl m1
 have e2:=ml (m:="metered") (r:=aJ) (fo:=ar 2) (f:=ar 10) (ρ:=[a0,some (.val (ay n ss rs rd)),some (.val (aB n ss rs rd)),a3,a4,some (.val (.lst (row.map .int))),a6,some (.val (.lst [aB n ss rs (aV rd row),w])),a8,a9,some (.val (.int k)),a11]) rfl rfl m2
 have q1:=wA false
 have q2:=wA true
 have d1:aM aZ 2 (aa (du "Day" "metered" 2 aJ (f2 bv (ae 7) (fC (.int 0))) (aa (ar 10) (aj))) (aa (fC (.bl false)) (aj))) [a0,some (.val (ay n ss rs rd)),some (.val (aB n ss rs rd)),a3,a4,some (.val (.lst (row.map .int))),a6,some (.val (.lst [aB n ss rs (aV rd row),w])),a8,a9,some (.val (.int k)),a11]= .ok (.bl true):=kZ (ds:=[.bl false, .bl false]) (dA (ds:=[.bl false]) e1 rfl) rfl q1
 have d2:aM aZ 2 (aa (du "Day" "metered" 2 aJ (ar 2) (aa (ar 10) (aj))) (aa (fC (.bl true)) (aj))) [a0,some (.val (ay n ss rs rd)),some (.val (aB n ss rs rd)),a3,a4,some (.val (.lst (row.map .int))),a6,some (.val (.lst [aB n ss rs (aV rd row),w])),a8,a9,some (.val (.int k)),a11]= .ok (.bl true):=kZ (ds:=[.bl true, .bl true]) (dA (ds:=[.bl true]) e2 rfl) rfl q2
 unfold om
 simp only[dN,tm,hX,eU,d1,d2,ax,fW,cN,Bool.not_true,Bool.false_eq_true,if_false,bc]
end
theorem main (ns:List Int) (_:ns.length<=63):nr [.scr ns]= .ok (.bl true):=by
 obtain⟨n,ss,rs,rd,ec,c⟩:=u6 ns
 have len:=c.len
 have ten:=c.ten
 have hd:=wj ns c
 have hk:=km c
 obtain⟨xs,hf,hxl,_⟩:=ue (cl ns 49) (decide (cel ns 0%2=1)) rd.length 2 (by omega) (by decide) (by decide)
 obtain⟨nm,hnl,hnm⟩:=rE c hxl (a0:=some (.val (.scr ns))) (a2:=some (.val (aB n ss rs rd)))
 refine bd rfl ?_
 show vU [some (.val (.scr ns)),none,none,none,none,none,none,none,none,none,none,none]=_
 unfold vU
 rw[av (ρ':=[some (.val (.scr ns)),some (.val (ay n ss rs rd)),none,none,none,none,none,none,none,none,none,none]) (by simp! [ec]),
  av (ρ':=[some (.val (.scr ns)),some (.val (ay n ss rs rd)),some (.val (aB n ss rs rd)),none,none,none,none,none,none,none,none,none]) (by simp! [hd]),
  av (ρ':=[some (.val (.scr ns)),some (.val (ay n ss rs rd)),some (.val (aB n ss rs rd)),some (.val (.lst (xs.map .int))),none,none,none,none,none,none,none,none]) (by simp! [Bb,DS,aN (show (0:Int)<2 by decide),ay,u8,List.length_map,hf]),
  av (own_of hnm)]
 have turn:∀(g':ai->R bY) (out:R bY),(∀(nm':List Int),nm'.length<=10->∀row:List Int,row.length<=13->g' [some (.val (.scr ns)),some (.val (ay n ss rs rd)),some (.val (aB n ss rs rd)),some (.val (.lst (xs.map .int))),some (.val (.lst (nm'.map .int))),some (.val (.lst (row.map .int))),none,none,none,none,none,none]=out)->
   aH (dN (fT (f2 iE (f2 bM (aM aq 2 (aa (ar 0) (aa (fC (.int 52)) (aj)))) (fC (.int 2))) (fC (.int 1)))) (aT (tE (ae 4)) (gN 4)) (bc)) (aH (j_ [4] (aT (aM cY 3 (aa (ar 0) (aa (ar 1) (aa (ar 4) (aj))))) (gN 5))) g') [some (.val (.scr ns)),some (.val (ay n ss rs rd)),some (.val (aB n ss rs rd)),some (.val (.lst (xs.map .int))),some (.own (.lst (nm.map .int))),none,none,none,none,none,none,none]=out:=by
  intro g' out hg
  by_cases h:cl ns 52%2=1
  ·obtain⟨row,hr,es⟩:=jP ns c (nm:=nm.reverse) (by rw[List.length_reverse];exact hnl)
   rw[av (ρ':=[some (.val (.scr ns)),some (.val (ay n ss rs rd)),some (.val (aB n ss rs rd)),some (.val (.lst (xs.map .int))),some (.val (.lst (nm.reverse.map .int))),none,none,none,none,none,none,none]) (by simp! [wz,aN (show (0:Int)<2 by decide),h,List.map_reverse]),
    av (ρ':=[some (.val (.scr ns)),some (.val (ay n ss rs rd)),some (.val (aB n ss rs rd)),some (.val (.lst (xs.map .int))),some (.val (.lst (nm.reverse.map .int))),some (.val (.lst (row.map .int))),none,none,none,none,none,none]) (by simp! [es])]
   exact hg nm.reverse (by rw[List.length_reverse];exact hnl) row hr
  ·obtain⟨row,hr,es⟩:=jP ns c (nm:=nm) hnl
   rw[av (ρ':=[some (.val (.scr ns)),some (.val (ay n ss rs rd)),some (.val (aB n ss rs rd)),some (.val (.lst (xs.map .int))),some (.own (.lst (nm.map .int))),none,none,none,none,none,none,none]) (by simp! [wz,aN (show (0:Int)<2 by decide),h]),
    av (ρ':=[some (.val (.scr ns)),some (.val (ay n ss rs rd)),some (.val (aB n ss rs rd)),some (.val (.lst (xs.map .int))),some (.val (.lst (nm.map .int))),some (.val (.lst (row.map .int))),none,none,none,none,none,none]) (by simp! [es])]
   exact hg nm hnl row hr
 refine turn _ _ fun nm' hn' row hr=> ?_
 clear turn hnm hf
 have hsm:=nw row (by omega)
 obtain⟨D0,D1,D2,D3⟩:=mn c (d:= .lst (row.map .int)) (row:=row) (.inl rfl) (by omega)
 obtain⟨E0,E1,E2,E3⟩:=oG (n:=n) (ss:=ss) (rs:=rs) (rd:=rd) (d:= .lst (row.map .int))
 obtain⟨U0,U1,U2,U3⟩:=wv c (row:=row) (by omega)
 refine Classical.byContradiction fun contra=> ?_
 have bad:∀w:Str,bQ [aB n ss rs rd, .lst (row.map .int)]= .ok (.lst [.non, .str w])->bJ [ay n ss rs rd, .lst (row.map .int)]= .ok (.str w)->yP (.str w) (.str "")=some (.bl true)->False:=fun w h1 h2 h3=>contra (by
  rw[av (ρ':=[some (.val (.scr ns)),some (.val (ay n ss rs rd)),some (.val (aB n ss rs rd)),some (.val (.lst (xs.map .int))),some (.val (.lst (nm'.map .int))),some (.val (.lst (row.map .int))),some (.val (.lst (row.map .int))),none,none,none,none,none]) rfl,
   av (ρ':=[some (.val (.scr ns)),some (.val (ay n ss rs rd)),some (.val (aB n ss rs rd)),some (.val (.lst (xs.map .int))),some (.val (.lst (nm'.map .int))),some (.val (.lst (row.map .int))),some (.val (.lst (row.map .int))),some (.val (.lst [.non, .str w])),none,none,none,none]) (by simp! [h1]),
   av (ρ':=[some (.val (.scr ns)),some (.val (ay n ss rs rd)),some (.val (aB n ss rs rd)),some (.val (.lst (xs.map .int))),some (.val (.lst (nm'.map .int))),some (.val (.lst (row.map .int))),some (.val (.lst (row.map .int))),some (.val (.lst [.non, .str w])),none,none,none,none]) (by simp! [hsm,hk]),
   av (ρ':=[some (.val (.scr ns)),some (.val (ay n ss rs rd)),some (.val (aB n ss rs rd)),some (.val (.lst (xs.map .int))),some (.val (.lst (nm'.map .int))),some (.val (.lst (row.map .int))),some (.val (.lst (row.map .int))),some (.val (.lst [.non, .str w])),some (.val (.str w)),none,none,none]) (by simp! [h2])]
  refine eV ?_
  have q:iE (.str w) (.str w)=some (.bl true):=by show some (D.bl (decide (w=w)))=_;simp
  simp! [h3,iu,q])
 by_cases ha:∀k∈row,k∈ss.map (·.1)
 ·by_cases hn:row.Nodup
  ·by_cases hm:∀k∈row,k∈rd.map (·.1)
   ·refine contra ?_
    have h1:=E0 _ (D3 ha hn hm)
    have h2:=U3 ha hn hm
    have cl':=c.left row
    have hk2:=km cl'
    have lt:=cl'.ten
    have q0:yP (.str "") (.str "")=some (.bl false):=rfl
    rw[av (ρ':=[some (.val (.scr ns)),some (.val (ay n ss rs rd)),some (.val (aB n ss rs rd)),some (.val (.lst (xs.map .int))),some (.val (.lst (nm'.map .int))),some (.val (.lst (row.map .int))),some (.val (.lst (row.map .int))),none,none,none,none,none]) rfl,
     av (ρ':=[some (.val (.scr ns)),some (.val (ay n ss rs rd)),some (.val (aB n ss rs rd)),some (.val (.lst (xs.map .int))),some (.val (.lst (nm'.map .int))),some (.val (.lst (row.map .int))),some (.val (.lst (row.map .int))),some (.val (.lst [aB n ss rs (aV rd row), .str ""])),none,none,none,none]) (by simp! [h1]),
     av (ρ':=[some (.val (.scr ns)),some (.val (ay n ss rs rd)),some (.val (aB n ss rs rd)),some (.val (.lst (xs.map .int))),some (.val (.lst (nm'.map .int))),some (.val (.lst (row.map .int))),some (.val (.lst (row.map .int))),some (.val (.lst [aB n ss rs (aV rd row), .str ""])),none,none,none,none]) (by simp! [hsm,hk]),
     av (ρ':=[some (.val (.scr ns)),some (.val (ay n ss rs rd)),some (.val (aB n ss rs rd)),some (.val (.lst (xs.map .int))),some (.val (.lst (nm'.map .int))),some (.val (.lst (row.map .int))),some (.val (.lst (row.map .int))),some (.val (.lst [aB n ss rs (aV rd row), .str ""])),some (.val (.str "")),none,none,none]) (by simp! [h2]),
     av (ρ':=[some (.val (.scr ns)),some (.val (ay n ss rs rd)),some (.val (aB n ss rs rd)),some (.val (.lst (xs.map .int))),some (.val (.lst (nm'.map .int))),some (.val (.lst (row.map .int))),some (.val (.lst (row.map .int))),some (.val (.lst [aB n ss rs (aV rd row), .str ""])),some (.val (.str "")),none,none,none]) (by simp! [q0,iu])]
    have sl:aT (cI d8 (aa (fL (bZ ["_law_script","_law_case_here","_law_day_here","_law_figures_here","_law_named","_law_row","_law_handed","_law_found","_law_word","_law_left","_law_number","_law_rest"] [(".0", .local),("_law_one", .local),("_law_row", .free)] (cH (f2 bv (ae 1) (fC (.int 3)))) (gN 1) (fT (f2 (cQ true) (f2 bv (ae 1) (fC (.int 0))) (ae 2))) (ar 1))) (aj))) (gN 9) [some (.val (.scr ns)),some (.val (ay n ss rs rd)),some (.val (aB n ss rs rd)),some (.val (.lst (xs.map .int))),some (.val (.lst (nm'.map .int))),some (.val (.lst (row.map .int))),some (.val (.lst (row.map .int))),some (.val (.lst [aB n ss rs (aV rd row), .str ""])),some (.val (.str "")),none,none,none]
      = .ok (.nx [some (.val (.scr ns)),some (.val (ay n ss rs rd)),some (.val (aB n ss rs rd)),some (.val (.lst (xs.map .int))),some (.val (.lst (nm'.map .int))),some (.val (.lst (row.map .int))),some (.val (.lst (row.map .int))),some (.val (.lst [aB n ss rs (aV rd row), .str ""])),some (.val (.str "")),some (.val (.tup ((aV rd row).map aF))),none,none]):=
     B4 (qY (dA (pA (cR (ds:=rd.map aF) (τ:=[none,none,some (.val (.lst (row.map .int)))]) (by simp! [ay,u8]) (by simp[lim];omega) rfl
      (fS (e:=aF) (p:=fun p:Int×Int=>decide (p.1∉row)) rd (fun p _=>by simp! [aF,dM,fA,decide_not]) (fun p _ _=>rfl) none))) rfl) rfl)
    rw[av sl]
    obtain⟨ρ',el,y10,rfl⟩:=pX (g:=gN 10) (gb:=om) (P:=fun ρ=>∃y10,ρ=[some (.val (.scr ns)),some (.val (ay n ss rs rd)),some (.val (aB n ss rs rd)),some (.val (.lst (xs.map .int))),some (.val (.lst (nm'.map .int))),some (.val (.lst (row.map .int))),some (.val (.lst (row.map .int))),some (.val (.lst [aB n ss rs (aV rd row), .str ""])),some (.val (.str "")),some (.val (.tup ((aV rd row).map aF))),y10,none]) (row.map .int) (fun d hd ρ hρ=>by
     obtain⟨k,hk',rfl⟩:=List.mem_map.mp hd
     obtain⟨y10,rfl⟩:=hρ
     exact⟨_,_,rfl,wC c hk' ha hm (x:=none),_,rfl⟩) _ ⟨none,rfl⟩
    rw[av ((o8 rfl).trans el)]
    have ck:∀ρ:ai,ρ[1]? =some (some (.val (ay n ss rs rd)))->∀(f:ai->R D) (rd':List (Int×Int)),f ρ= .ok (.tup (rd'.map aF))->gI (aa (f2 bv (ae 1) (fC (.int 0))) (aa (f2 bv (ae 1) (fC (.int 1))) (aa (f2 bv (ae 1) (fC (.int 2))) (aa f (aj))))) ρ= .ok (ay n ss rs rd'):=fun ρ h1 f rd' hf=>by
     have l4:(4:Nat)<=lim:=by decide
     simp! [h1,hf,ay,dM,iu,Cv,l4]
    have ck1:=ck [some (.val (.scr ns)),some (.val (ay n ss rs rd)),some (.val (aB n ss rs rd)),some (.val (.lst (xs.map .int))),some (.val (.lst (nm'.map .int))),some (.val (.lst (row.map .int))),some (.val (.lst (row.map .int))),some (.val (.lst [aB n ss rs (aV rd row), .str ""])),some (.val (.str "")),some (.val (.tup ((aV rd row).map aF))),y10,none] rfl (ar 9) (aV rd row) rfl
    rw[av (ρ':=[some (.val (.scr ns)),some (.val (ay n ss rs rd)),some (.val (aB n ss rs rd)),some (.val (.lst (xs.map .int))),some (.val (.lst (nm'.map .int))),some (.val (.lst (row.map .int))),some (.val (.lst (row.map .int))),some (.val (.lst [aB n ss rs (aV rd row), .str ""])),some (.val (.str "")),some (.val (.tup ((aV rd row).map aF))),y10,none]) (by
     have e:=kZ (m:=cD) (n:=2) (ds:=[aB n ss rs (aV rd row),ay n ss rs (aV rd row)]) (dA (f:=f2 bv (ae 7) (fC (.int 0))) (by simp! [dM]) (dA (fs:=aj) ck1 rfl)) rfl hk2
     simp only[dN,hX,eU,e,ax,fW,cN,Bool.not_true,Bool.false_eq_true,if_false,bc])]
    have xL:∀k∈(aV rd row).map (·.1),k∈ss.map (·.1):=fun k hk=>cl'.sub.subset hk
    have dd:=(mn cl' (d:= .tup (((aV rd row).map (·.1)).map .int)) (row:=(aV rd row).map (·.1)) (.inr rfl) (by rw[List.length_map];omega)).2.2.2 xL cl'.rnd (fun k hk=>hk)
    rw[wB]at dd
    have c0:fM n ss rs []:=⟨c.n7,c.good,c.len,c.rsl,by simp,by simp⟩
    have hk3:=km c0
    rw[av (ρ':=[some (.val (.scr ns)),some (.val (ay n ss rs rd)),some (.val (aB n ss rs rd)),some (.val (.lst (xs.map .int))),some (.val (.lst (nm'.map .int))),some (.val (.lst (row.map .int))),some (.val (.lst (row.map .int))),some (.val (.lst [aB n ss rs (aV rd row), .str ""])),some (.val (.str "")),some (.val (.tup ((aV rd row).map aF))),y10,some (.val (aB n ss rs []))]) (B4 (ml (by simp! [dM]) (qY (dA (pA (cR (ds:=(aV rd row).map aF) (τ:=[none,none]) rfl (by simp[lim];omega) rfl (la (aV rd row) none))) rfl) rfl) dd))]
    have ck2:=ck [some (.val (.scr ns)),some (.val (ay n ss rs rd)),some (.val (aB n ss rs rd)),some (.val (.lst (xs.map .int))),some (.val (.lst (nm'.map .int))),some (.val (.lst (row.map .int))),some (.val (.lst (row.map .int))),some (.val (.lst [aB n ss rs (aV rd row), .str ""])),some (.val (.str "")),some (.val (.tup ((aV rd row).map aF))),y10,some (.val (aB n ss rs []))] rfl (gI aj) [] rfl
    have e:=kZ (m:=cD) (n:=2) (ds:=[aB n ss rs [],ay n ss rs []]) (dA (f:=ar 11) rfl (dA (fs:=aj) ck2 rfl)) rfl hk3
    refine ia ?_
    unfold iO
    rw[e]
    simp! [hk]
   ·obtain⟨k,hk'⟩:=Classical.not_forall.mp hm
    obtain⟨k1,k2⟩:=Classical.not_imp.mp hk'
    obtain⟨ρ,z⟩:=D2 ha hn ⟨k,k1,k2⟩
    exact bad "NotMetered" (E3 _ z) (U2 ha hn ⟨k,k1,k2⟩) rfl
  ·obtain⟨ρ,z⟩:=D1 ha hn
   exact bad "Twice" (E2 _ z) (U1 ha hn) rfl
 ·obtain⟨k,hk'⟩:=Classical.not_forall.mp ha
  obtain⟨k1,k2⟩:=Classical.not_imp.mp hk'
  obtain⟨ρ,z⟩:=D0 ⟨k,k1,k2⟩
  exact bad "UnknownStream" (E1 _ z) (U0 ⟨k,k1,k2⟩) rfl
end My
namespace PySem.W.Fast
theorem tw10013188718692884950:True:=.intro
theorem tw10285197941957769025:True:=.intro
theorem tw10338352274129268306:True:=.intro
theorem tw10463409064520494412:True:=.intro
theorem tw10468254086284714729:True:=.intro
theorem tw10632389870614184037:True:=.intro
theorem tw11531399710942890559:True:=.intro
theorem tw11925375112294307247:True:=.intro
theorem tw12103500287344506485:True:=.intro
theorem tw12822712178204846432:True:=.intro
theorem tw1339206990853116232:True:=.intro
theorem tw13413896708841124343:True:=.intro
theorem tw13637723529181664299:True:=.intro
theorem tw13847035626770389285:True:=.intro
theorem tw13931563514781384610:True:=.intro
theorem tw14340751176763411124:True:=.intro
theorem tw14436835023929678066:True:=.intro
theorem tw15286711996969896386:True:=.intro
theorem tw15685108779765629360:True:=.intro
theorem tw15773495193180010226:True:=.intro
theorem tw16176361980341891387:True:=.intro
theorem tw16209240208978981824:True:=.intro
theorem tw16486004033157243049:True:=.intro
theorem tw1661145142781989213:True:=.intro
theorem tw1679619015110980401:True:=.intro
theorem tw16944360766444984487:True:=.intro
theorem tw18220671247922954945:True:=.intro
theorem tw18260309079023465915:True:=.intro
theorem tw2160981863074044025:True:=.intro
theorem tw3366082317663026900:True:=.intro
theorem tw3445516370497946444:True:=.intro
theorem tw351474946961412146:True:=.intro
theorem tw3579224830363704020:True:=.intro
theorem tw3584640983425442849:True:=.intro
theorem tw3771878533323134549:True:=.intro
theorem tw3787200660994995701:True:=.intro
theorem tw3927972169970738684:True:=.intro
theorem tw4060169144572003859:True:=.intro
theorem tw4636033366089467514:True:=.intro
theorem tw4703417344417006970:True:=.intro
theorem tw493184931777401746:True:=.intro
theorem tw4936003783758719936:True:=.intro
theorem tw5285882128464237435:True:=.intro
theorem tw5379567270417469112:True:=.intro
theorem tw5769560788307791342:True:=.intro
theorem tw5892880210512599673:True:=.intro
theorem tw5950697890265816545:True:=.intro
theorem tw6156087083447844689:True:=.intro
theorem tw6560967129988873103:True:=.intro
theorem tw7270104984175085921:True:=.intro
theorem tw736503596554551126:True:=.intro
theorem tw765327558045518534:True:=.intro
theorem tw7723127150399855070:True:=.intro
theorem tw8447788937204875228:True:=.intro
theorem tw8800910137969428499:True:=.intro
theorem tw8848210759573371791:True:=.intro
theorem tw9033652515328675614:True:=.intro
theorem tw9076194732516684507:True:=.intro
theorem tw9167860705869660704:True:=.intro
end PySem.W.Fast
open PySem PySem.W PyProof.Rows
set_option maxRecDepth 100000 in
set_option maxHeartbeats 0 in
theorem PySem.Challenge.cw_tankbalance_k08_doubting_holds : PySem.Challenge.rw_tankbalance_k08_doubting.Holds := by
  w_on; o_law; k_head; (case hw => w_witness2)
  k_fill
  refine My.walk (l := PySem.Challenge.rw_tankbalance_k08_doubting) rfl rfl (fun w h Y => PySem.W.kIn_of Y) My.main ?F
  case F =>
    intro w mg fa h KX G hmg
    refine' My.AT KX G hmg ?_ ?_ ?_ ?_ ?_ ?_ ?_ ?_ ?_ ?_ ?_ ?_ ?_ ?_ ?_ ?_ ?_ ?_ ?_ ?_ ?_ ?_ ?_ ?_ ?_ ?_ ?_ ?_ ?_ ?_ ?_ ?_ ?_ ?_ ?_ ?_ ?_ ?_ ?_ ?_ ?_ ?_ ?_ ?_ ?_ ?_ ?_ ?_ ?_ ?_ ?_ ?_ ?_ ?_ ?_ ?_ ?_ ?_ ?_ ?_ ?_ ?_ ?_ ?_ ?_ ?_ ?_ ?_ ?_ ?_ ?_ ?_ ?_ ?_ ?_ ?_ ?_ ?_ ?_ ?_ ?_ ?_ ?_ ?_ ?_ ?_ ?_ ?_ ?_ ?_ ?_ ?_ ?_ ?_ ?_ ?_ ?_ ?_ ?_ ?_ ?_ ?_ ?_ ?_ ?_ ?_ ?_ ?_ ?_ ?_ ?_ ?_ ?_ ?_ ?_ ?_ ?_ ?_ ?_ ?_ ?_ ?_ ?_ ?_ ?_ ?_ ?_ ?_ ?_ ?_ ?_ ?_ ?_ ?_ ?_ ?_ ?_ ?_ ?_ ?_ ?_ ?_ ?_ ?_ ?_ ?_ ?_ ?_ ?_ ?_ ?_ ?_ ?_ ?_ ?_ ?_ ?_ ?_ ?_ ?_ ?_
    all_goals try first | k_is | k_exc
