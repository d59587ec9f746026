import PyProof.Rows.All
import Wide.All
import OpenK.AllK
import Wide.FinOn
import Lean
import PyProof.EqAt
import PyProof.EqKinds
import PyProof.TupleCall
import PyProof.NeKinds
import PySem.Challenge.RW_tankbalance_k13_told
set_option Elab.async false
set_option linter.all false
set_option maxRecDepth 100000
set_option maxHeartbeats 4000000
local macro_rules | `(tactic| omega) => `(tactic| lia)
noncomputable section
namespace L2
open PySem PySem.Spec PyProof.Rows
abbrev bx:=Sum Int Str
def p9:bx->Value->Bool
 | .inl k,v=>Value.isInt k v
 | .inr x,v=>Value.isStrOf x v
def HS (w:World):bx->Int
 | .inl k=>hashInt k
 | .inr x=>hashStr w x
theorem cO:∀{k:bx} {v:Value},p9 k v=true->(∃i t,k=Sum.inl i/\v=Value.int i t)\/(∃x t,k=Sum.inr x/\v=Value.str x t)
 | .inl i,v,h=>by
  obtain⟨t,e⟩:=Value.isInt_shape (k:=i) (v:=v) h
  exact .inl ⟨i,t,rfl,e⟩
 | .inr x,v,h=>by
  obtain⟨t,e⟩:=Value.isStrOf_shape (x:=x) (v:=v) h
  exact .inr ⟨x,t,rfl,e⟩
theorem xQ (i:Int) (t:Tok):p9 (.inl i) (.int i t)=true:=by simp[p9,Value.isInt]
theorem xR (x:Str) (t:Tok):p9 (.inr x) (.str x t)=true:=by simp[p9,Value.isStrOf]
theorem Ek (a b:Int):decide ((Sum.inl a:bx)=Sum.inl b)=(a==b):=by
 by_cases e:a=b
 ·subst e;simp
 ·have h:¬(Sum.inl a:bx)=Sum.inl b:=fun q=>e (Sum.inl.inj q)
  rw[decide_eq_false h]
  exact(beq_eq_false_iff_ne.mpr e).symm
theorem El (a b:Str):decide ((Sum.inr a:bx)=Sum.inr b)=decide (a=b):=by
 by_cases e:a=b
 ·subst e;simp
 ·have h:¬(Sum.inr a:bx)=Sum.inr b:=fun q=>e (Sum.inr.inj q)
  rw[decide_eq_false h,decide_eq_false e]
theorem Em (a:Int) (b:Str):decide ((Sum.inl a:bx)=Sum.inr b)=false:=decide_eq_false (fun q=>nomatch q)
theorem En (a:Str) (b:Int):decide ((Sum.inr a:bx)=Sum.inl b)=false:=decide_eq_false (fun q=>nomatch q)
def bK (prog:Program) (w:World):PySem.KeyKind prog w bx where
 is:=p9
 hash:=HS w
 inj:=fun v a b ha hb=>by
  rcases cO ha with ⟨i,t,rfl,rfl⟩|⟨x,t,rfl,rfl⟩
  ·rcases cO hb with ⟨j,u,rfl,e⟩|⟨y,u,rfl,e⟩
   ·injection e with e1 _;rw[e1]
   ·exact nomatch e
  ·rcases cO hb with ⟨j,u,rfl,e⟩|⟨y,u,rfl,e⟩
   ·exact nomatch e
   ·injection e with e1 _;rw[e1]
 byValue:=fun k v h=>by
  rcases cO h with ⟨i,t,rfl,rfl⟩|⟨x,t,rfl,rfl⟩<;>rfl
 pyHash:=fun hv h=>by
  rcases cO hv with ⟨i,t,rfl,rfl⟩|⟨x,t,rfl,rfl⟩
  ·exact wpAny_pyHash_int h
  ·exact wpAny_pyHash_str h
 eqBool:=fun hu hv h=>by
  rcases cO hu with ⟨i,t,rfl,rfl⟩|⟨x,t,rfl,rfl⟩
  ·rcases cO hv with ⟨j,u,rfl,rfl⟩|⟨y,u,rfl,rfl⟩
   ·rw[Ek]at h;exact wpAny_eqBool_int h
   ·rw[Em]at h;exact SeqAt.EqAt.int_str i t y u _ _ _ _ h
  ·rcases cO hv with ⟨j,u,rfl,rfl⟩|⟨y,u,rfl,rfl⟩
   ·rw[En]at h;exact SeqAt.EqAt.str_int x t j u _ _ _ _ h
   ·rw[El]at h;exact wpAny_eqBool_str h
 «strs»:=fun k x t v h=>by
  rcases cO h with ⟨i,u,rfl,e⟩|⟨y,u,rfl,e⟩
  ·exact nomatch e
  ·injection e with e1 _
   subst e1
   cases v<;>rfl
theorem tV (prog:Program) (w:World) (i:Int) (t:Tok):(bK prog w).is (.inl i) (.int i t)=true:=xQ i t
theorem tW (prog:Program) (w:World) (x:Str) (t:Tok):(bK prog w).is (.inr x) (.str x t)=true:=xR x t
end L2
namespace L2
open PySem PySem.Spec PyProof.Rows
inductive V where
 |non|bl (b:Bool)|int (i:Int)|str (x:Str)|byt (b:Array UInt8)|flt (b:UInt64)|ref (a:Addr)|ty (n:String)
 deriving DecidableEq
def bJ:V->Value->Prop
 | .non,u=>u=Value.none
 | .bl b,u=>u=Value.bool b
 | .int i,u=>∃t,u=Value.int i t
 | .str x,u=>∃t,u=Value.str x t
 | .byt b,u=>∃t,u=Value.bytes b t
 | .flt b,u=>∃t,u=Value.float b t
 | .ref a,u=>u=Value.ref a
 | .ty n,u=>u=Value.type n
abbrev bg:List V->List Value->Prop:=Paired bJ
theorem bg.length {xs:List V} {us:List Value} (r:bg xs us):xs.length=us.length:=Paired.length r
theorem bg.get:∀{xs:List V} {us:List Value} {i:Nat} {x:V},bg xs us->xs[i]? =some x->∃u,us[i]? =some u/\bJ x u
 |_,_,_,_, .nil,e=>by simp at e
 |_,_,0,_, .cons r _,e=>by simp at e;subst e;exact⟨_,rfl,r⟩
 |_,_,i+1,x, .cons _ t,e=>by
  obtain⟨u,h1,h2⟩:=bg.get (i:=i) (x:=x) t (by simpa using e)
  exact⟨u,by simpa using h1,h2⟩
theorem bg.set {x:V} {u:Value} (r:bJ x u):∀{xs:List V} {us:List Value} (i:Nat),bg xs us->bg (xs.set i x) (us.set i u)
 |_,_,_, .nil=> .nil
 |_,_,0, .cons _ t=> .cons r t
 |_,_,i+1, .cons q t=> .cons q (bg.set r i t)
theorem bg.append:∀{xs ys:List V} {us ws:List Value},bg xs us->bg ys ws->bg (xs++ys) (us++ws)
 |_,_,_,_, .nil,s=>s
 |_,_,_,_, .cons r t,s=> .cons r (bg.append t s)
theorem bg.take:∀{xs:List V} {us:List Value} (n:Nat),bg xs us->bg (xs.take n) (us.take n)
 |_,_,0,_=> .nil
 |_,_,_+1, .nil=> .nil
 |_,_,n+1, .cons r t=> .cons r (bg.take n t)
theorem bg.drop:∀{xs:List V} {us:List Value} (n:Nat),bg xs us->bg (xs.drop n) (us.drop n)
 |_,_,0,r=>r
 |_,_,_+1, .nil=> .nil
 |_,_,n+1, .cons _ t=>bg.drop n t
def kE:Option V->Option Value->Prop
 |some v,some u=>bJ v u
 |none,none=>True
 |_,_=>False
def KV {κ:Type}:List (κ×V)->List (κ×Value)->Prop:=Paired fun (p:κ×V) (q:κ×Value)=>p.1=q.1/\bJ p.2 q.2
def kV:bx->V
 | .inl i=> .int i
 | .inr x=> .str x
inductive HO where
 |lst (xs:List V)
 |tup (xs:List V)
 |dK (kvs:List (bx×V))|dT (kvs:List (List bx×V))
 |set (S:Int->Bool) (n:Nat)
 |ins (C dx:Addr) (fs:List (Str×V))
 |own (x:Addr)
 |xd (fs:List (Str×V))
 |met (f x:Addr)
 |rng (lo hi:Int)
 |frz (o:Obj) (u:HO)
 |tbl (ps:Array Value)
 |ext (φ:Heap->Prop)
abbrev Hp:=Addr->Option HO
def bY (H:Hp) (a:Addr) (o:HO):Hp:=fun b=>if b=a then some o else H b
theorem aC {H:Hp} {a:Addr} {o:HO}:bY H a o a=some o:=by unfold bY;rw[if_pos rfl]
theorem aD {H:Hp} {a b:Addr} {o:HO} (h:b≠a):bY H a o b=H b:=by unfold bY;rw[if_neg h]
theorem Gc {H:Hp} {a b:Addr} {o u:HO} (h:H a=some o) (h':H b=some u) (d:o≠u):a≠b:=by
 intro e;subst e;rw[h]at h';exact d (Option.some.inj h')
theorem dg {H:Hp} {a b:Addr} {o:HO} (h:H a=some o) (h':H b=none):a≠b:=by
 intro e;subst e;rw[h]at h';cases h'
def ip (h:Heap) (a:Addr) (items:Array Value):Prop:=∃o,h.get? a=some o/\o.cls= .type "tuple"/\∃n,o.data= .seq items n/\o.dict=none
theorem ip.tup {h:Heap} {a:Addr} {items:Array Value} (x:ip h a items):IsTup h a items:=let ⟨o,ho,hc,n,hd,_⟩:=x;⟨o,ho,hc,n,hd⟩
theorem ip.lt {h:Heap} {a:Addr} {items:Array Value} (x:ip h a items):a<h.objs.size:=x.tup.lt
theorem ip.new (h:Heap) (items:Array Value):ip (h.push {cls:= .type "tuple",data:= .seq items}) h.objs.size items:=⟨_,Heap.get?_push_size _ rfl,rfl,_,rfl,rfl⟩
section
variable (P:Program) (w:World)
def cf (H:Hp) (h:Heap) (a:Addr):HO->Prop
 | .lst xs=>xs.length<=sizeLine/\∃(its:List Value) (n:Nat),bg xs its/\h.get? a=some {cls:= .type "list",data:= .seq its.toArray n}
 | .tup xs=>xs.length<=sizeLine/\∃its:List Value,bg xs its/\ip h a its.toArray
 | .dK kvs=>kvs.length<=sizeLine/\(a==sysModules)=false/\∃vs,KV kvs vs/\h.DictOf (bK P w) a vs
 | .dT kvs=>kvs.length<=sizeLine/\(a==sysModules)=false/\∃xs:List (List bx×Addr×Value),
   Paired (fun (p:List bx×V) (q:List bx×Addr×Value)=>p.1=q.1/\H q.2.1=some (.tup (p.1.map kV))/\bJ p.2 q.2.2) kvs xs/\
   ∃o es ep,h.get? a=some o/\o.ExactDict/\o.data= .dict es ep/\es.toList=xs.map (entryOfKey (tupleKind (bK P w)))/\(xs.map (·.1)).Nodup
 | .set S n=>h.SetOf (intKind P w) a S n
 | .ins C dx fs=>H dx=some (.own a)/\fs.length<=1000/\dx≠a/\h.get? a=some (PySem.W.instObj C dx)/\
   ∃mA,h.Ns1 dx mA/\(∀f,kE (fs.lookup f) (mA f))/\PySem.Within mA (fs.map (·.1))
 | .own _=>∃o,h.get? a=some o
 | .xd fs=>∃mA,h.Ns1 a mA/\∀f,kE (fs.lookup f) (mA f)
 | .rng lo hi=>∃t u v,h.get? a=some {cls:= .type "range",data:= .fields #[.int lo t, .int hi u, .int 1 v]}
 | .frz o u=>h.get? a=some o/\cf H h a u
 | .tbl ps=>h.get? a=some {cls:= .none,data:= .fields ps}
 | .met f x=>h.get? a=some (PySem.W.methodObj (.ref f) (.ref x))
 | .ext φ=>φ h/\(∃o,h.get? a=some o)/\∀h1 h2:Heap,φ h1->(∀o,h1.get? a=some o->h2.get? a=some o)->φ h2
def kF (H:Hp) (h:Heap):Prop:=∀a o,H a=some o->cf P w H h a o
end
section
variable {P:Program} {w:World} {H H':Hp} {h h':Heap} {a:Addr} {o:HO}
theorem cf.lt (x:cf P w H h a o):a<h.objs.size:=by
 cases o with
 |lst xs=>obtain⟨_,_,_,_,e⟩:=x;exact Heap.lt_size e
 |tup xs=>obtain⟨_,_,_,p⟩:=x;exact p.lt
 |dK kvs=>obtain⟨_,_,_,_,o,_,_,e,_⟩:=x;exact Heap.lt_size e
 |dT kvs=>obtain⟨_,_,_,_,o,_,_,e,_⟩:=x;exact Heap.lt_size e
 |set S n=>obtain⟨o,_,_,_,e,_⟩:=x;exact Heap.lt_size e
 |ins C dx fs=>obtain⟨_,_,_,e,_⟩:=x;exact Heap.lt_size e
 |own y=>obtain⟨_,e⟩:=x;exact Heap.lt_size e
 |xd fs=>obtain⟨_,⟨_,_,_,e,_⟩,_⟩:=x;exact Heap.lt_size e
 |rng lo hi=>obtain⟨_,_,_,e⟩:=x;exact Heap.lt_size e
 |frz ob u=>obtain⟨e,_⟩:=x;exact Heap.lt_size e
 |tbl ps=>exact Heap.lt_size (show h.get? a=some _ from x)
 |met f y=>exact Heap.lt_size (show h.get? a=some _ from x)
 |ext φ=>obtain⟨_,⟨_,e⟩,_⟩:=x;exact Heap.lt_size e
theorem Paired.mapP {α β:Type} {F G:α->β->Prop}:∀{l₁:List α} {l₂:List β},Paired F l₁ l₂->(∀a b,F a b->G a b)->Paired G l₁ l₂
 |_,_, .nil,_=> .nil
 |_,_, .cons r t,f=> .cons (f _ _ r) (Paired.mapP t f)
theorem cf.stay (x:cf P w H h a o) (k:∀b u,(b=a\/H b=some (.own a))->h.get? b=some u->h'.get? b=some u)
  (ho:∀b,H b=some (.own a)->H' b=some (.own a)) (ht:∀b xs,H b=some (.tup xs)->H' b=some (.tup xs)):cf P w H' h' a o:=by
 induction o with
 |lst xs=>obtain⟨z,its,n,r,e⟩:=x;exact⟨z,its,n,r,k _ _ (.inl rfl) e⟩
 |tup xs=>obtain⟨z,its,r,ob,e,c⟩:=x;exact⟨z,its,r,ob,k _ _ (.inl rfl) e,c⟩
 |dK kvs=>obtain⟨z,y,vs,r,ob,es,ep,e,c⟩:=x;exact⟨z,y,vs,r,ob,es,ep,k _ _ (.inl rfl) e,c⟩
 |dT kvs=>
  obtain⟨z,y,xs,r,ob,es,ep,e,c⟩:=x
  exact⟨z,y,xs,Paired.mapP r fun p q z=>⟨z.1,ht _ _ z.2.1,z.2.2⟩,ob,es,ep,k _ _ (.inl rfl) e,c⟩
 |set S n=>obtain⟨ob,es,ep,t,e,c⟩:=x;exact⟨ob,es,ep,t,k _ _ (.inl rfl) e,c⟩
 |ins C dx fs=>
  obtain⟨d,z,ne,e,mA,⟨od,es,ep,e2,c⟩,r⟩:=x
  exact⟨ho _ d,z,ne,k _ _ (.inl rfl) e,mA,⟨od,es,ep,k _ _ (.inr d) e2,c⟩,r⟩
 |own y=>obtain⟨ob,e⟩:=x;exact⟨ob,k _ _ (.inl rfl) e⟩
 |xd fs=>obtain⟨mA,⟨od,es,ep,e,c⟩,r⟩:=x;exact⟨mA,⟨od,es,ep,k _ _ (.inl rfl) e,c⟩,r⟩
 |rng lo hi=>obtain⟨t,u,v,e⟩:=x;exact⟨t,u,v,k _ _ (.inl rfl) e⟩
 |frz ob u ih=>obtain⟨e,q⟩:=x;exact⟨k _ _ (.inl rfl) e,ih q⟩
 |tbl ps=>
  have e:h.get? a=some {cls:= .none,data:= .fields ps}:=x
  show h'.get? a=some {cls:= .none,data:= .fields ps}
  exact k a _ (.inl rfl) e
 |met f y=>
  have e:h.get? a=some (PySem.W.methodObj (.ref f) (.ref y)):=x
  show h'.get? a=some (PySem.W.methodObj (.ref f) (.ref y))
  exact k a _ (.inl rfl) e
 |ext φ=>obtain⟨p,⟨o,e⟩,st⟩:=x;exact⟨st _ _ p fun o q=>k _ _ (.inl rfl) q,⟨o,k _ _ (.inl rfl) e⟩,st⟩
theorem kF.lt (x:kF P w H h) (e:H a=some o):a<h.objs.size:=(x a o e).lt
theorem kF.fresh (x:kF P w H h) (e:h.objs.size<=a):H a=none:=by
 cases q:H a with
 |none=>rfl
 |some u=>exact absurd (Nat.lt_of_lt_of_le (x.lt q) e) (Nat.lt_irrefl _)
theorem kF.kept (x:kF P w H h) (k:∀b u,h.get? b=some u->h'.get? b=some u):kF P w H h':=fun a o e=>
 (x a o e).stay (fun b u _ q=>k b u q) (fun _ q=>q) fun _ _ q=>q
theorem kF.laid (x:kF P w H h) (k:∀b u,h.get? b=some u->h'.get? b=some u) (hp:h.objs.size<=a) (new:cf P w (bY H a o) h' a o):kF P w (bY H a o) h':=fun b u e=>by
 have hn:=x.fresh hp
 by_cases hb:b=a
 ·subst hb;rw[aC]at e;cases e;exact new
 ·rw[aD hb]at e
  exact(x b u e).stay (fun c v _ q=>k c v q) (fun c q=>by rw[aD (dg q hn)];exact q) fun c xs q=>by rw[aD (dg q hn)];exact q
end
def Rd (H:Hp) (a:Addr) (u:HO):Prop:=H a=some u\/∃o,H a=some (.frz o u)
theorem Rd.ok {P:Program} {w:World} {H:Hp} {h:Heap} {a:Addr} {u:HO} (r:Rd H a u) (x:kF P w H h):cf P w H h a u:=by
 rcases r with r|⟨o,r⟩
 ·exact x a u r
 ·obtain⟨_,q⟩:=x a _ r
  exact q
def Gd:Option HO->Prop
 |some (.lst _)=>True
 |some (.dK _)=>True
 |some (.dT _)=>True
 |some (.set _ _)=>True
 |some (.ins _ _ _)=>True
 |some (.ext _)=>True
 |_=>False
section
variable {P:Program} {w:World} {H:Hp} {h h':Heap} {x e:Addr} {o':HO}
theorem kF.write (ok:kF P w H h) (mu:Gd (H x)) (he:e=x\/H e=some (.own x)) (k:∀b u,b≠e->h.get? b=some u->h'.get? b=some u) (heo:∃u,h'.get? e=some u)
  (new:cf P w (bY H x o') h' x o'):kF P w (bY H x o') h':=fun b u q=>by
 have nown:∀c y,H c=some (.own y)->c≠x:=fun c y r z=>by subst z;rw[r]at mu;exact mu
 have ntup:∀c xs,H c=some (.tup xs)->c≠x:=fun c xs r z=>by subst z;rw[r]at mu;exact mu
 by_cases hb:b=x
 ·subst hb;rw[aC]at q;cases q;exact new
 ·rw[aD hb]at q
  by_cases hbe:b=e
  ·have q':H b=some (.own x):=by
    rcases he with z|z
    ·exact absurd (hbe.trans z) hb
    ·rw[hbe];exact z
   rw[q]at q';cases q'
   obtain⟨v,hv⟩:=heo
   exact⟨v,by rw[hbe];exact hv⟩
  ·refine(ok b u q).stay (fun c v hc r=>k c v ?_ r) (fun c r=>by rw[aD (nown c b r)];exact r) fun c xs r=>by rw[aD (ntup c xs r)];exact r
   rcases hc with rfl|hc
   ·exact hbe
   ·rintro rfl
    rcases he with z|z
    ·exact nown c b hc z
    ·rw[hc]at z;cases z;exact hb rfl
end
structure Un (fs ex:List Addr) (H H':Hp) (h h':Heap):Prop where
 keep:∀b o,h.get? b=some o->H b=none->b∉fs->b∉ex->h'.get? b=some o
 slot:∀b o,h.get? b=some o->H b=none->b∈fs->b∉ex->∃sl,h'.get? b=some {o with slots:=sl}
 free:∀b o,h.get? b=some o->H b=none->b∉ex->H' b=none
 there:∀b o,h.get? b=some o->b∉ex->∃o',h'.get? b=some o'
 tups:∀b xs,H b=some (.tup xs)->H' b=some (.tup xs)
 frzs:∀b o u,H b=some (.frz o u)->H' b=some (.frz o u)
 tbls:∀b ps,H b=some (.tbl ps)->∃more,H' b=some (.tbl (ps++more))
section
variable {fs fs' ex ex':List Addr} {H H1 H2:Hp} {h h1 h2 h':Heap} {a x e:Addr} {o:HO}
theorem Un.any (u:Un fs ex H H1 h h1) {b:Addr} {ob:Obj} (q:h.get? b=some ob) (n:H b=none) (hx:b∉ex):∃sl,h1.get? b=some {ob with slots:=sl}:=by
 by_cases hb:b∈fs
 ·exact u.slot b ob q n hb hx
 ·exact⟨ob.slots,u.keep b ob q n hb hx⟩
theorem Un.trans (a:Un fs ex H H1 h h1) (b:Un fs ex H1 H2 h1 h2):Un fs ex H H2 h h2 where
 keep:=fun c ob q n hc hx=>b.keep c ob (a.keep c ob q n hc hx) (a.free c ob q n hx) hc hx
 slot:=fun c ob q n hc hx=>by
  obtain⟨sl,e1⟩:=a.slot c ob q n hc hx
  obtain⟨sl',e2⟩:=b.slot c _ e1 (a.free c ob q n hx) hc hx
  exact⟨sl',e2⟩
 free:=fun c ob q n hx=>by
  obtain⟨o',e1⟩:=a.there c ob q hx
  exact b.free c o' e1 (a.free c ob q n hx) hx
 there:=fun c ob q hx=>by
  obtain⟨o',e1⟩:=a.there c ob q hx
  exact b.there c o' e1 hx
 tups:=fun c xs q=>b.tups c xs (a.tups c xs q)
 frzs:=fun c ob xs q=>b.frzs c ob xs (a.frzs c ob xs q)
 tbls:=fun c ps q=>by
  obtain⟨m1,e1⟩:=a.tbls c ps q
  obtain⟨m2,e2⟩:=b.tbls c _ e1
  exact⟨m1++m2,by rw[e2,Array.append_assoc]⟩
theorem Un.kept (k:∀b u,h.get? b=some u->h'.get? b=some u):Un fs ex H H h h':=
 ⟨fun b ob q _ _ _=>k b ob q,fun b ob q _ _ _=>⟨ob.slots,k b ob q⟩,fun _ _ _ n _=>n,fun b ob q _=>⟨ob,k b ob q⟩,fun _ _ q=>q,fun _ _ _ q=>q,fun _ ps q=>⟨#[],by rw[q];simp⟩⟩
theorem Un.refl:Un fs ex H H h h:=Un.kept fun _ _ q=>q
theorem Un.laid (k:∀b u,h.get? b=some u->h'.get? b=some u) (hp:h.objs.size<=a) (hn:H a=none):Un fs ex H (bY H a o) h h' where
 keep:=fun b u q _ _ _=>k b u q
 slot:=fun b u q _ _ _=>⟨u.slots,k b u q⟩
 free:=fun b u q n _=>by rw[aD (Nat.ne_of_lt (Nat.lt_of_lt_of_le (Heap.lt_size q) hp))];exact n
 there:=fun b u q _=>⟨u,k b u q⟩
 tups:=fun b xs q=>by rw[aD (dg q hn)];exact q
 frzs:=fun b u xs q=>by rw[aD (dg q hn)];exact q
 tbls:=fun b ps q=>⟨#[],by rw[aD (dg q hn),q];simp⟩
theorem Un.write (mu:Gd (H x)) (he:e=x\/H e=some (.own x)) (k:∀b u,b≠e->h.get? b=some u->h'.get? b=some u) (heo:∃u,h'.get? e=some u):Un fs ex H (bY H x o) h h':=by
 have hx:∀b,H b=none->b≠x:=fun b n z=>by subst z;rw[n]at mu;exact mu
 have hb:∀b,H b=none->b≠e:=fun b n z=>by
  subst z
  rcases he with r|r
  ·exact hx b n r
  ·rw[n]at r;cases r
 have hm:∀b u,H b=some u->¬Gd (some u)->b≠x:=fun b u q nm z=>by subst z;rw[q]at mu;exact nm mu
 refine⟨fun b u q n _ _=>k b u (hb b n) q,fun b u q n _ _=>⟨u.slots,k b u (hb b n) q⟩,fun b u q n _=>by rw[aD (hx b n)];exact n,fun b u q _=> ?_,
  fun b xs q=>by rw[aD (hm b _ q fun z=>z)];exact q,fun b u xs q=>by rw[aD (hm b _ q fun z=>z)];exact q,fun b ps q=>⟨#[],by rw[aD (hm b _ q fun z=>z),q];simp⟩⟩
 by_cases hbe:b=e
 ·subst hbe;exact heo
 ·exact⟨u,k b u hbe q⟩
end
def HD (h:Heap) (H:Hp):List Addr:=(List.range h.objs.size).filter fun a=>(H a).isSome
def sk (h:Heap) (H:Hp):Heap:=PySem.W.hideAll h (HD h H)
theorem xS (h:Heap) (H:Hp):(sk h H).objs.size=h.objs.size:=PySem.W.hideAll_size _ _
theorem zn {h:Heap} {H:Hp} {b:Addr} {o:Obj} (e:h.get? b=some o) (n:H b=none):(sk h H).get? b=some o:=
 PySem.W.hideAll_get _ e fun hm=>by
  have q:(H b).isSome=true:=(List.mem_filter.mp hm).2
  rw[n]at q;simp at q
theorem C1 {h:Heap} {H:Hp} {b:Addr} {o:Obj} (e:(sk h H).get? b=some o):h.get? b=some o/\H b=none:=by
 have e':h.get? b=some o:=PySem.W.of_hideAll (HD h H) e
 refine⟨e',?_⟩
 cases q:H b with
 |none=>rfl
 |some x=>
  have hm:b∈HD h H:=List.mem_filter.mpr ⟨List.mem_range.mpr (Heap.lt_size e'),by simp[q]⟩
  have z:(sk h H).get? b=none:=PySem.W.hideAll_none (HD h H) hm
  rw[z]at e;cases e
end L2
namespace L2
open PySem PySem.Spec PyProof.Rows
structure Mod (K:PySem.W.Frag) (mg:Str->Option Value) (base:Heap):Prop where
 kin:K.In base
 glob:base.Ns mainGlobals mg
 blt:∃mb,base.Ns builtinsNs mb/\∀x:Str,x≠"__name__"->mb x=bootBuiltins x
 nolimit:base.NoLimit
structure Cx where
 prog:Program
 w:World
 K:PySem.W.Frag
 mg:Str->Option Value
 base:Heap
 A:Around
 N:List Str
 s₀:Shared
 H₀:Hp
 env:Env
 outer:List Env
 stack:List Env
 ex:List Addr
 fn:Str->Bool
 calm:Bool
 pn:List (Addr×Obj)
 xe:Value->Shared->Prop
def oV (l:List Env):List Addr:=l.filterMap (·.frame)
abbrev Cx.fs (X:Cx):List Addr:=oV X.outer
def wL (sc:Scope) (x:Str):Prop:=sc.names.lookup x=some .local\/sc.names.lookup x=some .cell\/sc.names.lookup x=some .free
def xT (sc:Scope) (x:Str):Prop:=sc.names.lookup x=some .local\/sc.names.lookup x=some .cell
def HU (env:Env) (h:Heap) (m:Str->Option Value) (x:Str) (u:Value):Prop:=
 (env.kindOf x=some .local/\m x=some u)\/((env.kindOf x=some .cell\/env.kindOf x=some .free)/\∃c,env.cells.lookup x=some c/\h.IsCell c (some u))
structure Cx.Ok (X:Cx):Prop where
 mod:Mod X.K X.mg X.base
 kind:X.env.scope.kind= .function
 glob:X.env.globals=mainGlobals
 blt:X.env.builtins=builtinsNs
 above:X.s₀.heap.objs.size<=X.env.locals
 inj:∀x y c,X.env.cells.lookup x=some c->X.env.cells.lookup y=some c->x=y
 has:∀x,(X.env.kindOf x=some .cell\/X.env.kindOf x=some .free)->∃c,X.env.cells.lookup x=some c
 cab:∀x c,X.fn x=true->X.env.cells.lookup x=some c->X.s₀.heap.objs.size<=c
 hd:X.calm=true->X.A.handled=none
 frames:X.A.frames=some X.stack
 stk:X.stack=X.outer\/(X.stack=X.env::X.outer/\X.env.frame=some X.env.locals)
 exf:∀b∈X.ex,b≠X.env.locals/\∀x c,X.env.cells.lookup x=some c->c≠b
 bs:∀b o,X.base.get? b=some o->X.s₀.heap.get? b=some o/\X.H₀ b=none
 bsz:X.base.objs.size<=X.s₀.heap.objs.size
 noex:∀b o,X.base.get? b=some o->b∉X.ex
 exfs:∀b∈X.ex,b∉X.fs
 funs:X.s₀.heap.FunFrames X.base X.outer
 frf:∀b∈X.fs,X.H₀ b=none
structure aM (X:Cx) (pins:List (Addr×Obj)) (σ:List (Option V)) (H:Hp) (s:Shared):Prop where
 ok:X.Ok
 os:s.os=X.s₀.os
 bare:AllBare s.gens
 base:Un X.fs X.ex X.H₀ H X.s₀.heap s.heap
 loc:∃m,s.heap.Ns X.env.locals m/\∀(i:Nat) (x:Str) (v:V),X.N[i]? =some x->σ[i]? =some (some v)->wL X.env.scope x->∃u,bJ v u/\HU X.env s.heap m x u
 cell:∀x c,X.env.cells.lookup x=some c->∃v,s.heap.IsCell c v
 free:H X.env.locals=none
 freeC:∀x c,X.env.cells.lookup x=some c->H c=none
 pin:∀p∈X.pn++pins,s.heap.get? p.1=some p.2/\H p.1=none/\p.1≠X.env.locals/\p.1∉X.fs/\∀v,p.2.data≠ .cell v
 hok:kF X.prog X.w H s.heap
 len:σ.length=X.N.length
section
variable {X:Cx} {pins:List (Addr×Obj)} {σ:List (Option V)} {H H':Hp} {s:Shared} {h':Heap}
theorem Cx.Ok.nofr (ok:X.Ok) {b:Addr} {o:Obj} (e:X.base.get? b=some o):b∉X.fs:=fun hb=>by
 have:=(ok.funs.mem hb).1
 rw[e]at this;cases this
theorem aM.bs (I:aM X pins σ H s):∀b o,X.base.get? b=some o->s.heap.get? b=some o/\H b=none:=fun b o e=>
 ⟨I.base.keep b o (I.ok.bs b o e).1 (I.ok.bs b o e).2 (I.ok.nofr e) (I.ok.noex b o e),I.base.free b o (I.ok.bs b o e).1 (I.ok.bs b o e).2 (I.ok.noex b o e)⟩
theorem aM.bk (I:aM X pins σ H s):∀b o,X.base.get? b=some o->s.heap.get? b=some o:=fun b o e=>(I.bs b o e).1
theorem aM.mod (I:aM X pins σ H s):Mod X.K X.mg X.base:=I.ok.mod
theorem aM.kIn (I:aM X pins σ H s):X.K.In s.heap:=I.ok.mod.kin.keeps I.bk
theorem aM.lt (I:aM X pins σ H s):X.env.locals<s.heap.objs.size:=let ⟨_,hn,_⟩:=I.loc;hn.lt
theorem aM.sz (I:aM X pins σ H s):X.s₀.heap.objs.size<=s.heap.objs.size:=Nat.le_trans I.ok.above (Nat.le_of_lt I.lt)
theorem aM.nofs (I:aM X pins σ H s) {a:Addr} (h:s.heap.objs.size<=a):a∉X.fs:=fun hb=>by
 obtain⟨_,o,ho,_⟩:=I.ok.funs.mem hb
 exact absurd (Nat.lt_of_lt_of_le (Heap.lt_size ho) (Nat.le_trans I.sz h)) (Nat.lt_irrefl _)
theorem aM.cne (I:aM X pins σ H s):∀x c,X.env.cells.lookup x=some c->c≠X.env.locals:=fun x c e z=>by
 obtain⟨v,o,ho,hd⟩:=I.cell x c e
 obtain⟨m,⟨o',es,ep,ho',hd',_⟩,_⟩:=I.loc
 rw[z,ho']at ho;cases ho;rw[hd']at hd;cases hd
theorem aM.funs (I:aM X pins σ H s):s.heap.FunFrames X.base X.outer:=by
 have all:∀(l:List Env),(∀b∈oV l,b∈X.fs)->X.s₀.heap.FunFrames X.base l->s.heap.FunFrames X.base l:=by
  intro l
  induction l with
  |nil=>intro _ _;trivial
  |cons env r ih=>
   intro hs hl
   obtain⟨hk,⟨L,o,hf,hn,ho,hd⟩,hr⟩:=hl
   have hL:L∈X.fs:=hs L (by unfold oV;rw[List.filterMap_cons,hf];exact List.mem_cons_self)
   obtain⟨sl,e⟩:=I.base.slot L o ho (I.ok.frf L hL) hL fun z=>I.ok.exfs L z hL
   exact⟨hk,⟨L,_,hf,hn,e,hd⟩,ih (fun b hb=>hs b (by unfold oV;rw[List.filterMap_cons,hf];exact List.mem_cons_of_mem _ hb)) hr⟩
 exact all X.outer (fun _ hb=>hb) I.ok.funs
theorem aM.stack (I:aM X pins σ H s):s.heap.FunFrames X.base X.stack:=by
 rcases I.ok.stk with e|⟨e,hf⟩
 ·rw[e];exact I.funs
 ·rw[e]
  obtain⟨m,hn,_⟩:=I.loc
  refine .cons (by rw[I.ok.kind];decide) hf hn ?_ I.funs
  exact Heap.get?_none_of_le (Nat.le_trans I.ok.bsz I.ok.above)
theorem aM.stkSub (I:aM X pins σ H s):∀b∈oV X.stack,b∈X.env.locals::X.fs:=fun b hb=>by
 rcases I.ok.stk with e|⟨e,hf⟩
 ·rw[e]at hb;exact List.mem_cons_of_mem _ hb
 ·rw[e]at hb
  unfold oV at hb
  rw[List.filterMap_cons,hf]at hb
  exact hb
theorem aM.stkFree (I:aM X pins σ H s):∀b∈oV X.stack,H b=none:=fun b hb=>by
 rcases List.mem_cons.mp (I.stkSub b hb)with e|hb
 ·rw[e];exact I.free
 ·obtain⟨_,o,ho,_⟩:=I.ok.funs.mem hb
  exact I.base.free b o ho (I.ok.frf b hb) fun z=>I.ok.exfs b z hb
theorem aM.step {g':Array GenState} {t':Nat} {d':Drawn} {ch:List Addr} (I:aM X pins σ H s)
  (hch:∀b∈ch,(b∈X.ex\/X.s₀.heap.get? b=none)/\b≠X.env.locals/\(∀x c,X.env.cells.lookup x=some c->c≠b)/\∀p∈X.pn++pins,p.1≠b)
  (keep:∀b o,b≠X.env.locals->b∉X.fs->b∉ch->s.heap.get? b=some o->H b=none->h'.get? b=some o)
  (slot:∀b o,b≠X.env.locals->b∈X.fs->b∉ch->s.heap.get? b=some o->H b=none->∃sl,h'.get? b=some {o with slots:=sl}) (free:∀b o,b∉ch->s.heap.get? b=some o->H b=none->H' b=none)
  (there:∀b o,b∉ch->s.heap.get? b=some o->∃o',h'.get? b=some o')
  (tups:∀b xs,H b=some (.tup xs)->H' b=some (.tup xs)) (frzs:∀b o u,H b=some (.frz o u)->H' b=some (.frz o u)) (tbls:∀b ps,H b=some (.tbl ps)->∃more,H' b=some (.tbl (ps++more)))
  (ns:∀m,s.heap.Ns X.env.locals m->h'.Ns X.env.locals m) (hok:kF X.prog X.w H' h') (hg:AllBare g'):
  aM X pins σ H' {s with heap:=h',gens:=g',drawn:=d',toks:=t'}:=by
 have neL:∀b o,X.s₀.heap.get? b=some o->b≠X.env.locals:=fun b o e=>Nat.ne_of_lt (Nat.lt_of_lt_of_le (Heap.lt_size e) I.ok.above)
 have neC:∀b o,X.s₀.heap.get? b=some o->b∉X.ex->b∉ch:=fun b o e hx hb=>by
  rcases(hch b hb).1 with z|z
  ·exact hx z
  ·rw[e]at z;cases z
 have cellK:∀x c,X.env.cells.lookup x=some c->∀v,s.heap.IsCell c v->h'.IsCell c v:=fun x c e v ⟨o,ho,hd⟩=>by
  have nch:c∉ch:=fun z=>(hch c z).2.2.1 x c e rfl
  by_cases hc:c∈X.fs
  ·obtain⟨sl,q⟩:=slot c o (I.cne x c e) hc nch ho (I.freeC x c e)
   exact⟨_,q,hd⟩
  ·exact⟨o,keep c o (I.cne x c e) hc nch ho (I.freeC x c e),hd⟩
 refine⟨I.ok,I.os,hg,⟨fun b o e n hb hx=> ?_,fun b o e n hb hx=> ?_,fun b o e n hx=> ?_,fun b o e hx=> ?_,fun b xs e=>tups b xs (I.base.tups b xs e),fun b o xs e=>frzs b o xs (I.base.frzs b o xs e),fun b ps e=> ?_⟩,?_,fun x c e=> ?_,?_,fun x c e=> ?_,fun p hp=> ?_,hok,I.len⟩
 ·exact keep b o (neL b o e) hb (neC b o e hx) (I.base.keep b o e n hb hx) (I.base.free b o e n hx)
 ·obtain⟨sl,e1⟩:=I.base.slot b o e n hb hx
  obtain⟨sl',e2⟩:=slot b _ (neL b o e) hb (neC b o e hx) e1 (I.base.free b o e n hx)
  exact⟨sl',e2⟩
 ·obtain⟨o',e1⟩:=I.base.there b o e hx
  exact free b o' (neC b o e hx) e1 (I.base.free b o e n hx)
 ·obtain⟨o',e1⟩:=I.base.there b o e hx
  exact there b o' (neC b o e hx) e1
 ·obtain⟨m1,e1⟩:=I.base.tbls b ps e
  obtain⟨m2,e2⟩:=tbls b _ e1
  exact⟨m1++m2,by rw[e2,Array.append_assoc]⟩
 ·obtain⟨m,hn,hl⟩:=I.loc
  refine⟨m,ns m hn,fun i x v e1 e2 e3=> ?_⟩
  obtain⟨u,r,l⟩:=hl i x v e1 e2 e3
  refine⟨u,r,?_⟩
  rcases l with l|⟨k,c,e,z⟩
  ·exact .inl l
  ·exact .inr ⟨k,c,e,cellK x c e _ z⟩
 ·obtain⟨v,z⟩:=I.cell x c e
  exact⟨v,cellK x c e v z⟩
 ·obtain⟨m,⟨o,_,_,ho,_⟩,_⟩:=I.loc
  exact free _ o (fun z=>(hch _ z).2.1 rfl) ho I.free
 ·obtain⟨v,o,ho,hd⟩:=I.cell x c e
  exact free c o (fun z=>(hch c z).2.2.1 x c e rfl) ho (I.freeC x c e)
 ·obtain⟨e,n,ne,nf,d⟩:=I.pin p hp
  have nch:p.1∉ch:=fun z=>(hch p.1 z).2.2.2 p hp rfl
  exact⟨keep p.1 p.2 ne nf nch e n,free p.1 p.2 nch e n,ne,nf,d⟩
theorem aM.un {t':Nat} (I:aM X pins σ H s) (u:Un X.fs [] H H' s.heap h') (hok:kF X.prog X.w H' h'):aM X pins σ H' {s with heap:=h',toks:=t'}:=by
 obtain⟨m,⟨o,es,ep,ho,r⟩,_⟩:=id I.loc
 obtain⟨sl,hL⟩:=u.any ho I.free (by simp)
 exact I.step (g':=s.gens) (d':=s.drawn) (ch:=[]) (fun _ z=>nomatch z) (fun b o _ hb _ e n=>u.keep b o e n hb (by simp)) (fun b o _ hb _ e n=>u.slot b o e n hb (by simp)) (fun b o _ e n=>u.free b o e n (by simp)) (fun b o _ e=>u.there b o e (by simp)) u.tups u.frzs u.tbls (fun m' hm=>by
  obtain⟨o',es',ep',ho',r'⟩:=hm
  rw[ho]at ho';cases ho'
  exact⟨_,es',ep',hL,r'⟩) hok I.bare
theorem aM.call {g':Array GenState} {t':Nat} {d':Drawn} {ch:List Addr} (I:aM X pins σ H s) (u:Un (oV X.stack) ch H H' s.heap h') (hok:kF X.prog X.w H' h') (hg:AllBare g')
  (hch:∀b∈ch,(b∈X.ex\/X.s₀.heap.objs.size<=b)/\b≠X.env.locals/\(∀x c,X.env.cells.lookup x=some c->c≠b)/\∀p∈X.pn++pins,p.1≠b):
  aM X pins σ H' {s with heap:=h',gens:=g',drawn:=d',toks:=t'}:=by
 obtain⟨m,⟨o,es,ep,ho,r⟩,_⟩:=id I.loc
 obtain⟨sl,hL⟩:=u.any ho I.free fun z=>(hch _ z).2.1 rfl
 exact I.step (ch:=ch) (fun b hb=>⟨(hch b hb).1.imp id Heap.get?_none_of_le,(hch b hb).2⟩) (fun b o hL hb hc e n=>u.keep b o e n (fun z=>(List.mem_cons.mp (I.stkSub b z)).elim hL hb) hc) (fun b o _ _ hc e n=>u.any e n hc) (fun b o hc e n=>u.free b o e n hc) (fun b o hc e=>u.there b o e hc) u.tups u.frzs u.tbls (fun m' hm=>by
  obtain⟨o',es',ep',ho',r'⟩:=hm
  rw[ho]at ho';cases ho'
  exact⟨_,es',ep',hL,r'⟩) hok hg
theorem aM.turned {t':Nat} {it:Addr} (I:aM X pins σ H s) (k:∀b o,b≠it->s.heap.get? b=some o->h'.get? b=some o) (hn:H it=none) (hL:it≠X.env.locals)
  (h1:it∈X.ex\/X.s₀.heap.objs.size<=it) (h2:∀x c,X.env.cells.lookup x=some c->c≠it) (h3:∀p∈X.pn++pins,p.1≠it):aM X pins σ H {s with heap:=h',toks:=t'}:=by
 have nit:∀b u,H b=some u->b≠it:=fun b u e z=>by rw[z,hn]at e;cases e
 refine I.step (g':=s.gens) (d':=s.drawn) (ch:=[it]) (fun b hb=> ?_) (fun b o _ _ hc e _=>k b o (fun z=>hc (by simp[z])) e) (fun b o _ _ hc e _=>⟨o.slots,k b o (fun z=>hc (by simp[z])) e⟩) (fun _ _ _ _ n=>n)
  (fun b o hc e=>⟨o,k b o (fun z=>hc (by simp[z])) e⟩) (fun _ _ e=>e) (fun _ _ _ e=>e) (fun b ps e=>⟨#[],by rw[e];simp⟩) (fun m hm=> ?_) (fun b u e=> ?_) I.bare
 ·have e:b=it:=by simpa using hb
  subst e
  exact⟨h1.imp id Heap.get?_none_of_le,hL,h2,h3⟩
 ·obtain⟨o,es,ep,ho,r⟩:=hm
  exact⟨o,es,ep,k _ o (Ne.symm hL) ho,r⟩
 ·refine(I.hok b u e).stay (fun c v hc q=>k c v ?_ q) (fun _ q=>q) fun _ _ q=>q
  rcases hc with z|z
  ·rw[z];exact nit b u e
  ·exact nit c _ z
theorem aM.tok (I:aM X pins σ H s) (t:Nat):aM X pins σ H {s with toks:=t}:=I.un (h':=s.heap) (t':=t) Un.refl I.hok
theorem aM.kept {t':Nat} (I:aM X pins σ H s) (k:∀b u,s.heap.get? b=some u->h'.get? b=some u):aM X pins σ H {s with heap:=h',toks:=t'}:=I.un (Un.kept k) (I.hok.kept k)
theorem aM.laid {a:Addr} {o:HO} {t':Nat} (I:aM X pins σ H s) (k:∀b u,s.heap.get? b=some u->h'.get? b=some u) (hp:s.heap.objs.size<=a) (new:cf X.prog X.w (bY H a o) h' a o):
  aM X pins σ (bY H a o) {s with heap:=h',toks:=t'}:=I.un (Un.laid k hp (I.hok.fresh hp)) (I.hok.laid k hp new)
theorem aM.write {x e:Addr} {o:HO} {t':Nat} (I:aM X pins σ H s) (mu:Gd (H x)) (he:e=x\/H e=some (.own x)) (k:∀b u,b≠e->s.heap.get? b=some u->h'.get? b=some u) (heo:∃u,h'.get? e=some u)
  (new:cf X.prog X.w (bY H x o) h' x o):aM X pins σ (bY H x o) {s with heap:=h',toks:=t'}:=I.un (Un.write mu he k heo) (I.hok.write mu he k heo new)
theorem aM.pins_of {pins':List (Addr×Obj)} (I:aM X pins σ H s) (h:∀p∈pins',s.heap.get? p.1=some p.2/\H p.1=none/\p.1≠X.env.locals/\p.1∉X.fs/\∀v,p.2.data≠ .cell v):aM X pins' σ H s:=
 ⟨I.ok,I.os,I.bare,I.base,I.loc,I.cell,I.free,I.freeC,fun p hp=>(List.mem_append.mp hp).elim (fun z=>I.pin p (List.mem_append_left _ z)) (h p),I.hok,I.len⟩
theorem pb {N:List Str} (hN:N.Nodup) {i j:Nat} {x:Str} (a:N[i]? =some x) (b:N[j]? =some x):i=j:=by
 obtain⟨h1,e1⟩:=List.getElem?_eq_some_iff.mp a
 obtain⟨h2,e2⟩:=List.getElem?_eq_some_iff.mp b
 exact(List.getElem_inj hN).mp (e1.trans e2.symm)
theorem xU {M:Model} {A:Around} {E:Value->Shared->Prop} {i:Nat} {x:Str} {v:V} {u:Value} {Q:Unit->Shared->Prop} (I:aM X pins σ H s) (hN:X.N.Nodup) (hi:X.N[i]? =some x) (hx:xT X.env.scope x) (r:bJ v u)
  (h:∀s',aM X pins (σ.set i (some v)) H s'->(∃a,Heap.SameBut a s.heap s'.heap/\(a=X.env.locals\/X.env.cells.lookup x=some a))->Q () s') (hf:X.fn x=true\/X.env.scope.names.lookup x=some .local:=by first|exact .inl rfl|exact .inr rfl|assumption):wpAny M A (storeName X.env x u) Q E s:=by
 obtain⟨m,hn,hl⟩:=id I.loc
 have hcls:(X.env.scope.kind== .class||(X.env.scope.kind== .module&&X.env.locals != X.env.globals))=false:=by rw[I.ok.kind];rfl
 have hiσ:i<σ.length:=by rw[I.len];exact(List.getElem?_eq_some_iff.mp hi).1
 have cne:=I.cne
 have tracked:∀{a:Addr} {h':Heap},(∃o,s.heap.get? a=some o/\H a=none)->Heap.SameBut a s.heap h'->kF X.prog X.w H h':=fun {a h'} ha hs b ob e=>by
  obtain⟨_,_,hfree⟩:=ha
  refine(I.hok b ob e).stay (fun c w' hc q=>(hs.2 c ?_).trans q) (fun _ q=>q) fun _ _ q=>q
  rintro rfl
  rcases hc with rfl|hc
  ·rw[hfree]at e;cases e
  ·rw[hfree]at hc;cases hc
 rcases hx with hk|hk
 ·refine wpAny_storeName_local hk hn (fun h' hn' hs=> ?_) hcls
  obtain⟨oL,_,_,hoL,_⟩:=id hn
  refine h _ ⟨I.ok,I.os,I.bare,⟨fun b o e n hb hx=> ?_,fun b o e n hb hx=> ?_,I.base.free,fun b o e hx=> ?_,I.base.tups,I.base.frzs,I.base.tbls⟩,⟨_,hn',fun j y v' e1 e2 e3=> ?_⟩,fun y c e=> ?_,I.free,I.freeC,fun p hp=> ?_,tracked ⟨oL,hoL,I.free⟩ hs,by simpa using I.len⟩ ⟨_,hs, .inl rfl⟩
  ·exact(hs.2 b (Nat.ne_of_lt (Nat.lt_of_lt_of_le (Heap.lt_size e) I.ok.above))).trans (I.base.keep b o e n hb hx)
  ·obtain⟨sl,e1⟩:=I.base.slot b o e n hb hx
   exact⟨sl,(hs.2 b (Nat.ne_of_lt (Nat.lt_of_lt_of_le (Heap.lt_size e) I.ok.above))).trans e1⟩
  ·obtain⟨o',e1⟩:=I.base.there b o e hx
   exact⟨o',(hs.2 b (Nat.ne_of_lt (Nat.lt_of_lt_of_le (Heap.lt_size e) I.ok.above))).trans e1⟩
  ·by_cases hj:j=i
   ·subst hj
    rw[hi]at e1;cases e1
    rw[List.getElem?_set_self hiσ]at e2
    cases e2
    exact⟨u,r, .inl ⟨hk,by simp⟩⟩
   ·rw[List.getElem?_set_ne (Ne.symm hj)]at e2
    obtain⟨u',r',q⟩:=hl j y v' e1 e2 e3
    refine⟨u',r',?_⟩
    rcases q with ⟨k,e⟩|⟨k,c,e,z⟩
    ·refine .inl ⟨k,?_⟩
     have:y≠x:=fun e=>hj (pb hN e1 (e▸hi))
     simp[this,e]
    ·exact .inr ⟨k,c,e,z.sameBut hs (cne y c e)⟩
  ·obtain⟨w',z⟩:=I.cell y c e
   exact⟨w',z.sameBut hs (cne y c e)⟩
  ·obtain⟨e,n,ne,nf,d⟩:=I.pin p hp
   exact⟨(hs.2 p.1 ne).trans e,n,ne,nf,d⟩
 ·have hfn:X.fn x=true:=by
   rcases hf with z|z
   ·exact z
   ·rw[z]at hk;cases hk
  obtain⟨c,hc⟩:=I.ok.has x (.inl hk)
  obtain⟨w',z⟩:=I.cell x c hc
  refine wpAny_storeName_cell I.ok.kind hk hc z (fun h' hc' hs=> ?_)
  obtain⟨oc,hoc,hocd⟩:=id z
  refine h {s with heap:=h'} ⟨I.ok,I.os,I.bare,⟨fun b o e n hb hx=> ?_,fun b o e n hb hx=> ?_,I.base.free,fun b o e hx=> ?_,I.base.tups,I.base.frzs,I.base.tbls⟩,⟨m,hn.sameBut hs (Ne.symm (cne x c hc)),fun j y v' e1 e2 e3=> ?_⟩,fun y c' e=> ?_,I.free,I.freeC,fun p hp=> ?_,tracked ⟨oc,hoc,I.freeC x c hc⟩ hs,by simpa using I.len⟩ ⟨c,hs, .inr hc⟩
  ·exact(hs.2 b (Nat.ne_of_lt (Nat.lt_of_lt_of_le (Heap.lt_size e) (I.ok.cab x c hfn hc)))).trans (I.base.keep b o e n hb hx)
  ·obtain⟨sl,e1⟩:=I.base.slot b o e n hb hx
   exact⟨sl,(hs.2 b (Nat.ne_of_lt (Nat.lt_of_lt_of_le (Heap.lt_size e) (I.ok.cab x c hfn hc)))).trans e1⟩
  ·obtain⟨o',e1⟩:=I.base.there b o e hx
   exact⟨o',(hs.2 b (Nat.ne_of_lt (Nat.lt_of_lt_of_le (Heap.lt_size e) (I.ok.cab x c hfn hc)))).trans e1⟩
  ·by_cases hj:j=i
   ·subst hj
    rw[hi]at e1;cases e1
    rw[List.getElem?_set_self hiσ]at e2
    cases e2
    exact⟨u,r, .inr ⟨.inl hk,c,hc,hc'⟩⟩
   ·rw[List.getElem?_set_ne (Ne.symm hj)]at e2
    obtain⟨u',r',q⟩:=hl j y v' e1 e2 e3
    refine⟨u',r',?_⟩
    rcases q with q|⟨k,c',e,z'⟩
    ·exact .inl q
    ·refine .inr ⟨k,c',e,z'.sameBut hs ?_⟩
     rintro rfl
     exact hj (pb hN e1 (I.ok.inj _ _ _ e hc▸hi))
  ·by_cases hcc:c'=c
   ·subst hcc;exact⟨_,hc'⟩
   ·obtain⟨w2,z2⟩:=I.cell y c' e
    exact⟨w2,z2.sameBut hs hcc⟩
  ·obtain⟨e,n,ne,nf,d⟩:=I.pin p hp
   refine⟨(hs.2 p.1 ?_).trans e,n,ne,nf,d⟩
   intro q
   rw[q,hoc]at e
   have q':oc=p.2:=Option.some.inj e
   exact d w' (by rw[<-q'];exact hocd)
theorem kH {M:Model} {A:Around} {E:Value->Shared->Prop} {i:Nat} {x:Str} {v:V} {u:Value} {Q:Unit->Shared->Prop} (I:aM X pins σ H s) (hN:X.N.Nodup) (hi:X.N[i]? =some x) (hx:xT X.env.scope x) (r:bJ v u)
  (h:∀s',aM X pins (σ.set i (some v)) H s'->Q () s') (hf:X.fn x=true\/X.env.scope.names.lookup x=some .local:=by first|exact .inl rfl|exact .inr rfl|assumption):wpAny M A (storeName X.env x u) Q E s:=
 xU I hN hi hx r (fun s' I' _=>h s' I') hf
theorem aM.call' {s':Shared} {ch:List Addr} (I:aM X pins σ H s) (ho:s'.os=s.os) (u:Un (oV X.stack) ch H H' s.heap s'.heap) (hok:kF X.prog X.w H' s'.heap) (hg:AllBare s'.gens)
  (hch:∀b∈ch,(b∈X.ex\/X.s₀.heap.objs.size<=b)/\b≠X.env.locals/\(∀x c,X.env.cells.lookup x=some c->c≠b)/\∀p∈X.pn++pins,p.1≠b):aM X pins σ H' s':=by
 obtain⟨h',g',d',t',o'⟩:=s'
 have e:o'=s.os:=ho
 subst e
 exact I.call (g':=g') (t':=t') (d':=d') u hok hg hch
end
abbrev XK:=Value->Option Addr->Hp->Prop
abbrev St:=List (Option V)
abbrev VK:=V->Hp->Prop
abbrev TE:=St->Hp->VK->Prop
abbrev TT:=St->Hp->(Bool->Hp->Prop)->Prop
abbrev TA:=St->Hp->(List V->Hp->Prop)->Prop
structure lZ where
 nx:St->Hp->Prop
 rt:VK
 bk:St->Hp->Prop:=fun _ _=>False
 ct:St->Hp->Prop:=fun _ _=>False
abbrev TS:=lZ->St->Hp->Prop
def EP (X:Cx) (pins:List (Addr×Obj)) (σ:St) (Q:VK) (u:Value) (s':Shared):Prop:=∃v H',aM X pins σ H' s'/\bJ v u/\Q v H'
def TP (X:Cx) (pins:List (Addr×Obj)) (σ:St) (Q:Bool->Hp->Prop) (b:Bool) (s':Shared):Prop:=∃H',aM X pins σ H' s'/\Q b H'
def AP (X:Cx) (pins:List (Addr×Obj)) (σ:St) (Q:List V->Hp->Prop) (us:List Value) (s':Shared):Prop:=∃vs H',aM X pins σ H' s'/\bg vs us/\Q vs H'
def SP (X:Cx) (pins:List (Addr×Obj)) (D:lZ) (f:Flow) (s':Shared):Prop:=
 match f with
 | .next=>∃σ' H',aM X pins σ' H' s'/\D.nx σ' H'
 | .brk=>∃σ' H',aM X pins σ' H' s'/\D.bk σ' H'
 | .cont=>∃σ' H',aM X pins σ' H' s'/\D.ct σ' H'
 | .ret u=>∃v σ' H',aM X pins σ' H' s'/\bJ v u/\D.rt v H'
def PE (X:Cx) (e:Expr) (t:TE):Prop:=
 ∀(pins:List (Addr×Obj)) (s:Shared) (σ:St) (H:Hp) (Q:VK),aM X pins σ H s->t σ H Q->wpAny (model X.prog X.w) X.A (eval e X.env) (EP X pins σ Q) X.xe s
def PT (X:Cx) (e:Expr) (t:TT):Prop:=
 ∀(pins:List (Addr×Obj)) (s:Shared) (σ:St) (H:Hp) (Q:Bool->Hp->Prop),aM X pins σ H s->t σ H Q->wpAny (model X.prog X.w) X.A (isTrue e X.env (eval e X.env)) (TP X pins σ Q) X.xe s
def PW (X:Cx) (e:Expr) (t:TT):Prop:=
 ∀(whole:Sem Value) (pins:List (Addr×Obj)) (s:Shared) (σ:St) (H:Hp) (Q:Bool->Hp->Prop),aM X pins σ H s->t σ H Q->wpAny (model X.prog X.w) X.A (isTrue e X.env whole) (TP X pins σ Q) X.xe s
theorem PW.pt {X:Cx} {e:Expr} {t:TT} (h:PW X e t):PT X e t:=h _
def PA (X:Cx) (es:List Expr) (t:TA):Prop:=
 ∀(pos:Pos) (pins:List (Addr×Obj)) (s:Shared) (σ:St) (H:Hp) (Q:List V->Hp->Prop),aM X pins σ H s->t σ H Q->wpAny (model X.prog X.w) X.A (spliced (backTo pos (starEach es X.env))) (AP X pins σ Q) X.xe s
def PS (X:Cx) (st:Stmt) (t:TS):Prop:=
 ∀(pins:List (Addr×Obj)) (s:Shared) (σ:St) (H:Hp) (D:lZ),aM X pins σ H s->t D σ H->wpAny (model X.prog X.w) X.A (exec st X.env) (SP X pins D) X.xe s
def qJ (X:Cx) (st:List Stmt) (t:TS):Prop:=
 ∀(pins:List (Addr×Obj)) (s:Shared) (σ:St) (H:Hp) (D:lZ),aM X pins σ H s->t D σ H->wpAny (model X.prog X.w) X.A (execs st X.env) (SP X pins D) X.xe s
theorem cP {α:Type} {t:Sem α} {Q Q':α->Shared->Prop} {M:Model} {A:Around} {E:Value->Shared->Prop} {s:Shared} (h:wpAny M A t Q E s) (hQ:∀a s,Q a s->Q' a s):wpAny M A t Q' E s:=wpAny_mono h hQ fun _ _ x=>x
end L2
namespace L2
open PySem PySem.Spec PyProof.Rows
section
variable {X:Cx}
def C3 (i:Nat):TE:=fun σ H Q=>∃v,σ[i]? =some (some v)/\Q v H
def tC (v:V):TE:=fun _ H Q=>Q v H
theorem Eo {i:Nat} {x:Str} {pos:Pos} (hN:X.N[i]? =some x) (hv:wL X.env.scope x) (hd:(x==("__debug__":Str))=false:=by decide) (hcd:(x==("__classdict__":Str))=false:=by decide):PE X (.Name x pos) (C3 i):=by
 intro pins s σ H Q I h
 obtain⟨v,e,h⟩:=h
 obtain⟨m,hn,hl⟩:=I.loc
 obtain⟨u,r,l⟩:=hl i x v hN e hv
 have fin:EP X pins σ Q u s:=⟨v,H,I,r,h⟩
 rcases l with ⟨hk,hm⟩|⟨hk,c,hc,hcell⟩
 ·exact wpAny_Name (wpAny_loadName_local I.ok.kind hk hn hm fin) hd
 ·rcases hk with hk|hk
  ·exact wpAny_Name (wpAny_loadName_cell I.ok.kind hk hc hcell fin) hd
  ·exact wpAny_Name (wpAny_loadName_free I.ok.kind hk hc hcell fin hcd) hd
theorem zo {i j pos}:PE X (.Constant (.int i) j pos) (tC (.int i)):=fun _ _ _ H _ I h=>wpAny_Constant_int ⟨.int i,H,I.tok _,⟨_,rfl⟩,h⟩
theorem Ge {b j pos}:PE X (.Constant (.bool b) j pos) (tC (.bl b)):=fun _ _ _ H _ I h=>Constant_bool ⟨.bl b,H,I,rfl,h⟩
theorem Ep {j pos}:PE X (.Constant .none j pos) (tC .non):=fun _ _ _ H _ I h=>Constant_none ⟨.non,H,I,rfl,h⟩
theorem Es {x j pos}:PE X (.Constant (.str x) j pos) (tC (.str x)):=fun _ _ _ H _ I h=>Calls.Constant_str ⟨.str x,H,I.tok _,⟨_,rfl⟩,h⟩
def Gl (X:Cx) (x:Str):Prop:=X.env.kindOf x=some .globalImplicit
theorem mH {E:Value->Shared->Prop} {pins:List (Addr×Obj)} {s:Shared} {σ:St} {H:Hp} {x:Str} {u:Value} {pos:Pos} {Q:Value->Shared->Prop} (I:aM X pins σ H s) (hg:Gl X x) (hm:X.mg x=some u) (h:Q u s)
  (hd:(x==("__debug__":Str))=false:=by decide):wpAny (model X.prog X.w) X.A (eval (.Name x pos) X.env) Q E s:=
 Calls.Name_function_global I.ok.kind hg (Calls.loadGlobal_global (by rw[I.ok.glob];exact I.mod.glob.keeps I.bk) hm h) hd
theorem l_ {E:Value->Shared->Prop} {pins:List (Addr×Obj)} {s:Shared} {σ:St} {H:Hp} {x:Str} {u:Value} {pos:Pos} {Q:Value->Shared->Prop} (I:aM X pins σ H s) (hg:Gl X x) (hm:X.mg x=none) (hv:bootBuiltins x=some u) (h:Q u s)
  (hn:x≠"__name__":=by decide) (hd:(x==("__debug__":Str))=false:=by decide):wpAny (model X.prog X.w) X.A (eval (.Name x pos) X.env) Q E s:=by
 obtain⟨mb,h1,h2⟩:=I.mod.blt
 exact Calls.Name_function_global I.ok.kind hg (Calls.loadGlobal_builtin (by rw[I.ok.glob];exact I.mod.glob.keeps I.bk) hm (by rw[I.ok.blt];exact h1.keeps I.bk) ((h2 x hn).trans hv) h) hd
theorem wM {x:Str} {v:V} {u:Value} {pos:Pos} (hg:Gl X x) (hm:X.mg x=some u) (r:bJ v u) (hd:(x==("__debug__":Str))=false:=by decide):PE X (.Name x pos) (tC v):=
 fun _ _ _ H _ I h=>mH I hg hm ⟨v,H,I,r,h⟩ hd
theorem wN {x:Str} {v:V} {u:Value} {pos:Pos} (hg:Gl X x) (hm:X.mg x=none) (hv:bootBuiltins x=some u) (r:bJ v u) (hn:x≠"__name__":=by decide) (hd:(x==("__debug__":Str))=false:=by decide):PE X (.Name x pos) (tC v):=
 fun _ _ _ H _ I h=>l_ I hg hm hv ⟨v,H,I,r,h⟩ hn hd
variable {a b:Expr} {ta tb:TE} {pos:Pos}
def PC (X:Cx) (op:CmpOp) (a b:Expr) (t:TE):Prop:=
 ∀(pins:List (Addr×Obj)) (s:Shared) (σ:St) (H:Hp) (Q:VK),aM X pins σ H s->t σ H Q->
  wpAny (model X.prog X.w) X.A (eval a X.env) (fun v s₁=>wpAny (model X.prog X.w) X.A (eval b X.env) (fun u s₂=>wpAny (model X.prog X.w) X.A (compareOp op v u) (EP X pins σ Q) X.xe s₂) X.xe s₁) X.xe s
def tB (t:TE):TT:=fun σ H Q=>t σ H fun x H1=>∃c,x= .bl c/\Q c H1
theorem Et {op:CmpOp} {t:TE} (h:PC X op a b t) (h1:behindInMarks op b=false:=by first|exact nobehind _ (by decide) (by decide)|rfl):PE X (.Compare a [op] [b] pos) t:=fun pins s σ H Q I hw=>wpAny_Compare1 (h pins s σ H Q I hw) h1
theorem zp {op:CmpOp} {t:TE} (h:PC X op a b t) (h1:behindInMarks op b=false:=by first|exact nobehind _ (by decide) (by decide)|rfl):PT X (.Compare a [op] [b] pos) (tB t):=by
 intro pins s σ H Q I hw
 refine wpAny_isTrue_Compare1 (cP (h pins s σ H _ I hw) fun v s1 h1=>cP h1 fun u s2 h2=>cP h2 fun c s3 z_=> ?_) h1
 obtain⟨x,H1,I1,r1,q1⟩:=z_
 obtain⟨d,rfl,q⟩:=q1
 cases r1
 exact wpAny_truthy_bool ⟨H1,I1,q⟩
variable {tA tB':TT} {rest:List Expr}
def HV (t u:TT):TT:=fun σ H Q=>t σ H fun c H1=>if c=true then u σ H1 Q else Q false H1
def J0 (t u:TT):TT:=fun σ H Q=>t σ H fun c H1=>if c=true then Q true H1 else u σ H1 Q
def HW (t:TT):TT:=fun σ H Q=>t σ H fun c H1=>Q (!c) H1
theorem C4 (ha:PT X a tA):PW X (.BoolOp .And [a] pos) tA:=by
 intro wh pins s σ H Q I h
 refine isTrue_and (cP (ha pins s σ H Q I h) fun c s1 e=> ?_)
 cases c with
 |true=>exact isTrue_and_nil e
 |false=>exact e
theorem Eu (ha:PT X a tA):PW X (.BoolOp .Or [a] pos) tA:=by
 intro wh pins s σ H Q I h
 refine isTrue_or (cP (ha pins s σ H Q I h) fun c s1 e=> ?_)
 cases c with
 |false=>exact isTrue_or_nil e
 |true=>exact e
theorem Ew (ha:PT X a tA) (hb:PW X (.BoolOp .And (b::rest) pos) tB'):PW X (.BoolOp .And (a::b::rest) pos) (HV tA tB'):=by
 intro wh pins s σ H Q I h
 refine isTrue_and (cP (ha pins s σ H _ I h) fun c s1 z_=> ?_)
 obtain⟨H1,I1,q1⟩:=z_
 cases c with
 |true=>exact hb wh pins s1 σ H1 Q I1 q1
 |false=>exact⟨H1,I1,q1⟩
theorem Gf (ha:PT X a tA) (hb:PW X (.BoolOp .Or (b::rest) pos) tB'):PW X (.BoolOp .Or (a::b::rest) pos) (J0 tA tB'):=by
 intro wh pins s σ H Q I h
 refine isTrue_or (cP (ha pins s σ H _ I h) fun c s1 z_=> ?_)
 obtain⟨H1,I1,q1⟩:=z_
 cases c with
 |true=>exact⟨H1,I1,q1⟩
 |false=>exact hb wh pins s1 σ H1 Q I1 q1
theorem Ex (ha:PT X a tA):PT X (.UnaryOp .Not a pos) (HW tA):=by
 intro pins s σ H Q I h
 exact isTrue_not (ha pins s σ H (fun c H1=>Q (!c) H1) I h)
def Gg (ta tb:TE):TE:=fun σ H Q=>ta σ H fun x H1=>∃c,x= .bl c/\if c=true then tb σ H1 Q else Q (.bl false) H1
def Gh (ta:TE):TE:=fun σ H Q=>ta σ H fun x H1=>∃c,x= .bl c/\Q (.bl (!c)) H1
theorem Ey {op} {t:TE} (h:PE X a t):PE X (.BoolOp op [a] pos) t:=fun pins s σ H Q I hw=>BoolOp_one (h pins s σ H Q I hw)
theorem Ez (ha:PE X a ta) (hb:PE X (.BoolOp .And (b::rest) pos) tb):PE X (.BoolOp .And (a::b::rest) pos) (Gg ta tb):=by
 intro pins s σ H Q I h
 refine BoolOp_and (cP (ha pins s σ H _ I h) fun v s1 z_=> ?_)
 obtain⟨x,H1,I1,r1,q1⟩:=z_
 obtain⟨c,rfl,q1⟩:=q1
 cases r1
 refine wpAny_truthy_bool ?_
 cases c with
 |true=>exact hb pins s1 σ H1 Q I1 q1
 |false=>exact⟨.bl false,H1,I1,rfl,q1⟩
theorem EA (ha:PE X a ta):PE X (.UnaryOp .Not a pos) (Gh ta):=by
 intro pins s σ H Q I h
 refine UnaryOp_ (cP (ha pins s σ H _ I h) fun v s1 z_=> ?_)
 obtain⟨x,H1,I1,r1,q1⟩:=z_
 obtain⟨c,rfl,q1⟩:=q1
 cases r1
 exact not_of (wpAny_truthy_bool ⟨.bl (!c),H1,I1,rfl,q1⟩)
def J3 (t:TT) (ta tb:TE):TE:=fun σ H Q=>t σ H fun c H1=>if c=true then ta σ H1 Q else tb σ H1 Q
theorem zq {c:Expr} (hc:PT X c tA) (ha:PE X a ta) (hb:PE X b tb):PE X (.IfExp c a b pos) (J3 tA ta tb):=by
 intro pins s σ H Q I h
 refine wpAny_IfExp (cP (hc pins s σ H _ I h) fun d s1 z_=> ?_)
 obtain⟨H1,I1,q1⟩:=z_
 cases d with
 |true=>exact ha pins s1 σ H1 Q I1 q1
 |false=>exact hb pins s1 σ H1 Q I1 q1
end
end L2
namespace L2
open PySem PySem.Spec PyProof.Rows
def fz (K:PySem.W.Frag) (H:Hp) (a:Addr) (xs:List V):Prop:=
 Rd H a (.lst xs)\/
  ∃(o:Obj) (its:Array Value) (n:Nat),K.lookup a=some o/\o.cls= .type "list"/\o.dict=none/\o.data= .seq its n/\its.size<=sizeLine/\bg xs its.toList
def iH (K:PySem.W.Frag) (H:Hp) (a:Addr) (xs:List V):Prop:=
 Rd H a (.tup xs)\/
  ∃(o:Obj) (its:Array Value) (n:Nat),K.lookup a=some o/\o.cls= .type "tuple"/\o.data= .seq its n/\its.size<=sizeLine/\bg xs its.toList
def HX:Value->Option V
 | .none=>some .non
 | .bool b=>some (.bl b)
 | .int i _=>some (.int i)
 | .str x _=>some (.str x)
 | .bytes b _=>some (.byt b)
 | .float b _=>some (.flt b)
 | .ref a=>some (.ref a)
 | .type n=>some (.ty n)
 |_=>none
theorem bJ.abs {x:V} {u:Value} (r:bJ x u):HX u=some x:=by
 cases x with
 |non=>cases r;rfl
 |bl _=>cases r;rfl
 |int _=>obtain⟨t,rfl⟩:=r;rfl
 |str _=>obtain⟨t,rfl⟩:=r;rfl
 |byt _=>obtain⟨t,rfl⟩:=r;rfl
 |flt _=>obtain⟨t,rfl⟩:=r;rfl
 |ref _=>cases r;rfl
 |ty _=>cases r;rfl
theorem bJ.inj {x y:V} {u:Value} (r:bJ x u) (q:bJ y u):x=y:=Option.some.inj (r.abs.symm.trans q.abs)
theorem bg.inj:∀{xs ys:List V} {us:List Value},bg xs us->bg ys us->xs=ys
 |_,_,_, .nil, .nil=>rfl
 |_,_,_, .cons r t, .cons r' t'=>by rw[r.inj r',bg.inj t t']
section
variable {X:Cx} {pins:List (Addr×Obj)} {σ:St} {H:Hp} {s:Shared} {a:Addr} {xs ys:List V}
theorem fz.of {K:PySem.W.Frag} (h:H a=some (.lst xs)):fz K H a xs:= .inl (.inl h)
theorem iH.of {K:PySem.W.Frag} (h:H a=some (.tup xs)):iH K H a xs:= .inl (.inl h)
theorem aM.list (I:aM X pins σ H s) (h:fz X.K H a xs):∃its:List Value,bg xs its/\PlainL s.heap a its.toArray/\xs.length<=sizeLine:=by
 rcases h with h|⟨o,its,n,hk,hc,hd,hs,hz,r⟩
 ·obtain⟨z,its,n,r,e⟩:=h.ok I.hok
  exact⟨its,r,⟨_,n,e,rfl,rfl,rfl⟩,z⟩
 ·refine⟨its.toList,r,⟨o,n,I.kIn a o hk,hc,hd,by simpa using hs⟩,?_⟩
  have e:=r.length
  simp only[Array.length_toList]at e
  omega
theorem aM.tuple (I:aM X pins σ H s) (h:iH X.K H a xs):∃its:List Value,bg xs its/\IsTup s.heap a its.toArray/\xs.length<=sizeLine:=by
 rcases h with h|⟨o,its,n,hk,hc,hs,hz,r⟩
 ·obtain⟨z,its,r,p⟩:=h.ok I.hok
  exact⟨its,r,p.tup,z⟩
 ·refine⟨its.toList,r,⟨o,I.kIn a o hk,hc,n,by simpa using hs⟩,?_⟩
  have e:=r.length
  simp only[Array.length_toList]at e
  omega
theorem aM.list_inj (I:aM X pins σ H s) (h:fz X.K H a xs) (h':fz X.K H a ys):xs=ys:=by
 obtain⟨its,r,⟨o,n,e,_,_,d⟩,_⟩:=I.list h
 obtain⟨its',r',⟨o',n',e',_,_,d'⟩,_⟩:=I.list h'
 rw[e]at e';cases e'
 rw[d]at d'
 injection d' with d1 _
 have:its=its':=by simpa using congrArg Array.toList d1
 subst this
 exact r.inj r'
theorem aM.tuple_inj (I:aM X pins σ H s) (h:iH X.K H a xs) (h':iH X.K H a ys):xs=ys:=by
 obtain⟨its,r,⟨o,e,_,n,d⟩,_⟩:=I.tuple h
 obtain⟨its',r',⟨o',e',_,n',d'⟩,_⟩:=I.tuple h'
 rw[e]at e';cases e'
 rw[d]at d'
 injection d' with d1 _
 have:its=its':=by simpa using congrArg Array.toList d1
 subst this
 exact r.inj r'
end
abbrev Cx.wish (X:Cx) (E:Value->Shared->Prop):Cx:={X with xe:=E}
abbrev Cx.nox (X:Cx):Cx:=X.wish fun _ _=>False
theorem Cx.Ok.wish {X:Cx} (ok:X.Ok) (E:Value->Shared->Prop):(X.wish E).Ok:=
 ⟨ok.mod,ok.kind,ok.glob,ok.blt,ok.above,ok.inj,ok.has,ok.cab,ok.hd,ok.frames,ok.stk,ok.exf,ok.bs,ok.bsz,ok.noex,ok.exfs,ok.funs,ok.frf⟩
theorem Cx.Ok.unwish {X:Cx} {E:Value->Shared->Prop} (ok:(X.wish E).Ok):X.Ok:=
 ⟨ok.mod,ok.kind,ok.glob,ok.blt,ok.above,ok.inj,ok.has,ok.cab,ok.hd,ok.frames,ok.stk,ok.exf,ok.bs,ok.bsz,ok.noex,ok.exfs,ok.funs,ok.frf⟩
section
variable {X:Cx} {pins:List (Addr×Obj)} {σ:St} {H:Hp} {s:Shared} {E:Value->Shared->Prop}
theorem aM.wish (I:aM X pins σ H s) (E:Value->Shared->Prop):aM (X.wish E) pins σ H s:=⟨I.ok.wish E,I.os,I.bare,I.base,I.loc,I.cell,I.free,I.freeC,I.pin,I.hok,I.len⟩
theorem aM.unwish (I:aM (X.wish E) pins σ H s):aM X pins σ H s:=⟨I.ok.unwish,I.os,I.bare,I.base,I.loc,I.cell,I.free,I.freeC,I.pin,I.hok,I.len⟩
theorem SP.unwish {D:lZ} {f:Flow} {s':Shared} (h:SP (X.wish E) pins D f s'):SP X pins D f s':=by
 cases f with
 |next=>obtain⟨σ',H',I,q⟩:=h;exact⟨σ',H',I.unwish,q⟩
 |brk=>obtain⟨σ',H',I,q⟩:=h;exact⟨σ',H',I.unwish,q⟩
 |cont=>obtain⟨σ',H',I,q⟩:=h;exact⟨σ',H',I.unwish,q⟩
 |ret u=>obtain⟨v,σ',H',I,r,q⟩:=h;exact⟨v,σ',H',I.unwish,r,q⟩
theorem PE.nox {e:Expr} {t:TE} (h:PE X.nox e t):PE X e t:=fun pins s σ H Q I hw=>
 wpAny_mono (h pins s σ H Q (I.wish _) hw) (fun _ _ ⟨v,H',I',r,q⟩=>⟨v,H',I'.unwish,r,q⟩) fun _ _ z=>False.elim z
theorem PT.nox {e:Expr} {t:TT} (h:PT X.nox e t):PT X e t:=fun pins s σ H Q I hw=>
 wpAny_mono (h pins s σ H Q (I.wish _) hw) (fun _ _ ⟨H',I',q⟩=>⟨H',I'.unwish,q⟩) fun _ _ z=>False.elim z
theorem qJ.nox {st:List Stmt} {t:TS} (h:qJ X.nox st t):qJ X st t:=fun pins s σ H D I hw=>
 wpAny_mono (h pins s σ H D (I.wish _) hw) (fun _ _ q=>q.unwish) fun _ _ z=>False.elim z
end
section
variable {X:Cx} {st:Stmt} {rest:List Stmt} {t u:TS} {e:Expr} {te:TE} {pos:Pos}
def Gi:TS:=fun D σ H=>D.nx σ H
def HY (t u:TS):TS:=fun D σ H=>t {D with nx:=u D} σ H
theorem C5:qJ X [] Gi:=fun _ _ σ H _ I h=>wpAny_execs_nil ⟨σ,H,I,h⟩
theorem zr (h1:PS X st t) (h2:qJ X rest u):qJ X (st::rest) (HY t u):=by
 intro pins s σ H D I h
 refine wpAny_execs_cons (cP (h1 pins s σ H {D with nx:=u D} I h) fun f s1 q=> ?_)
 cases f with
 |next=>
  obtain⟨σ',H',I',q⟩:=q
  exact h2 pins s1 σ' H' D I' q
 |ret v=>exact q
 |brk=>exact q
 |cont=>exact q
theorem C6 (h1:PS X st t):qJ X [st] t:=by
 intro pins s σ H D I h
 refine wpAny_execs_cons (cP (h1 pins s σ H D I h) fun f s1 q=> ?_)
 cases f with
 |next=>exact wpAny_execs_nil q
 |ret v=>exact q
 |brk=>exact q
 |cont=>exact q
def Gj:TS:=fun D σ H=>D.ct σ H
theorem tX:PS X (.Continue pos) Gj:=fun _ _ σ H _ I h=>wpAny_Continue ⟨σ,H,I,h⟩
theorem aM.quiet {pins:List (Addr×Obj)} {σ:St} {H:Hp} {s:Shared} (I:aM X pins σ H s):interactive X.env=false:=by simp[interactive,I.ok.kind]
def Gk (te:TE):TS:=fun D σ H=>te σ H fun _ H1=>D.nx σ H1
theorem wO (he:PE X e te) (hs:swapsWith e none pos.line X.env=pure false:=by rfl):PS X (.Expr e pos) (Gk te):=by
 intro pins s σ H D I h
 exact wpAny_Expr_any (cP (he pins s σ H _ I h) fun v s1 ⟨x,H1,I1,r1,q1⟩=>⟨σ,H1,I1,q1⟩) I.quiet hs
def HZ (te:TE):TS:=fun D σ H=>te σ H D.rt
theorem EB (he:PE X e te):PS X (.Return (some e) pos) (HZ te):=by
 intro pins s σ H D I h
 exact wpAny_Return_some (cP (he pins s σ H _ I h) fun v s1 ⟨x,H1,I1,r1,q1⟩=>⟨x,σ,H1,I1,r1,q1⟩)
def H_ (c:TT) (t u:TS):TS:=fun D σ H=>c σ H fun b H1=>if b=true then t D σ H1 else u D σ H1
theorem Gm {c:Expr} {a b:List Stmt} {tc:TT} (hc:PT X c tc) (ha:qJ X a t) (hb:qJ X b u):PS X (.If c a b pos) (H_ tc t u):=by
 intro pins s σ H D I h
 refine wpAny_If (cP (hc pins s σ H _ I h) fun d s1 z_=> ?_)
 obtain⟨H1,I1,q1⟩:=z_
 cases d with
 |true=>exact ha pins s1 σ H1 D I1 q1
 |false=>exact hb pins s1 σ H1 D I1 q1
end
abbrev TG:=V->St->Hp->(St->Hp->Prop)->Prop
abbrev zt:=List V->St->Hp->(St->Hp->Prop)->Prop
def PG (X:Cx) (target:Expr) (t:TG):Prop:=
 ∀(pins:List (Addr×Obj)) (s:Shared) (σ:St) (H:Hp) (v:V) (u:Value) (Q:St->Hp->Prop),aM X pins σ H s->bJ v u->t v σ H Q->
  wpAny (model X.prog X.w) X.A (assign target X.env u) (fun _ s'=>∃σ' H',aM X pins σ' H' s'/\Q σ' H') X.xe s
def zu (X:Cx) (ts:List Expr) (t:zt):Prop:=
 ∀(pins:List (Addr×Obj)) (s:Shared) (σ:St) (H:Hp) (vs:List V) (us:List Value) (Q:St->Hp->Prop),aM X pins σ H s->bg vs us->t vs σ H Q->
  wpAny (model X.prog X.w) X.A (assignInOrder ((assignEach ts X.env).map (·.2)) us) (fun _ s'=>∃σ' H',aM X pins σ' H' s'/\Q σ' H') X.xe s
abbrev EC:=V->V->V->Hp->(Hp->Prop)->Prop
def Gn (X:Cx) (t:EC):Prop:=
 ∀(pins:List (Addr×Obj)) (s:Shared) (σ:St) (H:Hp) (o i v:V) (ov iv u:Value) (Q:Hp->Prop),aM X pins σ H s->bJ o ov->bJ i iv->bJ v u->t o i v H Q->
  wpAny (model X.prog X.w) X.A (setItem ov iv u) (fun _ s'=>∃H',aM X pins σ H' s'/\Q H') X.xe s
section
variable {X:Cx} {pos:Pos}
def DL (i:Nat):TG:=fun v σ H Q=>Q (σ.set i (some v)) H
theorem wQ {i:Nat} {x:Str} (hN:X.N.Nodup) (hi:X.N[i]? =some x) (hx:xT X.env.scope x) (hf:X.fn x=true\/X.env.scope.names.lookup x=some .local:=by first|exact .inl rfl|exact .inr rfl|assumption):PG X (.Name x pos) (DL i):=by
 intro pins s σ H v u Q I r h
 exact wpAny_assign_Name (kH I hN hi hx r (fun s' I'=>⟨_,H,I',h⟩) hf)
def I0:zt:=fun vs σ H Q=>vs=[]/\Q σ H
def Go (t:TG) (u:zt):zt:=fun vs σ H Q=>∃v r,vs=v::r/\t v σ H fun σ' H'=>u r σ' H' Q
theorem C7:zu X [] I0:=by
 intro pins s σ H vs us Q I r h
 obtain⟨e,h⟩:=h
 subst e
 cases r
 exact assignInOrder_nil ⟨σ,H,I,h⟩
theorem zv {e:Expr} {es:List Expr} {t:TG} {u:zt} (h1:PG X e t) (h2:zu X es u)
  (hs:(assignEach (e::es) X.env).map (·.2)=assign e X.env::(assignEach es X.env).map (·.2):=by rfl):zu X (e::es) (Go t u):=by
 intro pins s σ H vs us Q I r h
 obtain⟨v,vr,e1,h⟩:=h
 subst e1
 cases r with
 |cons r rr=>
  rw[hs]
  refine assignInOrder_cons (cP (h1 pins s σ H _ _ _ I r h) fun _ s1 z_=> ?_)
  obtain⟨σ1,H1,I1,q1⟩:=z_
  exact h2 pins s1 σ1 H1 _ _ Q I1 rr q1
def I9 (K:PySem.W.Frag) (n:Nat) (t:zt):TG:=fun v σ H Q=>∃a xs,v= .ref a/\iH K H a xs/\xs.length=n/\t xs σ H Q
theorem zw {es:List Expr} {k:Nat} {t:zt} {n:Nat} (hc:X.calm=true) (h:zu X es t)
  (hn:(assignEach es X.env).length=n:=by rfl) (hst:(assignEach es X.env).findIdx? (·.1)=none:=by rfl):PG X (.Tuple es k pos) (I9 X.K n t):=by
 intro pins s σ H v u Q I r hw
 obtain⟨a,xs,e1,hq,hl,hw⟩:=hw
 subst e1
 cases r
 obtain⟨its,rv,ht,hz⟩:=I.tuple hq
 refine assign_Tuple_tuple (I.ok.hd hc) ht (by simp[hn,<-hl,rv.length]) hst fun h' hx=> ?_
 have I1:aM X pins σ H {s with heap:=h'}:=I.kept (t':=s.toks) fun b o e=>hx b o (Nat.ne_of_lt (Heap.lt_size e)) e
 exact h pins _ σ H xs _ Q I1 (by simpa using rv) hw
def Ia (to ti:TE) (t:EC):TG:=fun v σ H Q=>to σ H fun o H1=>ti σ H1 fun i H2=>t o i v H2 fun H3=>Q σ H3
theorem ED {o i:Expr} {to ti:TE} {t:EC} (ho:PE X o to) (hi:PE X i ti) (hs:Gn X t)
  (ha:∀v,assign (.Subscript o i pos) X.env v=(do
   let ov<-holding [v] (eval o X.env)
   let iv<-holding [v,ov] (eval i X.env)
   standAt pos
   holding [v,ov,iv] (setItem ov iv v)
   release [v,ov,iv] []):=by intro _;rfl):PG X (.Subscript o i pos) (Ia to ti t):=by
 intro pins s σ H v u Q I r h
 rw[ha]
 refine wpAny_bind (wpAny_holding (cP (ho pins s σ H _ I h) fun ov s1 z_=> ?_))
 obtain⟨x,H1,I1,r1,q1⟩:=z_
 refine wpAny_bind (wpAny_holding (cP (hi pins s1 σ H1 _ I1 q1) fun iv s2 z_=> ?_))
 obtain⟨y,H2,I2,r2,q2⟩:=z_
 refine wpAny_bind (wpAny_standAt (wpAny_bind (wpAny_holding (cP (hs pins s2 σ H2 x y v ov iv u _ I2 r1 r2 r q2) fun _ s3 z_=> ?_))))
 obtain⟨H3,I3,q3⟩:=z_
 exact wpAny_release ⟨σ,H3,I3,q3⟩
def EE (te:TE) (g:TG):TS:=fun D σ H=>te σ H fun x H1=>g x σ H1 D.nx
theorem vi {tg e:Expr} {te:TE} {g:TG} (he:PE X e te) (hg:PG X tg g) (hs:swapsWithSole [tg] e pos.line X.env=pure false:=by rfl) (hw:swappedStores [tg] e X.env=pure none:=by rfl)
  (h1:(assignEach [tg] X.env).map (·.2)=[assign tg X.env]:=by rfl):PS X (.Assign [tg] e pos) (EE te g):=by
 intro pins s σ H D I h
 refine wpAny_Assign_stores (cP (he pins s σ H _ I h) fun v s1 z_=> ?_) hs hw
 obtain⟨x,H1,I1,r1,q1⟩:=z_
 rw[h1]
 exact cP (hg pins s1 σ H1 x v _ I1 r1 q1) fun _ s2 q=>q
theorem m3 {i:Nat} {x:Str} {e:Expr} {te:TE} {pos':Pos} (hN:X.N.Nodup) (hi:X.N[i]? =some x) (hx:xT X.env.scope x) (he:PE X e te) (hs:swapsWith e (some (.Name x pos')) pos.line X.env=pure false:=by rfl) (hf:X.fn x=true\/X.env.scope.names.lookup x=some .local:=by first|exact .inl rfl|exact .inr rfl|assumption):
  PS X (.Assign [.Name x pos'] e pos) (EE te (DL i)):=by
 intro pins s σ H D I h
 refine wpAny_Assign_Name (cP (he pins s σ H _ I h) fun v s1 z_=> ?_) hs
 obtain⟨y,H1,I1,r1,q1⟩:=z_
 exact kH I1 hN hi hx r1 (fun s2 I2=>⟨_,H1,I2,q1⟩) hf
def Ib (i j:Nat) (ta:TA):TS:=fun D σ H=>ta σ H fun vs H1=>∃v w,vs=[v,w]/\D.nx ((σ.set i (some v)).set j (some w)) H1
theorem EF {i j:Nat} {x y:Str} {a b:Expr} {ta:TA} {px py pt:Pos} {kt k2 pt2} (hc:X.calm=true) (hN:X.N.Nodup) (hi:X.N[i]? =some x) (hj:X.N[j]? =some y) (hij:i≠j)
  (hx:X.env.scope.names.lookup x=some .local) (hy:X.env.scope.names.lookup y=some .local) (ha:PA X [a,b] ta)
  (hw:swappedStores [.Tuple [.Name x px, .Name y py] kt pt] (.Tuple [a,b] k2 pt2) X.env=pure (some [x,y]))
  (hs:swapsWithSole [.Tuple [.Name x px, .Name y py] kt pt] (.Tuple [a,b] k2 pt2) pos.line X.env=pure false:=by rfl):
  PS X (.Assign [.Tuple [.Name x px, .Name y py] kt pt] (.Tuple [a,b] k2 pt2) pos) (Ib i j ta):=by
 intro pins s σ H D I h
 rw[exec_Assign_arm]
 refine wpAny_bind (wpAny_standAt ?_)
 rw[hs]
 refine wpAny_bind (wpAny_pure ?_)
 rw[if_neg (by decide)]
 refine wpAny_bind (Tuple_ (cP (ha _ pins s σ H _ I h) fun us s1 z_=> ?_))
 obtain⟨vs,H1,I1,r1,q1⟩:=z_
 obtain⟨v,w,e1,q1⟩:=q1
 subst e1
 obtain⟨u1,u2,rfl,rv,rw'⟩:∃u1 u2,us=[u1,u2]/\bJ v u1/\bJ w u2:=by
  cases r1 with
  |cons p q=>
   cases q with
   |cons p' q'=>
    cases q'
    exact⟨_,_,rfl,p,p'⟩
 refine wpAny_newObj_type ?_ (by show 2<=sizeLine;decide)
 have I2:aM X pins σ H1 {s1 with heap:=s1.heap.push {cls:= .type "tuple",data:= .seq [u1,u2].toArray}}:=I1.kept (t':=s1.toks) fun b o e=>Heap.get?_push_of_some _ e
 rw[hw]
 refine wpAny_bind (wpAny_pure ?_)
 show wpAny (model X.prog X.w) X.A (do rule "assign.swapped-stores";let items<-unpackItems (.ref s1.heap.objs.size) 2 none;assignInOrder [fun v=>bindName X.env y v,fun v=>bindName X.env x v] items.reverse;pure Flow.next) _ _ _
 refine wpAny_bind (wpAny_rule (wpAny_bind (unpackItems_tuple (items:= #[u1,u2]) (I.ok.hd hc) (IsTup.new s1.heap _) fun h' hx'=> ?_)))
 have I3:=I2.kept (h':=h') (t':=s1.toks) fun b o e=>hx' b o (Nat.ne_of_lt (Heap.lt_size e)) e
 show wpAny _ _ (assignInOrder [fun v=>bindName X.env y v,fun v=>bindName X.env x v] [u2,u1]>>=fun _=>pure Flow.next) _ _ _
 refine wpAny_bind (assignInOrder_cons (wpAny_bindName (kH I3 hN hj (.inl hy) rw' (fun s2 I4=> ?_) (.inr hy))))
 refine assignInOrder_cons (wpAny_bindName (kH I4 hN hi (.inl hx) rv (fun s3 I5=>assignInOrder_nil (wpAny_pure ?_)) (.inr hx)))
 rw[List.set_comm _ _ (Ne.symm hij)]at I5
 exact⟨_,H1,I5,q1⟩
end
section
variable {X:Cx} {pos:Pos}
def zx (c:TT) (tb:TS):TS:=fun D σ H=>∃W:Nat->St->Hp->Prop,(∃m,W m σ H)/\∀m σ H,W m σ H->
 c σ H fun b H1=>if b=true then ∃N:St->Hp->Prop,(∀σ' H',N σ' H'->∃m',m'<m/\W m' σ' H')/\tb {D with nx:=N,ct:=N,bk:=D.nx} σ H1 else D.nx σ H1
theorem zy {c:Expr} {body:List Stmt} {tc:TT} {tb:TS} (hp:PassesOwn (model X.prog X.w) X.A X.env X.xe) (hc:PT X c tc) (hb:qJ X body tb):PS X (.While c body [] pos) (zx tc tb):=by
 intro pins s σ H D I h
 obtain⟨W,⟨m0,w0⟩,turn⟩:=h
 refine wpAny_While (codeAny_whileLoop (fun n s'=>∃σ' H',aM X pins σ' H' s'/\W n σ' H') ?_ m0 ⟨σ,H,I,w0⟩)
 rintro n s1 ⟨σ1,H1,I1,w1⟩
 refine wpAny_passesOwn hp (cP (hc pins s1 σ1 H1 _ I1 (turn n σ1 H1 w1)) fun b s2 z_=> ?_)
 obtain⟨H2,I2,q2⟩:=z_
 cases b with
 |true=>
  obtain⟨N,hN,q2⟩:=q2
  rw[if_pos rfl]
  refine wpAny_passesOwn hp (cP (hb pins s2 σ1 H2 _ I2 q2) fun f s3 q3=> ?_)
  cases f with
  |next=>
   obtain⟨σ3,H3,I3,n3⟩:=q3
   obtain⟨m',hm,w3⟩:=hN σ3 H3 n3
   exact⟨m',hm,σ3,H3,I3,w3⟩
  |cont=>
   obtain⟨σ3,H3,I3,n3⟩:=q3
   obtain⟨m',hm,w3⟩:=hN σ3 H3 n3
   exact⟨m',hm,σ3,H3,I3,w3⟩
  |brk=>exact q3
  |ret v=>exact q3
 |false=>
  rw[if_neg Bool.false_ne_true]
  exact wpAny_execs_nil ⟨σ1,H2,I2,q2⟩
end
structure It where
 go:Nat->Hp->Prop
 yld:Nat->Hp->V->Hp->Prop
 stop:Nat->Hp->Prop
def mI (X:Cx) (pins:List (Addr×Obj)) (H:Hp) (b:Addr):Prop:=
 H b=none/\b≠X.env.locals/\b∉X.fs/\(b∈X.ex\/X.s₀.heap.objs.size<=b)/\(∀x c,X.env.cells.lookup x=some c->c≠b)/\∀p∈X.pn++pins,p.1≠b
theorem aM.fpOk {X:Cx} {pins:List (Addr×Obj)} {σ:St} {H H':Hp} {s:Shared} {b:Addr} (I:aM X pins σ H s) (hb:s.heap.objs.size<=b) (hn:H' b=none):mI X pins H' b:=by
 refine⟨hn,Nat.ne_of_gt (Nat.lt_of_lt_of_le I.lt hb),I.nofs hb, .inr (Nat.le_trans I.sz hb),fun x c e z=> ?_,fun p hp z=> ?_⟩
 ·obtain⟨v,q⟩:=I.cell x c e
  exact absurd (Nat.lt_of_lt_of_le q.lt (by rw[z];exact hb)) (Nat.lt_irrefl _)
 ·exact absurd (Nat.lt_of_lt_of_le (Heap.lt_size (I.pin p hp).1) (by rw[z];exact hb)) (Nat.lt_irrefl _)
structure xV (P:Program) (w:World) (K:PySem.W.Frag) (tg:Expr) (J:It) (fp:List Addr) (it:Addr) (tn:Nat->Heap->Prop):Prop where
 mem:it∈fp
 obj:∀i h,tn i h->∀b∈fp,∃o,h.get? b=some o/\∀v,o.data≠ .cell v
 keep:∀i h h',tn i h->(∀b∈fp,∀o,h.get? b=some o->h'.get? b=some o)->tn i h'
 item:∀(X:Cx),X.prog=P->X.w=w->X.K=K->X.calm=true->∀(i:Nat) (pins:List (Addr×Obj)) (s:Shared) (σ:St) (H:Hp) (E:Value->Shared->Prop),aM X pins σ H s->(∀b∈fp,mI X pins H b)->tn i s.heap->J.go i H->
  wpAny (model P w) X.A (pyNext (.ref it)) (fun r s1=>∃u,r=some u/\
   wpAny (model P w) X.A (letOwnedTupleGo tg (.ref it) u) (fun _ s2=>∃x H',aM X pins σ H' s2/\bJ x u/\J.yld i H x H'/\tn (i+1) s2.heap/\∀b∈fp,H' b=none) E s1) E s
 done:∀(X:Cx),X.prog=P->X.w=w->X.K=K->X.calm=true->∀(i:Nat) (pins:List (Addr×Obj)) (s:Shared) (σ:St) (H:Hp) (E:Value->Shared->Prop),aM X pins σ H s->(∀b∈fp,mI X pins H b)->tn i s.heap->J.stop i H->
  wpAny (model P w) X.A (pyNext (.ref it)) (fun r s1=>r=none/\aM X pins σ H s1) E s
 self:∀(A:Around) (i:Nat) (s:Shared) (Q:Value->Shared->Prop) (E:Value->Shared->Prop),tn i s.heap->Q (.ref it) s->wpAny (model P w) A (pyIter (.ref it)) Q E s
abbrev TI:=St->Hp->(It->Hp->Prop)->Prop
def IK (X:Cx) (pins:List (Addr×Obj)) (σ:St) (tg:Expr) (R:It->Hp->Prop) (itv:Value) (s2:Shared):Prop:=
 ∃(it:Addr) (fp:List Addr) (tn:Nat->Heap->Prop) (J:It) (H':Hp),itv= .ref it/\aM X pins σ H' s2/\xV X.prog X.w X.K tg J fp it tn/\tn 0 s2.heap/\(∀b∈fp,mI X pins H' b)/\R J H'
def PI (X:Cx) (tg iter:Expr) (wi:TI):Prop:=
 ∀(pins:List (Addr×Obj)) (s:Shared) (σ:St) (H:Hp) (R:It->Hp->Prop),aM X pins σ H s->wi σ H R->
  wpAny (model X.prog X.w) X.A (eval iter X.env) (fun v s1=>wpAny (model X.prog X.w) X.A (pyIter v) (IK X pins σ tg R) X.xe s1) X.xe s
theorem zA {M:Model} {A:Around} {E:Value->Shared->Prop} {s:Shared} {tg:Expr} {it:Addr} {u:Value} {o:Obj} {n:String} {vs:Array Value} {Q:Unit->Shared->Prop} (ho:s.heap.get? it=some o) (hc:o.cls= .type n) (hd:o.data= .fields vs)
  (hn:["enumerate","zip","dict_itemiterator","dict_reverseitemiterator","odict_iterator","itertools.zip_longest","itertools.pairwise"].contains n=false) (hQ:Q () s):wpAny M A (letOwnedTupleGo tg (.ref it) u) Q E s:=by
 unfold letOwnedTupleGo
 cases tg<;>first
  |exact wpAny_pure hQ
  |(cases u<;>first
    |exact wpAny_pure hQ
    |(refine wpAny_bind (wpAny_load ho ?_)
      rw[hc,hd]
      show wpAny M A (if (["enumerate","zip","dict_itemiterator","dict_reverseitemiterator","odict_iterator","itertools.zip_longest","itertools.pairwise"].contains n&&vs[0]? ==some (rawInt _))=true then _ else _) Q E s
      rw[if_neg (by intro h;rw[hn,Bool.false_and]at h;cases h)]
      exact wpAny_pure hQ))
def HE (K:PySem.W.Frag) (a:Addr):It:=
 ⟨fun i H=>∃xs x,fz K H a xs/\xs[i]? =some x,fun i H x H'=>H'=H/\∀xs,fz K H a xs->xs[i]? =some x,fun i H=>∃xs,fz K H a xs/\xs.length<=i⟩
def Ic (K:PySem.W.Frag) (a:Addr):It:=
 ⟨fun i H=>∃xs x,iH K H a xs/\xs[i]? =some x,fun i H x H'=>H'=H/\∀xs,iH K H a xs->xs[i]? =some x,fun i H=>∃xs,iH K H a xs/\xs.length<=i⟩
def Gp (lo:Int) (n:Nat):It:=⟨fun i _=>i<n,fun i H x H'=>H'=H/\x= .int (lo+i),fun i _=>n<=i⟩
theorem xW {P:Program} {w:World} {K:PySem.W.Frag} {tg:Expr} (a it:Addr):xV P w K tg (HE K a) [it] it (fun i h=>h.IsListIter it a i)where
 mem:=by simp
 obj:=fun i h st b hb=>by
  have e:b=it:=by simpa using hb
  subst e
  obtain⟨o,e,c,d⟩:=st
  exact⟨o,e,fun v z=>by rw[d]at z;cases z⟩
 keep:=fun i h h' st k=>st.at fun o e=>k it (by simp) o e
 item:=by
  intro X hP hw hK hc i pins s σ H E I hf st hg
  subst hP hw hK
  obtain⟨xs,x,hq,hx⟩:=hg
  obtain⟨its,rv,p,hz⟩:=I.list hq
  obtain⟨u,hu,ru⟩:=rv.get hx
  obtain⟨f0,f1,f2,f3,f4,f5⟩:=hf it (by simp)
  refine wpAny_pyNext_list_item st p.isList (x:=u) (by simpa using hu) fun h' st' sb=> ?_
  have I1:aM X pins σ H {s with heap:=h'}:=I.turned (t':=s.toks) (fun b o hb e=>(sb.2 b hb).trans e) f0 f1 f3 f4 f5
  obtain⟨o,e,c,d⟩:=id st'
  exact⟨u,rfl,zA (s:={s with heap:=h'}) e c d (by decide) ⟨x,H,I1,ru,⟨rfl,fun ys hy=>by rw[I.list_inj hy hq];exact hx⟩,st',fun b hb=>(hf b hb).1⟩⟩
 done:=by
  intro X hP hw hK hc i pins s σ H E I hf st hg
  subst hP hw hK
  obtain⟨xs,hq,hx⟩:=hg
  obtain⟨its,rv,p,hz⟩:=I.list hq
  obtain⟨f0,f1,f2,f3,f4,f5⟩:=hf it (by simp)
  have hl:=rv.length
  exact wpAny_pyNext_list_end (I.ok.hd hc) st p.isList (by simp;omega) fun h' eb=>⟨rfl,I.turned (t':=s.toks) (fun b o hb e=>eb b o hb e) f0 f1 f3 f4 f5⟩
 self:=fun _ _ _ _ _ st h=>wpAny_pyIter_listiter st h
theorem vj {P:Program} {w:World} {K:PySem.W.Frag} {tg:Expr} (a it:Addr):xV P w K tg (Ic K a) [it] it (fun i h=>h.IsTupleIter it a i)where
 mem:=by simp
 obj:=fun i h st b hb=>by
  have e:b=it:=by simpa using hb
  subst e
  obtain⟨o,e,c,d⟩:=st
  exact⟨o,e,fun v z=>by rw[d]at z;cases z⟩
 keep:=fun i h h' st k=>st.at fun o e=>k it (by simp) o e
 item:=by
  intro X hP hw hK hc i pins s σ H E I hf st hg
  subst hP hw hK
  obtain⟨xs,x,hq,hx⟩:=hg
  obtain⟨its,rv,p,hz⟩:=I.tuple hq
  obtain⟨u,hu,ru⟩:=rv.get hx
  obtain⟨f0,f1,f2,f3,f4,f5⟩:=hf it (by simp)
  refine wpAny_pyNext_tuple_item st (show s.heap.IsTuple a its.toArray from p) (x:=u) (by simpa using hu) fun h' st' sb=> ?_
  have I1:aM X pins σ H {s with heap:=h'}:=I.turned (t':=s.toks) (fun b o hb e=>(sb.2 b hb).trans e) f0 f1 f3 f4 f5
  obtain⟨o,e,c,d⟩:=id st'
  exact⟨u,rfl,zA (s:={s with heap:=h'}) e c d (by decide) ⟨x,H,I1,ru,⟨rfl,fun ys hy=>by rw[I.tuple_inj hy hq];exact hx⟩,st',fun b hb=>(hf b hb).1⟩⟩
 done:=by
  intro X hP hw hK hc i pins s σ H E I hf st hg
  subst hP hw hK
  obtain⟨xs,hq,hx⟩:=hg
  obtain⟨its,rv,p,hz⟩:=I.tuple hq
  obtain⟨f0,f1,f2,f3,f4,f5⟩:=hf it (by simp)
  have hl:=rv.length
  exact wpAny_pyNext_tuple_end (I.ok.hd hc) st (show s.heap.IsTuple a its.toArray from p) (by simp;omega) fun h' eb=>⟨rfl,I.turned (t':=s.toks) (fun b o hb e=>eb b o hb e) f0 f1 f3 f4 f5⟩
 self:=fun _ _ _ _ _ st h=>wpAny_pyIter_tupleiter st h
theorem vm {P:Program} {w:World} {K:PySem.W.Frag} {tg:Expr} (it:Addr) (lo:Int) (n:Nat):xV P w K tg (Gp lo n) [it] it (fun i h=>IsRangeIter h it (lo+(i:Nat)*1) ((n:Int) - (i:Nat)) 1)where
 mem:=by simp
 obj:=fun i h st b hb=>by
  have e:b=it:=by simpa using hb
  subst e
  exact⟨_,st,fun v z=>by
   have z':Data.fields _=Data.cell v:=z
   cases z'⟩
 keep:=fun i h h' st k=>k it (by simp) _ st
 item:=by
  intro X hP hw hK hc i pins s σ H E I hf st hg
  subst hP hw hK
  obtain⟨f0,f1,f2,f3,f4,f5⟩:=hf it (by simp)
  have W:=Walks.range (prog:=X.prog) (w:=X.w) (I.ok.hd hc) it lo 1 n
  refine W.item i s _ _ hg st fun v h' tk hv st' kk=> ?_
  obtain⟨t,rfl⟩:=hv
  have I1:aM X pins σ H {s with heap:=h',toks:=tk}:=I.turned (fun b o hb e=>kk b o (by simpa using hb) e) f0 f1 f3 f4 f5
  refine⟨_,rfl,zA (s:={s with heap:=h',toks:=tk}) (n:="range_iterator") st' rfl rfl (by decide) ⟨.int (lo+i),H,I1,⟨t,?_⟩,⟨rfl,rfl⟩,st',fun b hb=>(hf b hb).1⟩⟩
  rw[Int.mul_one]
 done:=by
  intro X hP hw hK hc i pins s σ H E I hf st hg
  subst hP hw hK
  obtain⟨f0,f1,f2,f3,f4,f5⟩:=hf it (by simp)
  exact wpAny_pyNext_range_end (I.ok.hd hc) st (by have:n<=i:=hg;omega) fun h' eb=>⟨rfl,I.turned (t':=s.toks) (fun b o hb e=>eb b o hb e) f0 f1 f3 f4 f5⟩
 self:=fun _ _ _ _ _ st h=>wpAny_pyIter_rangeiter st h
end L2
namespace L2
open PySem PySem.Spec PyProof.Rows
section
variable {X:Cx} {tg:Expr}
def Gq (K:PySem.W.Frag) (tl:TE):TI:=fun σ H R=>tl σ H fun x H1=>∃a,x= .ref a/\(∃xs,fz K H1 a xs)/\R (HE K a) H1
def Ie (K:PySem.W.Frag) (tl:TE):TI:=fun σ H R=>tl σ H fun x H1=>∃a,x= .ref a/\(∃xs,iH K H1 a xs)/\R (Ic K a) H1
theorem sm {l:Expr} {tl:TE} (hl:PE X l tl):PI X tg l (Gq X.K tl):=by
 intro pins s σ H R I h
 refine cP (hl pins s σ H _ I h) fun v s1 z_=> ?_
 obtain⟨x,H1,I1,r1,q1⟩:=z_
 obtain⟨a,e,⟨xs,hq⟩,q⟩:=q1
 subst e
 cases r1
 obtain⟨its,rv,p,hz⟩:=I1.list hq
 refine wpAny_pyIter_list p.isList ?_
 refine⟨s1.heap.objs.size,[s1.heap.objs.size],_,_,H1,rfl,I1.kept (t':=s1.toks) fun b o e=>Heap.get?_push_of_some _ e,xW a _,⟨_,Heap.get?_push_size _ rfl,rfl,rfl⟩,fun b hb=> ?_,q⟩
 have e:b=s1.heap.objs.size:=by simpa using hb
 subst e
 exact I1.fpOk (Nat.le_refl _) (I1.hok.fresh (Nat.le_refl _))
theorem EG {l:Expr} {tl:TE} (hl:PE X l tl):PI X tg l (Ie X.K tl):=by
 intro pins s σ H R I h
 refine cP (hl pins s σ H _ I h) fun v s1 z_=> ?_
 obtain⟨x,H1,I1,r1,q1⟩:=z_
 obtain⟨a,e,⟨xs,hq⟩,q⟩:=q1
 subst e
 cases r1
 obtain⟨its,rv,p,hz⟩:=I1.tuple hq
 refine wpAny_pyIter_tuple (show s1.heap.IsTuple a its.toArray from p) ?_
 refine⟨s1.heap.objs.size,[s1.heap.objs.size],_,_,H1,rfl,I1.kept (t':=s1.toks) fun b o e=>Heap.get?_push_of_some _ e,vj a _,⟨_,Heap.get?_push_size _ rfl,rfl,rfl⟩,fun b hb=> ?_,q⟩
 have e:b=s1.heap.objs.size:=by simpa using hb
 subst e
 exact I1.fpOk (Nat.le_refl _) (I1.hok.fresh (Nat.le_refl _))
theorem tY {pins:List (Addr×Obj)} {σ:St} {H:Hp} {s:Shared} {R:It->Hp->Prop} {E:Value->Shared->Prop} {lo hi:Int} {t u v:Tok} {tk:Nat} (I:aM X pins σ H s) (h1: -(2 ^62)<=lo) (h2:lo<2 ^62) (h3: -(2 ^62)<=hi) (h4:hi<2 ^62)
  (q:R (Gp lo (hi - lo).toNat) H):wpAny (model X.prog X.w) X.A (pyIter (.ref s.heap.objs.size)) (IK X pins σ tg R) E {s with heap:=s.heap.push {cls:= .type "range",data:= .fields #[.int lo t, .int hi u, .int 1 v]},toks:=tk}:=by
 refine wpAny_pyIter_range (IsRange.new ..) (small_one h1 h2 h3 h4) ?_
 have I1:aM X pins σ H {s with heap:=s.heap.push {cls:= .type "range",data:= .fields #[.int lo t, .int hi u, .int 1 v]},toks:=tk}:=I.kept fun b o e=>Heap.get?_push_of_some _ e
 refine⟨(s.heap.push {cls:= .type "range",data:= .fields #[.int lo t, .int hi u, .int 1 v]}).objs.size,[(s.heap.push {cls:= .type "range",data:= .fields #[.int lo t, .int hi u, .int 1 v]}).objs.size],_,_,H,rfl,
  I1.kept (t':=tk) fun b o e=>Heap.get?_push_of_some _ e,vm _ lo (hi - lo).toNat,?_,fun b hb=> ?_,q⟩
 ·have e1:lo+((0:Nat):Int)*1=lo:=by simp
  have e2:(((hi - lo).toNat:Nat):Int) - ((0:Nat):Int)=Builtin.Range.rangeSize lo hi 1:=by rw[rangeSize_one];split<;>omega
  show IsRangeIter _ _ (lo+((0:Nat):Int)*1) ((((hi - lo).toNat:Nat):Int) - ((0:Nat):Int)) 1
  rw[e1,e2]
  exact Heap.get?_push_size _ rfl
 ·have e:b=(s.heap.push {cls:= .type "range",data:= .fields #[.int lo t, .int hi u, .int 1 v]}).objs.size:=by simpa using hb
  subst e
  exact I1.fpOk (Nat.le_refl _) (I1.hok.fresh (Nat.le_refl _))
def Gr (ta:TA):TI:=fun σ H R=>ta σ H fun vs H1=>∃j:Int,vs=[.int j]/\ -(2 ^62)<=j/\j<2 ^62/\R (Gp 0 j.toNat) H1
def Gs (ta:TA):TI:=fun σ H R=>ta σ H fun vs H1=>∃i j:Int,vs=[.int i, .int j]/\(-(2 ^62)<=i/\i<2 ^62/\ -(2 ^62)<=j/\j<2 ^62)/\R (Gp i (j - i).toNat) H1
theorem xX {a:Expr} {ta:TA} {p pos:Pos} (hg:Gl X "range") (hm:X.mg "range"=none) (ha:PA X [a] ta) (hs:starEach [a] X.env=[(false,eval a X.env)]:=by rfl):PI X tg (.Call (.Name "range" p) [a] [] pos) (Gr ta):=by
 intro pins s σ H R I h
 refine Call_ (l_ I hg hm boot_range (PyProof.Rows.callWith_type1 (cP (ha pos pins s σ H _ I h) fun us s1 z_=> ?_) hs rfl))
 obtain⟨vs,H1,I1,r1,q1⟩:=z_
 obtain⟨j,e,q1,q2,q⟩:=q1
 subst e
 cases r1 with
 |cons r rr=>
  cases rr
  obtain⟨t,rfl⟩:=r
  exact call_range_1 (tY I1 (by omega) (by omega) q1 q2 (by simpa using q))
theorem xY {a b:Expr} {ta:TA} {p pos:Pos} (hg:Gl X "range") (hm:X.mg "range"=none) (ha:PA X [a,b] ta) (hs:starEach [a,b] X.env=[(false,eval a X.env),(false,eval b X.env)]:=by rfl) (hs2:starEach [b] X.env=[(false,eval b X.env)]:=by rfl):
  PI X tg (.Call (.Name "range" p) [a,b] [] pos) (Gs ta):=by
 intro pins s σ H R I h
 refine Call_ (l_ I hg hm boot_range (PyProof.Rows.callWith_type1 (cP (ha pos pins s σ H _ I h) fun us s1 z_=> ?_) (by rw[hs,hs2]) (by rw[hs2];rfl)))
 obtain⟨vs,H1,I1,r1,q1⟩:=z_
 obtain⟨i,j,e,⟨q1,q2,q3,q4⟩,q⟩:=q1
 subst e
 cases r1 with
 |cons r rr=>
  cases rr with
  |cons r' rr=>
   cases rr
   obtain⟨t,rfl⟩:=r
   obtain⟨t',rfl⟩:=r'
   exact call_range_2 (tY I1 q1 q2 q3 q4 q)
def Gu (wi:TI) (g:TG) (tb:TS):TS:=fun D σ H=>wi σ H fun J H1=>∃W:Nat->Nat->St->Hp->Prop,(∃m,W 0 m σ H1)/\∀i m σ H,W i m σ H->
 (J.stop i H/\D.nx σ H)\/(J.go i H/\∃N:St->Hp->Prop,(∀σ' H',N σ' H'->∃m',m'<m/\W (i+1) m' σ' H')/\∀x H',J.yld i H x H'->g x σ H' fun σ2 H2=>tb {D with nx:=N,ct:=N,bk:=D.nx} σ2 H2)
def pc (fp:List Addr) (h:Heap):List (Addr×Obj):=fp.filterMap fun b=>(h.get? b).map fun o=>(b,o)
theorem jZ {fp:List Addr} {h:Heap} {b:Addr} {o:Obj} (hb:b∈fp) (e:h.get? b=some o):(b,o)∈pc fp h:=List.mem_filterMap.mpr ⟨b,hb,by rw[e];rfl⟩
theorem xZ {fp:List Addr} {h:Heap} {p:Addr×Obj} (hp:p∈pc fp h):p.1∈fp/\h.get? p.1=some p.2:=by
 obtain⟨b,hb,e⟩:=List.mem_filterMap.mp hp
 cases q:h.get? b with
 |none=>rw[q]at e;cases e
 |some o=>
  rw[q]at e
  have e':(b,o)=p:=Option.some.inj e
  subst e'
  exact⟨hb,q⟩
theorem aM.pinned {pins:List (Addr×Obj)} {σ:St} {H:Hp} {s:Shared} {fp:List Addr} (I:aM X pins σ H s) (hf:∀b∈fp,mI X pins H b) (ho:∀b∈fp,∃o,s.heap.get? b=some o/\∀v,o.data≠ .cell v):aM X (pins++pc fp s.heap) σ H s:=
 I.pins_of fun p hp=>(List.mem_append.mp hp).elim (fun z=>I.pin p (List.mem_append_right _ z)) fun z=>by
  obtain⟨hb,e⟩:=xZ z
  obtain⟨f0,f1,f2,_⟩:=hf p.1 hb
  obtain⟨o,e',d⟩:=ho p.1 hb
  rw[e]at e';cases e'
  exact⟨e,f0,f1,f2,d⟩
theorem aM.unpinned {pins pl:List (Addr×Obj)} {σ:St} {H:Hp} {s:Shared} (I:aM X (pins++pl) σ H s):aM X pins σ H s:=I.pins_of fun p hp=>I.pin p (List.mem_append_right _ (List.mem_append_left _ hp))
theorem EH {iter:Expr} {body:List Stmt} {wi:TI} {g:TG} {tb:TS} {pos:Pos} (hp:PassesOwn (model X.prog X.w) X.A X.env X.xe) (hc:X.calm=true) (hi:PI X tg iter wi) (hg:PG X tg g) (hb:qJ X body tb)
  (hs:∀x,foldedSetIterable iter X.env x=pure x:=by intro _;rfl):PS X (.For tg iter body [] pos) (Gu wi g tb):=by
 intro pins s σ H D I h
 refine wpAny_For (cP (hi pins s σ H _ I h) fun v s1 h1=>cP h1 fun itv s2 h2=> ?_) hs
 obtain⟨it,fp,tn,J,H2,e,I2,T,st2,f2,W,⟨m0,w0⟩,turn⟩:=h2
 subst e
 have stat:∀{H':Hp},(∀b∈fp,H' b=none)->∀b∈fp,mI X pins H' b:=fun hn b hb=>⟨hn b hb,(f2 b hb).2⟩
 refine codeAny_forLoop_any (fun n s'=>∃i σ' H',aM X pins σ' H' s'/\tn i s'.heap/\(∀b∈fp,H' b=none)/\W i n σ' H') ?_ m0 ⟨0,σ,H2,I2,st2,fun b hb=>(f2 b hb).1,w0⟩
 rintro n s3 ⟨i,σ3,H3,I3,st3,fr3,w3⟩
 rcases turn i n σ3 H3 w3 with ⟨stop,qn⟩|⟨go,N,hN,step⟩
 ·refine wpAny_passesOwn hp (cP (T.done X rfl rfl rfl hc i pins s3 σ3 H3 X.xe I3 (stat fr3) st3 stop) fun r s4 z_=> ?_)
  obtain⟨hr,I4⟩:=z_
  subst hr
  exact wpAny_execs_nil ⟨σ3,H3,I4,qn⟩
 ·refine wpAny_passesOwn hp (cP (T.item X rfl rfl rfl hc i pins s3 σ3 H3 X.xe I3 (stat fr3) st3 go) fun r s4 z_=> ?_)
  obtain⟨u,hr,h4⟩:=z_
  subst hr
  refine wpAny_passesOwn hp (cP h4 fun _ s5 z_=> ?_)
  obtain⟨x,H5,I5,r5,y5,st5,fr5⟩:=z_
  have I5':=I5.pinned (stat fr5) (T.obj _ _ st5)
  refine wpAny_passesOwn hp (cP (hg _ s5 σ3 H5 x u _ I5' r5 (step x H5 y5)) fun _ s6 z_=> ?_)
  obtain⟨σ6,H6,I6,q6⟩:=z_
  refine wpAny_passesOwn hp (cP (hb _ s6 σ6 H6 _ I6 q6) fun f s7 q7=> ?_)
  have again:∀{σ7:St} {H7:Hp},aM X (pins++pc fp s5.heap) σ7 H7 s7->N σ7 H7->∃m,m<n/\∃i σ' H',aM X pins σ' H' s7/\tn i s7.heap/\(∀b∈fp,H' b=none)/\W i m σ' H':=fun {σ7 H7} I7 n7=>by
   obtain⟨m',hm,w7⟩:=hN σ7 H7 n7
   refine⟨m',hm,i+1,σ7,H7,I7.unpinned,T.keep _ _ _ st5 fun b hb o e=>(I7.pin (b,o) (List.mem_append_right _ (List.mem_append_right _ (jZ hb e)))).1,fun b hb=> ?_,w7⟩
   obtain⟨o,e,d⟩:=T.obj _ _ st5 b hb
   exact(I7.pin (b,o) (List.mem_append_right _ (List.mem_append_right _ (jZ hb e)))).2.1
  cases f with
  |next=>obtain⟨σ7,H7,I7,n7⟩:=q7;exact again I7 n7
  |cont=>obtain⟨σ7,H7,I7,n7⟩:=q7;exact again I7 n7
  |brk=>obtain⟨σ7,H7,I7,q7⟩:=q7;exact⟨σ7,H7,I7.unpinned,q7⟩
  |ret v=>obtain⟨x7,σ7,H7,I7,r7,q7⟩:=q7;exact⟨x7,σ7,H7,I7.unpinned,r7,q7⟩
end
end L2
namespace L2
open PySem PySem.Spec PyProof.Rows
abbrev R2:=V->V->Hp->VK->Prop
def kG (X:Cx) (f:Value->Value->Sem Value) (r:R2):Prop:=
 ∀(pins:List (Addr×Obj)) (s:Shared) (σ:St) (H:Hp) (x y:V) (v u:Value) (Q:VK),aM X pins σ H s->bJ x v->bJ y u->r x y H Q->
  wpAny (model X.prog X.w) X.A (f v u) (EP X pins σ Q) X.xe s
def HF (X:Cx) (f:Value->Sem Value) (r:V->Hp->VK->Prop):Prop:=
 ∀(pins:List (Addr×Obj)) (s:Shared) (σ:St) (H:Hp) (x:V) (v:Value) (Q:VK),aM X pins σ H s->bJ x v->r x H Q->
  wpAny (model X.prog X.w) X.A (f v) (EP X pins σ Q) X.xe s
def dH (X:Cx) (f:Value) (r:List V->Hp->VK->Prop):Prop:=
 ∀(pins:List (Addr×Obj)) (s:Shared) (σ:St) (H:Hp) (xs:List V) (us:List Value) (Q:VK),aM X pins σ H s->bg xs us->r xs H Q->
  wpAny (model X.prog X.w) X.A (call f us) (EP X pins σ Q) X.xe s
def Ig (X:Cx) (r:V->Hp->(Bool->Hp->Prop)->Prop):Prop:=
 ∀(pins:List (Addr×Obj)) (s:Shared) (σ:St) (H:Hp) (x:V) (v:Value) (Q:Bool->Hp->Prop),aM X pins σ H s->bJ x v->r x H Q->
  wpAny (model X.prog X.w) X.A (truthy v) (TP X pins σ Q) X.xe s
def HG (r:R2) (ta tb:TE):TE:=fun σ H Q=>ta σ H fun x H1=>tb σ H1 fun y H2=>r x y H2 Q
def J4 (r:V->Hp->VK->Prop) (ta:TE):TE:=fun σ H Q=>ta σ H fun x H1=>r x H1 Q
def rI (C:Int->Int->Prop) (g:Int->Int->V):R2:=fun x y H Q=>∃i j,x= .int i/\y= .int j/\C i j/\Q (g i j) H
def x_ (g:Int->Int->V):R2:=fun x y H Q=>∃i j,x= .int i/\y= .int j/\Q (g i j) H
def rU (g:Int->V):V->Hp->VK->Prop:=fun x H Q=>∃i,x= .int i/\Q (g i) H
section
variable {X:Cx} {a b c:Expr} {ta tb tc:TE} {pos:Pos}
theorem EI (ha:PE X a ta) (hb:PE X b tb) {pins:List (Addr×Obj)} {s:Shared} {σ:St} {H:Hp} {R:V->V->Hp->Prop} (I:aM X pins σ H s)
  (h:ta σ H fun x H1=>tb σ H1 fun y H2=>R x y H2) {Q:Value->Shared->Prop} {f:Value->Value->Sem Value}
  (hf:∀v u s2 x y H2,aM X pins σ H2 s2->bJ x v->bJ y u->R x y H2->wpAny (model X.prog X.w) X.A (f v u) Q X.xe s2):
  wpAny (model X.prog X.w) X.A (eval a X.env) (fun v s₁=>wpAny (model X.prog X.w) X.A (eval b X.env) (fun u s₂=>wpAny (model X.prog X.w) X.A (f v u) Q X.xe s₂) X.xe s₁) X.xe s:=by
 refine cP (ha pins s σ H _ I h) fun v s1 z_=> ?_
 obtain⟨x,H1,I1,r1,q1⟩:=z_
 refine cP (hb pins s1 σ H1 _ I1 q1) fun u s2 z_=> ?_
 obtain⟨y,H2,I2,r2,q2⟩:=z_
 exact hf v u s2 x y H2 I2 r1 r2 q2
theorem DM {op:Operator} {r:R2} (ho:kG X (binaryOp op) r) (ha:PE X a ta) (hb:PE X b tb):PE X (.BinOp a op b pos) (HG r ta tb):=by
 intro pins s σ H Q I h
 exact wpAny_BinOp (EI ha hb I h fun v u s2 x y H2 I2 rx ry q=>ho pins s2 σ H2 x y v u Q I2 rx ry q)
theorem DN {op:UnaryOp} {r:V->Hp->VK->Prop} (ho:HF X (unaryOp op) r) (ha:PE X a ta):PE X (.UnaryOp op a pos) (J4 r ta):=by
 intro pins s σ H Q I h
 exact UnaryOp_ (cP (ha pins s σ H _ I h) fun v s1 ⟨x,H1,I1,r1,q1⟩=>ho pins s1 σ H1 x v Q I1 r1 q1)
theorem Ih {f:Value->Value->Sem Value} {C:Int->Int->Prop} {g:Int->Int->Int}
  (rule:∀(i j:Int) (t u:Tok) (s:Shared) (Q:Value->Shared->Prop) (E:Value->Shared->Prop),C i j->Q (.int (g i j) s.toks) {s with toks:=s.toks+1}->wpAny (model X.prog X.w) X.A (f (.int i t) (.int j u)) Q E s):
  kG X f (rI C fun i j=> .int (g i j)):=by
 intro pins s σ H x y v u Q I rx ry h
 obtain⟨i,j,rfl,rfl,hc,q⟩:=h
 obtain⟨t,rfl⟩:=rx
 obtain⟨t',rfl⟩:=ry
 exact rule i j t t' s _ _ hc ⟨.int (g i j),H,I.tok _,⟨_,rfl⟩,q⟩
theorem Gv {f:Value->Value->Sem Value} {g:Int->Int->Int}
  (rule:∀(i j:Int) (t u:Tok) (s:Shared) (Q:Value->Shared->Prop) (E:Value->Shared->Prop),Q (.int (g i j) s.toks) {s with toks:=s.toks+1}->wpAny (model X.prog X.w) X.A (f (.int i t) (.int j u)) Q E s):
  kG X f (x_ fun i j=> .int (g i j)):=by
 intro pins s σ H x y v u Q I rx ry h
 obtain⟨i,j,rfl,rfl,q⟩:=h
 obtain⟨t,rfl⟩:=rx
 obtain⟨t',rfl⟩:=ry
 exact rule i j t t' s _ _ ⟨.int (g i j),H,I.tok _,⟨_,rfl⟩,q⟩
theorem EJ {f:Value->Value->Sem Value} {g:Int->Int->Bool}
  (rule:∀(i j:Int) (t u:Tok) (s:Shared) (Q:Value->Shared->Prop) (E:Value->Shared->Prop),Q (.bool (g i j)) s->wpAny (model X.prog X.w) X.A (f (.int i t) (.int j u)) Q E s):
  kG X f (x_ fun i j=> .bl (g i j)):=by
 intro pins s σ H x y v u Q I rx ry h
 obtain⟨i,j,rfl,rfl,q⟩:=h
 obtain⟨t,rfl⟩:=rx
 obtain⟨t',rfl⟩:=ry
 exact rule i j t t' s _ _ ⟨.bl (g i j),H,I,rfl,q⟩
def C8 (i j:Int):Prop:=0<j/\j<1073741824
def Gw (i j:Int):Prop:=0<=j/\j<=1000000/\i.natAbs<2 ^64
def y0 (i j:Int):Prop:=(-(2 ^64)<i/\i<2 ^64)\/(-(2 ^64)<j/\j<2 ^64)
theorem y0.ok {i j:Int} (h:y0 i j):IntMulOk i j:=by
 rcases h with ⟨h1,h2⟩|⟨h1,h2⟩
 ·exact .of_left (intBits_le_64 h1 h2)
 ·exact .of_right (intBits_le_64 h1 h2)
theorem EK:kG X (binaryOp .Add) (x_ fun i j=> .int (i+j)):=Gv fun _ _ _ _ _ _ _ q=>add_int q
theorem eG:kG X (binaryOp .Sub) (x_ fun i j=> .int (i - j)):=Gv fun _ _ _ _ _ _ _ q=>sub_int q
theorem EL:kG X (binaryOp .Mult) (rI y0 fun i j=> .int (i*j)):=Ih fun _ _ _ _ _ _ _ hc q=>mul_int q hc.ok
theorem eZ:kG X (binaryOp .FloorDiv) (rI C8 fun i j=> .int (i / j)):=Ih fun i j _ _ _ _ _ hc q=>by
 have h1:(0:Int)<j:=hc.1
 have h2:j<1073741824:=hc.2
 exact floordiv_int (by omega) (by rw[Int.fdiv_eq_ediv_of_nonneg i (by omega)];exact q) (.inl (PyProof.noPylong_small (by omega)))
theorem cM:kG X (binaryOp .Mod) (rI (fun _ j=>0<j) fun i j=> .int (i%j)):=Ih fun i j _ _ _ _ _ hc q=>by
 have h1:(0:Int)<j:=hc
 exact mod_int' (by omega) (by rw[Int.fmod_eq_emod_of_nonneg i (by omega)];exact q)
theorem J5 {f:Value->Sem Value} {g:Int->Int}
  (rule:∀(i:Int) (t:Tok) (s:Shared) (Q:Value->Shared->Prop) (E:Value->Shared->Prop),Q (.int (g i) s.toks) {s with toks:=s.toks+1}->wpAny (model X.prog X.w) X.A (f (.int i t)) Q E s):
  HF X f (rU fun i=> .int (g i)):=by
 intro pins s σ H x v Q I rx h
 obtain⟨i,rfl,q⟩:=h
 obtain⟨t,rfl⟩:=rx
 exact rule i t s _ _ ⟨.int (g i),H,I.tok _,⟨_,rfl⟩,q⟩
theorem jl:HF X (unaryOp .USub) (rU fun i=> .int (-i)):=J5 fun _ _ _ _ _ q=>neg_int q
end
def EM:V->V->Bool
 | .non, .non=>true| .non, .int _=>true| .int _, .non=>true| .non, .bl _=>true| .bl _, .non=>true| .non, .str _=>true| .str _, .non=>true
 | .int _, .int _=>true| .bl _, .bl _=>true| .str _, .str _=>true| .byt _, .byt _=>true
 | .int _, .str _=>true| .str _, .int _=>true| .bl _, .str _=>true| .str _, .bl _=>true
 |_,_=>false
def HH:R2:=fun x y H Q=>EM x y=true/\Q (.bl (decide (x=y))) H
def IL:R2:=fun x y H Q=>EM x y=true/\Q (.bl (!decide (x=y))) H
theorem wR {i j:Int}:decide (V.int i=V.int j)=(i==j):=by
 rw[Bool.eq_iff_iff]
 simp
theorem zB {i j:Bool}:decide (V.bl i=V.bl j)=(i==j):=by
 rw[Bool.eq_iff_iff]
 simp
theorem wU {i j:Str}:decide (V.str i=V.str j)=(i==j):=by
 rw[Bool.eq_iff_iff]
 simp
theorem wV {i j:Array UInt8}:decide (V.byt i=V.byt j)=(i.toList==j.toList):=by
 rw[Bool.eq_iff_iff]
 cases i
 cases j
 simp
section
variable {X:Cx} {a b c:Expr} {ta tb tc:TE} {pos:Pos}
theorem bZ {pins:List (Addr×Obj)} {σ:St} {H:Hp} {s:Shared} {Q:VK} {k k':Bool} (I:aM X pins σ H s) (q:Q (.bl k) H) (e:k=k'):EP X pins σ Q (.bool k') s:=by
 subst e
 exact⟨.bl k,H,I,rfl,q⟩
theorem dI:kG X (compareOp .Eq) HH:=by
 intro pins s σ H x y v u Q I rx ry h
 obtain⟨hs,q⟩:=h
 cases x with
 |non=>
  cases rx
  cases y with
  |non=>cases ry;exact PySem.EqNone.eq_none_none (bZ I q (by simp))
  |bl j=>cases ry;exact PySem.EqNone.eq_none_bool (bZ I q (by simp))
  |int j=>obtain⟨t',rfl⟩:=ry;exact PySem.EqNone.eq_none_int (bZ I q (by simp))
  |str j=>obtain⟨t',rfl⟩:=ry;exact PySem.EqNone.eq_none_str (bZ I q (by simp))
  |_=>exact absurd (show false=true from hs) Bool.false_ne_true
 |bl i=>
  cases rx
  cases y with
  |non=>cases ry;exact PySem.EqNone.eq_bool_none (bZ I q (by simp))
  |bl j=>cases ry;exact eq_bool (bZ I q zB)
  |str j=>obtain⟨t',rfl⟩:=ry;exact PySem.EqMixed.eq_bool_str (bZ I q (by simp))
  |_=>exact absurd (show false=true from hs) Bool.false_ne_true
 |int i=>
  obtain⟨t,rfl⟩:=rx
  cases y with
  |non=>cases ry;exact PySem.EqNone.eq_int_none (bZ I q (by simp))
  |int j=>obtain⟨t',rfl⟩:=ry;exact eq_int (bZ I q wR)
  |str j=>obtain⟨t',rfl⟩:=ry;exact PySem.EqMixed.eq_int_str (bZ I q (by simp))
  |_=>exact absurd (show false=true from hs) Bool.false_ne_true
 |str i=>
  obtain⟨t,rfl⟩:=rx
  cases y with
  |non=>cases ry;exact PySem.EqNone.eq_str_none (bZ I q (by simp))
  |bl j=>cases ry;exact PySem.EqMixed.eq_str_bool (bZ I q (by simp))
  |int j=>obtain⟨t',rfl⟩:=ry;exact PySem.EqMixed.eq_str_int (bZ I q (by simp))
  |str j=>obtain⟨t',rfl⟩:=ry;exact eq_str (bZ I q wU)
  |_=>exact absurd (show false=true from hs) Bool.false_ne_true
 |byt i=>
  obtain⟨t,rfl⟩:=rx
  cases y with
  |byt j=>obtain⟨t',rfl⟩:=ry;exact PySem.W.eq_bytes (bZ I q wV)
  |_=>exact absurd (show false=true from hs) Bool.false_ne_true
 |_=>cases y<;>exact absurd (show false=true from hs) Bool.false_ne_true
theorem j9:kG X (compareOp .NotEq) IL:=by
 intro pins s σ H x y v u Q I rx ry h
 obtain⟨hs,q⟩:=h
 cases x with
 |non=>
  cases rx
  cases y with
  |non=>cases ry;exact PySem.EqNone.ne_none_none (bZ I q (by simp))
  |bl j=>cases ry;exact PySem.EqNone.ne_none_bool (bZ I q (by simp))
  |int j=>obtain⟨t',rfl⟩:=ry;exact PySem.EqNone.ne_none_int (bZ I q (by simp))
  |str j=>obtain⟨t',rfl⟩:=ry;exact PySem.EqNone.ne_none_str (bZ I q (by simp))
  |_=>exact absurd (show false=true from hs) Bool.false_ne_true
 |bl i=>
  cases rx
  cases y with
  |non=>cases ry;exact PySem.EqNone.ne_bool_none (bZ I q (by simp))
  |bl j=>cases ry;exact ne_bool (bZ I q (congrArg not zB))
  |str j=>obtain⟨t',rfl⟩:=ry;exact PySem.EqMixed.ne_bool_str (bZ I q (by simp))
  |_=>exact absurd (show false=true from hs) Bool.false_ne_true
 |int i=>
  obtain⟨t,rfl⟩:=rx
  cases y with
  |non=>cases ry;exact PySem.EqNone.ne_int_none (bZ I q (by simp))
  |int j=>obtain⟨t',rfl⟩:=ry;exact ne_int (bZ I q (congrArg not wR))
  |str j=>obtain⟨t',rfl⟩:=ry;exact PySem.EqMixed.ne_int_str (bZ I q (by simp))
  |_=>exact absurd (show false=true from hs) Bool.false_ne_true
 |str i=>
  obtain⟨t,rfl⟩:=rx
  cases y with
  |non=>cases ry;exact PySem.EqNone.ne_str_none (bZ I q (by simp))
  |bl j=>cases ry;exact PySem.EqMixed.ne_str_bool (bZ I q (by simp))
  |int j=>obtain⟨t',rfl⟩:=ry;exact PySem.EqMixed.ne_str_int (bZ I q (by simp))
  |str j=>obtain⟨t',rfl⟩:=ry;exact ne_str (bZ I q (congrArg not wU))
  |_=>exact absurd (show false=true from hs) Bool.false_ne_true
 |byt i=>
  obtain⟨t,rfl⟩:=rx
  cases y with
  |byt j=>obtain⟨t',rfl⟩:=ry;exact PySem.W.ne_bytes (bZ I q (congrArg not wV))
  |_=>exact absurd (show false=true from hs) Bool.false_ne_true
 |_=>cases y<;>exact absurd (show false=true from hs) Bool.false_ne_true
theorem zC:kG X (compareOp .Lt) (x_ fun i j=> .bl (decide (i<j))):=EJ fun _ _ _ _ _ _ _ q=>lt_int q
theorem Gx:kG X (compareOp .LtE) (x_ fun i j=> .bl (decide (i<=j))):=EJ fun _ _ _ _ _ _ _ q=>le_int q
theorem pe:kG X (compareOp .Gt) (x_ fun i j=> .bl (decide (j<i))):=EJ fun _ _ _ _ _ _ _ q=>gt_int q
theorem vn:kG X (compareOp .Is) (fun x y H Q=>y= .non/\Q (.bl (decide (x= .non))) H):=by
 intro pins s σ H x y v u Q I rx ry h
 obtain⟨rfl,q⟩:=h
 cases ry
 refine is_none_gen (bZ I q ?_)
 cases x<;>first
  |(cases rx;rfl)
  |(obtain⟨t,rfl⟩:=rx;rfl)
theorem kG.or {f:Value->Value->Sem Value} {r r':R2} (h:kG X f r) (h':kG X f r'):kG X f (fun x y H Q=>r x y H Q\/r' x y H Q):=by
 intro pins s σ H x y v u Q I rx ry q
 rcases q with q|q
 ·exact h pins s σ H x y v u Q I rx ry q
 ·exact h' pins s σ H x y v u Q I rx ry q
theorem zD (b:Expr) {op:CmpOp} (h:op≠ .In:=by decide) (h2:op≠ .NotIn:=by decide):behindInMarks op b=false:=by
 have e1:(op==CmpOp.In)=false:=by cases op<;>first|rfl|exact absurd rfl h
 have e2:(op==CmpOp.NotIn)=false:=by cases op<;>first|rfl|exact absurd rfl h2
 cases b<;>simp[behindInMarks,e1,e2]
theorem C9 {op:CmpOp} {r:R2} (ho:kG X (compareOp op) r) (ha:PE X a ta) (hb:PE X b tb) (hm:behindInMarks op b=false):PE X (.Compare a [op] [b] pos) (HG r ta tb):=by
 intro pins s σ H Q I h
 exact wpAny_Compare1 (EI ha hb I h fun v u s2 x y H2 I2 rx ry q=>ho pins s2 σ H2 x y v u Q I2 rx ry q) hm
def DO (t:TE):TT:=fun σ H Q=>t σ H fun x H'=>∃k,x= .bl k/\Q k H'
theorem Ca {op:CmpOp} {r:R2} (ho:kG X (compareOp op) r) (ha:PE X a ta) (hb:PE X b tb) (hm:behindInMarks op b=false):PT X (.Compare a [op] [b] pos) (DO (HG r ta tb)):=by
 intro pins s σ H Q I h
 refine wpAny_isTrue_Compare1 (cP (ha pins s σ H _ I h) fun v s1 ⟨x,H1,I1,r1,q1⟩=>cP (hb pins s1 σ H1 _ I1 q1) fun u s2 ⟨y,H2,I2,r2,q2⟩=>
  cP (ho pins s2 σ H2 x y v u _ I2 r1 r2 q2) fun c s3 ⟨z,H3,I3,r3,k,e,q3⟩=> ?_) hm
 subst e
 cases r3
 exact wpAny_truthy_bool ⟨H3,I3,q3⟩
def Gy (K:PySem.W.Frag) (x:V) (H:Hp) (k:Bool):Prop:=
 match x with
 | .non=>k=false
 | .bl b=>k=b
 | .int i=>k=(i != 0)
 | .str y=>y.length<=sizeLine/\k=((y.length:Int) != 0)
 | .byt y=>y.size<=sizeLine/\k=((y.size:Int) != 0)
 | .ref p=>(∃xs,fz K H p xs/\k= !xs.isEmpty)\/(∃xs,iH K H p xs/\k= !xs.isEmpty)\/∃kvs,H p=some (.dK kvs)/\k= !kvs.isEmpty
 |_=>False
theorem vo {κ:Type} {kvs:List (κ×V)} {vs:List (κ×Value)} (r:KV kvs vs):(!vs.isEmpty)= !kvs.isEmpty:=by
 cases r<;>rfl
theorem pf {xs:List V} {its:List Value} (r:bg xs its):(!its.toArray.isEmpty)= !xs.isEmpty:=by
 cases r<;>simp
theorem nJ:(sizeLine:Nat)<2 ^63:=by rw[sizeLine_eq];decide
theorem EN:Ig X (fun x H Q=>∃k,Gy X.K x H k/\Q k H):=by
 intro pins s σ H x v Q I rx h
 obtain⟨k,e,q⟩:=h
 have hl:=nJ
 have hs:sizeLine=16777216:=sizeLine_eq
 cases x with
 |non=>
  cases rx
  have e':k=false:=e
  subst e'
  exact truthy_none ⟨H,I,q⟩
 |bl b=>
  cases rx
  have e':k=b:=e
  subst e'
  exact wpAny_truthy_bool ⟨H,I,q⟩
 |int i=>
  obtain⟨t,rfl⟩:=rx
  have e':k=(i != 0):=e
  subst e'
  exact PySem.P.truthy_int ⟨H,I,q⟩
 |str y=>
  obtain⟨t,rfl⟩:=rx
  obtain⟨hy,e'⟩:y.length<=sizeLine/\k=((y.length:Int) != 0):=e
  subst e'
  exact PySem.P.truthy_str (by omega) ⟨H,I.tok _,q⟩
 |byt y=>
  obtain⟨t,rfl⟩:=rx
  obtain⟨hy,e'⟩:y.size<=sizeLine/\k=((y.size:Int) != 0):=e
  subst e'
  exact PySem.W.truthy_bytes (by omega) ⟨H,I.tok _,q⟩
 |ref p=>
  cases rx
  have e':(∃xs,fz X.K H p xs/\k= !xs.isEmpty)\/(∃xs,iH X.K H p xs/\k= !xs.isEmpty)\/∃kvs,H p=some (.dK kvs)/\k= !kvs.isEmpty:=e
  rcases e' with ⟨xs,hx,e'⟩|⟨xs,hx,e'⟩|⟨kvs,hx,e'⟩
  ·subst e'
   obtain⟨its,r,pl,hz⟩:=I.list hx
   have hlen:=r.length
   exact wpAny_truthy_list pl.isList (by simp only[List.size_toArray];omega) ⟨H,I.tok _,by rw[pf r];exact q⟩
  ·subst e'
   obtain⟨its,r,pl,hz⟩:=I.tuple hx
   have hlen:=r.length
   exact truthy_tuple pl (by simp only[List.size_toArray];omega) ⟨H,I.tok _,by rw[pf r];exact q⟩
  ·subst e'
   obtain⟨hz,hS,vs,r,m⟩:kvs.length<=sizeLine/\(p==sysModules)=false/\∃vs,KV kvs vs/\s.heap.DictOf (bK X.prog X.w) p vs:=I.hok p _ hx
   have hlen:kvs.length=vs.length:=Paired.length r
   exact wpAny_truthy_dict hS m (by omega) ⟨H,I.tok _,by rw[vo r];exact q⟩
 |_=>exact(show False from e).elim
theorem zE (ha:PE X a ta) (he:∀whole,isTrue a X.env whole=(do let v<-whole;standAt a.pos;holding [v] (truthy v))):
  PT X a (fun σ H Q=>ta σ H fun x H'=>∃k,Gy X.K x H' k/\Q k H'):=by
 intro pins s σ H Q I h
 exact isTrue_plain (cP (ha pins s σ H _ I h) fun v s1 ⟨x,H1,I1,r1,q1⟩=>EN pins s1 σ H1 x v Q I1 r1 q1) (he _)
theorem jz {x:V} {us:List Value} (r:bg [x] us):∃u,us=[u]/\bJ x u:=by
 cases r with
 |cons r1 r2=>cases r2;exact⟨_,rfl,r1⟩
theorem tZ {x y:V} {us:List Value} (r:bg [x,y] us):∃u w',us=[u,w']/\bJ x u/\bJ y w':=by
 cases r with
 |cons r1 r2=>
  cases r2 with
  |cons r3 r4=>cases r4;exact⟨_,_,rfl,r1,r3⟩
theorem re (hc:X.calm=true):dH X (.builtin "max") (fun xs H Q=>∃i j,xs=[.int i, .int j]/\Q (.int (if j>i then j else i)) H):=by
 intro pins s σ H xs us Q I r h
 obtain⟨i,j,rfl,q⟩:=h
 obtain⟨u,w',rfl,⟨t,rfl⟩,⟨t',rfl⟩⟩:=tZ r
 refine max_two_ints (I.ok.hd hc) fun h' tk k=>⟨_,H,I.kept k,?_,q⟩
 by_cases hj:j>i
 ·rw[if_pos hj,if_pos hj];exact⟨_,rfl⟩
 ·rw[if_neg hj,if_neg hj];exact⟨_,rfl⟩
theorem rf (hc:X.calm=true):dH X (.builtin "min") (fun xs H Q=>∃i j,xs=[.int i, .int j]/\Q (.int (if j<i then j else i)) H):=by
 intro pins s σ H xs us Q I r h
 obtain⟨i,j,rfl,q⟩:=h
 obtain⟨u,w',rfl,⟨t,rfl⟩,⟨t',rfl⟩⟩:=tZ r
 refine min_two_ints (I.ok.hd hc) fun h' tk k=>⟨_,H,I.kept k,?_,q⟩
 by_cases hj:j<i
 ·rw[if_pos hj,if_pos hj];exact⟨_,rfl⟩
 ·rw[if_neg hj,if_neg hj];exact⟨_,rfl⟩
theorem lm:dH X (.type "int") (fun xs H Q=>(∃i,xs=[.int i]/\Q (.int i) H)\/∃k,xs=[.bl k]/\Q (.int (if k then 1 else 0)) H):=by
 intro pins s σ H xs us Q I r h
 rcases h with ⟨i,rfl,q⟩|⟨k,rfl,q⟩
 ·obtain⟨u,rfl,t,rfl⟩:=jz r
  exact call_int_int ⟨.int i,H,I,⟨_,rfl⟩,q⟩
 ·obtain⟨u,rfl,r1⟩:=jz r
  cases r1
  exact call_int_bool ⟨.int (if k then 1 else 0),H,I.tok _,⟨_,rfl⟩,q⟩
end
end L2
namespace L2
open PySem PySem.Spec PyProof.Rows
structure vp (h:Heap) (x dx C:Addr) (mA:Str->Option Value):Prop where
 obj:h.get? x=some (PySem.W.instObj C dx)
 ns:h.Ns1 dx mA
 ne:dx≠x
theorem ya {h:Heap} {dx:Addr} {mA:Str->Option Value} (n:h.Ns1 dx mA):∃od,h.get? dx=some od/\∀name,PySem.W.lookIn name od=some (mA name):=by
 obtain⟨o,es,ep,ho,hd,hk,_,hm⟩:=n
 refine⟨o,ho,fun name=> ?_⟩
 have e:=hm name
 unfold nsFind findBy at e
 rw[<-Array.find?_toList]at e
 unfold PySem.W.lookIn
 rw[hd]
 dsimp only
 split
 ·rename_i y q
  rw[q]at e
  exact congrArg some e
 ·rename_i q
  rw[q]at e
  have a:es.toList.any (·.refKey)=false:=by
   rw[List.any_eq_false]
   intro y hy
   obtain⟨z,t,hkey⟩:=hk y (Array.mem_toList_iff.mp hy)
   simp[DictEntry.refKey,hkey]
  have a':¬es.toList.any (·.refKey)=true:=by rw[a];exact Bool.false_ne_true
  rw[if_neg a']
  exact congrArg some e
theorem vp.look {h:Heap} {x dx C:Addr} {mA:Str->Option Value} (I:vp h x dx C mA):∃od,PySem.W.InstAt h x (PySem.W.instObj C dx) C (some od)/\∀name,PySem.W.lookIn name od=some (mA name):=
 let ⟨od,ho,hl⟩:=ya I.ns
 ⟨od,⟨I.obj,rfl,rfl,ho⟩,hl⟩
section
variable {prog:Program} {w:World} {A:Around} {E:Value->Shared->Prop} {s:Shared} {K:PySem.W.Frag} {x dx C f:Addr} {mA:Str->Option Value} {name:Str} {v:Value}
theorem Cb {expr:Bool} {Q:Value->Shared->Prop} (X:K.In s.heap) (I:vp s.heap x dx C mA) (hg:PySem.W.plainGet K C name=true) (hh:PySem.W.hasDictIn K C=true)
  (ha:PySem.W.findIn K (.ref C) name=some none) (hv:mA name=some v) (hv':PySem.W.handedIn v=true) (h:Q v {s with toks:=s.toks+1}):
  wpAny (model prog w) A (getAttr (.ref x) name expr) Q E s:=by
 obtain⟨od,J,hl⟩:=I.look
 exact PySem.W.get_value X J (PySem.W.plainGet_of hg).1 (PySem.W.findObj_own hh ha rfl (by rw[hl,hv])) hv' h
theorem zF {pl:Sem Bool} {Q:Value×List Value->Shared->Prop} (X:K.In s.heap) (I:vp s.heap x dx C mA) (hg:PySem.W.plainGet K C name=true)
  (hf:PySem.W.findIn K (.ref C) name=some (some (.ref f))) (ht:PySem.W.isFn K (.ref f)=true) (hv:mA name=none) (h:Q (.ref f,[.ref x]) s):
  wpAny (model prog w) A (getMethod (.ref x) name pl) Q E s:=by
 obtain⟨od,J,hl⟩:=I.look
 exact PySem.W.method_fn X J (PySem.W.plainGet_of hg).1 (PySem.W.plainGet_of hg).2 hf (beq_iff_eq.mp ht) (by show (PySem.W.lookIn name od).map (·.isSome)=some false;rw[hl,hv];rfl) h
theorem Cd {ns:List Str} {Q:Unit->Shared->Prop} (X:K.In s.heap) (I:vp s.heap x dx C mA)
  (hs:PySem.W.findIn K (.ref C) "__setattr__"=some (some (.builtin "object.__setattr__"))) (hp:PySem.W.plainOver K C=true) (ht:PySem.W.takerIn K C name=some none) (hh:PySem.W.hasDictIn K C=true)
  (hw:PySem.Within mA ns) (hsz:ns.length<=sizeLine)
  (h:∀h',vp h' x dx C (fun y=>if y=name then some v else mA y)->Heap.SameBut dx s.heap h'->Q () {s with heap:=h',toks:=s.toks+2}):
  wpAny (model prog w) A (setAttr (.ref x) name v) Q E s:=by
 obtain⟨od,J,hl⟩:=I.look
 refine PySem.W.set_plain X J hs (PySem.W.osa_open (s:={s with toks:=s.toks+1}) (r:=none) X J hp ht fun b=> ?_)
 obtain⟨cd,hc,hd'⟩:=PySem.W.any_some hh
 have hx:s.heap.get? x=some ⟨.ref C,some dx, .plain,#[]⟩:=I.obj
 refine wpAny_bind (wpAny_pure (wpAny_bind (wpAny_bind (wpAny_loadPart hx (wpAny_bind (PySem.W.Looks.here (s:={s with toks:=s.toks+1}) (PySem.W.looks_clsIn X hc) ?_))))))
 rw[hd']
 refine wpAny_pure (a:=some dx) (wpAny_bind (wpAny_pure (wpAny_bind ?_)))
 refine wpAny_nsSet1 (s:={s with toks:=s.toks+1}) I.ns fun h' hn2 hs2=> ?_
 obtain⟨oD,esD,epD,hoD,hdD,hcD⟩:=hn2.count (PySem.Within.cons name v hw)
 refine wpAny_bind (wpAny_lookBehind hoD (by rw[hdD];exact pastItsLine_dict (Nat.le_trans hcD (by rw[List.length_cons];omega))) ?_)
 exact wpAny_pure (h _ ⟨(hs2.2 _ (Ne.symm I.ne)).trans I.obj,hn2,I.ne⟩ hs2)
theorem zG {R:Result->Shared->Prop} {vs:List Value} {kw:List (Str×Value)} (X:K.In s.heap) (hm:PySem.W.makesIn K C=true)
  (hi:PySem.W.findIn K (.ref C) "__init__"=some (some (.ref f))) (hf:PySem.W.typeIn K (.ref f)=some (.type "function"))
  (h:codeAny (model prog w) (A.under (.builtin "type.__call__" ⟨.ref C::vs,kw⟩)) (.call (.ref f) ⟨.ref (s.heap.objs.size+1)::vs,kw⟩) (PySem.W.InitBack (s.heap.objs.size+1) R)
   {s with heap:=(s.heap.push PySem.W.emptyDict).push (PySem.W.instObj C s.heap.objs.size)}):
  codeAny (model prog w) A (.call (.ref C) ⟨vs,kw⟩) R s:=by
 obtain⟨hh,g,d,t,os⟩:=s
 exact PySem.W.make_core (PySem.W.makes_of X hm) (PySem.W.looks_findIn X hi) (fun self=>PySem.W.bind_fn X self hf) (.inl rfl) h
end
def jm (f:Str) (v:V):List (Str×V)->List (Str×V)
 |[]=>[(f,v)]
 |(g,x)::r=>if g=f then (g,v)::r else (g,x)::jm f v r
theorem ja (f g:Str) (v:V):∀fs:List (Str×V),(jm f v fs).lookup g=if g=f then some v else fs.lookup g
 |[]=>by
  show List.lookup g [(f,v)]=_
  by_cases h:g=f
  ·have hb:(g==f)=true:=beq_iff_eq.mpr h
   simp only[List.lookup,hb,if_pos h]
  ·have hb:(g==f)=false:=beq_eq_false_iff_ne.mpr h
   simp only[List.lookup,hb,if_neg h]
 |(k,x)::r=>by
  have ih:=ja f g v r
  rw[show jm f v ((k,x)::r)=(if k=f then (k,v)::r else (k,x)::jm f v r)from rfl]
  by_cases hk:k=f
  ·rw[if_pos hk]
   by_cases h:g=k
   ·have hb:(g==k)=true:=beq_iff_eq.mpr h
    simp only[List.lookup,hb,if_pos (h.trans hk)]
   ·have hb:(g==k)=false:=beq_eq_false_iff_ne.mpr h
    simp only[List.lookup,hb,if_neg (fun e:g=f=>h (e.trans hk.symm))]
  ·rw[if_neg hk]
   by_cases h:g=k
   ·have hb:(g==k)=true:=beq_iff_eq.mpr h
    simp only[List.lookup,hb,if_neg (fun e:g=f=>hk (h.symm.trans e))]
   ·have hb:(g==k)=false:=beq_eq_false_iff_ne.mpr h
    simp only[List.lookup,hb]
    exact ih
theorem nK (f:Str) (v:V):∀fs:List (Str×V),f∈(jm f v fs).map (·.1)/\∀g,g∈fs.map (·.1)->g∈(jm f v fs).map (·.1)
 |[]=>⟨by simp[jm],fun g h=>by simp at h⟩
 |(k,x)::r=>by
  obtain⟨i1,i2⟩:=nK f v r
  rw[show jm f v ((k,x)::r)=(if k=f then (k,v)::r else (k,x)::jm f v r)from rfl]
  by_cases hk:k=f
  ·rw[if_pos hk]
   subst hk
   exact⟨by simp,fun g h=>by simpa using h⟩
  ·rw[if_neg hk]
   refine⟨?_,fun g h=> ?_⟩
   ·rw[List.map_cons]
    exact List.mem_cons_of_mem _ i1
   ·rw[List.map_cons]at h ⊢
    rcases List.mem_cons.mp h with e|e
    ·exact List.mem_cons.mpr (.inl e)
    ·exact List.mem_cons_of_mem _ (i2 g e)
theorem o4 (f:Str) (v:V):∀fs:List (Str×V),(jm f v fs).length<=fs.length+1
 |[]=>by simp[jm]
 |(k,x)::r=>by
  have ih:=o4 f v r
  rw[show jm f v ((k,x)::r)=(if k=f then (k,v)::r else (k,x)::jm f v r)from rfl]
  by_cases hk:k=f
  ·rw[if_pos hk,List.length_cons,List.length_cons];omega
  ·rw[if_neg hk,List.length_cons,List.length_cons];omega
theorem kE.some_of {v:V} {o:Option Value} (r:kE (some v) o):∃u,o=some u/\bJ v u:=by
 cases o with
 |none=>exact(show False from r).elim
 |some u=>exact⟨u,rfl,r⟩
theorem kE.none_of {o:Option Value} (r:kE none o):o=none:=by
 cases o with
 |none=>rfl
 |some u=>exact(show False from r).elim
theorem yb {v:V} {u:Value} (r:bJ v u):PySem.W.handedIn u=true:=by
 cases v with
 |non=>cases (show u=Value.none from r);rfl
 |bl b=>cases (show u=Value.bool b from r);rfl
 |int i=>obtain⟨t,e⟩:=(show ∃t,u=Value.int i t from r);cases e;rfl
 |str x=>obtain⟨t,e⟩:=(show ∃t,u=Value.str x t from r);cases e;rfl
 |byt b=>obtain⟨t,e⟩:=(show ∃t,u=Value.bytes b t from r);cases e;rfl
 |flt b=>obtain⟨t,e⟩:=(show ∃t,u=Value.float b t from r);cases e;rfl
 |ref a=>cases (show u=Value.ref a from r);rfl
 |ty n=>cases (show u=Value.type n from r);rfl
section
variable {P:Program} {w:World} {H H':Hp} {h h':Heap} {a C dx:Addr} {fs fs':List (Str×V)}
theorem oW (hok:kF P w H h) (e:H a=some (.ins C dx fs)):∃mA,vp h a dx C mA/\(∀f,kE (fs.lookup f) (mA f))/\PySem.Within mA (fs.map (·.1))/\fs.length<=1000/\H dx=some (.own a):=by
 obtain⟨d,z,ne,ob,mA,n,r,q⟩:=(show cf P w H h a (.ins C dx fs)from hok a _ e)
 exact⟨mA,⟨ob,n,ne⟩,r,q,z,d⟩
end
structure wW (K:PySem.W.Frag) (C:Addr):Prop where
 pg:PySem.W.plainGet K C Str.empty=true
 hd:PySem.W.hasDictIn K C=true
 po:PySem.W.plainOver K C=true
 sa:PySem.W.findIn K (.ref C) "__setattr__"=some (some (.builtin "object.__setattr__"))
theorem wW.get {K:PySem.W.Frag} {C:Addr} (c:wW K C) (f:Str):PySem.W.plainGet K C f=true:=c.pg
def iq (K:PySem.W.Frag) (C:Addr) (f:Str):Prop:=PySem.W.findIn K (.ref C) f=some none
theorem iq.taker {K:PySem.W.Frag} {C:Addr} {f:Str} (n:iq K C f):PySem.W.takerIn K C f=some none:=by
 unfold PySem.W.takerIn
 rw[show PySem.W.findIn K (.ref C) f=some none from n]
 rfl
structure yc (K:PySem.W.Frag) (C:Addr) (m:Str) (f:Addr):Prop where
 at_:PySem.W.findIn K (.ref C) m=some (some (.ref f))
 fn:PySem.W.isFn K (.ref f)=true
 kp:PySem.W.keepIn K (.ref f)=true
section
variable {X:Cx} {pins:List (Addr×Obj)} {σ:St} {H:Hp} {s:Shared} {a C dx:Addr} {fs:List (Str×V)} {f:Str} {v:V} {A:Around} {E:Value->Shared->Prop}
theorem vq {b:Bool} {Q:Value->Shared->Prop} (I:aM X pins σ H s) (e:H a=some (.ins C dx fs)) (c:wW X.K C) (n:iq X.K C f) (l:fs.lookup f=some v)
  (h:∀u s',aM X pins σ H s'->bJ v u->Q u s'):wpAny (model X.prog X.w) A (getAttr (.ref a) f b) Q E s:=by
 obtain⟨mA,O,r,_,_,_⟩:=oW I.hok e
 obtain⟨u,hu,ru⟩:=kE.some_of (v:=v) (o:=mA f) (by rw[<-l];exact r f)
 exact Cb I.kIn O (c.get f) c.hd n hu (yb ru) (h u _ (I.tok _) ru)
theorem m4 {m:Str} {g:Addr} {pl:Sem Bool} {Q:Value×List Value->Shared->Prop} (I:aM X pins σ H s) (e:H a=some (.ins C dx fs)) (c:wW X.K C) (k:yc X.K C m g) (l:fs.lookup m=none)
  (h:Q (.ref g,[.ref a]) s):wpAny (model X.prog X.w) A (getMethod (.ref a) m pl) Q E s:=by
 obtain⟨mA,O,r,_,_,_⟩:=oW I.hok e
 have hn:mA m=none:=kE.none_of (by rw[<-l];exact r m)
 exact zF I.kIn O (c.get m) k.at_ k.fn hn h
theorem vt {y:V} {u:Value} {Q:Unit->Shared->Prop} (I:aM X pins σ H s) (e:H a=some (.ins C dx fs)) (c:wW X.K C) (n:iq X.K C f) (hl:fs.length<1000) (ry:bJ y u)
  (h:∀s',aM X pins σ (bY H a (.ins C dx (jm f y fs))) s'->Q () s'):wpAny (model X.prog X.w) A (setAttr (.ref a) f u) Q E s:=by
 obtain⟨mA,O,r,wi,_,ho⟩:=oW I.hok e
 have hz:(fs.map (·.1)).length<=sizeLine:=by rw[List.length_map,sizeLine_eq];omega
 refine Cd I.kIn O c.sa c.po n.taker c.hd wi hz fun h' O' sb=>h _ ?_
 have hd:∃o,h'.get? dx=some o:=let ⟨o,_,_,e',_⟩:=O'.ns;⟨o,e'⟩
 refine I.write (x:=a) (e:=dx) (by rw[e];exact True.intro) (.inr ho) (fun b q hb z=>(sb.2 b hb).trans z) hd ?_
 refine⟨by rw[aD O.ne];exact ho,?_,O.ne,O'.obj,_,O'.ns,fun g=> ?_,fun g hg=> ?_⟩
 ·have:=o4 f y fs;omega
 ·show kE ((jm f y fs).lookup g) (if g=f then some u else mA g)
  rw[ja]
  by_cases q:g=f
  ·rw[if_pos q,if_pos q];exact ry
  ·rw[if_neg q,if_neg q];exact r g
 ·by_cases q:g=f
  ·rw[q];exact(nK f y fs).1
  ·refine(nK f y fs).2 g (wi g fun z=>hg ?_)
   show (if g=f then some u else mA g)=none
   rw[if_neg q];exact z
theorem aM.made (I:aM X pins σ H s):aM X pins σ (bY (bY H s.heap.objs.size (.own (s.heap.objs.size+1))) (s.heap.objs.size+1) (.ins C s.heap.objs.size []))
  {s with heap:=(s.heap.push PySem.W.emptyDict).push (PySem.W.instObj C s.heap.objs.size)}:=by
 have e1:(s.heap.push PySem.W.emptyDict).get? s.heap.objs.size=some PySem.W.emptyDict:=Heap.get?_push_size s.heap rfl
 have e2:((s.heap.push PySem.W.emptyDict).push (PySem.W.instObj C s.heap.objs.size)).get? (s.heap.objs.size+1)=some (PySem.W.instObj C s.heap.objs.size):=by
  have:=Heap.get?_push_size (s.heap.push PySem.W.emptyDict) (o:=PySem.W.instObj C s.heap.objs.size) rfl
  rwa [Heap.size_push]at this
 have e3:(s.heap.push PySem.W.emptyDict).Ns s.heap.objs.size (fun _=>none):=⟨PySem.W.emptyDict,#[],_,e1,rfl,(fun e he=>absurd he (by simp)),fun _=>rfl⟩
 have I1:=I.laid (a:=s.heap.objs.size) (o:= .own (s.heap.objs.size+1)) (h':=s.heap.push PySem.W.emptyDict) (t':=s.toks) (fun b u q=>Heap.get?_push_of_some _ q) (Nat.le_refl _) ⟨_,e1⟩
 refine I1.laid (a:=s.heap.objs.size+1) (o:= .ins C s.heap.objs.size []) (t':=s.toks) (fun b u q=>Heap.get?_push_of_some _ q) (Nat.le_of_eq (Heap.size_push _ _)) ?_
 have ne:s.heap.objs.size≠s.heap.objs.size+1:=Nat.ne_of_lt (Nat.lt_succ_self _)
 refine⟨by rw[aD ne,aC],Nat.zero_le _,ne,e2,fun _=>none,(Heap.Ns1.of_empty e3).at fun o q=>Heap.get?_push_of_some _ q,fun _=>True.intro,fun y hy=>absurd rfl hy⟩
theorem Cf {prog:Program} {w:World} {env:Env} {e:Expr} {f:Str} {pos:Pos} {s:Shared} {Q:Value->Shared->Prop} (hb:attributeBase e f env (eval e env)=eval e env)
  (h:wpAny (model prog w) A (eval e env) (fun o s₁=>wpAny (model prog w) A (getAttr o f true) Q E s₁) E s):wpAny (model prog w) A (eval (.Attribute e f pos) env) Q E s:=
 Attribute_any_ h (by rw[arm_eval_Attribute,hb])
end
def Ii (K:PySem.W.Frag) (ta:TE) (f:Str):TE:=fun σ H Q=>ta σ H fun x H1=>∃a C dx fs v,x= .ref a/\H1 a=some (.ins C dx fs)/\wW K C/\iq K C f/\fs.lookup f=some v/\Q v H1
section
variable {X:Cx} {o e value:Expr} {f:Str} {pos pos' tpos:Pos} {ta tv:TE}
theorem EO (he:PE X e ta) (hb:attributeBase e f X.env (eval e X.env)=eval e X.env):PE X (.Attribute e f pos) (Ii X.K ta f):=by
 intro pins s σ H Q I h
 refine Cf hb (cP (he pins s σ H _ I h) fun u s1 z_=> ?_)
 obtain⟨x,H1,I1,rx,a,C,dx,fs,v,ex,ea,c,n,l,q⟩:=z_
 subst ex
 obtain rfl:u=Value.ref a:=rx
 exact vq I1 ea c n l fun u' s2 I2 ru=>⟨v,H1,I2,ru,q⟩
theorem DP {pl:Sem Bool} {m:Str} {apos:Pos} {args:List Expr} {pins:List (Addr×Obj)} {s:Shared} {σ:St} {H:Hp} {Q:Value->Shared->Prop} {te:TE} (he:PE X e te) (I:aM X pins σ H s)
  (h:te σ H fun x H1=>∃a C dx fs g,x= .ref a/\H1 a=some (.ins C dx fs)/\wW X.K C/\yc X.K C m g/\fs.lookup m=none/\
   ∀s1,aM X pins σ H1 s1->wpAny (model X.prog X.w) X.A (callWith pos (.ref g) [.ref a] (backTo pos (starEach args X.env)) (backToKw pos (keywordEach [] X.env))) Q X.xe s1)
  (ht:eval (.Call (.Attribute e m apos) args [] pos) X.env=(do
   let ov<-eval e X.env
   standAt apos.atName
   let (f,first)<-holding [ov] (getMethod ov m pl)
   callWith pos f first (backTo pos (starEach args X.env)) (backToKw pos (keywordEach [] X.env)))):
  wpAny (model X.prog X.w) X.A (eval (.Call (.Attribute e m apos) args [] pos) X.env) Q X.xe s:=by
 refine PySem.W.methodCall_KW (pl:=pl) (cP (he pins s σ H _ I h) fun u s1 z_=> ?_) ht
 obtain⟨x,H1,I1,rx,a,C,dx,fs,g,ex,ea,c,k,l,q⟩:=z_
 subst ex
 obtain rfl:u=Value.ref a:=rx
 exact m4 I1 ea c k l (q s1 I1)
end
section
variable {X:Cx} {pins:List (Addr×Obj)} {σ:St} {H:Hp} {s:Shared} {A:Around} {E:Value->Shared->Prop} {Q:Value->Shared->Prop} {c:Value} {b:Bool}
inductive mJ (K:PySem.W.Frag) (H:Hp):V->Value->Prop where
 |non:mJ K H .non (.type "NoneType")
 |bl (x:Bool):mJ K H (.bl x) (.type "bool")
 |int (i:Int):mJ K H (.int i) (.type "int")
 |str (x:Str):mJ K H (.str x) (.type "str")
 |flt (x:UInt64):mJ K H (.flt x) (.type "float")
 |lst {a:Addr} {xs:List V} (e:H a=some (.lst xs)):mJ K H (.ref a) (.type "list")
 |frz {a:Addr} {o:Obj} {xs:List V} (e:H a=some (.frz o (.lst xs))):mJ K H (.ref a) (.type "list")
 |tup {a:Addr} {xs:List V} (e:H a=some (.tup xs)):mJ K H (.ref a) (.type "tuple")
 |dK {a:Addr} {kvs:List (bx×V)} (e:H a=some (.dK kvs)):mJ K H (.ref a) (.type "dict")
 |dT {a:Addr} {kvs:List (List bx×V)} (e:H a=some (.dT kvs)):mJ K H (.ref a) (.type "dict")
 |ins {a C dx:Addr} {fs:List (Str×V)} (e:H a=some (.ins C dx fs)) (cl:wW K C) (ha:PySem.W.findIn K (.ref C) "__class__"=some (some (.builtin "object.__class__")))
   (hn:PySem.W.specialIn K (.builtin "object.__class__") "__get__"=some (some (.builtin "getset_descriptor.__get__"))) (htk:PySem.W.takesIn K (.builtin "object.__class__")=some true)
   (hm:PySem.W.mroIn K C (.type "object")=some true):mJ K H (.ref a) (.ref C)
theorem yd {x:V} {u t:Value} (I:aM X pins σ H s) (rx:bJ x u) (ty:mJ X.K H x t) (e:PySem.W.kitOne X.K t c=some b) (h:∀tk,Q (.bool b) {s with toks:=tk}):
  wpAny (model X.prog X.w) A (call (.builtin "isinstance") [u,c]) Q E s:=by
 cases ty with
 |non=>cases (show u=Value.none from rx);exact PySem.W.kia_one PySem.W.kitx_none I.kIn True.intro e (fun z=>nomatch z) h
 |bl y=>cases (show u=Value.bool y from rx);exact PySem.W.kia_one PySem.W.kitx_bool I.kIn True.intro e (fun z=>nomatch z) h
 |int i=>obtain⟨t,q⟩:=(show ∃t,u=Value.int i t from rx);cases q;exact PySem.W.kia_one PySem.W.kitx_int I.kIn True.intro e (fun z=>nomatch z) h
 |str y=>obtain⟨t,q⟩:=(show ∃t,u=Value.str y t from rx);cases q;exact PySem.W.kia_one PySem.W.kitx_str I.kIn True.intro e (fun z=>nomatch z) h
 |flt y=>obtain⟨t,q⟩:=(show ∃t,u=Value.float y t from rx);cases q;exact PySem.W.kia_one PySem.W.kitx_float I.kIn True.intro e (fun z=>nomatch z) h
 | @lst a xs ea=>
  cases (show u=Value.ref a from rx)
  obtain⟨_,_,n,_,h1⟩:=(show cf X.prog X.w H s.heap a (.lst xs)from I.hok a _ ea)
  exact PySem.W.kia_one PySem.W.kitx_list I.kIn ⟨_,h1,rfl⟩ e (fun z=>nomatch z) h
 | @frz a ob xs ea=>
  cases (show u=Value.ref a from rx)
  obtain⟨_,_,_,n,_,h1⟩:=(show cf X.prog X.w H s.heap a (.frz ob (.lst xs))from I.hok a _ ea)
  exact PySem.W.kia_one PySem.W.kitx_list I.kIn ⟨_,h1,rfl⟩ e (fun z=>nomatch z) h
 | @tup a xs ea=>
  cases (show u=Value.ref a from rx)
  obtain⟨_,_,_,p⟩:=(show cf X.prog X.w H s.heap a (.tup xs)from I.hok a _ ea)
  obtain⟨o,h1,h2,_⟩:=p
  exact PySem.W.kia_one PySem.W.kitx_tuple I.kIn ⟨o,h1,h2⟩ e (fun z=>nomatch z) h
 | @dK a kvs ea=>
  cases (show u=Value.ref a from rx)
  obtain⟨_,_,vs,_,p⟩:=(show cf X.prog X.w H s.heap a (.dK kvs)from I.hok a _ ea)
  obtain⟨o,es,ep,h1,h2,_⟩:=p
  exact PySem.W.kia_one PySem.W.kitx_dict I.kIn ⟨o,h1,h2.1⟩ e (fun z=>nomatch z) h
 | @dT a kvs ea=>
  cases (show u=Value.ref a from rx)
  obtain⟨_,_,xs,_,o,es,ep,h1,h2,_⟩:=(show cf X.prog X.w H s.heap a (.dT kvs)from I.hok a _ ea)
  exact PySem.W.kia_one PySem.W.kitx_dict I.kIn ⟨o,h1,h2.1⟩ e (fun z=>nomatch z) h
 | @ins a C dx fs ea cl ha hn htk hm=>
  cases (show u=Value.ref a from rx)
  obtain⟨mA,O,_⟩:=oW I.hok ea
  obtain⟨od,J,_⟩:=O.look
  exact PySem.W.kia_one (PySem.W.kitx_own (cl.get _) cl.hd ha hn htk hm) I.kIn J e (fun z=>nomatch z) h
end
end L2
namespace L2
open PySem PySem.Spec PyProof.Rows
structure eE (k:Nat) (A:Around):Prop where
 hd:A.handled=none
 dp:A.depth+3*k+5<recursionLimit
 un:A.units+16*k+200<cLine
theorem eE.mono {j k:Nat} {A:Around} (r:eE k A) (h:j<=k):eE j A:=⟨r.hd,by have:=r.dp;omega,by have:=r.un;omega⟩
theorem eE.deeper {k:Nat} {A:Around} (r:eE (k+1) A) (env:Env):eE k (A.deeper env):=
 ⟨r.hd,by have:=r.dp;show A.depth+1+3*k+5<_;omega,by have:=r.un;show A.units+3+16*k+200<_;omega⟩
theorem vv {A:Around} {C:Addr} {us:List Value} {kw:List (Str×Value)}:(A.under (.builtin "type.__call__" ⟨.ref C::us,kw⟩)).depth=A.depth+1:=by
 first|rfl|simp[Around.under,Code.weight,Code.isCreation,Code.isGuard,Code.isCaller,Code.frames,Code.isFrame,guardIds]
theorem vw {A:Around} {C:Addr} {us:List Value} {kw:List (Str×Value)}:(A.under (.builtin "type.__call__" ⟨.ref C::us,kw⟩)).units=A.units+1:=by
 first|rfl|simp[Around.under,Code.cUnits,Code.frames,Code.isFrame]
theorem eE.make {k:Nat} {A:Around} (r:eE (k+1) A) (C:Addr) (us:List Value) (kw:List (Str×Value)):eE k (A.under (.builtin "type.__call__" ⟨.ref C::us,kw⟩)):=
 ⟨r.hd,by have:=r.dp;rw[vv];omega,by have:=r.un;rw[vw];omega⟩
theorem eE.depth {k:Nat} {A:Around} (r:eE k A):A.depth<recursionLimit:=by have:=r.dp;omega
theorem eE.units {k:Nat} {A:Around} (r:eE k A):A.units+64<cLine:=by have:=r.un;omega
def Gz:TA:=fun _ H Q=>Q [] H
def GA (ta:TE) (tr:TA):TA:=fun σ H Q=>ta σ H fun x H1=>tr σ H1 fun xs H2=>Q (x::xs) H2
section
variable {X:Cx} {e:Expr} {es:List Expr} {te:TE} {t:TA} {pos:Pos}
theorem j_:PA X [] Gz:=fun _ _ _ _ H Q I h=>Calls.spliced_nil ⟨[],H,I, .nil,h⟩
theorem fO (ha:PE X e te) (hr:PA X es t) (hs:starEach (e::es) X.env=(false,eval e X.env)::starEach es X.env:=by rfl):PA X (e::es) (GA te t):=by
 intro pos pins s σ H Q I h
 rw[hs]
 show wpAny _ _ (spliced ((false,eval e X.env)::backTo pos (starEach es X.env))) _ _ s
 refine Calls.spliced_cons (cP (ha pins s σ H _ I h) fun u s1 z_=> ?_)
 obtain⟨x,H1,I1,r1,q1⟩:=z_
 exact cP (hr pos pins s1 σ H1 _ I1 q1) fun us s2 ⟨xs,H2,I2,r2,q2⟩=>⟨x::xs,H2,I2, .cons r1 r2,q2⟩
def Ij (t:TA):TE:=fun σ H Q=>t σ H fun xs H1=>xs.length<=sizeLine/\∀p,H1 p=none->Q (.ref p) (bY H1 p (.tup xs))
def Ik (t:TA):TE:=fun σ H Q=>t σ H fun xs H1=>xs.length<=sizeLine/\∀p,H1 p=none->Q (.ref p) (bY H1 p (.lst xs))
theorem EQ {x1} (h:PA X es t):PE X (.Tuple es x1 pos) (Ij t):=by
 intro pins s σ H Q I hq
 refine wpAny_Tuple_spliced (cP (h pos pins s σ H _ I hq) fun us s1 ⟨xs,H1,I1,r,z,q⟩=>⟨by rw[<-r.length];exact z,?_⟩)
 have hf:H1 s1.heap.objs.size=none:=I1.hok.fresh (Nat.le_refl _)
 refine⟨.ref s1.heap.objs.size,bY H1 s1.heap.objs.size (.tup xs),I1.laid (t':=s1.toks) (fun b u e=>Heap.get?_push_of_some _ e) (Nat.le_refl _) ?_,rfl,q _ hf⟩
 exact⟨z,us,r,⟨_,Heap.get?_push_size _ rfl,rfl,_,rfl,rfl⟩⟩
theorem zH (h:PA X es t):PE X (.List es pos) (Ik t):=by
 intro pins s σ H Q I hq
 refine wpAny_List_spliced (cP (h pos pins s σ H _ I hq) fun us s1 ⟨xs,H1,I1,r,z,q⟩=>⟨by rw[<-r.length];exact z,?_⟩)
 have hf:H1 s1.heap.objs.size=none:=I1.hok.fresh (Nat.le_refl _)
 refine⟨.ref s1.heap.objs.size,bY H1 s1.heap.objs.size (.lst xs),I1.laid (t':=s1.toks) (fun b u e=>Heap.get?_push_of_some _ e) (Nat.le_refl _) ?_,rfl,q _ hf⟩
 exact⟨z,us,0,r,Heap.get?_push_size _ rfl⟩
end
abbrev Sp:=List V->Hp->VK->XK->Prop
abbrev vz:=List Env->Hp->Shared->XK->Value->Shared->Prop
structure vA (P:Program) (w:World) (K:PySem.W.Frag) (mg:Str->Option Value) (base:Heap) (A:Around) (outer:List Env) (s:Shared) (H:Hp):Prop where
 frames:A.frames=some outer
 mod:Mod K mg base
 bs:∀b o,base.get? b=some o->s.heap.get? b=some o/\H b=none
 bsz:base.objs.size<=s.heap.objs.size
 funs:s.heap.FunFrames base outer
 frf:∀b∈oV outer,H b=none
 hok:kF P w H s.heap
 bare:AllBare s.gens
def CE (outer:List Env) (P:Program) (w:World) (H:Hp) (s:Shared) (Q:VK) (u:Value) (s':Shared):Prop:=
 ∃v H',s'.os=s.os/\AllBare s'.gens/\Un (oV outer) [] H H' s.heap s'.heap/\kF P w H' s'.heap/\bJ v u/\Q v H'
def CR (CX:vz) (outer:List Env) (P:Program) (w:World) (H:Hp) (s:Shared) (Q:VK) (E:XK) (r:Result) (s':Shared):Prop:=
 match r with
 | .ok (.ret u)=>CE outer P w H s Q u s'
 | .ok _=>False
 | .error e=>CX outer H s E e s'
structure i7 (P:Program) (w:World) (K:PySem.W.Frag) (mg:Str->Option Value) (base:Heap) (CX:vz) (k:Nat) (f:Addr) (fd:FuncData) (ps:List Str) (sp:Sp):Prop where
 len:∀vs H Q E,sp vs H Q E->vs.length=ps.length
 run:∀(A:Around) (outer:List Env) (s:Shared) (H:Hp) (args:Args) (us:List Value) (vs:List V) (Q:VK) (E:XK),eE k A->vA P w K mg base A outer s H->BindsTo s fd args (ps.zip us)->bg vs us->sp vs H Q E->
  codeAny (model P w) A (.call (.ref f) args) (CR CX outer P w H s Q E) s
theorem i7.mono {P:Program} {w:World} {K:PySem.W.Frag} {mg:Str->Option Value} {base:Heap} {CX:vz} {j k:Nat} {f:Addr} {fd:FuncData} {ps:List Str} {sp:Sp} (F:i7 P w K mg base CX j f fd ps sp) (h:j<=k):
  i7 P w K mg base CX k f fd ps sp:=⟨F.len,fun A outer s H args us vs Q E hr=>F.run A outer s H args us vs Q E (hr.mono h)⟩
theorem i7.imp {P:Program} {w:World} {K:PySem.W.Frag} {mg:Str->Option Value} {base:Heap} {CX:vz} {k:Nat} {f:Addr} {fd:FuncData} {ps:List Str} {sp sp':Sp} (F:i7 P w K mg base CX k f fd ps sp)
  (h:∀vs H Q E,sp' vs H Q E->sp vs H Q E):i7 P w K mg base CX k f fd ps sp':=
 ⟨fun vs H Q E q=>F.len vs H Q E (h _ _ _ _ q),fun A outer s H args us vs Q E hr he hb hv hs=>F.run A outer s H args us vs Q E hr he hb hv (h _ _ _ _ hs)⟩
theorem vA.make {P:Program} {w:World} {K:PySem.W.Frag} {mg:Str->Option Value} {base:Heap} {A:Around} {outer:List Env} {s:Shared} {H:Hp} (e:vA P w K mg base A outer s H) (C:Addr) (us:List Value) (kw:List (Str×Value)):
  vA P w K mg base (A.under (.builtin "type.__call__" ⟨.ref C::us,kw⟩)) outer s H:=⟨by first|exact e.frames|(simpa[Around.under,Code.envs,Code.isFrame,pushEnvs]using e.frames),e.mod,e.bs,e.bsz,e.funs,e.frf,e.hok,e.bare⟩
section
variable {X:Cx} {pins:List (Addr×Obj)} {σ:St} {H:Hp} {s s':Shared}
theorem aM.env0 (I:aM X pins σ H s):vA X.prog X.w X.K X.mg X.base X.A X.stack s H:=
 ⟨I.ok.frames,I.ok.mod,I.bs,Nat.le_trans I.ok.bsz I.sz,I.stack,I.stkFree,I.hok,I.bare⟩
theorem aM.after {Q:VK} {u:Value} (I:aM X pins σ H s) (h:CE X.stack X.prog X.w H s Q u s'):EP X pins σ Q u s':=by
 obtain⟨v,H',os,bare,un,hok,r,q⟩:=h
 obtain⟨hh,g,d,t,os'⟩:=s'
 obtain rfl:os'=s.os:=os
 exact⟨v,H',I.call (h':=hh) (g':=g) (d':=d) (t':=t) (ch:=[]) un hok bare (fun b z=>absurd z (by simp)),r,q⟩
end
def DQ (sp:Sp) (dvs:List V) (E:St->XK) (t:TA):TE:=fun σ H Q=>t σ H fun vs H1=>sp (vs++dvs) H1 Q (E σ)
def zI (C:Addr) (m:Str) (sp:Sp) (dvs:List V) (E:St->XK) (ta:TE) (t:TA):TE:=fun σ H Q=>ta σ H fun x H1=>∃a dx fs,x= .ref a/\H1 a=some (.ins C dx fs)/\fs.lookup m=none/\
 t σ H1 fun vs H2=>sp (x::(vs++dvs)) H2 Q (E σ)
def GB (C:Addr) (sp:Sp) (dvs:List V) (E:St->XK) (t:TA):TE:=fun σ H Q=>t σ H fun vs H1=>∀x dx,H1 x=none->H1 dx=none->dx≠x->
 sp (.ref x::(vs++dvs)) (bY (bY H1 dx (.own x)) x (.ins C dx [])) (fun v H2=>v= .non/\Q (.ref x) H2) (E σ)
def ix (K:PySem.W.Frag) (fd:FuncData) (ps:List Str) (ds:List Value):Prop:=
 ∀(s:Shared) (us:List Value),K.In s.heap->(us++ds).length=ps.length->BindsTo s fd ⟨us,[]⟩ (ps.zip (us++ds))
theorem ix.all {K:PySem.W.Frag} {fd:FuncData} {ps:List Str} (h:∀us:List Value,us.length=ps.length->bindArgs fd ⟨us,[]⟩=pure (ps.zip us)):ix K fd ps []:=fun s us _ hl=>by
 rw[List.append_nil]at hl ⊢
 exact .of_eq (h us hl)
def m5 (CX:vz) (X:Cx) (E:St->XK):Prop:=∀(pins:List (Addr×Obj)) (σ:St) (H:Hp) (s:Shared) (e:Value) (s':Shared),aM X pins σ H s->CX X.stack H s (E σ) e s'->X.xe e s'
section
variable {X:Cx} {CX:vz} {k:Nat} {f C:Addr} {fd:FuncData} {ps:List Str} {sp:Sp} {dvs:List V} {ds:List Value} {E:St->XK} {x m:Str} {p pos apos:Pos} {e o:Expr} {es:List Expr} {ta:TE} {t:TA}
theorem vB {pins:List (Addr×Obj)} {σ:St} {H:Hp} {s:Shared} {Q:VK} {us:List Value} {vs:List V} (F:i7 X.prog X.w X.K X.mg X.base CX k f fd ps sp) (hr:eE k X.A) (hb:ix X.K fd ps ds) (hd:bg dvs ds) (hx:m5 CX X E)
  (I:aM X pins σ H s) (r:bg vs us) (h:sp (vs++dvs) H Q (E σ)):wpAny (model X.prog X.w) X.A (call (.ref f) us) (EP X pins σ Q) X.xe s:=by
 have r2:bg (vs++dvs) (us++ds):=r.append hd
 have hl:(us++ds).length=ps.length:=by rw[<-r2.length];exact F.len _ _ _ _ h
 refine wpAny_call (codeAny_mono (F.run X.A X.stack s H ⟨us,[]⟩ (us++ds) (vs++dvs) Q (E σ) hr I.env0 (hb s us I.kIn hl) r2 h) fun r s' hq=> ?_)
 cases r with
 |error e=>exact hx pins σ H s e s' I hq
 |ok fl=>
  cases fl with
  |ret u=>exact I.after hq
  |next=>exact False.elim hq
  |brk=>exact False.elim hq
  |cont=>exact False.elim hq
theorem Cg (F:i7 X.prog X.w X.K X.mg X.base CX k f fd ps sp) (hr:eE k X.A) (hg:Gl X x) (hm:X.mg x=some (.ref f)) (hk:PySem.W.keepIn X.K (.ref f)=true) (hb:ix X.K fd ps ds) (hd:bg dvs ds) (hx:m5 CX X E)
  (ha:PA X (e::es) t) (hdb:(x==("__debug__":Str))=false:=by decide) (he:starEach (e::es) X.env=(false,eval e X.env)::starEach es X.env:=by rfl) (hpl:(backTo pos (starEach es X.env)).any (·.1)=false:=by rfl):
  PE X (.Call (.Name x p) (e::es) [] pos) (DQ sp dvs E t):=by
 intro pins s σ H Q I h
 refine wpAny_Call_Name_kw (mH I hg hm ?_ hdb)
 refine PySem.W.callWith_K (h₀:=X.base) I.ok.mod.kin hk (cP (ha pos pins s σ H _ I h) fun us s1 ⟨vs,H1,I1,r,q⟩=>⟨I1.kIn,?_⟩) he hpl
 exact vB F hr hb hd hx I1 r q
theorem Ch {pl:Sem Bool} (he:PE X o ta) (c:wW X.K C) (hm:yc X.K C m f) (F:i7 X.prog X.w X.K X.mg X.base CX k f fd ps sp) (hr:eE k X.A) (hb:ix X.K fd ps ds) (hd:bg dvs ds) (hx:m5 CX X E) (ha:PA X (e::es) t)
  (hst:starEach (e::es) X.env=(false,eval e X.env)::starEach es X.env:=by rfl) (hpl:(backTo pos (starEach es X.env)).any (·.1)=false:=by rfl)
  (ht:eval (.Call (.Attribute o m apos) (e::es) [] pos) X.env=(do
   let ov<-eval o X.env
   standAt apos.atName
   let (f,first)<-holding [ov] (getMethod ov m pl)
   callWith pos f first (backTo pos (starEach (e::es) X.env)) (backToKw pos (keywordEach [] X.env))):=by rfl):
  PE X (.Call (.Attribute o m apos) (e::es) [] pos) (zI C m sp dvs E ta t):=by
 intro pins s σ H Q I h
 refine PySem.W.methodCall_KW (pl:=pl) (cP (he pins s σ H _ I h) fun u s1 z_=> ?_) ht
 obtain⟨x,H1,I1,rx,a,dx,fs,ex,ea,l,q⟩:=z_
 subst ex
 obtain rfl:u=Value.ref a:=rx
 refine m4 I1 ea c hm l ?_
 refine PySem.W.callWith_K (first:=[.ref a]) (h₀:=X.base) I.ok.mod.kin hm.kp (cP (ha pos pins s1 σ H1 _ I1 q) fun us s2 ⟨vs,H2,I2,r,q2⟩=>⟨I2.kIn,?_⟩) hst hpl
 exact vB (us:= .ref a::us) (vs:= .ref a::vs) F hr hb hd hx I2 (.cons rfl r) q2
theorem zJ {pl:Sem Bool} (he:PE X o ta) (c:wW X.K C) (hm:yc X.K C m f) (F:i7 X.prog X.w X.K X.mg X.base CX k f fd ps sp) (hr:eE k X.A) (hb:ix X.K fd ps ds) (hd:bg dvs ds) (hx:m5 CX X E)
  (ht:eval (.Call (.Attribute o m apos) [] [] pos) X.env=(do
   let ov<-eval o X.env
   standAt apos.atName
   let (f,first)<-holding [ov] (getMethod ov m pl)
   callWith pos f first (backTo pos (starEach [] X.env)) (backToKw pos (keywordEach [] X.env))):=by rfl):
  PE X (.Call (.Attribute o m apos) [] [] pos) (zI C m sp dvs E ta Gz):=by
 intro pins s σ H Q I h
 refine PySem.W.methodCall_KW (pl:=pl) (cP (he pins s σ H _ I h) fun u s1 z_=> ?_) ht
 obtain⟨x,H1,I1,rx,a,dx,fs,ex,ea,l,q⟩:=z_
 subst ex
 obtain rfl:u=Value.ref a:=rx
 refine m4 I1 ea c hm l ?_
 exact PySem.W.callWith_K0 (first:=[.ref a]) I1.kIn hm.kp (vB (us:=[.ref a]) (vs:=[.ref a]) F hr hb hd hx I1 (.cons rfl .nil) q)
structure Mk (K:PySem.W.Frag) (C f:Addr):Prop where
 makes:PySem.W.makesIn K C=true
 init:PySem.W.findIn K (.ref C) "__init__"=some (some (.ref f))
 fn:PySem.W.isFn K (.ref f)=true
 kp:PySem.W.keepIn K (.ref C)=true
theorem zK {pins:List (Addr×Obj)} {σ:St} {H:Hp} {s:Shared} {Q:VK} {us:List Value} {vs:List V} (M:Mk X.K C f) (F:i7 X.prog X.w X.K X.mg X.base CX k f fd ps sp) (hr:eE (k+1) X.A) (hb:ix X.K fd ps ds) (hd:bg dvs ds)
  (hx:m5 CX X E) (I:aM X pins σ H s) (r:bg vs us)
  (h:∀x dx,H x=none->H dx=none->dx≠x->sp (.ref x::(vs++dvs)) (bY (bY H dx (.own x)) x (.ins C dx [])) (fun v H2=>v= .non/\Q (.ref x) H2) (E σ)):
  wpAny (model X.prog X.w) X.A (call (.ref C) us) (EP X pins σ Q) X.xe s:=by
 have hq:=h (s.heap.objs.size+1) s.heap.objs.size (I.hok.fresh (Nat.le_succ _)) (I.hok.fresh (Nat.le_refl _)) (Nat.ne_of_lt (Nat.lt_succ_self _))
 have I2:=aM.made (C:=C) I
 have r2:bg (V.ref (s.heap.objs.size+1)::(vs++dvs)) (Value.ref (s.heap.objs.size+1)::(us++ds)):= .cons rfl (r.append hd)
 have hl:(Value.ref (s.heap.objs.size+1)::us++ds).length=ps.length:=by
  have e:=r2.length
  rw[F.len _ _ _ _ hq]at e
  exact e.symm
 refine wpAny_call (zG (f:=f) I.kIn M.makes M.init (beq_iff_eq.mp M.fn) (codeAny_mono (F.run _ X.stack _ _ ⟨Value.ref (s.heap.objs.size+1)::us,[]⟩ (Value.ref (s.heap.objs.size+1)::(us++ds)) _ _ (E σ) (hr.make C us [])
  (I2.env0.make C us []) (hb _ (Value.ref (s.heap.objs.size+1)::us) I2.kIn hl) r2 hq) fun r s' hq'=> ?_))
 cases r with
 |error e=>exact hx pins σ _ _ e s' I2 hq'
 |ok fl=>
  cases fl with
  |ret u=>
   obtain⟨v,H',I3,rv,ev,q3⟩:=I2.after hq'
   subst ev
   exact⟨rv,⟨V.ref (s.heap.objs.size+1),H',I3,rfl,q3⟩⟩
  |next=>exact False.elim hq'
  |brk=>exact False.elim hq'
  |cont=>exact False.elim hq'
theorem Ci (M:Mk X.K C f) (F:i7 X.prog X.w X.K X.mg X.base CX k f fd ps sp) (hr:eE (k+1) X.A) (hg:Gl X x) (hm:X.mg x=some (.ref C)) (hb:ix X.K fd ps ds) (hd:bg dvs ds) (hx:m5 CX X E)
  (ha:PA X (e::es) t) (hdb:(x==("__debug__":Str))=false:=by decide) (he:starEach (e::es) X.env=(false,eval e X.env)::starEach es X.env:=by rfl) (hpl:(backTo pos (starEach es X.env)).any (·.1)=false:=by rfl):
  PE X (.Call (.Name x p) (e::es) [] pos) (GB C sp dvs E t):=by
 intro pins s σ H Q I h
 refine wpAny_Call_Name_kw (mH I hg hm ?_ hdb)
 refine PySem.W.callWith_K (h₀:=X.base) I.ok.mod.kin M.kp (cP (ha pos pins s σ H _ I h) fun us s1 ⟨vs,H1,I1,r,q⟩=>⟨I1.kIn,?_⟩) he hpl
 exact zK M F hr hb hd hx I1 r q
end
section
variable {X:Cx} {CX:vz} {k:Nat} {f C:Addr} {fd:FuncData} {ps ks:List Str} {sp:Sp} {E:St->XK} {x m:Str} {p pos apos kpos:Pos} {e o:Expr} {es:List Expr} {kws:List Keyword} {te ta:TE} {t tk:TA} {nm:Option Str}
variable {g:List Value->List Value->List Value} {gV:List V->List V->List V}
end
structure aI (N P:List Str) (sc:Scope):Prop where
 kind:sc.kind= .function
 co:sc.isCoroutine=false
 gen:sc.isGenerator=false
 nd:N.Nodup
 pre:N.take P.length=P
 par:∀x∈P,sc.names.lookup x=some .local\/sc.names.lookup x=some .cell
 nofree:∀y∈sc.names,y.2≠ .free
theorem rg {kindOf:Str->Option NameKind} {x:Str}:∀{binds:List (Str×Value)} {m:Str->Option Value},(∀v,(x,v)∉binds)->bindL kindOf binds m x=m x
 |[],_,_=>rfl
 |(n,v)::r,m,h=>by
  unfold bindL
  rw[rg fun w hw=>h w (List.mem_cons_of_mem _ hw)]
  split
  ·have:x≠n:=by rintro rfl;exact h v List.mem_cons_self
   simp[this]
  ·rfl
theorem rh {kindOf:Str->Option NameKind} {x:Str}:∀{binds:List (Str×Value)} {m:Str->Option Value},(∀v,(x,v)∉binds)->bindC kindOf binds m x=m x
 |[],_,_=>rfl
 |(n,v)::r,m,h=>by
  unfold bindC
  rw[rh fun w hw=>h w (List.mem_cons_of_mem _ hw)]
  split
  ·rfl
  ·have:x≠n:=by rintro rfl;exact h v List.mem_cons_self
   simp[this]
theorem rj {kindOf:Str->Option NameKind} {x:Str} {v:Value}:∀{P:List Str} {vs:List Value} {i:Nat} {m:Str->Option Value},P.Nodup->P[i]? =some x->vs[i]? =some v->kindOf x=some .local->
  bindL kindOf (P.zip vs) m x=some v
 |[],_,_,_,_,h,_,_=>by simp at h
 |_::_,[],_,_,_,_,h,_=>by simp at h
 |p::P,w::vs,0,m,nd,h1,h2,hk=>by
  simp at h1 h2;subst h1;subst h2
  show bindL kindOf ((p,w)::P.zip vs) m p=_
  unfold bindL
  rw[rg fun v hv=>(List.nodup_cons.mp nd).1 (List.of_mem_zip hv).1,if_pos hk]
  simp
 |p::P,w::vs,i+1,m,nd,h1,h2,hk=>by
  show bindL kindOf ((p,w)::P.zip vs) m x=_
  unfold bindL
  exact rj (i:=i) (List.nodup_cons.mp nd).2 (by simpa using h1) (by simpa using h2) hk
theorem rm {kindOf:Str->Option NameKind} {x:Str} {v:Value}:∀{P:List Str} {vs:List Value} {i:Nat} {m:Str->Option Value},P.Nodup->P[i]? =some x->vs[i]? =some v->kindOf x≠some .local->
  bindC kindOf (P.zip vs) m x=some v
 |[],_,_,_,_,h,_,_=>by simp at h
 |_::_,[],_,_,_,_,h,_=>by simp at h
 |p::P,w::vs,0,m,nd,h1,h2,hk=>by
  simp at h1 h2;subst h1;subst h2
  show bindC kindOf ((p,w)::P.zip vs) m p=_
  unfold bindC
  rw[rh fun v hv=>(List.nodup_cons.mp nd).1 (List.of_mem_zip hv).1,if_neg hk]
  simp
 |p::P,w::vs,i+1,m,nd,h1,h2,hk=>by
  show bindC kindOf ((p,w)::P.zip vs) m x=_
  unfold bindC
  exact rm (i:=i) (List.nodup_cons.mp nd).2 (by simpa using h1) (by simpa using h2) hk
def du (N:List Str) (vs:List V):St:=vs.map some++List.replicate (N.length - vs.length) none
def kI (CX:vz) (P:Program) (w:World) (K:PySem.W.Frag) (mg:Str->Option Value) (base:Heap) (N:List Str) (qual:Str) (scope:Scope) (f:Addr) (cd:Value) (A:Around) (outer:List Env) (s:Shared) (H:Hp) (E:XK):Cx where
 prog:=P
 w:=w
 K:=K
 mg:=mg
 base:=base
 A:=A.deeper (envOfC qual scope s.heap.objs.size f cd)
 N:=N
 s₀:=s
 H₀:=H
 env:=envOfC qual scope s.heap.objs.size f cd
 outer:=outer
 stack:=envOfC qual scope s.heap.objs.size f cd::outer
 ex:=[]
 calm:=true
 fn:=fun _=>true
 pn:=[]
 xe:=fun e s'=>wpAny (model P w) (A.deeper (envOfC qual scope s.heap.objs.size f cd)) (leaving (envOfC qual scope s.heap.objs.size f cd) e) (fun _ s''=>CX outer H s E e s'') (fun e' s''=>CX outer H s E e' s'') s'
theorem t_ {sc:Scope} {n:Nat} {x:Str} (h:sc.names.lookup x=some .cell):∃c,(cellsFrom n sc.names []).lookup x=some c:=by
 have q:=PySem.W.cellsFrom_some sc.names n [] (.inl h)
 exact Option.isSome_iff_exists.mp q
theorem ye {CX:vz} {P:Program} {w:World} {K:PySem.W.Frag} {mg:Str->Option Value} {base:Heap} {N ps:List Str} {qual:Str} {scope:Scope} {f:Addr} {cd:Value} {A:Around} {outer:List Env} {s s1:Shared} {H:Hp} {E:XK} {us:List Value} {vs:List V}
  (S:aI N ps scope) (hd:A.handled=none) (e0:vA P w K mg base A outer s H) (hl:vs.length=ps.length) (r:bg vs us)
  (x:InCallC s s.heap.objs.size (bindL (envOfC qual scope s.heap.objs.size f cd).kindOf (ps.zip us) fun _=>none) (cellsFrom (s.heap.objs.size+1) scope.names []) (bindC (envOfC qual scope s.heap.objs.size f cd).kindOf (ps.zip us) fun _=>none) s1):
  aM (kI CX P w K mg base N qual scope f cd A outer s H E) [] (du N vs) H s1:=by
 have hpl:ps.length<=N.length:=by have:=congrArg List.length S.pre;rw[List.length_take]at this;omega
 obtain⟨h1,tk,rfl,hk⟩:=x.done
 have noA:∀b:Addr,b∉(kI CX P w K mg base N qual scope f cd A outer s H E).ex:=fun b z=>absurd (show b∈([]:List Addr)from z) (by simp)
 refine⟨⟨e0.mod,S.kind,rfl,rfl,Nat.le_refl _,fun y z c h1 h2=> ?_,fun y hy=> ?_,fun y c _ h=> ?_,fun _=>hd,Around.frames_deeper e0.frames, .inr ⟨rfl,rfl⟩,fun b z=>absurd z (noA b),e0.bs,e0.bsz,fun b _ _=>noA b,fun b z=>absurd z (noA b),e0.funs,e0.frf⟩,
  rfl,e0.bare,Un.kept hk,⟨_,x.toInCall.ns,fun i y v h1 h2 h3=> ?_⟩,fun y c h=>⟨_,x.cell y c h⟩,e0.hok.fresh (Nat.le_refl _),fun y c h=> ?_,fun p hp=>absurd (show p∈([]:List (Addr×Obj))from hp) (by simp),e0.hok.kept hk,?_⟩
 ·exact name_of_addr x.apart (PySem.mem_of_lookup h1) (PySem.mem_of_lookup h2)
 ·have hy:scope.names.lookup y=some .cell\/scope.names.lookup y=some .free:=hy
  rcases hy with hy|hy
  ·exact t_ hy
  ·exact absurd rfl (S.nofree _ (PySem.mem_of_lookup hy))
 ·exact Nat.le_of_lt (x.above y c (PySem.mem_of_lookup h))
 ·have hi:i<vs.length:=by
   unfold du at h2
   by_cases hi:i<vs.length
   ·exact hi
   ·rw[List.getElem?_append_right (by simpa using hi)]at h2
    rw[List.getElem?_replicate]at h2
    split at h2<;>cases h2
  have ha:vs[i]? =some v:=by
   unfold du at h2
   rw[List.getElem?_append_left (by simpa using hi),List.getElem?_map]at h2
   cases e:vs[i]? with
   |none=>rw[e]at h2;cases h2
   |some a=>rw[e]at h2;cases h2;rfl
  obtain⟨u,hu,rv⟩:=r.get ha
  have hp:ps[i]? =some y:=by
   rw[<-S.pre,List.getElem?_take_of_lt (by omega)];exact h1
  have ndP:ps.Nodup:=by rw[<-S.pre];exact S.nd.sublist (List.take_sublist _ _)
  refine⟨u,rv,?_⟩
  rcases S.par y (List.mem_of_getElem? hp)with k|k
  ·exact .inl ⟨k,rj ndP hp hu k⟩
  ·obtain⟨c,e⟩:=t_ (n:=s.heap.objs.size+1) k
   refine .inr ⟨.inl k,c,e,?_⟩
   have q:=x.cell y c e
   rw[rm ndP hp hu (by show scope.names.lookup y≠_;rw[k];decide)]at q
   exact q
 ·exact e0.hok.fresh (Nat.le_of_lt (x.above y c (PySem.mem_of_lookup h)))
 ·unfold du
  show _=N.length
  rw[List.length_append,List.length_map,List.length_replicate]
  omega
theorem DR {CX:vz} {P:Program} {w:World} {K:PySem.W.Frag} {mg:Str->Option Value} {base:Heap} {k:Nat} {f:Addr} {name qual:Str} {params:Arguments} {body:List Stmt} {scope:Scope} {dV kV doc pm cdv ct oc:Value} {an od:Option Addr}
  {osl:Array (Option Value)} {N ps:List Str} {sp:Sp} (lk:K.lookup f=some ⟨oc,od, .func (PySem.W.fnOf name qual params body scope dV kV doc pm an cdv ct),osl⟩) (hcd:PySem.W.codeIn K cdv qual=true) (S:aI N ps scope)
  (len:∀vs H Q E,sp vs H Q E->vs.length=ps.length)
  (hbody:∀(A:Around) (outer:List Env) (s:Shared) (H:Hp) (vs:List V) (Q:VK) (E:XK),eE k (A.deeper (envOfC qual scope s.heap.objs.size f cdv))->sp vs H Q E->
   ∃t,qJ (kI CX P w K mg base N qual scope f cdv A outer s H E) body t/\t {nx:=fun _ H'=>Q .non H',rt:=Q} (du N vs) H):
  i7 P w K mg base CX (k+1) f (PySem.W.fnOf name qual params body scope dV kV doc pm an cdv ct) ps sp:=by
 refine⟨len,fun A outer s H args us vs Q E hr e0 hb r hsp=> ?_⟩
 have hl:=len _ _ _ _ hsp
 have KX:K.In s.heap:=e0.mod.kin.keeps fun b o e=>(e0.bs b o e).1
 have lim:s.heap.NoLimit:=e0.mod.nolimit.keeps fun b o e=>(e0.bs b o e).1
 have hkind:∀y∈ps.zip us,scope.names.lookup y.1=some .local\/(scope.names.lookup y.1=some .cell/\((cellsFrom (s.heap.objs.size+1) scope.names []).lookup y.1).isSome=true):=fun ⟨n,v⟩ hy=>by
  rcases S.par n (List.of_mem_zip hy).1 with q|q
  ·exact .inl q
  ·exact .inr ⟨q,PySem.W.cellsFrom_some _ _ _ (.inl q)⟩
 refine codeAny_call_function hr.depth (KX _ _ lk) rfl S.co S.gen rfl (PySem.W.codeRec_of KX hcd) (hb _ _ _ _ ?_)
 refine wpAny_newFunctionEnv_cells S.kind hkind fun env he s1 x=> ?_
 subst he
 refine⟨lim.keeps x.toInCall.keep,codeAny_func ?_⟩
 obtain⟨t,ht,hq⟩:=hbody A outer s H vs Q E (hr.deeper _) hsp
 have I:aM (kI CX P w K mg base N qual scope f cdv A outer s H E) [] (du N vs) H s1:=ye S hr.hd e0 hl r x
 refine wpAny_mono (ht [] s1 (du N vs) H _ I hq) (fun fl s' hs=> ?_) fun e s' hs=>hs
 have fin:∀{σ':St} {H':Hp} {v:V} {u:Value},aM (kI CX P w K mg base N qual scope f cdv A outer s H E) [] σ' H' s'->bJ v u->Q v H'->CE outer P w H s Q u s':=
  fun {σ' H' v u} J rv q=>⟨v,H',J.os,J.bare,J.base,J.hok,rv,q⟩
 cases fl with
 |ret u=>
  obtain⟨v,σ',H',J,rv,q⟩:=hs
  exact fin J rv q
 |next=>
  obtain⟨σ',H',J,q⟩:=hs
  exact fin (v:=V.non) (u:=Value.none) J rfl q
 |brk=>
  obtain⟨_,_,_,q⟩:=hs
  exact False.elim q
 |cont=>
  obtain⟨_,_,_,q⟩:=hs
  exact False.elim q
end L2
namespace L2
open PySem PySem.Spec PyProof.Rows
section
variable {X:Cx} {x:Str} {p pos:Pos} {e:Expr} {es:List Expr} {t:TA} {id T:String} {r:List V->Hp->VK->Prop}
def Il (r:List V->Hp->VK->Prop) (t:TA):TE:=fun σ H Q=>t σ H fun vs H1=>r vs H1 Q
theorem mK (hc:dH X (.builtin id) r) (hg:Gl X x) (hm:X.mg x=none) (hv:bootBuiltins x=some (.builtin id)) (ha:PA X (e::es) t) (hn:x≠"__name__":=by decide) (hdb:(x==("__debug__":Str))=false:=by decide)
  (he:starEach (e::es) X.env=(false,eval e X.env)::starEach es X.env:=by rfl) (hpl:(backTo pos (starEach es X.env)).any (·.1)=false:=by rfl):PE X (.Call (.Name x p) (e::es) [] pos) (Il r t):=by
 intro pins s σ H Q I h
 refine wpAny_Call_Name_kw (l_ I hg hm hv ?_ hn hdb)
 exact PyProof.Rows.callWith_builtin1 (cP (ha pos pins s σ H _ I h) fun us s1 ⟨vs,H1,I1,r1,q1⟩=>hc pins s1 σ H1 vs us Q I1 r1 q1) he hpl
theorem nL (hc:dH X (.type T) r) (hg:Gl X x) (hm:X.mg x=none) (hv:bootBuiltins x=some (.type T)) (ha:PA X (e::es) t) (hn:x≠"__name__":=by decide) (hdb:(x==("__debug__":Str))=false:=by decide)
  (he:starEach (e::es) X.env=(false,eval e X.env)::starEach es X.env:=by rfl) (hpl:(backTo pos (starEach es X.env)).any (·.1)=false:=by rfl):PE X (.Call (.Name x p) (e::es) [] pos) (Il r t):=by
 intro pins s σ H Q I h
 refine wpAny_Call_Name_kw (l_ I hg hm hv ?_ hn hdb)
 exact PyProof.Rows.callWith_type1 (cP (ha pos pins s σ H _ I h) fun us s1 ⟨vs,H1,I1,r1,q1⟩=>hc pins s1 σ H1 vs us Q I1 r1 q1) he hpl
end
end L2
namespace HT
open PySem PyProof.Rows
section
open PySem.SeqAt
open PySem.AutoSeq1 (wpAny_loadPart')
open PySem.MeetsSeq PySem.MeetsSeq2 PySem.MeetsSeq3
end
section
variable {prog:Program} {w:World} {A:Around} {E:Value->Shared->Prop} {s:Shared}
theorem Cj {t b:Addr} {vs ws:List Value} {Q:Value->Shared->Prop} (ht:IsTup s.heap t vs.toArray) (hb:IsTup s.heap b ws.toArray) (hv:vs≠[])
  (h1:ws=[]->Q (.ref t) s) (h2:ws≠[]->Q (.ref s.heap.objs.size) {s with heap:=s.heap.push {cls:= .type "tuple",data:= .seq (vs++ws).toArray}})
  (hsz:vs.length+ws.length<=sizeLine):wpAny (model prog w) A (binaryOp .Add (.ref t) (.ref b)) Q E s:=by
 obtain⟨⟨cls,dd,data,sl⟩,ho,hc,n,hd⟩:=id ht
 obtain⟨⟨cls2,dd2,data2,sl2⟩,ho2,hc2,n2,hd2⟩:=id hb
 simp only at hc hd hc2 hd2
 subst hc hd hc2 hd2
 have e:vs.toArray++ws.toArray=(vs++ws).toArray:=by simp
 by_cases hw:ws=[]
 ·exact concat_meets ⟨_,ho,rfl⟩ ⟨_,ho2,rfl⟩ noFill_tuple_add seq_tuple_add PySem.F.slot_tuple_add PySem.F.entry_tuple_add (PySem.F.args_tuple_add_2 _ _)
   (tuple_addW1 t b vs.toArray ws.toArray n n2 dd dd2 sl sl2 (by simpa using hv) (by simp[hw])) ⟨ho,ho2,h1 hw⟩
 ·refine concat_meets ⟨_,ho,rfl⟩ ⟨_,ho2,rfl⟩ noFill_tuple_add seq_tuple_add PySem.F.slot_tuple_add PySem.F.entry_tuple_add (PySem.F.args_tuple_add_2 _ _)
   (tuple_addW2 t b vs.toArray ws.toArray n n2 dd dd2 sl sl2 (by simpa using hv) (by simpa using hw) (by rw[List.size_toArray,List.size_toArray];exact hsz)) ⟨ho,ho2,?_⟩
  rw[e]
  exact h2 hw
def eF (n d:Nat):Option Int->Nat
 |none=>d
 |some v=>if v<0 then (v+(n:Int)).toNat else min v.toNat n
theorem ER (n d:Nat) (hd:d<=n) (o:Option Int):eF n d o<=n:=by
 cases o with
 |none=>exact hd
 |some v=>
  show (if v<0 then (v+(n:Int)).toNat else min v.toNat n)<=n
  by_cases hv:v<0
  ·rw[if_pos hv];omega
  ·rw[if_neg hv];exact Nat.min_le_right _ _
theorem wX (v:Int) (n d:Nat):(if v<0 then max (v+(n:Int)) 0 else min v (n:Int))=((eF n d (some v):Nat):Int):=by
 show (if v<0 then max (v+(n:Int)) 0 else min v (n:Int))=(((if v<0 then (v+(n:Int)).toNat else min v.toNat n):Nat):Int)
 by_cases hv:v<0
 ·simp only[if_pos hv];omega
 ·simp only[if_neg hv];omega
theorem vC (lo hi:Option Int) (n:Nat):Builtin.Slice.sliceAdjust lo hi 1 (n:Int)=(((eF n 0 lo:Nat):Int),((eF n n hi:Nat):Int)):=by
 have h1:¬((1:Int)<0):=by omega
 unfold Builtin.Slice.sliceAdjust
 simp only[h1,if_false]
 refine Prod.ext ?_ ?_
 ·cases lo with
  |none=>rfl
  |some v=>exact wX v n 0
 ·cases hi with
  |none=>rfl
  |some v=>exact wX v n n
theorem vD (i j:Nat):Builtin.Slice.slicePlaces (i:Int) (j:Int) 1=j - i:=by
 unfold Builtin.Slice.slicePlaces
 have h1:(1:Int)>0:=by omega
 simp only[h1,if_true,Int.ediv_one]
 split<;>omega
theorem ph {v:Value} {o:Option Int} {Q:Option Int->Shared->Prop} (p:IsPart v o) (h:Q o s):wpAny (model prog w) A (Builtin.Slice.slicePartIndex v) Q E s:=by
 cases p with
 |none=>exact slicePart_none h
 |int i t=>exact slicePart_int h
theorem jA {sl:Addr} {vl vu:Value} {lo hi:Option Int} {n:Nat} {Q:Int×Int×Nat->Shared->Prop} (hs:s.heap.IsSliceOf sl vl vu .none) (pl:IsPart vl lo) (pu:IsPart vu hi)
  (h:Q (((eF n 0 lo:Nat):Int),1,eF n n hi - eF n 0 lo) s):wpAny (model prog w) A (Builtin.Slice.sliceApplied (.ref sl) (pure (n:Int))) Q E s:=by
 obtain⟨os,hos,hcs,hds⟩:=id hs
 unfold Builtin.Slice.sliceApplied Builtin.Slice.sliceFields
 refine wpAny_bind (wpAny_bind (wpAny_field hos hds (x:=vl) rfl (wpAny_bind (wpAny_field hos hds (x:=vu) rfl (wpAny_bind (wpAny_field hos hds (x:= .none) rfl (wpAny_pure ?_)))))))
 refine wpAny_bind (slicePart_none ?_)
 show wpAny _ _ (if ((1:Int)==0)=true then _ else _) _ _ s
 rw[if_neg (by decide)]
 refine wpAny_bind (ph pl (wpAny_bind (ph pu (wpAny_bind (wpAny_pure ?_)))))
 show wpAny _ _ (match Builtin.Slice.sliceAdjust lo hi 1 (n:Int)with|(lo,hi)=>pure (lo,(1:Int),Builtin.Slice.slicePlaces lo hi 1)) _ _ s
 rw[vC lo hi n]
 show wpAny _ _ (pure (((eF n 0 lo:Nat):Int),(1:Int),Builtin.Slice.slicePlaces ((eF n 0 lo:Nat):Int) ((eF n n hi:Nat):Int) 1)) _ _ s
 rw[vD]
 exact wpAny_pure h
theorem zL (xs:Array Value) (i k:Nat):((List.range k).filterMap fun (m:Nat)=>xs[((i:Int)+(m:Int)*1).toNat]?).toArray=((xs.toList.drop i).take k).toArray:=by
 have e:(fun (m:Nat)=>xs[((i:Int)+(m:Int)*1).toNat]?)=fun m=>xs[i+m]? :=by
  funext m
  have:((i:Int)+(m:Int)*1).toNat=i+m:=by omega
  rw[this]
 rw[e]
 have:=pick_run xs i k
 rw[List.filterMap_map]at this
 have e2:((fun x=>xs[x]?)∘fun x=>i+x)=fun m=>xs[i+m]? :=rfl
 rw[e2]at this
 rw[this]
theorem mL {t sl:Addr} {items:Array Value} {vl vu:Value} {lo hi:Option Int} {Q:Value->Shared->Prop} (ht:IsTup s.heap t items) (hs:s.heap.IsSliceOf sl vl vu .none) (pl:IsPart vl lo) (pu:IsPart vu hi)
  (hw:¬(eF items.size 0 lo=0/\eF items.size items.size hi=items.size))
  (h:Q (.ref s.heap.objs.size) {s with heap:=s.heap.push {cls:= .type "tuple",data:= .seq ((items.toList.drop (eF items.size 0 lo)).take (eF items.size items.size hi - eF items.size 0 lo)).toArray}})
  (hsz:items.size<=sizeLine):wpAny (model prog w) A (getItem (.ref t) (.ref sl)) Q E s:=by
 have htake:sizeOk (.seq ((items.toList.drop (eF items.size 0 lo)).take (eF items.size items.size hi - eF items.size 0 lo)).toArray):=by
  show ((items.toList.drop (eF items.size 0 lo)).take (eF items.size items.size hi - eF items.size 0 lo)).toArray.size<=sizeLine
  rw[List.size_toArray,List.length_take,List.length_drop,Array.length_toList]
  omega
 have hj:eF items.size items.size hi<=items.size:=ER _ _ (Nat.le_refl _) hi
 obtain⟨os,hos,hcs,hds⟩:=id hs
 have hTs:s.TypeIs (.ref sl) "slice":=⟨os,hos,hcs⟩
 unfold getItem
 try with_reducible refine wpAny_holding ?_
 first|refine wpAny_bind (wpAny_pure ?_)|skip
 refine wpAny_bind (wpAny_sequenceKey ht.typeIs (by decide) ?_)
 refine wpAny_bind (wpAny_callSpecial?_slot (name:=Str.ofString "__getitem__") ht.typeIs PyProof.Rows.slot_tuple_getitem
  (wpAny_call_entry PyProof.Rows.slot_tuple_getitem ht.typeIs entry_tuple_getitem ?_ (args_tuple_getitem _ _)))
 show wpAny _ _ (Builtin.Tuple.tupleItemsOf (.ref t)>>=_) _ _ s
 refine wpAny_bind (tupleItemsOf_ ht ?_)
 refine wpAny_bind (wpAny_typeOf hTs ?_)
 rw[if_pos (by decide)]
 refine wpAny_bind (jA hs pl pu ?_)
 have hno:¬((((eF items.size 0 lo:Nat):Int)==0&&(1:Int)==1&&(eF items.size items.size hi - eF items.size 0 lo)==items.size)=true):=by
  intro q
  rw[Bool.and_eq_true,Bool.and_eq_true]at q
  have q1:((eF items.size 0 lo:Nat):Int)=0:=eq_of_beq q.1.1
  have q2:eF items.size items.size hi - eF items.size 0 lo=items.size:=eq_of_beq q.2
  exact hw ⟨by omega,by omega⟩
 show wpAny _ _ (if (((eF items.size 0 lo:Nat):Int)==0&&(1:Int)==1&&(eF items.size items.size hi - eF items.size 0 lo)==items.size)=true then _ else _) _ _ s
 rw[if_neg hno,zL]
 first
  |exact wpAny_bind (m:=Builtin.Tuple.tupleExact _) (wpAny_newObj_type (wpAny_pure ⟨_,rfl,wpAny_pure h⟩) htake)
  |exact wpAny_bind (m:=Builtin.Tuple.tupleExact _) (wpAny_newObj_type (wpAny_bind (wpAny_pure (wpAny_pure ⟨_,rfl,wpAny_pure h⟩))) htake)
  |exact wpAny_bind (wpAny_bind (m:=Builtin.Tuple.tupleExact _) (wpAny_newObj_type (wpAny_pure (wpAny_pure ⟨_,rfl,wpAny_pure h⟩)) htake))
  |exact wpAny_bind (wpAny_bind (m:=Builtin.Tuple.tupleExact _) (wpAny_newObj_type (wpAny_pure ⟨_,rfl,wpAny_pure h⟩) htake))
end
end HT
namespace L2
open PySem PySem.Spec PyProof.Rows
abbrev TO:=St->Hp->(Option Int->Hp->Prop)->Prop
def PO (X:Cx) (e:Option Expr) (t:TO):Prop:=
 ∀(pins:List (Addr×Obj)) (s:Shared) (σ:St) (H:Hp) (Q:Option Int->Hp->Prop),aM X pins σ H s->t σ H Q->
  wpAny (model X.prog X.w) X.A (evalPart e X.env) (fun u s'=>∃o H',aM X pins σ H' s'/\IsPart u o/\Q o H') X.xe s
def Ck:TO:=fun _ H Q=>Q none H
def GC (t:TE):TO:=fun σ H Q=>t σ H fun x H1=>∃i,x= .int i/\Q (some i) H1
theorem m6 {ns:List Int}:∀{us:List Value},bg (ns.map V.int) us->IntsAre us ns:=by
 induction ns with
 |nil=>intro us r;rw[List.map_nil]at r;cases r;exact .nil
 |cons n ns ih=>
  intro us r
  rw[List.map_cons]at r
  cases r with
  |cons r1 r2=>
   obtain⟨t,e⟩:=r1
   subst e
   exact .cons n t (ih r2)
section
variable {X:Cx} {e:Expr} {te:TE} {lo hi:Option Expr} {tl th:TO} {pos p2:Pos}
theorem Cm:PO X none Ck:=by
 intro pins s σ H Q I h
 rw[evalPart_none]
 exact wpAny_pure ⟨none,H,I, .none,h⟩
theorem wY (h:PE X e te):PO X (some e) (GC te):=by
 intro pins s σ H Q I hw
 rw[evalPart_some]
 refine cP (h pins s σ H _ I hw) fun u s1 z_=> ?_
 obtain⟨x,H1,I1,r1,q1⟩:=z_
 obtain⟨i,rfl,q⟩:=q1
 obtain⟨t,rfl⟩:=r1
 exact⟨some i,H1,I1, .int i t,q⟩
def DS (X:Cx) (r:V->Option Int->Option Int->Hp->VK->Prop):Prop:=
 ∀(pins:List (Addr×Obj)) (s:Shared) (σ:St) (H:Hp) (x:V) (v vl vu:Value) (lo hi:Option Int) (sl:Addr) (Q:VK),aM X pins σ H s->bJ x v->s.heap.IsSliceOf sl vl vu .none->IsPart vl lo->IsPart vu hi->r x lo hi H Q->
  ∃T id,typeLookup (.type T) "__getitem__"=pure (some (.builtin id))/\s.TypeIs v T/\wpAny (model X.prog X.w) X.A (getItem v (.ref sl)) (EP X pins σ Q) X.xe s
theorem DS.or {r r':V->Option Int->Option Int->Hp->VK->Prop} (h:DS X r) (h':DS X r'):DS X (fun x lo hi H Q=>r x lo hi H Q\/r' x lo hi H Q):=by
 intro pins s σ H x v vl vu lo hi sl Q I rx hs pl pu q
 rcases q with q|q
 ·exact h pins s σ H x v vl vu lo hi sl Q I rx hs pl pu q
 ·exact h' pins s σ H x v vl vu lo hi sl Q I rx hs pl pu q
def J6 (r:V->Option Int->Option Int->Hp->VK->Prop) (te:TE) (tl th:TO):TE:=fun σ H Q=>te σ H fun x H1=>tl σ H1 fun l H2=>th σ H2 fun u H3=>r x l u H3 Q
theorem zM {r:V->Option Int->Option Int->Hp->VK->Prop} (hr:DS X r) (he:PE X e te) (hl:PO X lo tl) (hu:PO X hi th):PE X (.Subscript e (.Slice lo hi none p2) pos) (J6 r te tl th):=by
 intro pins s σ H Q I h
 refine Subscript_ (cP (he pins s σ H _ I h) fun v s1 z_=> ?_)
 obtain⟨x,H1,I1,r1,q1⟩:=z_
 refine wpAny_Slice (cP (hl pins s1 σ H1 _ I1 q1) fun vl s2 ⟨l,H2,I2,pl,q2⟩=>cP (hu pins s2 σ H2 _ I2 q2) fun vu s3 z_=> ?_)
 obtain⟨u,H3,I3,pu,q3⟩:=z_
 rw[evalPart_none]
 refine wpAny_pure ?_
 have I4:aM X pins σ H3 {s3 with heap:=s3.heap.push {cls:= .type "slice",data:= .fields #[vl,vu, .none]}}:=I3.kept (t':=s3.toks) fun b ob q=>Heap.get?_push_of_some _ q
 obtain⟨T,id,hT,ht,hg⟩:=hr pins {s3 with heap:=s3.heap.push {cls:= .type "slice",data:= .fields #[vl,vu, .none]}} σ H3 x v vl vu l u s3.heap.objs.size Q I4 r1 (Heap.IsSliceOf.new ..) pl pu q3
 show wpAny (model X.prog X.w) X.A (subscriptTail e (.Slice lo hi none p2) v (.ref s3.heap.objs.size)) (EP X pins σ Q) X.xe {s3 with heap:=s3.heap.push {cls:= .type "slice",data:= .fields #[vl,vu, .none]}}
 exact tail_any (ops:=[.ref s3.heap.objs.size,v]) ht hT hg (by with_unfolding_all rfl)
def qK (xs:List V) (lo hi:Option Int):List V:=(xs.drop (HT.eF xs.length 0 lo)).take (HT.eF xs.length xs.length hi - HT.eF xs.length 0 lo)
theorem o5 (xs:List V) (lo hi:Option Int):(qK xs lo hi).length<=xs.length:=by
 unfold qK
 rw[List.length_take,List.length_drop]
 omega
def Im (K:PySem.W.Frag):V->Option Int->Option Int->Hp->VK->Prop:=fun x lo hi H Q=>∃a xs,x= .ref a/\iH K H a xs/\
 ¬(HT.eF xs.length 0 lo=0/\HT.eF xs.length xs.length hi=xs.length)/\∀p,H p=none->Q (.ref p) (bY H p (.tup (qK xs lo hi)))
theorem ES:DS X (Im X.K):=by
 intro pins s σ H x v vl vu lo hi sl Q I rx hs pl pu h
 obtain⟨a,xs,rfl,hx,hw,q⟩:=h
 cases rx
 obtain⟨its,r,ht,hz⟩:=I.tuple hx
 have hlen:its.toArray.size=xs.length:=by rw[List.size_toArray];exact r.length.symm
 refine⟨"tuple",_,PyProof.Rows.slot_tuple_getitem.lookup,ht.typeIs,?_⟩
 refine HT.mL ht hs pl pu (by rw[hlen];exact hw) ?_ (by rw[hlen];exact hz)
 rw[hlen]
 refine⟨.ref s.heap.objs.size,_,I.laid (t':=s.toks) (o:= .tup (qK xs lo hi)) (fun b ob q=>Heap.get?_push_of_some _ q) (Nat.le_refl _) ?_,rfl,q _ (I.hok.fresh (Nat.le_refl _))⟩
 exact⟨Nat.le_trans (o5 xs lo hi) hz,_,(r.drop (HT.eF xs.length 0 lo)).take (HT.eF xs.length xs.length hi - HT.eF xs.length 0 lo),ip.new _ _⟩
def DT (K:PySem.W.Frag):R2:=fun x y H Q=>∃a b xs ys,x= .ref a/\y= .ref b/\iH K H a xs/\iH K H b ys/\xs≠[]/\xs.length+ys.length<=sizeLine/\
 (ys=[]->Q (.ref a) H)/\(ys≠[]->∀p,H p=none->Q (.ref p) (bY H p (.tup (xs++ys))))
theorem bg.nil_iff {xs:List V} {us:List Value} (r:bg xs us):us=[]<->xs=[]:=by
 cases r with
 |nil=>simp
 |cons _ _=>simp
theorem Cn:kG X (binaryOp .Add) (DT X.K):=by
 intro pins s σ H x y v u Q I rx ry h
 obtain⟨a,b,xs,ys,rfl,rfl,ha,hb,hx,hz,q1,q2⟩:=h
 cases rx
 cases ry
 obtain⟨its,r1,p1,_⟩:=I.tuple ha
 obtain⟨its2,r2,p2,_⟩:=I.tuple hb
 refine HT.Cj p1 p2 (fun z=>hx (r1.nil_iff.mp z)) (fun z=>⟨.ref a,H,I,rfl,q1 (r2.nil_iff.mp z)⟩) (fun z=> ?_) (by rw[<-r1.length,<-r2.length];exact hz)
 refine⟨.ref s.heap.objs.size,_,I.laid (t':=s.toks) (o:= .tup (xs++ys)) (fun b ob q=>Heap.get?_push_of_some _ q) (Nat.le_refl _) ?_,rfl,q2 (fun w=>z (r2.nil_iff.mpr w)) _ (I.hok.fresh (Nat.le_refl _))⟩
 exact⟨by rw[List.length_append];exact hz,_,r1.append r2,ip.new _ _⟩
end
end L2
namespace L2
open PySem PySem.Spec PyProof.Rows
def u0 (n:Nat) (i:Int):Option Nat:=if 0<=i then (if i<n then some i.toNat else none)else if -(n:Int)<=i then some (i+n).toNat else none
def atI {α:Type} (xs:List α) (i:Int):Option α:=(u0 xs.length i).bind fun j=>xs[j]?
theorem wZ {n:Nat} {i:Int} {j:Nat} (h:u0 n i=some j):seqIndex? i n=some j/\j<n/\ -(n:Int)<=i/\i<n:=by
 unfold u0 at h
 by_cases h0:0<=i
 ·rw[if_pos h0]at h
  by_cases h1:i<n
  ·rw[if_pos h1]at h
   have e:i.toNat=j:=Option.some.inj h
   exact⟨by rw[seqIndex_of h0 h1,e],by omega,by omega,h1⟩
  ·rw[if_neg h1]at h;cases h
 ·rw[if_neg h0]at h
  by_cases h1: -(n:Int)<=i
  ·rw[if_pos h1]at h
   have e:(i+n).toNat=j:=Option.some.inj h
   exact⟨by rw[seqIndex_neg (by omega) h1,e],by omega,h1,by omega⟩
  ·rw[if_neg h1]at h;cases h
theorem so {α:Type} {xs:List α} {i:Int} {v:α} (h:atI xs i=some v):∃j,seqIndex? i xs.length=some j/\xs[j]? =some v/\j<xs.length/\ -(xs.length:Int)<=i/\i<xs.length:=by
 unfold atI at h
 cases e:u0 xs.length i with
 |none=>rw[e]at h;cases h
 |some j=>
  rw[e]at h
  obtain⟨h1,h2,h3,h4⟩:=wZ e
  exact⟨j,h1,h,h2,h3,h4⟩
theorem lp {α:Type} {xs:List α} {j:Nat} {v:α} (h:xs[j]? =some v):atI xs (j:Int)=some v:=by
 have hj:j<xs.length:=(List.getElem?_eq_some_iff.mp h).1
 have e:u0 xs.length (j:Int)=some j:=by
  unfold u0
  rw[if_pos (by omega),if_pos (by omega)];simp
 unfold atI;rw[e];exact h
theorem u3 {α:Type} (xs:List α) (v:α):atI (xs++[v]) (-1)=some v:=by
 have hl:(xs++[v]).length=xs.length+1:=by simp
 have e:u0 (xs++[v]).length (-1)=some xs.length:=by
  unfold u0
  rw[hl,if_neg (by decide),if_pos (by omega)]
  congr 1
  omega
 unfold atI
 rw[e]
 show (xs++[v])[xs.length]? =some v
 simp
def w_ (b:Expr):Prop:=∀o i,subscripted b false o i=operate [o,i] (getItem o i)
def Co (X:Cx) (r:R2):Prop:=
 ∀(value slice:Expr) (pins:List (Addr×Obj)) (s:Shared) (σ:St) (H:Hp) (x y:V) (v u:Value) (Q:VK),aM X pins σ H s->bJ x v->bJ y u->r x y H Q->
  subscripted slice false v u=operate [v,u] (getItem v u)->wpAny (model X.prog X.w) X.A (subscriptTail value slice v u) (EP X pins σ Q) X.xe s
def J7 (X:Cx) (id:String) (r:V->List V->Hp->VK->Prop):Prop:=
 ∀(pins:List (Addr×Obj)) (s:Shared) (σ:St) (H:Hp) (x:V) (xs:List V) (v:Value) (us:List Value) (Q:VK),aM X pins σ H s->bJ x v->bg xs us->r x xs H Q->
  wpAny (model X.prog X.w) X.A (call (.builtin id) (v::us)) (EP X pins σ Q) X.xe s
section
variable {X:Cx} {a b:Expr} {ta tb:TE} {pos:Pos}
theorem Co.or {r r':R2} (h:Co X r) (h':Co X r'):Co X (fun x y H Q=>r x y H Q\/r' x y H Q):=by
 intro value slice pins s σ H x y v u Q I rx ry q hs
 rcases q with q|q
 ·exact h value slice pins s σ H x y v u Q I rx ry q hs
 ·exact h' value slice pins s σ H x y v u Q I rx ry q hs
theorem GD {r:R2} (hr:Co X r) (ha:PE X a ta) (hb:PE X b tb) (hs:w_ b):PE X (.Subscript a b pos) (HG r ta tb):=by
 intro pins s σ H Q I h
 exact Subscript_ (EI ha hb I h fun v u s2 x y H2 I2 rx ry q=>hr a b pins s2 σ H2 x y v u Q I2 rx ry q (hs _ _))
def GF (K:PySem.W.Frag):R2:=fun x y H Q=>∃p xs i v,x= .ref p/\y= .int i/\fz K H p xs/\atI xs i=some v/\Q v H
def GG (K:PySem.W.Frag):R2:=fun x y H Q=>∃p xs i v,x= .ref p/\y= .int i/\iH K H p xs/\atI xs i=some v/\Q v H
def GH:R2:=fun x y H Q=>∃z i c,x= .str z/\y= .int i/\z.length<=sizeLine/\atI z.cps.toList i=some c/\Q (.str ⟨#[c]⟩) H
theorem Cp:Co X (GF X.K):=by
 intro value slice pins s σ H x y v u Q I rx ry h hs
 obtain⟨p,xs,i,z,rfl,rfl,hq,he,q⟩:=h
 cases rx
 obtain⟨t,rfl⟩:=ry
 obtain⟨its,r,pl,hz⟩:=I.list hq
 obtain⟨j,h1,h2,h3,h4,h5⟩:=so he
 obtain⟨w,ew,rw'⟩:=r.get h2
 have hl:=r.length
 have hn:=nJ
 have fin:EP X pins σ Q w s:=⟨z,H,I,rw',q⟩
 by_cases h0:0<=i
 ·have hj:i.toNat=j:=by
   rw[seqIndex_of h0 h5]at h1
   exact Option.some.inj h1
  exact item_listR pl.isList h0 (by omega) (by rw[hj];simpa using ew) fin hs
 ·have hj:(i+(its.toArray.size:Int)).toNat=j:=by
   rw[seqIndex_neg (by omega) h4]at h1
   rw[List.size_toArray,<-hl]
   exact Option.some.inj h1
  exact subscriptTail_builtinR (x:=w) pl.isList.typeIs slot_list_getitem.lookup
   (wpAny_getItem_list_neg (Q:=fun r s'=>r=w/\EP X pins σ Q r s') pl.isList (by omega) (by rw[List.size_toArray]<;>omega) (by omega) (by rw[hj];simpa using ew) ⟨rfl,fin⟩) hs
theorem ET:Co X (GG X.K):=by
 intro value slice pins s σ H x y v u Q I rx ry h hs
 obtain⟨p,xs,i,z,rfl,rfl,hq,he,q⟩:=h
 cases rx
 obtain⟨t,rfl⟩:=ry
 obtain⟨its,r,pl,hz⟩:=I.tuple hq
 obtain⟨j,h1,h2,h3,h4,h5⟩:=so he
 obtain⟨w,ew,rw'⟩:=r.get h2
 have hl:=r.length
 have hn:=nJ
 have fin:EP X pins σ Q w s:=⟨z,H,I,rw',q⟩
 exact subscriptTail_builtinR (x:=w) pl.typeIs slot_tuple_getitem.lookup
  (getItem_tuple (j:=j) (Q:=fun r s'=>r=w/\EP X pins σ Q r s') pl (by omega) (by omega) (by rw[List.size_toArray,<-hl];exact h1) (by simpa using ew) ⟨rfl,fin⟩) hs
theorem EU:Co X GH:=by
 intro value slice pins s σ H x y v u Q I rx ry h hs
 obtain⟨z,i,c,rfl,rfl,hz,he,q⟩:=h
 obtain⟨t,rfl⟩:=rx
 obtain⟨t',rfl⟩:=ry
 obtain⟨j,h1,h2,h3,h4,h5⟩:=so he
 have hl:z.cps.toList.length=z.length:=by simp[Str.length]
 rw[hl]at h1 h4 h5
 have hn:=nJ
 exact tail_any (typeIs_str s z t) slot_str_getitem.lookup (getItem_str (c:=c) (by
  have e1:decide (i< -(2 ^63:Int))=false:=decide_eq_false (by omega)
  have e2:decide (i>=2 ^63)=false:=decide_eq_false (by omega)
  rw[e1,e2,Bool.or_false]) (by rw[h1];simpa using h2) ⟨.str ⟨#[c]⟩,H,I.tok _,⟨_,rfl⟩,q⟩) hs
def IM (K:PySem.W.Frag):R2:=fun x y H Q=>GF K x y H Q\/GG K x y H Q\/GH x y H Q
theorem EV:Co X (IM X.K):=Cp.or (ET.or EU)
theorem vE (its:List Value) (n j:Nat) (u:Value):Obj.mapSeq (·.setIfInBounds j u) {cls:= .type "list",data:= .seq its.toArray n}={cls:= .type "list",data:= .seq (its.set j u).toArray n}:=by
 simp[Obj.mapSeq]
theorem aM.lst {pins:List (Addr×Obj)} {σ:St} {H:Hp} {s:Shared} {p:Addr} {xs:List V} (I:aM X pins σ H s) (h:H p=some (.lst xs)):
  ∃(its:List Value) (n:Nat),bg xs its/\s.heap.get? p=some {cls:= .type "list",data:= .seq its.toArray n}/\xs.length<=sizeLine:=by
 obtain⟨z,its,n,r,e⟩:=I.hok p _ h
 exact⟨its,n,r,e,z⟩
theorem aM.lstUpd {pins:List (Addr×Obj)} {σ:St} {H:Hp} {s:Shared} {p:Addr} {xs ys:List V} {its its':List Value} {n n':Nat} {f:Obj->Obj} (I:aM X pins σ H s) (h:H p=some (.lst xs))
  (ho:s.heap.get? p=some {cls:= .type "list",data:= .seq its.toArray n}) (hf:f {cls:= .type "list",data:= .seq its.toArray n}={cls:= .type "list",data:= .seq its'.toArray n'}) (r:bg ys its') (hz:ys.length<=sizeLine) (t:Nat):
  aM X pins σ (bY H p (.lst ys)) {s with heap:=s.heap.update p f,toks:=t}:=by
 have e:(s.heap.update p f).get? p=some {cls:= .type "list",data:= .seq its'.toArray n'}:=by
  rw[Heap.get?_update_self f ho (by rw[hf]<;>rfl),hf]
 refine I.write (x:=p) (e:=p) (by rw[h];trivial) (.inl rfl) (fun b u hb q=>(Heap.get?_update_other _ _ (Ne.symm hb)).trans q) ⟨_,e⟩ ?_
 exact⟨hz,its',n',r,e⟩
def GI:V->V->V->Hp->(Hp->Prop)->Prop:=fun o i v H Q=>∃p xs k j,o= .ref p/\i= .int k/\H p=some (.lst xs)/\u0 xs.length k=some j/\Q (bY H p (.lst (xs.set j v)))
theorem zN:Gn X GI:=by
 intro pins s σ H o i v ov iv u Q I ro ri rv h
 obtain⟨p,xs,k,j,rfl,rfl,hp,hj,q⟩:=h
 cases ro
 obtain⟨t,rfl⟩:=ri
 obtain⟨its,n,r,ho,hz⟩:=I.lst hp
 obtain⟨h1,h2,h3,h4⟩:=wZ hj
 have hl:=r.length
 have hn:=nJ
 have I':aM X pins σ (bY H p (.lst (xs.set j v))) {s with heap:=s.heap.update p (Obj.mapSeq (·.setIfInBounds j u))}:=
  I.lstUpd hp ho (vE its n j u) (r.set rv j) (by rw[List.length_set];exact hz) s.toks
 by_cases h0:0<=k
 ·have hk:k.toNat=j:=by
   rw[seqIndex_of h0 h4]at h1
   exact Option.some.inj h1
  exact PySem.W.ki_setAt ho h0 (by omega) (by rw[List.size_toArray,<-hl];exact h4) (by rw[hk];exact⟨_,I',q⟩)
 ·have hk:(k+(its.toArray.size:Int)).toNat=j:=by
   rw[seqIndex_neg (by omega) h3]at h1
   rw[List.size_toArray,<-hl]
   exact Option.some.inj h1
  exact PySem.W.ki_setBack ho (by omega) (by rw[List.size_toArray,<-hl];exact h3) (by omega) (by rw[hk];exact⟨_,I',q⟩)
theorem sq (lo hi:Option Int) (n:Nat):(sliceBounds lo hi none n).1=((HT.eF n 0 lo:Nat):Int)/\(sliceBounds lo hi none n).2.1=((HT.eF n n hi:Nat):Int)/\(sliceBounds lo hi none n).2.2=1:=by
 refine⟨?_,?_,rfl⟩
 ·cases lo with
  |none=>simp[sliceBounds,HT.eF]
  |some i=>
   simp only[sliceBounds,HT.eF,Option.getD_none,show (1:Int)>0 by decide,if_true]
   by_cases h:i<0
   ·simp only[h,if_true]<;>omega
   ·simp only[h,if_false]<;>omega
 ·cases hi with
  |none=>simp[sliceBounds,HT.eF]
  |some i=>
   simp only[sliceBounds,HT.eF,Option.getD_none,show (1:Int)>0 by decide,if_true]
   by_cases h:i<0
   ·simp only[h,if_true]<;>omega
   ·simp only[h,if_false]<;>omega
theorem qL (its:List Value) (lo hi:Option Int):slicePick its.toArray lo hi none=((its.drop (HT.eF its.length 0 lo)).take (HT.eF its.length its.length hi - HT.eF its.length 0 lo)).toArray:=by
 obtain⟨h1,h2,h3⟩:=sq lo hi its.toArray.size
 unfold slicePick
 rw[h1,h2,h3]
 simp only[sliceRange_one,pick_run,List.size_toArray]<;>rfl
def Io (K:PySem.W.Frag):V->Option Int->Option Int->Hp->VK->Prop:=fun x lo hi H Q=>∃a xs,x= .ref a/\fz K H a xs/\∀p,H p=none->Q (.ref p) (bY H p (.lst (qK xs lo hi)))
theorem Cq:DS X (Io X.K):=by
 intro pins s σ H x v vl vu lo hi sl Q I rx hs pl pu h
 obtain⟨a,xs,rfl,hx,q⟩:=h
 cases rx
 obtain⟨its,r,ht,hz⟩:=I.list hx
 have hlen:=r.length
 refine⟨"list",_,slot_list_getitem.lookup,ht.isList.typeIs,?_⟩
 refine wpAny_getItem_list_slice ht.isList hs pl pu .none (by simp) ?_ (by rw[List.size_toArray]<;>omega)
 rw[qL,<-hlen]
 refine⟨.ref s.heap.objs.size,_,I.laid (t':=s.toks) (o:= .lst (qK xs lo hi)) (fun b ob q=>Heap.get?_push_of_some _ q) (Nat.le_refl _) ?_,rfl,q _ (I.hok.fresh (Nat.le_refl _))⟩
 exact⟨Nat.le_trans (o5 xs lo hi) hz,_,0,(r.drop (HT.eF xs.length 0 lo)).take (HT.eF xs.length xs.length hi - HT.eF xs.length 0 lo),Heap.get?_push_size _ rfl⟩
def iy:V->Bool
 | .non=>true
 | .bl _=>true
 | .int _=>true
 | .str _=>true
 |_=>false
def zj:V->V->Bool
 | .non, .non=>true
 | .bl a, .bl b=>a==b
 | .bl a, .int b=>(if a then 1 else 0)==b
 | .int a, .bl b=>a==(if b then 1 else 0)
 | .int a, .int b=>a==b
 | .str a, .str b=>a==b
 |_,_=>false
theorem zO {A:Around} {s:Shared} {y x:V} {u v:Value} (ry:bJ y u) (rx:bJ x v) (fy:iy y=true) (fx:iy x=true):SeqAt.EqAt A s u v (zj y x):=by
 cases y with
 |non=>
  cases ry
  cases x with
  |non=>cases rx;exact SeqAt.EqAt.same _
  |bl b=>cases rx;exact SeqAt.EqAt.none_bool b
  |int b=>obtain⟨t,rfl⟩:=rx;exact SeqAt.EqAt.none_int b t
  |str b=>obtain⟨t,rfl⟩:=rx;exact SeqAt.EqAt.none_str b t
  |_=>exact absurd (show false=true from fx) Bool.false_ne_true
 |bl a=>
  cases ry
  cases x with
  |non=>cases rx;exact SeqAt.EqAt.bool_none a
  |bl b=>cases rx;exact SeqAt.EqAt.bool_bool a b
  |int b=>obtain⟨t,rfl⟩:=rx;exact SeqAt.EqAt.bool_int a b t
  |str b=>obtain⟨t,rfl⟩:=rx;exact SeqAt.EqAt.bool_str a b t
  |_=>exact absurd (show false=true from fx) Bool.false_ne_true
 |int a=>
  obtain⟨t',rfl⟩:=ry
  cases x with
  |non=>cases rx;exact SeqAt.EqAt.int_none a t'
  |bl b=>cases rx;exact SeqAt.EqAt.int_bool a t' b
  |int b=>obtain⟨t,rfl⟩:=rx;exact SeqAt.EqAt.int_int a t' b t
  |str b=>obtain⟨t,rfl⟩:=rx;exact SeqAt.EqAt.int_str a t' b t
  |_=>exact absurd (show false=true from fx) Bool.false_ne_true
 |str a=>
  obtain⟨t',rfl⟩:=ry
  cases x with
  |non=>cases rx;exact SeqAt.EqAt.str_none a t'
  |bl b=>cases rx;exact SeqAt.EqAt.str_bool a t' b
  |int b=>obtain⟨t,rfl⟩:=rx;exact SeqAt.EqAt.str_int a t' b t
  |str b=>obtain⟨t,rfl⟩:=rx;exact SeqAt.EqAt.str_str a t' b t
  |_=>exact absurd (show false=true from fx) Bool.false_ne_true
 |_=>exact absurd (show false=true from fy) Bool.false_ne_true
def vF (x:V) (u:Value):Bool:=match u with
 | .none=>zj .non x
 | .bool b=>zj (.bl b) x
 | .int i _=>zj (.int i) x
 | .str z _=>zj (.str z) x
 |_=>false
theorem zP {x y:V} {u:Value} (r:bJ y u) (f:iy y=true):vF x u=zj y x:=by
 cases y with
 |non=>cases r;rfl
 |bl b=>cases r;rfl
 |int i=>obtain⟨t,rfl⟩:=r;rfl
 |str z=>obtain⟨t,rfl⟩:=r;rfl
 |_=>exact absurd (show false=true from f) Bool.false_ne_true
theorem mM {x:V}:∀{xs:List V} {us:List Value},bg xs us->xs.all iy=true->us.any (vF x)=xs.any fun y=>zj y x
 |_,_, .nil,_=>rfl
 |y::xs,u::us, .cons r t,f=>by
  rw[List.all_cons,Bool.and_eq_true]at f
  rw[List.any_cons,List.any_cons,zP r f.1,mM t f.2]
theorem kJ {A:Around} {s:Shared} {x:V} {v:Value} (rx:bJ x v) (fx:iy x=true):∀{xs:List V} {us:List Value},bg xs us->xs.all iy=true->∀u∈us,SeqAt.EqAt A s u v (vF x u)
 |_,_, .nil,_=>fun u hu=>by cases hu
 |y::xs,u::us, .cons r t,f=>fun u' hu=>by
  rw[List.all_cons,Bool.and_eq_true]at f
  rcases List.mem_cons.mp hu with rfl|hu
  ·rw[zP r f.1];exact zO r rx f.1 fx
  ·exact kJ rx fx t f.2 u' hu
def inV (x:V) (xs:List V):Bool:=xs.any fun y=>zj y x
def Ip (K:PySem.W.Frag) (neg:Bool):R2:=fun x y H Q=>∃p xs,y= .ref p/\(fz K H p xs\/iH K H p xs)/\iy x=true/\xs.all iy=true/\Q (.bl (if neg then !inV x xs else inV x xs)) H
theorem rn:kG X (compareOp .In) (Ip X.K false):=by
 intro pins s σ H x y v u Q I rx ry h
 obtain⟨p,xs,rfl,hq,fx,fs,q⟩:=h
 cases ry
 rcases hq with hq|hq
 ·obtain⟨its,r,pl,hz⟩:=I.list hq
  refine SeqAt.in_listAt (vF x) pl.isList (fun w hw=>kJ rx fx r fs w (by simpa using hw)) ⟨.bl _,H,I,rfl,?_⟩
  rw[show its.toArray.any (vF x)=its.any (vF x) by simp,mM r fs]
  exact q
 ·obtain⟨its,r,pl,hz⟩:=I.tuple hq
  refine SeqAt.in_tupleAt (vF x) pl (fun w hw=>kJ rx fx r fs w (by simpa using hw)) ⟨.bl _,H,I,rfl,?_⟩
  rw[show its.toArray.any (vF x)=its.any (vF x) by simp,mM r fs]
  exact q
theorem sr:kG X (compareOp .NotIn) (Ip X.K true):=by
 intro pins s σ H x y v u Q I rx ry h
 obtain⟨p,xs,rfl,hq,fx,fs,q⟩:=h
 cases ry
 rcases hq with hq|hq
 ·obtain⟨its,r,pl,hz⟩:=I.list hq
  refine SeqAt.notIn_listAt (vF x) pl.isList (fun w hw=>kJ rx fx r fs w (by simpa using hw)) ⟨.bl _,H,I,rfl,?_⟩
  rw[show its.toArray.any (vF x)=its.any (vF x) by simp,mM r fs]
  exact q
 ·obtain⟨its,r,pl,hz⟩:=I.tuple hq
  refine SeqAt.notIn_tupleAt (vF x) pl (fun w hw=>kJ rx fx r fs w (by simpa using hw)) ⟨.bl _,H,I,rfl,?_⟩
  rw[show its.toArray.any (vF x)=its.any (vF x) by simp,mM r fs]
  exact q
theorem su:dH X (.builtin "len") (fun xs H Q=>∃p ys,xs=[.ref p]/\(fz X.K H p ys\/iH X.K H p ys)/\Q (.int ys.length) H):=by
 intro pins s σ H xs us Q I r h
 obtain⟨p,ys,rfl,hq,q⟩:=h
 obtain⟨u,rfl,rx⟩:=jz r
 cases rx
 have hn:=nJ
 rcases hq with hq|hq
 ·obtain⟨its,r',pl,hz⟩:=I.list hq
  have hlen:=r'.length
  exact Calls.call_len_list pl.isList (by simp only[List.size_toArray]<;>omega) ⟨.int ys.length,H,I.tok _,⟨s.toks+1,by rw[List.size_toArray,hlen]⟩,q⟩
 ·obtain⟨its,r',pl,hz⟩:=I.tuple hq
  have hlen:=r'.length
  exact len_tuple pl (by simp only[List.size_toArray]<;>omega) ⟨.int ys.length,H,I.tok _,⟨s.toks+1,by rw[List.size_toArray,hlen]⟩,q⟩
theorem dH.or {f:Value} {r r':List V->Hp->VK->Prop} (h:dH X f r) (h':dH X f r'):dH X f (fun xs H Q=>r xs H Q\/r' xs H Q):=by
 intro pins s σ H xs us Q I rs q
 rcases q with q|q
 ·exact h pins s σ H xs us Q I rs q
 ·exact h' pins s σ H xs us Q I rs q
theorem e_:dH X (.type "list") (fun xs H Q=>∃p ys,xs=[.ref p]/\(fz X.K H p ys\/iH X.K H p ys)/\∀l,H l=none->Q (.ref l) (bY H l (.lst ys))):=by
 intro pins s σ H xs us Q I r h
 obtain⟨p,ys,rfl,hq,q⟩:=h
 obtain⟨u,rfl,rx⟩:=jz r
 cases rx
 have fin:∀(its:List Value),bg ys its->ys.length<=sizeLine->∀(h':Heap) (c':Nat),(∀b o',s.heap.get? b=some o'->h'.get? b=some o')->
   h'.get? s.heap.objs.size=some {cls:= .type "list",dict:=none,data:= .seq its.toArray c',slots:= #[]}->EP X pins σ Q (.ref s.heap.objs.size) {s with heap:=h'}:=fun its r' hz h' c' kp e=>
  ⟨.ref s.heap.objs.size,_,I.laid (t':=s.toks) kp (Nat.le_refl _) (show cf X.prog X.w _ h' _ (.lst ys)from ⟨hz,its,c',r',e⟩),rfl,q _ (I.hok.fresh (Nat.le_refl _))⟩
 rcases hq with hq|hq
 ·obtain⟨its,r',pl,hz⟩:=I.list hq
  have hlen:=r'.length
  obtain⟨o,ho,hc,n,hd⟩:=pl.isList
  exact call_list_seq p (.inl rfl) ho hc hd (fun h' c' kp e=>fin its r' hz h' c' kp e) (by simp only[List.size_toArray]<;>omega)
 ·obtain⟨its,r',pl,hz⟩:=I.tuple hq
  have hlen:=r'.length
  obtain⟨o,ho,hc,n,hd⟩:=pl
  exact call_list_seq p (.inr rfl) ho hc hd (fun h' c' kp e=>fin its r' hz h' c' kp e) (by simp only[List.size_toArray]<;>omega)
theorem bv:dH X (.type "tuple") (fun xs H Q=>∃p ys,xs=[.ref p]/\((fz X.K H p ys/\∀l,H l=none->Q (.ref l) (bY H l (.tup ys)))\/(iH X.K H p ys/\Q (.ref p) H))):=by
 intro pins s σ H xs us Q I r h
 obtain⟨p,ys,rfl,h⟩:=h
 obtain⟨u,rfl,rx⟩:=jz r
 cases rx
 rcases h with ⟨hq,q⟩|⟨hq,q⟩
 ·obtain⟨its,r',pl,hz⟩:=I.list hq
  have hlen:=r'.length
  refine call_tuple_list pl.isList (fun h' kp=> ?_) (by simp only[List.size_toArray]<;>omega)
  have I1:aM X pins σ H {s with heap:=h'}:=I.kept (t':=s.toks) kp
  have I2:aM X pins σ (bY H h'.objs.size (.tup ys)) {s with heap:=h'.push {cls:= .type "tuple",data:= .seq its.toArray}}:=
   I1.laid (t':=s.toks) (fun b o e=>Heap.get?_push_of_some _ e) (Nat.le_refl _) (show cf X.prog X.w _ _ _ (.tup ys)from ⟨hz,its,r',ip.new _ _⟩)
  exact⟨.ref h'.objs.size,_,I2,rfl,q _ (I1.hok.fresh (Nat.le_refl _))⟩
 ·obtain⟨its,r',pl,hz⟩:=I.tuple hq
  exact call_tuple_same pl ⟨.ref p,H,I,rfl,q⟩
def IN (K:PySem.W.Frag) (T:String) (x:V) (H:Hp):Prop:=match x with
 | .str _=>T="str"
 | .int _=>T="int"
 | .ref p=>(T="list"/\∃xs,fz K H p xs)\/(T="tuple"/\∃o,K.lookup p=some o/\o.cls= .type "tuple"/\o.dict=none)\/
   (T="dict"/\((∃kvs,H p=some (.dK kvs))\/∃kvs,H p=some (.dT kvs)))\/(T="set"/\∃S n,H p=some (.set S n))
 |_=>False
theorem EW {pins:List (Addr×Obj)} {σ:St} {H:Hp} {s:Shared} {T:String} {x:V} {v:Value} (I:aM X pins σ H s) (r:bJ x v) (ty:IN X.K T x H):
  s.TypeIs v T/\∀a,v= .ref a->∃ob,s.heap.get? a=some ob/\ob.dict=none:=by
 cases x with
 |str z=>
  obtain⟨t,rfl⟩:=r
  cases (show T="str" from ty)
  exact⟨typeIs_str s z t,fun _ e=>nomatch e⟩
 |int i=>
  obtain⟨t,rfl⟩:=r
  cases (show T="int" from ty)
  exact⟨typeIs_int s i t,fun _ e=>nomatch e⟩
 |ref p=>
  cases r
  rcases ty with ⟨rfl,xs,hq⟩|⟨rfl,o,hk,hc,hd⟩|⟨rfl,hk⟩|⟨rfl,S,n,hk⟩
  ·obtain⟨its,_,pl,_⟩:=I.list hq
   refine⟨pl.isList.typeIs,fun a e=> ?_⟩
   cases e
   obtain⟨o,n,e,c,hd,_⟩:=pl
   exact⟨o,e,hd⟩
  ·refine⟨⟨o,I.kIn p o hk,hc⟩,fun a e=> ?_⟩
   cases e
   exact⟨o,I.kIn _ o hk,hd⟩
  ·have z:∃o,s.heap.get? p=some o/\o.ExactDict:=by
    rcases hk with ⟨kvs,hk⟩|⟨kvs,hk⟩
    ·obtain⟨_,_,_,_,o,_,_,e,ex,_⟩:=I.hok p _ hk
     exact⟨o,e,ex⟩
    ·obtain⟨_,_,_,_,o,_,_,e,ex,_⟩:=I.hok p _ hk
     exact⟨o,e,ex⟩
   obtain⟨o,e,ex⟩:=z
   refine⟨⟨o,e,ex.1⟩,fun a e2=> ?_⟩
   cases e2
   exact⟨o,e,ex.2.1⟩
  ·obtain⟨o,_,_,_,e,ex,_⟩:=I.hok p _ hk
   refine⟨⟨o,e,ex.1⟩,fun a e2=> ?_⟩
   cases e2
   exact⟨o,e,ex.2.1⟩
 |_=>exact False.elim ty
def J8 (K:PySem.W.Frag) (T:String) (r:V->List V->Hp->VK->Prop) (to:TE) (t:TA):TE:=fun σ H Q=>to σ H fun x H1=>IN K T x H1/\t σ H1 fun xs H2=>r x xs H2 Q
variable {o e:Expr} {es:List Expr} {to:TE} {t:TA} {name:Str} {apos cpos:Pos} {T id:String} {r:V->List V->Hp->VK->Prop}
theorem DU (pa:PlainAttrs T) (slot:Slot T name id) (hty:typeOf (.builtin id)=pure (.type "method_descriptor")) (hm:J7 X id r) (ho:PE X o to) (ha:PA X (e::es) t)
  (hbase:attributeBase o name X.env (eval o X.env)=eval o X.env:=by rfl)
  (hfew:((backTo cpos (starEach (e::es) X.env)).all (fun x=> !x.1)&&(backToKw cpos (keywordEach [] X.env)).all (fun x=>x.1.isSome)
   &&decide ((e::es).length+([]:List Keyword).length+(if ([]:List Keyword).isEmpty then 0 else 1)<30))=true:=by rfl)
  (hline:(apos.endLine==cpos.line)=true:=by rfl) (hs:starEach (e::es) X.env=(false,eval e X.env)::starEach es X.env:=by rfl) (hplain:(backTo cpos (starEach es X.env)).any (·.1)=false:=by rfl):
  PE X (.Call (.Attribute o name apos) (e::es) [] cpos) (J8 X.K T r to t):=by
 intro pins s σ H Q I h
 refine wpAny_Call_method_late hbase hfew hline rfl (cP (ho pins s σ H _ I h) fun v s1 z_=> ?_)
 obtain⟨x,H1,I1,r1,ty,q1⟩:=z_
 obtain⟨h1,h2⟩:=EW I1 r1 ty
 refine⟨T,id,pa,slot,hty,h1,h2,?_⟩
 have hA:=ha cpos pins s1 σ H1 _ I1 q1
 rw[hs]at hA ⊢
 refine Calls.callWith_builtin (by show (false||(backTo cpos (starEach es X.env)).any (·.1))=false;rw[hplain]<;>rfl) (Calls.evalArgs_plain ?_)
 exact cP hA fun us s2 ⟨vs,H2,I2,r2,q2⟩=>hm pins s2 σ H2 x vs v us Q I2 r1 r2 q2
end
end L2
namespace L2
open PySem PySem.Spec PyProof.Rows
def Iq (X:Cx) (id:String) (r:V->List V->Hp->VK->Prop):Prop:=
 ∀(pins:List (Addr×Obj)) (s:Shared) (σ:St) (H:Hp) (x:V) (xs:List V) (v:Value) (us:List Value) (Q:VK),aM X pins σ H s->bJ x v->bg xs us->r x xs H Q->
  wpAny (model X.prog X.w) X.A (call (.builtin id) (v::us)) (EP X pins σ Q) X.xe s
theorem bg.one:∀{x:V} {us:List Value},bg [x] us->∃u,us=[u]/\bJ x u:=fun h=>by
 cases h with
 |cons r t=>cases t;exact⟨_,rfl,r⟩
theorem bg.two:∀{x y:V} {us:List Value},bg [x,y] us->∃u v,us=[u,v]/\bJ x u/\bJ y v:=fun h=>by
 cases h with
 |cons r t=>
  obtain⟨v,e,q⟩:=bg.one t
  exact⟨_,v,by rw[e],r,q⟩
theorem bg.zero:∀{us:List Value},bg [] us->us=[]
 |_, .nil=>rfl
theorem bg.eraseIdx:∀{xs:List V} {us:List Value} (i:Nat),bg xs us->bg (xs.eraseIdx i) (us.eraseIdx i)
 |_,_,_, .nil=> .nil
 |_,_,0, .cons _ t=>t
 |_,_,i+1, .cons r t=> .cons r (bg.eraseIdx i t)
theorem bg.reverse {xs:List V} {us:List Value} (h:bg xs us):bg xs.reverse us.reverse:=by
 induction h with
 |nil=>exact .nil
 |cons r t ih=>rw[List.reverse_cons,List.reverse_cons];exact bg.append ih (.cons r .nil)
theorem bg.rep {xs:List V} {us:List Value} (h:bg xs us):∀k:Nat,bg (List.replicate k xs).flatten (List.replicate k us).flatten
 |0=> .nil
 |k+1=>by
  rw[List.replicate_succ,List.replicate_succ,List.flatten_cons,List.flatten_cons]
  exact bg.append h (bg.rep h k)
theorem rq {α:Type}:∀(l:List α) (i:Nat),(l.eraseIdx i).length<=l.length
 |[],_=>Nat.le_refl _
 |_::_,0=>Nat.le_succ _
 |_::r,i+1=>Nat.succ_le_succ (rq r i)
theorem rA (its:List Value):∀(k:Nat) (acc:List Value),
  List.foldl (fun x1 x2=>x1++x2) acc.toArray (List.replicate k its.toArray)=(acc++(List.replicate k its).flatten).toArray
 |0,acc=>by simp
 |k+1,acc=>by
  have e:acc.toArray++its.toArray=(acc++its).toArray:=by simp
  have e2:(acc++its)++(List.replicate k its).flatten=acc++(List.replicate (k+1) its).flatten:=by
   rw[List.replicate_succ,List.flatten_cons,List.append_assoc]
  rw[<-e2,<-rA its k (acc++its),<-e,List.replicate_succ,List.foldl_cons]
section
variable {X:Cx} {pins:List (Addr×Obj)} {σ:St} {H:Hp} {s:Shared} {l b:Addr} {xs ys zs:List V}
theorem aM.lset {its its':List Value} {n:Nat} {f:Array Value->Array Value} {t':Nat} (I:aM X pins σ H s) (hH:H l=some (.lst xs))
  (e:s.heap.get? l=some {cls:= .type "list",data:= .seq its.toArray n}) (hf:f its.toArray=its'.toArray) (hv:bg ys its') (hz:ys.length<=sizeLine):
  aM X pins σ (bY H l (.lst ys)) {s with heap:=s.heap.update l (Obj.mapSeq f),toks:=t'}:=by
 have q:=PySem.IsL.update e f
 rw[hf]at q
 refine I.write (x:=l) (e:=l) (by rw[hH];exact trivial) (.inl rfl) (fun b' u hb hu=>(Heap.get?_update_other s.heap (Obj.mapSeq f) (Ne.symm hb)).trans hu) ⟨_,q⟩ ?_
 exact⟨hz,its',_,hv,q⟩
theorem aM.lnew {its:List Value} {t':Nat} (I:aM X pins σ H s) (hv:bg ys its) (hz:ys.length<=sizeLine):
  aM X pins σ (bY H s.heap.objs.size (.lst ys)) {s with heap:=s.heap.push {cls:= .type "list",data:= .seq its.toArray},toks:=t'}:=
 I.laid (fun _ _ q=>Heap.get?_push_of_some _ q) (Nat.le_refl _) ⟨hz,its,0,hv,Heap.get?_push_size _ rfl⟩
theorem aM.fresh (I:aM X pins σ H s):H s.heap.objs.size=none:=I.hok.fresh (Nat.le_refl _)
theorem aM.lstM (I:aM X pins σ H s) (hH:H l=some (.lst xs)):xs.length<=sizeLine/\∃(its:List Value) (n:Nat),bg xs its/\xs.length=its.length/\s.heap.get? l=some {cls:= .type "list",data:= .seq its.toArray n}:=by
 obtain⟨z,its,n,r,e⟩:=I.hok l _ hH
 exact⟨z,its,n,r,r.length,e⟩
theorem u4 {n:Nat} (h:n<=sizeLine):Builtin.List.listTooLong n=false:=by
 unfold Builtin.List.listTooLong
 exact decide_eq_false (by omega)
end
section
variable {X:Cx}
def Cr:V->List V->Hp->VK->Prop:=fun x vs H Q=>∃l xs y,x= .ref l/\vs=[y]/\H l=some (.lst xs)/\xs.length<sizeLine/\Q .non (bY H l (.lst (xs++[y])))
theorem rB:Iq X "list.append" Cr:=by
 intro pins s σ H x vs v us Q I rx rv h
 obtain⟨l,xs,y,rfl,rfl,hH,hz,q⟩:=h
 cases rx
 obtain⟨u,rfl,ru⟩:=rv.one
 obtain⟨z,its,n,r,hl,e⟩:=I.lstM hH
 refine call_meets F.slot_list_append ⟨_,e,rfl⟩ F.entry_list_append (F.args_list_append_2 _ _) (PySem.list_append l its.toArray n u (by rw[List.size_toArray];omega)) ⟨e,?_⟩
 refine⟨.non,_,I.lset (its':=its++[u]) hH e (by simp) (r.append (.cons ru .nil)) ?_,rfl,q⟩
 rw[List.length_append,List.length_singleton]
 omega
def Cs:V->List V->Hp->VK->Prop:=fun x vs H Q=>∃l b xs zs,x= .ref l/\vs=[.ref b]/\H l=some (.lst xs)/\H b=some (.lst zs)/\xs.length+zs.length<=sizeLine/\Q .non (bY H l (.lst (xs++zs)))
theorem Ga:Iq X "list.extend" Cs:=by
 intro pins s σ H x vs v us Q I rx rv h
 obtain⟨l,b,xs,zs,rfl,rfl,hH,hB,hz,q⟩:=h
 cases rx
 obtain⟨u,rfl,ru⟩:=rv.one
 cases ru
 obtain⟨z,its,n,r,hl,e⟩:=I.lstM hH
 obtain⟨z2,its2,n2,r2,hl2,e2⟩:=I.lstM hB
 have hsz:its.toArray.size+its2.toArray.size<=sizeLine:=by rw[List.size_toArray,List.size_toArray];omega
 have hlong:¬(!its.toArray.isEmpty&&Builtin.List.listTooLong (its.toArray.size+its2.toArray.size))=true:=by
  rw[u4 hsz,Bool.and_false]
  exact Bool.false_ne_true
 refine call_meets F.slot_list_extend ⟨_,e,rfl⟩ F.entry_list_extend (F.args_list_extend_2 _ _)
  (AutoSeq1.list_extend_list_list_0 l its.toArray n b its2.toArray n2 hlong (by rw[List.size_toArray];omega) (by omega)) ⟨e,e2,?_⟩
 refine⟨.non,_,I.lset (its':=its++its2) hH e (by simp) (r.append r2) ?_,rfl,q⟩
 rw[List.length_append]
 omega
def EX:V->List V->Hp->VK->Prop:=fun x vs H Q=>∃l xs i k y,x= .ref l/\vs=[.int i]/\H l=some (.lst xs)/\ -(2 ^63)<=i/\i<2 ^63/\seqIndex? i xs.length=some k/\xs[k]? =some y/\Q y (bY H l (.lst (xs.eraseIdx k)))
theorem zQ:Iq X "list.pop" EX:=by
 intro pins s σ H x vs v us Q I rx rv h
 obtain⟨l,xs,i,k,y,rfl,rfl,hH,h1,h2,hk,hy,q⟩:=h
 cases rx
 obtain⟨u,rfl,ru⟩:=rv.one
 obtain⟨t,rfl⟩:=ru
 obtain⟨z,its,n,r,hl,e⟩:=I.lstM hH
 obtain⟨w,hw,rw'⟩:=r.get hy
 refine call_meets F.slot_list_pop ⟨_,e,rfl⟩ F.entry_list_pop (F.args_list_pop_2 _ _)
  (MeetsSeq.list_pop_at l its.toArray n i t k w (fitsIndex_both h1 h2) (by rw[List.size_toArray,<-hl];exact hk) (by rw[<-Array.getElem?_toList];exact hw) (by rw[List.size_toArray];omega)) ⟨e,?_⟩
 refine⟨y,_,I.lset (its':=its.eraseIdx k) hH e ?_ (r.eraseIdx k) ?_,rw',q⟩
 ·show its.toArray.eraseIdxIfInBounds k=(its.eraseIdx k).toArray
  rw[List.eraseIdxIfInBounds_toArray]
 ·have:=rq xs k
  omega
def GJ:R2:=fun x y H Q=>∃l b xs zs,x= .ref l/\y= .ref b/\H l=some (.lst xs)/\H b=some (.lst zs)/\xs.length+zs.length<=sizeLine/\∀p,H p=none->Q (.ref p) (bY H p (.lst (xs++zs)))
theorem EY:kG X (binaryOp .Add) GJ:=by
 intro pins s σ H x y v u Q I rx ry h
 obtain⟨l,b,xs,zs,rfl,rfl,hH,hB,hz,q⟩:=h
 cases rx
 cases ry
 obtain⟨z,its,n,r,hl,e⟩:=I.lstM hH
 obtain⟨z2,its2,n2,r2,hl2,e2⟩:=I.lstM hB
 refine PySem.P.add_list e e2 ?_ (by rw[List.size_toArray,List.size_toArray];omega)
 have ea:its.toArray++its2.toArray=(its++its2).toArray:=by simp
 rw[ea]
 exact⟨.ref _,_,I.lnew (t':=s.toks) (r.append r2) (by rw[List.length_append];omega),rfl,q _ I.fresh⟩
def GK:R2:=fun x y H Q=>∃l k xs,x= .ref l/\y= .int k/\H l=some (.lst xs)/\ -(2 ^63)<=k/\k<2 ^63/\xs.length*k.toNat<=sizeLine/\
 ∀p,H p=none->Q (.ref p) (bY H p (.lst (List.replicate k.toNat xs).flatten))
theorem Ct {α:Type} (xs:List α) (k:Nat):(List.replicate k xs).flatten.length=k*xs.length:=by
 induction k with
 |zero=>simp
 |succ k ih=>rw[List.replicate_succ,List.flatten_cons,List.length_append,ih,Nat.succ_mul,Nat.add_comm]
theorem EZ:kG X (binaryOp .Mult) GK:=by
 intro pins s σ H x y v u Q I rx ry h
 obtain⟨l,k,xs,rfl,rfl,hH,h1,h2,hz,q⟩:=h
 cases rx
 obtain⟨t,rfl⟩:=ry
 obtain⟨z,its,n,r,hl,e⟩:=I.lstM hH
 have hlen:its.toArray.size*k.toNat<=sizeLine:=by rw[List.size_toArray,<-hl];exact hz
 have hcap:¬its.toArray.size*k.toNat>(2 ^63 - 1) / 8:=by
  have:(sizeLine:Nat)<=(2 ^63 - 1) / 8:=by decide
  omega
 have hfit:¬(!Builtin.List.listFitsIndex k)=true:=by
  rw[fitsIndex_both h1 h2]
  exact Bool.false_ne_true
 have hlong:¬Builtin.List.listTooLong (its.toArray.size*k.toNat)=true:=by
  rw[u4 hlen]
  exact Bool.false_ne_true
 have hnew:List.foldl (fun x1 x2=>x1++x2) #[] (List.replicate (if its.toArray.isEmpty=true then 0 else k.toNat) its.toArray)=(List.replicate k.toNat its).flatten.toArray:=by
  have f0:∀m:Nat,List.foldl (fun x1 x2=>x1++x2) #[] (List.replicate m its.toArray)=(List.replicate m its).flatten.toArray:=fun m=>by
   have:=rA its m []
   rw[List.nil_append]at this
   exact this
  rw[f0]
  cases its with
  |nil=>simp
  |cons a r'=>rw[if_neg (by simp)]
 refine wpAny_binaryOp_repeat_ref (T:="list") (U:="int") (by decide) ⟨_,e,rfl⟩ (fun s'=>typeIs_int s' k t) noFill_list_mul F.fills_int_mul F.slot_int_rmul repeat_list F.slot_int_index.lookup
  (call_meets F.slot_int_rmul (typeIs_int s k t) F.entry_int_rmul (F.args_int_rmul_2 _ _) (int___rmul___int_list k t l its.toArray n)
   ⟨e,rfl,⟨_,e,rfl⟩,call_meets F.slot_list_mul ⟨_,e,rfl⟩ F.entry_list_mul (F.args_list_mul_2 _ _) (AutoListH.list___mul___list_int_3 l its.toArray n k t hfit hcap hlong) ⟨e,?_⟩⟩)
 rw[hnew]
 exact⟨.ref _,_,I.lnew (t':=s.toks) (r.rep k.toNat) (by rw[Ct,Nat.mul_comm];exact hz),rfl,q _ I.fresh⟩
end
section
variable {prog:Program} {w:World} {A:Around} {E:Value->Shared->Prop} {s:Shared}
end
section
variable {X:Cx}
end
end L2
namespace L2
open PySem PySem.Spec PyProof.Rows
section
variable {κ:Type} [DecidableEq κ]
def ka (kvs:List (κ×V)) (k:κ):Option V:=(kvs.find? fun kv=>decide (kv.1=k)).map (·.2)
def jB (kvs:List (κ×V)) (k:κ) (v:V):List (κ×V):=
 if (kvs.any fun kv=>decide (kv.1=k))=true then kvs.map (fun kv=>if kv.1=k then (kv.1,v)else kv)else kvs++[(k,v)]
def DV (kvs:List (κ×V)) (k:κ):List (κ×V):=kvs.filter fun kv=>decide (kv.1≠k)
theorem pi {p:κ×V} {r:List (κ×V)} {k:κ} (e:p.1=k):ka (p::r) k=some p.2:=by simp[ka,List.find?_cons,e]
theorem pj {p:κ×V} {r:List (κ×V)} {k:κ} (e:¬p.1=k):ka (p::r) k=ka r k:=by simp[ka,List.find?_cons,e]
theorem u5 (k:κ):∀kvs:List (κ×V),(kvs.any fun kv=>decide (kv.1=k))=(ka kvs k).isSome
 |[]=>rfl
 |p::r=>by
  rw[List.any_cons]
  by_cases e:p.1=k
  ·simp only[pi e,decide_eq_true e,Bool.true_or,Option.isSome_some]
  ·rw[pj e,decide_eq_false e,Bool.false_or];exact u5 k r
theorem kK (kvs:List (κ×V)) (k:κ) (v:V):(jB kvs k v).length<=kvs.length+1:=by
 unfold jB
 split
 ·rw[List.length_map];omega
 ·rw[List.length_append,List.length_cons,List.length_nil];omega
theorem kE.isSome_eq {o:Option V} {u:Option Value} (r:kE o u):o.isSome=u.isSome:=by
 cases o with
 |none=>cases u with
  |none=>rfl
  |some _=>exact(show False from r).elim
 |some _=>cases u with
  |none=>exact(show False from r).elim
  |some _=>rfl
theorem kE.getD {o:Option V} {u:Option Value} {d:V} {d':Value} (r:kE o u) (rd:bJ d d'):bJ (o.getD d) (u.getD d'):=by
 cases o with
 |none=>cases u with
  |none=>exact rd
  |some _=>exact(show False from r).elim
 |some _=>cases u with
  |none=>exact(show False from r).elim
  |some _=>exact r
theorem KV.val {kvs:List (κ×V)} {vs:List (κ×Value)} (r:KV kvs vs) (k:κ):kE (ka kvs k) (valueAt vs k):=by
 unfold KV at r
 induction r with
 |nil=>exact True.intro
 | @cons p q ps qs h t ih=>
  obtain⟨h1,h2⟩:=h
  by_cases e:p.1=k
  ·have e':q.1=k:=h1.symm.trans e
   have b:valueAt (q::qs) k=some q.2:=by simp[valueAt,List.find?_cons,e']
   rw[pi e,b];exact h2
  ·have e':¬q.1=k:=fun z=>e (h1.trans z)
   have b:valueAt (q::qs) k=valueAt qs k:=by simp[valueAt,List.find?_cons,e']
   rw[pj e,b];exact ih
theorem KV.any {kvs:List (κ×V)} {vs:List (κ×Value)} (r:KV kvs vs) (k:κ):(kvs.any fun kv=>decide (kv.1=k))=vs.any fun kv=>decide (kv.1=k):=by
 unfold KV at r
 induction r with
 |nil=>rfl
 |cons h t ih=>rw[List.any_cons,List.any_cons,ih,h.1]
theorem KV.repl {kvs:List (κ×V)} {vs:List (κ×Value)} (r:KV kvs vs) (k:κ) {y:V} {u:Value} (ry:bJ y u):
  KV (kvs.map fun kv=>if kv.1=k then (kv.1,y)else kv) (vs.map fun kv=>if kv.1=k then (kv.1,u)else kv):=by
 unfold KV at r ⊢
 induction r with
 |nil=>exact .nil
 | @cons p q ps qs h t ih=>
  rw[List.map_cons,List.map_cons]
  refine .cons ?_ ih
  obtain⟨h1,h2⟩:=h
  by_cases e:p.1=k
  ·rw[if_pos e,if_pos (h1.symm.trans e)];exact⟨h1,ry⟩
  ·rw[if_neg e,if_neg (fun z=>e (h1.trans z))];exact⟨h1,h2⟩
theorem KV.put {kvs:List (κ×V)} {vs:List (κ×Value)} (r:KV kvs vs) (k:κ) {y:V} {u:Value} (ry:bJ y u):KV (jB kvs k y) (stored vs k u):=by
 unfold jB stored
 rw[r.any k]
 by_cases e:(vs.any fun kv=>decide (kv.1=k))=true
 ·rw[if_pos e,if_pos e];exact r.repl k ry
 ·rw[if_neg e,if_neg e];exact Paired.snoc r ⟨rfl,ry⟩
theorem KV.drop {kvs:List (κ×V)} {vs:List (κ×Value)} (r:KV kvs vs) (k:κ):KV (DV kvs k) (without vs k):=by
 unfold KV at r ⊢
 unfold DV without
 induction r with
 |nil=>exact .nil
 | @cons p q ps qs h t ih=>
  obtain⟨h1,h2⟩:=h
  rw[List.filter_cons,List.filter_cons]
  by_cases e:p.1=k
  ·have a:¬decide (p.1≠k)=true:=by simp[e]
   have b:¬decide (q.1≠k)=true:=by simp[h1.symm.trans e]
   rw[if_neg a,if_neg b];exact ih
  ·have e':¬q.1=k:=fun z=>e (h1.trans z)
   have a:decide (p.1≠k)=true:=by simp[e]
   have b:decide (q.1≠k)=true:=by simp[e']
   rw[if_pos a,if_pos b];exact .cons ⟨h1,h2⟩ ih
theorem KV.keys {kvs:List (κ×V)} {vs:List (κ×Value)} (r:KV kvs vs):kvs.map (·.1)=vs.map (·.1):=by
 unfold KV at r
 induction r with
 |nil=>rfl
 |cons h t ih=>rw[List.map_cons,List.map_cons,ih,h.1]
theorem KV.length {kvs:List (κ×V)} {vs:List (κ×Value)} (r:KV kvs vs):kvs.length=vs.length:=Paired.length r
end
theorem o6 {P:Program} {w:World} {k:bx} {u:Value} (r:bJ (kV k) u):(bK P w).is k u=true:=by
 cases k with
 |inl i=>obtain⟨t,e⟩:=(show ∃t,u=Value.int i t from r);subst e;exact tV P w i t
 |inr x=>obtain⟨t,e⟩:=(show ∃t,u=Value.str x t from r);subst e;exact tW P w x t
theorem rC {P:Program} {w:World}:∀{ks:List bx} {us:List Value},bg (ks.map kV) us->ItemsAre (bK P w) ks us
 |[],_,r=>by rw[List.map_nil]at r;cases r;exact .nil
 |k::ks,_,r=>by
  rw[List.map_cons]at r
  cases r with
  |cons h t=>exact .cons (o6 h) (rC t)
abbrev KT (H:Hp):List (List bx×V)->List (List bx×Addr×Value)->Prop:=Paired fun p q=>p.1=q.1/\H q.2.1=some (.tup (p.1.map kV))/\bJ p.2 q.2.2
theorem KT.val {H:Hp} {kvs:List (List bx×V)} {xs:List (List bx×Addr×Value)} (r:KT H kvs xs) (k:List bx):kE (ka kvs k) ((atKey xs k).map (·.2)):=by
 induction r with
 |nil=>exact True.intro
 | @cons p q ps qs h t ih=>
  obtain⟨h1,_,h2⟩:=h
  by_cases e:p.1=k
  ·have e':q.1=k:=h1.symm.trans e
   have b:atKey (q::qs) k=some q.2:=by simp[atKey,List.find?_cons,e']
   rw[pi e,b];exact h2
  ·have e':¬q.1=k:=fun z=>e (h1.trans z)
   have b:atKey (q::qs) k=atKey qs k:=by simp[atKey,List.find?_cons,e']
   rw[pj e,b];exact ih
theorem KT.repl {H:Hp} {kvs:List (List bx×V)} {xs:List (List bx×Addr×Value)} (r:KT H kvs xs) (k:List bx) {y:V} {u:Value} (ry:bJ y u):
  KT H (kvs.map fun kv=>if kv.1=k then (kv.1,y)else kv) (xs.map (putAt k u)):=by
 induction r with
 |nil=>exact .nil
 | @cons p q ps qs h t ih=>
  rw[List.map_cons,List.map_cons]
  refine .cons ?_ ih
  obtain⟨h1,h2,h3⟩:=h
  unfold putAt
  by_cases e:p.1=k
  ·rw[if_pos e,if_pos (h1.symm.trans e)];exact⟨h1,h2,ry⟩
  ·rw[if_neg e,if_neg (fun z=>e (h1.trans z))];exact⟨h1,h2,h3⟩
theorem KT.put {H:Hp} {kvs:List (List bx×V)} {xs:List (List bx×Addr×Value)} (r:KT H kvs xs) (k:List bx) {b:Addr} {y:V} {u:Value} (hb:H b=some (.tup (k.map kV))) (ry:bJ y u):
  KT H (jB kvs k y) (storedH xs k b u):=by
 have e:(kvs.any fun kv=>decide (kv.1=k))=(atKey xs k).isSome:=by
  rw[u5,(r.val k).isSome_eq,Option.isSome_map]
 unfold jB storedH
 rw[e]
 by_cases q:(atKey xs k).isSome=true
 ·rw[if_pos q,if_pos q];exact r.repl k ry
 ·rw[if_neg q,if_neg q];exact Paired.snoc r ⟨rfl,hb,ry⟩
theorem KT.keeps {H H':Hp} {kvs:List (List bx×V)} {xs:List (List bx×Addr×Value)} (r:KT H kvs xs) (ht:∀b ys,H b=some (.tup ys)->H' b=some (.tup ys)):KT H' kvs xs:=
 Paired.mapP r fun _ _ z=>⟨z.1,ht _ _ z.2.1,z.2.2⟩
section
variable {P:Program} {w:World} {H:Hp} {h:Heap} {a:Addr}
theorem DW {u:HO} (ok:kF P w H h) (e:Rd H a u):cf P w H h a u:=e.ok ok
theorem o7 {kvs:List (bx×V)} (ok:kF P w H h) (e:Rd H a (.dK kvs)):kvs.length<=sizeLine/\(a==sysModules)=false/\∃vs,KV kvs vs/\h.DictOf (bK P w) a vs:=
 show cf P w H h a (.dK kvs)from DW ok e
theorem zR {kvs:List (bx×V)} (ok:kF P w H h) (e:H a=some (.dK kvs)):kvs.length<=sizeLine/\(a==sysModules)=false/\∃vs,KV kvs vs/\h.DictOf (bK P w) a vs:=o7 ok (.inl e)
theorem nM {ks:List bx} (ok:kF P w H h) (e:H a=some (.tup (ks.map kV))):(tupleKind (bK P w)).is h ks a:=by
 obtain⟨_,its,r,o,h1,h2,n,h3,_⟩:=(show cf P w H h a (.tup (ks.map kV))from ok a _ e)
 exact⟨o,its.toArray,n,h1,h2,h3,by simpa using rC r⟩
theorem pq {kvs:List (List bx×V)} (ok:kF P w H h) (e:Rd H a (.dT kvs)):kvs.length<=sizeLine/\(a==sysModules)=false/\
  ∃xs,KT H kvs xs/\h.DictOfH (tupleKind (bK P w)) a xs:=by
 obtain⟨z,y,xs,r,o,es,ep,h1,h2,h3,h4,h5⟩:=(show cf P w H h a (.dT kvs)from DW ok e)
 refine⟨z,y,xs,r,o,es,ep,h1,h2,h3,h4,fun x hx=> ?_,h5⟩
 have all:∀{l:List (List bx×V)} {m:List (List bx×Addr×Value)},KT H l m->∀x∈m,(tupleKind (bK P w)).is h x.1 x.2.1:=by
  intro l m q
  induction q with
  |nil=>intro x hx;exact nomatch hx
  | @cons p q ps qs hq t ih=>
   intro x hx
   rcases List.mem_cons.mp hx with e|hx
   ·subst e
    exact nM ok (by rw[<-hq.1];exact hq.2.1)
   ·exact ih x hx
 exact all r x hx
theorem GL {kvs:List (List bx×V)} (ok:kF P w H h) (e:H a=some (.dT kvs)):kvs.length<=sizeLine/\(a==sysModules)=false/\
  ∃xs,KT H kvs xs/\h.DictOfH (tupleKind (bK P w)) a xs:=pq ok (.inl e)
end
def kL (H:Hp) (a:Addr) (y:V) (r:Option V):Prop:=
 (∃kvs k,Rd H a (.dK kvs)/\y=kV k/\r=ka kvs k)\/∃kvs k b,Rd H a (.dT kvs)/\y= .ref b/\H b=some (.tup (k.map kV))/\r=ka kvs k
def vG (H:Hp) (a:Addr) (y v:V) (H':Hp):Prop:=
 (∃kvs k,H a=some (.dK kvs)/\y=kV k/\kvs.length<sizeLine/\H'=bY H a (.dK (jB kvs k v)))\/
 ∃kvs k b,H a=some (.dT kvs)/\y= .ref b/\H b=some (.tup (k.map kV))/\kvs.length<sizeLine/\H'=bY H a (.dT (jB kvs k v))
theorem kL.k {H:Hp} {a:Addr} {kvs:List (bx×V)} {k:bx} (e:H a=some (.dK kvs)):kL H a (kV k) (ka kvs k):= .inl ⟨kvs,k, .inl e,rfl,rfl⟩
theorem kL.t {H:Hp} {a b:Addr} {kvs:List (List bx×V)} {k:List bx} (e:H a=some (.dT kvs)) (eb:H b=some (.tup (k.map kV))):kL H a (.ref b) (ka kvs k):= .inr ⟨kvs,k,b, .inl e,rfl,eb,rfl⟩
theorem vG.k {H:Hp} {a:Addr} {kvs:List (bx×V)} {k:bx} {v:V} (e:H a=some (.dK kvs)) (hl:kvs.length<sizeLine):vG H a (kV k) v (bY H a (.dK (jB kvs k v))):= .inl ⟨kvs,k,e,rfl,hl,rfl⟩
theorem vG.t {H:Hp} {a b:Addr} {kvs:List (List bx×V)} {k:List bx} {v:V} (e:H a=some (.dT kvs)) (eb:H b=some (.tup (k.map kV))) (hl:kvs.length<sizeLine):
  vG H a (.ref b) v (bY H a (.dT (jB kvs k v))):= .inr ⟨kvs,k,b,e,rfl,eb,hl,rfl⟩
section
variable {X:Cx} {pins:List (Addr×Obj)} {σ:St} {H:Hp} {s:Shared} {a:Addr} {y v:V} {u r:Value} {o:Option V} {A:Around} {E:Value->Shared->Prop}
theorem aM.big (I:aM X pins σ H s):sysModules<s.heap.objs.size:=by
 have h:mainGlobals<s.heap.objs.size:=(I.mod.glob.keeps I.bk).lt
 exact Nat.lt_trans (by decide) h
theorem yf {Q:Value->Shared->Prop} (hu:A.units+1<cLine) (I:aM X pins σ H s) (g:kL H a y (some v)) (ry:bJ y u) (h:∀w' s',aM X pins σ H s'->bJ v w'->Q w' s'):
  wpAny (model X.prog X.w) A (getItem (.ref a) u) Q E s:=by
 rcases g with ⟨kvs,k,e,ey,l⟩|⟨kvs,k,b,e,ey,eb,l⟩
 ·subst ey
  obtain⟨z,hd,vs,rel,dd⟩:=o7 I.hok e
  obtain⟨w',hw,rw'⟩:=kE.some_of (v:=v) (o:=valueAt vs k) (by rw[l];exact rel.val k)
  exact wpAny_getItem_of (o6 ry) dd.mapOf hw (h w' _ (I.tok _) rw')
 ·subst ey
  cases (show u=Value.ref b from ry)
  obtain⟨z,hd,xs,rel,dd⟩:=pq I.hok e
  obtain⟨w',hw,rw'⟩:=kE.some_of (v:=v) (o:=(atKey xs k).map (·.2)) (by rw[l];exact rel.val k)
  obtain⟨p,hp,hp2⟩:=Option.map_eq_some_iff.mp hw
  refine wpAny_getItem_heap (tupleKind_room_in1 hu) (nM I.hok eb) dd hp ?_
  rw[hp2]
  exact h w' _ (I.tok _) rw'
theorem Ir {Q:Value->Shared->Prop} (hu:A.units+1<cLine) (I:aM X pins σ H s) (g:kL H a y o) (ry:bJ y u) (h:∀s',aM X pins σ H s'->Q (.bool o.isSome) s'):
  wpAny (model X.prog X.w) A (compareOp .In u (.ref a)) Q E s:=by
 rcases g with ⟨kvs,k,e,ey,l⟩|⟨kvs,k,b,e,ey,eb,l⟩
 ·subst ey
  obtain⟨z,hd,vs,rel,dd⟩:=o7 I.hok e
  refine wpAny_in_of (o6 ry) hd dd.mapOf ?_
  rw[<-(rel.val k).isSome_eq,<-l]
  exact h _ (I.tok _)
 ·subst ey
  cases (show u=Value.ref b from ry)
  obtain⟨z,hd,xs,rel,dd⟩:=pq I.hok e
  refine wpAny_in_heap (tupleKind_room_in1 hu) (nM I.hok eb) hd dd ?_
  have q:=(rel.val k).isSome_eq
  rw[Option.isSome_map]at q
  rw[<-q,<-l]
  exact h _ (I.tok _)
theorem Cu {Q:Value->Shared->Prop} (hu:A.units+1<cLine) (I:aM X pins σ H s) (g:kL H a y o) (ry:bJ y u) (h:∀s',aM X pins σ H s'->Q (.bool (!o.isSome)) s'):
  wpAny (model X.prog X.w) A (compareOp .NotIn u (.ref a)) Q E s:=by
 rcases g with ⟨kvs,k,e,ey,l⟩|⟨kvs,k,b,e,ey,eb,l⟩
 ·subst ey
  obtain⟨z,hd,vs,rel,dd⟩:=o7 I.hok e
  refine wpAny_notIn_of (o6 ry) hd dd.mapOf ?_
  rw[<-(rel.val k).isSome_eq,<-l]
  exact h _ (I.tok _)
 ·subst ey
  cases (show u=Value.ref b from ry)
  obtain⟨z,hd,xs,rel,dd⟩:=pq I.hok e
  refine wpAny_notIn_heap (tupleKind_room_in1 hu) (nM I.hok eb) hd dd ?_
  have q:=(rel.val k).isSome_eq
  rw[Option.isSome_map]at q
  rw[<-q,<-l]
  exact h _ (I.tok _)
theorem sv {h':Heap} {t':Nat} {ob:HO} (I:aM X pins σ H s) (mu:Gd (H a)) (hs:Heap.SameBut a s.heap h') (he:∃q,h'.get? a=some q) (new:cf X.prog X.w (bY H a ob) h' a ob):
  aM X pins σ (bY H a ob) {s with heap:=h',toks:=t'}:=
 I.write (x:=a) (e:=a) mu (.inl rfl) (fun b q hb z=>(hs.2 b hb).trans z) he new
theorem vH {P:Program} {w:World} {H':Hp} {h':Heap} {kvs:List (bx×V)} {vs:List (bx×Value)} (z:kvs.length<=sizeLine) (hd:(a==sysModules)=false) (rel:KV kvs vs) (dd:h'.DictOf (bK P w) a vs):
  cf P w H' h' a (.dK kvs):=⟨z,hd,vs,rel,dd⟩
theorem yg {H':Hp} {Q:Unit->Shared->Prop} (hu:A.units+1<cLine) (I:aM X pins σ H s) (g:vG H a y v H') (ry:bJ y u) (rv:bJ v r) (h:∀s',aM X pins σ H' s'->Q () s'):
  wpAny (model X.prog X.w) A (setItem (.ref a) u r) Q E s:=by
 rcases g with ⟨kvs,k,e,ey,l,eH⟩|⟨kvs,k,b,e,ey,eb,l,eH⟩
 ·subst ey eH
  obtain⟨z,hd,vs,rel,dd⟩:=zR I.hok e
  have hz:vs.length<=sizeLine:=by rw[<-rel.length];exact z
  have hl:(jB kvs k v).length<=sizeLine:=by have:=kK kvs k v;omega
  refine wpAny_setItem_pairs (hsz:=hz) (o6 ry) dd fun h' dd' hs=>h _ ?_
  have he:∃q,h'.get? a=some q:=let ⟨q,_,_,hq,_⟩:=dd';⟨q,hq⟩
  exact sv I (by rw[e];exact True.intro) hs he (vH hl hd (rel.put k rv) dd')
 ·subst ey eH
  cases (show u=Value.ref b from ry)
  obtain⟨z,hd,xs,rel,dd⟩:=GL I.hok e
  have hz:xs.length<=sizeLine:=by rw[<-Paired.length rel];exact z
  have hl:(jB kvs k v).length<=sizeLine:=by have:=kK kvs k v;omega
  refine wpAny_setItem_heap (hsz:=hz) (tupleKind_room_in1 hu) (nM I.hok eb) dd fun h' dd' hs=>h _ ?_
  obtain⟨q,es,ep,hq,h2,h3,h4,_,h5⟩:=dd'
  refine sv I (by rw[e];exact True.intro) hs ⟨q,hq⟩ ⟨hl,hd,_,(rel.put k eb rv).keeps fun c ys ec=> ?_,q,es,ep,hq,h2,h3,h4,h5⟩
  rw[aD (Gc ec e (fun z=>nomatch z))]
  exact ec
end
section
variable {X:Cx} {pins:List (Addr×Obj)} {σ:St} {H:Hp} {s:Shared} {a:Addr} {kvs:List (bx×V)} {k:bx} {u:Value} {A:Around} {E:Value->Shared->Prop}
theorem GN {Q:Value->Shared->Prop} (I:aM X pins σ H s) (e:Rd H a (.dK kvs)) (h:∀t s',aM X pins σ H s'->Q (.int kvs.length t) s'):wpAny (model X.prog X.w) A (call (.builtin "len") [.ref a]) Q E s:=by
 obtain⟨z,hd,vs,rel,dd⟩:=o7 I.hok e
 refine call_len_dict hd dd (by rw[<-rel.length];rw[sizeLine_eq]at z;omega) ?_
 rw[<-rel.length]
 exact h _ _ (I.tok _)
end
def GO (i:Expr):Prop:=∀ov iv,subscripted i false ov iv=operate [ov,iv] (getItem ov iv)
theorem Cv {prog:Program} {w:World} {A:Around} {E:Value->Shared->Prop} {s:Shared} {env:Env} {value slice:Expr} {pos:Pos} {T id:String} {Q:Value->Shared->Prop}
  (hl:typeLookup (.type T) "__getitem__"=pure (some (.builtin id))) (hs:GO slice)
  (h:wpAny (model prog w) A (eval value env) (fun o s₁=>wpAny (model prog w) A (eval slice env) (fun i s₂=>s₂.TypeIs o T/\wpAny (model prog w) A (getItem o i) Q E s₂) E s₁) E s):
  wpAny (model prog w) A (eval (.Subscript value slice pos) env) Q E s:=by
 refine Subscript_ (wpAny_mono h (fun o s₁ h₁=>wpAny_mono h₁ (fun i s₂ h₂=> ?_) fun _ _ x=>x) fun _ _ x=>x)
 obtain⟨hT,h₂⟩:=h₂
 unfold subscriptTail
 refine wpAny_bind ?_
 rw[getitemInPython_of_ne hT.not_modules]
 refine wpAny_bind (wpAny_specialOf hT hl ?_)
 have fin:wpAny (model prog w) A (subscripted slice false o i) (fun r s₃=>wpAny (model prog w) A (letTemporaryGo value o r>>=fun _=>pure r) Q E s₃) E s₂:=by
  rw[hs o i]
  exact wpAny_operating (wpAny_mono h₂ (fun r s₃ h₃=>wpAny_bind (wpAny_letTemporaryGo (wpAny_pure h₃))) fun _ _ x=>x)
 first
  |exact wpAny_pure (wpAny_bind fin)
  |exact wpAny_bind (wpAny_pure (wpAny_bind fin))
  |exact wpAny_bind fin
theorem u6 {X:Cx} {pins:List (Addr×Obj)} {σ:St} {H:Hp} {s:Shared} {a:Addr} {y:V} {o:Option V} (I:aM X pins σ H s) (g:kL H a y o):s.TypeIs (.ref a) "dict":=by
 rcases g with ⟨kvs,k,e,_,_⟩|⟨kvs,k,b,e,_,_,_⟩
 ·obtain⟨_,_,vs,_,dd⟩:=o7 I.hok e
  exact dd.typeIs
 ·obtain⟨_,_,xs,_,dd⟩:=pq I.hok e
  exact dd.typeIs
def GP (td ty:TE):TE:=fun σ H Q=>td σ H fun x H1=>ty σ H1 fun y H2=>∃a v,x= .ref a/\kL H2 a y (some v)/\Q v H2
def E_ (ty td:TE):TE:=fun σ H Q=>ty σ H fun y H1=>td σ H1 fun x H2=>∃a o,x= .ref a/\kL H2 a y o/\Q (.bl o.isSome) H2
def sx (ty td:TE):TE:=fun σ H Q=>ty σ H fun y H1=>td σ H1 fun x H2=>∃a o,x= .ref a/\kL H2 a y o/\Q (.bl (!o.isSome)) H2
def GQ (td ty tv:TE):TS:=fun D σ H=>tv σ H fun v H1=>td σ H1 fun x H2=>ty σ H2 fun y H3=>∃a H4,x= .ref a/\vG H3 a y v H4/\D.nx σ H4
section
variable {X:Cx} {o i e value:Expr} {pos pos' tpos:Pos} {td ty tv:TE}
theorem Cw (hu:X.A.units+1<cLine) (ho:PE X o td) (hi:PE X i ty) (hs:GO i):PE X (.Subscript o i pos) (GP td ty):=by
 intro pins s σ H Q I h
 refine Cv PySem.F.slot_dict_getitem.lookup hs (cP (ho pins s σ H _ I h) fun u s1 ⟨x,H1,I1,rx,q1⟩=>cP (hi pins s1 σ H1 _ I1 q1) fun iv s2 z_=> ?_)
 obtain⟨y,H2,I2,ry,a,v,ex,g,q2⟩:=z_
 subst ex
 obtain rfl:u=Value.ref a:=rx
 exact⟨u6 I2 g,yf hu I2 g ry fun w' s3 I3 rw'=>⟨v,H2,I3,rw',q2⟩⟩
theorem zS (hu:X.A.units+1<cLine) (hi:PE X i ty) (ho:PE X o td):PC X .In i o (E_ ty td):=by
 intro pins s σ H Q I h
 refine cP (hi pins s σ H _ I h) fun iv s1 ⟨y,H1,I1,ry,q1⟩=>cP (ho pins s1 σ H1 _ I1 q1) fun u s2 z_=> ?_
 obtain⟨x,H2,I2,rx,a,ov,ex,g,q2⟩:=z_
 subst ex
 obtain rfl:u=Value.ref a:=rx
 exact Ir hu I2 g ry fun s3 I3=>⟨.bl ov.isSome,H2,I3,rfl,q2⟩
theorem yh (hu:X.A.units+1<cLine) (hi:PE X i ty) (ho:PE X o td):PC X .NotIn i o (sx ty td):=by
 intro pins s σ H Q I h
 refine cP (hi pins s σ H _ I h) fun iv s1 ⟨y,H1,I1,ry,q1⟩=>cP (ho pins s1 σ H1 _ I1 q1) fun u s2 z_=> ?_
 obtain⟨x,H2,I2,rx,a,ov,ex,g,q2⟩:=z_
 subst ex
 obtain rfl:u=Value.ref a:=rx
 exact Cu hu I2 g ry fun s3 I3=>⟨.bl (!ov.isSome),H2,I3,rfl,q2⟩
theorem Cy (hu:X.A.units+1<cLine) (ho:PE X o td) (hi:PE X i ty) (hv:PE X value tv) (hs:swapsWith value (some (.Subscript o i pos')) pos.line X.env=pure false):
  PS X (.Assign [.Subscript o i pos'] value pos) (GQ td ty tv):=by
 intro pins s σ H D I h
 refine wpAny_Assign_Subscript (cP (hv pins s σ H _ I h) fun r s1 ⟨v,H1,I1,rv,q1⟩=>cP (ho pins s1 σ H1 _ I1 q1) fun u s2 ⟨x,H2,I2,rx,q2⟩=>cP (hi pins s2 σ H2 _ I2 q2) fun iv s3 z_=> ?_) hs
 obtain⟨y,H3,I3,ry,a,H4,ex,g,q3⟩:=z_
 subst ex
 obtain rfl:u=Value.ref a:=rx
 exact yg hu I3 g ry rv fun s4 I4=>⟨σ,H4,I4,q3⟩
end
theorem u7 {P:Program} {w:World} {H:Hp} (h:Heap) (hb:sysModules<h.objs.size):cf P w H (h.push {cls:= .type "dict",data:= .dict #[]}) h.objs.size (.dK []):=
 ⟨Nat.zero_le _,beq_eq_false_iff_ne.mpr (Ne.symm (Nat.ne_of_lt hb)),[], .nil,Heap.DictOf.new h⟩
def Fa:TE:=fun _ H Q=>∀p,H p=none->Q (.ref p) (bY H p (.dK []))
section
variable {X:Cx} {pos:Pos}
theorem zT:PE X (.Dict [] [] pos) Fa:=fun pins s σ H Q I h=>
 wpAny_Dict_empty ⟨.ref s.heap.objs.size,_,I.laid (a:=s.heap.objs.size) (o:= .dK []) (t':=s.toks) (fun _ _ q=>Heap.get?_push_of_some _ q) (Nat.le_refl _) (u7 s.heap I.big),rfl,h _ (I.hok.fresh (Nat.le_refl _))⟩
end
def sy:List (TE×TE)->St->Hp->(List (V×V)->Hp->Prop)->Prop
 |[],_,H,Q=>Q [] H
 |(tk,tv)::r,σ,H,Q=>tk σ H fun x H1=>tv σ H1 fun y H2=>sy r σ H2 fun ps H3=>Q ((x,y)::ps) H3
abbrev VV:List (V×V)->List (Value×Value)->Prop:=Paired fun p q=>bJ p.1 q.1/\bJ p.2 q.2
def GR (X:Cx) (pos:Pos) (keys:List (Option Expr)) (values:List Expr) (trs:List (TE×TE)):Prop:=
 ∀(pins:List (Addr×Obj)) (s:Shared) (σ:St) (H:Hp) (Q:List (V×V)->Hp->Prop),aM X pins σ H s->sy trs σ H Q->
  wpAny (model X.prog X.w) X.A (evalPairs (pairTrees keys values X.env pos)) (fun vs s'=>∃ps H',aM X pins σ H' s'/\VV ps vs/\Q ps H') X.xe s
theorem Cz {X:Cx} {pos:Pos}:GR X pos [] [] []:=fun pins s σ H Q I h=>pairTrees_nil_walk ⟨[],H,I, .nil,h⟩
theorem zU {X:Cx} {pos:Pos} {k v:Expr} {ks:List (Option Expr)} {vs:List Expr} {tk tv:TE} {trs:List (TE×TE)} (hk:PE X k tk) (hv:PE X v tv) (hr:GR X pos ks vs trs):
  GR X pos (some k::ks) (v::vs) ((tk,tv)::trs):=fun pins s σ H Q I h=>
 pairTrees_cons_walk (cP (hk pins s σ H _ I h) fun u s1 ⟨x,H1,I1,rx,q1⟩=>cP (hv pins s1 σ H1 _ I1 q1) fun w2 s2 ⟨y,H2,I2,ry,q2⟩=>
  cP (hr pins s2 σ H2 _ I2 q2) fun ws s3 ⟨ps,H3,I3,rel,q3⟩=>⟨(x,y)::ps,H3,I3, .cons ⟨rx,ry⟩ rel,q3⟩)
def gQ (kvs more:List (bx×V)):List (bx×V):=more.foldl (fun acc kv=>jB acc kv.1 kv.2) kvs
theorem KV.merge:∀{more:List (bx×V)} {rs:List (bx×Value)} {kvs:List (bx×V)} {vs:List (bx×Value)},KV more rs->KV kvs vs->KV (gQ kvs more) (merged vs rs):=by
 intro more rs kvs vs r
 unfold KV at r
 induction r generalizing kvs vs with
 |nil=>intro q;exact q
 | @cons p q ps qs h t ih=>
  intro r0
  have e:KV (jB kvs p.1 p.2) (stored vs q.1 q.2):=by
   have:=r0.put p.1 h.2
   rw[<-h.1];exact this
  exact ih e
theorem lK:∀(more kvs:List (bx×V)),(gQ kvs more).length<=kvs.length+more.length
 |[],kvs=>by show kvs.length<=kvs.length+0;omega
 |p::r,kvs=>by
  have h1:=lK r (jB kvs p.1 p.2)
  have h2:=kK kvs p.1 p.2
  show (gQ (jB kvs p.1 p.2) r).length<=_
  rw[List.length_cons];omega
theorem pw {P:Program} {w:World}:∀{kvs:List (bx×V)} {ws:List (Value×Value)},VV (kvs.map fun kv=>(kV kv.1,kv.2)) ws->∃rs,Carries (bK P w) ws rs/\KV kvs rs
 |[],_,r=>by rw[List.map_nil]at r;cases r;exact⟨[],True.intro, .nil⟩
 |p::kvs,_,r=>by
  rw[List.map_cons]at r
  cases r with
  | @cons a b as bs h t=>
   obtain⟨rs,c,q⟩:=pw (P:=P) (w:=w) t
   obtain⟨b1,b2⟩:=b
   exact⟨(p.1,b2)::rs,⟨o6 h.1,rfl,c⟩, .cons ⟨rfl,h.2⟩ q⟩
def DX (trs:List (TE×TE)):TE:=fun σ H Q=>∀p,H p=none->sy trs σ (bY H p (.dK [])) fun ps H2=>H2 p=some (.dK [])/\∃kvs:List (bx×V),ps=kvs.map (fun kv=>(kV kv.1,kv.2))/\kvs.length<=15/\Q (.ref p) (bY H2 p (.dK (gQ [] kvs)))
theorem CA {X:Cx} {pos:Pos} {keys:List (Option Expr)} {values:List Expr} {trs:List (TE×TE)} (h:GR X pos keys values trs) (hall:keys.all (·.isSome)=true) (hl:keys.length=values.length) (h0:keys≠[])
  (h15:keys.length<=15):PE X (.Dict keys values pos) (DX trs):=by
 intro pins s σ H Q I q
 have hn:=I.hok.fresh (Nat.le_refl s.heap.objs.size)
 have I1:=I.laid (a:=s.heap.objs.size) (o:= .dK []) (h':=s.heap.push {cls:= .type "dict",data:= .dict #[]}) (t':=s.toks) (fun _ _ q=>Heap.get?_push_of_some _ q) (Nat.le_refl _) (u7 s.heap I.big)
 refine wpAny_Dict_walk (knd:=bK X.prog X.w) hall hl h0 h15 (cP (h pins _ σ _ _ I1 (q _ hn)) fun ws s2 z_=> ?_)
 obtain⟨ps,H2,I2,rel,e,kvs,ep,lk,q2⟩:=z_
 subst ep
 obtain⟨rs,c,rk⟩:=pw (P:=X.prog) (w:=X.w) rel
 obtain⟨z,hd,vs0,r0,dd⟩:=zR I2.hok e
 cases r0
 refine⟨rs,c,dd,fun h' dd' hs=>⟨.ref s.heap.objs.size,_,?_,rfl,q2⟩⟩
 have hz:(gQ [] kvs).length<=sizeLine:=by
  have h1:=lK kvs []
  rw[List.length_nil]at h1
  rw[sizeLine_eq];omega
 have he:∃q,h'.get? s.heap.objs.size=some q:=let ⟨q,_,_,hq,_⟩:=dd';⟨q,hq⟩
 exact sv I2 (by rw[e];exact True.intro) hs he (vH hz hd (rk.merge .nil) dd')
structure M2 (X:Cx) (o:Expr) (m:Str) (apos:Pos) (e f:Expr) (cpos:Pos):Prop where
 base:attributeBase o m X.env (eval o X.env)=eval o X.env
 few:((backTo cpos (starEach [e,f] X.env)).all (fun x=> !x.1)&&(backToKw cpos (keywordEach [] X.env)).all (fun x=>x.1.isSome)
  &&decide (([e,f]:List Expr).length+([]:List Keyword).length+(if ([]:List Keyword).isEmpty then 0 else 1)<30))=true
 line:(apos.endLine==cpos.line)=true
 trees:backTo cpos (starEach [e,f] X.env)=[(false,eval e X.env),(false,eval f X.env)]
def IP (H:Hp) (a:Addr):Prop:=(∃kvs,Rd H a (.dK kvs))\/∃kvs,Rd H a (.dT kvs)
theorem Fb {X:Cx} {pins:List (Addr×Obj)} {σ:St} {H:Hp} {s:Shared} {a:Addr} (I:aM X pins σ H s) (d:IP H a):
  s.TypeIs (.ref a) "dict"/\(∀b,Value.ref a= .ref b->∃ob,s.heap.get? b=some ob/\ob.dict=none)/\(a==sysModules)=false:=by
 rcases d with ⟨kvs,e⟩|⟨kvs,e⟩
 ·obtain⟨_,hd,vs,_,dd⟩:=o7 I.hok e
  refine⟨dd.typeIs,fun b q=> ?_,hd⟩
  cases q
  obtain⟨ob,_,_,h1,h2,_⟩:=dd
  exact⟨ob,h1,h2.2.1⟩
 ·obtain⟨_,hd,xs,_,dd⟩:=pq I.hok e
  refine⟨dd.typeIs,fun b q=> ?_,hd⟩
  cases q
  obtain⟨ob,_,_,h1,h2,_⟩:=dd
  exact⟨ob,h1,h2.2.1⟩
section
variable {X:Cx} {pins:List (Addr×Obj)} {σ:St} {H:Hp} {s:Shared} {a:Addr} {y d:V} {u r:Value} {o:Option V} {A:Around} {E:Value->Shared->Prop}
theorem Fc {Q:Value->Shared->Prop} (hu:A.units+1<cLine) (I:aM X pins σ H s) (g:kL H a y o) (ry:bJ y u) (rd:bJ d r) (h:∀w' s',aM X pins σ H s'->bJ (o.getD d) w'->Q w' s'):
  wpAny (model X.prog X.w) A (call (.builtin "dict.get") [.ref a,u,r]) Q E s:=by
 rcases g with ⟨kvs,k,e,ey,l⟩|⟨kvs,k,b,e,ey,eb,l⟩
 ·subst ey
  obtain⟨z,hd,vs,rel,dd⟩:=o7 I.hok e
  refine call_meetsIn PySem.F.slot_dict_get dd.typeIs PySem.F.entry_dict_get (PySem.F.args_dict_get_3 _ _ _) (meets_dict_get_default (bK X.prog X.w) a (o6 ry) hd r) ⟨_,dd.mapOf,h _ _ (I.tok _) ?_⟩
  rw[l]
  exact(rel.val k).getD rd
 ·subst ey
  cases (show u=Value.ref b from ry)
  obtain⟨z,hd,xs,rel,dd⟩:=pq I.hok e
  refine call_meetsIn PySem.F.slot_dict_get dd.typeIs PySem.F.entry_dict_get (PySem.F.args_dict_get_3 _ _ _) (meetsH_dict_get_default (tupleKind (bK X.prog X.w)) a b hd r) ⟨tupleKind_room_in1 hu,k,xs,nM I.hok eb,dd,h _ _ (I.tok _) ?_⟩
  rw[l]
  exact(rel.val k).getD rd
end
def Fd (td ty tx:TE):TE:=fun σ H Q=>td σ H fun x H1=>∃a,x= .ref a/\IP H1 a/\ty σ H1 fun y H2=>tx σ H2 fun z H3=>∃o,kL H3 a y o/\Q (o.getD z) H3
section
variable {X:Cx} {o e f:Expr} {apos cpos:Pos} {td ty tx:TE}
theorem zV (hu:X.A.units+1<cLine) (ho:PE X o td) (he:PE X e ty) (hf:PE X f tx) (m:M2 X o "get" apos e f cpos):PE X (.Call (.Attribute o "get" apos) [e,f] [] cpos) (Fd td ty tx):=by
 intro pins s σ H Q I h
 refine wpAny_Call_method m.base m.few m.line PySem.F.plainAttrs_dict PySem.F.slot_dict_get PySem.F.type_dict_get (cP (ho pins s σ H _ I h) fun u s1 z_=> ?_)
 obtain⟨x,H1,I1,rx,a,ex,d,q1⟩:=z_
 subst ex
 obtain rfl:u=Value.ref a:=rx
 obtain⟨t1,t2,_⟩:=Fb I1 d
 refine⟨t1,t2,?_⟩
 rw[m.trees]
 refine Calls.callWith_builtin rfl (Calls.evalArgs_plain (Calls.spliced_cons (cP (he pins s1 σ H1 _ I1 q1) fun iv s2 ⟨y,H2,I2,ry,q2⟩=>
  Calls.spliced_cons (cP (hf pins s2 σ H2 _ I2 q2) fun fv s3 ⟨z,H3,I3,rz,ov,g,q3⟩=>Calls.spliced_nil ?_))))
 exact Fc hu I3 g ry rz fun w' s4 I4 rw'=>⟨_,H3,I4,rw',q3⟩
end
section
variable {X:Cx} {pins:List (Addr×Obj)} {σ:St} {H:Hp} {s:Shared} {a:Addr} {kvs:List (bx×V)} {A:Around} {E:Value->Shared->Prop}
end
section
variable {X:Cx} {pins:List (Addr×Obj)} {σ:St} {H:Hp} {s:Shared} {a:Addr} {y:V} {u:Value} {A:Around} {E:Value->Shared->Prop}
end
end L2
namespace Att
open PySem PySem.W PySem.Calls PyProof.Rows
theorem oH {P:Params} {h:Heap}:∀(ns:List Int) (vs:List Value),WellAll P h vs (ns.map WData.int)->IntsAre vs ns:=by
 intro ns
 induction ns with
 |nil=>
  intro vs w
  rw[List.map_nil]at w
  cases w
  exact .nil
 |cons n ns ih=>
  intro vs w
  rw[List.map_cons]at w
  cases w with
  |cons a b=>
   cases a
   exact .cons _ _ (ih _ b)
theorem yi {l:OpenLaw} {n:Nat} (hn:l.most=some n) {P:Params} {h:Heap} {args:List WData} {vals:List Value}
  (hpre:l.row.toRowW.claim.pre args=true) (hwl:WellAll P h vals args):
  ∃a vs ns,vals=[Value.ref a]/\args=[WData.list (ns.map WData.int)]/\h.get? a=some {cls:= .type "list",data:= .seq vs.toArray}/\IntsAre vs ns/\ns.length<=n:=by
 have hsh:WShape.hasAll [] args [.list .int]=true:=(pre_splitW hpre).1
 have hc:l.pre.holds [] {args:=args}=true:=(pre_splitW hpre).2
 obtain⟨d,r,rfl,h1,h2⟩:=hasAllW_cons hsh
 obtain rfl:=hasAllW_nil h2
 obtain⟨xs,rfl,h3⟩:=hasW_list h1
 obtain⟨ns,rfl⟩:=items_int h3
 have hlen:ns.length<=n:=by
  unfold OpenLaw.pre at hc
  have h4:(WTm.not (.lt (.lit (.int (n:Int))) (.len (.arg 0)))).holds [] {args:=[.list (ns.map .int)]}=true:=by
   have h4:=(holds_andW hc).1
   rw[hn]at h4
   exact h4
  have h5:=condW_of h4 (w_not (w_lt w_lit (w_len_list (w_arg rfl))))
  rw[List.length_map]at h5
  refine Nat.le_of_not_lt fun q=> ?_
  have q':(n:Int)<((ns.length:Nat):Int):=by omega
  first
   |(rw[decide_eq_true q']at h5;exact absurd h5 (by decide))
   |(simp at h5;omega)
 cases hwl with
 |cons w1 w2=>
  cases w2
  cases w1 with
  |list ho hall=>exact⟨_,_,ns,rfl,rfl,ho,oH ns _ hall,hlen⟩
theorem yj (l:OpenLaw) (args:List WData):l.row.toRowW.claim.post args (.bool true) args=true:=
 postW_of (r:=l.row.toRowW) (X:=(true==true))
  (show WShape.has [] (.bool true) .bool=true by first|rfl|decide|simp[WShape.has,WShape.arms,WShape.armsAll])
  (show (WTm.eq .res (.lit (.bool true))).value [] {args:=args,res:=some (.bool true),after:=args}=some (.bool (true==true))from w_eq_bool (w_res rfl) w_lit) rfl
theorem attach_call {l:OpenLaw} {n:Nat} {q:Program} {loose:List Str} {XP:(Str->Option Value)->Heap->Prop} {YP:World->Heap->Prop} {d:DefRec}
  (hn:l.most=some n) (hdf:d.params.defaults=[])
  (call:∀(w:World) (s₀ s₁:Shared) (mg mb:Str->Option Value) (fa:Addr) (o:Obj) (pm cd doc:Value) (a:Addr) (vs:List Value) (ns:List Int),
   Ground q loose [] XP w s₀ mg mb s₁.heap->YP w s₁.heap->
   s₁.heap.get? fa=some o->o.data= .func (docDef d.name d.params d.body d.scope pm cd doc)->s₁.heap.CodeRec cd d.name->mg d.name=some (.ref fa)->
   s₁.heap.get? a=some {cls:= .type "list",data:= .seq vs.toArray}->IntsAre vs ns->ns.length<=n->s₁.gens= #[]->
   codeAny (model l.prog w) callerA (.call (.ref fa) ⟨[.ref a],[]⟩) (fun r s'=>r= .ok (.ret (.bool true))/\OldK s₁.heap s'.heap/\s'.os=s₁.os/\AllBare s'.gens) s₁):
  WalkO q loose XP YP l.row.toRowW d [] (fun f vs=>PySem.call f vs):=by
 intro w s₀ s₁ mg mb G Y fa o pm cd doc dV kV ho hd hcd hD hmg hg args vals as hpre hlay hrd hwl hlo
 obtain rfl:dV= .none:=Dflts.none hD hdf
 obtain rfl:kV= .none:=Dflts.noKw hD
 obtain⟨a,vs,ns,rfl,rfl,hobj,hints,hlen⟩:=yi hn hpre hwl
 refine enter_call (codeAny_mono (call w s₀ s₁ mg mb fa o pm cd doc a vs ns G Y ho (fd_plain hd) hcd hmg hobj hints hlen hg) fun r s' hq=> ?_)
 obtain⟨rfl,h2,h3,h4⟩:=hq
 exact⟨.inl ⟨.bool true, .bool true,[],rfl,fun _=>rfl, .bool true,yj l _,fun _=>⟨List.Pairwise.nil,fun _ hm=>(nomatch hm)⟩⟩,h2,h3,h4⟩
section
variable {prog:Program} {w:World} {A:Around} {E:Value->Shared->Prop} {s:Shared} {K:Frag}
end
end Att
namespace L2
open PySem PySem.Spec PyProof.Rows
theorem lq:∀{vs:List Value} {ns:List Int},IntsAre vs ns->bg (ns.map V.int) vs
 |_,_, .nil=> .nil
 |_,_, .cons n t h=> .cons ⟨t,rfl⟩ (lq h)
def Fe (H:Hp):Prop:=∀b,H b=none\/∃o xs,H b=some (.frz o (.lst xs))
theorem zW {P:Program} {w:World} {K:PySem.W.Frag} {mg mb:Str->Option Value} {CX:vz} {k:Nat} {fa a:Addr} {fd:FuncData} {x:Str} {sp:Sp} {s₁:Shared} {vs:List Value} {ns:List Int}
  (KX:K.In s₁.heap) (hns:s₁.heap.Ns mainGlobals mg) (hb:s₁.heap.Ns builtinsNs mb) (hbb:∀x:Str,x≠"__name__"->mb x=bootBuiltins x) (hlim:s₁.heap.NoLimit) (hg:s₁.gens= #[])
  (ha:s₁.heap.get? a=some {cls:= .type "list",data:= .seq vs.toArray}) (hi:IntsAre vs ns) (hl:ns.length<=sizeLine) (hr:eE k callerA)
  (F:∀base:Heap,K.In base->base.Ns mainGlobals mg->i7 P w K mg base CX k fa fd [x] sp) (hbind:∀(s:Shared) (u:Value),BindsTo s fd ⟨[u],[]⟩ [(x,u)])
  (hsp:∀H:Hp,Fe H->fz K H a (ns.map V.int)->sp [.ref a] H (fun v _=>v= .bl true) fun _ _ _=>False)
  (hCX:∀H e s',CX [] H s₁ (fun _ _ _=>False) e s'->False):
  codeAny (model P w) callerA (.call (.ref fa) ⟨[.ref a],[]⟩) (fun r s'=>r= .ok (.ret (.bool true))/\OldK s₁.heap s'.heap/\s'.os=s₁.os/\AllBare s'.gens) s₁:=by
 have rv:=lq hi
 have lenV:=hi.length
 have core:∀H:Hp,Fe H->fz K H a (ns.map V.int)->kF P w H s₁.heap->(∀b,H b≠none->b=a)->(H a≠none->K.lookup a=none)->
   codeAny (model P w) callerA (.call (.ref fa) ⟨[.ref a],[]⟩) (fun r s'=>r= .ok (.ret (.bool true))/\OldK s₁.heap s'.heap/\s'.os=s₁.os/\AllBare s'.gens) s₁:=by
  intro H hO hS hok hA hK
  have base_of:∀{b:Addr} {o:Obj},s₁.heap.get? b=some o->H b=none->(sk s₁.heap H).get? b=some o:=fun e n=>zn e n
  have noA:∀{b:Addr} {o:Obj} {es:Array DictEntry} {ep:Nat},s₁.heap.get? b=some o->o.data= .dict es ep->H b=none:=fun {b o es ep} e d=>by
   cases q:H b with
   |none=>rfl
   |some u=>
    have e':b=a:=hA b (by rw[q];simp)
    subst e'
    rw[ha]at e;cases e
    have d':Data.seq vs.toArray _=Data.dict es ep:=d
    cases d'
  have nsK:∀{b:Addr} {m:Str->Option Value},s₁.heap.Ns b m->(sk s₁.heap H).Ns b m:=fun {b m} ⟨o,es,ep,e,d,r⟩=>⟨o,es,ep,base_of e (noA e d),d,r⟩
  have hKb:K.In (sk s₁.heap H):=fun b o e=>base_of (KX b o e) (by
   cases q:H b with
   |none=>rfl
   |some u=>
    have e':b=a:=hA b (by rw[q];simp)
    subst e'
    rw[hK (by rw[q];simp)]at e;cases e)
  have hM:Mod K mg (sk s₁.heap H):=⟨hKb,nsK hns,⟨mb,nsK hb,hbb⟩,let ⟨mc,h1,h2⟩:=hlim;⟨mc,nsK h1,h2⟩⟩
  have e0:vA P w K mg (sk s₁.heap H) callerA [] s₁ H:=⟨rfl,hM,fun b o e=>C1 e,Nat.le_of_eq (xS _ _),trivial,fun b hb=>absurd (show b∈([]:List Addr)from hb) (by simp),hok, .of_eq hg⟩
  refine codeAny_mono ((F _ hKb (nsK hns)).run callerA [] s₁ H ⟨[.ref a],[]⟩ [.ref a] [.ref a] _ _ hr e0 (hbind s₁ (.ref a)) (.cons rfl .nil) (hsp H hO hS)) fun r s' h=> ?_
  cases r with
  |error e=>exact(hCX H e s' h).elim
  |ok fl=>
   cases fl with
   |next=>exact False.elim h
   |brk=>exact False.elim h
   |cont=>exact False.elim h
   |ret u=>
    obtain⟨v,H',os,bare,un,hok',r',q⟩:=h
    have q':v= .bl true:=q
    subst q'
    obtain rfl:u=Value.bool true:=r'
    refine⟨rfl,OldK.of_keep fun b o e=> ?_,os,bare⟩
    cases q:H b with
    |none=>exact un.keep b o e q (by intro z;exact absurd (show b∈([]:List Addr)from z) (by simp)) (by simp)
    |some u=>
     rcases hO b with z|⟨ob,xs,z⟩
     ·rw[q]at z;cases z
     ·have z2:=un.frzs b ob _ z
      obtain⟨e1,_⟩:=hok b _ z
      obtain⟨e2,_⟩:=hok' b _ z2
      rw[e]at e1;cases e1
      exact e2
 cases hk:K.lookup a with
 |some o=>
  have e:=KX a o hk
  rw[ha]at e
  cases e
  refine core (fun _=>none) (fun _=> .inl rfl) (.inr ⟨_,vs.toArray,_,hk,rfl,rfl,rfl,by rw[List.size_toArray,lenV];exact hl,by simpa using rv⟩) (fun b u z=>by have z':(none:Option HO)=some u:=z;cases z') (fun b z=>absurd rfl z) fun z=>absurd rfl z
 |none=>
  refine core (fun b=>if b=a then some (.frz {cls:= .type "list",data:= .seq vs.toArray} (.lst (ns.map V.int)))else none) (fun b=> ?_) (.inl (.inr ⟨{cls:= .type "list",data:= .seq vs.toArray},if_pos rfl⟩)) (fun b u z=> ?_) (fun b z=> ?_) fun _=>hk
  ·by_cases hb:b=a
   ·exact .inr ⟨_,_,if_pos hb⟩
   ·exact .inl (if_neg hb)
  ·by_cases hb:b=a
   ·have z':=(if_pos hb).symm.trans z
    cases z'
    subst hb
    exact⟨ha,by rw[List.length_map];exact hl,vs,_,rv,ha⟩
   ·have z':=(if_neg hb).symm.trans z
    cases z'
  ·by_cases hb:b=a
   ·exact hb
   ·exact absurd (if_neg hb) z
end L2
namespace L2
open PySem PySem.Spec PyProof.Rows
theorem CB {l:PySem.W.OpenLaw} {n k:Nat} {q:Program} {loose:List Str} {XP:(Str->Option Value)->Heap->Prop} {YP:World->Heap->Prop} {d:DefRec} {K:Params->PySem.W.Frag} {CX:World->vz} {sp:World->Sp} {x:Str}
  (hn:l.most=some n) (hn2:n<=sizeLine) (hdf:d.params.defaults=[]) (hr:eE k callerA)
  (hY:∀(w:World) (h:Heap),YP w h->(K w.params).In h)
  (F:∀(w:World) (mg:Str->Option Value) (fa:Addr) (h:Heap),(K w.params).In h->h.Ns mainGlobals mg->mg d.name=some (.ref fa)->
   ∃fd:FuncData,(∀(s:Shared) (u:Value),BindsTo s fd ⟨[u],[]⟩ [(x,u)])/\
    ∀base:Heap,(K w.params).In base->base.Ns mainGlobals mg->i7 l.prog w (K w.params) mg base (CX w) k fa fd [x] (sp w))
  (hsp:∀(w:World) (H:Hp) (a:Addr) (ns:List Int),ns.length<=n->Fe H->fz (K w.params) H a (ns.map V.int)->sp w [.ref a] H (fun v _=>v= .bl true) fun _ _ _=>False)
  (hCX:∀(w:World) (H:Hp) (s:Shared) (e:Value) (s':Shared),CX w [] H s (fun _ _ _=>False) e s'->False):
  PySem.W.WalkO q loose XP YP l.row.toRowW d [] (fun f vs=>PySem.call f vs):=by
 refine Att.attach_call hn hdf fun w s₀ s₁ mg mb fa o pm cd doc a vs ns G Y ho hd hcd hmg hobj hints hlen hg=> ?_
 have KX:=hY w _ Y
 obtain⟨fd,hb,hF⟩:=F w mg fa _ KX G.T.g hmg
 exact zW KX G.T.g G.T.b G.T.builtins G.T.nolimit hg hobj hints (Nat.le_trans hlen hn2) hr hF hb (fun H hO hS=>hsp w H a ns hlen hO hS) fun H e s'=>hCX w H s₁ e s'
end L2
namespace L2
open PySem PySem.Spec PyProof.Rows
def mO (s:Stmt) (j:Nat):Stmt:=match s with
 | .ClassDef _ _ _ body _ _ _ _ _ _ _=>body.getD j (.Pass ⟨0,0,0,0⟩)
 |_=> .Pass ⟨0,0,0,0⟩
def aN (s:Stmt):Arguments:=match s with
 | .FunctionDef _ a _ _ _ _ _ _ _ _=>a
 |_=>{posonlyargs:=[],args:=[],vararg:=none,kwonlyargs:=[],kw_defaults:=[],kwarg:=none,defaults:=[]}
def aG (s:Stmt):List Stmt:=match s with
 | .FunctionDef _ _ b _ _ _ _ _ _ _=>b
 |_=>[]
def ah (s:Stmt):Scope:=match s with
 | .FunctionDef _ _ _ _ _ _ sc _ _ _=>sc
 |_=>{kind:= .function,names:=[],isGenerator:=false,isCoroutine:=false}
abbrev IQ:vz:=fun _ _ _ _ _ _=>False
structure zk (K:PySem.W.Frag) (x qual:Str) (st:Stmt) (f:Addr) (fd:FuncData):Prop where
 ex:∃(oc:Value) (od:Option Addr) (kV doc pm:Value) (an:Option Addr) (cdv ct:Value) (osl:Array (Option Value)),
  fd=PySem.W.fnOf x qual (aN st) (aG st) (ah st) .none kV doc pm an cdv ct/\K.lookup f=some ⟨oc,od, .func fd,osl⟩/\PySem.W.codeIn K cdv qual=true
 kp:PySem.W.keepIn K (.ref f)=true
section
variable {P:Program} {w:World} {K:PySem.W.Frag} {mg:Str->Option Value} {base:Heap}
theorem zk.ok {x qual:Str} {st:Stmt} {f:Addr} {fd:FuncData} {N ps:List Str} {k:Nat} {sp:Sp} (F:zk K x qual st f fd) (S:aI N ps (ah st)) (len:∀vs H Q E,sp vs H Q E->vs.length=ps.length)
  (hbody:∀(cdv:Value) (A:Around) (outer:List Env) (s:Shared) (H:Hp) (vs:List V) (Q:VK) (E:XK),eE k (A.deeper (envOfC qual (ah st) s.heap.objs.size f cdv))->sp vs H Q E->
   ∃t,qJ (kI IQ P w K mg base N qual (ah st) f cdv A outer s H E).nox (aG st) t/\t {nx:=fun _ H'=>Q .non H',rt:=Q} (du N vs) H):i7 P w K mg base IQ (k+1) f fd ps sp:=by
 obtain⟨oc,od,kV,doc,pm,an,cdv,ct,osl,rfl,lk,hcd⟩:=F.ex
 refine DR lk hcd S len fun A outer s H vs Q E hr hsp=> ?_
 obtain⟨t,h,q⟩:=hbody cdv A outer s H vs Q E hr hsp
 exact⟨t,h.nox,q⟩
theorem zk.binds {x qual:Str} {st:Stmt} {f:Addr} {fd:FuncData} {ps:List Str} (F:zk K x qual st f fd)
  (h:∀(kV doc pm:Value) (an:Option Addr) (cdv ct:Value) (us:List Value),us.length=ps.length->bindArgs (PySem.W.fnOf x qual (aN st) (aG st) (ah st) .none kV doc pm an cdv ct) ⟨us,[]⟩=pure (ps.zip us)):ix K fd ps []:=by
 obtain⟨oc,od,kV,doc,pm,an,cdv,ct,osl,rfl,lk,hcd⟩:=F.ex
 exact .all (h kV doc pm an cdv ct)
theorem bt {x qual:Str} {st:Stmt} {f:Addr} {oc:Value} {od an:Option Addr} {osl:Array (Option Value)} {kV doc pm cdv ct:Value} (l:K.lookup f=some ⟨oc,od, .func (PySem.W.fnOf x qual (aN st) (aG st) (ah st) .none kV doc pm an cdv ct),osl⟩)
  (c:PySem.W.codeIn K cdv qual=true) (k:PySem.W.keepIn K (.ref f)=true):zk K x qual st f (PySem.W.fnOf x qual (aN st) (aG st) (ah st) .none kV doc pm an cdv ct):=⟨⟨oc,od,kV,doc,pm,an,cdv,ct,osl,rfl,l,c⟩,k⟩
end
theorem bT {A:Around} {k:Nat} (hr:eE k A):A.units+1<cLine:=Nat.lt_of_le_of_lt (Nat.add_le_add_left (by decide:1<=64) _) hr.units
section
variable {X:Cx}
theorem pv (i:Nat) {x:Str} {pos:Pos} (hN:X.N[i]? =some x:=by rfl) (hv:wL X.env.scope x:=by first|exact Or.inl rfl|exact Or.inr (Or.inl rfl)|exact Or.inr (Or.inr rfl)) (hd:(x==("__debug__":Str))=false:=by decide)
  (hcd:(x==("__classdict__":Str))=false:=by decide):PE X (.Name x pos) (C3 i):=Eo hN hv hd hcd
end
def bw (H H':Hp):Prop:=∀b o,H b=some o->H' b=some o
theorem bw.refl (H:Hp):bw H H:=fun _ _ h=>h
theorem bw.trans {H H1 H2:Hp} (a:bw H H1) (b:bw H1 H2):bw H H2:=fun c o h=>b c o (a c o h)
theorem bw.free {H H':Hp} (e:bw H H') {l:Addr} (h:H' l=Option.none):H l=Option.none:=by
 cases q:H l with
 |none=>rfl
 |some o=>
  rw[e l o q]at h
  cases h
theorem bw.seq {K:PySem.W.Frag} {H H':Hp} {a:Addr} {xs:List V} (e:bw H H') (h:fz K H a xs):fz K H' a xs:=by
 rcases h with (h|⟨o,h⟩)|h
 ·exact .inl (.inl (e _ _ h))
 ·exact .inl (.inr ⟨o,e _ _ h⟩)
 ·exact .inr h
section
variable {κ:Type} [DecidableEq κ]
end
end L2
namespace L2
open PySem PySem.Spec PyProof.Rows
def nN (env:Env):List (Str×NameKind)->List (Str×Addr)->List (Str×Addr)
 |[],cs=>cs
 |(n,k)::r,cs=>nN env r (if k= .free then (match env.cells.lookup n with|some c=>(n,c)::cs|none=>cs)else cs)
theorem pz (env:Env):∀(names:List (Str×NameKind)) (cs:List (Str×Addr)),(∀y∈names,y.2= .free->∃c,env.cells.lookup y.1=some c)->
  (forIn names cs fun (x:Str×NameKind) (r:List (Str×Addr))=>(if (x.2==NameKind.free)=true then do
    let a<-cellOf env x.1
    pure (ForInStep.yield ((x.1,a)::r))else pure (ForInStep.yield r):Sem (ForInStep (List (Str×Addr)))))=pure (nN env names cs)
 |[],cs,_=>rfl
 |(n,k)::r,cs,h=>by
  rw[List.forIn_cons]
  by_cases hk:k= .free
  ·subst hk
   obtain⟨c,hc⟩:=h (n, .free) List.mem_cons_self rfl
   have e:cellOf env n=pure c:=by unfold cellOf;rw[hc]
   simp only[beq_self_eq_true,if_true,e]
   unfold nN
   simp only[if_true,hc]
   exact pz env r ((n,c)::cs) fun y hy=>h y (List.mem_cons_of_mem _ hy)
  ·have hb:(k==NameKind.free)=false:=by simpa using hk
   simp only[hb,Bool.false_eq_true,if_false]
   unfold nN
   rw[if_neg hk]
   exact pz env r cs fun y hy=>h y (List.mem_cons_of_mem _ hy)
theorem x0 {scope:Scope} {env:Env} (h:∀y∈scope.names,y.2= .free->∃c,env.cells.lookup y.1=some c):closureFor scope env=pure (nN env scope.names []):=by
 have:=pz env scope.names [] h
 unfold closureFor
 simp only[bind_pure]
 exact this
theorem ia {env:Env} {x:Str} {c:Addr}:∀{names:List (Str×NameKind)} {cs:List (Str×Addr)},(∀c,cs.lookup x=some c->env.cells.lookup x=some c)->(nN env names cs).lookup x=some c->env.cells.lookup x=some c
 |[],cs,h,e=>h c e
 |(n,k)::r,cs,h,e=>by
  unfold nN at e
  refine ia (names:=r) (fun d hd=> ?_) e
  split at hd
  ·split at hd
   ·rename_i c' hc
    rw[List.lookup_cons]at hd
    cases hx:x==n with
    |true=>rw[hx]at hd;have:=eq_of_beq hx;subst this;rw[hc];exact hd
    |false=>rw[hx]at hd;exact h d hd
   ·exact h d hd
  ·exact h d hd
theorem rD {env:Env} {x:Str}:∀{names:List (Str×NameKind)} {cs:List (Str×Addr)},(∃c,cs.lookup x=some c)->∃c,(nN env names cs).lookup x=some c
 |[],cs,h=>h
 |(n,k)::r,cs,h=>by
  unfold nN
  refine rD (names:=r) ?_
  split
  ·split
   ·rename_i c' hc
    rw[List.lookup_cons]
    cases x==n with
    |true=>exact⟨_,rfl⟩
    |false=>exact h
   ·exact h
  ·exact h
theorem pA {env:Env} {x:Str}:∀{names:List (Str×NameKind)} {cs:List (Str×Addr)},(x,NameKind.free)∈names->(∃c,env.cells.lookup x=some c)->∃c,(nN env names cs).lookup x=some c
 |(n,k)::r,cs,h,hc=>by
  unfold nN
  rcases List.mem_cons.mp h with h|h
  ·cases h
   obtain⟨c,hc⟩:=hc
   refine rD (names:=r) ?_
   rw[if_pos rfl,hc]
   exact⟨c,by simp⟩
  ·exact pA h hc
def pB (N:List Str) (names:List (Str×NameKind)) (σ:St):St:=
 names.map fun x=>if x.2= .free then ((N.findIdx? (·==x.1)).bind fun i=>(σ[i]?).join)else none
def dM (X:Cx) (scope:Scope) (s:Shared) (H:Hp) (ex:List Addr):Cx:=
 {X with N:=scope.names.map (·.1),s₀:=s,H₀:=H,env:=compEnvC scope (nN X.env scope.names []) s.heap.objs.size X.env,outer:=X.stack,ex:=ex,fn:=fun _=>false,pn:=[],xe:=fun _ _=>False}
structure bR (X:Cx) (scope:Scope):Prop where
 kind:scope.kind= .function
 nocell:∀y∈scope.names,y.2≠ .cell
 loc:∀y∈scope.names,y.2= .local->scope.names.lookup y.1=some .local
 free:∀y∈scope.names,y.2= .free->X.env.kindOf y.1=some .cell\/X.env.kindOf y.1=some .free
 nd:(scope.names.map (·.1)).Nodup
theorem gx {env:Env} {x:Str}:∀{names:List (Str×NameKind)} {k:NameKind},
  (names.map fun (n,k)=>if (k==NameKind.free&&env.scope.kind== .function&&env.kindOf n==some .cell)then (n,NameKind.cell)else (n,k)).lookup x=some k->
  names.lookup x=some k\/(names.lookup x=some .free/\k= .cell)
 |[],k,h=>by simp at h
 |(n,j)::r,k,h=>by
  have ih:= @gx env x r k
  rw[List.map_cons,List.lookup_cons]at h
  rw[List.lookup_cons]
  by_cases hc:(j==NameKind.free&&env.scope.kind== .function&&env.kindOf n==some .cell)=true
  ·rw[if_pos hc]at h
   have hj:j= .free:=by
    simp only[Bool.and_eq_true]at hc
    exact eq_of_beq hc.1.1
   cases hx:x==n with
   |true=>rw[hx]at h;simp at h;exact .inr ⟨by rw[hj],h.symm⟩
   |false=>rw[hx]at h;exact ih h
  ·rw[if_neg hc]at h
   cases hx:x==n with
   |true=>rw[hx]at h;exact .inl h
   |false=>rw[hx]at h;exact ih h
theorem ib {α β:Type} [BEq α] [LawfulBEq α] {x:α} {b:β}:∀{l:List (α×β)},l.lookup x=some b->(x,b)∈l
 |[],h=>by simp at h
 |(a,c)::r,h=>by
  rw[List.lookup_cons]at h
  cases hx:x==a with
  |true=>rw[hx]at h;have:=eq_of_beq hx;subst this;cases h;exact List.mem_cons_self
  |false=>rw[hx]at h;exact List.mem_cons_of_mem _ (ib h)
section
variable {X:Cx} {pins:List (Addr×Obj)} {σ:St} {H:Hp} {s:Shared} {scope:Scope}
theorem bR.cellOf (S:bR X scope) (ok:X.Ok):∀y∈scope.names,y.2= .free->∃c,X.env.cells.lookup y.1=some c:=fun y hy hf=>ok.has y.1 (S.free y hy hf)
theorem xa (S:bR X scope) (I:aM X pins σ H s) {fp:List Addr} (hfp:∀b∈fp,mI X pins H b/\b<s.heap.objs.size):(dM X scope s H fp).Ok where
 mod:=I.mod
 kind:=S.kind
 glob:=I.ok.glob
 blt:=I.ok.blt
 above:=Nat.le_refl _
 inj:=fun x y c hx hy=>I.ok.inj x y c (ia (by intro c h;simp at h) hx) (ia (by intro c h;simp at h) hy)
 has:=fun x hx=>by
  have hm:(x,NameKind.free)∈scope.names:=by
   rcases hx with hx|hx
   ·rcases gx hx with h|⟨h,_⟩
    ·exact absurd rfl (S.nocell _ (ib h))
    ·exact ib h
   ·rcases gx hx with h|⟨h,_⟩<;>exact ib h
  exact pA hm (S.cellOf I.ok _ hm rfl)
 cab:=fun x c h=>by cases h
 hd:=I.ok.hd
 frames:=I.ok.frames
 stk:= .inl rfl
 exf:=fun b hb=>⟨Nat.ne_of_lt (hfp b hb).2,fun x c hx=>(hfp b hb).1.2.2.2.2.1 x c (ia (by intro c h;simp at h) hx)⟩
 bs:=I.bs
 bsz:=Nat.le_trans I.ok.bsz I.sz
 noex:=fun b o e hb=>by
  rcases(hfp b hb).1.2.2.2.1 with h|h
  ·exact I.ok.noex b o e h
  ·have h1:b<X.base.objs.size:=Heap.lt_size e
   exact Nat.lt_irrefl _ (Nat.lt_of_lt_of_le h1 (Nat.le_trans I.ok.bsz h))
 exfs:=fun b hb hc=>by
  have:=I.stkSub b hc
  rcases List.mem_cons.mp this with h|h
  ·exact(hfp b hb).1.2.1 h
  ·exact(hfp b hb).1.2.2.1 h
 funs:=I.stack
 frf:=I.stkFree
theorem Ff (S:bR X scope) (I:aM X pins σ H s) {fp:List Addr} (hfp:∀b∈fp,mI X pins H b/\b<s.heap.objs.size) {h':Heap} {t':Nat}
  (hn:h'.Ns s.heap.objs.size fun _=>none) (k:∀b o,s.heap.get? b=some o->h'.get? b=some o):
  aM (dM X scope s H fp) [] (pB X.N scope.names σ) H {s with heap:=h',toks:=t'}where
 ok:=xa S I hfp
 os:=rfl
 bare:=I.bare
 base:=Un.kept k
 loc:=by
  refine⟨_,hn,fun i x v hi hv _=> ?_⟩
  have hi':(scope.names.map (·.1))[i]? =some x:=hi
  rw[List.getElem?_map]at hi'
  unfold pB at hv
  rw[List.getElem?_map]at hv
  cases e:scope.names[i]? with
  |none=>rw[e]at hi';cases hi'
  |some y=>
   rw[e]at hi' hv
   have hx:y.1=x:=by simpa using hi'
   have hy:y∈scope.names:=List.mem_of_getElem? e
   simp only[Option.map_some,Option.some.injEq]at hv
   by_cases hf:y.2= .free
   ·rw[if_pos hf]at hv
    cases ei:X.N.findIdx? (·==y.1)with
    |none=>rw[ei]at hv;cases hv
    |some j=>
     rw[ei]at hv
     have hj:σ[j]? =some (some v):=by
      cases e2:σ[j]? with
      |none=>simp[e2]at hv
      |some o=>simp only[Option.bind_some,e2,Option.join_some]at hv;rw[hv]
     obtain⟨hl,hp,_⟩:=List.findIdx?_eq_some_iff_getElem.mp ei
     have hN:X.N[j]? =some x:=by
      rw[List.getElem?_eq_getElem hl]
      have:=eq_of_beq hp
      rw[this,hx]
     have hk:=S.free y hy hf
     rw[hx]at hk
     obtain⟨m,_,hm⟩:=I.loc
     obtain⟨u,ru,lu⟩:=hm j x v hN hj (by
      rcases hk with q|q
      ·exact .inr (.inl q)
      ·exact .inr (.inr q))
     refine⟨u,ru,?_⟩
     rcases lu with ⟨q,_⟩|⟨_,c,hc,hcell⟩
     ·rcases hk with z|z<;>rw[z]at q<;>cases q
     ·have hmem:(x,NameKind.free)∈scope.names:=by
       have:y=(x,NameKind.free):=by cases y;simp at hx hf;rw[hx,hf]
       rw[<-this];exact hy
      obtain⟨d,hd⟩:=pA (cs:=[]) hmem (S.cellOf I.ok _ hmem rfl)
      have hdc:d=c:=by
       have:=ia (cs:=[]) (by intro c h;simp at h) hd
       rw[this]at hc
       exact Option.some.inj hc
      refine .inr ⟨?_,d,hd,?_⟩
      ·show (relabel scope X.env).names.lookup x=some .cell\/(relabel scope X.env).names.lookup x=some .free
       have hlk:∃k,(relabel scope X.env).names.lookup x=some k:=by
        unfold relabel
        cases el:(scope.names.map fun (n,k)=>if (k==NameKind.free&&X.env.scope.kind== .function&&X.env.kindOf n==some .cell)then (n,NameKind.cell)else (n,k)).lookup x with
        |some k=>exact⟨k,rfl⟩
        |none=>
         exfalso
         rw[List.lookup_eq_none_iff]at el
         have:=el (if (NameKind.free==NameKind.free&&X.env.scope.kind== .function&&X.env.kindOf x==some .cell)then (x,NameKind.cell)else (x,NameKind.free)) (List.mem_map.mpr ⟨_,hmem,rfl⟩)
         split at this<;>simp at this
       obtain⟨k,hk2⟩:=hlk
       rcases gx hk2 with h|⟨_,h⟩
       ·have hm2:=ib h
        have:k= .free:=by
         have nd:=S.nd
         obtain⟨a,ha,e1⟩:=List.mem_iff_getElem.mp hmem
         obtain⟨b,hb,e2⟩:=List.mem_iff_getElem.mp hm2
         have:a=b:=by
          refine(List.getElem_inj (h₀:=by simpa using ha) (h₁:=by simpa using hb) nd).mp ?_
          rw[List.getElem_map,List.getElem_map,e1,e2]
         subst this
         rw[e1]at e2
         cases e2;rfl
        subst this
        exact .inr hk2
       ·subst h;exact .inl hk2
      ·rw[hdc];exact hcell.keeps k
   ·rw[if_neg hf]at hv;cases hv
 cell:=fun x c hx=>by
  obtain⟨v,hv⟩:=I.cell x c (ia (cs:=[]) (by intro c h;simp at h) hx)
  exact⟨v,hv.keeps k⟩
 free:=I.hok.fresh (Nat.le_refl _)
 freeC:=fun x c hx=>I.freeC x c (ia (cs:=[]) (by intro c h;simp at h) hx)
 pin:=fun p hp=>by cases hp
 hok:=I.hok.kept k
 len:=by simp[dM,pB]
theorem xb (I:aM X pins σ H s) {fp:List Addr} (hfp:∀b∈fp,mI X pins H b/\b<s.heap.objs.size) {τ:St} {H':Hp} {s':Shared} (I':aM (dM X scope s H fp) [] τ H' s') {h':Heap} {t':Nat}
  (hs:∀b o,b≠s.heap.objs.size->s'.heap.get? b=some o->h'.get? b=some o):aM X pins σ H' {s' with heap:=h',toks:=t'}:=by
 have u:Un (oV X.stack) fp H H' s.heap s'.heap:=I'.base
 have hC:H' s.heap.objs.size=none:=I'.free
 have nC:∀b o,s.heap.get? b=some o->b≠s.heap.objs.size:=fun b o e=>Nat.ne_of_lt (Heap.lt_size e)
 refine I.call' (ch:=fp) I'.os ⟨?_,?_,u.free,?_,u.tups,u.frzs,u.tbls⟩ (fun b o e=> ?_) I'.bare fun b hb=> ?_
 ·exact fun b o e n a c=>hs b o (nC b o e) (u.keep b o e n a c)
 ·intro b o e n a c
  obtain⟨sl,q⟩:=u.slot b o e n a c
  exact⟨sl,hs b _ (nC b o e) q⟩
 ·intro b o e a
  obtain⟨o',q⟩:=u.there b o e a
  exact⟨o',hs b _ (nC b o e) q⟩
 ·refine(I'.hok b o e).stay (fun c v hc q=>hs c v ?_ q) (fun _ q=>q) fun _ _ q=>q
  intro z
  subst z
  rcases hc with z|z
  ·rw[z]at hC;rw[hC]at e;cases e
  ·rw[hC]at z;cases z
 ·obtain⟨h1,h2,h3,h4,h5,h6⟩:=(hfp b hb).1
  exact⟨h4,h2,h5,h6⟩
end
def DY (X:Cx) (ifs:List Expr) (t:TT):Prop:=
 ∀(pins:List (Addr×Obj)) (s:Shared) (σ:St) (H:Hp) (Q:Bool->Hp->Prop),aM X pins σ H s->t σ H Q->
  wpAny (model X.prog X.w) X.A (forIn ifs true fun c r=>if r=true then do let ok<-isTrue c X.env (eval c X.env);pure (ForInStep.yield ok)else pure (ForInStep.yield r)) (TP X pins σ Q) X.xe s
theorem CC {X:Cx}:DY X [] (fun _ H Q=>Q true H):=fun _ _ _ H _ I h=>wpAny_tests_nil ⟨H,I,h⟩
theorem CD {X:Cx} {c:Expr} {t:TT} (h:PT X c t):DY X [c] t:=fun pins s σ H Q I q=>wpAny_tests_one (h pins s σ H Q I q)
def pC (J:It) (g:TG) (tt:TT) (te:TE) (D:Addr) (τ0:St) (Q:Hp->Prop) (H1:Hp):Prop:=
 ∃W:Nat->Nat->List V->St->Hp->Prop,(∃m,W 0 m [] τ0 H1)/\∀i m ys τ H,W i m ys τ H->H D=some (.lst ys)/\
  ((J.stop i H/\Q H)\/(J.go i H/\ys.length<sizeLine/\∀x H',J.yld i H x H'->g x τ H' fun τ2 H2=>tt τ2 H2 fun b H3=>
   if b=true then te τ2 H3 fun y H4=>H4 D=some (.lst ys)/\∃m',m'<m/\W (i+1) m' (ys++[y]) τ2 (bY H4 D (.lst (ys++[y])))else ∃m',m'<m/\W (i+1) m' ys τ2 H3))
def GS (N:List Str) (names:List (Str×NameKind)) (wi:TI) (g:TG) (tt:TT) (te:TE):TE:=fun σ H Q=>
 wi σ H fun J H1=>∀D,H1 D=none->pC J g tt te D (pB N names σ) (fun H2=>Q (.ref D) H2) (bY H1 D (.lst []))
section
variable {X:Cx} {elt tg iter:Expr} {ifs:List Expr} {scope:Scope} {pos:Pos} {wi:TI} {g:TG} {tt:TT} {te:TE}
theorem CF (S:bR X scope) (hc:X.calm=true) (hg:∀s H ex,PG (dM X scope s H ex) tg g) (hif:∀s H ex,DY (dM X scope s H ex) ifs tt) (hel:∀s H ex,PE (dM X scope s H ex) elt te)
  {pins:List (Addr×Obj)} {σ:St} {H:Hp} {s:Shared} (I:aM X pins σ H s) {fp:List Addr} {it D:Addr} {tn:Nat->Heap->Prop} {J:It} (T:xV X.prog X.w X.K tg J fp it tn)
  (hfp:∀b∈fp,mI X pins H b/\b<s.heap.objs.size) {Q:Hp->Prop} {R:Result->Shared->Prop}
  (hR:∀τ H' s',aM (dM X scope s H fp) [] τ H' s'->Q H'->R (.ok .next) s')
  {s1:Shared} {τ0:St} (I1:aM (dM X scope s H fp) [] τ0 H s1) (ht:tn 0 s1.heap) (q:pC J g tt te D τ0 Q H):
  codeAny (model X.prog X.w) X.A (.compLoop (.ListComp elt [⟨tg,iter,ifs,0⟩] scope pos) 0 (.ref it) (.ref D) (dM X scope s H fp).env) R s1:=by
 obtain⟨W,⟨m0,w0⟩,turn⟩:=q
 have stat:∀{H':Hp},(∀b∈fp,H' b=none)->∀b∈fp,mI (dM X scope s H fp) [] H' b:=fun {H'} hn b hb=>
  ⟨hn b hb,Nat.ne_of_lt (hfp b hb).2,(xa S I hfp).exfs b hb, .inl hb,fun x c hx=>(hfp b hb).1.2.2.2.2.1 x c (ia (cs:=[]) (by intro c h;simp at h) hx),fun p hp=>by cases hp⟩
 refine codeAny_loop rfl (fun n s'=>∃i ys τ H',aM (dM X scope s H fp) [] τ H' s'/\tn i s'.heap/\(∀b∈fp,H' b=none)/\W i n ys τ H') (fun n s2 hI=> ?_) m0 ⟨0,[],τ0,H,I1,ht,fun b hb=>(hfp b hb).1.1,w0⟩
 obtain⟨i,ys,τ,H2,I2,st2,fr2,w2⟩:=hI
 show wpAny _ X.A ((compTurn (.ListComp elt [⟨tg,iter,ifs,0⟩] scope pos) 0 (.ref it) (.ref D) (dM X scope s H fp).env).onRaise (fun x=>do noteFrame x (dM X scope s H fp).env;theTreesLotGoes x)) _ _ s2
 refine wpAny_noted ?_
 rw[compTurn_list]
 have up:∀{α:Type} {t:Sem α} {Q:α->Shared->Prop} {E:Value->Shared->Prop} {s:Shared},wpAny (model X.prog X.w) X.A t Q (fun _ _=>False) s->wpAny (model X.prog X.w) X.A t Q E s:=fun h=>wpAny_mono h (fun _ _ q=>q) fun _ _ f=>f.elim
 obtain⟨hD,alt⟩:=turn i n ys τ H2 w2
 rcases alt with ⟨stop,qn⟩|⟨go,hz,step⟩
 ·refine wpAny_bind (wpAny_standAt (wpAny_bind (up (cP (T.done (dM X scope s H fp) rfl rfl rfl hc i [] s2 τ H2 (fun _ _=>False) I2 (stat fr2) st2 stop) fun r s3 z_=> ?_))))
  obtain⟨hr,I3⟩:=z_
  subst hr
  exact wpAny_pure (hR _ _ _ I3 qn)
 ·refine wpAny_bind (wpAny_standAt (wpAny_bind (up (cP (T.item (dM X scope s H fp) rfl rfl rfl hc i [] s2 τ H2 (fun _ _=>False) I2 (stat fr2) st2 go) fun r s3 z_=> ?_))))
  obtain⟨u,hr,h3⟩:=z_
  subst hr
  refine wpAny_bind (up (cP h3 fun _ s4 z_=> ?_))
  obtain⟨x,H4,I4,r4,y4,st4,fr4⟩:=z_
  have I4':=I4.pinned (stat fr4) (T.obj _ _ st4)
  have back:∀{τ7:St} {H7:Hp} {s7:Shared},aM (dM X scope s H fp) ([]++pc fp s4.heap) τ7 H7 s7->aM (dM X scope s H fp) [] τ7 H7 s7/\tn (i+1) s7.heap/\∀b∈fp,H7 b=none:=fun I7=>
   ⟨I7.unpinned,T.keep _ _ _ st4 fun b hb o e=>(I7.pin (b,o) (List.mem_append_right _ (List.mem_append_right _ (jZ hb e)))).1,fun b hb=>by
    obtain⟨o,e,d⟩:=T.obj _ _ st4 b hb
    exact(I7.pin (b,o) (List.mem_append_right _ (List.mem_append_right _ (jZ hb e)))).2.1⟩
  refine wpAny_bind (up (cP (hg s H fp _ s4 τ H4 x u _ I4' r4 (step x H4 y4)) fun _ s5 z_=> ?_))
  obtain⟨τ5,H5,I5,q5⟩:=z_
  refine wpAny_bind (up (cP (hif s H fp _ s5 τ5 H5 _ I5 q5) fun ok s6 z_=> ?_))
  obtain⟨H6,I6,q6⟩:=z_
  cases ok with
  |false=>
   obtain⟨m',hm,w'⟩:=q6
   obtain⟨a,b,c⟩:=back I6
   exact wpAny_pure ⟨rfl,m',hm,i+1,ys,τ5,H6,a,b,c,w'⟩
  |true=>
   rw[if_pos rfl]at q6
   refine wpAny_bind (wpAny_bind (up (cP (hel s H fp _ s6 τ5 H6 _ I6 q6) fun v s7 z_=> ?_)))
   obtain⟨y,H7,I7,r7,hD7,m',hm,w'⟩:=z_
   refine wpAny_bind (up (cP (rB (X:=dM X scope s H fp) _ s7 τ5 H7 (.ref D) [y] (.ref D) [v] (fun _ H8=>H8=bY H7 D (.lst (ys++[y]))) I7 rfl (.cons r7 .nil) ⟨D,ys,y,rfl,rfl,hD7,hz,rfl⟩) fun _ s8 z_=> ?_))
   obtain⟨_,H8,I8,_,e8⟩:=z_
   subst e8
   obtain⟨a,b,c⟩:=back I8
   exact wpAny_pure (wpAny_pure ⟨rfl,m',hm,i+1,ys++[y],τ5,_,a,b,c,w'⟩)
theorem u8 (S:bR X scope) (hc:X.calm=true) (hg:∀s H ex,PG (dM X scope s H ex) tg g) (hif:∀s H ex,DY (dM X scope s H ex) ifs tt) (hel:∀s H ex,PE (dM X scope s H ex) elt te)
  {pins:List (Addr×Obj)} {σ:St} {H:Hp} {s:Shared} {E:Value->Shared->Prop} (I:aM X pins σ H s) {fp:List Addr} {it:Addr} {tn:Nat->Heap->Prop} {J:It} (T:xV X.prog X.w X.K tg J fp it tn)
  (hfp:∀b∈fp,mI X pins H b) (ht:tn 0 s.heap) {Q:Addr->Hp->Prop} {RR:Value->Addr->Result->Shared->Prop}
  (hR:∀(D:Addr) (H3:Hp) (s3:Shared) (τ:St) (H':Hp) (s':Shared),aM X pins σ H3 s3->(∀b∈fp,mI X pins H3 b/\b<s3.heap.objs.size)->aM (dM X scope s3 H3 fp) [] τ H' s'->Q D H'->RR (.ref D) s3.heap.objs.size (.ok .next) s')
  (q:∀D,H D=none->pC J g tt te D (pB X.N scope.names σ) (Q D) (bY H D (.lst []))):
  wpAny (model X.prog X.w) X.A (newList []) (fun acc s₃=>wpAny (model X.prog X.w) X.A (newFunctionEnv scope X.env.globals (nN X.env scope.names []) [] X.env.qual none .none (some X.env)) (fun cenv s₄=>
   codeAny (model X.prog X.w) X.A (.compStart (.ListComp elt [⟨tg,iter,ifs,0⟩] scope pos) 0 (.ref it) acc {cenv with scope:=relabel scope X.env}) (RR acc cenv.locals) s₄) E s₃) E s:=by
 have hlt:∀b∈fp,b<s.heap.objs.size:=fun b hb=>by
  obtain⟨o,e,_⟩:=T.obj _ _ ht b hb
  exact Heap.lt_size e
 refine wpAny_newList ?_
 have I3:=I.lnew (ys:=[]) (its:=[]) (t':=s.toks) .nil (Nat.zero_le _)
 have hD:H s.heap.objs.size=none:=I.hok.fresh (Nat.le_refl _)
 have hsz3:(s.heap.push {cls:= .type "list",data:= .seq ([]:List Value).toArray}).objs.size=s.heap.objs.size+1:=Heap.size_push ..
 have hfp3:∀b∈fp,mI X pins (bY H s.heap.objs.size (.lst [])) b/\b<({s with heap:=s.heap.push {cls:= .type "list",data:= .seq ([]:List Value).toArray},toks:=s.toks}:Shared).heap.objs.size:=fun b hb=>by
  refine⟨⟨?_,(hfp b hb).2⟩,?_⟩
  ·rw[aD (Nat.ne_of_lt (hlt b hb))];exact(hfp b hb).1
  ·show b<(s.heap.push _).objs.size
   rw[hsz3]
   exact Nat.lt_succ_of_lt (hlt b hb)
 refine wpAny_newFunctionEnv S.nocell (by intro y hy;simp at hy) (fun h₁ hns₁ hsb₁=> ?_) S.kind
 dsimp only at hns₁ hsb₁ ⊢
 have k1:∀b o,(s.heap.push {cls:= .type "list",data:= .seq ([]:List Value).toArray}).get? b=some o->h₁.get? b=some o:=fun b o e=>hsb₁.extBut b o (Nat.ne_of_lt (Heap.lt_size e)) (Heap.get?_push_of_some _ e)
 have I4:=Ff (t':=s.toks) S I3 hfp3 (h':=h₁) hns₁ k1
 have ht1:tn 0 h₁:=T.keep _ _ _ ht fun b hb o e=>k1 b o (Heap.get?_push_of_some _ e)
 have loop:codeAny (model X.prog X.w) X.A (.compLoop (.ListComp elt [⟨tg,iter,ifs,0⟩] scope pos) 0 (.ref it) (.ref s.heap.objs.size) (dM X scope {s with heap:=s.heap.push {cls:= .type "list",data:= .seq ([]:List Value).toArray},toks:=s.toks} (bY H s.heap.objs.size (.lst [])) fp).env)
   (RR (.ref s.heap.objs.size) (s.heap.push {cls:= .type "list",data:= .seq ([]:List Value).toArray}).objs.size) {s with heap:=h₁,toks:=s.toks}:=
  CF S hc hg hif hel I3 T hfp3 (fun τ H' s' I' q'=>hR _ _ _ τ H' s' I3 hfp3 I' q') I4 ht1 (q _ hD)
 exact codeAny_compStart_list loop (T.self _ 0 _ _ _ ht1 loop)
theorem xc (S:bR X scope) (hc:X.calm=true) (hi:PI X tg iter wi) (hg:∀s H ex,PG (dM X scope s H ex) tg g) (hif:∀s H ex,DY (dM X scope s H ex) ifs tt) (hel:∀s H ex,PE (dM X scope s H ex) elt te)
  (hs:∀x,foldedSetIterable iter X.env x=pure x:=by intro _;rfl):PE X (.ListComp elt [⟨tg,iter,ifs,0⟩] scope pos) (GS X.N scope.names wi g tt te):=by
 intro pins s σ H Q I h
 rw[eval_ListComp]
 refine wpAny_comprehension_free (use:=none) rfl hs (x0 (S.cellOf I.ok)) S.kind S.loc (cP (hi pins s σ H _ I h) fun v s1 h1=>cP h1 fun itv s2 h2=> ?_)
 obtain⟨it,fp,tn,J,H2,e,I2,T,st2,f2,q⟩:=h2
 subst e
 refine u8 (Q:=fun D H2=>Q (.ref D) H2) (RR:=fun acc C=>compPost (model X.prog X.w) X.A X.xe none (EP X pins σ Q) acc C) S hc hg hif hel I2 T f2 st2 ?_ q
 intro D H3 s3 τ H' s' I3 f3 I' q'
 obtain⟨m,hm,_⟩:=I'.loc
 refine⟨m,hm,fun h' hs'=> ?_⟩
 exact⟨.ref D,H',xb (t':=s'.toks) I3 f3 I' fun b o hb e=>hs'.extBut b o hb e,rfl,q'⟩
def GU (N:List Str) (names:List (Str×NameKind)) (wi:TI) (g:TG) (tt:TT) (te:TE) (gy:TG):TS:=fun D σ H=>
 wi σ H fun J H1=>∀p,H1 p=none->pC J g tt te p (pB N names σ) (fun H2=>gy (.ref p) σ H2 D.nx) (bY H1 p (.lst []))
theorem CG {y:Str} {py spos:Pos} {gy:TG} (S:bR X scope) (hc:X.calm=true) (hi:PI X tg iter wi) (hg:∀s H ex,PG (dM X scope s H ex) tg g) (hif:∀s H ex,DY (dM X scope s H ex) ifs tt)
  (hel:∀s H ex,PE (dM X scope s H ex) elt te) (hy:PG X (.Name y py) gy) (hsw:swapsWith (.ListComp elt [⟨tg,iter,ifs,0⟩] scope pos) (some (.Name y py)) spos.line X.env=pure true:=by rfl)
  (hs:∀x,foldedSetIterable iter X.env x=pure x:=by intro _;rfl):PS X (.Assign [.Name y py] (.ListComp elt [⟨tg,iter,ifs,0⟩] scope pos) spos) (GU X.N scope.names wi g tt te gy):=by
 intro pins s σ H D I h
 rw[exec_Assign_Name_used _ _ _ _ hsw]
 refine wpAny_bind (wpAny_standAt (wpAny_bind ?_))
 show wpAny _ X.A (do let _<-comprehension (.ListComp elt [⟨tg,iter,ifs,0⟩] scope pos) scope X.env _ (newList []) false (eval iter X.env) (some (assign (.Name y py) X.env))) _ _ s
 refine wpAny_bind (wpAny_mono (wpAny_comprehension_free (use:=some (assign (.Name y py) X.env)) (Q:=fun _ s'=>SP X pins D .next s') rfl hs (x0 (S.cellOf I.ok)) S.kind S.loc
  (cP (hi pins s σ H _ I h) fun v s1 h1=>cP h1 fun itv s2 h2=> ?_)) (fun _ s' hq=>wpAny_pure (wpAny_pure hq)) fun _ _ e=>e)
 obtain⟨it,fp,tn,J,H2,e,I2,T,st2,f2,q⟩:=h2
 subst e
 refine u8 (Q:=fun p H2=>gy (.ref p) σ H2 D.nx) (RR:=fun acc C=>compPost (model X.prog X.w) X.A X.xe (some (assign (.Name y py) X.env)) (fun _ s'=>SP X pins D .next s') acc C) S hc hg hif hel I2 T f2 st2 ?_ q
 intro p H3 s3 τ H' s' I3 f3 I' q'
 obtain⟨m,hm,_⟩:=I'.loc
 obtain⟨oC,es,ep,hoC,hdC,hkC,hmC⟩:=hm
 have J1:aM X pins σ H' s':=xb (t':=s'.toks) (h':=s'.heap) I3 f3 I' fun b o _ e=>e
 have hC0:H' s3.heap.objs.size=none:=I'.free
 have hCl:s3.heap.objs.size≠X.env.locals:=fun z=>by have:=I3.lt;rw[<-z]at this;exact Nat.lt_irrefl _ this
 have J2:aM X (pins++[(s3.heap.objs.size,oC)]) σ H' s':=J1.pins_of fun q hq=>by
  rcases List.mem_append.mp hq with hq|hq
  ·exact J1.pin q (List.mem_append_right _ hq)
  ·have e:q=(s3.heap.objs.size,oC):=by simpa using hq
   subst e
   exact⟨hoC,hC0,hCl,I3.nofs (Nat.le_refl _),fun v z=>by rw[hdC]at z;cases z⟩
 refine cP (hy _ s' σ H' (.ref p) (.ref p) D.nx J2 rfl q') fun _ s'' z_=> ?_
 obtain⟨σ5,H5,I5,q5⟩:=z_
 have hp:=I5.pin (s3.heap.objs.size,oC) (List.mem_append_right _ (List.mem_append_right _ List.mem_cons_self))
 refine⟨m,⟨oC,es,ep,hp.1,hdC,hkC,hmC⟩,fun h' hs'=> ?_⟩
 refine⟨σ5,H5,(I5.unpinned).turned (it:=s3.heap.objs.size) (t':=s''.toks) (fun b o hb e=>hs'.extBut b o hb e) hp.2.1 hCl (.inr I3.sz) (fun x c hx z=> ?_) (fun q hq z=> ?_),q5⟩
 ·obtain⟨v,o,ho,_⟩:=I3.cell x c hx
  have:=Heap.lt_size ho
  rw[z]at this
  exact Nat.lt_irrefl _ this
 ·have:=(I3.pin q hq).1
  have:=Heap.lt_size this
  rw[z]at this
  exact Nat.lt_irrefl _ this
end
end L2
namespace L2
open PySem PySem.Spec PyProof.Rows
section
variable {X:Cx} {e a b st:Expr} {te ta tb:TE} {tst:TO} {pos p2 p:Pos}
def Iu (K:PySem.W.Frag) (te:TE) (tst:TO):TE:=fun σ H Q=>te σ H fun x H1=>tst σ H1 fun o H2=>o=some (-1)/\∃a xs,x= .ref a/\fz K H2 a xs/\∀p,H2 p=none->Q (.ref p) (bY H2 p (.lst xs.reverse))
theorem Fg (he:PE X e te) (hst:PO X (some st) tst):PE X (.Subscript e (.Slice none none (some st) p2) pos) (Iu X.K te tst):=by
 intro pins s σ H Q I h
 refine Subscript_ (cP (he pins s σ H _ I h) fun v s1 z_=> ?_)
 obtain⟨x,H1,I1,r1,q1⟩:=z_
 refine wpAny_Slice ?_
 rw[evalPart_none]
 refine wpAny_pure ?_
 try rw[evalPart_none]
 refine wpAny_pure ?_
 refine cP (hst pins s1 σ H1 _ I1 q1) fun vk s2 z_=> ?_
 obtain⟨o,H2,I2,pk,ho,a,xs,ex,hx,q⟩:=z_
 subst ho
 subst ex
 cases r1
 have I3:aM X pins σ H2 {s2 with heap:=s2.heap.push {cls:= .type "slice",data:= .fields #[.none, .none,vk]}}:=I2.kept (t':=s2.toks) fun b ob q=>Heap.get?_push_of_some _ q
 obtain⟨its,r,ht,hz⟩:=I3.list hx
 have hlen:=r.length
 show wpAny (model X.prog X.w) X.A (subscriptTail e (.Slice none none (some st) p2) (.ref a) (.ref s2.heap.objs.size)) (EP X pins σ Q) X.xe {s2 with heap:=s2.heap.push {cls:= .type "slice",data:= .fields #[.none, .none,vk]}}
 refine tail_any (ops:=[.ref a, .ref s2.heap.objs.size]) ht.isList.typeIs slot_list_getitem.lookup ?_ (by with_unfolding_all rfl)
 refine wpAny_getItem_list_slice ht.isList (Heap.IsSliceOf.new ..) .none .none pk (by decide) ?_ (by rw[List.size_toArray]<;>omega)
 rw[PySem.W.krv_pick]
 refine⟨.ref _,_,I3.laid (t':=s2.toks) (o:= .lst xs.reverse) (fun b ob q=>Heap.get?_push_of_some _ q) (Nat.le_refl _) ?_,rfl,q _ (I3.hok.fresh (Nat.le_refl _))⟩
 exact⟨by rw[List.length_reverse];exact hz,its.reverse,0,r.reverse,Heap.get?_push_size _ rfl⟩
def Iv (K:PySem.W.Frag):List V->Hp->VK->Prop:=fun xs H Q=>∃x T t k,xs=[x, .ty T]/\mJ K H x t/\PySem.W.kitOne K t (.type T)=some k/\Q (.bl k) H
theorem zX:dH X (.builtin "isinstance") (Iv X.K):=by
 intro pins s σ H xs us Q I rv h
 obtain⟨x,T,t,k,rfl,ty,e,q⟩:=h
 obtain⟨u,w',rfl,ru,rw'⟩:=tZ rv
 cases rw'
 exact yd I ru ty e fun tk=>⟨.bl k,H,I.tok tk,rfl,q⟩
theorem pD:bootBuiltins "isinstance"=some (.builtin "isinstance"):=by decide+kernel
theorem lr (hc:X.calm=true):dH X (.builtin "sum") (fun xs H Q=>∃p ns,xs=[.ref p]/\fz X.K H p (ns.map V.int)/\Q (.int (List.sum ns)) H):=by
 intro pins s σ H xs us Q I rv h
 obtain⟨p,ns,rfl,hx,q⟩:=h
 obtain⟨u,rfl,ru⟩:=jz rv
 cases ru
 obtain⟨its,r,ht,hz⟩:=I.list hx
 have hi:=m6 r
 obtain⟨xs,hxs⟩:=hi.allInts.items
 have hl':s.heap.IsList p (intItems xs):=hxs▸ht.isList
 refine sum_intListG (I.ok.hd hc) hl' fun h' tk t' hk=> ?_
 have e1:ns=xs.toList.map (·.1):=by
  rw[<-nums_intItems,<-hxs]
  exact(show numsOf its.toArray.toList=ns from hi.numsOf).symm
 have e2:preSum (numAt xs) xs.size=ns.sum:=by
  rw[preSum_eq,List.take_of_length_le (by simp),e1]
 rw[e2]
 exact⟨.int ns.sum,H,I.kept hk,⟨t',rfl⟩,q⟩
def vI (x:Int):List Int->List Int
 |[]=>[x]
 |y::r=>if x<=y then x::y::r else y::vI x r
def d0:List Int->List Int
 |[]=>[]
 |x::r=>vI x (d0 r)
theorem nO (x:Int):∀l:List Int,(vI x l).Perm (x::l)
 |[]=>List.Perm.refl _
 |y::r=>by
  unfold vI
  split
  ·exact List.Perm.refl _
  ·exact(List.Perm.cons y (nO x r)).trans (List.Perm.swap x y r)
theorem fS:∀l:List Int,(d0 l).Perm l
 |[]=>List.Perm.refl _
 |x::r=>(nO x _).trans (List.Perm.cons x (fS r))
theorem o8 (x:Int):∀{l:List Int},l.Pairwise (·<=·)->(vI x l).Pairwise (·<=·)
 |[],_=>by simp[vI]
 |y::r,h=>by
  obtain⟨h1,h2⟩:=List.pairwise_cons.mp h
  unfold vI
  split
  ·rename_i hxy
   refine List.pairwise_cons.mpr ⟨fun z hz=> ?_,h⟩
   rcases List.mem_cons.mp hz with rfl|hz
   ·exact hxy
   ·exact Int.le_trans hxy (h1 z hz)
  ·rename_i hxy
   refine List.pairwise_cons.mpr ⟨fun z hz=> ?_,o8 x h2⟩
   rcases List.mem_cons.mp ((nO x r).mem_iff.mp hz)with rfl|hz
   ·omega
   ·exact h1 z hz
theorem iA:∀l:List Int,(d0 l).Pairwise (·<=·)
 |[]=>List.Pairwise.nil
 |x::r=>o8 x (iA r)
theorem h_:∀{a b:List Int},a.Perm b->a.Pairwise (·<=·)->b.Pairwise (·<=·)->a=b
 |[],b,p,_,_=>(List.nil_perm.mp p).symm
 |x::a,[],p,_,_=>(List.perm_nil.mp p)
 |x::a,y::b,p,h1,h2=>by
  obtain⟨a1,a2⟩:=List.pairwise_cons.mp h1
  obtain⟨b1,b2⟩:=List.pairwise_cons.mp h2
  have e:x=y:=by
   have hx:x∈y::b:=p.mem_iff.mp List.mem_cons_self
   have hy:y∈x::a:=p.mem_iff.mpr List.mem_cons_self
   rcases List.mem_cons.mp hx with h|h
   ·exact h
   ·rcases List.mem_cons.mp hy with h'|h'
    ·exact h'.symm
    ·exact Int.le_antisymm (a1 y h') (b1 x h)
  subst e
  rw[h_ ((List.perm_cons x).mp p) a2 b2]
theorem sA:dH X (.builtin "sorted") (fun xs H Q=>∃p ns,xs=[.ref p]/\fz X.K H p (ns.map V.int)/\ns.length<64/\∀l,H l=none->Q (.ref l) (bY H l (.lst ((d0 ns).map V.int)))):=by
 intro pins s σ H xs us Q I rv h
 obtain⟨p,ns,rfl,hx,hl,q⟩:=h
 obtain⟨u,rfl,ru⟩:=jz rv
 cases ru
 obtain⟨its,r,ht,hz⟩:=I.list hx
 have hi:=m6 r
 have hlen:=r.length
 rw[List.length_map]at hlen
 refine sorted_ints ht.isList hi (by omega) fun out ns' a1 a2 a3=> ?_
 obtain⟨e,he⟩:=sortedAll_at s.heap its out
 have en:ns'=d0 ns:=h_ (a2.trans (fS ns).symm) a3 (iA ns)
 subst en
 have k:∀b o,s.heap.get? b=some o->(sortedAll s.heap its out).get? b=some o:=fun b o e=>sortedAll_old e
 refine⟨.ref (s.heap.objs.size+1),_,I.laid (t':=s.toks) (o:= .lst ((d0 ns).map V.int)) k (Nat.le_succ _) ?_,rfl,q _ (I.hok.fresh (Nat.le_succ _))⟩
 refine⟨?_,out.toList,e,lq a1,by simpa[seqObj]using he⟩
 have h1:=a2.length_eq
 rw[List.length_map]at hz ⊢
 omega
end
end L2
namespace L2
open PySem PySem.Spec PyProof.Rows
section
variable {P:Program} {w:World} {H:Hp} {h h':Heap} {a:Addr} {o:HO}
theorem cf.got (x:cf P w H h a o):∃u,h.get? a=some u:=by
 cases o with
 |lst xs=>obtain⟨_,_,_,_,e⟩:=x;exact⟨_,e⟩
 |tup xs=>obtain⟨_,_,_,p⟩:=x;obtain⟨o,e,_⟩:=p;exact⟨_,e⟩
 |dK kvs=>obtain⟨_,_,_,_,o,_,_,e,_⟩:=x;exact⟨_,e⟩
 |dT kvs=>obtain⟨_,_,_,_,o,_,_,e,_⟩:=x;exact⟨_,e⟩
 |set S n=>obtain⟨o,_,_,_,e,_⟩:=x;exact⟨_,e⟩
 |ins C dx fs=>obtain⟨_,_,_,e,_⟩:=x;exact⟨_,e⟩
 |own y=>obtain⟨_,e⟩:=x;exact⟨_,e⟩
 |xd fs=>obtain⟨_,⟨_,_,_,e,_⟩,_⟩:=x;exact⟨_,e⟩
 |rng lo hi=>obtain⟨_,_,_,e⟩:=x;exact⟨_,e⟩
 |frz ob u=>obtain⟨e,_⟩:=x;exact⟨_,e⟩
 |tbl ps=>exact⟨_,x⟩
 |met f y=>exact⟨_,x⟩
 |ext φ=>obtain⟨_,e,_⟩:=x;exact e
theorem kF.nowhere (x:kF P w H h) (hn:h.get? a=none):H a=none:=by
 cases e:H a with
 |none=>rfl
 |some o=>obtain⟨u,q⟩:=(x a o e).got;rw[hn]at q;cases q
end
section
variable {X:Cx} {pins:List (Addr×Obj)} {σ:List (Option V)} {H:Hp} {s:Shared} {h':Heap}
theorem aM.laidAt {a:Addr} {o:HO} {t':Nat} (I:aM X pins σ H s) (k:∀b u,s.heap.get? b=some u->h'.get? b=some u) (hn:s.heap.get? a=none) (new:cf X.prog X.w (bY H a o) h' a o):
  aM X pins σ (bY H a o) {s with heap:=h',toks:=t'}:=by
 have hH:=I.hok.nowhere hn
 have hne:∀b u,s.heap.get? b=some u->b≠a:=fun b u q z=>by rw[z,hn]at q;cases q
 refine I.un ⟨fun b u q _ _ _=>k b u q,fun b u q _ _ _=>⟨u.slots,k b u q⟩,fun b u q n _=>by rw[aD (hne b u q)];exact n,fun b u q _=>⟨u,k b u q⟩,fun b xs q=>by rw[aD (dg q hH)];exact q,
  fun b u xs q=>by rw[aD (dg q hH)];exact q,fun b ps q=>⟨#[],by rw[aD (dg q hH),q];simp⟩⟩ fun b u e=> ?_
 by_cases hb:b=a
 ·subst hb;rw[aC]at e;cases e;exact new
 ·rw[aD hb]at e
  exact(I.hok b u e).stay (fun c v _ q=>k c v q) (fun c q=>by rw[aD (dg q hH)];exact q) fun c xs q=>by rw[aD (dg q hH)];exact q
end
section
variable {X:Cx}
theorem sB:dH X (.type "range") (fun xs H Q=>∃i j,xs=[.int i, .int j]/\∀p,H p=none->Q (.ref p) (bY H p (.rng i j))):=by
 intro pins s σ H xs us Q I rv h
 obtain⟨i,j,rfl,q⟩:=h
 obtain⟨u,w',rfl,ru,rw'⟩:=tZ rv
 obtain⟨t,rfl⟩:=ru
 obtain⟨t',rfl⟩:=rw'
 refine call_range_2 ?_
 exact⟨.ref s.heap.objs.size,_,I.laid (o:= .rng i j) (fun b ob q=>Heap.get?_push_of_some _ q) (Nat.le_refl _) ⟨t,t',_,Heap.get?_push_size _ rfl⟩,rfl,q _ (I.hok.fresh (Nat.le_refl _))⟩
theorem pE {ns:List Int} {acc:Array Value} (h:ItemsOf (fun i v=>∃n t,ns[i]? =some n/\v= .int n t) acc ns.length):bg (ns.map V.int) acc.toList:=by
 have key:∀(vs:List Value) (ns:List Int),vs.length=ns.length->(∀(j:Nat) v,vs[j]? =some v->∃n t,ns[j]? =some n/\v= .int n t)->bg (ns.map V.int) vs:=by
  intro vs
  induction vs with
  |nil=>intro ns h1 _;cases ns with
   |nil=>exact .nil
   |cons _ _=>cases h1
  |cons v r ih=>
   intro ns h1 h2
   cases ns with
   |nil=>cases h1
   |cons n ns=>
    obtain⟨m,t,e1,e2⟩:=h2 0 v rfl
    simp at e1
    subst e1
    refine .cons ⟨t,e2⟩ (ih ns (by simpa using h1) fun j v hv=> ?_)
    have:=h2 (j+1) v (by simpa using hv)
    simpa using this
 refine key acc.toList ns (by rw[Array.length_toList];exact h.1) fun j v hv=>h.2 j v (by rw[<-Array.getElem?_toList];exact hv)
def gR (lo hi:Int):List Int:=(List.range (hi - lo).toNat).map fun k:Nat=>lo+(k:Int)
theorem sC (hc:X.calm=true):dH X (.type "list") (fun xs H Q=>∃p lo hi,xs=[.ref p]/\H p=some (.rng lo hi)/\(-(2 ^20)<=lo/\lo<=2 ^20)/\(-(2 ^20)<=hi/\hi<=2 ^20)/\∀l,H l=none->Q (.ref l) (bY H l (.lst ((gR lo hi).map V.int)))):=by
 intro pins s σ H xs us Q I rv h
 obtain⟨p,lo,hi,rfl,hp,⟨l1,l2⟩,⟨h1,h2⟩,q⟩:=h
 obtain⟨u,rfl,ru⟩:=jz rv
 cases ru
 obtain⟨t,u,v,ho⟩:=I.hok p _ hp
 have hn:Builtin.Range.rangeSize lo hi 1=(((hi - lo).toNat:Nat):Int):=by
  unfold Builtin.Range.rangeSize
  rw[if_pos (by decide)]
  split
  ·rw[Int.ediv_one];omega
  ·omega
 have hsmall:Builtin.Range.small lo hi 1=true:=small_one (by omega) (by omega) (by omega) (by omega)
 refine call_list_range (I.ok.hd hc) ho hsmall hn (by omega) fun h' tk acc c hk hS hacc=> ?_
 have hv:bg ((gR lo hi).map V.int) acc.toList:=by
  refine pE ⟨by rw[hacc.1];simp[gR],fun j v hv=> ?_⟩
  obtain⟨t,rfl⟩:=hacc.2 j v hv
  have hj:j<(hi - lo).toNat:=by
   have:=(Array.getElem?_eq_some_iff.mp hv).1
   rw[hacc.1]at this
   exact this
  exact⟨lo+j*1,t,by unfold gR;rw[List.getElem?_map,List.getElem?_range hj];simp,rfl⟩
 refine⟨.ref s.heap.objs.size,_,I.laid (o:= .lst ((gR lo hi).map V.int)) hk (Nat.le_refl _) ⟨?_,acc.toList,c,hv,by simpa using hS⟩,rfl,q _ (I.hok.fresh (Nat.le_refl _))⟩
 rw[List.length_map]
 unfold gR
 rw[List.length_map,List.length_range]
 have:sizeLine=16777216:=sizeLine_eq
 omega
theorem sD (hc:X.calm=true):dH X (.builtin "sorted") (fun xs H Q=>∃p kvs ns,xs=[.ref p]/\H p=some (.dK kvs)/\kvs.map (·.1)=ns.map Sum.inl/\ns.length<64/\∀l,H l=none->Q (.ref l) (bY H l (.lst ((d0 ns).map V.int)))):=by
 intro pins s σ H xs us Q I rv h
 obtain⟨p,kvs,ns,rfl,hp,hk,hl,q⟩:=h
 obtain⟨u,rfl,ru⟩:=jz rv
 cases ru
 obtain⟨z,hd,vs,rel,dd⟩:=zR I.hok hp
 obtain⟨ep,hat⟩:=dd.dictAt
 have hlen:vs.length=ns.length:=by
  rw[<-rel.length]
  have:=congrArg List.length hk
  simpa using this
 refine Calls.call_function_entry kind_sorted plain_sorted entry_sorted (args_sorted1 _) ?_
 unfold Builtin.«sorted»
 refine wpAny_bind (m:=checkCount "sorted" 1 1 _) (wpAny_pure ?_)
 refine wpAny_bind (PySem.W.kdu_collect (A:=X.A.in1) (PySem.W.kdl_dict (knd:=bK X.prog X.w) (kvs:=vs) (ep:=ep) hd) (I.ok.hd hc) hat (by rw[<-rel.length];exact z) fun h' tk acc hk' hacc=> ?_)
 have hI:IntsAre acc.toList ns:=by
  refine m6 (pE ⟨by rw[hacc.1];exact hlen,fun j v hv=> ?_⟩)
  obtain⟨k,x,hx,hkey⟩:=hacc.2 j v hv
  have hkk:(vs.map (·.1))[j]? =some k:=by rw[List.getElem?_map,hx];rfl
  rw[<-rel.keys,hk,List.getElem?_map]at hkk
  cases e:ns[j]? with
  |none=>rw[e]at hkk;cases hkk
  |some n=>
   rw[e]at hkk
   cases hkk
   rcases cO (show p9 (Sum.inl n) v=true from hkey)with ⟨i,t,e1,e2⟩|⟨x',t,e1,e2⟩
   ·cases e1;exact⟨n,t,rfl,e2⟩
   ·cases e1
 have hl2:acc.toList.length=ns.length:=by rw[Array.length_toList,hacc.1];exact hlen
 refine wpAny_bind (wpAny_newList ?_ (by rw[hl2];have:sizeLine=16777216:=sizeLine_eq;omega))
 have hoL:(h'.push (seqObj "list" acc.toList.toArray 0)).get? h'.objs.size=some (seqObj "list" acc.toList.toArray 0):=Heap.get?_push_size _ rfl
 refine wpAny_bind (wpAny_holding (wpAny_call_entry slot_list_sort ⟨_,hoL,rfl⟩ entry_list_sort (list_sort_tree hoL hI (by omega) fun out ns' a1 a2 a3=>⟨_,rfl,?_⟩) (args_list_sort _)))
 refine wpAny_pure ⟨_,rfl,?_⟩
 have en:ns'=d0 ns:=h_ (a2.trans (fS ns).symm) a3 (iA ns)
 subst en
 obtain⟨e,he⟩:=sortedHeap_at (out:=out) hoL
 have hfr:s.heap.get? h'.objs.size=none:=by
  cases e:s.heap.get? h'.objs.size with
  |none=>rfl
  |some o=>exact absurd (Heap.lt_size (hk' _ _ e)) (Nat.lt_irrefl _)
 have kk:∀b o,s.heap.get? b=some o->(sortedHeap (h'.push (seqObj "list" acc.toList.toArray 0)) h'.objs.size acc.toList out).get? b=some o:=fun b o eb=>by
  have hb:=hk' b o eb
  have hlt:b<h'.objs.size:=Heap.lt_size hb
  rw[sortedHeap_old (Nat.ne_of_lt hlt) (by rw[size_push'];exact Nat.lt_succ_of_lt hlt)]
  exact Heap.get?_push_of_some _ hb
 refine⟨.ref h'.objs.size,_,I.laidAt (o:= .lst ((d0 ns).map V.int)) kk hfr ⟨?_,out.toList,e,lq a1,by simpa[seqObj]using he⟩,rfl,q _ (I.hok.nowhere hfr)⟩
 have:=a2.length_eq
 rw[List.length_map]
 have:sizeLine=16777216:=sizeLine_eq
 omega
end
end L2
namespace L2
open PySem PySem.Spec PyProof.Rows
theorem yk:typeLookup (.type "list_reverseiterator") "__len__"=pure none:=by rw[typeLookup_type,builtinLookup_eq_fast];kernel_rfl
theorem zY:typeLookup (.type "list_reverseiterator") "__length_hint__"=pure (some (.builtin "list_reverseiterator.__length_hint__")):=by rw[typeLookup_type,builtinLookup_eq_fast];kernel_rfl
section
variable {prog:Program} {w:World} {A:Around} {E:Value->Shared->Prop} {s:Shared} {I:Addr} {fp wr:List Addr} {G:Array GenState->Array GenState->Prop} {n:Nat} {P:Nat->Value->Prop} {St:Nat->Shared->Prop}
theorem u9 {Q:List Value->Shared->Prop} (W:WalksS prog w A.in1 I fp wr G n P St) (hT:∀i s,St i s->s.TypeIs (.ref I) "list_reverseiterator") (hst:St 0 s) (hfp:∀b∈fp,b<s.heap.objs.size) (hI:I∈fp)
  (hQ:∀s' acc,Moved wr G s s'->ItemsOf P acc n->Q acc.toList s') (hn:n<=sizeLine):wpAny (model prog w) A (collect (.ref I)) Q E s:=by
 have hSf:s.heap.objs.size∉fp:=fun hm=>Nat.lt_irrefl _ (hfp _ hm)
 have hSI:s.heap.objs.size≠I:=fun e=>hSf (e▸hI)
 unfold collect
 refine wpAny_bind (wpAny_runValue (codeAny_builtin PySem.F.entry_proto_collect ?_))
 rw[Around.under_plainId PySem.F.plain_proto_collect _]
 show wpAny _ A.in1 (newList []>>=fun l=>again (.builtin "list.__iadd__" ⟨[l, .ref I],[]⟩)) _ _ s
 refine wpAny_bind (wpAny_newObj_type ?_)
 refine wpAny_pure ⟨plainId_quiet PySem.F.plain_list_iadd _,codeAny_builtin PySem.F.entry_list_iadd ?_⟩
 rw[Around.under_plainId PySem.F.plain_list_iadd _]
 have hst₁:=W.frame 0 s (s.heap.push {cls:= .type "list",data:= .seq ([]:List Value).toArray}) s.toks hst (Nat.le_refl _) fun b _ o e=>Heap.get?_push_of_some _ e
 have hS₁:(s.heap.push {cls:= .type "list",data:= .seq ([]:List Value).toArray}).get? s.heap.objs.size=some {cls:= .type "list",data:= .seq ([]:List Value).toArray}:=Heap.get?_push_size _ rfl
 have h1:Builtin.List.listSameRef (.ref s.heap.objs.size) (.ref I)=false:=by simp[Builtin.List.listSameRef,hSI]
 show wpAny _ A.in1 (Builtin.List.listExtendWith (.ref s.heap.objs.size) (.ref I) (.ref s.heap.objs.size)) _ _ _
 unfold Builtin.List.listExtendWith
 refine wpAny_bind (wpAny_typeOf (hT 0 _ hst₁) ?_)
 rw[if_neg (by rw[h1];decide)]
 refine wpAny_bind (W.self 0 _ _ _ hst₁ ?_)
 refine wpAny_bind (wpAny_holding ?_)
 unfold Builtin.List.listLengthHint
 refine wpAny_bind (wpAny_specialOf (hT 0 _ hst₁) yk ?_)
 show wpAny _ A.in1 (specialOf (Value.ref I) (Str.ofString "__length_hint__")>>=_) _ _ _
 refine wpAny_bind (wpAny_specialOf (hT 0 _ hst₁) zY ?_)
 (generalize hid:("list_reverseiterator.__length_hint__":String)=id0;(fail_if_success (clear hid id0));wp_delta;rw[show splitId id0=some ("list_reverseiterator","__length_hint__")from by subst hid;decide+kernel];subst hid)
 refine wpAny_bind (wpAny_isInstance (b:=true) (hT 0 _ hst₁) (by rw[isSubtype_type];kernel_rfl) ?_)
 refine wpAny_pure ?_
 rw[if_neg (by decide)]
 refine wpAny_pure ⟨plainId_quiet PySem.F.plain_extend_loop _,codeAny_extend_loopS W hn _ hSf _ n 0 _ _ _ rfl (Nat.zero_le _) hst₁ hS₁ (ItemsOf.nil P) fun s' acc' c' hm hS' hacc=> ?_⟩
 show wpAny _ A (load s.heap.objs.size>>=_) _ _ s'
 refine wpAny_bind (wpAny_load hS' ?_)
 exact wpAny_pure (hQ s' acc' (Moved.drop_new (o:={cls:= .type "list",data:= .seq ([]:List Value).toArray}) (tk:=s.toks) hm (Nat.le_refl _)) hacc)
theorem m7 {Q₁:Value->Shared->Prop} (W:WalksS prog w A.in1.in1 I fp wr G n P St) (hT:∀i s,St i s->s.TypeIs (.ref I) "list_reverseiterator") (hst:St 0 s) (hfp:∀b∈fp,b<s.heap.objs.size) (hI:I∈fp)
  (h:∀s' acc,Moved wr G s s'->ItemsOf P acc n->Q₁ (.ref s'.heap.objs.size) {s' with heap:=s'.heap.push {cls:= .type "tuple",data:= .seq acc}}) (hsz:n<=sizeLine):
  codeAny (model prog w) A (.call (.builtin "tuple.__new__") ⟨[.type "tuple", .ref I],[]⟩) (wants Q₁ E) s:=by
 refine codeAny_of_tree ?_
 show wpAny _ A.in1 (do checkBuiltinCall "tuple.__new__" ⟨[.type "tuple", .ref I],[]⟩;again (.builtin "tuple.__new__" ⟨[.type "tuple", .ref I],[]⟩)) _ _ s
 refine wpAny_bind (wpAny_of_eq (PySem.F.newCall_tuple_1 _) (wpAny_pure ⟨plainId_quiet PySem.F.plain_tuple_new _,codeAny_builtin PySem.F.entry_tuple_new ?_⟩))
 rw[Around.under_plainId PySem.F.plain_tuple_new _]
 have hsub:=sub_tuple_self
 have hinit:=init_tuple_lookup
 have hmh:=madeHere_tuple
 have hTI:=hT 0 s hst
 wp_walk using wpAny_typeOf hTI,u9 (hn:=hsz) W hT hst hfp hI
 intro s' acc hm hacc
 show wpAny _ _ (Builtin.Tuple.tupleExact acc.toList.toArray>>=fun v=>ret v) _ _ _
 unfold Builtin.Tuple.tupleExact
 refine wpAny_bind (wpAny_newObj_type ?_ (by show acc.toList.toArray.size<=sizeLine;simp only[Array.toArray_toList];rw[hacc.1];exact hsz))
 refine wpAny_pure ?_
 have e:acc.toList.toArray=acc:=by simp
 rw[e]
 exact h s' acc hm hacc
theorem pF {Q:Value->Shared->Prop} (W:WalksS prog w A.in1.in1.in1 I fp wr G n P St) (hT:∀i s,St i s->s.TypeIs (.ref I) "list_reverseiterator") (hst:St 0 s) (hfp:∀b∈fp,b<s.heap.objs.size) (hI:I∈fp)
  (hQ:∀s' acc,Moved wr G s s'->ItemsOf P acc n->Q (.ref s'.heap.objs.size) {s' with heap:=s'.heap.push {cls:= .type "tuple",data:= .seq acc}}) (hsz:n<=sizeLine):
  wpAny (model prog w) A (call (.type "tuple") [.ref I]) Q E s:=by
 refine callType_codes (Q₁:=fun obj s₁=>s₁.TypeIs obj "tuple"/\Q obj s₁) PySem.F.called_tuple (PySem.F.typeCall_tuple_1 _) PySem.F.entry_object_init
  (m7 (hsz:=hsz) W hT hst hfp hI fun s' acc hm hacc=>⟨⟨_,Heap.get?_push_size _ rfl,rfl⟩,hQ s' acc hm hacc⟩) fun obj s₁ h₁=> ?_
 exact⟨h₁.1,PySem.F.args_object_init_2 obj _,object_init_meets PySem.F.called_tuple.init.lookup PySem.F.called_tuple.made (by decide) prog w A.in1 _ s₁ ⟨h₁.1,rfl,h₁.2⟩⟩
end
section
variable {X:Cx} {e:Expr} {te:TE} {pos p1 p2 pos2:Pos}
def CH (K:PySem.W.Frag) (te:TE):TE:=fun σ H Q=>te σ H fun x H1=>∃a xs,[x]=[V.ref a]/\fz K H1 a xs/\∀l,H1 l=none->Q (.ref l) (bY H1 l (.tup xs.reverse))
theorem qM:bootBuiltins "reversed"=some (.type "reversed"):=by decide+kernel
theorem ua:bootBuiltins "tuple"=some (.type "tuple"):=by decide+kernel
theorem yl (hc:X.calm=true) (he:PE X e te) (hmt:X.mg "tuple"=none) (hmr:X.mg "reversed"=none) (hgt:Gl X "tuple") (hgr:Gl X "reversed")
  (he1:starEach [e] X.env=(false,eval e X.env)::starEach [] X.env) (hpl1:(backTo pos2 (starEach [] X.env)).any (·.1)=false)
  (he2:starEach [.Call (.Name "reversed" p2) [e] [] pos2] X.env=(false,eval (.Call (.Name "reversed" p2) [e] [] pos2) X.env)::starEach [] X.env) (hpl2:(backTo pos (starEach [] X.env)).any (·.1)=false):
  PE X (.Call (.Name "tuple" p1) [.Call (.Name "reversed" p2) [e] [] pos2] [] pos) (CH X.K te):=by
 intro pins s σ H Q I h
 refine wpAny_Call_Name_kw (l_ I hgt hmt ua ?_ (by decide) (by decide))
 refine PyProof.Rows.callWith_type1 ?_ he2 hpl2
 rw[he2]
 show wpAny _ _ (spliced ((false,eval (.Call (.Name "reversed" p2) [e] [] pos2) X.env)::backTo pos (starEach [] X.env))) _ _ s
 refine Calls.spliced_cons ?_
 refine wpAny_Call_Name_kw (l_ I hgr hmr qM ?_ (by decide) (by decide))
 refine PyProof.Rows.callWith_type1 ?_ he1 hpl1
 refine cP (fO he j_ he1 pos2 pins s σ H (fun vs H1=>∃a xs,vs=[V.ref a]/\fz X.K H1 a xs/\∀l,H1 l=none->Q (.ref l) (bY H1 l (.tup xs.reverse))) I h) fun us s1 z_=> ?_
 obtain⟨vs,H1,I1,r1,q1⟩:=z_
 obtain⟨a,xs,rfl,hx,q⟩:=q1
 obtain⟨u,rfl,ru⟩:=jz r1
 cases ru
 obtain⟨its,r,ht,hz⟩:=I1.list hx
 have hlen:=r.length
 refine call_reversed_list ht.isList ?_
 refine Calls.spliced_nil ?_
 have hl:(s1.heap.push (revObj a ((its.toArray.size:Int) - 1))).IsList a its.toArray:=ht.isList.push _
 have hlt:a<s1.heap.objs.size:=by obtain⟨o,ho,_⟩:=ht.isList;exact Heap.lt_size ho
 have W:=Walks.listRev (prog:=X.prog) (w:=X.w) (A:=X.A.in1.in1.in1) (I1.ok.hd hc) s1.heap.objs.size a (Nat.ne_of_lt hlt) its.toArray
 have hne:∀b o,s1.heap.get? b=some o->b≠s1.heap.objs.size:=fun b o e z=>absurd (Heap.lt_size e) (by rw[z];exact Nat.lt_irrefl _)
 refine pF W.toS (fun i s st=>st.2.1.typeIs) ⟨Nat.zero_le _,?_,hl⟩ (fun b hb=> ?_) (by simp) (fun s' acc hm hacc=> ?_) (by rw[List.size_toArray];omega)
 ·refine⟨_,Heap.get?_push_size _ rfl,rfl,?_⟩
  show Data.fields _=_
  simp
 ·show b<(s1.heap.push _).objs.size
  rw[size_push']
  rcases List.mem_cons.mp hb with rfl|hb
  ·exact Nat.lt_succ_self _
  ·rw[List.mem_singleton.mp hb];exact Nat.lt_succ_of_lt hlt
 ·have hk:∀b o,s1.heap.get? b=some o->s'.heap.get? b=some o:=fun b o e=>
   hm.heap b o (fun hI=>hne b o e (List.mem_singleton.mp hI)) (Heap.get?_push_of_some _ e)
  have hfr:s1.heap.get? s'.heap.objs.size=none:=by
   cases e:s1.heap.get? s'.heap.objs.size with
   |none=>rfl
   |some o=>exact absurd (Heap.lt_size (hk _ _ e)) (Nat.lt_irrefl _)
  rw[Moved.eq_with hm]
  have hv:bg xs.reverse acc.toList:=by
   have e:acc.toList=its.reverse:=by
    refine List.ext_getElem? fun j=> ?_
    have h1:acc.size=its.length:=by have:=hacc.1;rwa [List.size_toArray]at this
    by_cases hj:j<its.length
    ·have ha:acc[j]? =some (acc[j]'(by omega)):=Array.getElem?_eq_getElem (by omega)
     have:=hacc.2 j _ ha
     rw[List.size_toArray,List.getElem?_toArray]at this
     rw[Array.getElem?_toList,ha,List.getElem?_reverse hj,this]
    ·rw[List.getElem?_eq_none (by rw[Array.length_toList];omega),List.getElem?_eq_none (by rw[List.length_reverse];omega)]
   rw[e]
   exact r.reverse
  refine⟨.ref s'.heap.objs.size,_,I1.laidAt (t':=s'.toks) (o:= .tup xs.reverse) (fun b o e=>Heap.get?_push_of_some _ (hk b o e)) hfr ⟨?_,acc.toList,hv,?_⟩,rfl,q _ (I1.hok.nowhere hfr)⟩
  ·rw[List.length_reverse];exact hz
  ·exact ip.new _ _
end
end L2
namespace L2
open PySem PySem.Spec PyProof.Rows
theorem pG:typeLookup (.type "list") (Str.ofString "keys")=pure none:=by rw[typeLookup_type,builtinLookup_eq_fast];kernel_rfl
theorem oJ:typeLookup (.type "tuple") (Str.ofString "keys")=pure none:=by rw[typeLookup_type,builtinLookup_eq_fast];kernel_rfl
theorem gz:entryFor table "dict.update.loop"=some Builtin.«dict.update.loop»:=entryFor_of_tree (by kernel_rfl)
theorem cN:plainId "dict.update.loop"=true:=by decide+kernel
section
variable {prog:Program} {w:World} {A:Around} {E:Value->Shared->Prop} {s:Shared} {a:Addr}
theorem ub {xs:Array Value} {k:Nat} {sl:Array (Option Value)} {Q:Option Value->Shared->Prop} (hx:s.heap.get? a=some {cls:= .type "list",dict:=none,data:= .seq xs k,slots:=sl}) (hA:A.handled=none)
  (h:∀h' tk,(∀b o,s.heap.get? b=some o->h'.get? b=some o)->Q none {s with heap:=h',toks:=tk}):wpAny (model prog w) A (getAttr? (.ref a) "keys") Q E s:=by
 obtain⟨hp,g,d,tk,os⟩:=s
 have hT:∀tk',(⟨hp,g,d,tk',os⟩:Shared).TypeIs (.ref a) "list":=fun _=>⟨_,hx,rfl⟩
 have f1:=sub_AttributeError
 have f3:=PySem.F.slot_list_getattribute.lookup
 have f4:=PySem.F.slot_list_getattribute.bind (.ref a)
 have f5:=am_list_getattr_none
 unfold getAttr? getAttrBy? getAttrBy
 repeat (any_goals (first|assumption|exact hT _|((with_reducible show wpAny _ _ (call (Value.builtin "list.__getattribute__") _ _) _ _ _);refine call_meets PySem.F.slot_list_getattribute (hT _) am_entry_list_getattribute (PySem.F.args_list_getattribute_2 _ _) (meets_getattribute_miss_list a xs k sl _ _ pG (by decide+kernel) (by size_fits)) ⟨hx,hA,fun h' tk' e hx'=> ?_⟩)|wp_step))
 obtain⟨t',u',he⟩:=hx'.there
 show wpAny _ _ (getattributeRaised _ _ _ _ _ _ _) _ _ _
 unfold getattributeRaised
 repeat (any_goals (first|assumption|wp_step))
 exact h _ _ hx'.of.keeps
theorem sE {xs:Array Value} {k:Nat} {sl:Array (Option Value)} {Q:Option Value->Shared->Prop} (hx:s.heap.get? a=some {cls:= .type "tuple",dict:=none,data:= .seq xs k,slots:=sl}) (hA:A.handled=none)
  (h:∀h' tk,(∀b o,s.heap.get? b=some o->h'.get? b=some o)->Q none {s with heap:=h',toks:=tk}):wpAny (model prog w) A (getAttr? (.ref a) "keys") Q E s:=by
 obtain⟨hp,g,d,tk,os⟩:=s
 have hT:∀tk',(⟨hp,g,d,tk',os⟩:Shared).TypeIs (.ref a) "tuple":=fun _=>⟨_,hx,rfl⟩
 have f1:=sub_AttributeError
 have f3:=PySem.F.slot_tuple_getattribute.lookup
 have f4:=PySem.F.slot_tuple_getattribute.bind (.ref a)
 have f5:=am_tuple_getattr_none
 unfold getAttr? getAttrBy? getAttrBy
 repeat (any_goals (first|assumption|exact hT _|((with_reducible show wpAny _ _ (call (Value.builtin "tuple.__getattribute__") _ _) _ _ _);refine call_meets PySem.F.slot_tuple_getattribute (hT _) am_entry_tuple_getattribute (PySem.F.args_tuple_getattribute_2 _ _) (meets_getattribute_miss_tuple a xs k sl _ _ oJ (by decide+kernel) (by size_fits)) ⟨hx,hA,fun h' tk' e hx'=> ?_⟩)|wp_step))
 obtain⟨t',u',he⟩:=hx'.there
 show wpAny _ _ (getattributeRaised _ _ _ _ _ _ _) _ _ _
 unfold getattributeRaised
 repeat (any_goals (first|assumption|wp_step))
 exact h _ _ hx'.of.keeps
end
section
variable {prog:Program} {w:World} {A:Around} {R:Result->Shared->Prop} {I:Addr} {fp wr:List Addr} {G:Array GenState->Array GenState->Prop} {n:Nat} {P:Nat->Value->Prop} {St:Nat->Shared->Prop}
def vJ (key:Nat->bx) (val:Nat->Value):Nat->List (bx×Value)
 |0=>[]
 |i+1=>stored (vJ key val i) (key i) (val i)
theorem vK (kvs:List (bx×Value)) (k:bx) (v:Value):(stored kvs k v).length<=kvs.length+1:=by
 unfold stored
 split<;>simp
theorem pH (key:Nat->bx) (val:Nat->Value):∀i,(vJ key val i).length<=i
 |0=>Nat.le_refl _
 |i+1=>Nat.le_trans (vK _ _ _) (Nat.succ_le_succ (pH key val i))
theorem ym {h0:Heap} (W:WalksS prog w A.in1 I fp wr G n P St) (S:Addr) (hSf:S∉fp) (hS0:h0.get? S=none) (hw0:∀b∈wr,h0.get? b=none) (key:Nat->bx) (val:Nat->Value) (res:Value) (hn:n<=sizeLine)
  (hP:∀i v,P i v->∃a o kv m,v= .ref a/\h0.get? a=some o/\o.cls= .type "tuple"/\o.data= .seq #[kv,val i] m/\(bK prog w).is (key i) kv=true):
  ∀(k i:Nat) (s:Shared),n - i=k->i<=n->St i s->(∀b o,h0.get? b=some o->s.heap.get? b=some o)->s.heap.DictOf (bK prog w) S (vJ key val i)->
   (∀s',Moved (S::wr) G s s'->s'.heap.DictOf (bK prog w) S (vJ key val n)->R (.ok (.ret res)) s')->
   codeAny (model prog w) A (.builtin "dict.update.loop" ⟨[.ref S, .ref I,rawInt i,res],[]⟩) R s:=by
 have hSw:S∉wr:=fun h=>hSf (W.sub _ h)
 have hsub:∀b∈wr,b∈S::wr:=fun b hb=>List.mem_cons_of_mem _ hb
 have mv:∀{s s':Shared} {kvs:List (bx×Value)},Moved wr G s s'->s.heap.DictOf (bK prog w) S kvs->s'.heap.DictOf (bK prog w) S kvs:=fun hm hd=>by
  obtain⟨o,es,ep,ho,rest⟩:=hd
  exact⟨o,es,ep,hm.heap S _ hSw ho,rest⟩
 intro k
 induction k with
 |zero=>
  intro i s hk hi hst hk0 hS hR
  have hin:i=n:=by omega
  subst hin
  refine codeAny_builtin gz ?_
  rw[Around.under_plainId cN _]
  show wpAny _ A.in1 (pyNext (.ref I)>>=_) _ _ s
  refine wpAny_bind (W.done s _ _ hst fun s' hm=> ?_)
  show wpAny _ A.in1 (Builtin.Dict.addKeywords S []>>=fun _=>ret res) _ _ s'
  refine wpAny_bind (wpAny_pure ?_)
  exact wpAny_pure (hR s' (hm.mono hsub) (mv hm hS))
 |succ k ih=>
  intro i s hk hi hst hk0 hS hR
  have hlt:i<n:=by omega
  refine codeAny_builtin gz ?_
  rw[Around.under_plainId cN _]
  show wpAny _ A.in1 (pyNext (.ref I)>>=_) _ _ s
  refine wpAny_bind (W.item i s _ _ hlt hst fun v s' hPv hst' hm=> ?_)
  obtain⟨a,o,kv,m,rfl,ho,hc,hd,hkey⟩:=hP i v hPv
  have hk1:∀b o,h0.get? b=some o->s'.heap.get? b=some o:=fun b o e=>hm.heap b o (fun hb=>by rw[hw0 b hb]at e;cases e) (hk0 b o e)
  have ho':=hk1 a o ho
  have hS':=mv hm hS
  dsimp only
  refine wpAny_bind (wpAny_holding ?_)
  refine wpAny_bind (wpAny_tryCatch ?_)
  unfold Builtin.Dict.pairItems
  refine wpAny_bind (wpAny_typeOf (T:="tuple") ⟨o,ho',hc⟩ ?_)
  rw[if_pos (by decide)]
  refine wpAny_bind (wpAny_seqItems ho' hd ?_)
  refine wpAny_pure ?_
  show wpAny _ A.in1 (holding [kv,val i] (dictSet S kv (val i))) _ _ s'
  refine wpAny_holding (wpAny_dictSet_pairs (hsz:=by have:=pH key val i;omega) hkey hS' fun h' hS2 hsb=> ?_)
  refine wpAny_pure ⟨plainId_quiet cN _,ih (i+1) _ (by omega) hlt (W.frame _ s' _ _ hst' (Nat.le_succ _) fun b hb o e=> ?_) (fun b o e=> ?_) hS2 fun s'' hm'' hS''=> ?_⟩
  ·rw[hsb.2 b (fun h:b=S=>hSf (by rw[<-h];exact hb))];exact e
  ·show h'.get? b=some o
   rw[hsb.2 b (fun h:b=S=>by rw[h,hS0]at e;cases e)];exact hk1 b o e
  ·refine hR s'' (Moved.trans W.gtrans ((hm.mono hsub).then_heap (Nat.le_succ _) fun b o hb e=> ?_) hm'') hS''
   rw[hsb.2 b (fun h:b=S=>hb (by rw[h];exact List.mem_cons_self))];exact e
end
section
variable {prog:Program} {w:World} {A:Around} {E:Value->Shared->Prop} {s:Shared} {p:Addr}
abbrev Kp (h h':Heap):Prop:=∀b o,h.get? b=some o->h'.get? b=some o
structure CI (prog:Program) (w:World) (h0:Heap) (p:Addr) (T:String) (n:Nat) (P:Nat->Value->Prop):Prop where
 lt:p<h0.objs.size
 ty:∀s:Shared,Kp h0 s.heap->s.TypeIs (.ref p) T
 nd:(Value.type T != Value.type "dict")=true
 no:∀(A:Around) (E:Value->Shared->Prop) (s:Shared) (Q:Option Value->Shared->Prop),A.handled=none->Kp h0 s.heap->(∀h' tk,Kp s.heap h'->Q none {s with heap:=h',toks:=tk})->wpAny (model prog w) A (getAttr? (.ref p) "keys") Q E s
 it:∀(A:Around) (s:Shared),A.handled=none->Kp h0 s.heap->∃(oI:Obj) (St:Nat->Heap->Prop),(∀(A':Around) (E:Value->Shared->Prop) (Q:Value->Shared->Prop),Q (.ref s.heap.objs.size) {s with heap:=s.heap.push oI}->wpAny (model prog w) A' (pyIter (.ref p)) Q E s)/\
  Walks prog w A s.heap.objs.size [s.heap.objs.size,p] [s.heap.objs.size] n P St/\St 0 (s.heap.push oI)
theorem qN {T:String} {n:Nat} {P:Nat->Value->Prop} {Q:Value->Shared->Prop} (S:CI prog w s.heap p T n P) (hh:A.handled=none) (key:Nat->bx) (val:Nat->Value) (hn:n<=sizeLine)
  (hP:∀i v,P i v->∃a o kv m,v= .ref a/\s.heap.get? a=some o/\o.cls= .type "tuple"/\o.data= .seq #[kv,val i] m/\(bK prog w).is (key i) kv=true)
  (h:∀h' tk,Kp s.heap h'->h'.DictOf (bK prog w) s.heap.objs.size (vJ key val n)->Q (.ref s.heap.objs.size) {s with heap:=h',toks:=tk}):
  wpAny (model prog w) A (call (.type "dict") [.ref p]) Q E s:=by
 refine callType_codes (Q₁:=fun obj s₁=>obj= .ref s.heap.objs.size/\s₁={s with heap:=s.heap.push {cls:= .type "dict",data:= .dict #[]}}) PySem.F.kt_called_dict (PySem.F.kt_typeCall_dict_1 _) PySem.F.entry_dict_init (kt_code_dict_new _ ⟨rfl,rfl⟩) ?_
 rintro obj s₁ ⟨rfl,rfl⟩
 have hnew:(s.heap.push {cls:= .type "dict",data:= .dict #[]}).DictOf (bK prog w) s.heap.objs.size []:=Heap.DictOf.new s.heap
 have hkp:Kp s.heap (s.heap.push {cls:= .type "dict",data:= .dict #[]}):=fun b o e=>Heap.get?_push_of_some _ e
 refine⟨hnew.typeIs,PySem.F.args_dict_init_2 _ _,?_⟩
 unfold Builtin.«dict.__init__»
 refine wpAny_bind ?_
 unfold Builtin.Dict.selfAndRest
 refine wpAny_bind (wpAny_notOrdered_dict hnew.typeIs ?_)
 show wpAny _ _ (pure (s.heap.objs.size,[Value.ref p])) _ _ _
 refine wpAny_pure ?_
 show wpAny _ _ (Builtin.Dict.updateFrom "dict.__init__" s.heap.objs.size (.ref p) [] .none) _ _ _
 unfold Builtin.Dict.updateFrom
 refine wpAny_bind (wpAny_typeOf (S.ty _ hkp) ?_)
 rw[if_pos S.nd]
 refine wpAny_bind (S.no _ _ _ _ hh hkp fun h1 tk1 k1=> ?_)
 rw[if_pos (show (none:Option Value).isNone=true from rfl)]
 refine wpAny_bind (wpAny_rule ?_)
 have k01:Kp s.heap h1:=fun b o e=>k1 b o (hkp b o e)
 obtain⟨oI,St,hit,W,st⟩:=S.it A.in1.in1 {s with heap:=h1,toks:=tk1} hh k01
 refine wpAny_bind (hit _ _ _ ?_)
 have hS1:h1.DictOf (bK prog w) s.heap.objs.size []:=by
  obtain⟨o,es,ep,ho,rest⟩:=hnew
  exact⟨o,es,ep,k1 _ _ ho,rest⟩
 have hlt1:s.heap.objs.size<h1.objs.size:=by
  obtain⟨o,es,ep,ho,rest⟩:=hS1
  exact Heap.lt_size ho
 have fr:∀c,s.heap.objs.size<=c->s.heap.get? c=none:=fun c hc=>by
  cases e:s.heap.get? c with
  |none=>rfl
  |some o=>exact absurd (Nat.lt_of_lt_of_le (Heap.lt_size e) hc) (Nat.lt_irrefl _)
 refine wpAny_pure ⟨plainId_quiet cN _,ym (h0:=s.heap) W.toS s.heap.objs.size (fun hm=> ?_) (fr _ (Nat.le_refl _)) (fun b hb=> ?_) key val .none hn hP n 0 _ (by omega) (Nat.zero_le _) st (fun b o e=>Heap.get?_push_of_some _ (k01 b o e)) ?_ fun s' hm hS'=> ?_⟩
 ·rcases List.mem_cons.mp hm with z|hm
  ·exact absurd hlt1 (by rw[z];exact Nat.lt_irrefl _)
  ·exact absurd S.lt (by rw[<-List.mem_singleton.mp hm];exact Nat.lt_irrefl _)
 ·rw[List.mem_singleton.mp hb];exact fr _ (Nat.le_of_lt hlt1)
 ·obtain⟨o,es,ep,ho,rest⟩:=hS1
  exact⟨o,es,ep,Heap.get?_push_of_some _ ho,rest⟩
 ·refine⟨rfl,?_⟩
  rw[Moved.eq_with hm]
  refine h s'.heap s'.toks (fun b o e=>hm.heap b o (fun hb=> ?_) (Heap.get?_push_of_some _ (k01 b o e))) hS'
  rcases List.mem_cons.mp hb with rfl|hb
  ·rw[fr _ (Nat.le_refl _)]at e;cases e
  ·rw[List.mem_singleton.mp hb]at e
   rw[fr _ (Nat.le_of_lt hlt1)]at e;cases e
theorem yn {items:Array Value} (h:PlainL s.heap p items):CI prog w s.heap p "list" items.size (fun i v=>items[i]? =some v)where
 lt:=let ⟨_,_,e,_⟩:=h;Heap.lt_size e
 ty:=fun s k=>let ⟨o,n,e,c,_⟩:=h;⟨o,k _ _ e,c⟩
 nd:=by decide
 no:=fun A E s' Q hA k q=>by
  obtain⟨⟨oc,od,odt,osl⟩,n,e,c,d,dt⟩:=h
  cases c;cases d;cases dt
  exact ub (k _ _ e) hA q
 it:=fun A s' hA k=>by
  have hp:PlainL s'.heap p items:=h.keeps k
  have hlt:p<s'.heap.objs.size:=let ⟨_,_,e,_⟩:=hp;Heap.lt_size e
  exact⟨_,_,fun A' E Q q=>wpAny_pyIter_list hp.isList q,Walks.list hA s'.heap.objs.size p (Nat.ne_of_lt hlt) items,⟨⟨_,Heap.get?_push_size _ rfl,rfl,rfl⟩,hp.isList.push _⟩⟩
theorem vL {items:Array Value} (h:ip s.heap p items):CI prog w s.heap p "tuple" items.size (fun i v=>items[i]? =some v)where
 lt:=h.lt
 ty:=fun s k=>let ⟨o,e,c,_⟩:=h;⟨o,k _ _ e,c⟩
 nd:=by decide
 no:=fun A E s' Q hA k q=>by
  obtain⟨⟨oc,od,odt,osl⟩,e,c,n,dt,d⟩:=h
  cases c;cases d;cases dt
  exact sE (k _ _ e) hA q
 it:=fun A s' hA k=>by
  have hp:IsTup s'.heap p items:=h.tup.keeps k
  have hlt:p<s'.heap.objs.size:=hp.lt
  have hp':s'.heap.IsTuple p items:=hp
  exact⟨_,_,fun A' E Q q=>wpAny_pyIter_tuple hp' q,Walks.tuple hA s'.heap.objs.size p (Nat.ne_of_lt hlt) items,⟨⟨_,Heap.get?_push_size _ rfl,rfl,rfl⟩,show IsTup _ _ _ from hp.push _⟩⟩
end
section
variable {X:Cx}
inductive jb (H:Hp):List V->List (bx×V)->Prop
 |nil:jb H [] []
 |cons {a:Addr} {k:bx} {v:V} {ys:List V} {ps:List (bx×V)}:H a=some (.tup [kV k,v])->jb H ys ps->jb H (.ref a::ys) ((k,v)::ps)
theorem uc (rs:List (bx×Value)) (x:bx×Value):merged [] (rs++[x])=stored (merged [] rs) x.1 x.2:=by
 unfold merged
 rw[List.foldl_append]
 rfl
def pI (rs:List (bx×Value)) (i:Nat):bx:=((rs[i]?).map (·.1)).getD (.inl 0)
def pJ (rs:List (bx×Value)) (i:Nat):Value:=((rs[i]?).map (·.2)).getD .none
theorem kM (rs:List (bx×Value)):∀i,i<=rs.length->vJ (pI rs) (pJ rs) i=merged [] (rs.take i)
 |0,_=>rfl
 |i+1,h=>by
  have hi:i<rs.length:=h
  show stored (vJ (pI rs) (pJ rs) i) (pI rs i) (pJ rs i)=_
  rw[kM rs i (Nat.le_of_lt hi),List.take_succ_eq_append_getElem hi,uc]
  simp[pI,pJ,hi]
theorem pK {P:Program} {w:World} {H:Hp} {h:Heap} (ok:kF P w H h):∀{ys:List V} {ps:List (bx×V)} {us:List Value},jb H ys ps->bg ys us->∃rs:List (bx×Value),KV ps rs/\us.length=rs.length/\
  ∀(i:Nat) v,us[i]? =some v->∃a o kv m,v= .ref a/\h.get? a=some o/\o.cls= .type "tuple"/\o.data= .seq #[kv,pJ rs i] m/\(bK P w).is (pI rs i) kv=true
 |_,_,_, .nil, .nil=>⟨[], .nil,rfl,fun i v h=>by simp at h⟩
 |_,_,_, .cons (a:=a) (k:=k) (v:=v) ha t, .cons ru rt=>by
  obtain⟨rs,h1,h2,h3⟩:=pK ok t rt
  obtain⟨_,its,r,o,g1,g2,n,g3,_⟩:=(show cf P w H h a (.tup [kV k,v])from ok a _ ha)
  obtain⟨x,y,rfl,rx,ry⟩:=r.two
  refine⟨(k,y)::rs, .cons ⟨rfl,ry⟩ h1,by simp[h2],fun i v' hv=> ?_⟩
  cases i with
  |zero=>
   simp at hv
   subst hv
   exact⟨a,o,x,n,ru,g1,g2,g3,o6 rx⟩
  |succ i=>exact h3 i v' (by simpa using hv)
theorem ic (hc:X.calm=true):dH X (.type "dict") (fun xs H Q=>∃p ys ps,xs=[.ref p]/\(H p=some (.lst ys)\/H p=some (.tup ys))/\jb H ys ps/\∀l,H l=none->Q (.ref l) (bY H l (.dK (gQ [] ps)))):=by
 intro pins s σ H xs us Q I rv h
 obtain⟨p,ys,ps,rfl,hp,pa,q⟩:=h
 obtain⟨u,rfl,ru⟩:=jz rv
 cases ru
 have fin:∀(its:List Value) (T:String),bg ys its->ys.length<=sizeLine->CI X.prog X.w s.heap p T its.toArray.size (fun i v=>its.toArray[i]? =some v)->
   wpAny (model X.prog X.w) X.A (call (.type "dict") [.ref p]) (EP X pins σ Q) X.xe s:=by
  intro its T r hz S
  obtain⟨rs,h1,h2,h3⟩:=pK I.hok pa r
  have hl:=r.length
  refine qN S (I.ok.hd hc) (pI rs) (pJ rs) (by rw[List.size_toArray];omega) (fun i v hv=>h3 i v (by simpa using hv)) fun h' tk k hd=> ?_
  have en:its.toArray.size=rs.length:=by rw[<-h2];exact List.size_toArray
  rw[en,kM rs _ (Nat.le_refl _),List.take_length]at hd
  have hkv:KV (gQ [] ps) (merged [] rs):=KV.merge h1 .nil
  refine⟨.ref s.heap.objs.size,_,I.laid (t':=tk) (o:= .dK (gQ [] ps)) k (Nat.le_refl _) (vH ?_ ?_ hkv hd),rfl,q _ (I.hok.fresh (Nat.le_refl _))⟩
  ·rw[KV.length hkv]
   have:(merged [] rs).length<=rs.length:=by
    have:=pH (pI rs) (pJ rs) rs.length
    rwa [kM rs _ (Nat.le_refl _),List.take_length]at this
   omega
  ·exact beq_eq_false_iff_ne.mpr (Nat.ne_of_gt I.big)
 rcases hp with hp|hp
 ·obtain⟨its,r,pl,hz⟩:=I.list (fz.of hp)
  exact fin its "list" r hz (yn pl)
 ·obtain⟨hz,its,r,pl⟩:=(show cf X.prog X.w H s.heap p (.tup ys)from I.hok p _ hp)
  exact fin its "tuple" r hz (vL pl)
end
end L2
namespace L2
open PySem PySem.Spec PyProof.Rows PySem.W
def lF {α:Type} (V:Nat->Nat->Prop) (lt:Nat->Nat->Bool):KasT α->(α->Prop)->Prop
 | .ret a,Q=>Q a
 | .ask i j k,Q=>V i j/\lF V lt (k (lt i j)) Q
theorem lF.imp {α:Type} {V:Nat->Nat->Prop} {lt:Nat->Nat->Bool} {Q Q':α->Prop} (w:∀a,Q a->Q' a):∀{t:KasT α},lF V lt t Q->lF V lt t Q'
 | .ret a,h=>w a h
 | .ask i j k,h=>⟨h.1,lF.imp w h.2⟩
theorem lF.bind {α β:Type} {V:Nat->Nat->Prop} {lt:Nat->Nat->Bool} {f:α->KasT β} {Q:β->Prop}:∀{t:KasT α},lF V lt t (fun a=>lF V lt (f a) Q)->lF V lt (t.bind f) Q
 | .ret a,h=>h
 | .ask i j k,h=>⟨h.1,lF.bind h.2⟩
theorem lF.wp {α:Type} {V:Nat->Nat->Prop} {lt:Nat->Nat->Bool} {cmp:Nat->Nat->(Bool->Shared->Prop)->Shared->Prop} {Good:Shared->Prop} (hc:∀i j C s,V i j->Good s->(∀s',Good s'->C (lt i j) s')->cmp i j C s) {Q:α->Shared->Prop}:
  ∀{t:KasT α} {s:Shared},lF V lt t (fun a=>∀s',Good s'->Q a s')->Good s->t.kasWp cmp Q s
 | .ret a,s,h,g=>h s g
 | .ask i j k,s,h,g=>hc i j _ s h.1 g fun s' g'=>lF.wp hc h.2 g'
section
variable {n:Nat} {key:Nat->Int}
def kk (key:Nat->Int) (p:Array Nat) (i:Nat):Int:=key (p.getD i 0)
def vM (key:Nat->Int) (i j:Nat):Bool:=decide (key i<key j)
def Pr (n i j:Nat):Prop:=i<n/\j<n/\i≠j
structure qH (n:Nat) (p:Array Nat):Prop where
 sz:p.size=n
 perm:p.toList.Perm (List.range n)
theorem qH.lt {p:Array Nat} (h:qH n p) {i:Nat} (hi:i<n):p.getD i 0<n:=by
 have hi':i<p.size:=by rw[h.sz];exact hi
 have:p.getD i 0=p[i]:=by simp[Array.getD,hi']
 rw[this]
 exact List.mem_range.mp (h.perm.mem_iff.mp (by simp))
theorem qH.inj {p:Array Nat} (h:qH n p) {i j:Nat} (hi:i<n) (hj:j<n) (e:p.getD i 0=p.getD j 0):i=j:=by
 have hi':i<p.size:=by rw[h.sz];exact hi
 have hj':j<p.size:=by rw[h.sz];exact hj
 have e1:p.getD i 0=p[i]:=by simp[Array.getD,hi']
 have e2:p.getD j 0=p[j]:=by simp[Array.getD,hj']
 rw[e1,e2]at e
 have nd:p.toList.Nodup:=(h.perm.nodup_iff).mpr List.nodup_range
 have hp:=List.pairwise_iff_getElem.mp nd
 have el:p.toList[i]'(by simpa using hi')=p.toList[j]'(by simpa using hj'):=by simpa using e
 rcases Nat.lt_trichotomy i j with z|z|z
 ·exact absurd el (hp i j _ _ z)
 ·exact z
 ·exact absurd el.symm (hp j i _ _ z)
theorem qH.pr {p:Array Nat} (h:qH n p) {i j:Nat} (hi:i<n) (hj:j<n) (hij:i≠j):Pr n (p.getD i 0) (p.getD j 0):=⟨h.lt hi,h.lt hj,fun z=>hij (h.inj hi hj z)⟩
def vh (key:Nat->Int) (p:Array Nat) (m:Nat):Prop:=∀i j,i<j->j<m->kk key p i<kk key p j
def Fh (key:Nat->Int) (p:Array Nat) (m:Nat):Prop:=∀i j,i<j->j<m->kk key p j<kk key p i
theorem vh.more {p:Array Nat} {m:Nat} (h:vh key p (m+1)) (hl:kk key p m<kk key p (m+1)):vh key p (m+2):=fun i j hij hj=>by
 by_cases e:j=m+1
 ·subst e
  by_cases e2:i=m
  ·subst e2;exact hl
  ·exact Int.lt_trans (h i m (by omega) (by omega)) hl
 ·exact h i j hij (by omega)
theorem Fh.more {p:Array Nat} {m:Nat} (h:Fh key p (m+1)) (hl:kk key p (m+1)<kk key p m):Fh key p (m+2):=fun i j hij hj=>by
 by_cases e:j=m+1
 ·subst e
  by_cases e2:i=m
  ·subst e2;exact hl
  ·exact Int.lt_trans hl (h i m (by omega) (by omega))
 ·exact h i j hij (by omega)
theorem vN {p:Array Nat} (o:qH n p) (hk:∀i j,i<n->j<n->key i=key j->i=j):∀(f m:Nat),vh key p (m+1)->m+1+f=n->lF (Pr n) (vM key) (kas_asc p f (m+1)) fun r=>m+1<=r/\r<=n/\vh key p r/\(r<n->kk key p r<kk key p (r - 1))
 |0,m,h,e=>⟨Nat.le_refl _,by omega,h,fun z=>by omega⟩
 |f+1,m,h,e=>by
  refine⟨o.pr (by omega) (by omega) (by omega),?_⟩
  rw[Nat.add_sub_cancel]
  by_cases hl:kk key p (m+1)<kk key p m
  ·simp only[show vM key (p.getD (m+1) 0) (p.getD m 0)=true from decide_eq_true hl,if_true]
   exact⟨Nat.le_refl _,by omega,h,fun _=>by rw[Nat.add_sub_cancel];exact hl⟩
  ·simp only[show vM key (p.getD (m+1) 0) (p.getD m 0)=false from decide_eq_false hl,Bool.false_eq_true,if_false]
   have hne:kk key p m≠kk key p (m+1):=fun z=>by
    have:=o.inj (i:=m) (j:=m+1) (by omega) (by omega) (hk _ _ (o.lt (by omega)) (o.lt (by omega)) z)
    omega
   refine lF.imp (fun r ⟨a,b,c,d⟩=>⟨by omega,b,c,d⟩) (vN o hk f (m+1) (h.more (by omega)) (by omega))
theorem zZ {p:Array Nat} (o:qH n p) (hk:∀i j,i<n->j<n->key i=key j->i=j):∀(f m:Nat),Fh key p (m+1)->m+1+f=n->lF (Pr n) (vM key) (kas_desc f p (m+1) 0) fun r=>r.1=p/\r.2.2=0/\m+1<=r.2.1/\r.2.1<=n/\Fh key p r.2.1
 |0,m,h,e=>⟨rfl,rfl,Nat.le_refl _,by show m+1<=n;omega,h⟩
 |f+1,m,h,e=>by
  refine⟨o.pr (by omega) (by omega) (by omega),?_⟩
  rw[Nat.add_sub_cancel]
  by_cases hl:kk key p (m+1)<kk key p m
  ·simp only[show vM key (p.getD (m+1) 0) (p.getD m 0)=true from decide_eq_true hl,if_true,gt_iff_lt,Nat.lt_irrefl,if_false]
   exact lF.imp (fun r ⟨a,b,c,d⟩=>⟨a,b,by omega,d⟩) (zZ o hk f (m+1) (h.more hl) (by omega))
  ·simp only[show vM key (p.getD (m+1) 0) (p.getD m 0)=false from decide_eq_false hl,Bool.false_eq_true,if_false]
   have hne:kk key p m≠kk key p (m+1):=fun z=>by
    have:=o.inj (i:=m) (j:=m+1) (by omega) (by omega) (hk _ _ (o.lt (by omega)) (o.lt (by omega)) z)
    omega
   have hl2:kk key p m<kk key p (m+1):=by omega
   refine⟨o.pr (by omega) (by omega) (by omega),?_⟩
   simp only[show vM key (p.getD m 0) (p.getD (m+1) 0)=true from decide_eq_true hl2,if_true]
   exact⟨rfl,rfl,Nat.le_refl _,by show m+1<=n;omega,h⟩
theorem oX {p q:Array Nat} {i j:Nat} (h:p[i]? =q[j]?):p.getD i 0=q.getD j 0:=by
 rw[Array.getD_eq_getD_getElem?,Array.getD_eq_getD_getElem?,h]
theorem CJ {p:Array Nat} (o:qH n p) (i j:Nat):qH n (kas_rev p i j):=
 ⟨by unfold kas_rev;rw[mirror_size];exact o.sz,(Array.perm_iff_toList_perm.mp (mirror_perm p i j _)).trans o.perm⟩
theorem CK {p:Array Nat} (o:qH n p) {m:Nat} (hm:m<=n) (h:Fh key p m):vh key (kas_rev p 0 m) m:=fun i j hij hj=>by
 have e:∀k,k<m->kk key (kas_rev p 0 m) k=kk key p (m - 1 - k):=fun k hk=>by
  unfold kk
  congr 1
  refine oX ?_
  have:=getElem?_mirror_all (xs:=p) (i:=0) (j:=m) (by rw[o.sz];exact hm) k
  unfold kas_rev
  rw[this,if_pos ⟨Nat.zero_le _,hk⟩,Nat.zero_add]
 rw[e i (by omega),e j hj]
 exact h _ _ (by omega) (by omega)
theorem A0 {p:Array Nat} (o:qH n p) (hn:2<=n) (hk:∀i j,i<n->j<n->key i=key j->i=j):lF (Pr n) (vM key) (kas_count n p) fun r=>1<=r.1/\r.1<=n/\qH n r.2/\vh key r.2 r.1:=by
 unfold kas_count
 refine lF.bind (lF.imp (fun m ⟨h1,h2,h3,h4⟩=> ?_) (vN o hk (n - 1) 0 (fun i j hij hj=>by omega) (by omega)))
 by_cases e:m=n
 ·rw[if_pos (by simp[e])];exact⟨by show 1<=m;omega,h2,o,h3⟩
 ·rw[if_neg (by simp[e])]
  by_cases e1:m>1
  ·rw[if_pos e1]
   refine⟨o.pr (by omega) (by omega) (by omega),?_⟩
   simp only[show vM key (p.getD 0 0) (p.getD (m - 1) 0)=true from decide_eq_true (h3 0 (m - 1) (by omega) (by omega)),if_true]
   exact⟨by show 1<=m;omega,h2,o,h3⟩
  ·have em:m=1:=by omega
   subst em
   rw[if_neg (by omega)]
   have hd:Fh key p 2:=fun i j hij hj=>by
    have hi:i=0:=by omega
    have hj':j=1:=by omega
    subst hi;subst hj'
    exact h4 (by omega)
   unfold kas_descPart
   refine lF.bind (lF.imp (fun r ⟨a,b,c,d,g⟩=> ?_) (zZ o hk (n - (1+1)) 1 hd (by omega)))
   rw[if_neg (by omega)]
   unfold kas_tail3
   rw[a]
   have o2:=CJ o 0 r.2.1
   obtain⟨q,hq⟩:∃q,r.2.1=q+1:=⟨r.2.1 - 1,by omega⟩
   rw[hq]at d g o2 ⊢
   refine lF.bind (lF.imp (fun m2 ⟨x1,x2,x3,_⟩=>⟨by show 1<=m2;omega,x2,o2,x3⟩) (vN o2 hk (n - (q+1)) q (CK o d g) (by omega)))
theorem pL {p:Array Nat} (o:qH n p) (hk:∀i j,i<n->j<n->key i=key j->i=j) {k:Nat} (hkn:k<n) (ha:vh key p k):∀(f l r:Nat),l<=r->r<=k->r - l<=f->(∀i,i<l->kk key p i<kk key p k)->(∀i,r<=i->i<k->kk key p k<kk key p i)->
  lF (Pr n) (vM key) (kas_place p k f l r) fun m=>m<=k/\(∀i,i<m->kk key p i<kk key p k)/\∀i,m<=i->i<k->kk key p k<kk key p i
 |0,l,r,h1,h2,h3,h4,h5=>⟨by omega,h4,fun i hi=>h5 i (by omega)⟩
 |f+1,l,r,h1,h2,h3,h4,h5=>by
  unfold kas_place
  by_cases e:l>=r
  ·rw[if_pos e];exact⟨by omega,h4,fun i hi=>h5 i (by omega)⟩
  ·rw[if_neg e]
   refine⟨o.pr hkn (by omega) (by omega),?_⟩
   have hm1:(l+r) / 2<r:=by omega
   have hm2:l<=(l+r) / 2:=by omega
   by_cases hl:kk key p k<kk key p ((l+r) / 2)
   ·simp only[show vM key (p.getD k 0) (p.getD ((l+r) / 2) 0)=true from decide_eq_true hl,if_true]
    refine pL o hk hkn ha f l ((l+r) / 2) hm2 (by omega) (by omega) h4 fun i hi hik=> ?_
    by_cases z:i=(l+r) / 2
    ·subst z;exact hl
    ·exact Int.lt_trans hl (ha _ _ (by omega) hik)
   ·simp only[show vM key (p.getD k 0) (p.getD ((l+r) / 2) 0)=false from decide_eq_false hl,Bool.false_eq_true,if_false]
    have hne:kk key p ((l+r) / 2)≠kk key p k:=fun z=>by
     have:=o.inj (i:=(l+r) / 2) (j:=k) (by omega) hkn (hk _ _ (o.lt (by omega)) (o.lt hkn) z)
     omega
    have hl2:kk key p ((l+r) / 2)<kk key p k:=by omega
    refine pL o hk hkn ha f ((l+r) / 2+1) r (by omega) h2 (by omega) (fun i hi=> ?_) h5
    by_cases z:i=(l+r) / 2
    ·subst z;exact hl2
    ·exact Int.lt_trans (ha _ _ (show i<(l+r) / 2 by omega) (by omega)) hl2
theorem CL {p:Array Nat} (o:qH n p) {k m:Nat} (hkn:k<n) (hm:m<=k) (ha:vh key p k) (h1:∀i,i<m->kk key p i<kk key p k) (h2:∀i,m<=i->i<k->kk key p k<kk key p i):qH n (bubble p k (k - m))/\vh key (bubble p k (k - m)) (k+1):=by
 refine⟨⟨by rw[bubble_size];exact o.sz,(Array.perm_iff_toList_perm.mp (bubble_perm p k _)).trans o.perm⟩,fun i j hij hj=> ?_⟩
 have e:∀q,kk key (bubble p k (k - m)) q=if q=m then kk key p k else if m<q/\q<=k then kk key p (q - 1)else kk key p q:=fun q=>by
  have:=getElem?_bubble (xs:=p) (src:=k) (by rw[o.sz];exact hkn) (k - m) (by omega) q
  rw[show k - (k - m)=m by omega]at this
  unfold kk
  split
  ·rename_i z;rw[if_pos z]at this;congr 1;exact oX this
  ·rename_i z
   rw[if_neg z]at this
   split
   ·rename_i z2;rw[if_pos z2]at this;congr 1;exact oX this
   ·rename_i z2;rw[if_neg z2]at this;congr 1;exact oX this
 rw[e i,e j]
 by_cases i1:i=m
 ·rw[if_pos i1,if_neg (by omega),if_pos (by omega)]
  exact h2 _ (by omega) (by omega)
 ·rw[if_neg i1]
  by_cases i2:m<i/\i<=k
  ·rw[if_pos i2,if_neg (by omega),if_pos (by omega)]
   exact ha _ _ (by omega) (by omega)
  ·rw[if_neg i2]
   by_cases j1:j=m
   ·rw[if_pos j1];exact h1 i (by omega)
   ·rw[if_neg j1]
    by_cases j2:m<j/\j<=k
    ·rw[if_pos j2]
     by_cases z:i=j - 1
     ·omega
     ·exact ha _ _ (by omega) (by omega)
    ·rw[if_neg j2];exact ha _ _ hij (by omega)
theorem Aa (hk:∀i j,i<n->j<n->key i=key j->i=j):∀(f:Nat) (p:Array Nat) (k:Nat),qH n p->vh key p k->k+f=n->lF (Pr n) (vM key) (kas_bin f p k) fun q=>qH n q/\vh key q n
 |0,p,k,o,h,e=>⟨o,by rw[<-e];exact h⟩
 |f+1,p,k,o,h,e=>by
  unfold kas_bin
  refine lF.bind (lF.imp (fun m ⟨h1,h2,h3⟩=> ?_) (pL o hk (show k<n by omega) h k 0 k (Nat.zero_le _) (Nat.le_refl _) (by omega) (fun i hi=>by omega) fun i h1 h2=>by omega))
  obtain⟨o2,a2⟩:=CL o (show k<n by omega) h1 h h2 h3
  exact Aa hk f _ (k+1) o2 a2 (by omega)
theorem CM (hn:2<=n) (hk:∀i j,i<n->j<n->key i=key j->i=j):lF (Pr n) (vM key) (kas_sort n) fun q=>qH n q/\vh key q n:=by
 have o:qH n (List.toArray (List.range n)):=⟨by simp,by simp⟩
 unfold kas_sort
 refine lF.bind (lF.imp (fun r ⟨h1,h2,h3,h4⟩=> ?_) (A0 o hn hk))
 by_cases e:r.1<n
 ·rw[if_pos e,show max r.1 1=r.1 by omega]
  exact Aa hk _ _ _ h3 h4 (by omega)
 ·rw[if_neg e]
  have:r.1=n:=by omega
  rw[this]at h4
  exact⟨h3,h4⟩
end
end L2
namespace L2
open PySem PySem.Spec PyProof.Rows PySem.W
section
variable {prog:Program} {w:World} {A:Around} {E:Value->Shared->Prop} {s:Shared}
def nP (h:Heap) (v:Value) (k:Int):Prop:=∃b o t rest m,v= .ref b/\h.get? b=some o/\o.cls= .type "tuple"/\o.data= .seq (Array.mk (Value.int k t::rest)) m
theorem Fi {v u:Value} {k l:Int} {Q:Bool->Shared->Prop} (hv:nP s.heap v k) (hu:nP s.heap u l) (hne:k≠l) (h:Q (decide (k<l)) s):wpAny (model prog w) A (keyLt' (tuples' true) v u) Q E s:=by
 obtain⟨b,o,t,rest,m,rfl,h1,h2,h3⟩:=hv
 obtain⟨b',o',t',rest',m',rfl,g1,g2,g3⟩:=hu
 refine kat_lt h1 h3 g1 g3 ?_
 show KatLex prog w A true _ Q ((Value.int k t,Value.int l t')::rest.zip rest') 0 s
 refine kat_cons (wpAny_eqBool_int ?_)
 have e:(k==l)=false:=beq_eq_false_iff_ne.mpr hne
 rw[e]
 exact kat_no (oneLt_int h)
theorem rE:∀{vs:List Value} {ks:List Int},vs.length=ks.length->(∀(i:Nat) v,vs[i]? =some v->nP s.heap v (ks.getD i 0))->∃fs:List Value,KatTups s.heap vs fs/\fs.length=vs.length/\∀f∈fs,∃k t,f=Value.int k t
 |[],ks,_,_=>⟨[], .nil,rfl,fun f hf=>by cases hf⟩
 |v::vs,[],hl,_=>by cases hl
 |v::vs,k::ks,hl,h=>by
  obtain⟨fs,h1,h2,h3⟩:=rE (vs:=vs) (ks:=ks) (by simpa using hl) fun i u hu=>by
   have:=h (i+1) u (by simpa using hu)
   simpa using this
  obtain⟨b,o,t,rest,m,rfl,g1,g2,g3⟩:=h 0 v rfl
  refine⟨_::fs,KatTups.cons g1 g2 g3 (f:=Value.int ((k::ks).getD 0 0) t) rfl h1,by simp[h2],fun f hf=> ?_⟩
  rcases List.mem_cons.mp hf with rfl|hf
  ·exact⟨_,_,rfl⟩
  ·exact h3 f hf
def pM (ks:List Int) (p:List Nat):Prop:=p.Perm (List.range ks.length)/\(p.map fun i=>ks.getD i 0).Pairwise (·<·)
theorem sG {key:Nat->Int} {p:Array Nat} {n:Nat} (hs:p.size=n) (h:vh key p n):(p.toList.map key).Pairwise (·<·):=by
 refine List.pairwise_iff_getElem.mpr fun i j hi hj hij=> ?_
 rw[List.length_map,Array.length_toList]at hi hj
 have:=h i j hij (by omega)
 unfold kk at this
 simpa[Array.getD,hi,hj]using this
theorem yo {α β:Type} {vs:List α} {ks:List β} (hl:vs.length=ks.length) (h:vs.length<2):(vs=[]/\ks=[])\/∃v k,vs=[v]/\ks=[k]:=by
 cases vs with
 |nil=>exact .inl ⟨rfl,List.length_eq_zero_iff.mp hl.symm⟩
 |cons v vs=>
  cases vs with
  |nil=>
   obtain⟨k,hk⟩:=List.length_eq_one_iff.mp hl.symm
   exact .inr ⟨v,k,rfl,hk⟩
  |cons=>exact absurd h (by simp only[List.length_cons];omega)
theorem pN {a:Addr} {vs:List Value} {ks:List Int} {n:Nat} {P:PySem.Fin->Shared->Prop} (ho:s.heap.get? a=some (seqObj "list" vs.toArray n)) (hl:vs.length=ks.length) (hv:∀(i:Nat) v,vs[i]? =some v->nP s.heap v (ks.getD i 0)) (hnd:ks.Nodup) (h64:vs.length<64)
  (h:∀p:List Nat,pM ks p->P (.done (.ret .none)) {s with heap:=sortedHeap s.heap a vs (List.toArray (p.map fun i=>vs.getD i Value.none))}):
  wpAny (model prog w) A (Builtin.«list.sort» ⟨[.ref a],[]⟩) P E s:=by
 rw[list_sort_plain]
 have ha:a<s.heap.objs.size:=Heap.lt_size ho
 refine wpAny_bind (listItems_at ho rfl ?_)
 refine wpAny_bind (listUpdate_at ho rfl ?_ (hsz2:=Nat.zero_le _) (hsz:=by rw[List.size_toArray,sizeLine_eq];omega))
 obtain⟨e1,ho1⟩:∃e1,(s.heap.update a (Obj.mapSeq fun _=> #[])).get? a=some (seqObj "list" #[] e1):=⟨_,get?_update_seq ho (fun _=> #[])⟩
 refine wpAny_bind (seqEpoch_at ho1 rfl ?_)
 refine wpAny_bind (wpAny_newTuple ?_ (by show vs.length<=_;rw[sizeLine_eq];omega))
 refine wpAny_bind (wpAny_newList ?_ (Nat.zero_le _))
 refine wpAny_holding ?_
 have old:∀b o,b≠a->s.heap.get? b=some o->(((s.heap.update a (Obj.mapSeq fun _=> #[])).push (seqObj "tuple" vs.toArray 0)).push (seqObj "list" #[] 0)).get? b=some o:=fun b o hb e=>by
  refine Heap.get?_push_of_some _ (Heap.get?_push_of_some _ ?_)
  rw[Heap.get?_update_ne _ _ _ _ hb];exact e
 have ho6:(((s.heap.update a (Obj.mapSeq fun _=> #[])).push (seqObj "tuple" vs.toArray 0)).push (seqObj "list" #[] 0)).get? a=some (seqObj "list" #[] e1):=Heap.get?_push_of_some _ (Heap.get?_push_of_some _ ho1)
 have hv':∀(i:Nat) v,vs[i]? =some v->nP (((s.heap.update a (Obj.mapSeq fun _=> #[])).push (seqObj "tuple" vs.toArray 0)).push (seqObj "list" #[] 0)) v (ks.getD i 0):=fun i v e=>by
  obtain⟨b,o,t,rest,m,rfl,g1,g2,g3⟩:=hv i v e
  refine⟨b,o,t,rest,m,rfl,old b o (fun z=> ?_) g1,g2,g3⟩
  subst z
  rw[ho]at g1
  cases g1
  exact absurd (show Value.type "list"=Value.type "tuple" from g2) (by decide)
 show wpAny (model prog w) A _ P E {s with heap:=((s.heap.update a (Obj.mapSeq fun _=> #[])).push (seqObj "tuple" vs.toArray 0)).push (seqObj "list" #[] 0)}
 dsimp only
 have hsz:vs.toArray.size=vs.length:=by simp
 have hmap:∀p:List Nat,p.length=vs.length->(List.toArray (p.map fun i=>vs.getD i Value.none)).size<=sizeLine:=fun p hp=>by
  rw[List.size_toArray,List.length_map,hp,sizeLine_eq];omega
 by_cases h2:vs.toArray.size<2
 ·rw[if_pos h2,if_pos h2]
  refine wpAny_bind (wpAny_pure ?_)
  rw[StateT.run_pure]
  refine wpAny_bind (wpAny_pure ?_)
  dsimp only
  obtain⟨p,hp,hpl,heq⟩:∃p:List Nat,pM ks p/\p.length=vs.length/\Array.map (fun x=>x.2) (arrOf (SortSt.mk' general' (vs.toArray.zip vs.toArray) #[] 7 none))=List.toArray (p.map fun i=>vs.getD i Value.none):=by
   rcases yo hl (by simpa using h2)with ⟨rfl,rfl⟩|⟨v,k,rfl,rfl⟩
   ·exact⟨[],⟨List.Perm.refl _,List.Pairwise.nil⟩,rfl,by show Array.map (fun x:Keyed=>x.2) ((#[]:Array Value).zip #[])=_;simp⟩
   ·exact⟨[0],⟨List.Perm.refl _,List.pairwise_singleton _ _⟩,rfl,by show Array.map (fun x:Keyed=>x.2) ((#[v]:Array Value).zip #[v])=_;simp⟩
  refine wpAny_bind (seqEpoch_at ho6 rfl ?_)
  have heq':Array.map (fun x=>x.2) (arrOf (SortSt.mk' general' (vs.toArray.zip vs.toArray) #[] 7 none))=List.toArray (p.map fun i=>vs.getD i Value.none):=heq
  refine wpAny_bind (listUpdate_at ho6 rfl ?_ (hsz2:=by have:=hmap p hpl;rw[<-heq']at this;exact Nat.le_succ_of_le this))
  simp only[bne_self_eq_false,Bool.false_eq_true,if_false]
  have hh:=h p hp
  rw[<-heq']at hh
  exact wpAny_pure hh
 ·rw[if_neg h2,if_neg h2]
  have hn2:2<=vs.length:=by rw[hsz]at h2;omega
  obtain⟨fs,t1,t2,t3⟩:=rE (s:={s with heap:=((s.heap.update a (Obj.mapSeq fun _=> #[])).push (seqObj "tuple" vs.toArray 0)).push (seqObj "list" #[] 0)}) hl hv'
  refine wpAny_bind (kat_kind (T:= .type "int") t1 (by omega) (fun v hv=> ?_) (by decide) ?_)
  ·obtain⟨k,t,rfl⟩:=t3 v hv
   exact .now
  rw[show (Value.type "int" != Value.type "tuple")=true by decide]
  have tree:(kas_sort vs.length).kasWp (kas_ask prog w A (tuples' true) vs) (fun p s'=>s'={s with heap:=((s.heap.update a (Obj.mapSeq fun _=> #[])).push (seqObj "tuple" vs.toArray 0)).push (seqObj "list" #[] 0)}/\qH vs.length p/\vh (fun i=>ks.getD i 0) p vs.length) {s with heap:=((s.heap.update a (Obj.mapSeq fun _=> #[])).push (seqObj "tuple" vs.toArray 0)).push (seqObj "list" #[] 0)}:=by
   have hinj:∀i j,i<vs.length->j<vs.length->ks.getD i 0=ks.getD j 0->i=j:=fun i j hi hj e=>by
    have hp:=List.pairwise_iff_getElem.mp hnd
    have e':ks[i]'(by omega)=ks[j]'(by omega):=by simpa[show i<ks.length by omega,show j<ks.length by omega]using e
    rcases Nat.lt_trichotomy i j with z|z|z
    ·exact absurd e' (hp i j _ _ z)
    ·exact z
    ·exact absurd e'.symm (hp j i _ _ z)
   refine lF.wp (V:=Pr vs.length) (lt:=vM fun i=>ks.getD i 0) (Good:=fun s'=>s'={s with heap:=((s.heap.update a (Obj.mapSeq fun _=> #[])).push (seqObj "tuple" vs.toArray 0)).push (seqObj "list" #[] 0)}) (fun i j C s' hpr hg hC=> ?_) (lF.imp (fun p hp s' hs'=>⟨hs',hp⟩) (CM hn2 hinj)) rfl
   subst hg
   have hi:vs[i]? =some (vs.getD i Value.none):=by simp[hpr.1]
   have hj:vs[j]? =some (vs.getD j Value.none):=by simp[hpr.2.1]
   exact Fi (hv' i _ hi) (hv' j _ hj) (fun z=>hpr.2.2 (hinj i j hpr.1 hpr.2.1 z)) (hC _ rfl)
  refine wpAny_bind (wpAny_mono (kat_run (vs:=vs) (ks:=vs) (Q:=fun st' s'=>∃p:Array Nat,arrOf st'=p.map (kas_item (vs.toArray.zip vs.toArray))/\failedOf st'=none/\s'={s with heap:=((s.heap.update a (Obj.mapSeq fun _=> #[])).push (seqObj "tuple" vs.toArray 0)).push (seqObj "list" #[] 0)}/\qH vs.length p/\vh (fun i=>ks.getD i 0) p vs.length)
   rfl hn2 h64 (fun p' st' s' a1 a2 a3 a4=>⟨p',a2,a3,a4⟩) tree) ?_ fun _ _ e=>e)
  rintro⟨⟨⟩,st'⟩ s' ⟨p,har,hf,rfl,ord,asc⟩
  dsimp only
  have hout:=kat_snds (vs:=vs) (ks:=vs) rfl har
  have hpl:p.toList.length=vs.length:=by rw[Array.length_toList];exact ord.sz
  refine wpAny_bind (seqEpoch_at ho6 rfl ?_)
  rw[hout]
  refine wpAny_bind (listUpdate_at ho6 rfl ?_ (hsz2:=Nat.le_succ_of_le (hmap _ hpl)))
  rw[hf]
  simp only[bne_self_eq_false,Bool.false_eq_true,if_false]
  exact wpAny_pure (h p.toList ⟨by rw[<-hl];exact ord.perm,sG ord.sz asc⟩)
end
section
variable {X:Cx}
inductive kb (H:Hp):List V->List Int->Prop
 |nil:kb H [] []
 |cons {a:Addr} {k:Int} {rest ys:List V} {ks:List Int}:H a=some (.tup (.int k::rest))->kb H ys ks->kb H (.ref a::ys) (k::ks)
theorem kb.length {H:Hp}:∀{ys:List V} {ks:List Int},kb H ys ks->ys.length=ks.length
 |_,_, .nil=>rfl
 |_,_, .cons _ t=>by rw[List.length_cons,List.length_cons,t.length]
theorem ud {P:Program} {w:World} {H:Hp} {h h':Heap} (ok:kF P w H h) (kp:∀b o,h.get? b=some o->h'.get? b=some o):∀{ys:List V} {ks:List Int} {us:List Value},kb H ys ks->bg ys us->∀(i:Nat) v,us[i]? =some v->nP h' v (ks.getD i 0)
 |_,_,_, .nil, .nil,i,v,e=>by simp at e
 |_,_,_, .cons (a:=a) (k:=k) (rest:=rest) ha t, .cons ru rt,i,v,e=>by
  cases i with
  |zero=>
   simp at e
   subst e
   obtain⟨_,its,r,o,h1,h2,n,h3,_⟩:=(show cf P w H h a (.tup (.int k::rest))from ok a _ ha)
   cases r with
   |cons rk rr=>
    obtain⟨t,rfl⟩:=rk
    exact⟨a,o,t,_,n,ru,kp _ _ h1,h2,h3⟩
  |succ i=>exact ud ok kp t rt i v (by simpa using e)
theorem rF {ys:List V} {us:List Value} (r:bg ys us):∀p:List Nat,(∀i∈p,i<ys.length)->bg (p.map fun i=>ys.getD i .non) (p.map fun i=>us.getD i Value.none)
 |[],_=> .nil
 |i::p,h=>by
  have hi:=h i List.mem_cons_self
  have hy:ys[i]? =some (ys.getD i .non):=by simp[hi]
  obtain⟨u,hu,ru⟩:=r.get hy
  have e:us.getD i Value.none=u:=by simp[hu]
  refine .cons ?_ (rF r p fun j hj=>h j (List.mem_cons_of_mem _ hj))
  show bJ (ys.getD i .non) (us.getD i Value.none)
  rw[e];exact ru
theorem sH:dH X (.builtin "sorted") (fun xs H Q=>∃p ys ks,xs=[.ref p]/\(H p=some (.lst ys)\/H p=some (.tup ys))/\kb H ys ks/\ks.Nodup/\ks.length<64/\
  ∀l q,H l=none->pM ks q->Q (.ref l) (bY H l (.lst (q.map fun i=>ys.getD i .non)))):=by
 intro pins s σ H xs us Q I rv h
 obtain⟨p,ys,ks,rfl,hp,ra,nd,h64,q⟩:=h
 obtain⟨u,rfl,ru⟩:=jz rv
 cases ru
 have hl:=ra.length
 obtain⟨its,r,T,o,n,hT,ho,hc,hd⟩:∃its:List Value,bg ys its/\∃(T:String) (o:Obj) (n:Nat),(T="list"\/T="tuple")/\s.heap.get? p=some o/\o.cls= .type T/\o.data= .seq its.toArray n:=by
  rcases hp with hp|hp
  ·obtain⟨its,r,⟨o,n,e,c,_,d⟩,_⟩:=I.list (fz.of hp)
   exact⟨its,r,"list",o,n, .inl rfl,e,c,d⟩
  ·obtain⟨hz,its,r,o,e,c,n,d,_⟩:=(show cf X.prog X.w H s.heap p (.tup ys)from I.hok p _ hp)
   exact⟨its,r,"tuple",o,n, .inr rfl,e,c,d⟩
 have hlen:=r.length
 refine Calls.call_function_entry kind_sorted plain_sorted entry_sorted (args_sorted1 _) ?_
 unfold Builtin.«sorted»
 refine wpAny_bind (m:=checkCount "sorted" 1 1 _) (wpAny_pure ?_)
 refine wpAny_bind (wpAny_collect_seq p hT ho hc hd (fun h' hk'=> ?_) (by rw[List.size_toArray,sizeLine_eq];omega))
 have eT:its.toArray.toList=its:=by simp
 rw[eT]
 refine wpAny_bind (wpAny_newList ?_ (by rw[sizeLine_eq];omega))
 have hoL:(h'.push (seqObj "list" its.toArray 0)).get? h'.objs.size=some (seqObj "list" its.toArray 0):=Heap.get?_push_size _ rfl
 refine wpAny_bind (wpAny_holding (wpAny_call_entry slot_list_sort ⟨_,hoL,rfl⟩ entry_list_sort (pN hoL (by omega) (ud I.hok (fun b o e=>Heap.get?_push_of_some _ (hk' b o e)) ra r) nd (by omega) fun z hz=>⟨_,rfl,?_⟩) (args_list_sort _)))
 refine wpAny_pure ⟨_,rfl,?_⟩
 obtain⟨e,he⟩:=sortedHeap_at (out:=List.toArray (z.map fun i=>its.getD i Value.none)) hoL
 have hfr:s.heap.get? h'.objs.size=none:=by
  cases e:s.heap.get? h'.objs.size with
  |none=>rfl
  |some o=>exact absurd (Heap.lt_size (hk' _ _ e)) (Nat.lt_irrefl _)
 have kk:∀b o,s.heap.get? b=some o->(sortedHeap (h'.push (seqObj "list" its.toArray 0)) h'.objs.size its (List.toArray (z.map fun i=>its.getD i Value.none))).get? b=some o:=fun b o eb=>by
  have hb:=hk' b o eb
  have hlt:b<h'.objs.size:=Heap.lt_size hb
  rw[sortedHeap_old (Nat.ne_of_lt hlt) (by rw[size_push'];exact Nat.lt_succ_of_lt hlt)]
  exact Heap.get?_push_of_some _ hb
 have hzl:z.length=ys.length:=by have:=hz.1.length_eq;rw[List.length_range]at this;omega
 refine⟨.ref h'.objs.size,_,I.laidAt (o:= .lst (z.map fun i=>ys.getD i .non)) kk hfr ⟨?_,z.map fun i=>its.getD i Value.none,e,rF r z fun i hi=> ?_,by simpa[seqObj]using he⟩,rfl,q _ z (I.hok.nowhere hfr) hz⟩
 ·rw[List.length_map,hzl,sizeLine_eq];omega
 ·have:=List.mem_range.mp (hz.1.mem_iff.mp hi)
  omega
end
end L2
namespace L2
open PySem PySem.Spec PyProof.Rows
section
variable {prog:Program} {w:World} {A:Around} {E:Value->Shared->Prop} {s:Shared}
theorem rG {I:Addr} {fp wr:List Addr} {items:Array Value} {St:Nat->Heap->Prop} (W:Walks prog w A I fp wr items.size (fun i v=>items[i]? =some v) St):∀(n i:Nat) (s:Shared) (Q:List Value->Shared->Prop),St i s.heap->i+n<=items.size->
  (∀(h':Heap) (tk:Nat),St (i+n) h'->(∀b o,b∉wr->s.heap.get? b=some o->h'.get? b=some o)->Q ((items.toList.drop i).take n) {s with heap:=h',toks:=tk})->wpAny (model prog w) A (draw (.ref I) n) Q E s
 |0,i,s,Q,st,hn,k=>by
  refine wpAny_pure ?_
  have:=k s.heap s.toks st fun _ _ _ e=>e
  rw[List.take_zero]at this
  exact this
 |n+1,i,s,Q,st,hn,k=>by
  unfold draw
  refine wpAny_bind (W.item i s _ E (by omega) st fun v h' tk hv st' kp=> ?_)
  refine wpAny_bind (wpAny_holding (rG W n (i+1) _ _ st' (by omega) fun h2 tk2 st2 kp2=>wpAny_pure ?_))
  have e:(items.toList.drop i).take (n+1)=v::(items.toList.drop (i+1)).take n:=by
   obtain⟨hl,he⟩:=Array.getElem?_eq_some_iff.mp hv
   rw[List.drop_eq_getElem_cons (by simpa using hl),List.take_succ_cons]
   simp[he]
  have:=k h2 tk2 (by rw[show i+(n+1)=i+1+n by omega];exact st2) fun b o hb e=>kp2 b o hb (kp b o hb e)
  rw[e]at this
  exact this
theorem nQ {l:Addr} {items:Array Value} {Q:List Value->Shared->Prop} (hA:A.handled=none) (hl:s.heap.IsList l items)
  (k:∀(h':Heap) (tk:Nat),(∀b o,b≠s.heap.objs.size->s.heap.get? b=some o->h'.get? b=some o)->Q items.toList {s with heap:=h',toks:=tk}):wpAny (model prog w) A (unpackItems (.ref l) items.size none) Q E s:=by
 have hlt:l<s.heap.objs.size:=by obtain⟨o,ho,_⟩:=id hl;exact Heap.lt_size ho
 have ty:s.TypeIs (.ref l) "list":=by obtain⟨o,ho,hc,_⟩:=id hl;exact⟨o,ho,hc⟩
 unfold unpackItems notIterableAtAll
 refine wpAny_bind (wpAny_bind (wpAny_specialOf ty PySem.F.slot_list_iter.lookup ?_))
 refine wpAny_pure ?_
 refine wpAny_bind (wpAny_holding (wpAny_pyIter_list hl ?_))
 have W:=Walks.list (prog:=prog) (w:=w) (A:=A) hA s.heap.objs.size l (Nat.ne_of_lt hlt) items
 refine wpAny_bind (wpAny_holding (rG W items.size 0 _ _ ⟨⟨_,Heap.get?_push_size _ rfl,rfl,rfl⟩,hl.push _⟩ (by omega) fun h' tk st kp=> ?_))
 have e:((items.toList.drop 0).take items.size)=items.toList:=by rw[List.drop_zero];exact List.take_of_length_le (by simp)
 rw[e]
 rw[if_neg (by simp)]
 rw[Nat.zero_add]at st
 refine wpAny_bind (wpAny_holding (W.done _ _ E st fun h2 tk2 kp2=> ?_))
 refine wpAny_pure (k h2 tk2 fun b o hb eb=> ?_)
 have nb:b∉[s.heap.objs.size]:=fun z=>hb (List.mem_singleton.mp z)
 exact kp2 b o nb (kp b o nb (Heap.get?_push_of_some _ eb))
theorem mP {env:Env} {elts:List Expr} {x1:Nat} {pos:Pos} {l:Addr} {items:Array Value} {Q:Unit->Shared->Prop} (hA:A.handled=none) (hl:s.heap.IsList l items) (hn:(assignEach elts env).length=items.size) (hst:(assignEach elts env).findIdx? (·.1)=none)
  (k:∀(h':Heap) (tk:Nat),(∀b o,b≠s.heap.objs.size->s.heap.get? b=some o->h'.get? b=some o)->wpAny (model prog w) A (assignInOrder ((assignEach elts env).map (·.2)) items.toList) Q E {s with heap:=h',toks:=tk}):
  wpAny (model prog w) A (assign (.Tuple elts x1 pos) env (.ref l)) Q E s:=by
 rw[assign_Tuple]
 refine wpAny_bind (wpAny_standAt ?_)
 unfold unpack
 rw[hst,hn]
 exact wpAny_bind (wpAny_holding (nQ hA hl fun h' tk kp=>k h' tk kp))
end
section
variable {X:Cx} {pos:Pos}
def Iw (K:PySem.W.Frag) (n:Nat) (t:zt):TG:=fun v σ H Q=>∃a xs,v= .ref a/\fz K H a xs/\xs.length=n/\t xs σ H Q
theorem Ab {es:List Expr} {k:Nat} {t:zt} {n:Nat} (hc:X.calm=true) (h:zu X es t) (hn:(assignEach es X.env).length=n:=by rfl) (hst:(assignEach es X.env).findIdx? (·.1)=none:=by rfl):PG X (.Tuple es k pos) (Iw X.K n t):=by
 intro pins s σ H v u Q I r hw
 obtain⟨a,xs,e1,hq,hl,hw⟩:=hw
 subst e1
 cases r
 obtain⟨its,rv,ht,hz⟩:=I.list hq
 refine mP (I.ok.hd hc) ht.isList (by simp[hn,<-hl,rv.length]) hst fun h' tk hx=> ?_
 have I1:aM X pins σ H {s with heap:=h',toks:=tk}:=I.kept (t':=tk) fun b o e=>hx b o (Nat.ne_of_lt (Heap.lt_size e)) e
 exact h pins _ σ H xs _ Q I1 (by simpa using rv) hw
def Iy (K:PySem.W.Frag):V->Option Int->Option Int->Hp->VK->Prop:=fun x lo hi H Q=>∃a xs,x= .ref a/\iH K H a xs/\(HT.eF xs.length 0 lo=0/\HT.eF xs.length xs.length hi=xs.length)/\Q (.ref a) H
theorem lG {prog:Program} {w:World} {A:Around} {E:Value->Shared->Prop} {s:Shared} {t sl:Addr} {items:Array Value} {vl vu:Value} {lo hi:Option Int} {Q:Value->Shared->Prop} (ht:IsTup s.heap t items) (hs:s.heap.IsSliceOf sl vl vu .none) (pl:IsPart vl lo) (pu:IsPart vu hi)
  (hw:HT.eF items.size 0 lo=0/\HT.eF items.size items.size hi=items.size) (h:Q (.ref t) s):wpAny (model prog w) A (getItem (.ref t) (.ref sl)) Q E s:=by
 obtain⟨os,hos,hcs,hds⟩:=id hs
 have hTs:s.TypeIs (.ref sl) "slice":=⟨os,hos,hcs⟩
 unfold getItem
 try with_reducible refine wpAny_holding ?_
 first|refine wpAny_bind (wpAny_pure ?_)|skip
 refine wpAny_bind (wpAny_sequenceKey ht.typeIs (by decide) ?_)
 refine wpAny_bind (wpAny_callSpecial?_slot (name:=Str.ofString "__getitem__") ht.typeIs PyProof.Rows.slot_tuple_getitem
  (wpAny_call_entry PyProof.Rows.slot_tuple_getitem ht.typeIs entry_tuple_getitem ?_ (args_tuple_getitem _ _)))
 show wpAny _ _ (Builtin.Tuple.tupleItemsOf (.ref t)>>=_) _ _ s
 refine wpAny_bind (tupleItemsOf_ ht ?_)
 refine wpAny_bind (wpAny_typeOf hTs ?_)
 rw[if_pos (by decide)]
 refine wpAny_bind (HT.jA hs pl pu ?_)
 show wpAny _ _ (if (((HT.eF items.size 0 lo:Nat):Int)==0&&(1:Int)==1&&(HT.eF items.size items.size hi - HT.eF items.size 0 lo)==items.size)=true then _ else _) _ _ s
 rw[if_pos (by rw[hw.1,hw.2];simp)]
 unfold Builtin.Tuple.tupleIsExact
 refine wpAny_bind (wpAny_bind (wpAny_typeOf ht.typeIs (wpAny_pure ?_)))
 rw[if_pos (by decide)]
 refine wpAny_bind (wpAny_rule ?_)
 exact PySem.W.nd_pure ⟨_,rfl,wpAny_pure h⟩
theorem CN:DS X (Iy X.K):=by
 intro pins s σ H x v vl vu lo hi sl Q I rx hs pl pu h
 obtain⟨a,xs,rfl,hx,hw,q⟩:=h
 cases rx
 obtain⟨its,r,ht,hz⟩:=I.tuple hx
 have hlen:its.toArray.size=xs.length:=by rw[List.size_toArray];exact r.length.symm
 refine⟨"tuple",_,PyProof.Rows.slot_tuple_getitem.lookup,ht.typeIs,?_⟩
 exact lG ht hs pl pu (by rw[hlen];exact hw) ⟨.ref a,H,I,rfl,q⟩
theorem ue (l b:Addr) (items items2:Array Value) (n n2:Nat) (dd dd2:Option Addr) (sl sl2:Array (Option Value)) (h0:items.isEmpty=true):
  Meets (Builtin.«tuple.__add__» {pos:=[Value.ref l,Value.ref b]}) fun x R s=>
    s.heap.get? l=some {cls:=Value.type "tuple",dict:=dd,data:=Data.seq items n,slots:=sl}/\
     s.heap.get? b=some {cls:=Value.type "tuple",dict:=dd2,data:=Data.seq items2 n2,slots:=sl2}/\R (Except.ok (Flow.ret (Value.ref b))) s:=by
 intro prog w A R s ⟨g1,g2,q⟩
 have t1:IsTup s.heap l items:=⟨_,g1,rfl,n,rfl⟩
 have t2:IsTup s.heap b items2:=⟨_,g2,rfl,n2,rfl⟩
 unfold Builtin.«tuple.__add__»
 refine wpAny_bind (wpAny_pure (a:=(Value.ref l,[Value.ref b])) ?_)
 dsimp only
 refine wpAny_bind (wpAny_isInstance t2.typeIs sub_tuple_tuple ?_)
 rw[if_neg (by decide)]
 refine wpAny_bind (tupleItemsOf_ t1 (wpAny_bind (tupleItemsOf_ t2 ?_)))
 rw[if_pos h0]
 unfold Builtin.Tuple.tupleIsExact
 refine wpAny_bind (wpAny_bind (wpAny_typeOf t2.typeIs (wpAny_pure ?_)))
 rw[if_pos (by decide)]
 exact wpAny_bind (wpAny_rule (PySem.W.nd_pure q))
def DZ (K:PySem.W.Frag):R2:=fun x y H Q=>∃a b ys,x= .ref a/\y= .ref b/\iH K H a []/\iH K H b ys/\Q (.ref b) H
theorem CO:kG X (binaryOp .Add) (DZ X.K):=by
 intro pins s σ H x y v u Q I rx ry h
 obtain⟨a,b,ys,rfl,rfl,ha,hb,q⟩:=h
 cases rx
 cases ry
 obtain⟨its,r1,p1,_⟩:=I.tuple ha
 obtain⟨its2,r2,p2,_⟩:=I.tuple hb
 cases r1
 obtain⟨⟨cls,dd,data,sl⟩,ho,hc,n,hd⟩:=id p1
 obtain⟨⟨cls2,dd2,data2,sl2⟩,ho2,hc2,n2,hd2⟩:=id p2
 simp only at hc hd hc2 hd2
 subst hc hd hc2 hd2
 exact concat_meets ⟨_,ho,rfl⟩ ⟨_,ho2,rfl⟩ noFill_tuple_add seq_tuple_add PySem.F.slot_tuple_add PySem.F.entry_tuple_add (PySem.F.args_tuple_add_2 _ _)
   (ue a b _ _ n n2 dd dd2 sl sl2 rfl) ⟨ho,ho2,⟨.ref b,H,I,rfl,q⟩⟩
end
end L2
namespace L2
open PySem PySem.Spec PyProof.Rows
theorem cf.there {P:Program} {w:World} {H:Hp} {h:Heap} {a:Addr} {o:HO} (x:cf P w H h a o):∃ob,h.get? a=some ob:=by
 cases o with
 |lst xs=>obtain⟨_,_,_,_,e⟩:=x;exact⟨_,e⟩
 |tup xs=>obtain⟨_,_,_,o,e,_⟩:=x;exact⟨_,e⟩
 |dK kvs=>obtain⟨_,_,_,_,o,_,_,e,_⟩:=x;exact⟨_,e⟩
 |dT kvs=>obtain⟨_,_,_,_,o,_,_,e,_⟩:=x;exact⟨_,e⟩
 |set S n=>obtain⟨o,_,_,_,e,_⟩:=x;exact⟨_,e⟩
 |ins C dx fs=>obtain⟨_,_,_,e,_⟩:=x;exact⟨_,e⟩
 |own y=>obtain⟨_,e⟩:=x;exact⟨_,e⟩
 |xd fs=>obtain⟨_,⟨_,_,_,e,_⟩,_⟩:=x;exact⟨_,e⟩
 |rng lo hi=>obtain⟨_,_,_,e⟩:=x;exact⟨_,e⟩
 |frz ob u=>obtain⟨e,_⟩:=x;exact⟨_,e⟩
 |tbl ps=>exact⟨_,(show h.get? a=some _ from x)⟩
 |met f y=>exact⟨_,(show h.get? a=some _ from x)⟩
 |ext φ=>obtain⟨_,⟨_,e⟩,_⟩:=x;exact⟨_,e⟩
theorem kF.none_of {P:Program} {w:World} {H:Hp} {h:Heap} {a:Addr} (x:kF P w H h) (e:h.get? a=none):H a=none:=by
 cases q:H a with
 |none=>rfl
 |some o=>obtain⟨ob,z⟩:=(x a o q).there;rw[e]at z;cases z
structure vO (X:Cx) (pins:List (Addr×Obj)) (H:Hp) (b:Addr):Prop where
 s0:X.s₀.heap.get? b=none
 no:H b=none
 pin:∀p∈X.pn++pins,p.1≠b
structure Fj (X:Cx) (pins:List (Addr×Obj)) (H:Hp) (h:Heap) (a T:Addr):Prop where
 new:vO X pins H T
 ne:T≠a
 at_:∃oT ts,h.get? T=some oT/\oT.data= .fields ts/\ts[3]? =some .none
structure Fl (X:Cx) (pins:List (Addr×Obj)) (H:Hp) (h:Heap) (a:Addr) (cls:Value):Prop where
 new:vO X pins H a
 at_:∃oe vs,h.get? a=some oe/\oe.cls=cls/\oe.data= .fields vs/\(vs[1]? =some .none\/∃T,vs[1]? =some (.ref T)/\Fj X pins H h a T)
structure D_ (X:Cx) (pins:List (Addr×Obj)) (H:Hp) (h:Heap) (a:Addr) (cls:Value):Prop where
 new:vO X pins H a
 at_:∃oe vs,h.get? a=some oe/\oe.cls=cls/\oe.data= .fields vs/\∃T,vs[1]? =some (.ref T)/\Fj X pins H h a T
theorem D_.fl {X:Cx} {pins:List (Addr×Obj)} {H:Hp} {h:Heap} {a:Addr} {cls:Value} (f:D_ X pins H h a cls):Fl X pins H h a cls:=
 let ⟨oe,vs,h1,h2,h3,h4⟩:=f.at_;⟨f.new,oe,vs,h1,h2,h3, .inr h4⟩
section
variable {X:Cx} {pins:List (Addr×Obj)} {σ:St} {H H':Hp} {s s':Shared} {a:Addr} {cls:Value}
structure kz (X:Cx):Prop where
 st:X.stack=X.env::X.outer
 fr:X.env.frame=some X.env.locals
 ex:X.ex=[]
theorem vO.of (I:aM X pins σ H s) (p:kz X) {b:Addr} (h:s.heap.get? b=none) (hH:H' b=none):vO X pins H' b:=by
 refine⟨?_,hH,fun q hq z=> ?_⟩
 ·cases e:X.s₀.heap.get? b with
  |none=>rfl
  |some o=>
   obtain⟨o',e'⟩:=I.base.there b o e (by rw[p.ex];simp)
   rw[h]at e';cases e'
 ·have:=(I.pin q hq).1
  rw[z,h]at this;cases this
theorem _root_.PySem.Heap.TracedW.traced {h B:Heap} {a:Addr} {cls a0:Value} (t:h.TracedW B a cls a0):h.Traced B a cls:=
 let ⟨oe,vs,T,oT,ts,g1,g2,g3⟩:=t;⟨oe,vs,T,oT,ts,g1,g2.1,g3⟩
theorem nR (I:aM X pins σ H s) (p:kz X) (fl:Fl X pins H s.heap a cls):∃(B:Heap) (oe:Obj) (vs:Array Value),s.heap.get? a=some oe/\oe.cls=cls/\oe.data= .fields vs/\s.heap.FunFrames B (X.env::X.outer)/\B.StaysIn s.heap/\B.get? a=none/\
  (vs[1]? =some .none\/∃T oT ts,vs[1]? =some (.ref T)/\B.get? T=none/\T≠a/\s.heap.get? T=some oT/\oT.data= .fields ts/\ts[3]? =some .none)/\
  ∀h',B.StaysIn h'->h'.Traced B a cls->s.heap.UpToSlots h'->aM X pins σ H {s with heap:=h'}/\D_ X pins H h' a cls:=by
 obtain⟨oe,vs,ge,gc,gd,gt⟩:=fl.at_
 obtain⟨rest,hrest,hnext⟩:∃rest:List Addr,(∀b∈rest,vO X pins H b/\∃oT ts,s.heap.get? b=some oT/\oT.data= .fields ts)/\(vs[1]? =some .none\/∃T,vs[1]? =some (.ref T)/\Fj X pins H s.heap a T/\T∈rest):=by
  rcases gt with g|⟨T,g,t⟩
  ·exact⟨[],(fun b hb=>by cases hb), .inl g⟩
  ·obtain⟨oT,ts,e1,e2,_⟩:=t.at_
   exact⟨[T],fun b hb=>by rw[List.mem_singleton.mp hb];exact⟨t.new,oT,ts,e1,e2⟩, .inr ⟨T,g,t,List.mem_singleton.mpr rfl⟩⟩
 have fsub:∀b,b∈X.fs->b∈oV X.stack:=fun b hb=>by
  rw[p.st]
  unfold oV
  rw[List.filterMap_cons,p.fr]
  exact List.mem_cons_of_mem _ hb
 have lsub:X.env.locals∈oV X.stack:=by
  rw[p.st]
  unfold oV
  rw[List.filterMap_cons,p.fr]
  exact List.mem_cons_self
 have chN:∀b∈a::rest,vO X pins H b/\∃oT ts,s.heap.get? b=some oT/\oT.data= .fields ts:=fun b hb=>by
  rcases List.mem_cons.mp hb with rfl|hb
  ·exact⟨fl.new,oe,vs,ge,gd⟩
  ·exact hrest b hb
 have frD:∀b∈oV X.stack,∃o,s.heap.get? b=some o/\∀vs:Array Value,o.data≠Data.fields vs:=fun b hb=>(I.stack.mem hb).2
 have apart:∀b∈a::rest,b∉oV X.stack:=fun b hb z=>by
  obtain⟨_,o,ts,e1,e2⟩:=chN b hb
  obtain⟨o',e3,e4⟩:=frD b z
  rw[e1]at e3;cases e3
  exact e4 ts e2
 let hid:List Addr:=(a::rest)++oV X.stack
 let B:Heap:=PySem.W.hideAll s.heap hid
 have ff:s.heap.FunFrames B X.stack:=PySem.W.funFrames_hide I.stack fun env he b hb=>List.mem_append_right _ (List.mem_filterMap.mpr ⟨env,he,hb⟩)
 have hB:B.StaysIn s.heap:=fun b o e=>PySem.W.of_hideAll _ e
 have hBa:B.get? a=none:=PySem.W.hideAll_none _ (List.mem_append_left _ List.mem_cons_self)
 have ff':s.heap.FunFrames B (X.env::X.outer):=by rw[<-p.st];exact ff
 refine⟨B,oe,vs,ge,gc,gd,ff',hB,hBa,?_,fun h' st ⟨oe',vs',T',oT',ts',g1,g2,g3,g4,g5,g6,g7,g8,g9⟩ up=> ?_⟩
 ·rcases hnext with g|⟨T,g,t,hT⟩
  ·exact .inl g
  ·obtain⟨oT,ts,e1,e2,e3⟩:=t.at_
   exact .inr ⟨T,oT,ts,g,PySem.W.hideAll_none _ (List.mem_append_left _ (List.mem_cons_of_mem _ hT)),t.ne,e1,e2,e3⟩
 ·have inB:∀b o,s.heap.get? b=some o->b∉a::rest->b∉oV X.stack->h'.get? b=some o:=fun b o e n1 n2=>
   st b o (PySem.W.hideAll_get _ e fun z=>(List.mem_append.mp z).elim n1 n2)
  have newT:vO X pins H T':=by
   by_cases hr:T'∈rest
   ·exact(hrest T' hr).1
   ·have hn:s.heap.get? T'=none:=by
     cases e:s.heap.get? T' with
     |none=>rfl
     |some o=>
      by_cases hf:T'∈oV X.stack
      ·obtain⟨o',e3,e4⟩:=frD T' hf
       obtain⟨sl,e5⟩:=up T' o' e3 e4
       rw[g7]at e5;cases e5
       exact absurd g8 (e4 ts')
      ·have:=PySem.W.hideAll_get hid (b:=T') e fun z=>(List.mem_append.mp z).elim (fun q=>(List.mem_cons.mp q).elim g6 hr) hf
       rw[g5]at this;cases this
    exact vO.of I p hn (I.hok.none_of hn)
  refine⟨I.step (g':=s.gens) (d':=s.drawn) (t':=s.toks) (ch:=a::rest) (fun b hb=> ?_) (fun b o n1 n2 n3 e _=> ?_) (fun b o _ hb n3 e _=> ?_) (fun _ _ _ _ n=>n) (fun b o n e=> ?_) (fun _ _ e=>e) (fun _ _ _ e=>e) (fun b ps e=>⟨#[],by rw[e];simp⟩) (fun m hm=> ?_) (fun b u e=> ?_) I.bare,
   ⟨fl.new,oe',vs',g1,g2,g3,T',g4,newT,g6,oT',ts',g7,g8,g9⟩⟩
  ·obtain⟨n,o,ts,e1,e2⟩:=chN b hb
   refine⟨.inr n.s0,fun z=>apart b hb (by rw[z];exact lsub),fun x c hc z=> ?_,n.pin⟩
   obtain⟨v,o',e3,e4⟩:=I.cell x c hc
   rw[z,e1]at e3;cases e3
   rw[e2]at e4;cases e4
  ·exact inB b o e n3 fun z=>(List.mem_cons.mp (I.stkSub b z)).elim n1 n2
  ·obtain⟨o',e3,e4⟩:=frD b (fsub b hb)
   rw[e]at e3;cases e3
   exact up b o e e4
  ·by_cases hf:b∈oV X.stack
   ·obtain⟨o',e3,e4⟩:=frD b hf
    rw[e]at e3;cases e3
    obtain⟨sl,e5⟩:=up b o e e4
    exact⟨_,e5⟩
   ·exact⟨o,inB b o e n hf⟩
  ·obtain⟨o,es,ep,ho,hd,r⟩:=hm
   obtain⟨sl,e5⟩:=up _ o ho fun vs z=>by rw[hd]at z;cases z
   exact⟨_,es,ep,e5,hd,r⟩
  ·have nh:∀c v,H c=some v->c∉a::rest/\c∉oV X.stack:=fun c v hc=>⟨fun z=>(by have:=(chN c z).1.no;rw[hc]at this;cases this),fun z=>(by have:=I.stkFree c z;rw[hc]at this;cases this)⟩
   refine(I.hok b u e).stay (fun c v hc q=> ?_) (fun _ q=>q) fun _ _ q=>q
   rcases hc with z|z
   ·rw[z]at q ⊢;exact inB b v q (nh b u e).1 (nh b u e).2
   ·exact inB c v q (nh c _ z).1 (nh c _ z).2
theorem Ac {Q:Unit->Shared->Prop} {E:Value->Shared->Prop} (I:aM X pins σ H s) (p:kz X) (fl:Fl X pins H s.heap a cls)
  (k:∀h',aM X pins σ H {s with heap:=h'}->D_ X pins H h' a cls->Q () {s with heap:=h'}):wpAny (model X.prog X.w) X.A (leaving X.env (.ref a)) Q E s:=by
 obtain⟨B,oe,vs,ge,gc,gd,ff,hB,hBa,hn,hk⟩:=nR I p fl
 have hfr:X.A.frames=some (X.env::X.outer):=by rw[I.ok.frames,p.st]
 have go:∀h',B.Left (X.env::X.outer) a oe.cls s.heap h'->Q () {s with heap:=h'}:=fun h' ⟨st,_,tr,up⟩=>by
  rw[gc]at tr
  obtain⟨I',f'⟩:=hk h' st tr up
  exact k h' I' f'
 rcases hn with g|⟨T,oT,ts,g1,g2,g3,g4,g5,g6⟩
 ·exact wpAny_leaving_first hfr ff p.fr ge hB hBa gd g go
 ·exact wpAny_leaving_next (cls:=oe.cls) hfr ff p.fr ⟨oe,vs,T,oT,ts,ge,rfl,gd,g1,g2,g3,g4,g5,g6⟩ hB hBa go
theorem Ad {Q:Unit->Shared->Prop} {E:Value->Shared->Prop} (I:aM X pins σ H s) (p:kz X) (fl:Fl X pins H s.heap a cls)
  (k:∀h',aM X pins σ H {s with heap:=h'}->D_ X pins H h' a cls->Q () {s with heap:=h'}):
  wpAny (model X.prog X.w) X.A (noteFrame (.ref a) X.env) (fun _ s₂=>wpAny (model X.prog X.w) X.A (setFlight (.ref a) none) Q E s₂) E s:=by
 obtain⟨B,oe,vs,ge,gc,gd,ff,hB,hBa,hn,hk⟩:=nR I p fl
 have hfr:X.A.frames=some (X.env::X.outer):=by rw[I.ok.frames,p.st]
 have size1:1<vs.size:=by
  have:vs[1]? ≠none:=by
   rcases hn with g|⟨T,oT,ts,g1,_⟩
   ·rw[g];simp
   ·rw[g1];simp
  by_cases z:1<vs.size
  ·exact z
  ·exact absurd (Array.getElem?_eq_none (Nat.le_of_not_lt z)) this
 obtain⟨a0,h0⟩:∃a0,vs[0]? =some a0:=⟨vs[0]'(by omega),by simp⟩
 rcases hn with g|⟨T,oT,ts,g1,g2,g3,g4,g5,g6⟩
 ·unfold noteFrame
  rw[p.fr]
  refine wpAny_bind (wpAny_field (o:=oe) ge (by rw[gd]) g ?_)
  refine wpAny_newEntryW (head:= .none) (hadNext:=false) hfr ff p.fr ge hB hBa gd size1 h0 fun h' z_=> ?_
  obtain⟨st,_,tr,up⟩:=z_
  rw[gc]at tr
  obtain⟨I',f'⟩:=hk h' st tr.traced up
  exact k h' I' f'
 ·refine wpAny_looks_onW (cls:=cls) (a0:=a0) hfr p.fr ⟨hB,hBa,ff,oe,vs,T,oT,ts,ge,⟨gc,h0⟩,gd,g1,g2,g3,g4,g5,g6⟩ fun h1 held u1=> ?_
  refine wpAny_landsW held fun h2 ⟨st,_,_,tr⟩ u2=> ?_
  obtain⟨I',f'⟩:=hk h2 st tr.traced (u1.trans u2)
  exact k h2 I' f'
def J9 (g:Heap) (H:Hp) (h:Heap) (a:Addr) (cls:Value):Prop:=g.get? a=none/\H a=none/\∃oe vs T oT ts,h.get? a=some oe/\oe.cls=cls/\oe.data= .fields vs/\vs[1]? =some (.ref T)/\g.get? T=none/\H T=none/\T≠a/\
 h.get? T=some oT/\oT.data= .fields ts/\ts[3]? =some .none
def oY (P:Program) (w:World):vz:=fun outer H s E e s'=>∃a cls H',e= .ref a/\s'.os=s.os/\AllBare s'.gens/\Un (oV outer) [] H H' s.heap s'.heap/\kF P w H' s'.heap/\J9 s.heap H' s'.heap a cls/\E cls (some a) H'
theorem Fk {E:XK} {e:Value} (I:aM X pins σ H s) (p:kz X) (h:oY X.prog X.w X.stack H s E e s'):∃a cls H',e= .ref a/\aM X pins σ H' s'/\Fl X pins H' s'.heap a cls/\E cls (some a) H':=by
 obtain⟨a,cls,H',rfl,os,bare,un,hok,⟨n1,n2,oe,vs,T,oT,ts,g1,g2,g3,g4,g5,g6,g7,g8,g9,g10⟩,q⟩:=h
 refine⟨a,cls,H',rfl,I.call' os un hok bare (fun b hb=>by cases hb),⟨vO.of I p n1 n2,oe,vs,g1,g2,g3, .inr ⟨T,g4,vO.of I p g5 g6,g7,oT,ts,g8,g9,g10⟩⟩,q⟩
theorem pO {CX:vz} {P:Program} {w:World} {K:PySem.W.Frag} {mg:Str->Option Value} {base:Heap} {N:List Str} {qual:Str} {scope:Scope} {f:Addr} {cd:Value} {A:Around} {outer:List Env} {s:Shared} {H:Hp} {E:XK}:
  kz (kI CX P w K mg base N qual scope f cd A outer s H E):=⟨rfl,rfl,rfl⟩
theorem vP {P:Program} {w:World} {K:PySem.W.Frag} {mg:Str->Option Value} {base:Heap} {N:List Str} {qual:Str} {scope:Scope} {f:Addr} {cd:Value} {A:Around} {outer:List Env} {s0:Shared} {H0:Hp} {E:XK}
  (I:aM (kI (oY P w) P w K mg base N qual scope f cd A outer s0 H0 E) pins σ H s) (fl:Fl (kI (oY P w) P w K mg base N qual scope f cd A outer s0 H0 E) pins H s.heap a cls) (h:E cls (some a) H):
  (kI (oY P w) P w K mg base N qual scope f cd A outer s0 H0 E).xe (.ref a) s:=by
 refine Ac I pO fl fun h' I' f'=> ?_
 obtain⟨oe,vs,g1,g2,g3,T,g4,t⟩:=f'.at_
 obtain⟨oT,ts,g5,g6,g7⟩:=t.at_
 exact⟨a,cls,H,rfl,I'.os,I'.bare,I'.base,I'.hok,⟨f'.new.s0,f'.new.no,oe,vs,T,oT,ts,g1,g2,g3,g4,t.new.s0,t.new.no,t.ne,g5,g6,g7⟩,h⟩
end
end L2
namespace L2
open PySem PySem.Spec PyProof.Rows
theorem eI {α:Type} {M:Model} {A:Around} {t:Sem α} {r:α} {Q:α->Shared->Prop} {E:Value->Shared->Prop} {s:Shared} (l:PySem.W.Looks M s.heap t r) (q:Q r s):wpAny M A t Q E s:=l A Q E s (fun _ _ e=>e) q
theorem m8 {M:Model} {h:Heap} {x C:Addr} {ox:Obj} (e:h.get? x=some ox) (hc:ox.cls= .ref C):PySem.W.Looks M h (typeOf (.ref x)) (.ref C):=fun A Q E s k q=>
 wpAny_bind (wpAny_loadPart (k _ _ e) (wpAny_pure (by rw[hc];exact q)))
theorem vQ {prog:Program} {w:World} {A:Around} {s:Shared} {K:PySem.W.Frag} {x C:Addr} {R:Result->Shared->Prop} {ox:Obj} {tp:Value} (KX:K.In s.heap) (e:s.heap.get? x=some ox) (hc:ox.cls= .ref C) (hm:PySem.W.mroIn K C (.type "object")=some true)
  (q:R (.ok (.ret (.ref C))) s):codeAny (model prog w) A (.call (.builtin "getset_descriptor.__get__") {pos:=[.builtin "object.__class__", .ref x,tp]}) R s:=by
 refine codeAny_call_builtin PySem.W.KF.slot_gs.plain PySem.W.KF.entry_gs ?_
 refine PySem.W.KF.slot_gs.check _ _ _ _ _ _ _ _ PySem.W.KF.type_class (PySem.W.KF.args_gs _ _ _) ?_
 show wpAny _ _ (Builtin.Getset_descriptor.descrGet _) _ _ _
 unfold Builtin.Getset_descriptor.descrGet
 rw[PySem.W.dga_obj]
 refine wpAny_bind (wpAny_pure ?_)
 dsimp only
 unfold Builtin.Getset_descriptor.descrGetter
 dsimp only
 unfold Builtin.Getset_descriptor.descrCheckInstance Builtin.Getset_descriptor.descrNameAndClass
 dsimp only
 rw[PySem.W.KF.owner_class]
 refine wpAny_bind (wpAny_bind (wpAny_pure ?_))
 refine wpAny_bind (wpAny_bind (eI (m8 e hc) (eI (PySem.W.looks_mroIn KX hm) ?_)))
 refine wpAny_pure ?_
 refine PySem.W.nd_pure ⟨Code.quiet_builtin _ (by decide+kernel),codeAny_builtin PySem.W.KF.entry_class ?_⟩
 show wpAny _ _ (do let t<-shownTypeOf (.ref x);ret t) _ _ _
 unfold shownTypeOf
 refine wpAny_bind (wpAny_bind (eI (m8 e hc) ?_))
 rw[if_neg (by intro z;exact absurd z (by simp))]
 exact wpAny_pure (PySem.W.nd_pure q)
theorem CP {prog:Program} {w:World} {A:Around} {E:Value->Shared->Prop} {s:Shared} {K:PySem.W.Frag} {x C:Addr} {ox:Obj} {Q:Option Value->Shared->Prop} (KX:K.In s.heap) (e:s.heap.get? x=some ox) (hc:ox.cls= .ref C)
  (h1:PySem.W.findIn K (.ref C) "__getattribute__"=some (some (.builtin "BaseException.__getattribute__"))) (h2:PySem.W.findIn K (.ref C) "__getattr__"=some none) (h3:PySem.W.findIn K (.ref C) "__class__"=some (some (.builtin "object.__class__")))
  (h4:PySem.W.specialIn K (.builtin "object.__class__") "__get__"=some (some (.builtin "getset_descriptor.__get__"))) (h5:PySem.W.takesIn K (.builtin "object.__class__")=some true) (h6:PySem.W.mroIn K C (.type "object")=some true) (h7:PySem.W.mroIn K C (.type "BaseException")=some true)
  (q:Q (some (.ref C)) {s with toks:=s.toks+1}):wpAny (model prog w) A (getAttr? (.ref x) "__class__") Q E s:=by
 unfold getAttr?
 refine wpAny_bind (wpAny_mkText ?_)
 unfold getAttrBy?
 refine wpAny_bind (wpAny_attempt ?_)
 unfold getAttrBy
 refine wpAny_holding (wpAny_bind (eI (m8 e hc) (wpAny_bind (eI (PySem.W.looks_findIn KX h1) ?_))))
 dsimp only
 rw[if_neg (by rw[show (Value.builtin "BaseException.__getattribute__"==Value.builtin "object.__getattribute__")=false by decide+kernel,Bool.and_false];simp)]
 unfold getAttrByItsOwn hookBefore
 refine wpAny_bind ?_
 rw[if_pos (by rfl)]
 refine eI (PySem.W.looks_findIn KX h2) ?_
 refine wpAny_bind (wpAny_attempt (wpAny_holding ?_))
 unfold callGetattribute
 rw[if_neg (by simp)]
 unfold boundAndCalled
 rw[F.attrBase_ValueError.ga.bind]
 refine wpAny_bind (wpAny_pure ?_)
 dsimp only
 refine wpAny_call (codeAny_call_builtin F.attrBase_ValueError.ga.plain F.entry_bexc_ga ?_)
 show wpAny _ _ (checkBuiltinCall "BaseException.__getattribute__" {pos:=Value.ref x::[Value.str (Str.ofString "__class__") s.toks],kw:=[]}) _ _ _
 refine PySem.W.check_slot (i:="BaseException.__getattribute__") (owner:="BaseException") (n:="__getattribute__") PySem.wpAny_check_ga_own._proof_1_1 PySem.wpAny_check_ga_own._proof_1_2 (fun A Q E s k q=>wpAny_bind (m8 e hc A _ E s k (PySem.W.looks_mroIn KX h7 A _ E s k q))) (F.args_bexc_ga _ _) ?_
 unfold Builtin.«object.__getattribute__»
 refine wpAny_bind (wpAny_pure (a:=(Value.ref x,[Value.str (Str.ofString "__class__") s.toks])) ?_)
 dsimp only
 refine wpAny_bind (wpAny_pure (a:=Str.ofString "__class__") ?_)
 refine wpAny_bind (eI (m8 e hc) ?_)
 refine wpAny_bind ?_
 unfold Builtin.ObjectAttr.find
 refine wpAny_bind (eI (PySem.W.looks_findIn KX h3) ?_)
 refine wpAny_bind ?_
 show wpAny _ _ (specialOf _ _) _ _ _
 refine eI (PySem.W.looks_specialIn KX h4) ?_
 refine wpAny_bind ?_
 show wpAny _ _ (do let b<-Builtin.ObjectAttr.takesStores (Value.builtin "object.__class__");if b=true then pure (some (Value.builtin "getset_descriptor.__get__",Value.builtin "object.__class__"))else pure none) _ _ _
 refine wpAny_bind (eI (PySem.W.looks_takesIn KX h5) ?_)
 rw[if_pos rfl]
 refine wpAny_pure ?_
 dsimp only
 refine wpAny_bind (wpAny_rule (wpAny_pure ?_))
 dsimp only
 unfold Builtin.ObjectAttr.bindTo
 dsimp only
 refine wpAny_bind (wpAny_holding (wpAny_call (vQ KX e hc h6 ?_)))
 refine PySem.W.nd_pure ?_
 exact PySem.W.handed_on (by rfl) (wpAny_pure q)
def vR:List Value:=[.type "ValueError", .type "Exception", .type "BaseException", .type "object"]
structure qO (K:PySem.W.Frag) (C:Addr):Prop where
 exc:∃newId Bn inN bmN,PySem.W.excIn K C vR newId=true/\ExcBaseFacts Bn newId inN bmN/\vR.contains (.type Bn)=true
 ga:PySem.W.findIn K (.ref C) "__getattribute__"=some (some (.builtin "BaseException.__getattribute__"))
 gt:PySem.W.findIn K (.ref C) "__getattr__"=some none
 kc:PySem.W.findIn K (.ref C) "__class__"=some (some (.builtin "object.__class__"))
 sp:PySem.W.specialIn K (.builtin "object.__class__") "__get__"=some (some (.builtin "getset_descriptor.__get__"))
 tk:PySem.W.takesIn K (.builtin "object.__class__")=some true
 mo:PySem.W.mroIn K C (.type "object")=some true
 mb:PySem.W.mroIn K C (.type "BaseException")=some true
 kk:PySem.W.kitCls K (.ref C) (.ref C)=some true
theorem xf {K:PySem.W.Frag} {h:Heap} {C:Addr} {bmB:List Value} {newId:String} (KX:K.In h) (e:PySem.W.excIn K C bmB newId=true):∃bm N nm q bs hdct sn sub ab col dd k0 k1 k2 k3 k5 mN,
  h.get? C=some (excClassObj nm q C N bs bm hdct sn sub ab col dd k0 k1 k2 k3 k5 newId)/\h.Ns N mN/\mN (Str.ofString "__init__")=none/\OwnTail h bmB bm:=by
 unfold PySem.W.excIn at e
 split at e
 ·split at e
  ·rename_i dd cd sl lk _ _ C' bm k0 k1 k2 k3 n k5 e1 e2
   simp only[Bool.and_eq_true]at e
   obtain⟨⟨⟨⟨⟨a1,a2⟩,a3⟩,a4⟩,a5⟩,a6⟩:=e
   have b1:C'=C:=eq_of_beq a1
   have b2:n=newId:=eq_of_beq a2
   subst b1 b2
   have g:=KX _ _ lk
   have esl:sl= #[k0,k1,k2,k3,some (Value.builtin n),k5]:=by rw[<-Array.toList_inj];exact e2
   have hdel:cd.hasDel=false:=by simpa using a3
   obtain⟨nm,bs,mro,N,q,hd,sn,sb,ab,col,del⟩:=cd
   dsimp only at e1 hdel a4 a5 a6
   subst e1 esl hdel
   exact⟨bm,N,nm,q,bs,hd,sn,sb,ab,col,dd,k0,k1,k2,k3,k5,_,g,Heap.Ns.of_isNs (PySem.W.isNs_of_in KX a5),PySem.W.nsMap_none_of_in KX a5 (eq_of_beq a6),PySem.W.tail_of_in KX a4⟩
  ·cases e
 ·cases e
theorem Ae {K:PySem.W.Frag} {x C:Addr} (k:qO K C):PySem.W.KitX K (.ref x) (.ref C) fun h=>∃ox,h.get? x=some ox/\ox.cls= .ref C where
 ty:=fun M h _ ⟨ox,e,hc⟩=>m8 e hc
 it:=fun M h KX _=>(PySem.W.kit_cls KX k.kk).2.1
 ne:=fun h tp dd its n sl KX e=>by
  cases z:(Value.ref C==Value.ref tp)with
  |false=>rfl
  |true=>
   have ez:Value.ref C=Value.ref tp:=eq_of_beq z
   cases ez
   obtain⟨newId,_,_,_,ei,_⟩:=k.exc
   obtain⟨bm,N,nm,q,bs,hd,sn,sb,ab,col,dd,k0,k1,k2,k3,k5,mN,g,_⟩:=xf KX ei
   rw[e]at g
   exact absurd (congrArg Obj.data (Option.some.inj g)) (fun z=>by cases z)
 ca:=fun {prog w A E Q s} KX ⟨ox,e,hc⟩ q=>CP KX e hc k.ga k.gt k.kc k.sp k.tk k.mo k.mb q
end L2
namespace L2
open PySem PySem.Spec PyProof.Rows
section
variable {X:Cx} {pins:List (Addr×Obj)} {σ:St} {H:Hp} {s:Shared} {a:Addr} {cls:Value} {x:Str} {np cpos pos:Pos} {e:Expr} {es:List Expr} {t:TA} {C:Addr}
def Af (X:Cx) (C:Addr) (t:TA):TS:=fun _ σ H=>t σ H fun vs H1=>vs.length<=sizeLine/\∀pins s a,aM X pins σ H1 s->Fl X pins H1 s.heap a (.ref C)->X.xe (.ref a) s
theorem CQ {h':Heap} {vs:List Value} (I:aM X pins σ H s) (p:kz X) (m:s.heap.MadeExcOf h' a cls vs):aM X pins σ H {s with heap:=h'}/\Fl X pins H h' a cls:=by
 obtain⟨tp,g1,g2,g3⟩:=m.there
 exact⟨I.kept (t':=s.toks) m.keeps,vO.of I p m.new (I.hok.none_of m.new),_,_,g1,rfl,rfl, .inl rfl⟩
theorem Ag (k:qO X.K C) (hm:X.mg x=some (.ref C)) (p:kz X) (hc:X.calm=true) (ha:PA X (e::es) t) (hg:Gl X x:=by rfl) (hdb:(x==("__debug__":Str))=false:=by decide)
  (he:starEach (e::es) X.env=(false,eval e X.env)::starEach es X.env:=by rfl) (hpl:(backTo cpos (starEach es X.env)).any (·.1)=false:=by rfl):PS X (.Raise (some (.Call (.Name x np) (e::es) [] cpos)) none pos) (Af X C t):=by
 intro pins s σ H D I h
 obtain⟨newId,Bn,inN,bmN,ei,fB,hB⟩:=k.exc
 obtain⟨bm,N,nm,q,bs,hd,sn,sb,ab,col,dd,k0,k1,k2,k3,k5,mN,g,ns,ni,tl⟩:=xf I.ok.mod.kin ei
 have hcons:backTo cpos (starEach (e::es) X.env)=(false,eval e X.env)::backTo cpos (starEach es X.env):=by rw[he];rfl
 refine wpAny_Raise_call_subU (nm:=nm) (q:=q) (C:=C) (N:=N) (bs:=bs) (hdct:=hd) (sn:=sn) (sub:=sb) (ab:=ab) (col:=col) (dd:=dd) (k0:=k0) (k1:=k1) (k2:=k2) (k3:=k3) (k5:=k5) fB hB F.excBase_ValueError (tl.hasType (by decide)) (I.ok.hd hc) (by rw[hcons];exact hpl) ni (mH I hg hm ⟨rfl,?_⟩ hdb)
 rw[hcons]
 refine Calls.evalArgs_plain ?_
 rw[<-hcons]
 refine cP (ha cpos pins s σ H _ I h) fun us s1 ⟨vs,H1,I1,r,z,q1⟩=>⟨rfl,by rw[<-r.length];exact z,I1.bk _ _ g,ns.keeps I1.bk,tl.keeps I1.bk,fun h' a m=> ?_⟩
 obtain⟨I2,f2⟩:=CQ I1 p m
 exact q1 pins _ a I2 f2
abbrev Cx.inH (X:Cx) (v:Value):Cx:={X with A:=X.A.mark (some v),calm:=false,xe:=fun _ _=>False}
theorem Cx.Ok.inH {v:Value} (ok:X.Ok):(X.inH v).Ok:=⟨ok.mod,ok.kind,ok.glob,ok.blt,ok.above,ok.inj,ok.has,ok.cab,(fun z=>by cases z),ok.frames,ok.stk,ok.exf,ok.bs,ok.bsz,ok.noex,ok.exfs,ok.funs,ok.frf⟩
theorem aM.inH {v:Value} (I:aM X pins σ H s):aM (X.inH v) pins σ H s:=⟨I.ok.inH,I.os,I.bare,I.base,I.loc,I.cell,I.free,I.freeC,I.pin,I.hok,I.len⟩
theorem aM.outH {v:Value} (ok:X.Ok) (I:aM (X.inH v) pins σ H s):aM X pins σ H s:=⟨ok,I.os,I.bare,I.base,I.loc,I.cell,I.free,I.freeC,I.pin,I.hok,I.len⟩
theorem aM.track {o:HO} {oa:Obj} {vs:Array Value} (I:aM X pins σ H s) (n:vO X pins H a) (ga:s.heap.get? a=some oa) (gd:oa.data= .fields vs) (new:cf X.prog X.w (bY H a o) s.heap a o):aM X pins σ (bY H a o) s:=by
 have ne:∀b u,H b=some u->b≠a:=fun b u e z=>by rw[z,n.no]at e;cases e
 have neL:X.env.locals≠a:=fun z=>by
  obtain⟨m,⟨o,es,ep,ho,hd,_⟩,_⟩:=I.loc
  rw[z,ga]at ho;cases ho
  rw[gd]at hd;cases hd
 have neC:∀y c,X.env.cells.lookup y=some c->c≠a:=fun y c e z=>by
  obtain⟨v,o,ho,hd⟩:=I.cell y c e
  rw[z,ga]at ho;cases ho
  rw[gd]at hd;cases hd
 refine⟨I.ok,I.os,I.bare,⟨I.base.keep,I.base.slot,fun b o e n' hx=> ?_,I.base.there,fun b xs e=> ?_,fun b o u e=> ?_,fun b ps e=> ?_⟩,I.loc,I.cell,by rw[aD neL];exact I.free,fun y c e=>by rw[aD (neC y c e)];exact I.freeC y c e,fun p hp=> ?_,fun b u e=> ?_,I.len⟩
 ·rw[aD (fun z=>by rw[z,n.s0]at e;cases e)];exact I.base.free b o e n' hx
 ·have q:=I.base.tups b xs e
  rw[aD (ne b _ q)];exact q
 ·have q:=I.base.frzs b o u e
  rw[aD (ne b _ q)];exact q
 ·obtain⟨more,q⟩:=I.base.tbls b ps e
  exact⟨more,by rw[aD (ne b _ q)];exact q⟩
 ·obtain⟨e,n',r⟩:=I.pin p hp
  exact⟨e,by rw[aD (n.pin p hp)];exact n',r⟩
 ·by_cases z:b=a
  ·subst z;rw[aC]at e;cases e;exact new
  ·rw[aD z]at e
   refine(I.hok b u e).stay (fun _ _ _ q=>q) (fun c q=> ?_) fun c xs q=> ?_
   ·rw[aD (ne c _ q)];exact q
   ·rw[aD (ne c _ q)];exact q
theorem yp {M:Model} {A:Around} {E:Value->Shared->Prop} {i:Nat} {n:Str} {Q:Unit->Shared->Prop} (I:aM X pins σ H s) (hN:X.N.Nodup) (hi:X.N[i]? =some n) (hk:X.env.kindOf n=some .local)
  (k:∀s',aM X pins (σ.set i none) H s'->Q () s'):wpAny M A (do bindName X.env n Value.none;unbindBehindTheSuite X.env n pos) Q E s:=by
 obtain⟨m,hn,hl⟩:=id I.loc
 refine wpAny_nameGoes_keeps hk hn (by rw[I.ok.kind];rfl) fun h' v hn' hs=>k _ ?_
 have neL:∀b o,X.s₀.heap.get? b=some o->b≠X.env.locals:=fun b o e=>Nat.ne_of_lt (Nat.lt_of_lt_of_le (Heap.lt_size e) I.ok.above)
 refine⟨I.ok,I.os,I.bare,⟨fun b o e n hb hx=>(hs.2 b (neL b o e)).trans (I.base.keep b o e n hb hx),fun b o e n hb hx=> ?_,I.base.free,fun b o e hx=> ?_,I.base.tups,I.base.frzs,I.base.tbls⟩,⟨_,hn',fun j y v' e1 e2 e3=> ?_⟩,fun y c e=> ?_,I.free,I.freeC,fun p hp=> ?_,fun b u e=> ?_,by simpa using I.len⟩
 ·obtain⟨sl,e1⟩:=I.base.slot b o e n hb hx
  exact⟨sl,(hs.2 b (neL b o e)).trans e1⟩
 ·obtain⟨o',e1⟩:=I.base.there b o e hx
  exact⟨o',(hs.2 b (neL b o e)).trans e1⟩
 ·by_cases hj:j=i
  ·subst hj
   rw[List.getElem?_set]at e2
   split at e2
   ·split at e2<;>cases e2
   ·exact absurd rfl ‹_›
  ·rw[List.getElem?_set_ne (Ne.symm hj)]at e2
   obtain⟨u',r',q⟩:=hl j y v' e1 e2 e3
   refine⟨u',r',?_⟩
   have ny:y≠n:=fun e=>hj (pb hN e1 (e▸hi))
   rcases q with ⟨k,e⟩|⟨k,c,e,z⟩
   ·exact .inl ⟨k,by show (if y=n then v else m y)=_;rw[if_neg ny];exact e⟩
   ·exact .inr ⟨k,c,e,z.sameBut hs (I.cne y c e)⟩
 ·obtain⟨w',z⟩:=I.cell y c e
  exact⟨w',z.sameBut hs (I.cne y c e)⟩
 ·obtain⟨e,n,ne,nf,d⟩:=I.pin p hp
  exact⟨(hs.2 p.1 ne).trans e,n,ne,nf,d⟩
 ·refine(I.hok b u e).stay (fun c v hc q=>(hs.2 c ?_).trans q) (fun _ q=>q) fun _ _ q=>q
  rintro rfl
  have:=I.free
  rcases hc with z|z
  ·rw[<-z,this]at e;cases e
  ·rw[this]at z;cases z
def jC (a:Addr) (cls:Value):Heap->Prop:=fun h=>∃o,h.get? a=some o/\o.cls=cls
theorem yq {P:Program} {w:World} {h:Heap} (e:jC a cls h):cf P w H h a (.ext (jC a cls)):=by
 obtain⟨o,h1,h2⟩:=e
 exact⟨⟨o,h1,h2⟩,⟨o,h1⟩,fun g1 g2 ⟨o',e1,e2⟩ k=>⟨o',k _ e1,e2⟩⟩
theorem Fn (I:aM X pins σ H s) (p:kz X) (fl:D_ X pins H s.heap a cls) {Q:Unit->Shared->Prop} {E:Value->Shared->Prop} {A:Around}
  (k:∀h',aM X pins σ H {s with heap:=h'}->D_ X pins H h' a cls->Q () {s with heap:=h'}):wpAny (model X.prog X.w) A (setFlight (.ref a) none) Q E s:=by
 obtain⟨B,oe,vs,ge,gc,gd,ff,hB,hBa,hn,hk⟩:=nR I p fl.fl
 rcases hn with g|⟨T,oT,ts,g1,g2,g3,g4,g5,g6⟩
 ·obtain⟨oe',vs',e1,e2,e3,T,e4,_⟩:=fl.at_
  rw[ge]at e1;cases e1
  rw[gd]at e3;cases e3
  rw[g]at e4;cases e4
 ·have size1:1<vs.size:=by
   by_cases z:1<vs.size
   ·exact z
   ·rw[Array.getElem?_eq_none (Nat.le_of_not_lt z)]at g1;cases g1
  obtain⟨a0,h0⟩:∃a0,vs[0]? =some a0:=⟨vs[0]'(by omega),by simp⟩
  refine lands_againW (base:=B) (l:=X.env::X.outer) (cls:=cls) (a0:=a0) ⟨hB,hBa,ff,oe,vs,T,oT,ts,ge,⟨gc,h0⟩,gd,g1,g2,g3,g4,g5,g6⟩ fun h2 ⟨st,_,_,tr⟩ up=> ?_
  obtain⟨I',f'⟩:=hk h2 st tr.traced up
  exact k h2 I' f'
theorem yr {Cx':Addr} {cx n:Str} {i:Nat} {hpos:Pos} {b₀:Stmt} {suite:List Stmt} {rest:List ExceptHandler} {Q:Flow->Shared->Prop} {E:Value->Shared->Prop} (I:aM X pins σ H s) (p:kz X) (fl:D_ X pins H s.heap a (.ref C)) (hN:X.N.Nodup) (hi:X.N[i]? =some n)
  (hk:X.env.scope.names.lookup n=some .local) (hg:Gl X cx) (hm:X.mg cx=some (.ref Cx')) (hx:PySem.W.exmOne X.K (.ref C) (.ref Cx')=some true) (hdb:(cx==("__debug__":Str))=false)
  (k:∀s',aM (X.inH (.ref a)) pins (σ.set i (some (.ref a))) (bY H a (.ext (jC a (.ref C)))) s'->
   wpAny (model X.prog X.w) (X.inH (.ref a)).A (execs (b₀::suite) X.env) (fun f s3=>wpAny (model X.prog X.w) X.A (do bindName X.env n Value.none;unbindBehindTheSuite X.env n hpos) (fun _ s5=>Q f s5) E s3) (fun _ _=>False) s'):
  wpAny (model X.prog X.w) X.A (handleBy (.ref a) X.env (.ExceptHandler (some (.Name cx np)) (some n) (b₀::suite) hpos::rest)) Q E s:=by
 refine wpAny_handleBy_cons (codeAny_handlers_test ?_) (by intro z;cases z)
 refine mH (X:=X.inH (.ref a)) I.inH hg hm ?_ hdb
 obtain⟨oe,vs,ge,gc,gd,_⟩:=fl.at_
 refine eI (PySem.W.exm_one I.kIn (m8 ge gc) hx) ?_
 rw[if_pos rfl]
 refine codeAny_handlers_suite_as ?_
 refine Fn I p fl fun h2 I2 f2=> ?_
 obtain⟨oe,vs,ge,gc,gd,_⟩:=f2.at_
 have I3:aM X pins σ (bY H a (.ext (jC a (.ref C)))) {s with heap:=h2}:=I2.track f2.new ge gd (yq ⟨oe,ge,gc⟩)
 refine kH (X:=X.inH (.ref a)) I3.inH hN hi (.inl hk) (v:= .ref a) rfl (fun s' I'=> ?_) (.inr hk)
 exact wpAny_mono (k s' I') (fun f s3 q=>q) fun _ _ z=>z.elim
end
end L2
namespace L2.Pu
open PySem PySem.Spec PyProof.Rows
structure jn where
 x:Nat
 C:Addr
 fl:List (Str×Nat)
variable {ly:List jn}
inductive D where
 |non|bl (b:Bool)|int (i:Int)|str (x:Str)|tup (ds:List D)|lst (ds:List D)|dic (kds:List (bx×D))|ins (x:Str) (fs:List (Str×D))|scr (ns:List Int)|exc (x:Str)
mutual
inductive fF (K:PySem.W.Frag) (F:Hp):V->D->Prop
 |non:fF K F .non .non
 |bl (b:Bool):fF K F (.bl b) (.bl b)
 |int (i:Int):fF K F (.int i) (.int i)
 |str (x:Str):fF K F (.str x) (.str x)
 |tup {a:Addr} {vs:List V} {ds:List D}:F a=some (.tup vs)->Reps K F vs ds->fF K F (.ref a) (.tup ds)
 |lst {a:Addr} {vs:List V} {ds:List D}:F a=some (.lst vs)->Reps K F vs ds->fF K F (.ref a) (.lst ds)
 |scr {a:Addr} {ns:List Int}:fz K F a (ns.map V.int)->fF K F (.ref a) (.scr ns)
 |dic {a:Addr} {kvs:List (bx×V)} {kds:List (bx×D)}:F a=some (.dK kvs)->RepK K F kvs kds->(kvs.map (·.1)).Nodup->fF K F (.ref a) (.dic kds)
 |ins {a C dx:Addr} {x:Str} {fs vs:List (Str×V)} {fds:List (Str×D)}:F a=some (.ins C dx fs)->F dx=some (.own a)->PySem.W.nsIn K mainGlobals x=some (some (.ref C))->(∀p∈vs,fs.lookup p.1=some p.2)->(∀f v,fs.lookup f=some v->f∈vs.map (·.1))->RepF K F vs fds->fF K F (.ref a) (.ins x fds)
 |exc {a C:Addr} {x:Str}:F a=some (.ext (jC a (.ref C)))->PySem.W.nsIn K mainGlobals x=some (some (.ref C))->fF K F (.ref a) (.exc x)
inductive Reps (K:PySem.W.Frag) (F:Hp):List V->List D->Prop
 |nil:Reps K F [] []
 |cons {v:V} {d:D} {vs:List V} {ds:List D}:fF K F v d->Reps K F vs ds->Reps K F (v::vs) (d::ds)
inductive RepK (K:PySem.W.Frag) (F:Hp):List (bx×V)->List (bx×D)->Prop
 |nil:RepK K F [] []
 |cons {k:bx} {v:V} {d:D} {vs:List (bx×V)} {ds:List (bx×D)}:fF K F v d->RepK K F vs ds->RepK K F ((k,v)::vs) ((k,d)::ds)
inductive RepF (K:PySem.W.Frag) (F:Hp):List (Str×V)->List (Str×D)->Prop
 |nil:RepF K F [] []
 |cons {k:Str} {v:V} {d:D} {vs:List (Str×V)} {ds:List (Str×D)}:fF K F v d->RepF K F vs ds->RepF K F ((k,v)::vs) ((k,d)::ds)
end
theorem mQ {K:PySem.W.Frag} {F F':Hp} {a:Addr} {xs:List V} (e:bw F F') (h:fz K F a xs):fz K F' a xs:=e.seq h
theorem fF.mono {K:PySem.W.Frag} {F F':Hp} (e:bw F F') {v:V} {d:D} (h:fF K F v d):fF K F' v d:=
 fF.rec (motive_1:=fun v d _=>fF K F' v d) (motive_2:=fun v d _=>Reps K F' v d) (motive_3:=fun v d _=>RepK K F' v d) (motive_4:=fun v d _=>RepF K F' v d) .non .bl .int .str (fun h _ r=> .tup (e _ _ h) r) (fun h _ r=> .lst (e _ _ h) r) (fun h=> .scr (mQ e h)) (fun h _ n r=> .dic (e _ _ h) r n) (fun h h2 n l1 l2 _ r=> .ins (e _ _ h) (e _ _ h2) n l1 l2 r) (fun h n=> .exc (e _ _ h) n) .nil (fun _ _ a b=> .cons a b) .nil (fun _ _ a b=> .cons a b) .nil (fun _ _ a b=> .cons a b) h
theorem Reps.mono {K:PySem.W.Frag} {F F':Hp} (e:bw F F') {v:List V} {d:List D} (h:Reps K F v d):Reps K F' v d:=
 Reps.rec (motive_1:=fun v d _=>fF K F' v d) (motive_2:=fun v d _=>Reps K F' v d) (motive_3:=fun v d _=>RepK K F' v d) (motive_4:=fun v d _=>RepF K F' v d) .non .bl .int .str (fun h _ r=> .tup (e _ _ h) r) (fun h _ r=> .lst (e _ _ h) r) (fun h=> .scr (mQ e h)) (fun h _ n r=> .dic (e _ _ h) r n) (fun h h2 n l1 l2 _ r=> .ins (e _ _ h) (e _ _ h2) n l1 l2 r) (fun h n=> .exc (e _ _ h) n) .nil (fun _ _ a b=> .cons a b) .nil (fun _ _ a b=> .cons a b) .nil (fun _ _ a b=> .cons a b) h
theorem RepK.mono {K:PySem.W.Frag} {F F':Hp} (e:bw F F') {v:List (bx×V)} {d:List (bx×D)} (h:RepK K F v d):RepK K F' v d:=
 RepK.rec (motive_1:=fun v d _=>fF K F' v d) (motive_2:=fun v d _=>Reps K F' v d) (motive_3:=fun v d _=>RepK K F' v d) (motive_4:=fun v d _=>RepF K F' v d) .non .bl .int .str (fun h _ r=> .tup (e _ _ h) r) (fun h _ r=> .lst (e _ _ h) r) (fun h=> .scr (mQ e h)) (fun h _ n r=> .dic (e _ _ h) r n) (fun h h2 n l1 l2 _ r=> .ins (e _ _ h) (e _ _ h2) n l1 l2 r) (fun h n=> .exc (e _ _ h) n) .nil (fun _ _ a b=> .cons a b) .nil (fun _ _ a b=> .cons a b) .nil (fun _ _ a b=> .cons a b) h
theorem RepF.mono {K:PySem.W.Frag} {F F':Hp} (e:bw F F') {v:List (Str×V)} {d:List (Str×D)} (h:RepF K F v d):RepF K F' v d:=
 RepF.rec (motive_1:=fun v d _=>fF K F' v d) (motive_2:=fun v d _=>Reps K F' v d) (motive_3:=fun v d _=>RepK K F' v d) (motive_4:=fun v d _=>RepF K F' v d) .non .bl .int .str (fun h _ r=> .tup (e _ _ h) r) (fun h _ r=> .lst (e _ _ h) r) (fun h=> .scr (mQ e h)) (fun h _ n r=> .dic (e _ _ h) r n) (fun h h2 n l1 l2 _ r=> .ins (e _ _ h) (e _ _ h2) n l1 l2 r) (fun h n=> .exc (e _ _ h) n) .nil (fun _ _ a b=> .cons a b) .nil (fun _ _ a b=> .cons a b) .nil (fun _ _ a b=> .cons a b) h
section
variable {K:PySem.W.Frag} {F:Hp}
def Ah (K:PySem.W.Frag) (F:Hp) (v:V):D->Prop
 | .non=>v= .non
 | .bl b=>v= .bl b
 | .int i=>v= .int i
 | .str x=>v= .str x
 | .tup ds=>∃a vs,v= .ref a/\F a=some (.tup vs)/\Reps K F vs ds
 | .lst ds=>∃a vs,v= .ref a/\F a=some (.lst vs)/\Reps K F vs ds
 | .scr ns=>∃a,v= .ref a/\fz K F a (ns.map V.int)
 | .dic kds=>∃a kvs,v= .ref a/\F a=some (.dK kvs)/\RepK K F kvs kds/\(kvs.map (·.1)).Nodup
 | .ins x fds=>∃a C dx fs vs,v= .ref a/\F a=some (.ins C dx fs)/\PySem.W.nsIn K mainGlobals x=some (some (.ref C))/\(∀p∈vs,fs.lookup p.1=some p.2)/\(∀f v,fs.lookup f=some v->f∈vs.map (·.1))/\RepF K F vs fds
 | .exc x=>∃a C,v= .ref a/\F a=some (.ext (jC a (.ref C)))/\PySem.W.nsIn K mainGlobals x=some (some (.ref C))
theorem fF.inv {v:V} {d:D} (h:fF K F v d):Ah K F v d:=by
 cases h with
 |non=>exact rfl
 |bl=>exact rfl
 |int=>exact rfl
 |str=>exact rfl
 |tup h r=>exact⟨_,_,rfl,h,r⟩
 |lst h r=>exact⟨_,_,rfl,h,r⟩
 |scr h=>exact⟨_,rfl,h⟩
 |dic h r n=>exact⟨_,_,rfl,h,r,n⟩
 |ins h1 _ h3 h4 h5 h6=>exact⟨_,_,_,_,_,rfl,h1,h3,h4,h5,h6⟩
 |exc h n=>exact⟨_,_,rfl,h,n⟩
theorem RepK.nilI {vs:List (bx×V)} (h:RepK K F vs []):vs=[]:=by cases h;rfl
theorem RepK.consI {vs:List (bx×V)} {k:bx} {d:D} {ds:List (bx×D)} (h:RepK K F vs ((k,d)::ds)):∃v us,vs=(k,v)::us/\fF K F v d/\RepK K F us ds:=by
 cases h with
 |cons r t=>exact⟨_,_,rfl,r,t⟩
theorem Reps.nilI {vs:List V} (h:Reps K F vs []):vs=[]:=by cases h;rfl
theorem Reps.consI {vs:List V} {d:D} {ds:List D} (h:Reps K F vs (d::ds)):∃v us,vs=v::us/\fF K F v d/\Reps K F us ds:=by
 cases h with
 |cons r t=>exact⟨_,_,rfl,r,t⟩
theorem fF.intI {v:V} {i:Int} (h:fF K F v (.int i)):v= .int i:=h.inv
theorem fF.tupI {v:V} {ds:List D} (h:fF K F v (.tup ds)):∃a vs,v= .ref a/\F a=some (.tup vs)/\Reps K F vs ds:=h.inv
theorem Reps.int1 {vs:List V} {i:Int} (h:Reps K F vs [.int i]):vs=[.int i]:=by
 obtain⟨v,us,rfl,r,t⟩:=h.consI
 rw[t.nilI,r.intI]
theorem Reps.int2 {vs:List V} {i j:Int} (h:Reps K F vs [.int i, .int j]):vs=[.int i, .int j]:=by
 obtain⟨v,us,rfl,r,t⟩:=h.consI
 rw[t.int1,r.intI]
theorem Reps.length:∀{vs:List V} {ds:List D},Reps K F vs ds->vs.length=ds.length:=by
 intro vs ds
 induction ds generalizing vs with
 |nil=>intro h;rw[h.nilI];rfl
 |cons d ds ih=>
  intro h
  obtain⟨v,us,rfl,_,t⟩:=h.consI
  rw[List.length_cons,List.length_cons,ih t]
theorem RepK.length:∀{vs:List (bx×V)} {ds:List (bx×D)},RepK K F vs ds->vs.length=ds.length:=by
 intro vs ds
 induction ds generalizing vs with
 |nil=>intro h;rw[h.nilI];rfl
 |cons d ds ih=>
  intro h
  obtain⟨v,us,rfl,_,t⟩:=RepK.consI (k:=d.1) (d:=d.2) h
  rw[List.length_cons,List.length_cons,ih t]
theorem Reps.append:∀{vs us:List V} {ds es:List D},Reps K F vs ds->Reps K F us es->Reps K F (vs++us) (ds++es):=by
 intro vs us ds
 induction ds generalizing vs with
 |nil=>intro es h g;rw[h.nilI];exact g
 |cons d ds ih=>
  intro es h g
  obtain⟨v,us,rfl,r,t⟩:=h.consI
  exact .cons r (ih t g)
theorem Reps.get:∀{vs:List V} {ds:List D} {i:Nat} {d:D},Reps K F vs ds->ds[i]? =some d->∃v,vs[i]? =some v/\fF K F v d
 |_,_,_,_, .nil,h=>by simp at h
 |_,_,0,_, .cons r t,h=>by simp at h;subst h;exact⟨_,rfl,r⟩
 |_,_,i+1,_, .cons r t,h=>by
  obtain⟨v,h1,h2⟩:=t.get (i:=i) (by simpa using h)
  exact⟨v,by simpa using h1,h2⟩
theorem Reps.get':∀{vs:List V} {ds:List D} {i:Nat} {v:V},Reps K F vs ds->vs[i]? =some v->∃d,ds[i]? =some d/\fF K F v d
 |_,_,_,_, .nil,h=>by simp at h
 |_,_,0,_, .cons r t,h=>by simp at h;subst h;exact⟨_,rfl,r⟩
 |_,_,i+1,_, .cons r t,h=>by
  obtain⟨v,h1,h2⟩:=t.get' (i:=i) (by simpa using h)
  exact⟨v,by simpa using h1,h2⟩
theorem Reps.set:∀{vs:List V} {ds:List D} {v:V} {d:D} (i:Nat),Reps K F vs ds->fF K F v d->Reps K F (vs.set i v) (ds.set i d)
 |_,_,_,_,_, .nil,_=> .nil
 |_,_,_,_,0, .cons r t,h=> .cons h t
 |_,_,_,_,i+1, .cons r t,h=> .cons r (t.set i h)
theorem Reps.eraseIdx:∀{vs:List V} {ds:List D} (i:Nat),Reps K F vs ds->Reps K F (vs.eraseIdx i) (ds.eraseIdx i)
 |_,_,_, .nil=> .nil
 |_,_,0, .cons r t=>t
 |_,_,i+1, .cons r t=> .cons r (t.eraseIdx i)
theorem Reps.drop:∀{vs:List V} {ds:List D} (i:Nat),Reps K F vs ds->Reps K F (vs.drop i) (ds.drop i)
 |_,_,0,h=>h
 |_,_,_+1, .nil=> .nil
 |_,_,i+1, .cons r t=>t.drop i
theorem Reps.take:∀{vs:List V} {ds:List D} (i:Nat),Reps K F vs ds->Reps K F (vs.take i) (ds.take i)
 |_,_,0,h=> .nil
 |_,_,_+1, .nil=> .nil
 |_,_,i+1, .cons r t=> .cons r (t.take i)
theorem Reps.reverse {vs:List V} {ds:List D} (h:Reps K F vs ds):Reps K F vs.reverse ds.reverse:=by
 induction h using Reps.rec (motive_1:=fun _ _ _=>True) (motive_3:=fun _ _ _=>True) (motive_4:=fun _ _ _=>True)with
 |nil=>exact .nil
 |cons r t _ ih=>rw[List.reverse_cons,List.reverse_cons];exact ih.append (.cons r .nil)
 |_=>trivial
end
structure cm (H F H' F':Hp):Prop where
 sub:bw F' H'
 keep:bw H H'
 grow:bw F F'
 new:∀a,F' a≠none->F a≠none\/H a=none
theorem cm.refl {H F:Hp} (h:bw F H):cm H F H F:=⟨h,bw.refl _,bw.refl _,fun _ h=> .inl h⟩
theorem cm.trans {H F H1 F1 H2 F2:Hp} (a:cm H F H1 F1) (b:cm H1 F1 H2 F2):cm H F H2 F2:=
 ⟨b.sub,a.keep.trans b.keep,a.grow.trans b.grow,fun x h=>(b.new x h).elim (fun q=>a.new x q) fun q=> .inr (a.keep.free q)⟩
theorem d8 {H:Hp} {p:Addr} {o:HO} (h:H p=none):bw H (bY H p o):=fun b u e=>by
 rw[aD (fun z=>by rw[z,h]at e;cases e)];exact e
theorem cm.lay {H F:Hp} (s:bw F H) {p:Addr} {o:HO} (h:H p=none):cm H F (bY H p o) (bY F p o):=by
 refine⟨fun b u e=> ?_,d8 h,d8 (s.free h),fun b e=> ?_⟩
 ·by_cases z:b=p
  ·subst z;rw[aC]at e ⊢;exact e
  ·rw[aD z]at e ⊢;exact s b u e
 ·by_cases z:b=p
  ·subst z;exact .inr h
  ·rw[aD z]at e;exact .inl e
theorem cm.layOwn {H F:Hp} (s:bw F H) {p:Addr} {o:HO} (h:H p=none):cm H F (bY H p o) F:=
 ⟨s.trans (d8 h),d8 h,bw.refl _,fun _ e=> .inl e⟩
inductive Slot where
 |val (d:D)|own (d:D)|bor (d:D)|obj
def Slot.data:Slot->D
 | .val d=>d
 | .own d=>d
 | .bor d=>d
 | .obj=> .non
abbrev aq:=List (Option Slot)
inductive lH (K:PySem.W.Frag) (F:Hp):HO->D->Prop
 |lst {vs:List V} {ds:List D}:Reps K F vs ds->lH K F (.lst vs) (.lst ds)
 |dic {kvs:List (bx×V)} {kds:List (bx×D)}:RepK K F kvs kds->(kvs.map (·.1)).Nodup->lH K F (.dK kvs) (.dic kds)
theorem lH.mono {K:PySem.W.Frag} {F F':Hp} (e:bw F F') {o:HO} {d:D}:lH K F o d->lH K F' o d
 | .lst r=> .lst (r.mono e)
 | .dic r n=> .dic (r.mono e) n
structure fU (ly:List jn)where
 H0:Hp
 F0:Hp
 B:Hp
 Er:Str->aq->Prop
 oa:Nat->Option Addr:=fun _=>none
 Fm:Hp:=fun _=>none
structure RI (K:PySem.W.Frag) (c:fU ly) (ρ:aq) (σ:St) (H F:Hp):Prop where
 ext:cm c.H0 c.F0 H F
 val:∀(i:Nat) d,ρ[i]? =some (some (.val d))->∃v,σ[i]? =some (some v)/\fF K F v d
 own:∀(i:Nat) d,ρ[i]? =some (some (.own d))->∃a o,σ[i]? =some (some (.ref a))/\H a=some o/\F a=none/\c.H0 a=none/\lH K F o d
 bor:∀(i:Nat) d,ρ[i]? =some (some (.bor d))->∃a o,σ[i]? =some (some (.ref a))/\c.B a=some o/\lH K c.F0 o d
 bh:bw c.B c.H0
 dis:∀(i j:Nat) d d' a,ρ[i]? =some (some (.own d))->ρ[j]? =some (some (.own d'))->σ[i]? =some (some (.ref a))->σ[j]? =some (some (.ref a))->i=j
 len:ρ.length=σ.length
 obj:∀L∈ly,ρ[L.x]? =some (some .obj)->∃a dx fs,(∀b,c.oa L.x=some b->a=b)/\σ[L.x]? =some (some (.ref a))/\H a=some (.ins L.C dx fs)/\H dx=some (.own a)/\F a=none/\F dx=none/\c.H0 a=none/\c.H0 dx=none/\
  (∀p∈L.fl,fs.lookup p.1=(σ[p.2]?).join)/\(∀f v,fs.lookup f=some v->f∈L.fl.map (·.1))/\(fs.map (·.1)).Nodup
 odis:∀L∈ly,∀L'∈ly,ρ[L.x]? =some (some .obj)->ρ[L'.x]? =some (some .obj)->∀a,σ[L.x]? =some (some (.ref a))->σ[L'.x]? =some (some (.ref a))->L=L'
 fm:bw c.Fm F
def kN (ly:List jn) (i:Nat):Prop:=∀L∈ly,L.x≠i/\∀p∈L.fl,p.2≠i
theorem dZ {i:Nat}:kN [] i:=fun L h=>by cases h
section
variable {K:PySem.W.Frag} {c:fU ly} {ρ:aq} {σ:St} {H F H' F':Hp}
theorem cm.out {H F H' F':Hp} (e:cm H F H' F') {a:Addr} {o:HO} (h:H a=some o) (hF:F a=none):F' a=none:=by
 cases q:F' a with
 |none=>rfl
 |some u=>
  rcases e.new a (by rw[q];simp)with z|z
  ·exact absurd hF z
  ·rw[h]at z;cases z
theorem RI.step (r:RI K c ρ σ H F) (e:cm H F H' F'):RI K c ρ σ H' F' where
 obj:=fun L hL hρ=>by
  obtain⟨a,dx,fs,h0,h1,h2,h3,h4,h5,h6,h7,h8⟩:=r.obj L hL hρ
  exact⟨a,dx,fs,h0,h1,e.keep _ _ h2,e.keep _ _ h3,e.out h2 h4,e.out h3 h5,h6,h7,h8⟩
 odis:=r.odis
 fm:=r.fm.trans e.grow
 ext:=r.ext.trans e
 val:=fun i d h=>by obtain⟨v,h1,h2⟩:=r.val i d h;exact⟨v,h1,h2.mono e.grow⟩
 own:=fun i d h=>by
  obtain⟨a,o,h1,h2,h3,h4,h5⟩:=r.own i d h
  refine⟨a,o,h1,e.keep _ _ h2,?_,h4,h5.mono e.grow⟩
  cases q:F' a with
  |none=>rfl
  |some u=>
   rcases e.new a (by rw[q];simp)with z|z
   ·exact absurd h3 z
   ·rw[h2]at z;cases z
 bor:=r.bor
 bh:=r.bh
 dis:=r.dis
 len:=r.len
theorem RI.sub (r:RI K c ρ σ H F):bw F H:=r.ext.sub
theorem bp {α:Type} {l:List α} {i j:Nat} {a b:α} (h:(l.set i a)[j]? =some b):(i=j/\a=b/\i<l.length)\/(i≠j/\l[j]? =some b):=by
 rw[List.getElem?_set]at h
 by_cases e:i=j
 ·rw[if_pos e]at h
  split at h
  ·cases h;exact .inl ⟨e,rfl,by assumption⟩
  ·cases h
 ·rw[if_neg e]at h;exact .inr ⟨e,h⟩
theorem ls {α:Type} {l:List α} {i:Nat} {a:α} (h:i<l.length):(l.set i a)[i]? =some a:=by
 rw[List.getElem?_set,if_pos rfl,if_pos h]
theorem az {α:Type} {l:List α} {i j:Nat} {a:α} (h:i≠j):(l.set i a)[j]? =l[j]? :=by
 rw[List.getElem?_set,if_neg h]
theorem RI.setVal (r:RI K c ρ σ H F) (i:Nat) {v:V} {d:D} (hf:kN ly i) (h:fF K F v d):RI K c (ρ.set i (some (.val d))) (σ.set i (some v)) H F where
 obj:=fun L hL hρ=>by
  rw[az (hf L hL).1.symm]at hρ
  obtain⟨a,dx,fs,h0,h1,h2,h3,h4,h5,h6,h7,h8,h9⟩:=r.obj L hL hρ
  refine⟨a,dx,fs,h0,by rw[az (hf L hL).1.symm];exact h1,h2,h3,h4,h5,h6,h7,fun p hp=> ?_,h9⟩
  rw[az ((hf L hL).2 p hp).symm];exact h8 p hp
 odis:=fun L hL L' hL' q1 q2 a k1 k2=>by
  rw[az (hf L hL).1.symm]at k1 q1
  rw[az (hf L' hL').1.symm]at k2 q2
  exact r.odis L hL L' hL' q1 q2 a k1 k2
 fm:=r.fm
 ext:=r.ext
 val:=fun j e q=>by
  rcases bp q with ⟨rfl,z,l⟩|⟨z,q⟩
  ·cases z;exact⟨v,ls (by rw[<-r.len];exact l),h⟩
  ·rw[az z];exact r.val j e q
 own:=fun j e q=>by
  rcases bp q with ⟨rfl,z,l⟩|⟨z,q⟩
  ·cases z
  ·rw[az z];exact r.own j e q
 bor:=fun j e q=>by
  rcases bp q with ⟨rfl,z,l⟩|⟨z,q⟩
  ·cases z
  ·rw[az z];exact r.bor j e q
 bh:=r.bh
 dis:=fun j k e e' a q1 q2 q3 q4=>by
  rcases bp q1 with ⟨rfl,z,l⟩|⟨z,q1⟩
  ·cases z
  ·rcases bp q2 with ⟨rfl,z',l⟩|⟨z',q2⟩
   ·cases z'
   ·rw[az z]at q3;rw[az z']at q4
    exact r.dis j k e e' a q1 q2 q3 q4
 len:=by simp[r.len]
theorem RI.setNone (r:RI K c ρ σ H F) (i:Nat) {v:Option V} (hf:kN ly i):RI K c (ρ.set i none) (σ.set i v) H F where
 obj:=fun L hL hρ=>by
  rw[az (hf L hL).1.symm]at hρ
  obtain⟨a,dx,fs,h0,h1,h2,h3,h4,h5,h6,h7,h8,h9⟩:=r.obj L hL hρ
  refine⟨a,dx,fs,h0,by rw[az (hf L hL).1.symm];exact h1,h2,h3,h4,h5,h6,h7,fun p hp=> ?_,h9⟩
  rw[az ((hf L hL).2 p hp).symm];exact h8 p hp
 odis:=fun L hL L' hL' q1 q2 a k1 k2=>by
  rw[az (hf L hL).1.symm]at k1 q1
  rw[az (hf L' hL').1.symm]at k2 q2
  exact r.odis L hL L' hL' q1 q2 a k1 k2
 fm:=r.fm
 ext:=r.ext
 val:=fun j e q=>by
  rcases bp q with ⟨rfl,z,l⟩|⟨z,q⟩
  ·cases z
  ·rw[az z];exact r.val j e q
 own:=fun j e q=>by
  rcases bp q with ⟨rfl,z,l⟩|⟨z,q⟩
  ·cases z
  ·rw[az z];exact r.own j e q
 bor:=fun j e q=>by
  rcases bp q with ⟨rfl,z,l⟩|⟨z,q⟩
  ·cases z
  ·rw[az z];exact r.bor j e q
 bh:=r.bh
 dis:=fun j k e e' a q1 q2 q3 q4=>by
  rcases bp q1 with ⟨rfl,z,l⟩|⟨z,q1⟩
  ·cases z
  ·rcases bp q2 with ⟨rfl,z',l⟩|⟨z',q2⟩
   ·cases z'
   ·rw[az z]at q3;rw[az z']at q4
    exact r.dis j k e e' a q1 q2 q3 q4
 len:=by simp[r.len]
theorem RI.setOwn (r:RI K c ρ σ H F) (i:Nat) {a:Addr} {o:HO} {d:D} (hf:kN ly i) (h:H a=some o) (hF:F a=none) (h0:c.H0 a=none) (q:lH K F o d)
  (ne:∀(j:Nat) d',j≠i->ρ[j]? =some (some (.own d'))->σ[j]? ≠some (some (.ref a))):RI K c (ρ.set i (some (.own d))) (σ.set i (some (.ref a))) H F where
 obj:=fun L hL hρ=>by
  rw[az (hf L hL).1.symm]at hρ
  obtain⟨b,dx,fs,h0,h1,h2,h3,h4,h5,h6,h7,h8,h9⟩:=r.obj L hL hρ
  refine⟨b,dx,fs,h0,by rw[az (hf L hL).1.symm];exact h1,h2,h3,h4,h5,h6,h7,fun p hp=> ?_,h9⟩
  rw[az ((hf L hL).2 p hp).symm];exact h8 p hp
 odis:=fun L hL L' hL' q1 q2 b k1 k2=>by
  rw[az (hf L hL).1.symm]at k1 q1
  rw[az (hf L' hL').1.symm]at k2 q2
  exact r.odis L hL L' hL' q1 q2 b k1 k2
 fm:=r.fm
 ext:=r.ext
 val:=fun j e q=>by
  rcases bp q with ⟨rfl,z,l⟩|⟨z,q⟩
  ·cases z
  ·rw[az z];exact r.val j e q
 own:=fun j e q'=>by
  rcases bp q' with ⟨rfl,z,l⟩|⟨z,q'⟩
  ·cases z;exact⟨a,o,ls (by rw[<-r.len];exact l),h,hF,h0,q⟩
  ·rw[az z];exact r.own j e q'
 bor:=fun j e q=>by
  rcases bp q with ⟨rfl,z,l⟩|⟨z,q⟩
  ·cases z
  ·rw[az z];exact r.bor j e q
 bh:=r.bh
 dis:=fun j k e e' b q1 q2 q3 q4=>by
  rcases bp q1 with ⟨rfl,z,l⟩|⟨z,q1⟩
  ·rw[ls (by rw[<-r.len];exact l)]at q3
   cases q3
   rcases bp q2 with ⟨rfl,z',l⟩|⟨z',q2⟩
   ·rfl
   ·rw[az z']at q4
    exact absurd q4 (ne k e' (Ne.symm z') q2)
  ·rw[az z]at q3
   rcases bp q2 with ⟨rfl,z',l⟩|⟨z',q2⟩
   ·rw[ls (by rw[<-r.len];exact l)]at q4
    cases q4
    exact absurd q3 (ne j e (Ne.symm z) q1)
   ·rw[az z']at q4
    exact r.dis j k e e' b q1 q2 q3 q4
 len:=by simp[r.len]
theorem RI.setNew (r:RI K c ρ σ H F) (i:Nat) {a:Addr} {o:HO} {d:D} (hf:kN ly i) (h:H a=none) (q:lH K F o d):RI K c (ρ.set i (some (.own d))) (σ.set i (some (.ref a))) (bY H a o) F:=by
 have r':=r.step (cm.layOwn r.sub (o:=o) h)
 refine r'.setOwn i hf aC (r.sub.free h) (r.ext.keep.free h) q fun j d' _ hj e=> ?_
 obtain⟨b,o',h1,h2,_⟩:=r.own j d' hj
 rw[e]at h1
 cases h1
 rw[h]at h2
 cases h2
theorem RI.change (r:RI K c ρ σ H F) {i:Nat} {a:Addr} {o o':HO} {d d':D} (hi:ρ[i]? =some (some (.own d))) (hs:σ[i]? =some (some (.ref a))) (q:lH K F o' d'):
  RI K c (ρ.set i (some (.own d'))) σ (bY H a o') F:=by
 obtain⟨b,u,h1,h2,h3,h4,h5⟩:=r.own i d hi
 rw[hs]at h1
 cases h1
 refine⟨⟨fun x y e=> ?_,fun x y e=> ?_,r.ext.grow,r.ext.new⟩,fun j e w=> ?_,fun j e w=> ?_,fun j e w=> ?_,r.bh,fun j k e e' x q1 q2 q3 q4=> ?_,by simp[r.len],fun L hL hρ=> ?_,fun L hL L' hL' q1 q2=> ?_,r.fm⟩
 ·rw[aD (fun z=>by rw[z,h3]at e;cases e)];exact r.sub x y e
 ·rw[aD (fun z=>by rw[z,h4]at e;cases e)];exact r.ext.keep x y e
 ·rcases bp w with ⟨rfl,z,l⟩|⟨z,w⟩
  ·cases z
  ·exact r.val j e w
 ·rcases bp w with ⟨rfl,z,l⟩|⟨z,w⟩
  ·cases z;exact⟨a,o',hs,aC,h3,h4,q⟩
  ·obtain⟨x,y,k1,k2,k3,k4,k5⟩:=r.own j e w
   refine⟨x,y,k1,?_,k3,k4,k5⟩
   rw[aD (fun zz=>by subst zz;exact z (r.dis i j d e x hi w hs k1))]
   exact k2
 ·rcases bp w with ⟨rfl,z,l⟩|⟨z,w⟩
  ·cases z
  ·exact r.bor j e w
 ·have own_of:∀{l:Nat} {x:D},(ρ.set i (some (.own d')))[l]? =some (some (.own x))->∃y,ρ[l]? =some (some (.own y)):=fun {l x} w=>by
   rcases bp w with ⟨rfl,z,_⟩|⟨z,w⟩
   ·exact⟨d,hi⟩
   ·exact⟨x,w⟩
  obtain⟨y1,w1⟩:=own_of q1
  obtain⟨y2,w2⟩:=own_of q2
  exact r.dis j k y1 y2 x w1 w2 q3 q4
 ·have hρ':ρ[L.x]? =some (some .obj):=by
   rcases bp hρ with ⟨_,z,_⟩|⟨_,w⟩
   ·cases z
   ·exact w
  obtain⟨b,dx,fs,k0,k1,k2,k3,k4⟩:=r.obj L hL hρ'
  have n1:b≠a:=fun z=>by subst z;rw[k2]at h2;cases h2;cases h5
  have n2:dx≠a:=fun z=>by subst z;rw[k3]at h2;cases h2;cases h5
  exact⟨b,dx,fs,k0,k1,by rw[aD n1];exact k2,by rw[aD n2];exact k3,k4⟩
 ·refine r.odis L hL L' hL' ?_ ?_
  ·rcases bp q1 with ⟨_,z,_⟩|⟨_,w⟩
   ·cases z
   ·exact w
  ·rcases bp q2 with ⟨_,z,_⟩|⟨_,w⟩
   ·cases z
   ·exact w
end
def frz1 (i:Nat) (ρ:aq):aq:=match ρ[i]? with
 |some (some (.own d))=>ρ.set i (some (.val d))
 |_=>ρ
def frz (L:List Nat) (ρ:aq):aq:=L.foldl (fun r i=>frz1 i r) ρ
theorem RI.frz1 {K:PySem.W.Frag} {c:fU ly} {ρ:aq} {σ:St} {H F:Hp} (r:RI K c ρ σ H F) (i:Nat):∃F',bw F F'/\RI K c (frz1 i ρ) σ H F':=by
 unfold L2.Pu.frz1
 split
 ·rename_i d hi
  obtain⟨a,o,h1,h2,h3,h4,h5⟩:=r.own i d hi
  have g:bw F (bY F a o):=d8 h3
  refine⟨bY F a o,g,⟨⟨fun b u e=> ?_,r.ext.keep,r.ext.grow.trans g,fun b e=> ?_⟩,fun j e w=> ?_,fun j e w=> ?_,fun j e w=> ?_,r.bh,fun j k e e' x q1 q2 q3 q4=> ?_,by simp[r.len],fun L hL hρ=> ?_,fun L hL L' hL' q1 q2=> ?_,r.fm.trans g⟩⟩
  ·by_cases z:b=a
   ·subst z;rw[aC]at e;rw[h2];exact e
   ·rw[aD z]at e;exact r.sub b u e
  ·by_cases z:b=a
   ·subst z;exact .inr h4
   ·rw[aD z]at e;exact r.ext.new b e
  ·rcases bp w with ⟨rfl,z,l⟩|⟨z,w⟩
   ·cases z
    refine⟨.ref a,h1,?_⟩
    cases h5 with
    |lst q=>exact .lst aC (q.mono g)
    |dic q n=>exact .dic aC (q.mono g) n
   ·obtain⟨v,k1,k2⟩:=r.val j e w;exact⟨v,k1,k2.mono g⟩
  ·rcases bp w with ⟨rfl,z,l⟩|⟨z,w⟩
   ·cases z
   ·obtain⟨x,y,k1,k2,k3,k4,k5⟩:=r.own j e w
    refine⟨x,y,k1,k2,?_,k4,k5.mono g⟩
    rw[aD (fun zz=>by subst zz;exact z (r.dis i j d e x hi w h1 k1))]
    exact k3
  ·rcases bp w with ⟨rfl,z,l⟩|⟨z,w⟩
   ·cases z
   ·exact r.bor j e w
  ·rcases bp q1 with ⟨rfl,z,l⟩|⟨z,q1⟩
   ·cases z
   ·rcases bp q2 with ⟨rfl,z',l⟩|⟨z',q2⟩
    ·cases z'
    ·exact r.dis j k e e' x q1 q2 q3 q4
  ·have hρ':ρ[L.x]? =some (some .obj):=by
    rcases bp hρ with ⟨_,z,_⟩|⟨_,w⟩
    ·cases z
    ·exact w
   obtain⟨b,dx,fs,k0,k1,k2,k3,k4,k5,k6⟩:=r.obj L hL hρ'
   have n1:b≠a:=fun z=>by subst z;rw[k2]at h2;cases h2;cases h5
   have n2:dx≠a:=fun z=>by subst z;rw[k3]at h2;cases h2;cases h5
   exact⟨b,dx,fs,k0,k1,k2,k3,by rw[aD n1];exact k4,by rw[aD n2];exact k5,k6⟩
  ·refine r.odis L hL L' hL' ?_ ?_
   ·rcases bp q1 with ⟨_,z,_⟩|⟨_,w⟩
    ·cases z
    ·exact w
   ·rcases bp q2 with ⟨_,z,_⟩|⟨_,w⟩
    ·cases z
    ·exact w
 ·exact⟨F,bw.refl _,r⟩
theorem RI.frz {K:PySem.W.Frag} {c:fU ly} {σ:St} {H:Hp}:∀(L:List Nat) {ρ:aq} {F:Hp},RI K c ρ σ H F->∃F',bw F F'/\RI K c (frz L ρ) σ H F'
 |[],ρ,F,r=>⟨F,bw.refl _,r⟩
 |i::L,ρ,F,r=>by
  obtain⟨F1,g1,r1⟩:=r.frz1 i
  obtain⟨F2,g2,r2⟩:=RI.frz L r1
  exact⟨F2,g1.trans g2,r2⟩
end L2.Pu
namespace L2.Pu
open PySem PySem.Spec PyProof.Rows
variable {ly:List jn}
inductive R (α:Type)where
 |ok (a:α)|err (c:Str) (ρ:aq)|bad
def R.bind {α β:Type}:R α->(α->R β)->R β
 | .ok a,f=>f a
 | .err c ρ,_=> .err c ρ
 | .bad,_=> .bad
instance:Monad R where
 pure:=R.ok
 bind:=R.bind
@[simp] theorem ay {α β:Type} (a:α) (f:α->R β):(R.ok a>>=f)=f a:=rfl
@[simp] theorem GV {α β:Type} (c:Str) (ρ:aq) (f:α->R β):(R.err c ρ>>=f)=R.err c ρ:=rfl
@[simp] theorem GW {α β:Type} (f:α->R β):(R.bad>>=f)=R.bad:=rfl
@[simp] theorem HI {α:Type} (a:α):(pure a:R α)=R.ok a:=rfl
def R.of {α:Type}:Option α->R α
 |some a=> .ok a
 |none=> .bad
@[simp] theorem cg {α:Type} (a:α):R.of (some a)= .ok a:=rfl
@[simp] theorem HJ {α:Type}:R.of (none:Option α)= .bad:=rfl
def aV {α:Type} (c:fU ly) (r:R α) (P:α->Prop):Prop:=match r with
 | .ok a=>P a
 | .err e ρ=>c.Er e ρ
 | .bad=>False
theorem aV.imp {α:Type} {c:fU ly} {r:R α} {P P':α->Prop} (h:aV c r P) (w:∀a,r= .ok a->P a->P' a):aV c r P':=by
 cases r with
 |ok a=>exact w a rfl h
 |err e ρ=>exact h
 |bad=>exact h
theorem aV.bind {α β:Type} {c:fU ly} {r:R α} {f:α->R β} {P:β->Prop}:aV c (r>>=f) P<->aV c r fun a=>aV c (f a) P:=by
 cases r<;>exact Iff.rfl
theorem aV.of {α:Type} {c:fU ly} {r:Option α} {P:α->Prop} (h:aV c (R.of r) P):∃a,r=some a/\P a:=by
 cases r with
 |none=>exact h.elim
 |some a=>exact⟨a,rfl,h⟩
def d9 (K:PySem.W.Frag) (H F:Hp) (v:V) (d:D):Prop:=fF K F v d\/∃a o,v= .ref a/\H a=some o/\lH K F o d
theorem d9.mono {K:PySem.W.Frag} {H F H' F':Hp} {v:V} {d:D} (e:cm H F H' F'):d9 K H F v d->d9 K H' F' v d
 | .inl r=> .inl (r.mono e.grow)
 | .inr ⟨a,o,h1,h2,h3⟩=> .inr ⟨a,o,h1,e.keep _ _ h2,h3.mono e.grow⟩
theorem d9.lst {K:PySem.W.Frag} {H F:Hp} {v:V} {ds:List D} (s:bw F H) (h:d9 K H F v (.lst ds)):∃a vs,v= .ref a/\H a=some (.lst vs)/\Reps K F vs ds:=by
 rcases h with h|⟨a,o,h1,h2,q⟩
 ·obtain⟨a,vs,e,h,r⟩:=h.inv
  exact⟨a,vs,e,s _ _ h,r⟩
 ·cases q with
  |lst r=>exact⟨_,_,h1,h2,r⟩
theorem d9.dic {K:PySem.W.Frag} {H F:Hp} {v:V} {ds:List (bx×D)} (s:bw F H) (h:d9 K H F v (.dic ds)):∃a vs,v= .ref a/\H a=some (.dK vs)/\RepK K F vs ds/\(vs.map (·.1)).Nodup:=by
 rcases h with h|⟨a,o,h1,h2,q⟩
 ·obtain⟨a,vs,e,h,r⟩:=h.inv
  exact⟨a,vs,e,s _ _ h,r⟩
 ·cases q with
  |dic r n=>exact⟨_,_,h1,h2,r,n⟩
def Ja:D->Bool
 | .lst _=>true
 | .dic _=>true
 |_=>false
theorem d9.in {K:PySem.W.Frag} {H F:Hp} {v:V} {d:D} (h:d9 K H F v d) (n:Ja d=false):Ah K F v d:=by
 rcases h with h|⟨a,o,h1,h2,q⟩
 ·exact h.inv
 ·cases q<;>cases n
theorem d9.tup {K:PySem.W.Frag} {H F:Hp} {v:V} {ds:List D} (s:bw F H) (h:d9 K H F v (.tup ds)):∃a vs,v= .ref a/\H a=some (.tup vs)/\Reps K F vs ds:=by
 obtain⟨a,vs,e,h,r⟩:=h.in rfl
 exact⟨a,vs,e,s _ _ h,r⟩
theorem d9.scr {K:PySem.W.Frag} {H F:Hp} {v:V} {ns:List Int} (s:bw F H) (h:d9 K H F v (.scr ns)):∃a,v= .ref a/\fz K H a (ns.map V.int):=by
 obtain⟨a,e,h⟩:=h.in rfl
 exact⟨a,e,s.seq h⟩
theorem d9.int {K:PySem.W.Frag} {H F:Hp} {v:V} {i:Int} (h:d9 K H F v (.int i)):v= .int i:=h.in rfl
theorem d9.bl {K:PySem.W.Frag} {H F:Hp} {v:V} {i:Bool} (h:d9 K H F v (.bl i)):v= .bl i:=h.in rfl
theorem d9.str {K:PySem.W.Frag} {H F:Hp} {v:V} {i:Str} (h:d9 K H F v (.str i)):v= .str i:=h.in rfl
theorem d9.non {K:PySem.W.Frag} {H F:Hp} {v:V} (h:d9 K H F v .non):v= .non:=h.in rfl
inductive lL (K:PySem.W.Frag) (H F:Hp):List V->List D->Prop
 |nil:lL K H F [] []
 |cons {v:V} {d:D} {vs:List V} {ds:List D}:d9 K H F v d->lL K H F vs ds->lL K H F (v::vs) (d::ds)
def jp (K:PySem.W.Frag) (x:Str) (cls:Value):Prop:=∃C,cls= .ref C/\PySem.W.nsIn K mainGlobals x=some (some (.ref C))
def GX (X:Cx) (c:fU ly):Prop:=(kz X/\∀pins σ ρ H F s a cls x,aM X pins σ H s->RI X.K c ρ σ H F->Fl X pins H s.heap a cls->jp X.K x cls->c.Er x ρ->X.xe (.ref a) s)\/∀x ρ,¬c.Er x ρ
abbrev kO (ly:List jn) (X:Cx):Type:={c:fU ly // GX X c}
theorem GX.no {X:Cx} {c:fU ly} (h:∀x ρ,¬c.Er x ρ):GX X c:= .inr h
def GY (X:Cx) (c:fU ly) (σ:St):XK:=fun cls _ H'=>∃x ρ F',jp X.K x cls/\RI X.K c ρ σ H' F'/\c.Er x ρ
theorem xg {X:Cx} (c:kO ly X):m5 (oY X.prog X.w) X (GY X c.1):=fun pins σ H s e s' I h=>by
 rcases c.2 with ⟨hp,thr⟩|no
 ·obtain⟨a,cls,H',rfl,I',fl,x,ρ,F',ec,ri,er⟩:=Fk I hp h
  exact thr pins σ ρ H' F' s' a cls x I' ri fl ec er
 ·obtain⟨a,cls,H',_,_,_,_,_,_,x,ρ,F',ec,ri,er⟩:=h
  exact absurd er (no x ρ)
def tQ (K:PySem.W.Frag) (c:fU ly) (f:aq->R D):TE:=fun σ H Q=>∃F ρ,RI K c ρ σ H F/\aV c (f ρ) fun d=>∀v H' F',cm H F H' F'->fF K F' v d->Q v H'
def tB' (K:PySem.W.Frag) (c:fU ly) (f:aq->R D):TE:=fun σ H Q=>∃F ρ,RI K c ρ σ H F/\aV c (f ρ) fun d=>∀v H' F',cm H F H' F'->d9 K H' F' v d->Q v H'
def tT (K:PySem.W.Frag) (c:fU ly) (f:aq->R Bool):TT:=fun σ H Q=>∃F ρ,RI K c ρ σ H F/\aV c (f ρ) fun b=>∀H' F',cm H F H' F'->Q b H'
def HK (K:PySem.W.Frag) (c:fU ly) (f:aq->R (List D)):TA:=fun σ H Q=>∃F ρ,RI K c ρ σ H F/\aV c (f ρ) fun ds=>∀vs H' F',cm H F H' F'->Reps K F' vs ds->Q vs H'
def GZ (K:PySem.W.Frag) (c:fU ly) (f:aq->R (List D)):TA:=fun σ H Q=>∃F ρ,RI K c ρ σ H F/\aV c (f ρ) fun ds=>∀vs H' F',cm H F H' F'->lL K H' F' vs ds->Q vs H'
def PQ (ly:List jn) (X:Cx) (e:Expr) (f:aq->R D):Prop:=∀c:kO ly X,PE X e (tQ X.K c.1 f)
def PB (ly:List jn) (X:Cx) (e:Expr) (f:aq->R D):Prop:=∀c:kO ly X,PE X e (tB' X.K c.1 f)
def tU (ly:List jn) (X:Cx) (e:Expr) (f:aq->R Bool):Prop:=∀c:kO ly X,PT X e (tT X.K c.1 f)
def nI (ly:List jn) (X:Cx) (e:Expr) (f:aq->R Bool):Prop:=∀c:kO ly X,PW X e (tT X.K c.1 f)
def vS (ly:List jn) (X:Cx) (es:List Expr) (f:aq->R (List D)):Prop:=∀c:kO ly X,PA X es (HK X.K c.1 f)
def G_ (ly:List jn) (X:Cx) (es:List Expr) (f:aq->R (List D)):Prop:=∀c:kO ly X,PA X es (GZ X.K c.1 f)
theorem PE.weak {X:Cx} {e:Expr} {t t':TE} (h:PE X e t) (w:∀σ H Q,t' σ H Q->t σ H Q):PE X e t':=fun pins s σ H Q I q=>h pins s σ H Q I (w σ H Q q)
theorem PT.weak {X:Cx} {e:Expr} {t t':TT} (h:PT X e t) (w:∀σ H Q,t' σ H Q->t σ H Q):PT X e t':=fun pins s σ H Q I q=>h pins s σ H Q I (w σ H Q q)
theorem PW.weak {X:Cx} {e:Expr} {t t':TT} (h:PW X e t) (w:∀σ H Q,t' σ H Q->t σ H Q):PW X e t':=fun wh pins s σ H Q I q=>h wh pins s σ H Q I (w σ H Q q)
theorem PA.weak {X:Cx} {e:List Expr} {t t':TA} (h:PA X e t) (w:∀σ H Q,t' σ H Q->t σ H Q):PA X e t':=fun pos pins s σ H Q I q=>h pos pins s σ H Q I (w σ H Q q)
theorem PS.weak {X:Cx} {e:Stmt} {t t':TS} (h:PS X e t) (w:∀D σ H,t' D σ H->t D σ H):PS X e t':=fun pins s σ H D I q=>h pins s σ H D I (w D σ H q)
theorem qJ.weak {X:Cx} {e:List Stmt} {t t':TS} (h:qJ X e t) (w:∀D σ H,t' D σ H->t D σ H):qJ X e t':=fun pins s σ H D I q=>h pins s σ H D I (w D σ H q)
theorem PG.weak {X:Cx} {e:Expr} {t t':TG} (h:PG X e t) (w:∀v σ H Q,t' v σ H Q->t v σ H Q):PG X e t':=fun pins s σ H v u Q I r q=>h pins s σ H v u Q I r (w v σ H Q q)
theorem two {K:PySem.W.Frag} {c:fU ly} {fa fb:aq->R D} {g:D->D->R D} {σ:St} {H:Hp} {Q:VK} (h:tQ K c (fun ρ=>fa ρ>>=fun x=>fb ρ>>=fun y=>g x y) σ H Q)
  {T:V->V->Hp->Prop} (k:∀F H2 F2 v u x y,cm H F H2 F2->d9 K H2 F2 v x->d9 K H2 F2 u y->aV c (g x y) (fun d=>∀w H' F',cm H F H' F'->fF K F' w d->Q w H')->T v u H2):
  tB' K c fa σ H fun v H1=>tB' K c fb σ H1 fun u H2=>T v u H2:=by
 obtain⟨F,ρ,ri,w⟩:=h
 refine⟨F,ρ,ri,(aV.bind.mp w).imp fun x hx w1 v H1 F1 e1 r1=>⟨F1,ρ,ri.step e1,(aV.bind.mp w1).imp fun y hy w2 u H2 F2 e2 r2=> ?_⟩⟩
 exact k F H2 F2 v u x y (e1.trans e2) (r1.mono e2) r2 w2
def jD (K:PySem.W.Frag) (r:R2) (g:D->D->Option D):Prop:=∀v u x y d H F Q,bw F H->d9 K H F v x->d9 K H F u y->g x y=some d->(∀w H' F',cm H F H' F'->fF K F' w d->Q w H')->r v u H Q
def H9 (K:PySem.W.Frag) (r:V->Hp->VK->Prop) (g:D->Option D):Prop:=∀v x d H F Q,bw F H->d9 K H F v x->g x=some d->(∀w H' F',cm H F H' F'->fF K F' w d->Q w H')->r v H Q
def m9 (K:PySem.W.Frag) (r:List V->Hp->VK->Prop) (g:List D->Option D):Prop:=∀vs ds d H F Q,bw F H->lL K H F vs ds->g ds=some d->(∀w H' F',cm H F H' F'->fF K F' w d->Q w H')->r vs H Q
section
variable {X:Cx} {a b e:Expr} {es:List Expr} {fa fb f:aq->R D} {fs:aq->R (List D)} {pos:Pos}
theorem PQ.bo (h:PQ ly X e f):PB ly X e f:=fun c=>PE.weak (h c) fun σ H Q ⟨F,ρ,ri,w⟩=>⟨F,ρ,ri,w.imp fun d _ k v H' F' e r=>k v H' F' e (.inl r)⟩
def ao (i:Nat):aq->R D:=fun ρ=>match ρ[i]? with
 |some (some (.val d))=> .ok d
 |_=> .bad
def af (i:Nat):aq->R D:=fun ρ=>match ρ[i]? with
 |some (some .obj)=> .bad
 |some (some s)=> .ok s.data
 |_=> .bad
theorem Iz (h:PE X e (C3 i)):PQ ly X e (ao i):=fun c=>PE.weak h fun σ H Q ⟨F,ρ,ri,w⟩=>by
 unfold ao at w
 split at w
 ·rename_i d hd
  obtain⟨v,h1,h2⟩:=ri.val i d hd
  exact⟨v,h1,w v H F (cm.refl ri.sub) h2⟩
 ·exact w.elim
theorem IA (h:PE X e (C3 i)):PB ly X e (af i):=fun c=>PE.weak h fun σ H Q ⟨F,ρ,ri,w⟩=>by
 unfold af at w
 split at w
 ·exact w.elim
 ·rename_i s _ hs
  cases s with
  |obj=>rename_i hno;exact absurd rfl hno
  |val d=>obtain⟨v,h1,h2⟩:=ri.val i d hs;exact⟨v,h1,w v H F (cm.refl ri.sub) (.inl h2)⟩
  |own d=>obtain⟨a,o,h1,h2,h3,h4,h5⟩:=ri.own i d hs;exact⟨_,h1,w _ H F (cm.refl ri.sub) (.inr ⟨a,o,rfl,h2,h5⟩)⟩
  |bor d=>obtain⟨a,o,h1,h2,h3⟩:=ri.bor i d hs;exact⟨_,h1,w _ H F (cm.refl ri.sub) (.inr ⟨a,o,rfl,ri.ext.keep _ _ (ri.bh _ _ h2),h3.mono ri.ext.grow⟩)⟩
 ·exact w.elim
theorem al (i:Nat) {x:Str} (hN:X.N[i]? =some x:=by rfl) (hv:wL X.env.scope x:=by first|exact Or.inl rfl|exact Or.inr (Or.inl rfl)|exact Or.inr (Or.inr rfl)) (hd:(x==("__debug__":Str))=false:=by decide)
  (hcd:(x==("__classdict__":Str))=false:=by decide):PQ ly X (.Name x pos) (ao i):=Iz (pv i hN hv hd hcd)
theorem ae (i:Nat) {x:Str} (hN:X.N[i]? =some x:=by rfl) (hv:wL X.env.scope x:=by first|exact Or.inl rfl|exact Or.inr (Or.inl rfl)|exact Or.inr (Or.inr rfl)) (hd:(x==("__debug__":Str))=false:=by decide)
  (hcd:(x==("__classdict__":Str))=false:=by decide):PB ly X (.Name x pos) (af i):=IA (pv i hN hv hd hcd)
def fC (d:D):aq->R D:=fun _=> .ok d
theorem ak {i:Int} {j:Nat}:PQ ly X (.Constant (.int i) j pos) (fC (.int i)):=fun c=>PE.weak zo fun σ H Q ⟨F,ρ,ri,w⟩=>w _ H F (cm.refl ri.sub) (.int i)
theorem gu {i:Bool} {j:Nat}:PQ ly X (.Constant (.bool i) j pos) (fC (.bl i)):=fun c=>PE.weak Ge fun σ H Q ⟨F,ρ,ri,w⟩=>w _ H F (cm.refl ri.sub) (.bl i)
theorem o9 {j:Nat}:PQ ly X (.Constant .none j pos) (fC .non):=fun c=>PE.weak Ep fun σ H Q ⟨F,ρ,ri,w⟩=>w _ H F (cm.refl ri.sub) .non
theorem iz {x:Str} {j:Nat}:PQ ly X (.Constant (.str x) j pos) (fC (.str x)):=fun c=>PE.weak Es fun σ H Q ⟨F,ρ,ri,w⟩=>w _ H F (cm.refl ri.sub) (.str x)
theorem sI {x:Str} {i:Int} {t:Tok} (hg:Gl X x) (hm:X.mg x=some (.int i t)) (hd:(x==("__debug__":Str))=false:=by decide):PQ ly X (.Name x pos) (fC (.int i)):=
 fun c=>PE.weak (wM hg hm (v:= .int i) ⟨t,rfl⟩ hd) fun σ H Q ⟨F,ρ,ri,w⟩=>w _ H F (cm.refl ri.sub) (.int i)
def f2 (g:D->D->Option D) (fa fb:aq->R D):aq->R D:=fun ρ=>fa ρ>>=fun x=>fb ρ>>=fun y=>R.of (g x y)
theorem aK {op:Operator} {r:R2} {g:D->D->Option D} (ho:kG X (binaryOp op) r) (sem:jD X.K r g) (ha:PB ly X a fa) (hb:PB ly X b fb):PQ ly X (.BinOp a op b pos) (f2 g fa fb):=fun c=>
 PE.weak (DM ho (ha c) (hb c)) fun σ H Q h=>two h fun F H2 F2 v u x y e rx ry w=>by
  obtain⟨d,hd,k⟩:=w.of
  exact sem v u x y d H2 F2 Q e.sub rx ry hd fun w H' F' e' r'=>k w H' F' (e.trans e') r'
def f1 (g:D->Option D) (fa:aq->R D):aq->R D:=fun ρ=>fa ρ>>=fun x=>R.of (g x)
theorem sJ {op:UnaryOp} {r:V->Hp->VK->Prop} {g:D->Option D} (ho:HF X (unaryOp op) r) (sem:H9 X.K r g) (ha:PB ly X a fa):PQ ly X (.UnaryOp op a pos) (f1 g fa):=fun c=>
 PE.weak (DN ho (ha c)) fun σ H Q ⟨F,ρ,ri,w⟩=>⟨F,ρ,ri,(aV.bind.mp w).imp fun x hx w1 v H1 F1 e1 r1=>by
  obtain⟨d,hd,k⟩:=w1.of
  exact sem v x d H1 F1 Q e1.sub r1 hd fun w H' F' e' r'=>k w H' F' (e1.trans e') r'⟩
theorem mR {op:CmpOp} {r:R2} {g:D->D->Option D} (ho:kG X (compareOp op) r) (sem:jD X.K r g) (ha:PB ly X a fa) (hb:PB ly X b fb) (hm:behindInMarks op b=false:=by first|exact zD _|with_unfolding_all rfl):
  PQ ly X (.Compare a [op] [b] pos) (f2 g fa fb):=fun c=>
 PE.weak (C9 ho (ha c) (hb c) hm) fun σ H Q h=>two h fun F H2 F2 v u x y e rx ry w=>by
  obtain⟨d,hd,k⟩:=w.of
  exact sem v u x y d H2 F2 Q e.sub rx ry hd fun w H' F' e' r'=>k w H' F' (e.trans e') r'
def fT (f:aq->R D):aq->R Bool:=fun ρ=>f ρ>>=fun d=>match d with
 | .bl b=> .ok b
 |_=> .bad
theorem Fo {t:TE} (h:PT X e (DO t)) (w:∀σ H Q,tQ X.K c f σ H Q->t σ H Q):PT X e (tT X.K c (fT f)):=PT.weak h fun σ H Q ⟨F,ρ,ri,k⟩=>by
 refine w σ H _ ⟨F,ρ,ri,(aV.bind.mp k).imp fun d _ k1 v H' F' e r=> ?_⟩
 cases d with
 |bl b=>cases r;exact⟨b,rfl,k1 H' F' e⟩
 |_=>exact k1.elim
theorem bG {op:CmpOp} {r:R2} {g:D->D->Option D} (ho:kG X (compareOp op) r) (sem:jD X.K r g) (ha:PB ly X a fa) (hb:PB ly X b fb) (hm:behindInMarks op b=false:=by first|exact zD _|with_unfolding_all rfl):
  tU ly X (.Compare a [op] [b] pos) (fT (f2 g fa fb)):=fun c=>Fo (Ca ho (ha c) (hb c) hm) fun σ H Q h=>two h fun F H2 F2 v u x y e rx ry w=>by
  obtain⟨d,hd,k⟩:=w.of
  exact sem v u x y d H2 F2 Q e.sub rx ry hd fun w H' F' e' r'=>k w H' F' (e.trans e') r'
def ai:aq->R (List D):=fun _=> .ok []
def aa (f:aq->R D) (fs:aq->R (List D)):aq->R (List D):=fun ρ=>f ρ>>=fun x=>fs ρ>>=fun xs=> .ok (x::xs)
theorem aj:vS ly X [] ai:=fun c=>PA.weak j_ fun σ H Q ⟨F,ρ,ri,w⟩=>w [] H F (cm.refl ri.sub) .nil
theorem ac (h:PQ ly X e f) (hr:vS ly X es fs) (hs:starEach (e::es) X.env=(false,eval e X.env)::starEach es X.env:=by rfl):vS ly X (e::es) (aa f fs):=fun c=>
 PA.weak (fO (h c) (hr c) hs) fun σ H Q ⟨F,ρ,ri,w⟩=>⟨F,ρ,ri,(aV.bind.mp w).imp fun x hx w1 v H1 F1 e1 r1=>⟨F1,ρ,ri.step e1,(aV.bind.mp w1).imp fun y hy w2 u H2 F2 e2 r2=>
  w2 _ H2 F2 (e1.trans e2) (.cons (r1.mono e2.grow) r2)⟩⟩
theorem aO:G_ ly X [] ai:=fun c=>PA.weak j_ fun σ H Q ⟨F,ρ,ri,w⟩=>w [] H F (cm.refl ri.sub) .nil
theorem aA (h:PB ly X e f) (hr:G_ ly X es fs) (hs:starEach (e::es) X.env=(false,eval e X.env)::starEach es X.env:=by rfl):G_ ly X (e::es) (aa f fs):=fun c=>
 PA.weak (fO (h c) (hr c) hs) fun σ H Q ⟨F,ρ,ri,w⟩=>⟨F,ρ,ri,(aV.bind.mp w).imp fun x hx w1 v H1 F1 e1 r1=>⟨F1,ρ,ri.step e1,(aV.bind.mp w1).imp fun y hy w2 u H2 F2 e2 r2=>
  w2 _ H2 F2 (e1.trans e2) (.cons (r1.mono e2) r2)⟩⟩
def lim:Nat:=100000
theorem iK:lim<=sizeLine:=by decide
def cn (fs:aq->R (List D)):aq->R D:=fun ρ=>fs ρ>>=fun ds=>if ds.length<=lim then .ok (.tup ds)else .bad
def ir (fs:aq->R (List D)):aq->R D:=fun ρ=>fs ρ>>=fun ds=>if ds.length<=lim then .ok (.lst ds)else .bad
theorem cB {x1:Nat} (h:vS ly X es fs):PQ ly X (.Tuple es x1 pos) (cn fs):=fun c=>PE.weak (EQ (h c)) fun σ H Q ⟨F,ρ,ri,w⟩=>⟨F,ρ,ri,(aV.bind.mp w).imp fun ds hd w1 vs H1 F1 e1 r1=>by
 split at w1
 ·rename_i hl
  refine⟨Nat.le_trans (by rw[r1.length];exact hl) iK,fun p hp=> ?_⟩
  have e2:=cm.lay (o:= .tup vs) e1.sub hp
  exact w1 _ _ _ (e1.trans e2) (.tup aC (r1.mono e2.grow))
 ·exact w1.elim⟩
theorem iL (h:vS ly X es fs):PQ ly X (.List es pos) (ir fs):=fun c=>PE.weak (zH (h c)) fun σ H Q ⟨F,ρ,ri,w⟩=>⟨F,ρ,ri,(aV.bind.mp w).imp fun ds hd w1 vs H1 F1 e1 r1=>by
 split at w1
 ·rename_i hl
  refine⟨Nat.le_trans (by rw[r1.length];exact hl) iK,fun p hp=> ?_⟩
  have e2:=cm.lay (o:= .lst vs) e1.sub hp
  exact w1 _ _ _ (e1.trans e2) (.lst aC (r1.mono e2.grow))
 ·exact w1.elim⟩
def d5 (g:List D->Option D) (fs:aq->R (List D)):aq->R D:=fun ρ=>fs ρ>>=fun ds=>R.of (g ds)
variable {x:Str} {p:Pos} {id T:String} {rc:List V->Hp->VK->Prop}
theorem xh {c:fU ly} {rc:List V->Hp->VK->Prop} {g:List D->Option D} (sem:m9 X.K rc g) {σ:St} {H:Hp} {Q:VK} (h:tQ X.K c (d5 g fs) σ H Q):Il rc (GZ X.K c fs) σ H Q:=by
 obtain⟨F,ρ,ri,w⟩:=h
 refine⟨F,ρ,ri,(aV.bind.mp w).imp fun ds hd w1 vs H1 F1 e1 r1=> ?_⟩
 obtain⟨d,hd,k⟩:=w1.of
 exact sem vs ds d H1 F1 Q e1.sub r1 hd fun w H' F' e' r'=>k w H' F' (e1.trans e') r'
theorem bz {g:List D->Option D} (hc:dH X (.builtin id) rc) (sem:m9 X.K rc g) (hm:X.mg x=none) (hv:bootBuiltins x=some (.builtin id)) (ha:G_ ly X (e::es) fs) (hg:Gl X x:=by rfl) (hn:x≠"__name__":=by decide) (hdb:(x==("__debug__":Str))=false:=by decide)
  (he:starEach (e::es) X.env=(false,eval e X.env)::starEach es X.env:=by rfl) (hpl:(backTo pos (starEach es X.env)).any (·.1)=false:=by rfl):PQ ly X (.Call (.Name x p) (e::es) [] pos) (d5 g fs):=fun c=>
 PE.weak (mK hc hg hm hv (ha c) hn hdb he hpl) fun σ H Q h=>xh sem h
theorem bn {g:List D->Option D} (hc:dH X (.type T) rc) (sem:m9 X.K rc g) (hm:X.mg x=none) (hv:bootBuiltins x=some (.type T)) (ha:G_ ly X (e::es) fs) (hg:Gl X x:=by rfl) (hn:x≠"__name__":=by decide) (hdb:(x==("__debug__":Str))=false:=by decide)
  (he:starEach (e::es) X.env=(false,eval e X.env)::starEach es X.env:=by rfl) (hpl:(backTo pos (starEach es X.env)).any (·.1)=false:=by rfl):PQ ly X (.Call (.Name x p) (e::es) [] pos) (d5 g fs):=fun c=>
 PE.weak (nL hc hg hm hv (ha c) hn hdb he hpl) fun σ H Q h=>xh sem h
def yt (K:PySem.W.Frag) (n:Nat) (m:List D->R D):Sp:=fun vs H Q E=>vs.length=n/\∃F ds,bw F H/\Reps K F vs ds/\match m ds with
 | .ok d=>∀v H' F',cm H F H' F'->fF K F' v d->Q v H'
 | .err x _=>∀cls a H' F',jp K x cls->cm H F H' F'->E cls a H'
 | .bad=>False
def ax (m:List D->R D) (n:Nat) (fs:aq->R (List D)):aq->R D:=fun ρ=>fs ρ>>=fun ds=>if ds.length=n then (match m ds with| .ok d=> .ok d| .err x _=> .err x ρ| .bad=> .bad)else .bad
theorem Fp {c:fU ly} {m:List D->R D} {n:Nat} {σ:St} {H:Hp} {Q:VK} (h:tQ X.K c (ax m n fs) σ H Q):DQ (yt X.K n m) [] (GY X c) (HK X.K c fs) σ H Q:=by
 obtain⟨F,ρ,ri,w⟩:=h
 refine⟨F,ρ,ri,(aV.bind.mp w).imp fun ds hd w1 vs H1 F1 e1 r1=> ?_⟩
 show yt X.K n m (vs++[]) H1 Q (GY X c σ)
 rw[List.append_nil]
 split at w1
 ·rename_i hl
  refine⟨by rw[r1.length];exact hl,F1,ds,e1.sub,r1,?_⟩
  split at w1
  ·exact fun v H' F' e' r'=>w1 v H' F' (e1.trans e') r'
  ·exact fun cls a H' F' ec e'=>⟨_,ρ,F',ec,ri.step (e1.trans e'),w1⟩
  ·exact w1.elim
 ·exact w1.elim
theorem Fq {n k:Nat} {m:List D->R D} {f:Addr} {fd:FuncData} {ps:List Str} (F:i7 X.prog X.w X.K X.mg X.base (oY X.prog X.w) k f fd ps (yt X.K n m)) (hr:eE k X.A) (hm:X.mg x=some (.ref f)) (hk:PySem.W.keepIn X.K (.ref f)=true) (hb:ix X.K fd ps [])
  (ha:vS ly X (e::es) fs) (hg:Gl X x:=by rfl) (hdb:(x==("__debug__":Str))=false:=by decide) (he:starEach (e::es) X.env=(false,eval e X.env)::starEach es X.env:=by rfl) (hpl:(backTo pos (starEach es X.env)).any (·.1)=false:=by rfl):
  PQ ly X (.Call (.Name x p) (e::es) [] pos) (ax m n fs):=fun c=>PE.weak (Cg F hr hg hm hk hb .nil (xg c) (ha c) hdb he hpl) fun σ H Q h=>Fp h
variable {ga gb:aq->R Bool} {rest:List Expr}
def oK (ga gb:aq->R Bool):aq->R Bool:=fun ρ=>ga ρ>>=fun b=>if b=true then gb ρ else .ok false
def nS (ga gb:aq->R Bool):aq->R Bool:=fun ρ=>ga ρ>>=fun b=>if b=true then .ok true else gb ρ
def eJ (ga:aq->R Bool):aq->R Bool:=fun ρ=>ga ρ>>=fun b=> .ok (!b)
theorem nI.t (h:nI ly X e ga):tU ly X e ga:=fun c=>(h c).pt
theorem ma (h:tU ly X a ga):nI ly X (.BoolOp .And [a] pos) ga:=fun c=>C4 (h c)
theorem jE (h:tU ly X a ga):nI ly X (.BoolOp .Or [a] pos) ga:=fun c=>Eu (h c)
theorem pP (h:tU ly X a ga) (hb:nI ly X (.BoolOp .And (b::rest) pos) gb):nI ly X (.BoolOp .And (a::b::rest) pos) (oK ga gb):=fun c=>PW.weak (Ew (h c) (hb c)) fun σ H Q ⟨F,ρ,ri,w⟩=>
 ⟨F,ρ,ri,(aV.bind.mp w).imp fun b hb w1 H1 F1 e1=>by
  cases b with
  |true=>exact⟨F1,ρ,ri.step e1,w1.imp fun b' _ k H2 F2 e2=>k H2 F2 (e1.trans e2)⟩
  |false=>exact w1 H1 F1 e1⟩
theorem kP (h:tU ly X a ga) (hb:nI ly X (.BoolOp .Or (b::rest) pos) gb):nI ly X (.BoolOp .Or (a::b::rest) pos) (nS ga gb):=fun c=>PW.weak (Gf (h c) (hb c)) fun σ H Q ⟨F,ρ,ri,w⟩=>
 ⟨F,ρ,ri,(aV.bind.mp w).imp fun b hb w1 H1 F1 e1=>by
  cases b with
  |false=>exact⟨F1,ρ,ri.step e1,w1.imp fun b' _ k H2 F2 e2=>k H2 F2 (e1.trans e2)⟩
  |true=>exact w1 H1 F1 e1⟩
theorem eK (h:tU ly X a ga):tU ly X (.UnaryOp .Not a pos) (eJ ga):=fun c=>PT.weak (Ex (h c)) fun σ H Q ⟨F,ρ,ri,w⟩=>⟨F,ρ,ri,(aV.bind.mp w).imp fun b hb w1 H1 F1 e1=>w1 H1 F1 e1⟩
def kQ (fa fb:aq->R D):aq->R D:=fun ρ=>fa ρ>>=fun d=>match d with
 | .bl true=>fb ρ
 | .bl false=> .ok (.bl false)
 |_=> .bad
def IB (fa fb:aq->R D):aq->R D:=fun ρ=>fa ρ>>=fun d=>match d with
 | .bl true=> .ok (.bl true)
 | .bl false=>fb ρ
 |_=> .bad
def pQ (fa:aq->R D):aq->R D:=fun ρ=>fa ρ>>=fun d=>match d with
 | .bl b=> .ok (.bl (!b))
 |_=> .bad
theorem uf {op:PySem.BoolOp} (h:PQ ly X a fa):PQ ly X (.BoolOp op [a] pos) fa:=fun c=>Ey (h c)
theorem rH (ha:PQ ly X a fa) (hb:PQ ly X (.BoolOp .And (b::rest) pos) fb):PQ ly X (.BoolOp .And (a::b::rest) pos) (kQ fa fb):=fun c=>PE.weak (Ez (ha c) (hb c)) fun σ H Q ⟨F,ρ,ri,w⟩=>
 ⟨F,ρ,ri,(aV.bind.mp w).imp fun d hd w1 v H1 F1 e1 r1=>by
  cases d with
  |bl b=>
   cases r1
   cases b with
   |true=>exact⟨true,rfl,F1,ρ,ri.step e1,w1.imp fun b' _ k v H2 F2 e2 r2=>k v H2 F2 (e1.trans e2) r2⟩
   |false=>exact⟨false,rfl,w1 _ H1 F1 e1 (.bl false)⟩
  |_=>exact w1.elim⟩
theorem E0 (ha:PQ ly X a fa):PQ ly X (.UnaryOp .Not a pos) (pQ fa):=fun c=>PE.weak (EA (ha c)) fun σ H Q ⟨F,ρ,ri,w⟩=>⟨F,ρ,ri,(aV.bind.mp w).imp fun d hd w1 v H1 F1 e1 r1=>by
  cases d with
  |bl b=>cases r1;exact⟨b,rfl,w1 _ H1 F1 e1 (.bl _)⟩
  |_=>exact w1.elim⟩
def Ha (gc:aq->R Bool) (fa fb:aq->R D):aq->R D:=fun ρ=>gc ρ>>=fun b=>if b=true then fa ρ else fb ρ
theorem CS {t:Expr} (ht:tU ly X t ga) (ha:PQ ly X a fa) (hb:PQ ly X b fb):PQ ly X (.IfExp t a b pos) (Ha ga fa fb):=fun c=>PE.weak (zq (ht c) (ha c) (hb c)) fun σ H Q ⟨F,ρ,ri,w⟩=>
 ⟨F,ρ,ri,(aV.bind.mp w).imp fun b hb w1 H1 F1 e1=>by
  cases b with
  |true=>exact⟨F1,ρ,ri.step e1,w1.imp fun b' _ k v H2 F2 e2 r2=>k v H2 F2 (e1.trans e2) r2⟩
  |false=>exact⟨F1,ρ,ri.step e1,w1.imp fun b' _ k v H2 F2 e2 r2=>k v H2 F2 (e1.trans e2) r2⟩⟩
def gS:D->Option Bool
 | .non=>some false
 | .bl b=>some b
 | .int i=>some (i != 0)
 | .lst ds=>some (!ds.isEmpty)
 | .tup ds=>some (!ds.isEmpty)
 | .dic ds=>some (!ds.isEmpty)
 |_=>none
def cp (f:aq->R D):aq->R Bool:=fun ρ=>f ρ>>=fun d=>R.of (gS d)
theorem Reps.isEmpty {K:PySem.W.Frag} {F:Hp}:∀{vs:List V} {ds:List D},Reps K F vs ds->vs.isEmpty=ds.isEmpty
 |_,_, .nil=>rfl
 |_,_, .cons _ _=>rfl
theorem RepK.isEmpty {K:PySem.W.Frag} {F:Hp}:∀{vs:List (bx×V)} {ds:List (bx×D)},RepK K F vs ds->vs.isEmpty=ds.isEmpty
 |_,_, .nil=>rfl
 |_,_, .cons _ _=>rfl
theorem d4 (h:PB ly X e f) (he:∀whole,isTrue e X.env whole=(do let v<-whole;standAt e.pos;holding [v] (truthy v)):=by intro _;rfl):tU ly X e (cp f):=fun c=>PT.weak (zE (h c) he) fun σ H Q ⟨F,ρ,ri,w⟩=>
 ⟨F,ρ,ri,(aV.bind.mp w).imp fun d hd w1 v H1 F1 e1 r1=>by
  obtain⟨b,hb,k⟩:=w1.of
  refine⟨b,?_,k H1 F1 e1⟩
  cases d with
  |non=>cases r1.non;cases hb;rfl
  |bl=>cases r1.bl;cases hb;rfl
  |int=>cases r1.int;cases hb;rfl
  |lst ds=>obtain⟨a,vs,rfl,h1,h2⟩:=r1.lst e1.sub;cases hb;exact .inl ⟨vs,fz.of h1,by rw[h2.isEmpty]⟩
  |tup ds=>obtain⟨a,vs,rfl,h1,h2⟩:=r1.tup e1.sub;cases hb;exact .inr (.inl ⟨vs,iH.of h1,by rw[h2.isEmpty]⟩)
  |dic ds=>obtain⟨a,vs,rfl,h1,h2,h3⟩:=r1.dic e1.sub;cases hb;exact .inr (.inr ⟨vs,h1,by rw[h2.isEmpty]⟩)
  |_=>cases hb⟩
end
end L2.Pu
namespace L2.Pu
open PySem PySem.Spec PyProof.Rows
variable {ly:List jn}
inductive bM where
 |nx (ρ:aq)|ret (d:D)|brk (ρ:aq)|cnt (ρ:aq)
def gA (K:PySem.W.Frag) (c:fU ly) (F:Hp) (D:lZ):bM->Prop
 | .nx ρ=>∀σ' H' F',bw F F'->RI K c ρ σ' H' F'->D.nx σ' H'
 | .brk ρ=>∀σ' H' F',bw F F'->RI K c ρ σ' H' F'->D.bk σ' H'
 | .cnt ρ=>∀σ' H' F',bw F F'->RI K c ρ σ' H' F'->D.ct σ' H'
 | .ret d=>∀v H' F',bw F F'->cm c.H0 c.F0 H' F'->fF K F' v d->D.rt v H'
theorem gA.mono {K:PySem.W.Frag} {c:fU ly} {F F1:Hp} {D:lZ} (g:bw F F1):∀{o:bM},gA K c F D o->gA K c F1 D o
 | .nx ρ,h=>fun σ' H' F' s r=>h σ' H' F' (g.trans s) r
 | .brk ρ,h=>fun σ' H' F' s r=>h σ' H' F' (g.trans s) r
 | .cnt ρ,h=>fun σ' H' F' s r=>h σ' H' F' (g.trans s) r
 | .ret d,h=>fun v H' F' s e r=>h v H' F' (g.trans s) e r
def tS (K:PySem.W.Frag) (c:fU ly) (g:aq->R bM):TS:=fun D σ H=>∃F ρ,RI K c ρ σ H F/\aV c (g ρ) (gA K c F D)
def og (ly:List jn) (X:Cx) (st:Stmt) (g:aq->R bM):Prop:=∀c:kO ly X,PS X st (tS X.K c.1 g)
def md (ly:List jn) (X:Cx) (st:List Stmt) (g:aq->R bM):Prop:=∀c:kO ly X,qJ X st (tS X.K c.1 g)
section
variable {X:Cx} {st:Stmt} {rest:List Stmt} {a b e:Expr} {es:List Expr} {fa fb f:aq->R D} {fs:aq->R (List D)} {ga gb g g':aq->R bM} {gt:aq->R Bool} {pos:Pos}
def aJ:aq->R bM:=fun ρ=> .ok (.nx ρ)
def aw (g g':aq->R bM):aq->R bM:=fun ρ=>g ρ>>=fun o=>match o with
 | .nx ρ'=>g' ρ'
 |o=> .ok o
theorem aQ:md ly X [] aJ:=fun c=>qJ.weak C5 fun D σ H ⟨F,ρ,ri,w⟩=>w σ H F (bw.refl _) ri
theorem ag (h:og ly X st g) (hr:md ly X rest g'):md ly X (st::rest) (aw g g'):=fun c=>qJ.weak (zr (h c) (hr c)) fun D σ H ⟨F,ρ,ri,w⟩=>by
 refine⟨F,ρ,ri,(aV.bind.mp w).imp fun o ho w1=> ?_⟩
 cases o with
 |nx ρ'=>exact fun σ' H' F' s r=>⟨F',ρ',r,w1.imp fun o' _ k=>k.mono s⟩
 |ret d=>exact w1
 |brk ρ'=>exact w1
 |cnt ρ'=>exact w1
theorem ar (h:og ly X st g):md ly X [st] g:=fun c=>qJ.weak (C6 (h c)) fun D σ H w=>w
def oM (L:List Nat) (g:aq->R bM):aq->R bM:=fun ρ=>g (frz L ρ)
theorem lM (L:List Nat) (h:og ly X st g):og ly X st (oM L g):=fun c=>PS.weak (h c) fun D σ H ⟨F,ρ,ri,w⟩=>by
 obtain⟨F',s,ri'⟩:=ri.frz L
 exact⟨F',_,ri',w.imp fun o _ k=>k.mono s⟩
def yu:aq->R bM:=fun ρ=> .ok (.cnt ρ)
theorem pR:og ly X (.Continue pos) yu:=fun c=>PS.weak tX fun D σ H ⟨F,ρ,ri,w⟩=>w σ H F (bw.refl _) ri
def aX (f:aq->R D):aq->R bM:=fun ρ=>f ρ>>=fun d=> .ok (.ret d)
theorem aR (h:PQ ly X e f):og ly X (.Return (some e) pos) (aX f):=fun c=>PS.weak (EB (h c)) fun D σ H ⟨F,ρ,ri,w⟩=>
 ⟨F,ρ,ri,(aV.bind.mp w).imp fun d _ w1 v H' F' e r=>w1 v H' F' e.grow (ri.ext.trans e) r⟩
def cF (gc:aq->R Bool) (g g':aq->R bM):aq->R bM:=fun ρ=>gc ρ>>=fun b=>if b=true then g ρ else g' ρ
theorem ce {ta tb:List Stmt} (hc:tU ly X e gt) (ha:md ly X ta g) (hb:md ly X tb g'):og ly X (.If e ta tb pos) (cF gt g g'):=fun c=>PS.weak (Gm (hc c) (ha c) (hb c)) fun D σ H ⟨F,ρ,ri,w⟩=>
 ⟨F,ρ,ri,(aV.bind.mp w).imp fun b hb w1 H1 F1 e1=>by
  cases b with
  |true=>exact⟨F1,ρ,ri.step e1,w1.imp fun o _ k=>k.mono e1.grow⟩
  |false=>exact⟨F1,ρ,ri.step e1,w1.imp fun o _ k=>k.mono e1.grow⟩⟩
def tG (K:PySem.W.Frag) (c:fU ly) (gt:D->aq->R aq):TG:=fun v σ H Q=>∃F ρ d,RI K c ρ σ H F/\fF K F v d/\aV c (gt d ρ) fun ρ'=>∀σ' H' F',bw F F'->RI K c ρ' σ' H' F'->Q σ' H'
def CT (ly:List jn) (X:Cx) (tg:Expr) (gt:D->aq->R aq):Prop:=∀c:kO ly X,PG X tg (tG X.K c.1 gt)
def gN (i:Nat):D->aq->R aq:=fun d ρ=> .ok (ρ.set i (some (.val d)))
theorem a_ (i:Nat) {x:Str} (hN:X.N.Nodup) (hi:X.N[i]? =some x:=by rfl) (hx:xT X.env.scope x:=by first|exact Or.inl rfl|exact Or.inr rfl) (hf:X.fn x=true\/X.env.scope.names.lookup x=some .local:=by first|exact .inl rfl|exact .inr rfl|assumption) (hfr:kN ly i:=by(repeat (first|assumption|exact L2.Pu.dZ|refine L2.Pu.free_cons ⟨by first|decide|simp,by first|decide|simp⟩ ?_))):CT ly X (.Name x pos) (gN i):=
 fun c=>PG.weak (wQ hN hi hx hf) fun v σ H Q ⟨F,ρ,d,ri,r,w⟩=>w _ H F (bw.refl _) (ri.setVal i hfr r)
def IS (K:PySem.W.Frag) (c:fU ly) (gt:List D->aq->R aq):zt:=fun vs σ H Q=>∃F ρ ds,RI K c ρ σ H F/\Reps K F vs ds/\aV c (gt ds ρ) fun ρ'=>∀σ' H' F',bw F F'->RI K c ρ' σ' H' F'->Q σ' H'
def Ai (ly:List jn) (X:Cx) (tg:List Expr) (gt:List D->aq->R aq):Prop:=∀c:kO ly X,zu X tg (IS X.K c.1 gt)
theorem zu.weak {X:Cx} {e:List Expr} {t t':zt} (h:zu X e t) (w:∀v σ H Q,t' v σ H Q->t v σ H Q):zu X e t':=fun pins s σ H v u Q I r q=>h pins s σ H v u Q I r (w v σ H Q q)
def gB:List D->aq->R aq:=fun ds ρ=>match ds with
 |[]=> .ok ρ
 |_=> .bad
def bi (g:D->aq->R aq) (gs:List D->aq->R aq):List D->aq->R aq:=fun ds ρ=>match ds with
 |[]=> .bad
 |d::r=>g d ρ>>=fun ρ'=>gs r ρ'
theorem kd:Ai ly X [] gB:=fun c=>zu.weak C7 fun vs σ H Q ⟨F,ρ,ds,ri,r,w⟩=>by
 cases r with
 |nil=>exact⟨rfl,w σ H F (bw.refl _) ri⟩
 |cons _ _=>exact w.elim
theorem cb {g:D->aq->R aq} {gs:List D->aq->R aq} (h:CT ly X e g) (hr:Ai ly X es gs) (hs:(assignEach (e::es) X.env).map (·.2)=assign e X.env::(assignEach es X.env).map (·.2):=by rfl):Ai ly X (e::es) (bi g gs):=
 fun c=>zu.weak (zv (h c) (hr c) hs) fun vs σ H Q ⟨F,ρ,ds,ri,r,w⟩=>by
 cases r with
 |nil=>exact w.elim
 | @cons v d vs ds r t=>
  refine⟨v,vs,rfl,F,ρ,d,ri,r,(aV.bind.mp w).imp fun ρ' _ w1 σ' H' F' s ri'=>⟨F',ρ',ds,ri',t.mono s,w1.imp fun ρ2 _ k σ2 H2 F2 s2 r2=>k σ2 H2 F2 (s.trans s2) r2⟩⟩
def gC (n:Nat) (gs:List D->aq->R aq):D->aq->R aq:=fun d ρ=>match d with
 | .tup ds=>if ds.length=n then gs ds ρ else .bad
 | .lst ds=>if ds.length=n then gs ds ρ else .bad
 |_=> .bad
theorem PG.or {X:Cx} {e:Expr} {t t':TG} (h:PG X e t) (h':PG X e t'):PG X e (fun v σ H Q=>t v σ H Q\/t' v σ H Q):=fun pins s σ H v u Q I r q=>q.elim (fun q=>h pins s σ H v u Q I r q) fun q=>h' pins s σ H v u Q I r q
theorem oh {k n:Nat} {gs:List D->aq->R aq} (hc:X.calm=true) (h:Ai ly X es gs) (hn:(assignEach es X.env).length=n:=by rfl) (hst:(assignEach es X.env).findIdx? (·.1)=none:=by rfl):CT ly X (.Tuple es k pos) (gC n gs):=
 fun c=>PG.weak (PG.or (zw hc (h c) hn hst) (Ab hc (h c) hn hst)) fun v σ H Q ⟨F,ρ,d,ri,r,w⟩=>by
 cases r with
 | @tup a vs ds h1 h2=>
  change aV c.1 (if ds.length=n then gs ds ρ else .bad) _ at w
  split at w
  ·rename_i hl
   exact .inl ⟨a,vs,rfl,iH.of (ri.sub _ _ h1),by rw[h2.length];exact hl,F,ρ,ds,ri,h2,w⟩
  ·exact w.elim
 | @lst a vs ds h1 h2=>
  change aV c.1 (if ds.length=n then gs ds ρ else .bad) _ at w
  split at w
  ·rename_i hl
   exact .inr ⟨a,vs,rfl,fz.of (ri.sub _ _ h1),by rw[h2.length];exact hl,F,ρ,ds,ri,h2,w⟩
  ·exact w.elim
 |_=>exact w.elim
def aY (f:aq->R D) (g:D->aq->R aq):aq->R bM:=fun ρ=>f ρ>>=fun d=>g d ρ>>=fun ρ'=> .ok (.nx ρ')
theorem Fs {c:fU ly} {g:D->aq->R aq} {K:PySem.W.Frag} {D':lZ} {σ:St} {H:Hp} (h:tS K c (aY f g) D' σ H):EE (tQ K c f) (tG K c g) D' σ H:=by
 obtain⟨F,ρ,ri,w⟩:=h
 refine⟨F,ρ,ri,(aV.bind.mp w).imp fun d _ w1 v H1 F1 e1 r1=>⟨F1,ρ,d,ri.step e1,r1,(aV.bind.mp w1).imp fun ρ' _ w2 σ' H' F' s r'=>w2 σ' H' F' (e1.grow.trans s) r'⟩⟩
theorem Aj {tg:Expr} {g:D->aq->R aq} (he:PQ ly X e f) (hg:CT ly X tg g) (hs:swapsWithSole [tg] e pos.line X.env=pure false:=by rfl) (hw:swappedStores [tg] e X.env=pure none:=by rfl)
  (h1:(assignEach [tg] X.env).map (·.2)=[assign tg X.env]:=by rfl):og ly X (.Assign [tg] e pos) (aY f g):=fun c=>PS.weak (vi (he c) (hg c) hs hw h1) fun D σ H h=>Fs h
theorem aW (i:Nat) {x:Str} {pos':Pos} (hN:X.N.Nodup) (he:PQ ly X e f) (hi:X.N[i]? =some x:=by rfl) (hx:xT X.env.scope x:=by first|exact Or.inl rfl|exact Or.inr rfl) (hs:swapsWith e (some (.Name x pos')) pos.line X.env=pure false:=by rfl)
  (hf:X.fn x=true\/X.env.scope.names.lookup x=some .local:=by first|exact .inl rfl|exact .inr rfl|assumption) (hfr:kN ly i:=by(repeat (first|assumption|exact L2.Pu.dZ|refine L2.Pu.free_cons ⟨by first|decide|simp,by first|decide|simp⟩ ?_))):og ly X (.Assign [.Name x pos'] e pos) (aY f (gN i)):=fun c=>
 PS.weak (m3 hN hi hx (he c) hs hf) fun D σ H h=>by
  obtain⟨F,ρ,ri,w⟩:=h
  exact⟨F,ρ,ri,(aV.bind.mp w).imp fun d _ w1 v H1 F1 e1 r1=>w1 _ H1 F1 e1.grow ((ri.step e1).setVal i hfr r1)⟩
def Ft (i j:Nat) (fs:aq->R (List D)):aq->R bM:=fun ρ=>fs ρ>>=fun ds=>match ds with
 |[x,y]=> .ok (.nx ((ρ.set i (some (.val x))).set j (some (.val y))))
 |_=> .bad
theorem Hb (i j:Nat) {x y:Str} {px py pt:Pos} {kt k2:Nat} {pt2:Pos} (hc:X.calm=true) (hN:X.N.Nodup) (ha:vS ly X [a,b] fs) (hi:X.N[i]? =some x:=by rfl) (hj:X.N[j]? =some y:=by rfl) (hij:i≠j:=by decide)
  (hx:X.env.scope.names.lookup x=some .local:=by rfl) (hy:X.env.scope.names.lookup y=some .local:=by rfl)
  (hw:swappedStores [.Tuple [.Name x px, .Name y py] kt pt] (.Tuple [a,b] k2 pt2) X.env=pure (some [x,y]):=by rfl)
  (hs:swapsWithSole [.Tuple [.Name x px, .Name y py] kt pt] (.Tuple [a,b] k2 pt2) pos.line X.env=pure false:=by rfl) (hfr:kN ly i:=by(repeat (first|assumption|exact L2.Pu.dZ|refine L2.Pu.free_cons ⟨by first|decide|simp,by first|decide|simp⟩ ?_))) (hfr2:kN ly j:=by(repeat (first|assumption|exact L2.Pu.dZ|refine L2.Pu.free_cons ⟨by first|decide|simp,by first|decide|simp⟩ ?_))):
  og ly X (.Assign [.Tuple [.Name x px, .Name y py] kt pt] (.Tuple [a,b] k2 pt2) pos) (Ft i j fs):=fun c=>PS.weak (EF hc hN hi hj hij hx hy (ha c) hw hs) fun D σ H ⟨F,ρ,ri,w⟩=>
 ⟨F,ρ,ri,(aV.bind.mp w).imp fun ds _ w1 vs H1 F1 e1 r1=>by
  cases ds with
  |nil=>exact w1.elim
  |cons dx ds=>
   cases ds with
   |nil=>exact w1.elim
   |cons dy ds=>
    cases ds with
    |cons _ _=>exact w1.elim
    |nil=>
     obtain⟨vx,us,rfl,rx,t⟩:=r1.consI
     obtain⟨vy,us2,rfl,ry,t2⟩:=t.consI
     cases t2.nilI
     exact⟨vx,vy,rfl,w1 _ H1 F1 e1.grow (((ri.step e1).setVal i hfr rx).setVal j hfr2 ry)⟩⟩
def ie (i:Nat) (fs:aq->R (List D)):aq->R bM:=fun ρ=>fs ρ>>=fun ds=>if ds.length<=lim then .ok (.nx (ρ.set i (some (.own (.lst ds)))))else .bad
theorem fV (i:Nat) {x:Str} {pos' pl:Pos} (hN:X.N.Nodup) (h:vS ly X es fs) (hi:X.N[i]? =some x:=by rfl) (hx:xT X.env.scope x:=by first|exact Or.inl rfl|exact Or.inr rfl) (hs:swapsWith (.List es pl) (some (.Name x pos')) pos.line X.env=pure false:=by rfl)
  (hf:X.fn x=true\/X.env.scope.names.lookup x=some .local:=by first|exact .inl rfl|exact .inr rfl|assumption) (hfr:kN ly i:=by(repeat (first|assumption|exact L2.Pu.dZ|refine L2.Pu.free_cons ⟨by first|decide|simp,by first|decide|simp⟩ ?_))):og ly X (.Assign [.Name x pos'] (.List es pl) pos) (ie i fs):=fun c=>
 PS.weak (m3 hN hi hx (zH (h c)) hs hf) fun D σ H ⟨F,ρ,ri,w⟩=>⟨F,ρ,ri,(aV.bind.mp w).imp fun ds _ w1 vs H1 F1 e1 r1=>by
  split at w1
  ·rename_i hl
   refine⟨Nat.le_trans (by rw[r1.length];exact hl) iK,fun p hp=> ?_⟩
   exact w1 _ _ F1 e1.grow ((ri.step e1).setNew i hfr hp (.lst r1))
  ·exact w1.elim⟩
def Ak (i:Nat):aq->R bM:=fun ρ=> .ok (.nx (ρ.set i (some (.own (.dic [])))))
theorem Al (i:Nat) {x:Str} {pos' pl:Pos} (hN:X.N.Nodup) (hi:X.N[i]? =some x:=by rfl) (hx:xT X.env.scope x:=by first|exact Or.inl rfl|exact Or.inr rfl) (hs:swapsWith (.Dict [] [] pl) (some (.Name x pos')) pos.line X.env=pure false:=by rfl)
  (hf:X.fn x=true\/X.env.scope.names.lookup x=some .local:=by first|exact .inl rfl|exact .inr rfl|assumption) (hfr:kN ly i:=by(repeat (first|assumption|exact L2.Pu.dZ|refine L2.Pu.free_cons ⟨by first|decide|simp,by first|decide|simp⟩ ?_))):og ly X (.Assign [.Name x pos'] (.Dict [] [] pl) pos) (Ak i):=fun c=>
 PS.weak (m3 hN hi hx zT hs hf) fun D σ H ⟨F,ρ,ri,w⟩=>fun p hp=>w _ _ F (bw.refl _) (ri.setNew i hfr hp (.dic .nil List.nodup_nil))
structure yv (K:PySem.W.Frag) (F:Hp) (J:It) (ds:List D):Prop where
 go:∀i H,bw F H->i<ds.length->J.go i H
 stop:∀H,bw F H->J.stop ds.length H
 yld:∀i H F1 x H',bw F F1->bw F1 H->J.yld i H x H'->i<ds.length->∃F' d,ds[i]? =some d/\cm H F1 H' F'/\fF K F' x d
def tI (K:PySem.W.Frag) (c:fU ly) (fi:aq->R (List D)):TI:=fun σ H Rk=>∃F ρ,RI K c ρ σ H F/\aV c (fi ρ) fun ds=>∀J H' F',cm H F H' F'->yv K F' J ds->Rk J H'
def Fu (ly:List jn) (X:Cx) (tg iter:Expr) (fi:aq->R (List D)):Prop:=∀c:kO ly X,PI X tg iter (tI X.K c.1 fi)
theorem PI.weak {X:Cx} {tg e:Expr} {t t':TI} (h:PI X tg e t) (w:∀σ H Rk,t' σ H Rk->t σ H Rk):PI X tg e t':=fun pins s σ H Rk I q=>h pins s σ H Rk I (w σ H Rk q)
def bV (g:D->aq->R aq) (gb:aq->R bM):List D->aq->R bM
 |[],ρ=> .ok (.nx ρ)
 |d::r,ρ=>g d ρ>>=fun ρ1=>gb ρ1>>=fun o=>match o with
  | .nx ρ2=>bV g gb r ρ2
  | .cnt ρ2=>bV g gb r ρ2
  | .brk ρ2=> .ok (.nx ρ2)
  | .ret d=> .ok (.ret d)
def gw (fi:aq->R (List D)) (g:D->aq->R aq) (gb:aq->R bM):aq->R bM:=fun ρ=>fi ρ>>=fun ds=>bV g gb ds ρ
theorem vT {g:D->aq->R aq} {gb:aq->R bM} {ds:List D} {i:Nat} {d:D} {ρ:aq} (h:ds[i]? =some d):bV g gb (ds.drop i) ρ=(g d ρ>>=fun ρ1=>gb ρ1>>=fun o=>match o with
  | .nx ρ2=>bV g gb (ds.drop (i+1)) ρ2
  | .cnt ρ2=>bV g gb (ds.drop (i+1)) ρ2
  | .brk ρ2=> .ok (.nx ρ2)
  | .ret d=> .ok (.ret d)):=by
 obtain⟨hl,e⟩:=List.getElem?_eq_some_iff.mp h
 rw[List.drop_eq_getElem_cons hl,e]
 rfl
theorem Fv {K:PySem.W.Frag} {c:fU ly} {fi:aq->R (List D)} {g:D->aq->R aq} {D':lZ} {σ:St} {H:Hp} (h:tS K c (gw fi g gb) D' σ H):Gu (tI K c fi) (tG K c g) (tS K c gb) D' σ H:=by
 obtain⟨F,ρ,ri,w⟩:=h
 refine⟨F,ρ,ri,(aV.bind.mp w).imp fun ds _ w1 J H1 F1 e1 jo=> ?_⟩
 refine⟨fun i m σ H=>∃F2 ρ2,RI K c ρ2 σ H F2/\bw F1 F2/\m=ds.length - i/\i<=ds.length/\aV c (bV g gb (ds.drop i) ρ2) (gA K c F2 D'),⟨_,F1,ρ,ri.step e1,bw.refl _,rfl,Nat.zero_le _,w1.imp fun o _ k=>k.mono e1.grow⟩,?_⟩
 rintro i m σ2 H2 ⟨F2,ρ2,ri2,s2,rfl,hi,w2⟩
 by_cases hl:i<ds.length
 ·refine .inr ⟨jo.go i H2 (s2.trans ri2.sub) hl,fun σ' H'=>∃F3 ρ3,RI K c ρ3 σ' H' F3/\bw F2 F3/\aV c (bV g gb (ds.drop (i+1)) ρ3) (gA K c F3 D'),?_,fun x H3 y=> ?_⟩
  ·rintro σ' H' ⟨F3,ρ3,ri3,s3,w3⟩
   exact⟨ds.length - (i+1),by omega,F3,ρ3,ri3,s2.trans s3,rfl,hl,w3⟩
  ·obtain⟨F3,d,hd,e3,r3⟩:=jo.yld i H2 F2 x H3 s2 ri2.sub y hl
   rw[vT hd]at w2
   refine⟨F3,ρ2,d,ri2.step e3,r3,(aV.bind.mp w2).imp fun ρ3 _ w3 σ4 H4 F4 s4 r4=>⟨F4,ρ3,r4,(aV.bind.mp w3).imp fun o _ w4=> ?_⟩⟩
   have s24:bw F2 F4:=e3.grow.trans s4
   cases o with
   |nx ρ5=>exact fun σ' H' F' s' r'=>⟨F',ρ5,r',s24.trans s',w4.imp fun o _ k=>k.mono (s24.trans s')⟩
   |cnt ρ5=>exact fun σ' H' F' s' r'=>⟨F',ρ5,r',s24.trans s',w4.imp fun o _ k=>k.mono (s24.trans s')⟩
   |brk ρ5=>exact fun σ' H' F' s' r'=>w4 σ' H' F' (s24.trans s') r'
   |ret d=>exact fun v H' F' s' e' r'=>w4 v H' F' (s24.trans s') e' r'
 ·have e:i=ds.length:=by omega
  subst e
  rw[List.drop_length]at w2
  exact .inl ⟨jo.stop H2 (s2.trans ri2.sub),w2 σ2 H2 F2 (bw.refl _) ri2⟩
theorem fG {tg iter:Expr} {body:List Stmt} {fi:aq->R (List D)} {g:D->aq->R aq} (hp:PassesOwn (model X.prog X.w) X.A X.env X.xe) (hc:X.calm=true) (hi:Fu ly X tg iter fi) (hg:CT ly X tg g) (hb:md ly X body gb)
  (hs:∀x,foldedSetIterable iter X.env x=pure x:=by intro _;rfl):og ly X (.For tg iter body [] pos) (gw fi g gb):=fun c=>PS.weak (EH hp hc (hi c) (hg c) (hb c) hs) fun D σ H h=>Fv h
def cS (gt:aq->R Bool) (gb:aq->R bM):Nat->aq->R bM
 |0,_=> .bad
 |n+1,ρ=>gt ρ>>=fun b=>if b=true then (gb ρ>>=fun o=>match o with
   | .nx ρ2=>cS gt gb n ρ2
   | .cnt ρ2=>cS gt gb n ρ2
   | .brk ρ2=> .ok (.nx ρ2)
   | .ret d=> .ok (.ret d))else .ok (.nx ρ)
theorem Am {K:PySem.W.Frag} {c:fU ly} {D':lZ} {σ:St} {H:Hp} {n:Nat} (h:tS K c (cS gt gb n) D' σ H):zx (tT K c gt) (tS K c gb) D' σ H:=by
 obtain⟨F,ρ,ri,w⟩:=h
 refine⟨fun m σ H=>∃F2 ρ2,RI K c ρ2 σ H F2/\aV c (cS gt gb m ρ2) (gA K c F2 D'),⟨n,F,ρ,ri,w⟩,?_⟩
 rintro m σ2 H2 ⟨F2,ρ2,ri2,w2⟩
 cases m with
 |zero=>exact w2.elim
 |succ m=>
  refine⟨F2,ρ2,ri2,(aV.bind.mp w2).imp fun b _ w3 H3 F3 e3=> ?_⟩
  cases b with
  |false=>exact w3 σ2 H3 F3 e3.grow (ri2.step e3)
  |true=>
   refine⟨fun σ' H'=>∃F4 ρ4,RI K c ρ4 σ' H' F4/\aV c (cS gt gb m ρ4) (gA K c F4 D'),fun σ' H' k=>⟨m,Nat.lt_succ_self _,k⟩,F3,ρ2,ri2.step e3,(aV.bind.mp w3).imp fun o _ w4=> ?_⟩
   cases o with
   |nx ρ5=>exact fun σ' H' F' s' r'=>⟨F',ρ5,r',w4.imp fun o _ k=>k.mono (e3.grow.trans s')⟩
   |cnt ρ5=>exact fun σ' H' F' s' r'=>⟨F',ρ5,r',w4.imp fun o _ k=>k.mono (e3.grow.trans s')⟩
   |brk ρ5=>exact fun σ' H' F' s' r'=>w4 σ' H' F' (e3.grow.trans s') r'
   |ret d=>exact fun v H' F' s' e' r'=>w4 v H' F' (e3.grow.trans s') e' r'
theorem sK {body:List Stmt} (n:Nat) (hp:PassesOwn (model X.prog X.w) X.A X.env X.xe) (hc:tU ly X e gt) (hb:md ly X body gb):og ly X (.While e body [] pos) (cS gt gb n):=fun c=>PS.weak (zy hp (hc c) (hb c)) fun D σ H h=>Am h
theorem yw {K:PySem.W.Frag} {F:Hp} {a:Addr} {vs:List V} {ds:List D} (h:F a=some (.lst vs)) (r:Reps K F vs ds):yv K F (HE K a) ds where
 go:=fun i H s hi=>⟨vs,vs[i]'(by rw[r.length];exact hi),fz.of (s _ _ h),by simp[r.length,hi]⟩
 stop:=fun H s=>⟨vs,fz.of (s _ _ h),Nat.le_of_eq r.length⟩
 yld:=fun i H F1 x H' s1 s2 y hi=>by
  obtain⟨rfl,y⟩:=y
  have:=y vs (fz.of (s2 _ _ (s1 _ _ h)))
  obtain⟨d,hd,rd⟩:=r.get' this
  exact⟨F1,d,hd,cm.refl s2,rd.mono s1⟩
theorem An {K:PySem.W.Frag} {F:Hp} {a:Addr} {vs:List V} {ds:List D} (h:F a=some (.tup vs)) (r:Reps K F vs ds):yv K F (Ic K a) ds where
 go:=fun i H s hi=>⟨vs,vs[i]'(by rw[r.length];exact hi),iH.of (s _ _ h),by simp[r.length,hi]⟩
 stop:=fun H s=>⟨vs,iH.of (s _ _ h),Nat.le_of_eq r.length⟩
 yld:=fun i H F1 x H' s1 s2 y hi=>by
  obtain⟨rfl,y⟩:=y
  have:=y vs (iH.of (s2 _ _ (s1 _ _ h)))
  obtain⟨d,hd,rd⟩:=r.get' this
  exact⟨F1,d,hd,cm.refl s2,rd.mono s1⟩
def cz (f:aq->R D):aq->R (List D):=fun ρ=>f ρ>>=fun d=>match d with
 | .lst ds=> .ok ds
 | .tup ds=> .ok ds
 | .scr ns=> .ok (ns.map .int)
 |_=> .bad
theorem Ao {K:PySem.W.Frag} {F:Hp} {a:Addr} {ns:List Int} (h:fz K F a (ns.map V.int)):yv K F (HE K a) (ns.map .int)where
 go:=fun i H s hi=>⟨ns.map V.int,(ns.map V.int)[i]'(by simpa using hi),s.seq h,by simp at hi;simp[hi]⟩
 stop:=fun H s=>⟨ns.map V.int,s.seq h,by simp⟩
 yld:=fun i H F1 x H' s1 s2 y hi=>by
  obtain⟨rfl,y⟩:=y
  have:=y (ns.map V.int) ((s1.trans s2).seq h)
  rw[List.getElem?_map]at this
  cases e:ns[i]? with
  |none=>rw[e]at this;cases this
  |some n=>rw[e]at this;cases this;exact⟨F1, .int n,by rw[List.getElem?_map,e];rfl,cm.refl s2, .int n⟩
theorem dJ {tg:Expr} (h:PQ ly X e f):Fu ly X tg e (cz f):=by
 intro c pins s σ H Rk I q
 obtain⟨F,ρ,ri,w⟩:=q
 have w':=aV.bind.mp w
 cases hf:f ρ with
 |bad=>rw[hf]at w';exact w'.elim
 |err er ρe=>
  rw[hf]at w'
  exact sm (h c) pins s σ H Rk I ⟨F,ρ,ri,by rw[hf];exact w'⟩
 |ok d=>
  rw[hf]at w'
  cases d with
  |lst ds=>exact sm (h c) pins s σ H Rk I ⟨F,ρ,ri,by
    rw[hf]
    intro v H1 F1 e1 r1
    cases r1 with
    |lst h1 h2=>exact⟨_,rfl,⟨_,fz.of (e1.sub _ _ h1)⟩,w' _ H1 F1 e1 (yw h1 h2)⟩⟩
  |tup ds=>exact EG (h c) pins s σ H Rk I ⟨F,ρ,ri,by
    rw[hf]
    intro v H1 F1 e1 r1
    cases r1 with
    |tup h1 h2=>exact⟨_,rfl,⟨_,iH.of (e1.sub _ _ h1)⟩,w' _ H1 F1 e1 (An h1 h2)⟩⟩
  |scr ns=>exact sm (h c) pins s σ H Rk I ⟨F,ρ,ri,by
    rw[hf]
    intro v H1 F1 e1 r1
    cases r1 with
    |scr h1=>exact⟨_,rfl,⟨_,e1.sub.seq h1⟩,w' _ H1 F1 e1 (Ao h1)⟩⟩
  |_=>exact w'.elim
def iu (lo hi:Int):List D:=(List.range (hi - lo).toNat).map fun k:Nat=>D.int (lo+(k:Int))
theorem pS {K:PySem.W.Frag} {F:Hp} {lo hi:Int}:yv K F (Gp lo (hi - lo).toNat) (iu lo hi)where
 go:=fun i H s h=>by
  rw[iu,List.length_map,List.length_range]at h
  exact h
 stop:=fun H s=>by show (hi - lo).toNat<=_;rw[iu,List.length_map,List.length_range];exact Nat.le_refl _
 yld:=fun i H F1 x H' s1 s2 y h=>by
  obtain⟨rfl,rfl⟩:=y
  have h':i<(hi - lo).toNat:=by rw[iu,List.length_map,List.length_range]at h;exact h
  exact⟨F1, .int (lo+i),by rw[iu,List.getElem?_map,List.getElem?_range h'];rfl,cm.refl s2, .int _⟩
def gD (f:aq->R (List D)):aq->R (List D):=fun ρ=>f ρ>>=fun ds=>match ds with
 |[.int j]=>if j.natAbs<=lim then .ok (iu 0 j)else .bad
 |_=> .bad
def jc (f:aq->R (List D)):aq->R (List D):=fun ρ=>f ρ>>=fun ds=>match ds with
 |[.int i, .int j]=>if i.natAbs<=lim/\j.natAbs<=lim then .ok (iu i j)else .bad
 |_=> .bad
theorem fP {j:Int} (h:j.natAbs<=lim): -(2 ^62)<=j/\j<2 ^62:=by
 unfold lim at h
 omega
theorem iM {tg:Expr} {p:Pos} (hm:X.mg "range"=none) (ha:vS ly X [a] fs) (hg:Gl X "range":=by rfl) (hs:starEach [a] X.env=[(false,eval a X.env)]:=by rfl):Fu ly X tg (.Call (.Name "range" p) [a] [] pos) (gD fs):=fun c=>
 PI.weak (xX hg hm (ha c) hs) fun σ H Rk ⟨F,ρ,ri,w⟩=>⟨F,ρ,ri,(aV.bind.mp w).imp fun ds _ w1 vs H1 F1 e1 r1=>by
  split at w1
  ·split at w1
   ·rename_i j _ hj
    cases r1.int1
    exact⟨j,rfl,(fP hj).1,(fP hj).2,w1 _ H1 F1 e1 (by simpa using pS (K:=X.K) (F:=F1) (lo:=0) (hi:=j))⟩
   ·exact w1.elim
  ·exact w1.elim⟩
theorem ug {tg:Expr} {p:Pos} (hm:X.mg "range"=none) (ha:vS ly X [a,b] fs) (hg:Gl X "range":=by rfl) (hs:starEach [a,b] X.env=[(false,eval a X.env),(false,eval b X.env)]:=by rfl) (hs2:starEach [b] X.env=[(false,eval b X.env)]:=by rfl):Fu ly X tg (.Call (.Name "range" p) [a,b] [] pos) (jc fs):=fun c=>
 PI.weak (xY hg hm (ha c) hs hs2) fun σ H Rk ⟨F,ρ,ri,w⟩=>⟨F,ρ,ri,(aV.bind.mp w).imp fun ds _ w1 vs H1 F1 e1 r1=>by
  split at w1
  ·split at w1
   ·rename_i i j _ hj
    cases r1.int2
    exact⟨i,j,rfl,⟨(fP hj.1).1,(fP hj.1).2,(fP hj.2).1,(fP hj.2).2⟩,w1 _ H1 F1 e1 pS⟩
   ·exact w1.elim
  ·exact w1.elim⟩
end
def fA (n:Nat) (ds:List D):aq:=ds.map (fun d=>some (.val d))++List.replicate (n - ds.length) none
def aZ (k n:Nat) (g:aq->R bM) (ds:List D):R D:=if ds.length=k then g (fA n ds)>>=fun o=>match o with
 | .ret d=> .ok d
 | .nx _=> .ok .non
 |_=> .bad else .bad
theorem Ap {K:PySem.W.Frag} {N:List Str} {H F:Hp} {vs:List V} {ds:List D} {Er:Str->aq->Prop} (s:bw F H) (r:Reps K F vs ds):RI K (⟨H,F,fun _=>none,Er,fun _=>none,fun _=>none⟩:fU []) (fA N.length ds) (du N vs) H F:=by
 have hv:∀(i:Nat) sl,(fA N.length ds)[i]? =some (some sl)->∃d,ds[i]? =some d/\sl= .val d:=fun i sl h=>by
  unfold fA at h
  rw[List.getElem?_append]at h
  split at h
  ·rw[List.getElem?_map]at h
   cases e:ds[i]? with
   |none=>rw[e]at h;cases h
   |some d=>rw[e]at h;simp at h;exact⟨d,rfl,h.symm⟩
  ·rw[List.getElem?_replicate]at h
   split at h<;>simp at h
 refine⟨cm.refl s,fun i d h=> ?_,fun i d h=> ?_,fun i d h=> ?_,(fun b o e=>by cases e),fun i j d d' a h=> ?_,?_,(fun L h=>by cases h),(fun L h=>by cases h),(fun _ _ e=>by cases e)⟩
 ·obtain⟨d',e,z⟩:=hv i _ h
  cases z
  obtain⟨v,h1,h2⟩:=r.get e
  refine⟨v,?_,h2⟩
  unfold du
  have hl:i<vs.length:=(List.getElem?_eq_some_iff.mp h1).1
  rw[List.getElem?_append_left (by simpa using hl),List.getElem?_map,h1]
  rfl
 ·obtain⟨d',_,z⟩:=hv i _ h;cases z
 ·obtain⟨d',_,z⟩:=hv i _ h;cases z
 ·obtain⟨d',_,z⟩:=hv i _ h;cases z
 ·simp[fA,du,r.length]
theorem IT {P:Program} {w:World} {K:PySem.W.Frag} {mg:Str->Option Value} {base:Heap} {x qual:Str} {st:Stmt} {f:Addr} {fd:FuncData} {N ps:List Str} {k:Nat} {sp:Sp} (F:zk K x qual st f fd) (S:aI N ps (ah st)) (len:∀vs H Q E,sp vs H Q E->vs.length=ps.length)
  (hbody:∀(cdv:Value) (A:Around) (outer:List Env) (s:Shared) (H:Hp) (vs:List V) (Q:VK) (E:XK),eE k (A.deeper (envOfC qual (ah st) s.heap.objs.size f cdv))->sp vs H Q E->
   ∃t,qJ (kI (oY P w) P w K mg base N qual (ah st) f cdv A outer s H E) (aG st) t/\t {nx:=fun _ H'=>Q .non H',rt:=Q} (du N vs) H):i7 P w K mg base (oY P w) (k+1) f fd ps sp:=by
 obtain⟨oc,od,kV,doc,pm,an,cdv,ct,osl,rfl,lk,hcd⟩:=F.ex
 exact DR lk hcd S len fun A outer s H vs Q E hr hsp=>hbody cdv A outer s H vs Q E hr hsp
theorem Aq {P:Program} {w:World} {K:PySem.W.Frag} {mg:Str->Option Value} {base:Heap} {N:List Str} {qual:Str} {scope:Scope} {f:Addr} {cd:Value} {A:Around} {outer:List Env} {s0:Shared} {H0:Hp} {E:XK} {c:fU ly}
  (h:∀x ρ,c.Er x ρ->∀cls a H' F' σ,jp K x cls->RI K c ρ σ H' F'->E cls a H'):GX (kI (oY P w) P w K mg base N qual scope f cd A outer s0 H0 E) c:=
 .inl ⟨pO,fun pins σ ρ H F s a cls x I ri fl ec er=>vP I fl (h x ρ er cls (some a) H F σ ec ri)⟩
theorem Fw {P:Program} {w:World} {K:PySem.W.Frag} {mg:Str->Option Value} {base:Heap} {x qual:Str} {st:Stmt} {f:Addr} {fd:FuncData} {N ps:List Str} {k n m:Nat} {g:aq->R bM} (F:zk K x qual st f fd) (S:aI N ps (ah st)) (hn:ps.length=n) (hm:N.length=m)
  (hbody:∀(cdv:Value) (A:Around) (outer:List Env) (s:Shared) (H:Hp) (E:XK),eE k (A.deeper (envOfC qual (ah st) s.heap.objs.size f cdv))->
   md [] (kI (oY P w) P w K mg base N qual (ah st) f cdv A outer s H E) (aG st) g):i7 P w K mg base (oY P w) (k+1) f fd ps (yt K n (aZ n m g)):=by
 refine IT F S (fun vs H Q E h=>by rw[hn];exact h.1) (fun cdv A outer s H vs Q E hr h=> ?_)
 obtain⟨hl,Fz,ds,sub,r,w⟩:=h
 refine⟨_,hbody cdv A outer s H E hr ⟨⟨H,Fz,fun _=>none,fun x _=>∀cls a H' F',jp K x cls->cm H Fz H' F'->E cls a H',fun _=>none,fun _=>none⟩,Aq fun x ρ er cls a H' F' σ ec ri=>er cls a H' F' ec ri.ext⟩,?_⟩
 refine⟨Fz,fA m ds,by rw[<-hm];exact Ap sub r,?_⟩
 have hd:ds.length=n:=by rw[<-r.length];exact hl
 unfold aZ at w
 rw[if_pos hd]at w
 cases e:g (fA m ds)with
 |bad=>rw[e]at w;exact w.elim
 |err c ρ=>rw[e]at w;exact w
 |ok o=>
  rw[e]at w
  cases o with
  |ret d=>exact fun v H' F' _ e' r'=>w v H' F' e' r'
  |nx ρ=>exact fun σ' H' F' _ r'=>w .non H' F' r'.ext .non
  |brk ρ=>exact w.elim
  |cnt ρ=>exact w.elim
end L2.Pu
namespace L2.Pu
open PySem PySem.Spec PyProof.Rows
variable {ly:List jn}
def Slot.toBor:Slot->Slot
 | .val d=> .val d
 | .own d=> .bor d
 | .bor d=> .bor d
 | .obj=> .obj
def kA (N:List Str) (names:List (Str×NameKind)) (ρ:aq):aq:=
 names.map fun x=>if x.2= .free then ((N.findIdx? (·==x.1)).bind fun i=>(ρ[i]?).join.map Slot.toBor)else none
theorem Hc {K:PySem.W.Frag} {c:fU ly} {ρ:aq} {σ:St} {H F H1 F1:Hp} {N:List Str} {names:List (Str×NameKind)} {p:Addr} {o:HO} (ri:RI K c ρ σ H F) (e:cm H F H1 F1) (hp:H1 p=none):
  RI K (⟨bY H1 p o,F1,H1,fun _ _=>False,fun _=>none,fun _=>none⟩:fU []) (kA N names ρ) (pB N names σ) (bY H1 p o) F1:=by
 have r1:=ri.step e
 have key:∀(i:Nat) sl,(kA N names ρ)[i]? =some (some sl)->∃(j:Nat) (sl':Slot),ρ[j]? =some (some sl')/\sl=sl'.toBor/\∀v,σ[j]? =some (some v)->(pB N names σ)[i]? =some (some v):=fun i sl h=>by
  unfold kA at h
  rw[List.getElem?_map]at h
  cases en:names[i]? with
  |none=>rw[en]at h;cases h
  |some y=>
   rw[en]at h
   simp only[Option.map_some,Option.some.injEq]at h
   by_cases hf:y.2= .free
   ·rw[if_pos hf]at h
    cases ei:N.findIdx? (·==y.1)with
    |none=>rw[ei]at h;cases h
    |some j=>
     rw[ei]at h
     cases e2:ρ[j]? with
     |none=>simp[e2]at h
     |some u=>
      cases u with
      |none=>simp[e2]at h
      |some sl'=>
       simp[e2]at h
       refine⟨j,sl',e2,h.symm,fun v hv=> ?_⟩
       unfold pB
       rw[List.getElem?_map,en]
       simp only[Option.map_some,Option.some.injEq]
       rw[if_pos hf,ei]
       show (σ[j]?).join=some v
       rw[hv];rfl
   ·rw[if_neg hf]at h;cases h
 refine⟨cm.refl (r1.sub.trans (d8 hp)),fun i d h=> ?_,fun i d h=> ?_,fun i d h=> ?_,d8 hp,fun i j d d' a h=> ?_,by simp[kA,pB],(fun L h=>by cases h),(fun L h=>by cases h),(fun _ _ e=>by cases e)⟩
 ·obtain⟨j,sl,h1,h2,h3⟩:=key i _ h
  cases sl with
  |val d'=>cases h2;obtain⟨v,k1,k2⟩:=r1.val j d h1;exact⟨v,h3 v k1,k2⟩
  |own d'=>cases h2
  |bor d'=>cases h2
  |obj=>cases h2
 ·obtain⟨j,sl,h1,h2,h3⟩:=key i _ h;cases sl<;>cases h2
 ·obtain⟨j,sl,h1,h2,h3⟩:=key i _ h
  cases sl with
  |val d'=>cases h2
  |own d'=>cases h2;obtain⟨a,o,k1,k2,k3,k4,k5⟩:=r1.own j d h1;exact⟨a,o,h3 _ k1,k2,k5⟩
  |bor d'=>cases h2;obtain⟨a,o,k1,k2,k3⟩:=r1.bor j d h1;exact⟨a,o,h3 _ k1,r1.ext.keep _ _ (r1.bh _ _ k2),k3.mono r1.ext.grow⟩
  |obj=>cases h2
 ·obtain⟨k,sl,h1,h2,h3⟩:=key i _ h;cases sl<;>cases h2
theorem RI.bump {K:PySem.W.Frag} {ρ:aq} {σ:St} {H F H1 F1:Hp} {p:Addr} {o o':HO} {Er:Str->aq->Prop} (r:RI K (⟨bY H1 p o,F1,H1,Er,fun _=>none,fun _=>none⟩:fU []) ρ σ H F) (hp:H1 p=none) (hF:F p=none):
  RI K (⟨bY H1 p o',F1,H1,Er,fun _=>none,fun _=>none⟩:fU []) ρ σ (bY H p o') F:=by
 refine⟨⟨fun b u e=> ?_,fun b u e=> ?_,r.ext.grow,fun b e=> ?_⟩,r.val,fun i d h=> ?_,r.bor,d8 hp,r.dis,r.len,(fun L h=>by cases h),(fun L h=>by cases h),(fun _ _ e=>by cases e)⟩
 ·rw[aD (fun z=>by rw[z,hF]at e;cases e)];exact r.sub b u e
 ·change bY H1 p o' b=some u at e
  by_cases z:b=p
  ·subst z;rw[aC]at e ⊢;exact e
  ·rw[aD z]at e ⊢;exact r.ext.keep b u (by show bY H1 p o b=some u;rw[aD z];exact e)
 ·by_cases z:b=p
  ·subst z;exact absurd hF e
  ·rcases r.ext.new b e with q|q
   ·exact .inl q
   ·refine .inr ?_
    change bY H1 p o b=none at q
    show bY H1 p o' b=none
    rw[aD z]at q ⊢;exact q
 ·obtain⟨a,u,h1,h2,h3,h4,h5⟩:=r.own i d h
  change bY H1 p o a=none at h4
  have z:a≠p:=fun z=>by subst z;rw[aC]at h4;cases h4
  refine⟨a,u,h1,by rw[aD z];exact h2,h3,?_,h5⟩
  show bY H1 p o' a=none
  rw[aD z]at h4 ⊢;exact h4
def fw (g:D->aq->R aq) (gt:aq->R Bool) (fe:aq->R D):List D->aq->R (List D)
 |[],_=> .ok []
 |d::r,τ=>g d τ>>=fun τ1=>gt τ1>>=fun b=>if b=true then (fe τ1>>=fun y=>fw g gt fe r τ1>>=fun ys=> .ok (y::ys))else fw g gt fe r τ1
def IU (K:PySem.W.Frag) (g:D->aq->R aq):TG:=fun v σ H Q=>∃c:fU [],(∀e ρ,¬c.Er e ρ)/\tG K c g v σ H Q
def IV (K:PySem.W.Frag) (g:aq->R Bool):TT:=fun σ H Q=>∃c:fU [],(∀e ρ,¬c.Er e ρ)/\tT K c g σ H Q
def IW (K:PySem.W.Frag) (g:aq->R D):TE:=fun σ H Q=>∃c:fU [],(∀e ρ,¬c.Er e ρ)/\tQ K c g σ H Q
def yx (ly:List jn) (X:Cx) (ifs:List Expr) (gt:aq->R Bool):Prop:=∀c:kO ly X,DY X ifs (tT X.K c.1 gt)
def jF:aq->R Bool:=fun _=> .ok true
theorem me {X:Cx}:yx ly X [] jF:=fun c pins s σ H Q I q=>by
 obtain⟨F,ρ,ri,w⟩:=q
 exact CC pins s σ H Q I (w H F (cm.refl ri.sub))
theorem mf {X:Cx} {c:Expr} {gt:aq->R Bool} (h:tU ly X c gt):yx ly X [c] gt:=fun c=>CD (h c)
theorem iB {α β:Type} {r:R α} {f:α->R β} {b:β} (h:(r>>=f)= .ok b):∃a,r= .ok a/\f a= .ok b:=by
 cases r with
 |ok a=>exact⟨a,rfl,h⟩
 |err c ρ=>cases h
 |bad=>cases h
theorem mh {K:PySem.W.Frag} {c:fU ly} {ρ:aq} {σ:St} {H F H1 F1:Hp} {N:List Str} {names:List (Str×NameKind)} {p:Addr} {g:D->aq->R aq} {gt:aq->R Bool} {fe:aq->R D} {J:It} {ds es:List D} {Q:Hp->Prop}
  (ri:RI K c ρ σ H F) (e:cm H F H1 F1) (jo:yv K F1 J ds) (hp:H1 p=none) (hl:ds.length<=lim) (he:fw g gt fe ds (kA N names ρ)= .ok es)
  (k:∀H2 F2 vs,cm H1 F1 H2 F2->H2 p=some (.lst vs)->F2 p=none->Reps K F2 vs es->Q H2):
  pC J (IU K g) (IV K gt) (IW K fe) p (pB N names σ) Q (bY H1 p (.lst [])):=by
 have s1:bw F1 H1:=e.sub
 have f1:F1 p=none:=s1.free hp
 refine⟨fun i m ys τ H=>∃F ρ' pre rest,RI K (⟨bY H1 p (.lst ys),F1,H1,fun _ _=>False,fun _=>none,fun _=>none⟩:fU []) ρ' τ H F/\Reps K F ys pre/\pre.length<=i/\m=ds.length - i/\i<=ds.length/\fw g gt fe (ds.drop i) ρ'= .ok rest/\pre++rest=es,
  ⟨_,F1,_,[],es,Hc ri e hp, .nil,Nat.le_refl _,rfl,Nat.zero_le _,he,rfl⟩,?_⟩
 rintro i m ys τ H2 ⟨F2,ρ',pre,rest,r2,rp,hpi,rfl,hi,hc,hes⟩
 have hF2:F2 p=none:=by
  cases q:F2 p with
  |none=>rfl
  |some u=>
   rcases r2.ext.new p (by rw[q];simp)with z|z
   ·exact absurd f1 z
   ·change bY H1 p (.lst ys) p=none at z;rw[aC]at z;cases z
 have hD:∀{ρ' τ H F},RI K (⟨bY H1 p (.lst ys),F1,H1,fun _ _=>False,fun _=>none,fun _=>none⟩:fU []) ρ' τ H F->H p=some (.lst ys):=fun r=>r.ext.keep p _ aC
 refine⟨hD r2,?_⟩
 by_cases hlt:i<ds.length
 ·refine .inr ⟨jo.go i H2 (r2.ext.grow.trans r2.sub) hlt,?_,fun x H3 y=> ?_⟩
  ·have:=rp.length
   have:=iK
   omega
  ·obtain⟨F3,d,hd,e3,r3⟩:=jo.yld i H2 F2 x H3 r2.ext.grow r2.sub y hlt
   obtain⟨hl',ed⟩:=List.getElem?_eq_some_iff.mp hd
   rw[List.drop_eq_getElem_cons hl',ed]at hc
   obtain⟨τ1,h1,hc⟩:=iB (r:=g d ρ') hc
   obtain⟨b,h2,hc⟩:=iB (r:=gt τ1) hc
   refine⟨_,fun e ρ h=>h,F3,ρ',d,r2.step e3,r3,?_⟩
   rw[h1]
   intro τ4 H4 F4 s4 r4
   refine⟨_,fun e ρ h=>h,F4,τ1,r4,?_⟩
   rw[h2]
   intro H5 F5 e5
   cases b with
   |false=>
    exact⟨ds.length - (i+1),by omega,F5,τ1,pre,rest,r4.step e5,(rp.mono e3.grow).mono (s4.trans e5.grow),by omega,rfl,hlt,hc,hes⟩
   |true=>
    rw[if_pos rfl]at hc ⊢
    obtain⟨y',h3,hc⟩:=iB (r:=fe τ1) hc
    obtain⟨ys',h4,hc⟩:=iB (r:=fw g gt fe (ds.drop (i+1)) τ1) hc
    cases hc
    refine⟨_,fun e ρ h=>h,F5,τ1,r4.step e5,?_⟩
    rw[h3]
    intro v H6 F6 e6 r6
    have r6':=(r4.step e5).step e6
    refine⟨hD r6',ds.length - (i+1),by omega,F6,τ1,pre++[y'],ys',r6'.bump hp ?_,(((rp.mono e3.grow).mono (s4.trans e5.grow)).mono e6.grow).append (.cons r6 .nil),by simp;omega,rfl,hlt,h4,by rw[<-hes];simp⟩
    cases q:F6 p with
    |none=>rfl
    |some u=>
     rcases r6'.ext.new p (by rw[q];simp)with z|z
     ·exact absurd f1 z
     ·change bY H1 p (.lst ys) p=none at z;rw[aC]at z;cases z
 ·have ei:i=ds.length:=by omega
  subst ei
  rw[List.drop_length]at hc
  cases hc
  rw[List.append_nil]at hes
  subst hes
  refine .inl ⟨jo.stop H2 (r2.ext.grow.trans r2.sub),k H2 F2 ys ⟨r2.sub,(d8 hp).trans r2.ext.keep,r2.ext.grow,fun a ha=> ?_⟩ (hD r2) hF2 rp⟩
  rcases r2.ext.new a ha with z|z
  ·exact .inl z
  ·refine .inr ?_
   change bY H1 p (.lst ys) a=none at z
   rw[aD (fun q=>by subst q;rw[aC]at z;cases z)]at z
   exact z
section
variable {X:Cx} {elt tg iter:Expr} {ifs:List Expr} {scope:Scope} {pos:Pos} {fi:aq->R (List D)} {g:D->aq->R aq} {gt:aq->R Bool} {fe:aq->R D}
def eD (N:List Str) (names:List (Str×NameKind)) (fi:aq->R (List D)) (g:D->aq->R aq) (gt:aq->R Bool) (fe:aq->R D):aq->R (List D):=fun ρ=>fi ρ>>=fun ds=>if ds.length<=lim then (match fw g gt fe ds (kA N names ρ)with
 | .ok es=> .ok es
 |_=> .bad)else .bad
def fL (f:aq->R (List D)):aq->R D:=fun ρ=>f ρ>>=fun ds=> .ok (.lst ds)
theorem IC {X:Cx} (h:CT [] X tg g):PG X tg (IU X.K g):=fun pins s σ H v u Q I r ⟨c,hn,q⟩=>h ⟨c, .no hn⟩ pins s σ H v u Q I r q
theorem ID {X:Cx} (h:yx [] X ifs gt):DY X ifs (IV X.K gt):=fun pins s σ H Q I ⟨c,hn,q⟩=>h ⟨c, .no hn⟩ pins s σ H Q I q
theorem IE {X:Cx} (h:PQ [] X elt fe):PE X elt (IW X.K fe):=fun pins s σ H Q I ⟨c,hn,q⟩=>h ⟨c, .no hn⟩ pins s σ H Q I q
theorem ke (S:bR X scope) (hc:X.calm=true) (hi:Fu ly X tg iter fi) (hg:∀s H ex,CT [] (dM X scope s H ex) tg g) (hif:∀s H ex,yx [] (dM X scope s H ex) ifs gt) (hel:∀s H ex,PQ [] (dM X scope s H ex) elt fe)
  (hs:∀x,foldedSetIterable iter X.env x=pure x:=by intro _;rfl):PQ ly X (.ListComp elt [⟨tg,iter,ifs,0⟩] scope pos) (fL (eD X.N scope.names fi g gt fe)):=fun c=>
 PE.weak (xc S hc (hi c) (fun s H ex=>IC (hg s H ex)) (fun s H ex=>ID (hif s H ex)) (fun s H ex=>IE (hel s H ex)) hs) fun σ H Q ⟨F,ρ,ri,w⟩=>by
  refine⟨F,ρ,ri,(aV.bind.mp (aV.bind.mp w)).imp fun ds _ w1 J H1 F1 e1 jo p hp=> ?_⟩
  split at w1
  ·rename_i hl
   split at w1
   ·rename_i es he
    refine mh ri e1 jo hp hl he fun H2 F2 vs e2 hp2 hf2 rv=> ?_
    have g2:bw F2 (bY F2 p (.lst vs)):=d8 hf2
    refine w1 (.ref p) H2 (bY F2 p (.lst vs)) ⟨fun b u eb=> ?_,e1.keep.trans e2.keep,(e1.grow.trans e2.grow).trans g2,fun a ha=> ?_⟩ (.lst aC (rv.mono g2))
    ·by_cases z:b=p
     ·subst z;rw[aC]at eb;rw[hp2];exact eb
     ·rw[aD z]at eb;exact e2.sub b u eb
    ·by_cases z:a=p
     ·subst z;exact .inr (e1.keep.free hp)
     ·rw[aD z]at ha
      exact(e1.trans e2).new a ha
   ·exact w1.elim
  ·exact w1.elim
def oN (i:Nat) (f:aq->R (List D)):aq->R bM:=fun ρ=>f ρ>>=fun ds=> .ok (.nx (ρ.set i (some (.own (.lst ds)))))
theorem sL (i:Nat) {y:Str} {py spos:Pos} (S:bR X scope) (hc:X.calm=true) (hN:X.N.Nodup) (hi:Fu ly X tg iter fi) (hg:∀s H ex,CT [] (dM X scope s H ex) tg g) (hif:∀s H ex,yx [] (dM X scope s H ex) ifs gt) (hel:∀s H ex,PQ [] (dM X scope s H ex) elt fe)
  (hi':X.N[i]? =some y:=by rfl) (hx:xT X.env.scope y:=by first|exact Or.inl rfl|exact Or.inr rfl) (hf:X.fn y=true\/X.env.scope.names.lookup y=some .local:=by first|exact .inl rfl|exact .inr rfl|assumption)
  (hsw:swapsWith (.ListComp elt [⟨tg,iter,ifs,0⟩] scope pos) (some (.Name y py)) spos.line X.env=pure true:=by rfl) (hs:∀x,foldedSetIterable iter X.env x=pure x:=by intro _;rfl) (hfr:kN ly i:=by(repeat (first|assumption|exact L2.Pu.dZ|refine L2.Pu.free_cons ⟨by first|decide|simp,by first|decide|simp⟩ ?_))):
  og ly X (.Assign [.Name y py] (.ListComp elt [⟨tg,iter,ifs,0⟩] scope pos) spos) (oN i (eD X.N scope.names fi g gt fe)):=fun c=>
 PS.weak (CG S hc (hi c) (fun s H ex=>IC (hg s H ex)) (fun s H ex=>ID (hif s H ex)) (fun s H ex=>IE (hel s H ex)) (wQ hN hi' hx hf) hsw hs) fun D σ H ⟨F,ρ,ri,w⟩=>by
  refine⟨F,ρ,ri,(aV.bind.mp (aV.bind.mp w)).imp fun ds _ w1 J H1 F1 e1 jo p hp=> ?_⟩
  split at w1
  ·rename_i hl
   split at w1
   ·rename_i es he
    refine mh ri e1 jo hp hl he fun H2 F2 vs e2 hp2 hf2 rv=> ?_
    refine w1 _ H2 F2 (e1.grow.trans e2.grow) ((ri.step (e1.trans e2)).setOwn i hfr hp2 hf2 (ri.ext.keep.free (e1.keep.free hp)) (.lst rv) fun j d' _ hj ej=> ?_)
    obtain⟨a,o,k1,k2,_⟩:=ri.own j d' hj
    rw[ej]at k1
    cases k1
    rw[e1.keep.free hp]at k2
    cases k2
   ·exact w1.elim
  ·exact w1.elim
end
def dq:D->Option bx
 | .int i=>some (.inl i)
 | .str x=>some (.inr x)
 |_=>none
def bW (kds:List (bx×D)) (k:bx):Option D:=(kds.find? fun kv=>decide (kv.1=k)).map (·.2)
def lI (kds:List (bx×D)) (k:bx) (v:D):List (bx×D):=
 if (kds.any fun kv=>decide (kv.1=k))=true then kds.map (fun kv=>if kv.1=k then (kv.1,v)else kv)else kds++[(k,v)]
theorem gT {K:PySem.W.Frag} {H F:Hp} {v:V} {d:D} {k:bx} (h:dq d=some k) (r:d9 K H F v d):v=kV k:=by
 cases d with
 |int i=>cases h;exact r.int
 |str x=>cases h;exact r.str
 |_=>cases h
section
variable {K:PySem.W.Frag} {F:Hp}
theorem RepK.any (k:bx):∀{vs:List (bx×V)} {ds:List (bx×D)},RepK K F vs ds->(vs.any fun kv=>decide (kv.1=k))=ds.any fun kv=>decide (kv.1=k):=by
 intro vs ds
 induction ds generalizing vs with
 |nil=>intro h;rw[h.nilI];rfl
 |cons d ds ih=>
  intro h
  obtain⟨v,us,rfl,_,t⟩:=RepK.consI (k:=d.1) (d:=d.2) h
  rw[List.any_cons,List.any_cons,ih t]
theorem RepK.get (k:bx):∀{vs:List (bx×V)} {ds:List (bx×D)},RepK K F vs ds->(ka vs k=none/\bW ds k=none)\/∃v d,ka vs k=some v/\bW ds k=some d/\fF K F v d:=by
 intro vs ds
 induction ds generalizing vs with
 |nil=>intro h;rw[h.nilI];exact .inl ⟨rfl,rfl⟩
 |cons d ds ih=>
  intro h
  obtain⟨a,d⟩:=d
  obtain⟨v,vs,rfl,r,t⟩:=h.consI
  by_cases e:a=k
  ·exact .inr ⟨v,d,by simp[ka,e],by simp[bW,e],r⟩
  ·have h1:ka ((a,v)::vs) k=ka vs k:=by simp[ka,e]
   have h2:bW ((a,d)::ds) k=bW ds k:=by simp[bW,e]
   rw[h1,h2]
   exact ih t
theorem RepK.repl (k:bx) {v:V} {d:D} (h:fF K F v d):∀{vs:List (bx×V)} {ds:List (bx×D)},RepK K F vs ds->RepK K F (vs.map fun kv=>if kv.1=k then (kv.1,v)else kv) (ds.map fun kv=>if kv.1=k then (kv.1,d)else kv):=by
 intro vs ds
 induction ds generalizing vs with
 |nil=>intro h;rw[h.nilI];exact .nil
 |cons x ds ih=>
  intro g
  obtain⟨a,x⟩:=x
  obtain⟨y,vs,rfl,r,t⟩:=g.consI
  rw[List.map_cons,List.map_cons]
  by_cases e:a=k
  ·simp only[e,if_true];exact .cons h (ih t)
  ·simp only[e,if_false];exact .cons r (ih t)
theorem RepK.append:∀{vs us:List (bx×V)} {ds es:List (bx×D)},RepK K F vs ds->RepK K F us es->RepK K F (vs++us) (ds++es):=by
 intro vs us ds
 induction ds generalizing vs with
 |nil=>intro es h g;rw[h.nilI];exact g
 |cons x ds ih=>
  intro es h g
  obtain⟨a,x⟩:=x
  obtain⟨y,vs,rfl,r,t⟩:=h.consI
  exact .cons r (ih t g)
theorem RepK.put (k:bx) {v:V} {d:D} (h:fF K F v d) {vs:List (bx×V)} {ds:List (bx×D)} (r:RepK K F vs ds):RepK K F (jB vs k v) (lI ds k d):=by
 unfold jB lI
 rw[r.any k]
 split
 ·exact r.repl k h
 ·exact r.append (.cons h .nil)
end
theorem Ar {kvs:List (bx×V)} {k:bx} (v:V) (hn:(kvs.map (·.1)).Nodup):((jB kvs k v).map (·.1)).Nodup:=by
 unfold jB
 split
 ·have e:(kvs.map fun kv=>if kv.1=k then (kv.1,v)else kv).map (·.1)=kvs.map (·.1):=by
   rw[List.map_map]
   refine List.map_congr_left fun kv _=> ?_
   show (if kv.1=k then (kv.1,v)else kv).1=kv.1
   split<;>rfl
  rw[e];exact hn
 ·rename_i h
  rw[List.map_append]
  refine List.nodup_append.mpr ⟨hn,by simp,fun a ha b hb=> ?_⟩
  have eb:b=k:=by simpa using hb
  subst eb
  intro z
  subst z
  obtain⟨kv,h1,h2⟩:=List.mem_map.mp ha
  exact h (List.any_eq_true.mpr ⟨kv,h1,by simp[h2]⟩)
section
variable {X:Cx} {a b e:Expr} {es:List Expr} {fa fb f fk fv:aq->R D} {fs:aq->R (List D)} {pos:Pos}
def jG (i:Nat) (f:aq->R D):aq->R bM:=fun ρ=>match ρ[i]? with
 |some (some (.own (.lst ds)))=>f ρ>>=fun d=>if ds.length<lim then .ok (.nx (ρ.set i (some (.own (.lst (ds++[d]))))))else .bad
 |_=> .bad
theorem RI.ownL {K:PySem.W.Frag} {c:fU ly} {ρ:aq} {σ:St} {H F:Hp} (ri:RI K c ρ σ H F) {i:Nat} {ds:List D} (h:ρ[i]? =some (some (.own (.lst ds)))):∃a vs,σ[i]? =some (some (.ref a))/\H a=some (.lst vs)/\Reps K F vs ds:=by
 obtain⟨a,o,h1,h2,_,_,h5⟩:=ri.own i _ h
 cases h5 with
 |lst r=>exact⟨a,_,h1,h2,r⟩
theorem RI.ownD {K:PySem.W.Frag} {c:fU ly} {ρ:aq} {σ:St} {H F:Hp} (ri:RI K c ρ σ H F) {i:Nat} {ds:List (bx×D)} (h:ρ[i]? =some (some (.own (.dic ds)))):∃a vs,σ[i]? =some (some (.ref a))/\H a=some (.dK vs)/\RepK K F vs ds/\(vs.map (·.1)).Nodup:=by
 obtain⟨a,o,h1,h2,_,_,h5⟩:=ri.own i _ h
 cases h5 with
 |dic r n=>exact⟨a,_,h1,h2,r,n⟩
theorem cT (i:Nat) {x:Str} {px apos cpos:Pos} (h:PQ ly X e f) (hN:X.N[i]? =some x:=by rfl) (hv:wL X.env.scope x:=by first|exact Or.inl rfl|exact Or.inr (Or.inl rfl)|exact Or.inr (Or.inr rfl)) (hd:(x==("__debug__":Str))=false:=by decide)
  (hcd:(x==("__classdict__":Str))=false:=by decide) (hbase:attributeBase (.Name x px) "append" X.env (eval (.Name x px) X.env)=eval (.Name x px) X.env:=by rfl)
  (hfew:((backTo cpos (starEach [e] X.env)).all (fun x=> !x.1)&&(backToKw cpos (keywordEach [] X.env)).all (fun x=>x.1.isSome)
   &&decide (([e]:List Expr).length+([]:List Keyword).length+(if ([]:List Keyword).isEmpty then 0 else 1)<30))=true:=by rfl)
  (hline:(apos.endLine==cpos.line)=true:=by rfl) (hs:starEach [e] X.env=(false,eval e X.env)::starEach [] X.env:=by rfl) (hplain:(backTo cpos (starEach [] X.env)).any (·.1)=false:=by rfl)
  (hsw:swapsWith (.Call (.Attribute (.Name x px) "append" apos) [e] [] cpos) none pos.line X.env=pure false:=by rfl):og ly X (.Expr (.Call (.Attribute (.Name x px) "append" apos) [e] [] cpos) pos) (jG i f):=fun c=>
 PS.weak (wO (DU PySem.F.plainAttrs_list PySem.F.slot_list_append PySem.F.type_list_append rB (pv i hN hv hd hcd) (fO (h c) j_ hs) hbase hfew hline hs hplain) hsw) fun D σ H ⟨F,ρ,ri,w⟩=>by
  unfold jG at w
  split at w
  ·rename_i ds hi
   obtain⟨a,vs,h1,h2,h3⟩:=ri.ownL hi
   refine⟨_,h1, .inl ⟨rfl,vs,fz.of h2⟩,F,ρ,ri,(aV.bind.mp w).imp fun d _ w1 v H1 F1 e1 r1=> ?_⟩
   split at w1
   ·rename_i hl
    refine⟨a,vs,v,rfl,rfl,e1.keep _ _ h2,Nat.lt_of_lt_of_le (by rw[h3.length];exact hl) iK,?_⟩
    exact w1 σ _ F1 e1.grow ((ri.step e1).change (o:= .lst vs) hi h1 (.lst ((h3.mono e1.grow).append (.cons r1 .nil))))
   ·exact w1.elim
  ·exact w.elim
def pT (i:Nat) (fk fv:aq->R D):aq->R bM:=fun ρ=>match ρ[i]? with
 |some (some (.own (.dic kds)))=>fv ρ>>=fun v=>fk ρ>>=fun k=>match dq k with
  |some key=>if kds.length<lim then .ok (.nx (ρ.set i (some (.own (.dic (lI kds key v))))))else .bad
  |none=> .bad
 |some (some (.own (.lst ds)))=>fv ρ>>=fun v=>fk ρ>>=fun k=>match k with
  | .int j=>(match u0 ds.length j with
   |some n=> .ok (.nx (ρ.set i (some (.own (.lst (ds.set n v))))))
   |none=> .bad)
  |_=> .bad
 |_=> .bad
theorem uh (i:Nat) {x:Str} {px pos':Pos} (hu:X.A.units+1<cLine) (hk:PQ ly X a fk) (h:PQ ly X e fv) (hN:X.N[i]? =some x:=by rfl) (hv:wL X.env.scope x:=by first|exact Or.inl rfl|exact Or.inr (Or.inl rfl)|exact Or.inr (Or.inr rfl)) (hd:(x==("__debug__":Str))=false:=by decide)
  (hcd:(x==("__classdict__":Str))=false:=by decide) (hs:swapsWith e (some (.Subscript (.Name x px) a pos')) pos.line X.env=pure false:=by rfl)
  (ha:∀v,assign (.Subscript (.Name x px) a pos') X.env v=(do
   let ov<-holding [v] (eval (.Name x px) X.env)
   let iv<-holding [v,ov] (eval a X.env)
   standAt pos'
   holding [v,ov,iv] (setItem ov iv v)
   release [v,ov,iv] []):=by intro _;rfl)
  (hs2:swapsWithSole [.Subscript (.Name x px) a pos'] e pos.line X.env=pure false:=by rfl) (hw:swappedStores [.Subscript (.Name x px) a pos'] e X.env=pure none:=by rfl)
  (h1:(assignEach [.Subscript (.Name x px) a pos'] X.env).map (·.2)=[assign (.Subscript (.Name x px) a pos') X.env]:=by rfl):og ly X (.Assign [.Subscript (.Name x px) a pos'] e pos) (pT i fk fv):=by
 intro c pins s σ H D I q
 obtain⟨F,ρ,ri,w⟩:=q
 unfold pT at w
 split at w
 ·rename_i kds hi
  obtain⟨p,vs,g1,g2,g3,g4⟩:=ri.ownD hi
  refine Cy hu (pv i hN hv hd hcd) (hk c) (h c) hs pins s σ H D I ⟨F,ρ,ri,(aV.bind.mp w).imp fun d _ w1 v H1 F1 e1 r1=> ?_⟩
  refine⟨_,g1,F1,ρ,ri.step e1,(aV.bind.mp w1).imp fun k _ w2 u H2 F2 e2 r2=> ?_⟩
  cases hk':dq k with
  |none=>rw[hk']at w2;exact w2.elim
  |some key=>
   rw[hk']at w2
   cases gT (H:=H2) hk' (.inl r2)
   dsimp only at w2
   split at w2
   ·rename_i hl
    have e12:=e1.trans e2
    refine⟨p,_,rfl,vG.k (k:=key) (e12.keep _ _ g2) (Nat.lt_of_lt_of_le (by rw[g3.length];exact hl) iK),?_⟩
    exact w2 σ _ F2 e12.grow ((ri.step e12).change (o:= .dK vs) hi g1 (.dic ((g3.mono e12.grow).put key (r1.mono e2.grow)) (Ar _ g4)))
   ·exact w2.elim
 ·rename_i ds hi
  obtain⟨p,vs,g1,g2,g3⟩:=ri.ownL hi
  refine vi (h c) (ED (pv i hN hv hd hcd) (hk c) zN ha) hs2 hw h1 pins s σ H D I ⟨F,ρ,ri,(aV.bind.mp w).imp fun d _ w1 v H1 F1 e1 r1=> ?_⟩
  refine⟨_,g1,F1,ρ,ri.step e1,(aV.bind.mp w1).imp fun k _ w2 u H2 F2 e2 r2=> ?_⟩
  cases k with
  |int j=>
   cases r2
   dsimp only at w2
   split at w2
   ·rename_i n hn
    have e12:=e1.trans e2
    refine⟨p,vs,j,n,rfl,rfl,e12.keep _ _ g2,by rw[g3.length];exact hn,?_⟩
    exact w2 σ _ F2 e12.grow ((ri.step e12).change (o:= .lst vs) hi g1 (.lst ((g3.mono e12.grow).set n (r1.mono e2.grow))))
   ·exact w2.elim
  |_=>exact w2.elim
 ·exact w.elim
def As (j i:Nat) (fk:aq->R D):aq->R bM:=fun ρ=>match ρ[i]? with
 |some (some (.own (.lst ds)))=>fk ρ>>=fun k=>match k with
  | .int n=>if n.natAbs<=lim then (match seqIndex? n ds.length with
   |some m=>(match ds[m]? with
    |some d=> .ok (.nx ((ρ.set i (some (.own (.lst (ds.eraseIdx m))))).set j (some (.val d))))
    |none=> .bad)
   |none=> .bad)else .bad
  |_=> .bad
 |_=> .bad
theorem Hd (j i:Nat) {x y:Str} {px apos cpos pos':Pos} (hNd:X.N.Nodup) (h:PQ ly X e f) (hN:X.N[i]? =some x:=by rfl) (hv:wL X.env.scope x:=by first|exact Or.inl rfl|exact Or.inr (Or.inl rfl)|exact Or.inr (Or.inr rfl)) (hd:(x==("__debug__":Str))=false:=by decide)
  (hcd:(x==("__classdict__":Str))=false:=by decide) (hbase:attributeBase (.Name x px) "pop" X.env (eval (.Name x px) X.env)=eval (.Name x px) X.env:=by rfl)
  (hfew:((backTo cpos (starEach [e] X.env)).all (fun x=> !x.1)&&(backToKw cpos (keywordEach [] X.env)).all (fun x=>x.1.isSome)
   &&decide (([e]:List Expr).length+([]:List Keyword).length+(if ([]:List Keyword).isEmpty then 0 else 1)<30))=true:=by rfl)
  (hline:(apos.endLine==cpos.line)=true:=by rfl) (hs:starEach [e] X.env=(false,eval e X.env)::starEach [] X.env:=by rfl) (hplain:(backTo cpos (starEach [] X.env)).any (·.1)=false:=by rfl)
  (hNj:X.N[j]? =some y:=by rfl) (hx:xT X.env.scope y:=by first|exact Or.inl rfl|exact Or.inr rfl) (hsw:swapsWith (.Call (.Attribute (.Name x px) "pop" apos) [e] [] cpos) (some (.Name y pos')) pos.line X.env=pure false:=by rfl)
  (hf:X.fn y=true\/X.env.scope.names.lookup y=some .local:=by first|exact .inl rfl|exact .inr rfl|assumption) (hfr:kN ly j:=by(repeat (first|assumption|exact L2.Pu.dZ|refine L2.Pu.free_cons ⟨by first|decide|simp,by first|decide|simp⟩ ?_))):og ly X (.Assign [.Name y pos'] (.Call (.Attribute (.Name x px) "pop" apos) [e] [] cpos) pos) (As j i f):=fun c=>
 PS.weak (m3 hNd hNj hx (DU PySem.F.plainAttrs_list PySem.F.slot_list_pop PySem.F.type_list_pop zQ (pv i hN hv hd hcd) (fO (h c) j_ hs) hbase hfew hline hs hplain) hsw hf) fun D σ H ⟨F,ρ,ri,w⟩=>by
  unfold As at w
  split at w
  ·rename_i ds hi
   obtain⟨a,vs,h1,h2,h3⟩:=ri.ownL hi
   refine⟨_,h1, .inl ⟨rfl,vs,fz.of h2⟩,F,ρ,ri,(aV.bind.mp w).imp fun k _ w1 v H1 F1 e1 r1=> ?_⟩
   cases k with
   |int n=>
    cases r1
    dsimp only at w1
    split at w1
    ·rename_i hn
     split at w1
     ·rename_i m hm
      split at w1
      ·rename_i d hd'
       obtain⟨v,hv',rv⟩:=h3.get hd'
       refine⟨a,vs,n,m,v,rfl,rfl,e1.keep _ _ h2,by have:=fP hn;omega,by have:=fP hn;omega,by rw[h3.length];exact hm,hv',?_⟩
       exact w1 _ _ F1 e1.grow (((ri.step e1).change (o:= .lst vs) hi h1 (.lst ((h3.mono e1.grow).eraseIdx m))).setVal j hfr (rv.mono e1.grow))
      ·exact w1.elim
     ·exact w1.elim
    ·exact w1.elim
   |_=>exact w1.elim
  ·exact w.elim
end
end L2.Pu
namespace L2.Pu
open PySem PySem.Spec PyProof.Rows
variable {ly:List jn}
section
variable {K:PySem.W.Frag}
def qP (i j:Int):Prop:=i.natAbs<18446744073709551616\/j.natAbs<18446744073709551616
def vU (_ j:Int):Prop:=0<j/\j.natAbs<1073741824
def Au (i j:Int):Prop:=0<=j/\j.natAbs<=1000000/\i.natAbs<18446744073709551616
instance (i j:Int):Decidable (qP i j):=by unfold qP;infer_instance
instance (i j:Int):Decidable (vU i j):=by unfold vU;infer_instance
instance (i j:Int):Decidable (Au i j):=by unfold Au;infer_instance
theorem qP.c {i j:Int} (h:qP i j):y0 i j:=by
 unfold qP at h
 unfold y0
 omega
theorem vU.c {i j:Int} (h:vU i j):C8 i j:=by
 unfold vU at h
 unfold C8
 omega
theorem Au.c {i j:Int} (h:Au i j):Gw i j:=by
 unfold Au at h
 unfold Gw
 omega
def c_:D->D->Option D
 | .int i, .int j=>some (.int (i+j))
 | .lst a, .lst b=>if a.length+b.length<=lim then some (.lst (a++b))else none
 | .tup a, .tup b=>if a.length+b.length<=lim then some (.tup (a++b))else none
 |_,_=>none
def E1 (K:PySem.W.Frag):R2:=fun x y H Q=>(x_ (fun i j=> .int (i+j)) x y H Q\/GJ x y H Q)\/(DT K x y H Q\/DZ K x y H Q)
theorem bH {X:Cx}:kG X (binaryOp .Add) (E1 X.K):=(EK.or EY).or (Cn.or CO)
theorem bI:jD K (E1 K) c_:=by
 intro v u x y d H F Q s rx ry h k
 unfold c_ at h
 split at h
 ·cases rx.int;cases ry.int;cases h;exact .inl (.inl ⟨_,_,rfl,rfl,k _ H F (cm.refl s) (.int _)⟩)
 ·rename_i a b
  split at h
  ·rename_i hl
   cases h
   obtain⟨p,vs,rfl,h1,h2⟩:=rx.lst s
   obtain⟨q,us,rfl,h3,h4⟩:=ry.lst s
   refine .inl (.inr ⟨p,q,vs,us,rfl,rfl,h1,h3,Nat.le_trans (by rw[h2.length,h4.length];exact hl) iK,fun l hl'=> ?_⟩)
   have e:=cm.lay (o:= .lst (vs++us)) s hl'
   exact k _ _ _ e (.lst aC ((h2.append h4).mono e.grow))
  ·cases h
 ·rename_i a b
  split at h
  ·rename_i hl
   cases h
   obtain⟨p,vs,rfl,h1,h2⟩:=rx.tup s
   obtain⟨q,us,rfl,h3,h4⟩:=ry.tup s
   cases a with
   |nil=>
    cases h2
    refine .inr (.inr ⟨p,q,us,rfl,rfl,iH.of h1,iH.of h3,?_⟩)
    match ry with
    | .inl ry=>exact k _ H F (cm.refl s) ry
   |cons a0 a1=>
    refine .inr (.inl ⟨p,q,vs,us,rfl,rfl,iH.of h1,iH.of h3,(fun z=>by subst z;cases h2),Nat.le_trans (by rw[h2.length,h4.length];exact hl) iK,fun z=> ?_,fun _ l hl'=> ?_⟩)
    ·subst z
     cases h4
     rw[List.append_nil]at k
     match rx with
     | .inl rx=>exact k _ H F (cm.refl s) rx
    ·have e:=cm.lay (o:= .tup (vs++us)) s hl'
     exact k _ _ _ e (.tup aC ((h2.append h4).mono e.grow))
  ·cases h
 ·cases h
def Gb (g:Int->Int->D):D->D->Option D
 | .int i, .int j=>some (g i j)
 |_,_=>none
def Fx (C:Int->Int->Prop) [∀i j,Decidable (C i j)] (g:Int->Int->D):D->D->Option D
 | .int i, .int j=>if C i j then some (g i j)else none
 |_,_=>none
theorem sM {gv:Int->Int->V} {g:Int->Int->D} (hg:∀F i j,fF K F (gv i j) (g i j)):jD K (x_ gv) (Gb g):=by
 intro v u x y d H F Q s rx ry h k
 cases x with
 |int i=>
  cases y with
  |int j=>cases rx.int;cases ry.int;cases h;exact⟨i,j,rfl,rfl,k _ H F (cm.refl s) (hg F i j)⟩
  |_=>cases h
 |_=>cases h
theorem Av {C C':Int->Int->Prop} [∀i j,Decidable (C i j)] {gv:Int->Int->V} {g:Int->Int->D} (hC:∀i j,C i j->C' i j) (hg:∀F i j,fF K F (gv i j) (g i j)):jD K (rI C' gv) (Fx C g):=by
 intro v u x y d H F Q s rx ry h k
 cases x with
 |int i=>
  cases y with
  |int j=>
   cases rx.int;cases ry.int
   replace h:(if C i j then some (g i j)else none)=some d:=h
   split at h
   ·cases h;exact⟨i,j,rfl,rfl,hC i j (by assumption),k _ H F (cm.refl s) (hg F i j)⟩
   ·cases h
  |_=>cases h
 |_=>cases h
def gM:=Gb fun i j=> .int (i - j)
def gP:=Fx vU fun i j=> .int (i / j)
def fW:=Fx (fun _ j=>0<j) fun i j=> .int (i%j)
def He:=Gb fun i j=> .bl (decide (i<j))
def IF:=Gb fun i j=> .bl (decide (i<=j))
def ui:=Gb fun i j=> .bl (decide (j<i))
def Jb:=Gb fun i j=> .bl (decide (j<=i))
theorem da:jD K (x_ fun i j=> .int (i - j)) gM:=sM fun F i j=> .int _
theorem dv:jD K (rI C8 fun i j=> .int (i / j)) gP:=Av (fun _ _ h=>h.c) fun F i j=> .int _
theorem cc:jD K (rI (fun _ j=>0<j) fun i j=> .int (i%j)) fW:=Av (fun _ _ h=>h) fun F i j=> .int _
theorem vV:jD K (x_ fun i j=> .bl (decide (i<j))) He:=sM fun F i j=> .bl _
theorem Fy:jD K (x_ fun i j=> .bl (decide (i<=j))) IF:=sM fun F i j=> .bl _
theorem mj:jD K (x_ fun i j=> .bl (decide (j<i))) ui:=sM fun F i j=> .bl _
def qQ:D->D->Option D
 | .int i, .int j=>if qP i j then some (.int (i*j))else none
 | .lst a, .int k=>if k.natAbs<=lim/\a.length*k.toNat<=lim then some (.lst (List.replicate k.toNat a).flatten)else none
 |_,_=>none
def Aw:R2:=fun x y H Q=>rI y0 (fun i j=> .int (i*j)) x y H Q\/GK x y H Q
theorem lw {X:Cx}:kG X (binaryOp .Mult) Aw:=EL.or EZ
theorem Reps.rep {F:Hp} {vs:List V} {ds:List D} (h:Reps K F vs ds):∀k:Nat,Reps K F (List.replicate k vs).flatten (List.replicate k ds).flatten
 |0=> .nil
 |k+1=>by
  rw[List.replicate_succ,List.replicate_succ,List.flatten_cons,List.flatten_cons]
  exact h.append (h.rep k)
theorem mS:jD K Aw qQ:=by
 intro v u x y d H F Q s rx ry h k
 unfold qQ at h
 split at h
 ·rename_i i j
  cases rx.int;cases ry.int
  replace h:(if qP i j then some (D.int (i*j))else none)=some d:=h
  split at h
  ·rename_i hb;cases h;exact .inl ⟨i,j,rfl,rfl,qP.c hb,k _ H F (cm.refl s) (.int _)⟩
  ·cases h
 ·rename_i a j
  split at h
  ·rename_i hl
   cases h
   cases ry.int
   obtain⟨p,vs,rfl,h1,h2⟩:=rx.lst s
   refine .inr ⟨p,j,vs,rfl,rfl,h1,by have:=fP hl.1;omega,by have:=fP hl.1;omega,Nat.le_trans (by rw[h2.length];exact hl.2) iK,fun l hl'=> ?_⟩
   have e:=cm.lay (o:= .lst (List.replicate j.toNat vs).flatten) s hl'
   exact k _ _ _ e (.lst aC ((h2.rep _).mono e.grow))
  ·cases h
 ·cases h
def kR:D->Option D
 | .int i=>some (.int (-i))
 |_=>none
theorem iC:H9 K (rU fun i=> .int (-i)) kR:=by
 intro v x d H F Q s rx h k
 cases x with
 |int i=>cases rx.int;cases h;exact⟨i,rfl,k _ H F (cm.refl s) (.int _)⟩
 |_=>cases h
def vW:D->D->Option Bool
 | .non, .non=>some true
 | .non, .int _=>some false
 | .int _, .non=>some false
 | .non, .bl _=>some false
 | .bl _, .non=>some false
 | .non, .str _=>some false
 | .str _, .non=>some false
 | .int i, .int j=>some (decide (i=j))
 | .bl i, .bl j=>some (decide (i=j))
 | .str i, .str j=>some (decide (i=j))
 | .int _, .str _=>some false
 | .str _, .int _=>some false
 | .bl _, .str _=>some false
 | .str _, .bl _=>some false
 |_,_=>none
def jY (x y:D):Option D:=(vW x y).map .bl
def oZ (x y:D):Option D:=(vW x y).map fun b=> .bl (!b)
theorem rJ {H F:Hp} {v u:V} {x y:D} {b:Bool} (rx:d9 K H F v x) (ry:d9 K H F u y) (h:vW x y=some b):EM v u=true/\decide (v=u)=b:=by
 cases x<;>cases y<;>first
  |(exfalso;revert h;simp[vW];done)
  |(first|cases rx.int|cases rx.bl|cases rx.str|cases rx.non)<;>(first|cases ry.int|cases ry.bl|cases ry.str|cases ry.non)<;>(refine⟨rfl,?_⟩;simp[vW]at h ⊢;try exact h)
theorem cC:jD K HH jY:=by
 intro v u x y d H F Q s rx ry h k
 unfold jY at h
 cases e:vW x y with
 |none=>rw[e]at h;cases h
 |some b=>
  rw[e]at h
  cases h
  obtain⟨h1,h2⟩:=rJ rx ry e
  exact⟨h1,by rw[h2];exact k _ H F (cm.refl s) (.bl b)⟩
theorem gE:jD K IL oZ:=by
 intro v u x y d H F Q s rx ry h k
 unfold oZ at h
 cases e:vW x y with
 |none=>rw[e]at h;cases h
 |some b=>
  rw[e]at h
  cases h
  obtain⟨h1,h2⟩:=rJ rx ry e
  exact⟨h1,by rw[h2];exact k _ H F (cm.refl s) (.bl _)⟩
def pU:D->D->Option D
 | .non, .non=>some (.bl true)
 | .scr _, .non=>none
 |_, .non=>some (.bl false)
 |_,_=>none
def Ax:D->Bool
 | .non=>true
 |_=>false
theorem yy {H F:Hp} {v:V} {x:D} (s:bw F H) (rx:d9 K H F v x):decide (v= .non)=Ax x:=by
 cases x with
 |non=>cases rx.non;rfl
 |bl b=>cases rx.bl;rfl
 |int i=>cases rx.int;rfl
 |str z=>cases rx.str;rfl
 |tup ds=>obtain⟨a,vs,rfl,_⟩:=rx.tup s;rfl
 |lst ds=>obtain⟨a,vs,rfl,_⟩:=rx.lst s;rfl
 |dic ds=>obtain⟨a,vs,rfl,_⟩:=rx.dic s;rfl
 |scr ns=>obtain⟨a,rfl,_⟩:=rx.scr s;rfl
 |ins C fs=>
  rcases rx with rx|⟨a,o,rfl,_,q⟩
  ·cases rx;rfl
  ·cases q
 |exc C=>
  rcases rx with rx|⟨a,o,rfl,_,q⟩
  ·cases rx;rfl
  ·cases q
theorem FA {x y d:D} (h:pU x y=some d):y= .non/\d= .bl (Ax x):=by
 unfold pU at h
 split at h
 ·cases h;exact⟨rfl,rfl⟩
 ·cases h
 ·rename_i n1 _
  cases h
  refine⟨rfl,?_⟩
  unfold Ax
  split
  ·exact absurd rfl n1
  ·rfl
 ·cases h
theorem sN:jD K (fun x y H Q=>y= .non/\Q (.bl (decide (x= .non))) H) pU:=by
 intro v u x y d H F Q s rx ry h k
 obtain⟨rfl,rfl⟩:=FA h
 cases ry.non
 refine⟨rfl,?_⟩
 rw[yy s rx]
 exact k _ H F (cm.refl s) (.bl _)
def jd:D->Bool
 | .non=>true
 | .bl _=>true
 | .int _=>true
 | .str _=>true
 |_=>false
def FC:D->D->Bool
 | .non, .non=>true
 | .bl a, .bl b=>a==b
 | .bl a, .int b=>(if a then 1 else 0)==b
 | .int a, .bl b=>a==(if b then 1 else 0)
 | .int a, .int b=>a==b
 | .str a, .str b=>a==b
 |_,_=>false
theorem uj {F:Hp} {v:V} {d:D} (r:fF K F v d) (h:jd d=true):iy v=true:=by
 cases r<;>first|rfl|cases h
theorem Ay {F:Hp} {v u:V} {x y:D} (r:fF K F v x) (q:fF K F u y) (hx:jd x=true) (hy:jd y=true):zj v u=FC x y:=by
 cases r<;>first|(cases hx;done)|(cases q<;>first|rfl|(cases hy;done))
theorem Reps.flat {F:Hp}:∀{vs:List V} {ds:List D},Reps K F vs ds->ds.all jd=true->vs.all iy=true:=by
 intro vs ds
 induction ds generalizing vs with
 |nil=>intro h _;rw[h.nilI];rfl
 |cons d ds ih=>
  intro g h
  obtain⟨v,us,rfl,r,t⟩:=g.consI
  rw[List.all_cons,Bool.and_eq_true]at h
  rw[List.all_cons,uj r h.1,ih t h.2];rfl
theorem Reps.inV {F:Hp} {v:V} {x:D} (rx:fF K F v x) (hx:jd x=true) {vs:List V} {ds:List D} (g:Reps K F vs ds):ds.all jd=true->L2.inV v vs=ds.any fun y=>FC y x:=by
 induction ds generalizing vs with
 |nil=>intro _;rw[g.nilI];rfl
 |cons d ds ih=>
  intro h
  obtain⟨w,us,e0,r,t⟩:=g.consI
  rw[List.all_cons,Bool.and_eq_true]at h
  have:=ih t h.2
  rw[e0]
  unfold L2.inV at this ⊢
  rw[List.any_cons,List.any_cons,Ay r rx h.1 hx,this]
def FD (neg:Bool) (x:D) (ds:List D):Option D:=if jd x=true/\ds.all jd=true then some (.bl (if neg then !(ds.any fun y=>FC y x)else ds.any fun y=>FC y x))else none
def vX (neg:Bool):D->D->Option D
 |x, .lst ds=>FD neg x ds
 |x, .tup ds=>FD neg x ds
 |_,_=>none
theorem uk {H F:Hp} {neg:Bool} {v:V} {x d:D} {ds:List D} (rx:d9 K H F v x) (h:FD neg x ds=some d) {vs:List V} (rv:Reps K F vs ds):
  iy v=true/\vs.all iy=true/\d= .bl (if neg then !L2.inV v vs else L2.inV v vs):=by
 unfold FD at h
 split at h
 ·rename_i hf
  cases h
  have rx':fF K F v x:=by
   rcases rx with rx|⟨a,o,rfl,_,q⟩
   ·exact rx
   ·cases q<;>cases hf.1
  exact⟨uj rx' hf.1,rv.flat hf.2,by rw[rv.inV rx' hf.1 hf.2]⟩
 ·cases h
theorem nT {neg:Bool}:jD K (Ip K neg) (vX neg):=by
 intro v u x y d H F Q s rx ry h k
 cases y with
 |lst ds=>
  obtain⟨a,vs,rfl,h1,h2⟩:=ry.lst s
  obtain⟨g1,g2,rfl⟩:=uk rx h h2
  exact⟨a,vs,rfl, .inl (fz.of h1),g1,g2,k _ H F (cm.refl s) (.bl _)⟩
 |tup ds=>
  obtain⟨a,vs,rfl,h1,h2⟩:=ry.tup s
  obtain⟨g1,g2,rfl⟩:=uk rx h h2
  exact⟨a,vs,rfl, .inr (iH.of h1),g1,g2,k _ H F (cm.refl s) (.bl _)⟩
 |_=>cases h
def sO (neg:Bool):D->D->Option D
 |x, .dic kds=>(dq x).map fun k=> .bl (if neg then !(bW kds k).isSome else (bW kds k).isSome)
 |_,_=>none
def cG (neg:Bool) (x y:D):Option D:=match y with
 | .dic _=>sO neg x y
 |_=>vX neg x y
theorem RepK.look {F:Hp} {vs:List (bx×V)} {ds:List (bx×D)} (r:RepK K F vs ds) (k:bx):(ka vs k).isSome=(bW ds k).isSome:=by
 rcases r.get k with ⟨h1,h2⟩|⟨v,d,h1,h2,_⟩<;>rw[h1,h2]<;>rfl
end
section
variable {X:Cx} {a b e:Expr} {es:List Expr} {fa fb f fk fv:aq->R D} {fs:aq->R (List D)} {pos:Pos}
theorem E2 {g h:aq->R D} (hg:PQ ly X e g) (hh:PQ ly X e h) (sel:∀ρ,f ρ=g ρ\/f ρ=h ρ):PQ ly X e f:=fun c pins s σ H Q I ⟨F,ρ,ri,w⟩=>
 (sel ρ).elim (fun z=>hg c pins s σ H Q I ⟨F,ρ,ri,z▸w⟩) fun z=>hh c pins s σ H Q I ⟨F,ρ,ri,z▸w⟩
theorem E3 {g h f:aq->R Bool} (hg:tU ly X e g) (hh:tU ly X e h) (sel:∀ρ,f ρ=g ρ\/f ρ=h ρ):tU ly X e f:=fun c pins s σ H Q I ⟨F,ρ,ri,w⟩=>
 (sel ρ).elim (fun z=>hg c pins s σ H Q I ⟨F,ρ,ri,z▸w⟩) fun z=>hh c pins s σ H Q I ⟨F,ρ,ri,z▸w⟩
theorem vY {neg:Bool} (ρ:aq):f2 (cG neg) fa fb ρ=f2 (vX neg) fa fb ρ\/f2 (cG neg) fa fb ρ=f2 (sO neg) fa fb ρ:=by
 unfold f2
 cases fa ρ with
 |ok x=>
  cases fb ρ with
  |ok y=>cases y<;>first|exact .inl rfl|exact .inr rfl
  |_=>exact .inl rfl
 |_=>exact .inl rfl
theorem ul {K:PySem.W.Frag} {c:fU ly} {σ:St} {H:Hp} {Q:VK} (h:tQ K c (f2 (sO false) fa fb) σ H Q):E_ (tB' K c fa) (tB' K c fb) σ H Q:=two h fun F H2 F2 v u x y e rx ry w=>by
 obtain⟨d,hd,k⟩:=w.of
 cases y with
 |dic kds=>
  obtain⟨p,vs,rfl,h1,h2,h3⟩:=ry.dic e.sub
  replace hd:(dq x).map (fun k=>D.bl (if false then !(bW kds k).isSome else (bW kds k).isSome))=some d:=hd
  cases hk:dq x with
  |none=>rw[hk]at hd;cases hd
  |some key=>
   rw[hk]at hd
   cases hd
   cases gT hk rx
   exact⟨p,_,rfl,kL.k (k:=key) h1,k _ H2 F2 e (by rw[h2.look];exact .bl _)⟩
 |_=>cases hd
theorem um {K:PySem.W.Frag} {c:fU ly} {σ:St} {H:Hp} {Q:VK} (h:tQ K c (f2 (sO true) fa fb) σ H Q):sx (tB' K c fa) (tB' K c fb) σ H Q:=two h fun F H2 F2 v u x y e rx ry w=>by
 obtain⟨d,hd,k⟩:=w.of
 cases y with
 |dic kds=>
  obtain⟨p,vs,rfl,h1,h2,h3⟩:=ry.dic e.sub
  replace hd:(dq x).map (fun k=>D.bl (if true then !(bW kds k).isSome else (bW kds k).isSome))=some d:=hd
  cases hk:dq x with
  |none=>rw[hk]at hd;cases hd
  |some key=>
   rw[hk]at hd
   cases hd
   cases gT hk rx
   exact⟨p,_,rfl,kL.k (k:=key) h1,k _ H2 F2 e (by rw[h2.look];exact .bl _)⟩
 |_=>cases hd
theorem yz (hu:X.A.units+1<cLine) (ha:PB ly X a fa) (hb:PB ly X b fb) (hm:behindInMarks .In b=false:=by with_unfolding_all rfl):PQ ly X (.Compare a [.In] [b] pos) (f2 (cG false) fa fb):=
 E2 (mR rn nT ha hb hm) (fun c=>PE.weak (Et (zS hu (ha c) (hb c)) hm) fun σ H Q h=>ul h) vY
theorem Az {g h:aq->R D} (sel:∀ρ,f ρ=g ρ\/f ρ=h ρ) (ρ:aq):fT f ρ=fT g ρ\/fT f ρ=fT h ρ:=by
 unfold fT
 rcases sel ρ with z|z
 ·exact .inl (by rw[z])
 ·exact .inr (by rw[z])
theorem AA (hu:X.A.units+1<cLine) (ha:PB ly X a fa) (hb:PB ly X b fb) (hm:behindInMarks .In b=false:=by with_unfolding_all rfl):tU ly X (.Compare a [.In] [b] pos) (fT (f2 (cG false) fa fb)):=
 E3 (bG rn nT ha hb hm) (fun c=>Fo (c:=c.1) (t:=E_ (tB' X.K c.1 fa) (tB' X.K c.1 fb)) (zp (zS hu (ha c) (hb c)) hm) fun σ H Q h=>ul h) (Az vY)
theorem fQ (hu:X.A.units+1<cLine) (ha:PB ly X a fa) (hb:PB ly X b fb) (hm:behindInMarks .NotIn b=false:=by with_unfolding_all rfl):tU ly X (.Compare a [.NotIn] [b] pos) (fT (f2 (cG true) fa fb)):=
 E3 (bG sr nT ha hb hm) (fun c=>Fo (c:=c.1) (t:=sx (tB' X.K c.1 fa) (tB' X.K c.1 fb)) (zp (yh hu (ha c) (hb c)) hm) fun σ H Q h=>um h) (Az vY)
def sP:D->D->Option D
 | .lst ds, .int i=>atI ds i
 | .tup ds, .int i=>atI ds i
 | .scr ns, .int i=>(atI ns i).map .int
 |_,_=>none
def AB:D->D->Option D
 | .dic kds,k=>(dq k).bind fun key=>bW kds key
 |_,_=>none
def bq (x y:D):Option D:=match x with
 | .dic _=>AB x y
 |_=>sP x y
theorem Reps.atI {K:PySem.W.Frag} {F:Hp} {vs:List V} {ds:List D} {i:Int} {d:D} (r:Reps K F vs ds) (h:atI ds i=some d):∃v,L2.atI vs i=some v/\fF K F v d:=by
 unfold L2.atI at h ⊢
 rw[r.length]
 cases e:u0 ds.length i with
 |none=>rw[e]at h;cases h
 |some j=>rw[e]at h;exact r.get h
theorem yA {K:PySem.W.Frag}:jD K (IM K) sP:=by
 intro v u x y d H F Q s rx ry h k
 unfold sP at h
 split at h
 ·cases ry.int
  obtain⟨a,vs,rfl,h1,h2⟩:=rx.lst s
  obtain⟨w,h3,h4⟩:=h2.atI h
  exact .inl ⟨a,vs,_,w,rfl,rfl,fz.of h1,h3,k _ H F (cm.refl s) h4⟩
 ·cases ry.int
  obtain⟨a,vs,rfl,h1,h2⟩:=rx.tup s
  obtain⟨w,h3,h4⟩:=h2.atI h
  exact .inr (.inl ⟨a,vs,_,w,rfl,rfl,iH.of h1,h3,k _ H F (cm.refl s) h4⟩)
 ·rename_i ns i
  cases ry.int
  obtain⟨a,rfl,h1⟩:=rx.scr s
  cases e:atI ns i with
  |none=>rw[e]at h;cases h
  |some n=>
   rw[e]at h
   cases h
   refine .inl ⟨a,ns.map V.int,i, .int n,rfl,rfl,h1,?_,k _ H F (cm.refl s) (.int n)⟩
   unfold L2.atI at e ⊢
   rw[List.length_map]
   cases e2:u0 ns.length i with
   |none=>rw[e2]at e;cases e
   |some j=>
    rw[e2]at e
    show (ns.map V.int)[j]? =_
    rw[List.getElem?_map,show ns[j]? =some n from e]
    rfl
 ·cases h
theorem FE (ρ:aq):f2 bq fa fb ρ=f2 sP fa fb ρ\/f2 bq fa fb ρ=f2 AB fa fb ρ:=by
 unfold f2
 cases fa ρ with
 |ok x=>
  cases fb ρ with
  |ok y=>cases x<;>first|exact .inl rfl|exact .inr rfl
  |_=>exact .inl rfl
 |_=>exact .inl rfl
theorem aS (hu:X.A.units+1<cLine) (ha:PB ly X a fa) (hb:PB ly X b fb) (hs:w_ b:=by intro _ _;rfl):PQ ly X (.Subscript a b pos) (f2 bq fa fb):=
 E2 (fun c=>PE.weak (GD EV (ha c) (hb c) hs) fun σ H Q h=>two h fun F H2 F2 v u x y e rx ry w=>by
   obtain⟨d,hd,k⟩:=w.of
   exact yA v u x y d H2 F2 Q e.sub rx ry hd fun w H' F' e' r'=>k w H' F' (e.trans e') r')
  (fun c=>PE.weak (Cw hu (ha c) (hb c) hs) fun σ H Q h=>two h fun F H2 F2 v u x y e rx ry w=>by
   obtain⟨d,hd,k⟩:=w.of
   cases x with
   |dic kds=>
    obtain⟨p,vs,rfl,h1,h2,h3⟩:=rx.dic e.sub
    replace hd:((dq y).bind fun key=>bW kds key)=some d:=hd
    cases hk:dq y with
    |none=>rw[hk]at hd;cases hd
    |some key=>
     rw[hk]at hd
     cases gT hk ry
     rcases h2.get key with ⟨_,z⟩|⟨v',d',z1,z2,z3⟩
     ·rw[show bW kds key=some d from hd]at z;cases z
     ·rw[show bW kds key=some d from hd]at z2
      cases z2
      exact⟨p,v',rfl,z1▸kL.k (k:=key) h1,k _ H2 F2 e z3⟩
   |_=>cases hd) FE
end
end L2.Pu
namespace L2.Pu
open PySem PySem.Spec PyProof.Rows
variable {ly:List jn}
section
variable {K:PySem.W.Frag}
theorem lL.one {H F:Hp} {vs:List V} {d:D}:lL K H F vs [d]->∃v,vs=[v]/\d9 K H F v d:=fun h=>by
 cases h with
 |cons r t=>cases t;exact⟨_,rfl,r⟩
theorem lL.two {H F:Hp} {vs:List V} {d e:D}:lL K H F vs [d,e]->∃v u,vs=[v,u]/\d9 K H F v d/\d9 K H F u e:=fun h=>by
 cases h with
 |cons r t=>
  obtain⟨u,e,q⟩:=lL.one t
  exact⟨_,u,by rw[e],r,q⟩
def fc:List D->Option D
 |[.lst ds]=>some (.int ds.length)
 |[.tup ds]=>some (.int ds.length)
 |[.scr ns]=>some (.int ns.length)
 |[.dic ds]=>some (.int ds.length)
 |_=>none
def E4 (K:PySem.W.Frag):List V->Hp->VK->Prop:=fun xs H Q=>(∃p ys,xs=[.ref p]/\(fz K H p ys\/iH K H p ys)/\Q (.int ys.length) H)\/∃p kvs,xs=[.ref p]/\H p=some (.dK kvs)/\Q (.int kvs.length) H
theorem bN {X:Cx}:dH X (.builtin "len") (E4 X.K):=by
 intro pins s σ H xs us Q I rv h
 rcases h with h|⟨p,kvs,rfl,hk,q⟩
 ·exact su pins s σ H xs us Q I rv h
 ·obtain⟨u,rfl,ru⟩:=jz rv
  cases ru
  exact GN I (.inl hk) fun t s' I'=>⟨.int kvs.length,H,I',⟨t,rfl⟩,q⟩
theorem cH:m9 K (E4 K) fc:=by
 intro vs ds d H F Q s rv h k
 match ds,h with
 |[.lst xs],h=>
  obtain⟨v,rfl,r⟩:=rv.one
  obtain⟨a,ws,rfl,h1,h2⟩:=r.lst s
  cases h
  exact .inl ⟨a,ws,rfl, .inl (fz.of h1),by rw[h2.length];exact k _ H F (cm.refl s) (.int _)⟩
 |[.tup xs],h=>
  obtain⟨v,rfl,r⟩:=rv.one
  obtain⟨a,ws,rfl,h1,h2⟩:=r.tup s
  cases h
  exact .inl ⟨a,ws,rfl, .inr (iH.of h1),by rw[h2.length];exact k _ H F (cm.refl s) (.int _)⟩
 |[.scr ns],h=>
  obtain⟨v,rfl,r⟩:=rv.one
  obtain⟨a,rfl,h1⟩:=r.scr s
  cases h
  exact .inl ⟨a,_,rfl, .inl h1,by rw[List.length_map];exact k _ H F (cm.refl s) (.int _)⟩
 |[.dic xs],h=>
  obtain⟨v,rfl,r⟩:=rv.one
  obtain⟨a,ws,rfl,h1,h2,h3⟩:=r.dic s
  cases h
  exact .inr ⟨a,ws,rfl,h1,by rw[h2.length];exact k _ H F (cm.refl s) (.int _)⟩
def dw:List D->Option D
 |[.lst ds]=>some (.tup ds)
 |[.tup ds]=>some (.tup ds)
 |_=>none
theorem cq:m9 K (fun xs H Q=>∃p ys,xs=[.ref p]/\((fz K H p ys/\∀l,H l=none->Q (.ref l) (bY H l (.tup ys)))\/(iH K H p ys/\Q (.ref p) H))) dw:=by
 intro vs ds d H F Q s rv h k
 match ds,h with
 |[.lst xs],h=>
  obtain⟨v,rfl,r⟩:=rv.one
  obtain⟨a,ws,rfl,h1,h2⟩:=r.lst s
  cases h
  refine⟨a,ws,rfl, .inl ⟨fz.of h1,fun l hl=> ?_⟩⟩
  have e:=cm.lay (o:= .tup ws) s hl
  exact k _ _ _ e (.tup aC (h2.mono e.grow))
 |[.tup xs],h=>
  obtain⟨v,rfl,r⟩:=rv.one
  obtain⟨a,ws,rfl,h1,h2⟩:=r.tup s
  cases h
  refine⟨a,ws,rfl, .inr ⟨iH.of h1,?_⟩⟩
  match r with
  | .inl r=>exact k _ H F (cm.refl s) r
def mT:List D->Option D
 |[.lst ds]=>some (.lst ds)
 |[.tup ds]=>some (.lst ds)
 |[.scr ns]=>some (.lst (ns.map .int))
 |_=>none
theorem jH {F:Hp}:∀ns:List Int,Reps K F (ns.map V.int) (ns.map D.int)
 |[]=> .nil
 |n::r=> .cons (.int n) (jH r)
theorem jI:m9 K (fun xs H Q=>∃p ys,xs=[.ref p]/\(fz K H p ys\/iH K H p ys)/\∀l,H l=none->Q (.ref l) (bY H l (.lst ys))) mT:=by
 intro vs ds d H F Q s rv h k
 match ds,h with
 |[.lst xs],h=>
  obtain⟨v,rfl,r⟩:=rv.one
  obtain⟨a,ws,rfl,h1,h2⟩:=r.lst s
  cases h
  refine⟨a,ws,rfl, .inl (fz.of h1),fun l hl=> ?_⟩
  have e:=cm.lay (o:= .lst ws) s hl
  exact k _ _ _ e (.lst aC (h2.mono e.grow))
 |[.tup xs],h=>
  obtain⟨v,rfl,r⟩:=rv.one
  obtain⟨a,ws,rfl,h1,h2⟩:=r.tup s
  cases h
  refine⟨a,ws,rfl, .inr (iH.of h1),fun l hl=> ?_⟩
  have e:=cm.lay (o:= .lst ws) s hl
  exact k _ _ _ e (.lst aC (h2.mono e.grow))
 |[.scr ns],h=>
  obtain⟨v,rfl,r⟩:=rv.one
  obtain⟨a,rfl,h1⟩:=r.scr s
  cases h
  refine⟨a,_,rfl, .inl h1,fun l hl=> ?_⟩
  have e:=cm.lay (o:= .lst (ns.map V.int)) s hl
  exact k _ _ _ e (.lst aC (jH ns))
def fD:List D->Option (List Int)
 |[]=>some []
 | .int i::r=>(fD r).map (i::·)
 |_::_=>none
theorem pV {F:Hp}:∀{ds:List D} {ns:List Int} {vs:List V},fD ds=some ns->Reps K F vs ds->vs=ns.map V.int:=by
 intro ds
 induction ds with
 |nil=>intro ns vs h r;cases r.nilI;cases h;rfl
 |cons d r ih=>
  intro ns vs h rv
  obtain⟨v,us,rfl,r1,t⟩:=rv.consI
  cases d with
  |int i=>
   cases r1.intI
   replace h:(fD r).map (i::·)=some ns:=h
   cases e:fD r with
   |none=>rw[e]at h;cases h
   |some ms=>
    rw[e]at h
    cases h
    rw[ih e t];rfl
  |_=>cases h
theorem pW (ns:List Int):fD (ns.map .int)=some ns:=by
 induction ns with
 |nil=>rfl
 |cons n r ih=>show (fD (r.map D.int)).map (n::·)=_;rw[ih];rfl
def uo:List D->Option D
 |[.lst ds]=>(fD ds).map fun ns=> .int ns.sum
 |_=>none
theorem o_:m9 K (fun xs H Q=>∃p ns,xs=[.ref p]/\fz K H p (ns.map V.int)/\Q (.int (List.sum ns)) H) uo:=by
 intro vs ds d H F Q s rv h k
 match ds,h with
 |[.lst xs],h=>
  obtain⟨v,rfl,r⟩:=rv.one
  obtain⟨a,ws,rfl,h1,h2⟩:=r.lst s
  replace h:(fD xs).map (fun ns=>D.int ns.sum)=some d:=h
  cases e:fD xs with
  |none=>rw[e]at h;cases h
  |some ns=>
   rw[e]at h
   cases h
   rw[pV e h2]at h1
   exact⟨a,ns,rfl,fz.of h1,k _ H F (cm.refl s) (.int _)⟩
def sQ:List D->Option D
 |[.lst ds]=>(fD ds).bind fun ns=>if ns.length<64 then some (.lst ((d0 ns).map .int))else none
 |_=>none
theorem vZ:m9 K (fun xs H Q=>∃p ns,xs=[.ref p]/\fz K H p (ns.map V.int)/\ns.length<64/\∀l,H l=none->Q (.ref l) (bY H l (.lst ((d0 ns).map V.int)))) sQ:=by
 intro vs ds d H F Q s rv h k
 match ds,h with
 |[.lst xs],h=>
  obtain⟨v,rfl,r⟩:=rv.one
  obtain⟨a,ws,rfl,h1,h2⟩:=r.lst s
  replace h:((fD xs).bind fun ns=>if ns.length<64 then some (D.lst ((d0 ns).map .int))else none)=some d:=h
  cases e:fD xs with
  |none=>rw[e]at h;cases h
  |some ns=>
   rw[e]at h
   replace h:(if ns.length<64 then some (D.lst ((d0 ns).map .int))else none)=some d:=h
   split at h
   ·rename_i hl
    cases h
    rw[pV e h2]at h1
    refine⟨a,ns,rfl,fz.of h1,hl,fun l hl'=> ?_⟩
    have e:=cm.lay (o:= .lst ((d0 ns).map V.int)) s hl'
    exact k _ _ _ e (.lst aC (jH _))
   ·cases h
def yB:List D->Option D
 |[.int i, .int j]=>some (.int (if j<i then j else i))
 |_=>none
def yC:List D->Option D
 |[.int i, .int j]=>some (.int (if j>i then j else i))
 |_=>none
theorem xi:m9 K (fun xs H Q=>∃i j,xs=[.int i, .int j]/\Q (.int (if j<i then j else i)) H) yB:=by
 intro vs ds d H F Q s rv h k
 match ds,h with
 |[.int i, .int j],h=>
  obtain⟨v,u,rfl,r,q⟩:=rv.two
  cases r.int;cases q.int;cases h
  exact⟨i,j,rfl,k _ H F (cm.refl s) (.int _)⟩
theorem xj:m9 K (fun xs H Q=>∃i j,xs=[.int i, .int j]/\Q (.int (if j>i then j else i)) H) yC:=by
 intro vs ds d H F Q s rv h k
 match ds,h with
 |[.int i, .int j],h=>
  obtain⟨v,u,rfl,r,q⟩:=rv.two
  cases r.int;cases q.int;cases h
  exact⟨i,j,rfl,k _ H F (cm.refl s) (.int _)⟩
def v_:List D->Option D
 |[.int i]=>some (.int i)
 |[.bl k]=>some (.int (if k then 1 else 0))
 |_=>none
theorem p0:m9 K (fun xs H Q=>(∃i,xs=[.int i]/\Q (.int i) H)\/∃k,xs=[.bl k]/\Q (.int (if k then 1 else 0)) H) v_:=by
 intro vs ds d H F Q s rv h k
 match ds,h with
 |[.int i],h=>obtain⟨v,rfl,r⟩:=rv.one;cases r.int;cases h;exact .inl ⟨i,rfl,k _ H F (cm.refl s) (.int _)⟩
 |[.bl i],h=>obtain⟨v,rfl,r⟩:=rv.one;cases r.bl;cases h;exact .inr ⟨i,rfl,k _ H F (cm.refl s) (.int _)⟩
end
section
variable {X:Cx} {a b e:Expr} {es:List Expr} {fa fb f fk fv:aq->R D} {fs:aq->R (List D)} {pos p p2:Pos}
def HL:D->Option String
 | .non=>some "NoneType"
 | .bl _=>some "bool"
 | .int _=>some "int"
 | .str _=>some "str"
 | .tup _=>some "tuple"
 | .lst _=>some "list"
 | .dic _=>some "dict"
 |_=>none
def rK (t T:String):Option Bool:=if t=T then some true else if t="bool"/\T="int" then some true
 else if ["NoneType","bool","int","str","tuple","list","dict"].contains t/\["bool","int","str","tuple","list","dict"].contains T then some false else none
theorem AD (K:PySem.W.Frag) {t T:String} {k:Bool} (ht:t="NoneType"\/t="bool"\/t="int"\/t="str"\/t="tuple"\/t="list"\/t="dict") (hT:T="bool"\/T="int"\/T="str"\/T="tuple"\/T="list"\/T="dict") (h:rK t T=some k):
  PySem.W.kitOne K (.type t) (.type T)=some k:=by
 rcases ht with rfl|rfl|rfl|rfl|rfl|rfl|rfl<;>rcases hT with rfl|rfl|rfl|rfl|rfl|rfl<;>(revert h;unfold rK;simp+decide;rintro rfl;first|rfl|(unfold PySem.W.kitOne PySem.W.kitCls;decide+kernel))
def pX (T:String) (d:D):Option D:=(HL d).bind fun t=>(rK t T).map .bl
def iN (T:String) (f:aq->R D):aq->R D:=fun ρ=>f ρ>>=fun d=>R.of (pX T d)
theorem FF {K:PySem.W.Frag} {H F:Hp} {v:V} {d:D} {t:String} (s:bw F H) (r:d9 K H F v d) (h:HL d=some t):mJ K H v (.type t):=by
 cases d with
 |non=>cases r.non;cases h;exact .non
 |bl=>cases r.bl;cases h;exact .bl _
 |int=>cases r.int;cases h;exact .int _
 |str=>cases r.str;cases h;exact .str _
 |tup=>obtain⟨a,vs,rfl,h1,_⟩:=r.tup s;cases h;exact .tup h1
 |lst=>obtain⟨a,vs,rfl,h1,_⟩:=r.lst s;cases h;exact .lst h1
 |dic=>obtain⟨a,vs,rfl,h1,_⟩:=r.dic s;cases h;exact .dK h1
 |_=>cases h
theorem yD {d:D} {t:String} (h:HL d=some t):t="NoneType"\/t="bool"\/t="int"\/t="str"\/t="tuple"\/t="list"\/t="dict":=by
 cases d<;>cases h<;>simp
theorem jJ {x:Str} {T:String} (hT:T="bool"\/T="int"\/T="str"\/T="tuple"\/T="list"\/T="dict") (hm1:X.mg "isinstance"=none) (hm:X.mg x=none) (hv:bootBuiltins x=some (.type T)) (ha:PB ly X a fa) (hg1:Gl X "isinstance":=by rfl) (hg:Gl X x:=by rfl)
  (hn:x≠"__name__":=by decide) (hdb:(x==("__debug__":Str))=false:=by decide)
  (he:starEach [a, .Name x p2] X.env=(false,eval a X.env)::starEach [.Name x p2] X.env:=by rfl) (he2:starEach [.Name x p2] X.env=(false,eval (.Name x p2) X.env)::starEach [] X.env:=by rfl) (hpl:(backTo pos (starEach [.Name x p2] X.env)).any (·.1)=false:=by rfl):
  PQ ly X (.Call (.Name "isinstance" p) [a, .Name x p2] [] pos) (iN T fa):=fun c=>
 PE.weak (mK zX hg1 hm1 pD (fO (ha c) (fO (wN (v:= .ty T) hg hm hv rfl hn hdb) j_ he2) he) (by decide) (by decide) he hpl) fun σ H Q ⟨F,ρ,ri,w⟩=>
  ⟨F,ρ,ri,(aV.bind.mp w).imp fun d _ w1 v H1 F1 e1 r1=>by
   obtain⟨d',hd,k⟩:=w1.of
   unfold pX at hd
   cases ht:HL d with
   |none=>rw[ht]at hd;cases hd
   |some t=>
    rw[ht]at hd
    cases hs:rK t T with
    |none=>
     replace hd:(rK t T).map D.bl=some d':=hd
     rw[hs]at hd;cases hd
    |some kk=>
     replace hd:(rK t T).map D.bl=some d':=hd
     rw[hs]at hd
     cases hd
     exact⟨v,T,_,kk,rfl,FF e1.sub r1 ht,AD X.K (yD ht) hT hs,k _ H1 F1 e1 (.bl kk)⟩⟩
def CU (f:aq->R D):aq->R D:=fun ρ=>f ρ>>=fun d=>match d with
 | .lst ds=> .ok (.lst ds.reverse)
 |_=> .bad
theorem E5 {j:Nat} {pu pk:Pos} (ha:PB ly X a fa):PQ ly X (.Subscript a (.Slice none none (some (.UnaryOp .USub (.Constant (.int 1) j pk) pu)) p2) pos) (CU fa):=fun c=>
 PE.weak (Fg (ha c) (wY (DN jl zo))) fun σ H Q ⟨F,ρ,ri,w⟩=>⟨F,ρ,ri,(aV.bind.mp w).imp fun d _ w1 v H1 F1 e1 r1=>by
  cases d with
  |lst ds=>
   obtain⟨p,vs,rfl,h1,h2⟩:=r1.lst e1.sub
   refine⟨1,rfl,-1,rfl,rfl,p,vs,rfl,fz.of h1,fun l hl=> ?_⟩
   have e2:=cm.lay (o:= .lst vs.reverse) e1.sub hl
   exact w1 _ _ _ (e1.trans e2) (.lst aC (h2.reverse.mono e2.grow))
  |_=>exact w1.elim⟩
def sR (ds:List D) (lo hi:Option Int):List D:=(ds.drop (HT.eF ds.length 0 lo)).take (HT.eF ds.length ds.length hi - HT.eF ds.length 0 lo)
theorem Reps.cut {K:PySem.W.Frag} {F:Hp} {vs:List V} {ds:List D} (r:Reps K F vs ds) (lo hi:Option Int):Reps K F (qK vs lo hi) (sR ds lo hi):=by
 unfold qK sR
 rw[r.length]
 exact(r.drop _).take _
def Jc (K:PySem.W.Frag) (c:fU ly) (f:aq->R (Option Int)):TO:=fun σ H Q=>∃F ρ,RI K c ρ σ H F/\aV c (f ρ) fun o=>∀H' F',cm H F H' F'->Q o H'
def HM (ly:List jn) (X:Cx) (e:Option Expr) (f:aq->R (Option Int)):Prop:=∀c:kO ly X,PO X e (Jc X.K c.1 f)
theorem PO.weak {X:Cx} {e:Option Expr} {t t':TO} (h:PO X e t) (w:∀σ H Q,t' σ H Q->t σ H Q):PO X e t':=fun pins s σ H Q I q=>h pins s σ H Q I (w σ H Q q)
def jK:aq->R (Option Int):=fun _=> .ok none
def jL (f:aq->R D):aq->R (Option Int):=fun ρ=>f ρ>>=fun d=>match d with
 | .int i=> .ok (some i)
 |_=> .bad
theorem ml:HM ly X none jK:=fun c=>PO.weak Cm fun σ H Q ⟨F,ρ,ri,w⟩=>w H F (cm.refl ri.sub)
theorem mn (h:PQ ly X e f):HM ly X (some e) (jL f):=fun c=>PO.weak (wY (h c)) fun σ H Q ⟨F,ρ,ri,w⟩=>⟨F,ρ,ri,(aV.bind.mp w).imp fun d _ w1 v H1 F1 e1 r1=>by
 cases d with
 |int i=>cases r1;exact⟨i,rfl,w1 H1 F1 e1⟩
 |_=>exact w1.elim⟩
variable {lo hi:Option Expr} {fl fh:aq->R (Option Int)}
def BZ (d:D) (lo hi:Option Int):Option D:=match d with
 | .lst ds=>some (.lst (sR ds lo hi))
 | .tup ds=>if HT.eF ds.length 0 lo=0/\HT.eF ds.length ds.length hi=ds.length then some (.tup ds)else some (.tup (sR ds lo hi))
 |_=>none
def yE (f:aq->R D) (fl fh:aq->R (Option Int)):aq->R D:=fun ρ=>f ρ>>=fun d=>fl ρ>>=fun l=>fh ρ>>=fun h=>R.of (BZ d l h)
theorem kf (ha:PB ly X a fa) (hl:HM ly X lo fl) (hh:HM ly X hi fh):PQ ly X (.Subscript a (.Slice lo hi none p2) pos) (yE fa fl fh):=fun c=>
 PE.weak (zM ((Cq.or ES).or CN) (ha c) (hl c) (hh c)) fun σ H Q ⟨F,ρ,ri,w⟩=>⟨F,ρ,ri,(aV.bind.mp w).imp fun d _ w1 v H1 F1 e1 r1=>⟨F1,ρ,ri.step e1,(aV.bind.mp w1).imp fun l _ w2 H2 F2 e2=>
  ⟨F2,ρ,(ri.step e1).step e2,(aV.bind.mp w2).imp fun h _ w3 H3 F3 e3=>by
   obtain⟨d',hd,k⟩:=w3.of
   have e13:=(e1.trans e2).trans e3
   have r3:=(r1.mono e2).mono e3
   cases d with
   |lst ds=>
    cases hd
    obtain⟨p,vs,rfl,h1,h2⟩:=r3.lst e13.sub
    refine .inl (.inl ⟨p,vs,rfl,fz.of h1,fun q hq=> ?_⟩)
    have e4:=cm.lay (o:= .lst (qK vs l h)) e13.sub hq
    exact k _ _ _ (e13.trans e4) (.lst aC ((h2.cut l h).mono e4.grow))
   |tup ds=>
    replace hd:(if HT.eF ds.length 0 l=0/\HT.eF ds.length ds.length h=ds.length then some (D.tup ds)else some (D.tup (sR ds l h)))=some d':=hd
    split at hd
    ·rename_i hw
     cases hd
     rcases r3 with r3|⟨_,_,_,_,q⟩
     ·cases r3 with
      | @tup p vs _ h1 h2=>exact .inr ⟨p,vs,rfl,iH.of (e13.sub _ _ h1),by rw[h2.length];exact hw,k _ _ _ e13 (.tup h1 h2)⟩
     ·cases q
    ·rename_i hw
     cases hd
     obtain⟨p,vs,rfl,h1,h2⟩:=r3.tup e13.sub
     refine .inl <| .inr ⟨p,vs,rfl,iH.of h1,by rw[h2.length];exact hw,fun q hq=> ?_⟩
     have e4:=cm.lay (o:= .tup (qK vs l h)) e13.sub hq
     exact k _ _ _ (e13.trans e4) (.tup aC ((h2.cut l h).mono e4.grow))
   |_=>cases hd⟩⟩⟩
def oi (fd fk fx:aq->R D):aq->R D:=fun ρ=>fd ρ>>=fun d=>match d with
 | .dic kds=>fk ρ>>=fun k=>fx ρ>>=fun x=>(match dq k with
  |some key=> .ok ((bW kds key).getD x)
  |none=> .bad)
 |_=> .bad
theorem w5 {o x:Expr} {fd fx:aq->R D} {apos cpos:Pos} (hu:X.A.units+1<cLine) (ho:PB ly X o fd) (hk:PQ ly X a fk) (hx:PQ ly X x fx)
  (m:M2 X o "get" apos a x cpos:=by exact⟨rfl,rfl,rfl,rfl⟩):PQ ly X (.Call (.Attribute o "get" apos) [a,x] [] cpos) (oi fd fk fx):=fun c=>
 PE.weak (zV hu (ho c) (hk c) (hx c) m) fun σ H Q ⟨F,ρ,ri,w⟩=>⟨F,ρ,ri,(aV.bind.mp w).imp fun d _ w1 v H1 F1 e1 r1=>by
  cases d with
  |dic kds=>
   obtain⟨p,vs,rfl,h1,h2,h3⟩:=r1.dic e1.sub
   refine⟨p,rfl, .inl ⟨vs, .inl h1⟩,F1,ρ,ri.step e1,(aV.bind.mp w1).imp fun k _ w2 u H2 F2 e2 r2=>⟨F2,ρ,(ri.step e1).step e2,(aV.bind.mp w2).imp fun z _ w3 y H3 F3 e3 r3=> ?_⟩⟩
   cases hk':dq k with
   |none=>rw[hk']at w3;exact w3.elim
   |some key=>
    rw[hk']at w3
    cases gT (H:=H2) hk' (.inl r2)
    have e23:=e2.trans e3
    refine⟨_,kL.k (k:=key) (e23.keep _ _ h1),?_⟩
    refine w3 _ H3 F3 (e1.trans e23) ?_
    rcases(h2.mono e23.grow).get key with ⟨z1,z2⟩|⟨v',d',z1,z2,z3⟩
    ·rw[z1,z2];exact r3
    ·rw[z1,z2];exact z3
  |_=>exact w1.elim⟩
def mq:List ((aq->R D)×(aq->R D))->aq->R (List (bx×D))
 |[],_=> .ok []
 |(fk,fv)::r,ρ=>fk ρ>>=fun k=>fv ρ>>=fun v=>mq r ρ>>=fun ps=>match dq k with
  |some key=> .ok ((key,v)::ps)
  |none=> .bad
def gU (kvs more:List (bx×D)):List (bx×D):=more.foldl (fun acc kv=>lI acc kv.1 kv.2) kvs
theorem RepK.merge {K:PySem.W.Frag} {F:Hp}:∀{more:List (bx×V)} {dmore:List (bx×D)} {vs:List (bx×V)} {ds:List (bx×D)},RepK K F more dmore->RepK K F vs ds->(vs.map (·.1)).Nodup->RepK K F (gQ vs more) (gU ds dmore)/\((gQ vs more).map (·.1)).Nodup:=by
 intro more dmore
 induction dmore generalizing more with
 |nil=>intro vs ds r h n;rw[r.nilI];exact⟨h,n⟩
 |cons d s ih=>
  intro vs ds r h n
  obtain⟨k,d⟩:=d
  obtain⟨v,us,rfl,q,t⟩:=r.consI
  exact ih (more:=us) t (h.put k q) (Ar v n)
inductive CV (ly:List jn) (X:Cx) (pos:Pos):List (Option Expr)->List Expr->List ((aq->R D)×(aq->R D))->Prop
 |nil:CV ly X pos [] [] []
 |cons {k v:Expr} {ks:List (Option Expr)} {vs:List Expr} {fk fv:aq->R D} {ps:List ((aq->R D)×(aq->R D))}:PQ ly X k fk->PQ ly X v fv->CV ly X pos ks vs ps->CV ly X pos (some k::ks) (v::vs) ((fk,fv)::ps)
theorem CV.pps {X:Cx} {pos:Pos} (c:kO ly X):∀{ks:List (Option Expr)} {vs:List Expr} {ps:List ((aq->R D)×(aq->R D))},CV ly X pos ks vs ps->GR X pos ks vs (ps.map fun p=>(tQ X.K c.1 p.1,tQ X.K c.1 p.2))
 |_,_,_, .nil=>Cz
 |_,_,_, .cons h1 h2 r=>zU (h1 c) (h2 c) (r.pps c)
theorem CV.len {X:Cx} {pos:Pos}:∀{ks:List (Option Expr)} {vs:List Expr} {ps:List ((aq->R D)×(aq->R D))},CV ly X pos ks vs ps->ks.length=vs.length/\ks.length=ps.length/\ks.all (·.isSome)=true
 |_,_,_, .nil=>⟨rfl,rfl,rfl⟩
 |_,_,_, .cons _ _ r=>by
  obtain⟨a,b,c⟩:=r.len
  exact⟨by simp[a],by simp[b],by simp[List.all_cons,c]⟩
theorem pY {K:PySem.W.Frag} {c:fU ly} {σ:St}:∀{ps:List ((aq->R D)×(aq->R D))} {ρ:aq} {H F:Hp} {T:List (V×V)->Hp->Prop},RI K c ρ σ H F->
  aV c (mq ps ρ) (fun kds=>∀kvs H' F',cm H F H' F'->RepK K F' kvs kds->T (kvs.map fun kv=>(kV kv.1,kv.2)) H')->sy (ps.map fun p=>(tQ K c p.1,tQ K c p.2)) σ H T
 |[],ρ,H,F,T,ri,w=>w [] H F (cm.refl ri.sub) .nil
 |(fk,fv)::r,ρ,H,F,T,ri,w=>by
  refine⟨F,ρ,ri,(aV.bind.mp w).imp fun k _ w1 v H1 F1 e1 r1=>⟨F1,ρ,ri.step e1,(aV.bind.mp w1).imp fun d _ w2 u H2 F2 e2 r2=> ?_⟩⟩
  refine pY ((ri.step e1).step e2) ((aV.bind.mp w2).imp fun kds _ w3 kvs H3 F3 e3 r3=> ?_)
  cases hk:dq k with
  |none=>rw[hk]at w3;exact w3.elim
  |some key=>
   rw[hk]at w3
   cases gT (H:=H1) hk (.inl r1)
   exact w3 ((key,u)::kvs) H3 F3 ((e1.trans e2).trans e3) (.cons (r2.mono e3.grow) r3)
theorem yF {K:PySem.W.Frag} {c:fU ly} {σ:St} {ps:List ((aq->R D)×(aq->R D))} {ρ:aq} {H F:Hp} {Q:VK} (ri:RI K c ρ σ H F) (h15:ps.length<=15)
  (w:aV c (mq ps ρ) fun kds=>∀p H' F' kvs,H p=none->cm H F H' F'->H' p=some (.dK kvs)->F' p=none->RepK K F' kvs (gU [] kds)->(kvs.map (·.1)).Nodup->Q (.ref p) H'):
  DX (ps.map fun p=>(tQ K c p.1,tQ K c p.2)) σ H Q:=by
 intro p hp
 have e0:=cm.layOwn (o:= .dK []) ri.sub hp
 have hlen:∀{qs:List ((aq->R D)×(aq->R D))} {kds:List (bx×D)},mq qs ρ= .ok kds->kds.length=qs.length:=by
  intro qs
  induction qs with
  |nil=>intro kds h;cases h;rfl
  |cons q r ih=>
   intro kds h
   obtain⟨k,_,h⟩:=iB (r:=q.1 ρ) h
   obtain⟨v,_,h⟩:=iB (r:=q.2 ρ) h
   obtain⟨ps',hp',h⟩:=iB (r:=mq r ρ) h
   cases hk:dq k with
   |none=>rw[hk]at h;cases h
   |some key=>rw[hk]at h;cases h;simp[ih hp']
 refine pY (ri.step e0) (w.imp fun kds hk w1 kvs H1 F1 e1 r1=> ?_)
 have hH1:H1 p=some (.dK []):=e1.keep _ _ aC
 refine⟨hH1,kvs,rfl,by rw[r1.length,hlen hk];exact h15,?_⟩
 have hF1:F1 p=none:=by
  cases q:F1 p with
  |none=>rfl
  |some u=>
   rcases e1.new p (by rw[q];simp)with z|z
   ·exact absurd (ri.sub.free hp) z
   ·rw[aC]at z;cases z
 obtain⟨m1,m2⟩:=RepK.merge r1 .nil List.nodup_nil
 refine w1 p _ F1 _ hp ⟨fun b u e=> ?_,fun b u e=> ?_,e1.grow,fun b e=> ?_⟩ aC hF1 m1 m2
 ·rw[aD (fun z=>by rw[z,hF1]at e;cases e)];exact e1.sub b u e
 ·have hb:b≠p:=fun z=>by rw[z,hp]at e;cases e
  rw[aD hb];exact e1.keep b u (by rw[aD hb];exact e)
 ·rcases e1.new b e with z|z
  ·exact .inl z
  ·refine .inr ?_
   rw[aD (fun q=>by rw[q,aC]at z;cases z)]at z
   exact z
def w6 (i:Nat) (ps:List ((aq->R D)×(aq->R D))):aq->R bM:=fun ρ=>mq ps ρ>>=fun kds=> .ok (.nx (ρ.set i (some (.own (.dic (gU [] kds))))))
theorem CW (i:Nat) {x:Str} {pos' pl:Pos} {keys:List (Option Expr)} {values:List Expr} {ps:List ((aq->R D)×(aq->R D))} (hN:X.N.Nodup) (h:CV ly X pl keys values ps) (h0:keys≠[]) (h15:ps.length<=15) (hi:X.N[i]? =some x:=by rfl) (hx:xT X.env.scope x:=by first|exact Or.inl rfl|exact Or.inr rfl)
  (hs:swapsWith (.Dict keys values pl) (some (.Name x pos')) pos.line X.env=pure false:=by rfl) (hf:X.fn x=true\/X.env.scope.names.lookup x=some .local:=by first|exact .inl rfl|exact .inr rfl|assumption) (hfr:kN ly i:=by(repeat (first|assumption|exact L2.Pu.dZ|refine L2.Pu.free_cons ⟨by first|decide|simp,by first|decide|simp⟩ ?_))):
  og ly X (.Assign [.Name x pos'] (.Dict keys values pl) pos) (w6 i ps):=fun c=>
 PS.weak (m3 hN hi hx (CA (h.pps c) h.len.2.2 h.len.1 h0 (by rw[h.len.2.1];exact h15)) hs hf) fun D σ H ⟨F,ρ,ri,w⟩=>
  yF ri h15 ((aV.bind.mp w).imp fun kds _ w1 p H' F' kvs hp e hH hF r n=>by
   refine w1 _ H' F' e.grow ((ri.step e).setOwn i hfr hH hF (ri.ext.keep.free hp) (.dic r n) fun j d' _ hj ej=> ?_)
   obtain⟨a,o,k1,k2,_⟩:=ri.own j d' hj
   rw[ej]at k1
   cases k1
   rw[hp]at k2
   cases k2)
end
end L2.Pu
namespace L2.Pu
open PySem PySem.Spec PyProof.Rows
variable {ly:List jn}
def uq (scope outer:Scope):Bool:=
 scope.kind== .function&&scope.names.all (fun y=>y.2 != .cell)&&scope.names.all (fun y=>y.2 != .local||scope.names.lookup y.1==some .local)&&
 scope.names.all (fun y=>y.2 != .free||outer.names.lookup y.1==some .cell||outer.names.lookup y.1==some .free)&&decide ((scope.names.map (·.1)).Nodup)
theorem bR.of {X:Cx} {scope outer:Scope} (h:X.env.scope=outer) (k:uq scope outer=true):bR X scope:=by
 unfold uq at k
 simp only[Bool.and_eq_true,List.all_eq_true,decide_eq_true_eq,Bool.or_eq_true,bne_iff_ne,beq_iff_eq]at k
 obtain⟨⟨⟨⟨k1,k2⟩,k3⟩,k4⟩,k5⟩:=k
 refine⟨k1,k2,fun y hy hl=> ?_,fun y hy hf=> ?_,k5⟩
 ·rcases k3 y hy with z|z
  ·exact absurd hl z
  ·exact z
 ·show X.env.scope.names.lookup y.1=_\/X.env.scope.names.lookup y.1=_
  rw[h]
  rcases k4 y hy with (z|z)|z
  ·exact absurd hf z
  ·exact .inl z
  ·exact .inr z
structure aP (K:PySem.W.Frag) (mg:Str->Option Value) (x:Str) (st:Stmt) (ps:List Str):Prop where
 ex:∃f fd,zk K x x st f fd/\mg x=some (.ref f)/\ix K fd ps []
structure aE (P:Program) (w:World) (K:PySem.W.Frag) (mg:Str->Option Value) (base:Heap) (k:Nat) (x:Str) (n:Nat) (m:List D->R D):Prop where
 ex:∃f fd ps,i7 P w K mg base (oY P w) k f fd ps (yt K n m)/\mg x=some (.ref f)/\PySem.W.keepIn K (.ref f)=true/\ix K fd ps []
section
variable {P:Program} {w:World} {K:PySem.W.Frag} {mg:Str->Option Value} {base:Heap}
theorem bc {x:Str} {st:Stmt} {N ps:List Str} {k n m:Nat} {g:aq->R bM} (A:aP K mg x st ps) (S:aI N ps (ah st)) (hn:ps.length=n) (hm:N.length=m)
  (hbody:∀(f:Addr) (cdv:Value) (A:Around) (outer:List Env) (s:Shared) (H:Hp) (E:XK),eE k (A.deeper (envOfC x (ah st) s.heap.objs.size f cdv))->
   md [] (kI (oY P w) P w K mg base N x (ah st) f cdv A outer s H E) (aG st) g):aE P w K mg base (k+1) x n (aZ n m g):=by
 obtain⟨f,fd,F,h1,h2⟩:=A.ex
 exact⟨f,fd,ps,Fw F S hn hm fun cdv A outer s H E hr=>hbody f cdv A outer s H E hr,h1,F.kp,h2⟩
theorem aE.mono {x:Str} {j k n:Nat} {m:List D->R D} (F:aE P w K mg base j x n m) (h:j<=k):aE P w K mg base k x n m:=by
 obtain⟨f,fd,ps,h1,h2⟩:=F.ex
 exact⟨f,fd,ps,h1.mono h,h2⟩
theorem AE {x:Str} {st:Stmt} {ps:List Str} {n:Nat} (A:aP K mg x st ps) (hn:ps.length=n):aE P w K mg base 0 x n (fun _=> .bad):=by
 obtain⟨f,fd,F,h1,h2⟩:=A.ex
 refine⟨f,fd,ps,⟨fun vs H Q E h=>by rw[hn];exact h.1,fun A outer s H args us vs Q E hr e0 hb rv h=> ?_⟩,h1,F.kp,h2⟩
 obtain⟨_,F',ds,_,_,z⟩:=h
 exact z.elim
end
section
variable {X:Cx} {e:Expr} {es:List Expr} {fs:aq->R (List D)} {x:Str} {p pos:Pos}
theorem bE {n k:Nat} {m:List D->R D} (F:aE X.prog X.w X.K X.mg X.base k x n m) (hr:eE k X.A)
  (ha:vS ly X (e::es) fs) (hg:Gl X x:=by rfl) (hdb:(x==("__debug__":Str))=false:=by decide) (he:starEach (e::es) X.env=(false,eval e X.env)::starEach es X.env:=by rfl) (hpl:(backTo pos (starEach es X.env)).any (·.1)=false:=by rfl):
  PQ ly X (.Call (.Name x p) (e::es) [] pos) (ax m n fs):=by
 obtain⟨f,fd,ps,h1,h2,h3,h4⟩:=F.ex
 exact Fq h1 hr h2 h3 h4 ha hg hdb he hpl
end
structure Bl (mg:Str->Option Value) (xs:List Str):Prop where
 no:∀x∈xs,mg x=none
theorem bu:bootBuiltins "tuple"=some (.type "tuple"):=by decide+kernel
theorem gW:bootBuiltins "list"=some (.type "list"):=by decide+kernel
theorem jM:bootBuiltins "dict"=some (.type "dict"):=by decide+kernel
theorem jN:bootBuiltins "int"=some (.type "int"):=by decide+kernel
theorem rL:bootBuiltins "bool"=some (.type "bool"):=by decide+kernel
theorem ur:bootBuiltins "str"=some (.type "str"):=by decide+kernel
theorem je:bootBuiltins "sorted"=some (.builtin "sorted"):=by decide+kernel
theorem ut:bootBuiltins "min"=some (.builtin "min"):=by decide+kernel
theorem uu:bootBuiltins "max"=some (.builtin "max"):=by decide+kernel
theorem lx:bootBuiltins "sum"=some (.builtin "sum"):=by decide+kernel
theorem FG {K:PySem.W.Frag} {m:List D->R D} {H:Hp} {a:Addr} {ns:List Int} {E:XK} (h:m [.scr ns]= .ok (.bl true)) (hs:fz K H a (ns.map V.int)):yt K 1 m [.ref a] H (fun v _=>v= .bl true) E:=by
 refine⟨rfl,H,[.scr ns],bw.refl _, .cons (.scr hs) .nil,?_⟩
 rw[h]
 intro v H' F' e r
 cases r
 rfl
end L2.Pu
namespace L2.Pu
open PySem PySem.Spec PyProof.Rows
variable {ly:List jn}
section
variable {i j:Int}
theorem bO (h:0<j):fW (.int i) (.int j)=some (.int (i%j)):=if_pos h
theorem ee (h:0<j/\j<1073741824):gP (.int i) (.int j)=some (.int (i / j)):=if_pos (show vU i j from ⟨h.1,by omega⟩)
theorem AF (h:j.natAbs<18446744073709551616):qQ (.int i) (.int j)=some (.int (i*j)):=if_pos (show qP i j from .inr h)
theorem w8 (h:i.natAbs<18446744073709551616):qQ (.int i) (.int j)=some (.int (i*j)):=if_pos (show qP i j from .inl h)
theorem FH:c_ (.int i) (.int j)=some (.int (i+j)):=rfl
theorem FI:gM (.int i) (.int j)=some (.int (i - j)):=rfl
theorem E6:He (.int i) (.int j)=some (.bl (decide (i<j))):=rfl
theorem Hf:IF (.int i) (.int j)=some (.bl (decide (i<=j))):=rfl
theorem Hg:ui (.int i) (.int j)=some (.bl (decide (j<i))):=rfl
theorem Hh:Jb (.int i) (.int j)=some (.bl (decide (j<=i))):=rfl
theorem AG:jY (.int i) (.int j)=some (.bl (decide (i=j))):=rfl
theorem E7:oZ (.int i) (.int j)=some (.bl (!decide (i=j))):=rfl
theorem AH {a b:Bool}:jY (.bl a) (.bl b)=some (.bl (decide (a=b))):=rfl
theorem w9:kR (.int i)=some (.int (-i)):=rfl
end
theorem FJ {a b:List D} (h:a.length+b.length<=lim):c_ (.lst a) (.lst b)=some (.lst (a++b)):=if_pos h
theorem Hi {ds:List D} {i:Int}:bq (.lst ds) (.int i)=atI ds i:=rfl
theorem xk {ds:List D} {i:Int}:bq (.tup ds) (.int i)=atI ds i:=rfl
theorem Hj {ns:List Int} {i:Int}:bq (.scr ns) (.int i)=(atI ns i).map .int:=rfl
theorem E8 {kds:List (bx×D)} {k:D}:bq (.dic kds) k=(dq k).bind fun key=>bW kds key:=rfl
theorem FK {ds:List D}:fc [.lst ds]=some (.int ds.length):=rfl
theorem wa {ds:List D}:fc [.tup ds]=some (.int ds.length):=rfl
theorem FL {ds:List Int}:fc [.scr ds]=some (.int ds.length):=rfl
theorem AI {ds:List D}:dw [.lst ds]=some (.tup ds):=rfl
theorem AJ {ds:List D}:dw [.tup ds]=some (.tup ds):=rfl
theorem CY {ds:List D}:mT [.lst ds]=some (.lst ds):=rfl
theorem CZ {ds:List D}:mT [.tup ds]=some (.lst ds):=rfl
theorem eL {α:Type} {xs:List α} {k:Nat} (h:k<xs.length):L2.atI xs (k:Int)=some xs[k]:=lp (by simp[h])
theorem C_ {α β:Type} (f:α->β) (xs:List α) (i:Int):L2.atI (xs.map f) i=(L2.atI xs i).map f:=by
 unfold L2.atI
 rw[List.length_map]
 cases u0 xs.length i with
 |none=>rfl
 |some j=>simp
theorem D0 (x:Int) (xs:List Int):((xs.map D.int).any fun y=>FC y (.int x))=decide (x∈xs):=by
 induction xs with
 |nil=>rfl
 |cons y r ih=>
  rw[List.map_cons,List.any_cons,ih]
  show (y==x||decide (x∈r))=decide (x∈y::r)
  by_cases e:x=y
  ·subst e;simp
  ·have:(y==x)=false:=beq_eq_false_iff_ne.mpr (Ne.symm e)
   simp[this,e]
theorem D1 (xs:List Int):(xs.map D.int).all jd=true:=by
 induction xs with
 |nil=>rfl
 |cons y r ih=>rw[List.map_cons,List.all_cons,ih];rfl
theorem mU (neg:Bool) (x:Int) (xs:List Int):FD neg (.int x) (xs.map .int)=some (.bl (if neg then !decide (x∈xs)else decide (x∈xs))):=by
 unfold FD
 rw[if_pos ⟨rfl,D1 xs⟩,D0]
theorem mV {x:Int} {xs:List Int}:cG false (.int x) (.lst (xs.map .int))=some (.bl (decide (x∈xs))):=mU false x xs
theorem E9 {x:Int} {xs:List Int}:cG false (.int x) (.tup (xs.map .int))=some (.bl (decide (x∈xs))):=mU false x xs
theorem iO {x:Int} {xs:List Int}:cG true (.int x) (.lst (xs.map .int))=some (.bl (!decide (x∈xs))):=mU true x xs
theorem mW {x:Int} {xs:List Int}:cG true (.int x) (.tup (xs.map .int))=some (.bl (!decide (x∈xs))):=mU true x xs
theorem wc (n:Nat):iu 0 (n:Int)=(List.range n).map fun k:Nat=>D.int (k:Int):=by
 unfold iu
 simp
theorem sS {ds:List D}:pX "tuple" (.tup ds)=some (.bl true):=rfl
theorem FN {i:Int}:pX "tuple" (.int i)=some (.bl false):=rfl
theorem AK {i:Int}:pX "int" (.int i)=some (.bl true):=rfl
theorem AL {i:Int}:pX "bool" (.int i)=some (.bl false):=rfl
theorem mX {m:List D->R D} {n:Nat} {fs:aq->R (List D)} {ρ:aq} {ds:List D} {d:D} (h:fs ρ= .ok ds) (hl:ds.length=n) (hm:m ds= .ok d):ax m n fs ρ= .ok d:=by
 unfold ax
 rw[h,ay,if_pos hl,hm]
end L2.Pu
namespace L2.Pu
theorem cI {g:D->aq->R aq} {gb:aq->R bM} {d:D} {r:List D} {ρ ρ1 ρ2:aq} (h1:g d ρ= .ok ρ1) (h2:gb ρ1= .ok (.nx ρ2)):bV g gb (d::r) ρ=bV g gb r ρ2:=by
 rw[bV,h1,ay,h2,ay]
theorem uv {g:D->aq->R aq} {gb:aq->R bM} {d:D} {r:List D} {ρ ρ1 ρ2:aq} (h1:g d ρ= .ok ρ1) (h2:gb ρ1= .ok (.cnt ρ2)):bV g gb (d::r) ρ=bV g gb r ρ2:=by
 rw[bV,h1,ay,h2,ay]
theorem uw {g:D->aq->R aq} {gb:aq->R bM} {d e:D} {r:List D} {ρ ρ1:aq} (h1:g d ρ= .ok ρ1) (h2:gb ρ1= .ok (.ret e)):bV g gb (d::r) ρ= .ok (.ret e):=by
 rw[bV,h1,ay,h2,ay]
end L2.Pu
namespace L2.Pu
theorem aL {k n:Nat} {g:aq->R bM} {ds:List D} {d:D} (h:ds.length=k) (e:g (fA n ds)= .ok (.ret d)):aZ k n g ds= .ok d:=by
 unfold aZ
 rw[if_pos h,e,ay]
theorem FO {k n:Nat} {g:aq->R bM} {ds:List D} {ρ:aq} (h:ds.length=k) (e:g (fA n ds)= .ok (.nx ρ)):aZ k n g ds= .ok .non:=by
 unfold aZ
 rw[if_pos h,e,ay]
theorem au {g g':aq->R bM} {ρ ρ':aq} (h:g ρ= .ok (.nx ρ')):aw g g' ρ=g' ρ':=by
 unfold aw
 rw[h,ay]
theorem fj {g g':aq->R bM} {ρ:aq} {d:D} (h:g ρ= .ok (.ret d)):aw g g' ρ= .ok (.ret d):=by
 unfold aw
 rw[h,ay]
theorem eC {fi:aq->R (List D)} {g:D->aq->R aq} {gb:aq->R bM} {ρ:aq} {ds:List D} (h:fi ρ= .ok ds):gw fi g gb ρ=bV g gb ds ρ:=by
 unfold gw
 rw[h,ay]
end L2.Pu
namespace L2.Pu
theorem nU {fs:aq->R (List D)} {ρ:aq} {n:Nat} (h:fs ρ= .ok [.int (n:Int)]) (hn:n<=lim):gD fs ρ= .ok ((List.range n).map fun k:Nat=>D.int (k:Int)):=by
 unfold gD
 rw[h,ay]
 have hc:(n:Int).natAbs<=lim:=by rw[Int.natAbs_natCast];exact hn
 exact(if_pos hc).trans (congrArg R.ok (wc n))
end L2.Pu
namespace L2.Pu
open PySem PySem.Spec PyProof.Rows
variable {ly:List jn}
section
variable {X:Cx} {elt tg iter:Expr} {ifs:List Expr} {scope:Scope} {pos:Pos} {fi:aq->R (List D)} {g:D->aq->R aq} {gt:aq->R Bool} {fe:aq->R D}
theorem D3 (i:Nat) {y:Str} {py spos:Pos} (S:bR X scope) (hc:X.calm=true) (hN:X.N.Nodup) (hi:Fu ly X tg iter fi) (hg:∀s H ex,CT [] (dM X scope s H ex) tg g) (hif:∀s H ex,yx [] (dM X scope s H ex) ifs gt) (hel:∀s H ex,PQ [] (dM X scope s H ex) elt fe)
  (hi':X.N[i]? =some y:=by rfl) (hx:xT X.env.scope y:=by first|exact Or.inl rfl|exact Or.inr rfl) (hf:X.fn y=true\/X.env.scope.names.lookup y=some .local:=by first|exact .inl rfl|exact .inr rfl|assumption)
  (hsw:swapsWith (.ListComp elt [⟨tg,iter,ifs,0⟩] scope pos) (some (.Name y py)) spos.line X.env=pure false:=by rfl) (hs:∀x,foldedSetIterable iter X.env x=pure x:=by intro _;rfl) (hfr:kN ly i:=by(repeat (first|assumption|exact L2.Pu.dZ|refine L2.Pu.free_cons ⟨by first|decide|simp,by first|decide|simp⟩ ?_))):
  og ly X (.Assign [.Name y py] (.ListComp elt [⟨tg,iter,ifs,0⟩] scope pos) spos) (oN i (eD X.N scope.names fi g gt fe)):=fun c=>
 PS.weak (m3 hN hi' hx (xc S hc (hi c) (fun s H ex=>IC (hg s H ex)) (fun s H ex=>ID (hif s H ex)) (fun s H ex=>IE (hel s H ex)) hs) hsw hf) fun D σ H ⟨F,ρ,ri,w⟩=>by
  refine⟨F,ρ,ri,(aV.bind.mp (aV.bind.mp w)).imp fun ds _ w1 J H1 F1 e1 jo p hp=> ?_⟩
  split at w1
  ·rename_i hl
   split at w1
   ·rename_i es he
    refine mh ri e1 jo hp hl he fun H2 F2 vs e2 hp2 hf2 rv=> ?_
    refine w1 _ H2 F2 (e1.grow.trans e2.grow) ((ri.step (e1.trans e2)).setOwn i hfr hp2 hf2 (ri.ext.keep.free (e1.keep.free hp)) (.lst rv) fun j d' _ hj ej=> ?_)
    obtain⟨a,o,k1,k2,_⟩:=ri.own j d' hj
    rw[ej]at k1
    cases k1
    rw[e1.keep.free hp]at k2
    cases k2
   ·exact w1.elim
  ·exact w1.elim
end
end L2.Pu
namespace L2.Pu
open PySem PySem.Spec PyProof.Rows
variable {ly:List jn}
theorem jq {f:aq->R D} {ρ:aq} {d:D} (h:f ρ= .ok d):aX f ρ= .ok (.ret d):=by unfold aX;rw[h,ay]
theorem mr {g:List D->Option D} {fs:aq->R (List D)} {ρ:aq} {ds:List D} {d:D} (h:fs ρ= .ok ds) (h2:g ds=some d):d5 g fs ρ= .ok d:=by unfold d5;rw[h,ay,h2,cg]
theorem cJ {f:aq->R D} {fs:aq->R (List D)} {ρ:aq} {ds:List D} {d:D} (h:f ρ= .ok d) (h2:fs ρ= .ok ds):aa f fs ρ= .ok (d::ds):=by unfold aa;rw[h,ay,h2,ay]
theorem sT {f:aq->R (List D)} {ρ:aq} {ds:List D} (h:f ρ= .ok ds):fL f ρ= .ok (.lst ds):=by unfold fL;rw[h,ay]
theorem fq {N:List Str} {names:List (Str×NameKind)} {fi:aq->R (List D)} {g:D->aq->R aq} {gt:aq->R Bool} {fe:aq->R D} {ρ τ:aq} {ds es:List D} (h:fi ρ= .ok ds) (hl:ds.length<=lim) (hr:kA N names ρ=τ) (hc:fw g gt fe ds τ= .ok es):
  eD N names fi g gt fe ρ= .ok es:=by
 unfold eD
 rw[h,ay,if_pos hl,hr,hc]
theorem own_of {i:Nat} {f:aq->R (List D)} {ρ:aq} {ds:List D} (h:f ρ= .ok ds):oN i f ρ= .ok (.nx (ρ.set i (some (.own (.lst ds))))):=by unfold oN;rw[h,ay]
theorem pZ {f:aq->R D} {g:D->aq->R aq} {ρ ρ':aq} {d:D} (h:f ρ= .ok d) (h2:g d ρ= .ok ρ'):aY f g ρ= .ok (.nx ρ'):=by unfold aY;rw[h,ay,h2,ay]
theorem D4 {m:List D->R D} {n:Nat} {fs:aq->R (List D)} {ρ:aq} {ds:List D} {d:D} (h:fs ρ= .ok ds) (hl:ds.length=n) (hm:m ds= .ok d):ax m n fs ρ= .ok d:=mX h hl hm
theorem xl {g:D->D->Option D} {fa fb:aq->R D} {ρ:aq} {a b d:D} (h:fa ρ= .ok a) (h2:fb ρ= .ok b) (h3:g a b=some d):f2 g fa fb ρ= .ok d:=by unfold f2;rw[h,ay,h2,ay,h3,cg]
end L2.Pu
namespace L2.Pu
theorem kS (d:D):(Slot.val d).data=d:=rfl
theorem ux (d:D):(Slot.own d).data=d:=rfl
theorem AM (d:D):(Slot.bor d).data=d:=rfl
end L2.Pu
namespace L2.Pu
open PySem PySem.Spec PyProof.Rows
variable {ly:List jn}
def i4:List (bx×D)->Option (List Int)
 |[]=>some []
 |(.inl i,_)::r=>(i4 r).map (i::·)
 |(.inr _,_)::_=>none
def gF:List D->Option D
 |[.lst ds]=>(fD ds).bind fun ns=>if ns.length<64 then some (.lst ((d0 ns).map .int))else none
 |[.dic kds]=>(i4 kds).bind fun ns=>if ns.length<64 then some (.lst ((d0 ns).map .int))else none
 |_=>none
theorem uy {K:PySem.W.Frag} {F:Hp}:∀{ds:List (bx×D)} {ns:List Int} {vs:List (bx×V)},i4 ds=some ns->RepK K F vs ds->vs.map (·.1)=ns.map Sum.inl:=by
 intro ds
 induction ds with
 |nil=>intro ns vs h r;rw[r.nilI];cases h;rfl
 |cons d r ih=>
  intro ns vs h rr
  obtain⟨k,d⟩:=d
  obtain⟨v,us,rfl,_,t⟩:=rr.consI
  cases k with
  |inr i=>cases h
  |inl i=>
   replace h:(i4 r).map (i::·)=some ns:=h
   cases e:i4 r with
   |none=>rw[e]at h;cases h
   |some ms=>
    rw[e]at h
    cases h
    rw[List.map_cons,List.map_cons,ih e t]
def mY (K:PySem.W.Frag):List V->Hp->VK->Prop:=fun xs H Q=>
 (∃p ns,xs=[.ref p]/\fz K H p (ns.map V.int)/\ns.length<64/\∀l,H l=none->Q (.ref l) (bY H l (.lst ((d0 ns).map V.int))))\/
 ∃p kvs ns,xs=[.ref p]/\H p=some (.dK kvs)/\kvs.map (·.1)=ns.map Sum.inl/\ns.length<64/\∀l,H l=none->Q (.ref l) (bY H l (.lst ((d0 ns).map V.int)))
theorem sU {X:Cx} (hc:X.calm=true):dH X (.builtin "sorted") (mY X.K):=sA.or (sD hc)
theorem uz {K:PySem.W.Frag}:m9 K (mY K) gF:=by
 intro vs ds d H F Q s rv h k
 match ds,h with
 |[.lst xs],h=>exact .inl (vZ vs _ d H F Q s rv h k)
 |[.dic xs],h=>
  obtain⟨v,rfl,r⟩:=rv.one
  obtain⟨a,ws,rfl,h1,h2,_⟩:=r.dic s
  replace h:((i4 xs).bind fun ns=>if ns.length<64 then some (D.lst ((d0 ns).map .int))else none)=some d:=h
  cases e:i4 xs with
  |none=>rw[e]at h;cases h
  |some ns=>
   rw[e]at h
   replace h:(if ns.length<64 then some (D.lst ((d0 ns).map .int))else none)=some d:=h
   split at h
   ·rename_i hl
    cases h
    refine .inr ⟨a,ws,ns,rfl,h1,uy e h2,hl,fun l hl'=> ?_⟩
    have e:=cm.lay (o:= .lst ((d0 ns).map V.int)) s hl'
    exact k _ _ _ e (.lst aC (jH _))
   ·cases h
section
variable {X:Cx} {a b:Expr} {fs:aq->R (List D)} {pos p1 p2 pos2:Pos}
def kg (fs:aq->R (List D)):aq->R D:=fun ρ=>fs ρ>>=fun ds=>match ds with
 |[.int i, .int j]=>if i.natAbs<=lim/\j.natAbs<=lim then .ok (.lst ((gR i j).map .int))else .bad
 |_=> .bad
theorem uA (hc:X.calm=true) (hml:X.mg "list"=none) (hmr:X.mg "range"=none) (ha:vS ly X [a,b] fs) (hgl:Gl X "list":=by rfl) (hgr:Gl X "range":=by rfl)
  (he:starEach [a,b] X.env=(false,eval a X.env)::starEach [b] X.env:=by rfl) (hpl:(backTo pos2 (starEach [b] X.env)).any (·.1)=false:=by rfl)
  (he1:starEach [.Call (.Name "range" p2) [a,b] [] pos2] X.env=(false,eval (.Call (.Name "range" p2) [a,b] [] pos2) X.env)::starEach [] X.env:=by rfl) (hpl1:(backTo pos (starEach [] X.env)).any (·.1)=false:=by rfl):
  PQ ly X (.Call (.Name "list" p1) [.Call (.Name "range" p2) [a,b] [] pos2] [] pos) (kg fs):=fun c=>
 PE.weak (nL (sC hc) hgl hml L2.Pu.gW (fO (nL sB hgr hmr PyProof.Rows.boot_range (ha c) (by decide) (by decide) he hpl) j_ he1) (by decide) (by decide) he1 hpl1) fun σ H Q ⟨F,ρ,ri,w⟩=>
  ⟨F,ρ,ri,(aV.bind.mp w).imp fun ds _ w1 vs H1 F1 e1 r1=>by
   split at w1
   ·rename_i i j _
    cases r1.int2
    ·split at w1
     ·rename_i hl
      refine⟨i,j,rfl,fun p hp=> ?_⟩
      have e2:=cm.layOwn (o:= .rng i j) e1.sub hp
      have hi:=lim_int20 hl.1
      have hj:=lim_int20 hl.2
      refine⟨p,i,j,rfl,aC,hi,hj,fun l hl'=> ?_⟩
      have e3:=cm.lay (o:= .lst ((gR i j).map V.int)) e2.sub hl'
      exact w1 _ _ _ ((e1.trans e2).trans e3) (.lst aC (jH _))
     ·exact w1.elim
   ·exact w1.elim⟩
where
 lim_int20 {j:Int} (h:j.natAbs<=lim): -(2 ^20)<=j/\j<=2 ^20:=by
  unfold lim at h
  omega
end
end L2.Pu
namespace L2.Pu
open PySem PySem.Spec PyProof.Rows
variable {ly:List jn}
theorem mw {gt:aq->R Bool} {gb:aq->R bM} {n:Nat} {ρ ρ':aq} (h1:gt ρ= .ok true) (h2:gb ρ= .ok (.nx ρ')):cS gt gb (n+1) ρ=cS gt gb n ρ':=by
 rw[cS,h1,ay,if_pos rfl,h2,ay]
theorem nV {gt:aq->R Bool} {gb:aq->R bM} {n:Nat} {ρ:aq} (h1:gt ρ= .ok false):cS gt gb (n+1) ρ= .ok (.nx ρ):=by
 rw[cS,h1,ay,if_neg (by simp)]
theorem iP {gt:aq->R Bool} {gb:aq->R bM}:∀{n:Nat} {ρ:aq} {o:bM} (k:Nat),cS gt gb n ρ= .ok o->cS gt gb (n+k) ρ= .ok o
 |0,ρ,o,k,h=>by cases h
 |n+1,ρ,o,k,h=>by
  rw[Nat.add_right_comm]
  rw[cS]at h ⊢
  obtain⟨b,h1,h⟩:=iB h
  rw[h1,ay]
  cases b with
  |false=>exact h
  |true=>
   rw[if_pos rfl]at h ⊢
   obtain⟨o',h2,h⟩:=iB h
   rw[h2,ay]
   cases o' with
   |nx ρ'=>exact iP k h
   |cnt ρ'=>exact iP k h
   |brk ρ'=>exact h
   |ret d=>exact h
end L2.Pu
namespace L2.Pu
open PySem PySem.Spec PyProof.Rows
variable {ly:List jn}
section
variable {X:Cx} {a:Expr} {fa:aq->R D} {pos p1 p2 pos2:Pos}
def sV (f:aq->R D):aq->R D:=fun ρ=>f ρ>>=fun d=>match d with
 | .lst ds=> .ok (.tup ds.reverse)
 |_=> .bad
theorem AN (hc:X.calm=true) (hmt:X.mg "tuple"=none) (hmr:X.mg "reversed"=none) (ha:PB ly X a fa) (hgt:Gl X "tuple":=by rfl) (hgr:Gl X "reversed":=by rfl)
  (he1:starEach [a] X.env=(false,eval a X.env)::starEach [] X.env:=by rfl) (hpl1:(backTo pos2 (starEach [] X.env)).any (·.1)=false:=by rfl)
  (he2:starEach [.Call (.Name "reversed" p2) [a] [] pos2] X.env=(false,eval (.Call (.Name "reversed" p2) [a] [] pos2) X.env)::starEach [] X.env:=by rfl) (hpl2:(backTo pos (starEach [] X.env)).any (·.1)=false:=by rfl):
  PQ ly X (.Call (.Name "tuple" p1) [.Call (.Name "reversed" p2) [a] [] pos2] [] pos) (sV fa):=fun c=>
 PE.weak (yl hc (ha c) hmt hmr hgt hgr he1 hpl1 he2 hpl2) fun σ H Q ⟨F,ρ,ri,w⟩=>⟨F,ρ,ri,(aV.bind.mp w).imp fun d _ w1 v H1 F1 e1 r1=>by
  cases d with
  |lst ds=>
   obtain⟨p,vs,rfl,h1,h2⟩:=r1.lst e1.sub
   refine⟨p,vs,rfl,fz.of h1,fun l hl=> ?_⟩
   have e2:=cm.lay (o:= .tup vs.reverse) e1.sub hl
   exact w1 _ _ _ (e1.trans e2) (.tup aC (h2.reverse.mono e2.grow))
  |_=>exact w1.elim⟩
end
section
variable {K:PySem.W.Frag}
def jO:List D->Option (List (bx×D))
 |[]=>some []
 | .tup [k,v]::r=>(dq k).bind fun key=>(jO r).map fun ps=>(key,v)::ps
 |_::_=>none
def p_:List D->Option D
 |[.lst ds]=>(jO ds).map fun ps=> .dic (gU [] ps)
 |[.tup ds]=>(jO ds).map fun ps=> .dic (gU [] ps)
 |_=>none
theorem yG {H F:Hp} (s:bw F H):∀{ds:List D} {vs:List V} {ps:List (bx×D)},jO ds=some ps->Reps K F vs ds->∃kvs,jb H vs kvs/\RepK K F kvs ps:=by
 intro ds
 induction ds with
 |nil=>intro vs ps h r;cases r.nilI;cases h;exact⟨[], .nil, .nil⟩
 |cons d r ih=>
  intro vs ps h rr
  obtain⟨k,v,rfl⟩:∃k v,d= .tup [k,v]:=by
   cases d with
   |tup xs=>
    cases xs with
    |nil=>cases h
    |cons k xs=>
     cases xs with
     |nil=>cases h
     |cons v xs=>
      cases xs with
      |nil=>exact⟨k,v,rfl⟩
      |cons _ _=>cases h
   |_=>cases h
  obtain⟨v0,us,rfl,r1,t⟩:=rr.consI
  obtain⟨a0,xs,rfl,ha,r2⟩:=r1.tupI
  obtain⟨k1,us1,rfl,rk,t1⟩:=r2.consI
  obtain⟨v1,us2,rfl,rv,t2⟩:=t1.consI
  cases t2.nilI
  replace h:(dq k).bind (fun key=>(jO r).map fun ps=>(key,v)::ps)=some ps:=h
  cases hk:dq k with
  |none=>rw[hk]at h;cases h
  |some key=>
   rw[hk]at h
   replace h:(jO r).map (fun ps=>(key,v)::ps)=some ps:=h
   cases hr:jO r with
   |none=>rw[hr]at h;cases h
   |some qs=>
    rw[hr]at h
    cases h
    obtain⟨kvs,h1,h2⟩:=ih hr t
    cases gT (H:=H) hk (.inl rk)
    exact⟨_, .cons (s _ _ ha) h1, .cons rv h2⟩
theorem kT:m9 K (fun xs H Q=>∃p ys ps,xs=[.ref p]/\(H p=some (.lst ys)\/H p=some (.tup ys))/\jb H ys ps/\∀l,H l=none->Q (.ref l) (bY H l (.dK (gQ [] ps)))) p_:=by
 intro vs ds d H F Q s rv h k
 have fin:∀{xs:List D} {ws:List V} {a:Addr},Reps K F ws xs->(jO xs).map (fun ps=>D.dic (gU [] ps))=some d->(H a=some (.lst ws)\/H a=some (.tup ws))->
   ∃p ys ps,[V.ref a]=[V.ref p]/\(H p=some (.lst ys)\/H p=some (.tup ys))/\jb H ys ps/\∀l,H l=none->Q (.ref l) (bY H l (.dK (gQ [] ps))):=by
  intro xs ws a h2 h h1
  cases e:jO xs with
  |none=>rw[e]at h;cases h
  |some ps=>
   rw[e]at h
   cases h
   obtain⟨kvs,g1,g2⟩:=yG s e h2
   refine⟨a,ws,kvs,rfl,h1,g1,fun l hl=> ?_⟩
   have e:=cm.lay (o:= .dK (gQ [] kvs)) s hl
   obtain⟨m1,m2⟩:=RepK.merge (g2.mono e.grow) .nil List.nodup_nil
   exact k _ _ _ e (.dic aC m1 m2)
 match ds,h with
 |[.lst xs],h=>
  obtain⟨v,rfl,r⟩:=rv.one
  obtain⟨a,ws,rfl,h1,h2⟩:=r.lst s
  exact fin h2 h (.inl h1)
 |[.tup xs],h=>
  obtain⟨v,rfl,r⟩:=rv.one
  obtain⟨a,ws,rfl,h1,h2⟩:=r.tup s
  exact fin h2 h (.inr h1)
end
end L2.Pu
namespace L2.Pu
open PySem PySem.Spec PyProof.Rows
variable {ly:List jn}
structure q0 (K:PySem.W.Frag) (x:Str) (C:Addr):Prop where
 ns:PySem.W.nsIn K mainGlobals x=some (some (.ref C))
 cl:wW K C
theorem RepF.nilI {K:PySem.W.Frag} {F:Hp} {vs:List (Str×V)} (h:RepF K F vs []):vs=[]:=by cases h;rfl
theorem RepF.consI {K:PySem.W.Frag} {F:Hp} {vs:List (Str×V)} {k:Str} {d:D} {ds:List (Str×D)} (h:RepF K F vs ((k,d)::ds)):∃v us,vs=(k,v)::us/\fF K F v d/\RepF K F us ds:=by
 cases h with
 |cons r t=>exact⟨_,_,rfl,r,t⟩
theorem RepF.get {K:PySem.W.Frag} {F:Hp} {f:Str} {d:D} {vs:List (Str×V)} {ds:List (Str×D)} (g:RepF K F vs ds):ds.lookup f=some d->∃v,(f,v)∈vs/\fF K F v d:=by
 induction ds generalizing vs with
 |nil=>intro h;cases h
 |cons p ds ih=>
  intro h
  obtain⟨v,us,e0,r,t⟩:=RepF.consI (k:=p.1) (d:=p.2) g
  subst e0
  rw[List.lookup_cons]at h
  cases e:f==p.1 with
  |true=>rw[e]at h;cases h;cases eq_of_beq e;exact⟨v,List.mem_cons_self,r⟩
  |false=>
   rw[e]at h
   obtain⟨v',h1,h2⟩:=ih t h
   exact⟨v',List.mem_cons_of_mem _ h1,h2⟩
theorem RepF.names {K:PySem.W.Frag} {F:Hp} {vs:List (Str×V)} {ds:List (Str×D)} (g:RepF K F vs ds):vs.map (·.1)=ds.map (·.1):=by
 induction ds generalizing vs with
 |nil=>rw[g.nilI];rfl
 |cons p ds ih=>
  obtain⟨v,us,e0,_,t⟩:=RepF.consI (k:=p.1) (d:=p.2) g
  rw[e0,List.map_cons,List.map_cons,ih t]
theorem kU {α:Type} {f:Str}:∀{ds:List (Str×α)},ds.lookup f=none->f∉ds.map (·.1)
 |[],_=>by simp
 |(k,v)::ds,h=>by
  rw[List.lookup_cons]at h
  cases e:f==k with
  |true=>rw[e]at h;cases h
  |false=>
   rw[e]at h
   rw[List.map_cons]
   intro z
   rcases List.mem_cons.mp z with z|z
   ·rw[z]at e;simp at e
   ·exact kU h z
theorem d9.ins {K:PySem.W.Frag} {H F:Hp} {v:V} {x:Str} {fds:List (Str×D)} (s:bw F H):d9 K H F v (.ins x fds)->∃a C dx fs vs,v= .ref a/\H a=some (.ins C dx fs)/\PySem.W.nsIn K mainGlobals x=some (some (.ref C))/\(∀p∈vs,fs.lookup p.1=some p.2)/\(∀f v,fs.lookup f=some v->f∈vs.map (·.1))/\RepF K F vs fds:=fun h=>by
 obtain⟨a,C,dx,fs,vs,e,h,r⟩:=h.in rfl
 exact⟨a,C,dx,fs,vs,e,s _ _ h,r⟩
section
variable {X:Cx} {a o e:Expr} {es:List Expr} {fa fo:aq->R D} {fs:aq->R (List D)} {pos apos p:Pos} {cls f m x:Str} {C:Addr}
def dN (cls f:Str) (fa:aq->R D):aq->R D:=fun ρ=>fa ρ>>=fun d=>match d with
 | .ins y fds=>if y=cls then R.of (fds.lookup f)else .bad
 |_=> .bad
theorem Hk (T:q0 X.K cls C) (n:iq X.K C f) (ha:PB ly X a fa) (hb:attributeBase a f X.env (eval a X.env)=eval a X.env:=by rfl):PQ ly X (.Attribute a f pos) (dN cls f fa):=fun c=>
 PE.weak (EO (ha c) hb) fun σ H Q ⟨F,ρ,ri,w⟩=>⟨F,ρ,ri,(aV.bind.mp w).imp fun d _ w1 v H1 F1 e1 r1=>by
  cases d with
  |ins y fds=>
   dsimp only at w1
   split at w1
   ·rename_i hy
    subst hy
    obtain⟨d',hd,k⟩:=w1.of
    obtain⟨a,C',dx,fs,vs,rfl,h1,h2,h3,h4,h5⟩:=r1.ins e1.sub
    have ec:C'=C:=by rw[T.ns]at h2;cases h2;rfl
    subst ec
    obtain⟨u,hu,ru⟩:=h5.get hd
    exact⟨a,C',dx,fs,u,rfl,h1,T.cl,n,h3 _ hu,k u H1 F1 e1 ru⟩
   ·exact w1.elim
  |_=>exact w1.elim⟩
structure cU (P:Program) (w:World) (K:PySem.W.Frag) (mg:Str->Option Value) (base:Heap) (k:Nat) (cls m:Str) (n:Nat) (r:List D->R D):Prop where
 ex:∃C f fd ps,i7 P w K mg base (oY P w) k f fd ps (yt K n r)/\q0 K cls C/\yc K C m f/\ix K fd ps []
def dz (cls m:Str) (n:Nat) (r:List D->R D) (fo:aq->R D) (fs:aq->R (List D)):aq->R D:=fun ρ=>fo ρ>>=fun d=>match d with
 | .ins y fds=>if y=cls/\fds.lookup m=none then (fs ρ>>=fun ds=>if ds.length+1=n then (match r (d::ds)with| .ok z=> .ok z| .err x _=> .err x ρ| .bad=> .bad)else .bad)else .bad
 |_=> .bad
theorem xm {c:fU ly} {r:List D->R D} {n:Nat} {σ:St} {H:Hp} {Q:VK} (T:q0 X.K cls C) (h:tQ X.K c (dz cls m n r fo fs) σ H Q):zI C m (yt X.K n r) [] (GY X c) (tQ X.K c fo) (HK X.K c fs) σ H Q:=by
 obtain⟨F,ρ,ri,w⟩:=h
 refine⟨F,ρ,ri,(aV.bind.mp w).imp fun d hd w1 v H1 F1 e1 r1=> ?_⟩
 cases d with
 |ins y fds=>
  dsimp only at w1
  split at w1
  ·rename_i hy
   obtain⟨rfl,hm⟩:=hy
   obtain⟨a,C',dx,fs',vs,rfl,h1,h2,h3,h4,h5⟩:=d9.ins e1.sub (H:=H1) (.inl r1)
   have ec:C'=C:=by rw[T.ns]at h2;cases h2;rfl
   subst ec
   have hno:fs'.lookup m=none:=by
    cases e:fs'.lookup m with
    |none=>rfl
    |some v=>
     have:=h4 m v e
     rw[h5.names]at this
     exact absurd this (kU hm)
   refine⟨a,dx,fs',rfl,h1,hno,F1,ρ,ri.step e1,(aV.bind.mp w1).imp fun ds _ w2 us H2 F2 e2 r2=> ?_⟩
   show yt X.K n r (V.ref a::(us++[])) H2 Q (GY X c σ)
   rw[List.append_nil]
   split at w2
   ·rename_i hl
    refine⟨by rw[List.length_cons,r2.length];exact hl,F2,_,e2.sub, .cons (r1.mono e2.grow) r2,?_⟩
    split at w2
    ·rename_i z hz
     try rw[hz]
     exact fun v H' F' e' r'=>w2 v H' F' ((e1.trans e2).trans e') r'
    ·rename_i z _ hz
     try rw[hz]
     exact fun cls a H' F' ec e'=>⟨_,ρ,F',ec,ri.step ((e1.trans e2).trans e'),w2⟩
    ·exact w2.elim
   ·exact w2.elim
  ·exact w1.elim
 |_=>exact w1.elim
theorem jr {k n:Nat} {r:List D->R D} {pl:Sem Bool} (G:cU X.prog X.w X.K X.mg X.base k cls m n r) (hr:eE k X.A) (ho:PQ ly X o fo) (ha:vS ly X (e::es) fs)
  (hst:starEach (e::es) X.env=(false,eval e X.env)::starEach es X.env:=by rfl) (hpl:(backTo pos (starEach es X.env)).any (·.1)=false:=by rfl)
  (ht:eval (.Call (.Attribute o m apos) (e::es) [] pos) X.env=(do
   let ov<-eval o X.env
   standAt apos.atName
   let (f,first)<-holding [ov] (getMethod ov m pl)
   callWith pos f first (backTo pos (starEach (e::es) X.env)) (backToKw pos (keywordEach [] X.env))):=by rfl):
  PQ ly X (.Call (.Attribute o m apos) (e::es) [] pos) (dz cls m n r fo fs):=by
 obtain⟨C,f,fd,ps,h1,h2,h3,h4⟩:=G.ex
 exact fun c=>PE.weak (Ch (pl:=pl) (ho c) h2.cl h3 h1 hr h4 .nil (xg c) (ha c) hst hpl ht) fun σ H Q h=>xm h2 h
theorem xn {k n:Nat} {r:List D->R D} {pl:Sem Bool} (G:cU X.prog X.w X.K X.mg X.base k cls m n r) (hr:eE k X.A) (ho:PQ ly X o fo)
  (ht:eval (.Call (.Attribute o m apos) [] [] pos) X.env=(do
   let ov<-eval o X.env
   standAt apos.atName
   let (f,first)<-holding [ov] (getMethod ov m pl)
   callWith pos f first (backTo pos (starEach [] X.env)) (backToKw pos (keywordEach [] X.env))):=by rfl):
  PQ ly X (.Call (.Attribute o m apos) [] [] pos) (dz cls m n r fo ai):=by
 obtain⟨C,f,fd,ps,h1,h2,h3,h4⟩:=G.ex
 refine fun c=>PE.weak (zJ (pl:=pl) (ho c) h2.cl h3 h1 hr h4 .nil (xg c) ht) fun σ H Q h=> ?_
 obtain⟨F,ρ,ri,w⟩:=xm h2 h
 refine⟨F,ρ,ri,w.imp fun d _ k v H1 F1 e1 r1=> ?_⟩
 obtain⟨a,dx,fs',g1,g2,g3,F2,ρ2,ri2,w2⟩:=k v H1 F1 e1 r1
 exact⟨a,dx,fs',g1,g2,g3,w2 [] H1 F2 (cm.refl ri2.sub) .nil⟩
theorem aM.ghost {pins:List (Addr×Obj)} {σ:St} {H:Hp} {s:Shared} (I:aM X pins σ H s) {i:Nat} {g:Str} {v:Option V} (hi:X.N[i]? =some g) (hv:¬wL X.env.scope g):aM X pins (σ.set i v) H s:=by
 refine {I with loc:= ?_,len:=by rw[List.length_set];exact I.len}
 obtain⟨mm,h1,h2⟩:=I.loc
 refine⟨mm,h1,fun j x u e1 e2 e3=> ?_⟩
 by_cases z:i=j
 ·subst z
  rw[hi]at e1
  cases e1
  exact absurd e3 hv
 ·rw[az z]at e2
  exact h2 j x u e1 e2 e3
def Hl (K:PySem.W.Frag) (i:Nat) (ta tv:TE) (f:Str):TS:=fun D σ H=>tv σ H fun y H1=>ta σ H1 fun x H2=>∃a C dx fs,x= .ref a/\H2 a=some (.ins C dx fs)/\wW K C/\iq K C f/\fs.length<1000/\
 D.nx (σ.set i (some y)) (bY H2 a (.ins C dx (jm f y fs)))
theorem D5 {value:Expr} {pos':Pos} {ta tv:TE} {g:Str} (i:Nat) (hi:X.N[i]? =some g) (hvis:¬wL X.env.scope g) (ha:PE X o ta) (hv:PE X value tv) (hs:swapsWith value (some (.Attribute o f pos')) pos.line X.env=pure false):
  PS X (.Assign [.Attribute o f pos'] value pos) (Hl X.K i ta tv f):=by
 intro pins s σ H D I h
 refine plainObj_wpAny_Assign_Attribute (cP (hv pins s σ H _ I h) fun u s1 z=> ?_) hs
 obtain⟨y,H1,I1,ry,q⟩:=z
 refine cP (ha pins s1 σ H1 _ I1 q) fun ov s2 z=> ?_
 obtain⟨x,H2,I2,rx,a,C,dx,fs,ex,ea,c,n,l,q2⟩:=z
 subst ex
 obtain rfl:ov=Value.ref a:=rx
 exact vt I2 ea c n l ry fun s3 I3=>⟨_,_,L2.Pu.aM.ghost I3 hi hvis,q2⟩
theorem rM (f:Str) (v:V):∀fs:List (Str×V),(jm f v fs).map (·.1)=if f∈fs.map (·.1)then fs.map (·.1)else fs.map (·.1)++[f]
 |[]=>rfl
 |(g,x)::r=>by
  show (if g=f then (g,v)::r else (g,x)::jm f v r).map (·.1)=_
  by_cases e:g=f
  ·subst e;simp
  ·rw[if_neg e,List.map_cons,rM f v r]
   by_cases h:f∈r.map (·.1)
   ·rw[if_pos h,if_pos (by rw[List.map_cons];exact List.mem_cons_of_mem _ h)];rfl
   ·rw[if_neg h,if_neg (by rw[List.map_cons];intro z;exact(List.mem_cons.mp z).elim (fun q=>e q.symm) h)];rfl
theorem D6 (f:Str) (v:V) {fs:List (Str×V)} (h:(fs.map (·.1)).Nodup):((jm f v fs).map (·.1)).Nodup:=by
 rw[rM]
 split
 ·exact h
 ·rename_i hf
  refine List.nodup_append.mpr ⟨h,by simp,fun a ha b hb=> ?_⟩
  rw[List.mem_singleton.mp hb]
  intro z;subst z;exact hf ha
theorem js {α:Type} [DecidableEq α]:∀{l m:List α},l.Nodup->(∀x∈l,x∈m)->l.length<=m.length
 |[],_,_,_=>Nat.zero_le _
 |a::l,m,h,s=>by
  obtain⟨h1,h2⟩:=List.nodup_cons.mp h
  have ha:=s a List.mem_cons_self
  have:=js (m:=m.erase a) h2 fun x hx=>(List.mem_erase_of_ne (fun z=>h1 (by rw[<-z];exact hx))).mpr (s x (List.mem_cons_of_mem _ hx))
  rw[List.length_erase_of_mem ha]at this
  have hp:0<m.length:=List.length_pos_of_mem ha
  rw[List.length_cons]
  omega
theorem q8 {α:Type} {f:Str}:∀{fs:List (Str×α)},f∈fs.map (·.1)->∃v,fs.lookup f=some v
 |(g,x)::r,h=>by
  rw[List.lookup_cons]
  cases e:f==g with
  |true=>exact⟨x,rfl⟩
  |false=>
   rw[List.map_cons]at h
   rcases List.mem_cons.mp h with z|z
   ·rw[z]at e;simp at e
   ·exact q8 z
theorem RI.fld {K:PySem.W.Frag} {c:fU ly} {ρ:aq} {σ:St} {H F:Hp} (r:RI K c ρ σ H F) {L:jn} (hL:L∈ly) (hρ:ρ[L.x]? =some (some .obj)) {a dx:Addr} {fs:List (Str×V)} {i:Nat} (hx:σ[L.x]? =some (some (.ref a))) (ha:H a=some (.ins L.C dx fs)) (hf:(f,i)∈L.fl)
  (hn:∀p∈L.fl,p.1=f<->p.2=i) (hxi:L.x≠i) (hoth:∀M∈ly,M≠L->M.x≠i/\∀p∈M.fl,p.2≠i) {v:V} {d:D} (hd:fF K F v d) (hil:i<σ.length):
  RI K c (ρ.set i (some (.val d))) (σ.set i (some v)) (bY H a (.ins L.C dx (jm f v fs))) F:=by
 obtain⟨b,dx',fs',k0,k1,k2,k3,k4,k5,k6,k7,k8,k9,k10⟩:=r.obj L hL hρ
 rw[hx]at k1
 cases k1
 rw[ha]at k2
 cases k2
 have hne:∀{b:Addr} {o:HO},H b=some o->lH K F o d->b≠a:=fun {b o} e q z=>by subst z;rw[ha]at e;cases e;cases q
 refine⟨⟨fun x y e=> ?_,fun x y e=> ?_,r.ext.grow,r.ext.new⟩,fun j e q=> ?_,fun j e q=> ?_,fun j e q=> ?_,r.bh,fun j k e e' x q1 q2 q3 q4=> ?_,by simp[r.len],fun M hM hq=> ?_,fun M hM M' hM' q01 q02 x q1 q2=> ?_,r.fm⟩
 ·rw[aD (fun z=>by rw[z,k4]at e;cases e)];exact r.sub x y e
 ·rw[aD (fun z=>by rw[z,k6]at e;cases e)];exact r.ext.keep x y e
 ·rcases bp q with ⟨rfl,z,l⟩|⟨z,q⟩
  ·cases z;exact⟨v,ls hil,hd⟩
  ·rw[az z];exact r.val j e q
 ·rcases bp q with ⟨rfl,z,l⟩|⟨z,q⟩
  ·cases z
  ·obtain⟨x,o,g1,g2,g3,g4,g5⟩:=r.own j e q
   have nx:x≠a:=fun z=>by subst z;rw[ha]at g2;cases g2;cases g5
   exact⟨x,o,by rw[az z];exact g1,by rw[aD nx];exact g2,g3,g4,g5⟩
 ·rcases bp q with ⟨rfl,z,l⟩|⟨z,q⟩
  ·cases z
  ·rw[az z];exact r.bor j e q
 ·rcases bp q1 with ⟨rfl,z,l⟩|⟨z,q1⟩
  ·cases z
  ·rcases bp q2 with ⟨rfl,z',l⟩|⟨z',q2⟩
   ·cases z'
   ·rw[az z]at q3;rw[az z']at q4
    exact r.dis j k e e' x q1 q2 q3 q4
 ·by_cases hML:M=L
  ·subst hML
   refine⟨a,dx,jm f v fs,k0,by rw[az hxi.symm];exact hx,aC,?_,k4,k5,k6,k7,fun p hp=> ?_,fun g u hu=> ?_,D6 _ _ k10⟩
   ·rw[aD (fun z=>by rw[z,ha]at k3;cases k3)];exact k3
   ·rw[ja]
    by_cases e:p.1=f
    ·rw[if_pos e,(hn p hp).mp e,ls hil];rfl
    ·rw[if_neg e,az (fun z=>e ((hn p hp).mpr z.symm))];exact k8 p hp
   ·rw[ja]at hu
    by_cases e:g=f
    ·subst e;exact List.mem_map.mpr ⟨_,hf,rfl⟩
    ·rw[if_neg e]at hu;exact k9 g u hu
  ·have ho:=hoth M hM hML
   rw[az ho.1.symm]at hq
   obtain⟨b,dy,gs,g0,g1,g2,g3,g4,g5,g6,g7,g8,g9⟩:=r.obj M hM hq
   have nb:b≠a:=fun z=>hML (r.odis M hM L hL hq hρ a (by rw[<-z];exact g1) hx)
   have nd:dy≠a:=fun z=>by subst z;rw[ha]at g3;cases g3
   refine⟨b,dy,gs,g0,by rw[az ho.1.symm];exact g1,by rw[aD nb];exact g2,by rw[aD nd];exact g3,g4,g5,g6,g7,fun p hp=> ?_,g9⟩
   rw[az (ho.2 p hp).symm];exact g8 p hp
 ·have hxs:∀M∈ly,M.x≠i:=fun M hM=>by
   by_cases hML:M=L
   ·subst hML;exact hxi
   ·exact(hoth M hM hML).1
  rw[az (hxs M hM).symm]at q1 q01
  rw[az (hxs M' hM').symm]at q2 q02
  exact r.odis M hM M' hM' q01 q02 x q1 q2
def uB (x:Nat) (g:aq->R bM):aq->R bM:=fun ρ=>match ρ[x]? with
 |some (some .obj)=>g ρ
 |_=> .bad
theorem D7 {c:fU ly} {x:Nat} {g:aq->R bM} {ρ:aq} {P:bM->Prop} (w:aV c (uB x g ρ) P):ρ[x]? =some (some .obj)/\aV c (g ρ) P:=by
 unfold uB at w
 split at w
 ·rename_i h;exact⟨h,w⟩
 ·exact w.elim
structure Ea (ly:List jn) (L:jn) (f:Str) (i:Nat):Prop where
 mem:L∈ly
 fl:(f,i)∈L.fl
 un:∀p∈L.fl,p.1=f<->p.2=i
 x:L.x≠i
 oth:∀M∈ly,M≠L->M.x≠i/\∀p∈M.fl,p.2≠i
 few:L.fl.length<1000
theorem sW {value:Expr} {pos' px:Pos} {fv:aq->R D} {y g:Str} {L:jn} (i:Nat) (hC:wW X.K L.C) (n:iq X.K L.C f) (A:Ea ly L f i) (hv:PQ ly X value fv) (hN:X.N[L.x]? =some y:=by rfl) (hvy:wL X.env.scope y:=by first|exact Or.inl rfl|exact Or.inr (Or.inl rfl)|exact Or.inr (Or.inr rfl)) (hd:(y==("__debug__":Str))=false:=by decide)
  (hcd:(y==("__classdict__":Str))=false:=by decide) (hi:X.N[i]? =some g:=by rfl) (hvis:¬wL X.env.scope g:=by decide+kernel) (hs:swapsWith value (some (.Attribute (.Name y px) f pos')) pos.line X.env=pure false:=by rfl):
  og ly X (.Assign [.Attribute (.Name y px) f pos'] value pos) (uB L.x (aY fv (gN i))):=fun c pins s σ H D I q=>by
 refine D5 i hi hvis (pv L.x hN hvy hd hcd) (hv c) hs pins s σ H D I ?_
 obtain⟨F,ρ,ri,w⟩:=q
 obtain⟨hρ,w⟩:=D7 w
 refine⟨F,ρ,ri,(aV.bind.mp w).imp fun d _ w1 v H1 F1 e1 r1=> ?_⟩
 have ri1:=ri.step e1
 obtain⟨a,dx,fs,h0,h1,h2,h3,h4,h5,h6,h7,h8,h9,h10⟩:=ri1.obj L A.mem hρ
 have hil:i<σ.length:=by rw[I.len];exact(List.getElem?_eq_some_iff.mp hi).1
 have hlen:fs.length<1000:=by
  have:=js (m:=L.fl.map (·.1)) h10 fun x hx=>by
   obtain⟨v,e⟩:=q8 hx
   exact h9 x v e
  rw[List.length_map,List.length_map]at this
  exact Nat.lt_of_le_of_lt this A.few
 refine⟨.ref a,h1,a,L.C,dx,fs,rfl,h2,hC,n,hlen,?_⟩
 exact w1 _ _ F1 e1.grow (ri1.fld A.mem hρ h1 h2 A.fl A.un A.x A.oth r1 hil)
end
end L2.Pu
namespace L2.Pu
open PySem PySem.Spec PyProof.Rows
variable {ly:List jn}
section
variable {X:Cx} {pos px:Pos} {f y:Str}
def IX (x:Nat) (g:aq->R D):aq->R D:=fun ρ=>match ρ[x]? with
 |some (some .obj)=>g ρ
 |_=> .bad
end
def gG:List (Str×Nat)->aq->Option (List (Str×D))
 |[],_=>some []
 |p::r,ρ=>match ρ[p.2]? with
  |some (some (.val d))=>(gG r ρ).map fun t=>(p.1,d)::t
  |_=>none
def mx (n:Nat) (ds:List D):aq:=some Slot.obj::fA n ds
def yH (fl:List (Str×Nat)) (ρ:aq):R (List (Str×D)):=match ρ[0]? with
 |some (some Slot.obj)=>R.of (gG fl ρ)
 |_=> .bad
def mZ (k n:Nat) (fl:List (Str×Nat)) (g:aq->R bM) (ds:List D):R (List (Str×D)):=if ds.length=k then g (mx n ds)>>=fun o=>match o with
 | .nx ρ=>yH fl ρ
 |_=> .bad else .bad
def AO (K:PySem.W.Frag) (C:Addr) (cls:Str) (k:Nat) (mi:List D->R (List (Str×D))):Sp:=fun vs H Q E=>∃F x dx us ds Hz,vs= .ref x::us/\us.length=k/\bw F Hz/\Hz x=none/\Hz dx=none/\dx≠x/\H=bY (bY Hz dx (.own x)) x (.ins C dx [])/\Reps K F us ds/\match mi ds with
 | .ok fds=>∀H' F',cm Hz F H' F'->fF K F' (.ref x) (.ins cls fds)->Q .non H'
 | .err z _=>∀ec a H' F',jp K z ec->cm Hz F H' F'->E ec a H'
 | .bad=>False
theorem q9 {K:PySem.W.Frag} {c:fU ly} {ρ:aq} {σ:St} {H F:Hp} (ri:RI K c ρ σ H F) {fs:List (Str×V)}:∀{fl:List (Str×Nat)} {fds:List (Str×D)},gG fl ρ=some fds->(∀p∈fl,fs.lookup p.1=(σ[p.2]?).join)->
  ∃vs:List (Str×V),RepF K F vs fds/\vs.map (·.1)=fl.map (·.1)/\∀p∈vs,fs.lookup p.1=some p.2
 |[],fds,h,_=>by cases h;exact⟨[], .nil,rfl,fun p hp=>by cases hp⟩
 |p::fl,fds,h,hl=>by
  unfold gG at h
  split at h
  ·rename_i d hd
   cases e:gG fl ρ with
   |none=>rw[e]at h;cases h
   |some t=>
    rw[e]at h
    cases h
    obtain⟨vs,h1,h2,h3⟩:=q9 ri e fun q hq=>hl q (List.mem_cons_of_mem _ hq)
    obtain⟨v,g1,g2⟩:=ri.val _ d hd
    refine⟨(p.1,v)::vs, .cons g2 h1,by rw[List.map_cons,List.map_cons,h2],fun q hq=> ?_⟩
    rcases List.mem_cons.mp hq with rfl|hq
    ·have:=hl p List.mem_cons_self
     rw[this,g1];rfl
    ·exact h3 q hq
  ·cases h
theorem yI {K:PySem.W.Frag} {N:List Str} {C x dx:Addr} {fl:List (Str×Nat)} {Hz F:Hp} {us:List V} {ds:List D} {Er:Str->aq->Prop} {n:Nat} (hn:N.length=n+1) (s:bw F Hz) (hx:Hz x=none) (hdx:Hz dx=none) (hne:dx≠x) (r:Reps K F us ds) (hus:us.length<=n) (hg:∀p∈fl,us.length<p.2):
  RI K (⟨Hz,F,fun _=>none,Er,fun _=>some x,fun _=>none⟩:fU [⟨0,C,fl⟩]) (mx n ds) (du N (.ref x::us)) (bY (bY Hz dx (.own x)) x (.ins C dx [])) F:=by
 have keep:bw Hz (bY (bY Hz dx (.own x)) x (.ins C dx [])):=(d8 hdx).trans (d8 (by rw[aD (Ne.symm hne)];exact hx))
 have hv:∀(i:Nat) sl,(mx n ds)[i]? =some (some sl)->(i=0/\sl= .obj)\/∃j d,i=j+1/\ds[j]? =some d/\sl= .val d:=fun i sl h=>by
  cases i with
  |zero=>exact .inl ⟨rfl,by cases h;rfl⟩
  |succ j=>
   have h':(fA n ds)[j]? =some (some sl):=h
   refine .inr ?_
   unfold fA at h'
   rw[List.getElem?_append]at h'
   split at h'
   ·rw[List.getElem?_map]at h'
    cases e:ds[j]? with
    |none=>rw[e]at h';cases h'
    |some d=>rw[e]at h';simp at h';exact⟨j,d,rfl,e,h'.symm⟩
   ·rw[List.getElem?_replicate]at h'
    split at h'<;>simp at h'
 have hs0:(du N (V.ref x::us))[0]? =some (some (V.ref x)):=rfl
 refine⟨⟨s.trans keep,keep,bw.refl _,fun _ h=> .inl h⟩,fun i d h=> ?_,fun i d h=> ?_,fun i d h=> ?_,(fun b o e=>by cases e),fun i j d d' a h=> ?_,?_,fun L hL _=> ?_,fun L hL L' hL' _ _ a _ _=> ?_,(fun _ _ e=>by cases e)⟩
 ·obtain⟨rfl,z⟩|⟨j,d',rfl,e,z⟩:=hv i _ h
  ·cases z
  cases z
  obtain⟨v,h1,h2⟩:=r.get e
  refine⟨v,?_,h2⟩
  unfold du
  have hl:j<us.length:=(List.getElem?_eq_some_iff.mp h1).1
  rw[List.getElem?_append_left (by simpa using hl),List.getElem?_map]
  show (us[j]?).map some=_
  rw[h1]
  rfl
 ·obtain⟨_,z⟩|⟨j,d',_,_,z⟩:=hv i _ h<;>cases z
 ·obtain⟨_,z⟩|⟨j,d',_,_,z⟩:=hv i _ h<;>cases z
 ·obtain⟨_,z⟩|⟨j,d',_,_,z⟩:=hv i _ h<;>cases z
 ·simp only[mx,fA,du,List.length_cons,List.length_append,List.length_map,List.length_replicate,hn]
  have:=r.length
  omega
 ·rw[List.mem_singleton.mp hL]
  refine⟨x,dx,[],(fun b hb=>by cases hb;rfl),hs0,aC,?_,s.free hx,s.free hdx,hx,hdx,fun p hp=> ?_,(fun f v h=>by cases h),List.nodup_nil⟩
  ·rw[aD hne];exact aC
  ·have hp2:=hg p hp
   show none=_
   unfold du
   rw[List.getElem?_append_right (by simp;omega),List.getElem?_replicate]
   split<;>rfl
 ·rw[List.mem_singleton.mp hL,List.mem_singleton.mp hL']
theorem D8 {K:PySem.W.Frag} {C:Addr} {cls:Str} {fl:List (Str×Nat)} {c:fU [⟨0,C,fl⟩]} {ρ:aq} {σ:St} {H F:Hp} {fds:List (Str×D)} {x:Addr} (ri:RI K c ρ σ H F) (hρ:ρ[0]? =some (some .obj)) (hoa:c.oa 0=some x) (hns:PySem.W.nsIn K mainGlobals cls=some (some (.ref C))) (h:gG fl ρ=some fds):
  ∃F',cm c.H0 c.F0 H F'/\fF K F' (.ref x) (.ins cls fds):=by
 obtain⟨a,dx,fs,h0,h1,h2,h3,h4,h5,h6,h7,h8,h9,h10⟩:=ri.obj _ (List.mem_singleton.mpr rfl) hρ
 cases h0 x hoa
 obtain⟨vs,g1,g2,g3⟩:=q9 ri h h8
 have hne:dx≠x:=fun z=>by rw[z,h2]at h3;cases h3
 have s1:bw F (bY F dx (.own x)):=d8 h5
 have s2:bw (bY F dx (.own x)) (bY (bY F dx (.own x)) x (.ins C dx fs)):=d8 (by rw[aD (Ne.symm hne)];exact h4)
 have sF:=s1.trans s2
 refine⟨bY (bY F dx (.own x)) x (.ins C dx fs),⟨fun b u e=> ?_,ri.ext.keep,ri.ext.grow.trans sF,fun b e=> ?_⟩, .ins aC (by rw[aD hne];exact aC) hns g3 (fun f v e=>by rw[g2];exact h9 f v e) (g1.mono sF)⟩
 ·by_cases z:b=x
  ·subst z;rw[aC]at e;rw[<-e];exact h2
  ·rw[aD z]at e
   by_cases z2:b=dx
   ·subst z2;rw[aC]at e;rw[<-e];exact h3
   ·rw[aD z2]at e;exact ri.sub b u e
 ·by_cases z:b=x
  ·subst z;exact .inr h6
  ·rw[aD z]at e
   by_cases z2:b=dx
   ·subst z2;exact .inr h7
   ·rw[aD z2]at e;exact ri.ext.new b e
theorem D9 {P:Program} {w:World} {K:PySem.W.Frag} {mg:Str->Option Value} {base:Heap} {x qual cls:Str} {st:Stmt} {f C:Addr} {fd:FuncData} {N ps:List Str} {k n m:Nat} {fl:List (Str×Nat)} {g:aq->R bM} (F:zk K x qual st f fd) (S:aI N ps (ah st))
  (hns:PySem.W.nsIn K mainGlobals cls=some (some (.ref C))) (hn:ps.length=n+1) (hm:N.length=m+1) (hg:∀p∈fl,n<p.2) (hnm:n<=m)
  (hbody:∀(cdv:Value) (A:Around) (outer:List Env) (s:Shared) (H:Hp) (E:XK),eE k (A.deeper (envOfC qual (ah st) s.heap.objs.size f cdv))->
   md [⟨0,C,fl⟩] (kI (oY P w) P w K mg base N qual (ah st) f cdv A outer s H E) (aG st) g):i7 P w K mg base (oY P w) (k+1) f fd ps (AO K C cls n (mZ n m fl g)):=by
 refine IT F S (fun vs H Q E h=> ?_) (fun cdv A outer s H vs Q E hr h=> ?_)
 ·obtain⟨Fz,y,dy,us,ds,Hz,rfl,hl,_⟩:=h
  rw[List.length_cons,hl,hn]
 ·obtain⟨Fz,y,dy,us,ds,Hz,rfl,hl,sub,hy,hdy,hne,rfl,r,w⟩:=h
  refine⟨_,hbody cdv A outer s _ E hr ⟨⟨Hz,Fz,fun _=>none,fun z _=>∀ec a H' F',jp K z ec->cm Hz Fz H' F'->E ec a H',fun _=>some y,fun _=>none⟩,Aq fun z ρ er ec a H' F' σ hc ri=>er ec a H' F' hc ri.ext⟩,?_⟩
  refine⟨Fz,mx m ds,yI hm sub hy hdy hne r (by omega) (fun p hp=>by rw[hl];exact hg p hp),?_⟩
  have hd:ds.length=n:=by rw[<-r.length];exact hl
  unfold mZ at w
  rw[if_pos hd]at w
  cases e:g (mx m ds)with
  |bad=>rw[e]at w;exact w.elim
  |err c ρ=>rw[e]at w;exact w
  |ok o=>
   rw[e]at w
   cases o with
   |nx ρ=>
    intro σ' H' F' _ ri'
    rw[ay]at w
    split at w
    ·rename_i fds hf
     replace hf:yH fl ρ= .ok fds:=hf
     unfold yH at hf
     split at hf
     ·rename_i hρ
      cases e2:gG fl ρ with
      |none=>rw[e2]at hf;cases hf
      |some gds=>
       rw[e2]at hf
       cases hf
       obtain⟨F2,x1,x2⟩:=D8 ri' hρ rfl hns e2
       exact w H' F2 x1 x2
     ·cases hf
    ·rename_i z ρe hf
     replace hf:yH fl ρ= .err z ρe:=hf
     unfold yH at hf
     split at hf
     ·cases e2:gG fl ρ<;>rw[e2]at hf<;>cases hf
     ·cases hf
    ·exact w.elim
   |_=>exact w.elim
structure qa (P:Program) (w:World) (K:PySem.W.Frag) (mg:Str->Option Value) (base:Heap) (k:Nat) (cls:Str) (n:Nat) (mi:List D->R (List (Str×D))):Prop where
 ex:∃C f fd ps,i7 P w K mg base (oY P w) k f fd ps (AO K C cls n mi)/\mg cls=some (.ref C)/\Mk K C f/\ix K fd ps []
section
variable {X:Cx} {e:Expr} {es:List Expr} {fs:aq->R (List D)} {cls:Str} {p pos:Pos}
def qb (cls:Str) (n:Nat) (mi:List D->R (List (Str×D))) (fs:aq->R (List D)):aq->R D:=fun ρ=>fs ρ>>=fun ds=>if ds.length=n then (match mi ds with| .ok fds=> .ok (.ins cls fds)| .err x _=> .err x ρ| .bad=> .bad)else .bad
theorem sX {k n:Nat} {mi:List D->R (List (Str×D))} (G:qa X.prog X.w X.K X.mg X.base k cls n mi) (hr:eE (k+1) X.A) (ha:vS ly X (e::es) fs) (hg:Gl X cls:=by rfl) (hdb:(cls==("__debug__":Str))=false:=by decide)
  (he:starEach (e::es) X.env=(false,eval e X.env)::starEach es X.env:=by rfl) (hpl:(backTo pos (starEach es X.env)).any (·.1)=false:=by rfl):PQ ly X (.Call (.Name cls p) (e::es) [] pos) (qb cls n mi fs):=by
 obtain⟨C,f,fd,ps,h1,h2,h3,h4⟩:=G.ex
 refine fun c=>PE.weak (Ci h3 h1 hr hg h2 h4 .nil (xg c) (ha c) hdb he hpl) fun σ H Q ⟨F,ρ,ri,w⟩=>⟨F,ρ,ri,(aV.bind.mp w).imp fun ds _ w1 vs H1 F1 e1 r1 x dx hx hdx hne=> ?_⟩
 rw[List.append_nil]
 split at w1
 ·rename_i hl
  refine⟨F1,x,dx,vs,ds,H1,rfl,by rw[r1.length];exact hl,e1.sub,hx,hdx,hne,rfl,r1,?_⟩
  split at w1
  ·rename_i fds hm
   exact fun H' F' e' r'=>⟨rfl,w1 _ H' F' (e1.trans e') r'⟩
  ·exact fun ec a H' F' hc e'=>⟨_,ρ,F',hc,ri.step (e1.trans e'),w1⟩
  ·exact w1.elim
 ·exact w1.elim
end
end L2.Pu
namespace L2.Pu
open PySem PySem.Spec PyProof.Rows
variable {ly:List jn}
section
variable {X:Cx} {e:Expr} {es:List Expr} {fs:aq->R (List D)} {x:Str} {np cpos pos:Pos}
structure qc (K:PySem.W.Frag) (mg:Str->Option Value) (x:Str):Prop where
 ex:∃C,PySem.W.nsIn K mainGlobals x=some (some (.ref C))/\mg x=some (.ref C)/\qO K C
def kW (x:Str) (fs:aq->R (List D)):aq->R bM:=fun ρ=>fs ρ>>=fun ds=>if ds.length<=lim then .err x ρ else .bad
theorem AQ {c:kO ly X} {C:Addr} {σ:St} {H:Hp} {D:lZ} {ρ:aq} {F:Hp} (hns:PySem.W.nsIn X.K mainGlobals x=some (some (.ref C)))
  (thr:∀pins σ ρ H F s a cls x,aM X pins σ H s->RI X.K c.1 ρ σ H F->Fl X pins H s.heap a cls->jp X.K x cls->c.1.Er x ρ->X.xe (.ref a) s)
  (ri:RI X.K c.1 ρ σ H F) (w:aV c.1 (kW x fs ρ) (gA X.K c.1 F D)):Af X C (HK X.K c.1 fs) D σ H:=by
 refine⟨F,ρ,ri,(aV.bind.mp w).imp fun ds _ w1 vs H1 F1 e1 r1=> ?_⟩
 split at w1
 ·rename_i hl
  exact⟨Nat.le_trans (by rw[r1.length];exact hl) iK,fun pins s a I fl=>thr pins σ ρ H1 F1 s a _ x I (ri.step e1) fl ⟨C,rfl,hns⟩ w1⟩
 ·exact w1.elim
theorem AR {c:fU ly} {ρ:aq} {F:Hp} {D:lZ} (no:∀x ρ,¬c.Er x ρ) (w:aV c (kW x fs ρ) (gA X.K c F D)):False:=by
 unfold kW at w
 cases h:fs ρ with
 |bad=>rw[h]at w;exact w
 |err y ρ'=>rw[h]at w;exact no _ _ w
 |ok ds=>
  rw[h,ay]at w
  split at w
  ·exact no _ _ w
  ·exact w
theorem sY (k:qc X.K X.mg x) (hc:X.calm=true) (ha:vS ly X (e::es) fs) (hg:Gl X x:=by rfl) (hdb:(x==("__debug__":Str))=false:=by decide)
  (he:starEach (e::es) X.env=(false,eval e X.env)::starEach es X.env:=by rfl) (hpl:(backTo cpos (starEach es X.env)).any (·.1)=false:=by rfl):og ly X (.Raise (some (.Call (.Name x np) (e::es) [] cpos)) none pos) (kW x fs):=by
 obtain⟨C,h1,h2,h3⟩:=k.ex
 intro c pins s σ H D I q
 obtain⟨F,ρ,ri,w⟩:=q
 rcases c.2 with ⟨hp,thr⟩|no
 ·exact Ag h3 h2 hp hc (ha c) hg hdb he hpl pins s σ H D I (AQ h1 thr ri w)
 ·exact(AR (X:=X) no w).elim
end
def Hm (i:Nat):bM->bM
 | .nx ρ=> .nx (ρ.set i none)
 | .brk ρ=> .brk (ρ.set i none)
 | .cnt ρ=> .cnt (ρ.set i none)
 | .ret d=> .ret d
def xo (i:Nat) (sub:Str->Bool) (gh:aq->R bM) (x:Str) (ρ:aq):R bM:=if sub x=true then (match gh (ρ.set i (some (.val (.exc x))))with
 | .ok o=> .ok (Hm i o)
 |_=> .bad)else .bad
def yJ (i:Nat) (sub:Str->Bool) (g gh:aq->R bM):aq->R bM:=fun ρ=>match g ρ with
 | .err x ρ'=>xo i sub gh x ρ'
 |r=>r
section
variable {X:Cx} {pins:List (Addr×Obj)} {σ:St} {H:Hp} {s:Shared}
abbrev _root_.L2.Cx.inT (X:Cx) (E:Value->Shared->Prop) (pn:List (Addr×Obj)):Cx:={X with xe:=E,pn:=pn}
theorem Jd {E:Value->Shared->Prop} {pn:List (Addr×Obj)} (ok:X.Ok):(X.inT E pn).Ok:=
 ⟨ok.mod,ok.kind,ok.glob,ok.blt,ok.above,ok.inj,ok.has,ok.cab,ok.hd,ok.frames,ok.stk,ok.exf,ok.bs,ok.bsz,ok.noex,ok.exfs,ok.funs,ok.frf⟩
theorem inT {E:Value->Shared->Prop} (I:aM X pins σ H s):aM (X.inT E (X.pn++pins)) [] σ H s:=⟨Jd I.ok,I.os,I.bare,I.base,I.loc,I.cell,I.free,I.freeC,fun p hp=>I.pin p (by simpa using hp),I.hok,I.len⟩
theorem AS {E:Value->Shared->Prop} {pins':List (Addr×Obj)} (ok:X.Ok) (I:aM (X.inT E (X.pn++pins)) pins' σ H s):aM X pins σ H s:=⟨ok,I.os,I.bare,I.base,I.loc,I.cell,I.free,I.freeC,fun p hp=>I.pin p (List.mem_append_left _ hp),I.hok,I.len⟩
theorem newT {E:Value->Shared->Prop} {pins':List (Addr×Obj)} {b:Addr} (n:vO (X.inT E (X.pn++pins)) pins' H b):vO X pins H b:=⟨n.s0,n.no,fun p hp=>n.pin p (List.mem_append_left _ hp)⟩
theorem Je {E:Value->Shared->Prop} {pins':List (Addr×Obj)} {h:Heap} {a:Addr} {cls:Value} (f:Fl (X.inT E (X.pn++pins)) pins' H h a cls):Fl X pins H h a cls:=by
 obtain⟨oe,vs,h1,h2,h3,h4⟩:=f.at_
 refine⟨newT f.new,oe,vs,h1,h2,h3,h4.imp id fun ⟨T,e,t⟩=>⟨T,e,newT t.new,t.ne,t.at_⟩⟩
theorem Jf {E:Value->Shared->Prop} {D:lZ} {f:Flow} (ok:X.Ok) (h:SP (X.inT E (X.pn++pins)) [] D f s):SP X pins D f s:=by
 cases f with
 |next=>obtain⟨σ',H',I,q⟩:=h;exact⟨σ',H',AS ok I,q⟩
 |brk=>obtain⟨σ',H',I,q⟩:=h;exact⟨σ',H',AS ok I,q⟩
 |cont=>obtain⟨σ',H',I,q⟩:=h;exact⟨σ',H',AS ok I,q⟩
 |ret u=>obtain⟨v,σ',H',I,r,q⟩:=h;exact⟨v,σ',H',AS ok I,r,q⟩
end
section
variable {K:PySem.W.Frag} {c:fU ly} {ρ:aq} {σ:St} {H F:Hp}
def fU.er (c:fU ly) (F:Hp) (Er:Str->aq->Prop):fU ly:=⟨c.H0,c.F0,c.B,Er,c.oa,F⟩
theorem RI.er {Er:Str->aq->Prop} (r:RI K c ρ σ H F):RI K (c.er F Er) ρ σ H F:=⟨r.ext,r.val,r.own,r.bor,r.bh,r.dis,r.len,r.obj,r.odis,bw.refl _⟩
theorem RI.unEr {F1:Hp} {Er:Str->aq->Prop} (r:RI K (c.er F1 Er) ρ σ H F) (m:bw c.Fm F1):RI K c ρ σ H F:=⟨r.ext,r.val,r.own,r.bor,r.bh,r.dis,r.len,r.obj,r.odis,m.trans r.fm⟩
theorem gA.er {D:lZ} {o:bM} {F1:Hp} {Er:Str->aq->Prop} (m:bw c.Fm F1) (h:gA K c F D o):gA K (c.er F1 Er) F D o:=by
 cases o with
 |nx ρ=>exact fun σ' H' F' s r=>h σ' H' F' s (r.unEr m)
 |brk ρ=>exact fun σ' H' F' s r=>h σ' H' F' s (r.unEr m)
 |cnt ρ=>exact fun σ' H' F' s r=>h σ' H' F' s (r.unEr m)
 |ret d=>exact fun v H' F' s e r=>h v H' F' s e r
end
section
variable {X:Cx} {body suite:List Stmt} {b₀:Stmt} {g gh:aq->R bM} {cx n:Str} {np hpos pos:Pos} {sub:Str->Bool}
structure xp (K:PySem.W.Frag) (mg:Str->Option Value) (cx:Str) (sub:Str->Bool):Prop where
 ex:∃C,mg cx=some (.ref C)/\∀x cls,sub x=true->jp K x cls->PySem.W.exmOne K cls (.ref C)=some true
theorem Hn (i:Nat) (p:kz X) (hN:X.N.Nodup) (U:xp X.K X.mg cx sub) (hb:∀E pn,md ly (X.inT E pn) body g) (hh:∀v,md ly (X.inH v) (b₀::suite) gh) (hi:X.N[i]? =some n:=by rfl) (hk:X.env.scope.names.lookup n=some .local:=by rfl) (hg:Gl X cx:=by rfl)
  (hdb:(cx==("__debug__":Str))=false:=by decide) (hfr:kN ly i:=by(repeat (first|assumption|exact L2.Pu.dZ|refine L2.Pu.free_cons ⟨by first|decide|simp,by first|decide|simp⟩ ?_))):og ly X (.Try body [.ExceptHandler (some (.Name cx np)) (some n) (b₀::suite) hpos] [] [] pos) (yJ i sub g gh):=by
 obtain⟨Cc,hm,hsub⟩:=U.ex
 intro c pins s σ H D I q
 obtain⟨F,ρ,ri,w⟩:=q
 refine wpAny_Try_except ?_
 have ok:=I.ok
 let xe':Value->Shared->Prop:=fun e s₁=>wpAny (model X.prog X.w) X.A (noteFrame e X.env) (fun _ s₂=>wpAny (model X.prog X.w) X.A (setFlight e none) (fun _ s₃=>wpAny (model X.prog X.w) X.A (handleBy e X.env [.ExceptHandler (some (.Name cx np)) (some n) (b₀::suite) hpos]) (SP X pins D) X.xe s₃) X.xe s₂) X.xe s₁
 let c':fU ly:=c.1.er F fun x ρ'=>aV c.1 (xo i sub gh x ρ') (gA X.K c.1 F D)
 have thr:GX (X.inT xe' (X.pn++pins)) c':=by
  refine .inl ⟨⟨p.st,p.fr,p.ex⟩,fun pins' σ' ρ' H' F' s' a cls x I' ri' fl ec er=> ?_⟩
  obtain⟨C,rfl,hns⟩:=ec
  have ri0:RI X.K c.1 ρ' σ' H' F':=ri'.unEr ri.fm
  have sF:bw F F':=ri'.fm
  refine Ad (AS ok I') p (Je fl) fun h2 I2 f2=> ?_
  replace er:aV c.1 (xo i sub gh x ρ') (gA X.K c.1 F D):=er
  unfold xo at er
  split at er
  ·rename_i hs
   refine yr I2 p f2 hN hi hk hg hm (hsub x _ hs ⟨C,rfl,hns⟩) hdb fun s3 I3=> ?_
   have e2:=cm.lay (o:= .ext (jC a (.ref C))) ri0.sub f2.new.no
   have ri3:=(ri0.step e2).setVal i hfr (fF.exc aC hns)
   split at er
   ·rename_i o ho
    let D2:lZ:={nx:=fun σ1 H1=>D.nx (σ1.set i none) H1,rt:=D.rt,bk:=fun σ1 H1=>D.bk (σ1.set i none) H1,ct:=fun σ1 H1=>D.ct (σ1.set i none) H1}
    have want:gA X.K (c.1.er F fun _ _=>False) (bY F' a (.ext (jC a (.ref C)))) D2 o:=by
     have sFF:=sF.trans e2.grow
     cases o with
     |nx ρ1=>exact fun σ1 H1 F1 s1 r1=>er _ H1 F1 (sFF.trans s1) ((r1.unEr ri.fm).setNone i hfr)
     |brk ρ1=>exact fun σ1 H1 F1 s1 r1=>er _ H1 F1 (sFF.trans s1) ((r1.unEr ri.fm).setNone i hfr)
     |cnt ρ1=>exact fun σ1 H1 F1 s1 r1=>er _ H1 F1 (sFF.trans s1) ((r1.unEr ri.fm).setNone i hfr)
     |ret d=>exact fun v H1 F1 s1 e1 r1=>er v H1 F1 (sFF.trans s1) e1 r1
    have ri4:RI X.K (c.1.er F fun _ _=>False) (ρ'.set i (some (.val (.exc x)))) (σ'.set i (some (.ref a))) (bY H' a (.ext (jC a (.ref C)))) (bY F' a (.ext (jC a (.ref C)))):=⟨ri3.ext,ri3.val,ri3.own,ri3.bor,ri3.bh,ri3.dis,ri3.len,ri3.obj,ri3.odis,sF.trans e2.grow⟩
    refine cP (hh (.ref a) ⟨c.1.er F fun _ _=>False, .no fun _ _ z=>z⟩ pins s3 _ _ D2 I3 ⟨_,_,ri4,by rw[ho];exact want⟩) fun f s4 q4=> ?_
    have gone:∀{σ1 H1},aM (X.inH (.ref a)) pins σ1 H1 s4->(∀s5,aM X pins (σ1.set i none) H1 s5->SP X pins D f s5)->wpAny (model X.prog X.w) X.A (do bindName X.env n Value.none;unbindBehindTheSuite X.env n hpos) (fun _ s5=>SP X pins D f s5) X.xe s4:=fun I4 kk=>yp (I4.outH ok) hN hi hk kk
    cases f with
    |next=>obtain⟨σ1,H1,I4,q5⟩:=q4;exact gone I4 fun s5 I5=>⟨_,H1,I5,q5⟩
    |brk=>obtain⟨σ1,H1,I4,q5⟩:=q4;exact gone I4 fun s5 I5=>⟨_,H1,I5,q5⟩
    |cont=>obtain⟨σ1,H1,I4,q5⟩:=q4;exact gone I4 fun s5 I5=>⟨_,H1,I5,q5⟩
    |ret u=>obtain⟨v,σ1,H1,I4,r,q5⟩:=q4;exact gone I4 fun s5 I5=>⟨v,_,H1,I5,r,q5⟩
   ·exact er.elim
  ·exact er.elim
 have wb:aV c' (g ρ) (gA X.K c' F D):=by
  unfold yJ at w
  cases h:g ρ with
  |bad=>rw[h]at w;exact w
  |err x ρ'=>rw[h]at w;exact w
  |ok o=>rw[h]at w;exact gA.er ri.fm w
 refine cP (hb xe' (X.pn++pins) ⟨c',thr⟩ [] s σ H D (inT I) ⟨F,ρ,ri.er,wb⟩) fun f s1 q1=> ?_
 have q2:=Jf ok q1
 cases f with
 |next=>exact wpAny_execs_nil q2
 |brk=>exact q2
 |cont=>exact q2
 |ret u=>exact q2
end
section
variable {X:Cx} {a:Expr} {fa:aq->R D} {x:Str} {p p2 pos:Pos} {tb:Str->Option Bool}
structure qd (K:PySem.W.Frag) (v:Value) (tb:Str->Option Bool):Prop where
 ok:∀x b cls,tb x=some b->jp K x cls->PySem.W.kitOne K cls v=some b/\∃C,cls= .ref C/\qO K C
def wd (tb:Str->Option Bool) (f:aq->R D):aq->R D:=fun ρ=>f ρ>>=fun d=>match d with
 | .exc x=>R.of ((tb x).map .bl)
 |_=> .bad
def Ho (K:PySem.W.Frag):List V->Hp->VK->Prop:=fun xs H Q=>∃a C v c b,xs=[.ref a,v]/\H a=some (.ext (jC a (.ref C)))/\qO K C/\((∃T,v= .ty T/\c= .type T)\/∃C2,v= .ref C2/\c= .ref C2)/\PySem.W.kitOne K (.ref C) c=some b/\Q (.bl b) H
theorem uC:dH X (.builtin "isinstance") (Ho X.K):=by
 intro pins s σ H xs us Q I rv h
 obtain⟨a,C,v,c,b,rfl,ea,k,hc,e,q⟩:=h
 obtain⟨u,w',rfl,ru,rw'⟩:=tZ rv
 cases (show u=Value.ref a from ru)
 obtain⟨⟨o,g1,g2⟩,_⟩:=(show cf X.prog X.w H s.heap a (.ext (jC a (.ref C)))from I.hok a _ ea)
 have ew:w'=c:=by
  rcases hc with ⟨T,rfl,rfl⟩|⟨C2,rfl,rfl⟩
  ·exact rw'
  ·exact rw'
 subst ew
 exact PySem.W.kia_one (Ae k) I.kIn ⟨o,g1,g2⟩ e (fun z=>nomatch z) fun tk=>⟨.bl b,H,I.tok tk,rfl,q⟩
theorem d9.exc {K:PySem.W.Frag} {H F:Hp} {v:V} {x:Str} (s:bw F H):d9 K H F v (.exc x)->∃a C,v= .ref a/\H a=some (.ext (jC a (.ref C)))/\PySem.W.nsIn K mainGlobals x=some (some (.ref C)):=fun h=>by
 obtain⟨a,C,e,h,n⟩:=h.in rfl
 exact⟨a,C,e,s _ _ h,n⟩
theorem AT {K:PySem.W.Frag} {c:fU ly} {tv:V} {cv:Value} {σ:St} {H:Hp} {Q:VK} (T:qd K cv tb) (hv:(∃T,tv= .ty T/\cv= .type T)\/∃C2,tv= .ref C2/\cv= .ref C2) (h:tQ K c (wd tb fa) σ H Q):
  tB' K c fa σ H fun v H1=>Ho K [v,tv] H1 Q:=by
 obtain⟨F,ρ,ri,w⟩:=h
 refine⟨F,ρ,ri,(aV.bind.mp w).imp fun d _ w1 v H1 F1 e1 r1=> ?_⟩
 cases d with
 |exc x=>
  obtain⟨d',hd,k⟩:=w1.of
  cases ht:tb x with
  |none=>rw[ht]at hd;cases hd
  |some b=>
   rw[ht]at hd
   cases hd
   obtain⟨a,C,rfl,h1,h2⟩:=r1.exc e1.sub
   obtain⟨g1,C',g2,g3⟩:=T.ok x b (.ref C) ht ⟨C,rfl,h2⟩
   cases g2
   exact⟨a,C,tv,cv,b,rfl,h1,g3,hv,g1,k _ H1 F1 e1 (.bl b)⟩
 |_=>exact w1.elim
theorem Hq {C2:Addr} (T:qd X.K (.ref C2) tb) (hm:X.mg x=some (.ref C2)) (hm1:X.mg "isinstance"=none) (ha:PB ly X a fa) (hg1:Gl X "isinstance":=by rfl) (hg:Gl X x:=by rfl) (hdb:(x==("__debug__":Str))=false:=by decide)
  (he:starEach [a, .Name x p2] X.env=(false,eval a X.env)::starEach [.Name x p2] X.env:=by rfl) (he2:starEach [.Name x p2] X.env=(false,eval (.Name x p2) X.env)::starEach [] X.env:=by rfl) (hpl:(backTo pos (starEach [.Name x p2] X.env)).any (·.1)=false:=by rfl):
  PQ ly X (.Call (.Name "isinstance" p) [a, .Name x p2] [] pos) (wd tb fa):=fun c=>
 PE.weak (mK uC hg1 hm1 pD (fO (ha c) (fO (wM hg hm (v:= .ref C2) rfl hdb) j_ he2) he) (by decide) (by decide) he hpl) fun σ H Q h=>AT T (.inr ⟨C2,rfl,rfl⟩) h
theorem FP {Ty:String} (T:qd X.K (.type Ty) tb) (hv:bootBuiltins x=some (.type Ty)) (hm:X.mg x=none) (hm1:X.mg "isinstance"=none) (ha:PB ly X a fa) (hg1:Gl X "isinstance":=by rfl) (hg:Gl X x:=by rfl) (hn:x≠"__name__":=by decide) (hdb:(x==("__debug__":Str))=false:=by decide)
  (he:starEach [a, .Name x p2] X.env=(false,eval a X.env)::starEach [.Name x p2] X.env:=by rfl) (he2:starEach [.Name x p2] X.env=(false,eval (.Name x p2) X.env)::starEach [] X.env:=by rfl) (hpl:(backTo pos (starEach [.Name x p2] X.env)).any (·.1)=false:=by rfl):
  PQ ly X (.Call (.Name "isinstance" p) [a, .Name x p2] [] pos) (wd tb fa):=fun c=>
 PE.weak (mK uC hg1 hm1 pD (fO (ha c) (fO (wN (v:= .ty Ty) hg hm hv rfl hn hdb) j_ he2) he) (by decide) (by decide) he hpl) fun σ H Q h=>AT T (.inl ⟨Ty,rfl,rfl⟩) h
end
end L2.Pu
namespace L2.Pu
open PySem PySem.Spec PyProof.Rows
variable {ly:List jn}
def qR:D->Option Int
 | .tup (.int k::_)=>some k
 |_=>none
def gX (d:D):Int:=(qR d).getD 0
def ft:List D->Option (List Int)
 |[]=>some []
 |d::r=>(qR d).bind fun k=>(ft r).map (k::·)
def we (d:D):List D->List D
 |[]=>[d]
 |e::r=>if gX d<=gX e then d::e::r else e::we d r
def lN:List D->List D
 |[]=>[]
 |d::r=>we d (lN r)
theorem nW (d:D):∀l:List D,(we d l).Perm (d::l)
 |[]=> .refl _
 |e::r=>by
  unfold we
  split
  ·exact .refl _
  ·exact((nW d r).cons e).trans (.swap d e r)
theorem qe:∀l:List D,(lN l).Perm l
 |[]=> .refl _
 |d::r=>(nW d _).trans ((qe r).cons d)
theorem oj (d:D):∀{l:List D},l.Pairwise (fun a b=>gX a<=gX b)->(we d l).Pairwise (fun a b=>gX a<=gX b)
 |[],_=>by simp[we]
 |e::r,h=>by
  obtain⟨h1,h2⟩:=List.pairwise_cons.mp h
  unfold we
  split
  ·rename_i hd
   refine List.pairwise_cons.mpr ⟨fun x hx=> ?_,h⟩
   rcases List.mem_cons.mp hx with rfl|hx
   ·exact hd
   ·exact Int.le_trans hd (h1 x hx)
  ·rename_i hd
   refine List.pairwise_cons.mpr ⟨fun x hx=> ?_,oj d h2⟩
   rcases List.mem_cons.mp ((nW d r).mem_iff.mp hx)with rfl|hx
   ·omega
   ·exact h1 x hx
theorem m_:∀l:List D,(lN l).Pairwise (fun a b=>gX a<=gX b)
 |[]=> .nil
 |d::r=>oj d (m_ r)
theorem ol:∀{l m:List D},l.Perm m->l.Pairwise (fun a b=>gX a<gX b)->m.Pairwise (fun a b=>gX a<gX b)->l=m
 |[],m,p,_,_=>(List.Perm.nil_eq p)
 |a::l,[],p,_,_=>absurd p.length_eq (by simp)
 |a::l,b::m,p,h1,h2=>by
  obtain⟨g1,g2⟩:=List.pairwise_cons.mp h1
  obtain⟨k1,k2⟩:=List.pairwise_cons.mp h2
  have e:a=b:=by
   have ha:a∈b::m:=p.mem_iff.mp List.mem_cons_self
   have hb:b∈a::l:=p.mem_iff.mpr List.mem_cons_self
   rcases List.mem_cons.mp ha with z|ha
   ·exact z
   ·rcases List.mem_cons.mp hb with z|hb
    ·exact z.symm
    ·have:=g1 b hb
     have:=k1 a ha
     omega
  subst e
  rw[ol (p.cons_inv) g2 k2]
theorem yK {l:List D} (h:l.Pairwise (fun a b=>gX a<=gX b)) (nd:(l.map gX).Nodup):l.Pairwise (fun a b=>gX a<gX b):=by
 have:=List.pairwise_map.mp nd
 exact(h.and this).imp fun {x y} ⟨a,b⟩=>by omega
theorem uD {l m:List D} (p:l.Perm m) (h:m.Pairwise (fun a b=>gX a<gX b)):lN l=m:=by
 have q:=(qe l).trans p
 refine ol q (yK (m_ l) ?_) h
 refine(q.map gX).nodup_iff.mpr (List.pairwise_map.mpr (h.imp fun z=>Int.ne_of_lt z))
theorem om:∀{ds:List D} {ks:List Int},ft ds=some ks->ks=ds.map gX
 |[],ks,h=>by cases h;rfl
 |d::r,ks,h=>by
  replace h:((qR d).bind fun k=>(ft r).map (k::·))=some ks:=h
  cases e:qR d with
  |none=>rw[e]at h;cases h
  |some k=>
   rw[e]at h
   cases e2:ft r with
   |none=>rw[e2]at h;cases h
   |some q=>
    rw[e2]at h
    cases h
    rw[List.map_cons,<-om e2]
    simp[gX,e]
theorem sZ {K:PySem.W.Frag} {H F:Hp} (s:bw F H):∀{ds:List D} {ks:List Int} {vs:List V},ft ds=some ks->Reps K F vs ds->kb H vs ks:=by
 intro ds
 induction ds with
 |nil=>intro ks vs h r;cases r.nilI;cases h;exact .nil
 |cons d r ih=>
  intro ks vs h rr
  replace h:((qR d).bind fun k=>(ft r).map (k::·))=some ks:=h
  obtain⟨v0,us,rfl,rv,t⟩:=rr.consI
  obtain⟨k,ds,rfl⟩:∃k ds,d= .tup (.int k::ds):=by
   cases d with
   |tup xs=>
    cases xs with
    |nil=>cases h
    |cons x xs=>
     cases x with
     |int k=>exact⟨k,xs,rfl⟩
     |_=>cases h
   |_=>cases h
  obtain⟨a0,xs,rfl,h1,r2⟩:=rv.tupI
  obtain⟨k1,us1,rfl,rk,t1⟩:=r2.consI
  cases rk.intI
  ·cases e2:ft r with
   |none=>rw[e2]at h;cases h
   |some q=>
    rw[e2]at h
    cases h
    exact .cons (s _ _ h1) (ih e2 t)
theorem rN {K:PySem.W.Frag} {F:Hp} {vs:List V} {ds:List D} (h:Reps K F vs ds):∀q:List Nat,(∀i∈q,i<ds.length)->Reps K F (q.map fun i=>vs.getD i .non) (q.map fun i=>ds.getD i .non)
 |[],_=> .nil
 |i::q,hq=>by
  have hi:=hq i List.mem_cons_self
  obtain⟨v,h1,h2⟩:=h.get (i:=i) (d:=ds[i]) (List.getElem?_eq_getElem hi)
  refine .cons ?_ (rN h q fun j hj=>hq j (List.mem_cons_of_mem _ hj))
  show fF K F (vs.getD i .non) (ds.getD i .non)
  rw[List.getD_eq_getElem?_getD,List.getD_eq_getElem?_getD,h1,List.getElem?_eq_getElem hi]
  exact h2
theorem uE {ds:List D} {q:List Nat} (p:pM (ds.map gX) q):(q.map fun i=>ds.getD i .non)=lN ds:=by
 obtain⟨p1,p2⟩:=p
 rw[List.length_map]at p1
 have hm:∀i∈q,i<ds.length:=fun i hi=>List.mem_range.mp (p1.mem_iff.mp hi)
 have perm:(q.map fun i=>ds.getD i .non).Perm ds:=by
  refine(p1.map fun i=>ds.getD i .non).trans ?_
  have e:(List.range ds.length).map (fun i=>ds.getD i .non)=ds:=by
   refine List.ext_getElem (by simp) fun i h1 h2=> ?_
   simp[h2]
  rw[e]
 symm
 refine uD perm.symm ?_
 rw[List.pairwise_map]at p2 ⊢
 refine p2.imp_of_mem fun {a b} ha hb z=> ?_
 have ea:(ds.map gX).getD a 0=gX (ds.getD a .non):=by simp[hm a ha]
 have eb:(ds.map gX).getD b 0=gX (ds.getD b .non):=by simp[hm b hb]
 rw[ea,eb]at z
 exact z
def n0:List D->Option D
 |[.lst ds]=>(ft ds).bind fun ks=>if ks.Nodup/\ks.length<64 then some (.lst (lN ds))else none
 |[.tup ds]=>(ft ds).bind fun ks=>if ks.Nodup/\ks.length<64 then some (.lst (lN ds))else none
 |_=>none
def n4:List V->Hp->VK->Prop:=fun xs H Q=>∃p ys ks,xs=[.ref p]/\(H p=some (.lst ys)\/H p=some (.tup ys))/\kb H ys ks/\ks.Nodup/\ks.length<64/\∀l q,H l=none->pM ks q->Q (.ref l) (bY H l (.lst (q.map fun i=>ys.getD i .non)))
theorem qf {K:PySem.W.Frag} {H F:Hp} {p:Addr} {ys:List V} {ds:List D} {d:D} {Q:VK} (s:bw F H) (hp:H p=some (.lst ys)\/H p=some (.tup ys)) (r:Reps K F ys ds) (h:((ft ds).bind fun ks=>if ks.Nodup/\ks.length<64 then some (D.lst (lN ds))else none)=some d)
  (k:∀w H' F',cm H F H' F'->fF K F' w d->Q w H'):n4 [.ref p] H Q:=by
 cases e:ft ds with
 |none=>rw[e]at h;cases h
 |some ks=>
  rw[e]at h
  replace h:(if ks.Nodup/\ks.length<64 then some (D.lst (lN ds))else none)=some d:=h
  split at h
  ·rename_i hk
   cases h
   refine⟨p,ys,ks,rfl,hp,sZ s e r,hk.1,hk.2,fun l q hl pl=> ?_⟩
   have ek:=om e
   subst ek
   have e2:=cm.lay (o:= .lst (q.map fun i=>ys.getD i .non)) s hl
   refine k _ _ _ e2 (.lst aC ?_)
   rw[<-uE pl]
   refine(rN r q fun i hi=> ?_).mono e2.grow
   have:=List.mem_range.mp (pl.1.mem_iff.mp hi)
   simpa using this
  ·cases h
theorem uF {K:PySem.W.Frag}:m9 K n4 n0:=by
 intro vs ds d H F Q s rv h k
 match ds,h with
 |[.lst xs],h=>
  obtain⟨v,rfl,r⟩:=rv.one
  obtain⟨a,ws,rfl,h1,h2⟩:=r.lst s
  exact qf s (.inl h1) h2 h k
 |[.tup xs],h=>
  obtain⟨v,rfl,r⟩:=rv.one
  obtain⟨a,ws,rfl,h1,h2⟩:=r.tup s
  exact qf s (.inr h1) h2 h k
def cV (ds:List D):Option D:=match gF ds with
 |some d=>some d
 |none=>n0 ds
theorem iD {X:Cx} (hc:X.calm=true):dH X (.builtin "sorted") (fun xs H Q=>mY X.K xs H Q\/n4 xs H Q):=(sU hc).or sH
theorem jf {K:PySem.W.Frag}:m9 K (fun xs H Q=>mY K xs H Q\/n4 xs H Q) cV:=by
 intro vs ds d H F Q s rv h k
 unfold cV at h
 cases e:gF ds with
 |some d'=>rw[e]at h;cases h;exact .inl (uz vs ds d H F Q s rv e k)
 |none=>rw[e]at h;exact .inr (uF vs ds d H F Q s rv h k)
def tN (K:PySem.W.Frag) (c:fU ly) (f:aq->R D):TE:=fun σ H Q=>∃F ρ,RI K c ρ σ H F/\aV c (f ρ) fun d=>∀a o H' F',cm H F H' F'->H a=none->H' a=some o->F' a=none->lH K F' o d->Q (.ref a) H'
def PN (ly:List jn) (X:Cx) (e:Expr) (f:aq->R D):Prop:=∀c:kO ly X,PE X e (tN X.K c.1 f)
def Eb (K:PySem.W.Frag) (r:R2) (g:D->D->Option D):Prop:=∀v u x y d H F Q,bw F H->d9 K H F v x->d9 K H F u y->g x y=some d->(∀a o,H a=none->lH K F o d->Q (.ref a) (bY H a o))->r v u H Q
section
variable {X:Cx} {a b e:Expr} {es:List Expr} {fa fb f:aq->R D} {fs:aq->R (List D)} {pos p:Pos} {x:Str} {id T:String} {rc:List V->Hp->VK->Prop}
theorem Dc {K:PySem.W.Frag} {H F H1 F1:Hp} {d:D} {Q:VK} (e1:cm H F H1 F1) (k:∀a o H' F',cm H F H' F'->H a=none->H' a=some o->F' a=none->lH K F' o d->Q (.ref a) H'):∀a o,H1 a=none->lH K F1 o d->Q (.ref a) (bY H1 a o):=
 fun a o ha r=>k a o (bY H1 a o) F1 (e1.trans (cm.layOwn e1.sub ha)) (e1.keep.free ha) aC (e1.sub.free ha) r
theorem Hr {op:Operator} {r:R2} {g:D->D->Option D} (ho:kG X (binaryOp op) r) (sem:Eb X.K r g) (ha:PB ly X a fa) (hb:PB ly X b fb):PN ly X (.BinOp a op b pos) (f2 g fa fb):=fun c=>
 PE.weak (DM ho (ha c) (hb c)) fun σ H Q ⟨F,ρ,ri,w⟩=>⟨F,ρ,ri,(aV.bind.mp w).imp fun x hx w1 v H1 F1 e1 r1=>⟨F1,ρ,ri.step e1,(aV.bind.mp w1).imp fun y hy w2 u H2 F2 e2 r2=>by
  obtain⟨d,hd,k⟩:=w2.of
  exact sem v u x y d H2 F2 Q (e1.trans e2).sub (r1.mono e2) r2 hd (Dc (e1.trans e2) k)⟩⟩
def AU (i:Nat) (f:aq->R D):aq->R bM:=fun ρ=>f ρ>>=fun d=> .ok (.nx (ρ.set i (some (.own d))))
theorem FQ (i:Nat) {x:Str} {pos':Pos} (hN:X.N.Nodup) (h:PN ly X e f) (hi:X.N[i]? =some x:=by rfl) (hx:xT X.env.scope x:=by first|exact Or.inl rfl|exact Or.inr rfl) (hs:swapsWith e (some (.Name x pos')) pos.line X.env=pure false:=by rfl)
  (hf:X.fn x=true\/X.env.scope.names.lookup x=some .local:=by first|exact .inl rfl|exact .inr rfl|assumption) (hfr:kN ly i:=by(repeat (first|assumption|exact L2.Pu.dZ|refine L2.Pu.free_cons ⟨by first|decide|simp,by first|decide|simp⟩ ?_))):og ly X (.Assign [.Name x pos'] e pos) (AU i f):=fun c=>
 PS.weak (m3 hN hi hx (h c) hs hf) fun D σ H ⟨F,ρ,ri,w⟩=>⟨F,ρ,ri,(aV.bind.mp w).imp fun d _ w1 a o H1 F1 e1 n1 h1 f1 r1=>by
  refine w1 _ H1 F1 e1.grow ((ri.step e1).setOwn i hfr h1 f1 (ri.ext.keep.free n1) r1 fun j d' _ hj ej=> ?_)
  obtain⟨b,o',k1,k2,_⟩:=ri.own j d' hj
  rw[ej]at k1
  cases k1
  rw[n1]at k2
  cases k2⟩
end
section
variable {K:PySem.W.Frag}
def uG:D->D->Option D
 | .lst a, .int k=>if k.natAbs<=lim/\a.length*k.toNat<=lim then some (.lst (List.replicate k.toNat a).flatten)else none
 |_,_=>none
theorem AV:Eb K Aw uG:=by
 intro v u x y d H F Q s rx ry h k
 unfold uG at h
 split at h
 ·rename_i a j
  split at h
  ·rename_i hl
   cases h
   cases ry.int
   obtain⟨p,vs,rfl,h1,h2⟩:=rx.lst s
   refine .inr ⟨p,j,vs,rfl,rfl,h1,by have:=fP hl.1;omega,by have:=fP hl.1;omega,Nat.le_trans (by rw[h2.length];exact hl.2) iK,fun l hl'=> ?_⟩
   exact k _ _ hl' (.lst (h2.rep _))
  ·cases h
 ·cases h
end
end L2.Pu
namespace L2.Pu
open PySem PySem.Spec PyProof.Rows
variable {ly:List jn}
structure kh (K:PySem.W.Frag) (cls m qual:Str) (st:Stmt) (ps:List Str):Prop where
 ex:∃C f fd,zk K m qual st f fd/\q0 K cls C/\yc K C m f/\ix K fd ps []
structure wg (K:PySem.W.Frag) (mg:Str->Option Value) (cls qual:Str) (st:Stmt) (ps:List Str) (fs:List Str):Prop where
 ex:∃C f fd,zk K "__init__" qual st f fd/\q0 K cls C/\mg cls=some (.ref C)/\Mk K C f/\ix K fd ps []/\∀x∈fs,iq K C x
structure lO (K:PySem.W.Frag) (cls:Str) (fs:List Str):Prop where
 ex:∃C,q0 K cls C/\∀x∈fs,iq K C x
section
variable {P:Program} {w:World} {K:PySem.W.Frag} {mg:Str->Option Value} {base:Heap}
theorem lz {cls mm qual:Str} {st:Stmt} {N ps:List Str} {k n m:Nat} {g:aq->R bM} (A:kh K cls mm qual st ps) (S:aI N ps (ah st)) (hn:ps.length=n) (hm:N.length=m)
  (hbody:∀(f:Addr) (cdv:Value) (A:Around) (outer:List Env) (s:Shared) (H:Hp) (E:XK),eE k (A.deeper (envOfC qual (ah st) s.heap.objs.size f cdv))->
   md [] (kI (oY P w) P w K mg base N qual (ah st) f cdv A outer s H E) (aG st) g):cU P w K mg base (k+1) cls mm n (aZ n m g):=by
 obtain⟨C,f,fd,F,h1,h2,h3⟩:=A.ex
 exact⟨C,f,fd,ps,Fw F S hn hm fun cdv A outer s H E hr=>hbody f cdv A outer s H E hr,h1,h2,h3⟩
theorem yL {cls qual:Str} {st:Stmt} {N ps fs:List Str} {k n m:Nat} {fl:List (Str×Nat)} {g:aq->R bM} (A:wg K mg cls qual st ps fs) (S:aI N ps (ah st)) (hn:ps.length=n+1) (hm:N.length=m+1) (hg:∀p∈fl,n<p.2) (hnm:n<=m)
  (hbody:∀(C f:Addr) (cdv:Value) (A:Around) (outer:List Env) (s:Shared) (H:Hp) (E:XK),wW K C->(∀x∈fs,iq K C x)->eE k (A.deeper (envOfC qual (ah st) s.heap.objs.size f cdv))->
   md [⟨0,C,fl⟩] (kI (oY P w) P w K mg base N qual (ah st) f cdv A outer s H E) (aG st) g):qa P w K mg base (k+1) cls n (mZ n m fl g):=by
 obtain⟨C,f,fd,F,h1,h2,h3,h4,h5⟩:=A.ex
 exact⟨C,f,fd,ps,D9 F S h1.ns hn hm hg hnm fun cdv A outer s H E hr=>hbody C f cdv A outer s H E h1.cl h5 hr,h2,h3,h4⟩
theorem s_ {C:Addr} {fl:List (Str×Nat)} {f:Str} {i:Nat} (h1:(f,i)∈fl) (h2:∀p∈fl,p.1=f<->p.2=i) (h3:0≠i) (h4:fl.length<1000):Ea [⟨0,C,fl⟩] ⟨0,C,fl⟩ f i:=
 ⟨List.mem_cons_self,h1,h2,h3,fun M hM hne=>absurd (List.mem_singleton.mp hM) hne,h4⟩
theorem t0 {C:Addr} (e1:PySem.W.excIn K C vR "ValueError.__new__"=true) (e2:PySem.W.findIn K (.ref C) "__getattribute__"=some (some (.builtin "BaseException.__getattribute__"))) (e3:PySem.W.findIn K (.ref C) "__getattr__"=some none)
  (e4:PySem.W.findIn K (.ref C) "__class__"=some (some (.builtin "object.__class__"))) (e5:PySem.W.mroIn K C (.type "object")=some true) (e6:PySem.W.mroIn K C (.type "BaseException")=some true) (e7:PySem.W.kitCls K (.ref C) (.ref C)=some true)
  (e8:PySem.W.specialIn K (.builtin "object.__class__") "__get__"=some (some (.builtin "getset_descriptor.__get__"))) (e9:PySem.W.takesIn K (.builtin "object.__class__")=some true):qO K C:=
 ⟨⟨_,_,_,_,e1,F.excBase_ValueError,by decide⟩,e2,e3,e4,e8,e9,e5,e6,e7⟩
theorem wj {D:Addr} {bmB:List Value} {nid:String} (e:PySem.W.excIn K D bmB nid=true):((PySem.W.clsIn K D).isSome&&PySem.W.typeIn K (.ref D)==some (.type "type"))=true:=by
 unfold PySem.W.excIn at e
 split at e
 ·rename_i lk
  unfold PySem.W.clsIn PySem.W.typeIn
  simp only[lk]
  rfl
 ·cases e
theorem jP {C D:Addr} {b:Bool} {bmB:List Value} {nid:String} (e:PySem.W.excIn K D bmB nid=true) (m:PySem.W.mroIn K C (.ref D)=some b):PySem.W.kitCls K (.ref C) (.ref D)=some b:=by
 unfold PySem.W.kitCls
 dsimp only
 rw[if_pos (wj e)]
 exact m
theorem iI {C D:Addr} {b:Bool} {bmB:List Value} {nid:String} (e:PySem.W.excIn K D bmB nid=true) (m:PySem.W.mroIn K C (.ref D)=some b) (s:PySem.W.mroIn K C (.ref C)=some true):PySem.W.kitOne K (.ref C) (.ref D)=some b:=by
 unfold PySem.W.kitOne
 split
 ·rename_i h
  have ez:Value.ref C=Value.ref D:=eq_of_beq h
  cases ez
  exact s.symm.trans m
 ·exact jP e m
theorem oO:PySem.W.kitMeta "ValueError"=true:=by unfold PySem.W.kitMeta;decide+kernel
theorem nX {C:Addr} {b:Bool} (m:PySem.W.mroIn K C (.type "ValueError")=some b):PySem.W.kitOne K (.ref C) (.type "ValueError")=some b:=by
 unfold PySem.W.kitOne
 rw[if_neg (by intro h;exact absurd (eq_of_beq h) (fun z=>by cases z))]
 unfold PySem.W.kitCls
 dsimp only
 rw[if_pos oO]
 exact m
theorem nY {C D:Addr} {b:Bool} {bmB:List Value} {nid:String} (e:PySem.W.excIn K D bmB nid=true) (m:PySem.W.mroIn K C (.ref D)=some b) (mb:PySem.W.mroIn K D (.type "BaseException")=some true):PySem.W.exmOne K (.ref C) (.ref D)=some b:=by
 unfold PySem.W.exmOne
 rw[if_pos (by show (PySem.W.mroIn K D (.type "BaseException")==some true)=true;rw[mb];rfl)]
 exact jP e m
def AW (xs:List Str) (x:Str):Bool:=xs.contains x
theorem AX {cx:Str} {C:Addr} {xs:List Str} (hm:mg cx=some (.ref C)) (h:∀x∈xs,∃Ce,PySem.W.nsIn K mainGlobals x=some (some (.ref Ce))/\PySem.W.exmOne K (.ref Ce) (.ref C)=some true):xp K mg cx (AW xs):=by
 refine⟨C,hm,fun x cls hx ⟨C',e,hc⟩=> ?_⟩
 obtain⟨Ce,h1,h2⟩:=h x (by simpa[AW]using hx)
 rw[hc]at h1
 cases h1
 rw[e]
 exact h2
def qS (l:List (Str×Bool)) (x:Str):Option Bool:=l.lookup x
theorem rO {α:Type} {x:Str} {b:α}:∀{l:List (Str×α)},l.lookup x=some b->(x,b)∈l
 |(k,v)::r,h=>by
  rw[List.lookup_cons]at h
  cases e:x==k with
  |true=>rw[e]at h;cases h;cases eq_of_beq e;exact List.mem_cons_self
  |false=>rw[e]at h;exact List.mem_cons_of_mem _ (rO h)
theorem qg {v:Value} {l:List (Str×Bool)} (h:∀p∈l,∃Ce,PySem.W.nsIn K mainGlobals p.1=some (some (.ref Ce))/\PySem.W.kitOne K (.ref Ce) v=some p.2/\qO K Ce):qd K v (qS l):=by
 refine⟨fun x b cls hb ⟨C',e,hc⟩=> ?_⟩
 obtain⟨Ce,h1,h2,h3⟩:=h _ (rO hb)
 rw[hc]at h1
 cases h1
 subst e
 exact⟨h2,C',rfl,h3⟩
structure AY (K:PySem.W.Frag) (mg:Str->Option Value) (x:Str) (tb:Str->Option Bool):Prop where
 ex:∃C,mg x=some (.ref C)/\qd K (.ref C) tb
end
section
variable {X:Cx} {a e o:Expr} {es:List Expr} {fa f fo:aq->R D} {fs:aq->R (List D)} {cls fld x m:Str} {p p2 pos apos:Pos} {xs:List Str} {tb:Str->Option Bool}
theorem fE (T:lO X.K cls xs) (hf:fld∈xs) (ha:PB ly X a fa) (hb:attributeBase a fld X.env (eval a X.env)=eval a X.env:=by rfl):PQ ly X (.Attribute a fld pos) (dN cls fld fa):=by
 obtain⟨C,h1,h2⟩:=T.ex
 exact Hk h1 (h2 fld hf) ha hb
theorem AZ (T:AY X.K X.mg x tb) (hm1:X.mg "isinstance"=none) (ha:PB ly X a fa) (hg1:Gl X "isinstance":=by rfl) (hg:Gl X x:=by rfl) (hdb:(x==("__debug__":Str))=false:=by decide)
  (he:starEach [a, .Name x p2] X.env=(false,eval a X.env)::starEach [.Name x p2] X.env:=by rfl) (he2:starEach [.Name x p2] X.env=(false,eval (.Name x p2) X.env)::starEach [] X.env:=by rfl) (hpl:(backTo pos (starEach [.Name x p2] X.env)).any (·.1)=false:=by rfl):
  PQ ly X (.Call (.Name "isinstance" p) [a, .Name x p2] [] pos) (wd tb fa):=by
 obtain⟨C,h1,h2⟩:=T.ex
 exact Hq h2 h1 hm1 ha hg1 hg hdb he he2 hpl
def rP (f:aq->R D):aq->R bM:=fun ρ=>f ρ>>=fun _=> .ok (.nx ρ)
theorem FR (h:PQ ly X e f) (hsw:swapsWith e none pos.line X.env=pure false:=by rfl):og ly X (.Expr e pos) (rP f):=fun c=>
 PS.weak (wO (h c) hsw) fun D σ H ⟨F,ρ,ri,w⟩=>⟨F,ρ,ri,(aV.bind.mp w).imp fun d _ w1 v H1 F1 e1 r1=>w1 σ H1 F1 e1.grow (ri.step e1)⟩
end
theorem FT {P:Program} {w:World} {outer:List Env} {H:Hp} {s s':Shared} {e:Value} (h:oY P w outer H s (fun _ _ _=>False) e s'):False:=by
 obtain⟨_,_,_,_,_,_,_,_,_,z⟩:=h
 exact z
theorem oP:bootBuiltins "ValueError"=some (.type "ValueError"):=by decide+kernel
end L2.Pu
namespace L2.Pu
open PySem PySem.Spec PyProof.Rows
variable {ly:List jn}
theorem RI.up {K:PySem.W.Frag} {c:fU ly} {ρ:aq} {σ:St} {H F H':Hp} (r:RI K c ρ σ H F) (e:bw H H'):RI K c ρ σ H' F:=r.step ⟨r.sub.trans e,e,bw.refl _,fun _ h=> .inl h⟩
def nZ:D->Bool
 | .non=>true
 | .bl _=>true
 | .int _=>true
 | .str _=>true
 |_=>false
theorem A_ {K:PySem.W.Frag} {F F':Hp} {v:V} {d:D} (h:nZ d=true) (r:fF K F v d):fF K F' v d:=by
 cases r with
 |non=>exact .non
 |bl b=>exact .bl b
 |int i=>exact .int i
 |str x=>exact .str x
 |_=>cases h
theorem yM {K:PySem.W.Frag} {F F':Hp} {vs:List V} {ds:List D} (h:ds.all nZ=true) (g:Reps K F vs ds):Reps K F' vs ds:=by
 induction ds generalizing vs with
 |nil=>rw[g.nilI];exact .nil
 |cons d ds ih=>
  obtain⟨w,us,e0,r,t⟩:=g.consI
  rw[List.all_cons,Bool.and_eq_true]at h
  rw[e0]
  exact .cons (A_ h.1 r) (ih h.2 t)
section
variable {X:Cx} {e:Expr} {es:List Expr} {f:aq->R D} {g:aq->R Bool} {pos:Pos}
def B0 (L:List Nat) (f:aq->R D) (n:Nat) (gs:List D->aq->R aq):aq->R bM:=fun ρ=>f (frz L ρ)>>=fun d=>match d with
 | .lst ds=>if ds.length=n/\ds.all nZ=true then (gs ds ρ>>=fun ρ'=> .ok (.nx ρ'))else .bad
 | .tup ds=>if ds.length=n/\ds.all nZ=true then (gs ds ρ>>=fun ρ'=> .ok (.nx ρ'))else .bad
 |_=> .bad
theorem FU (L:List Nat) {k n:Nat} {pt:Pos} {gs:List D->aq->R aq} (hc:X.calm=true) (he:PQ ly X e f) (h:Ai ly X es gs) (hn:(assignEach es X.env).length=n:=by rfl) (hst:(assignEach es X.env).findIdx? (·.1)=none:=by rfl)
  (hs:swapsWithSole [.Tuple es k pt] e pos.line X.env=pure false:=by rfl) (hw:swappedStores [.Tuple es k pt] e X.env=pure none:=by rfl)
  (h1:(assignEach [.Tuple es k pt] X.env).map (·.2)=[assign (.Tuple es k pt) X.env]:=by rfl):og ly X (.Assign [.Tuple es k pt] e pos) (B0 L f n gs):=fun c=>
 PS.weak (vi (he c) (PG.or (zw hc (h c) hn hst) (Ab hc (h c) hn hst)) hs hw h1) fun D σ H ⟨F,ρ,ri,w⟩=>by
  obtain⟨F',s,ri'⟩:=ri.frz L
  refine⟨F',_,ri',(aV.bind.mp w).imp fun d _ w1 v H1 F1 e1 r1=> ?_⟩
  have key:∀{ds:List L2.Pu.D} {vs:List V},Reps X.K F1 vs ds->aV c.1 (if ds.length=n/\ds.all nZ=true then (gs ds ρ>>=fun ρ'=>R.ok (bM.nx ρ'))else .bad) (gA X.K c.1 F D)->
    vs.length=n/\IS X.K c.1 gs vs σ H1 (fun σ' H'=>D.nx σ' H'):=by
   intro ds vs r2 w2
   split at w2
   ·rename_i hl
    refine⟨by rw[r2.length];exact hl.1,F,ρ,ds,ri.up e1.keep,yM hl.2 r2,(aV.bind.mp w2).imp fun ρ' _ w3 σ' H' F2 s2 r'=>w3 σ' H' F2 s2 r'⟩
   ·exact w2.elim
  cases r1 with
  | @tup a vs ds g1 g2=>
   obtain⟨k1,k2⟩:=key g2 w1
   exact .inl ⟨a,vs,rfl,iH.of (e1.sub _ _ g1),k1,k2⟩
  | @lst a vs ds g1 g2=>
   obtain⟨k1,k2⟩:=key g2 w1
   exact .inr ⟨a,vs,rfl,fz.of (e1.sub _ _ g1),k1,k2⟩
  |_=>exact w1.elim
end
section
variable {X:Cx} {e:Expr} {f:aq->R D} {pos:Pos}
end
end L2.Pu
namespace L2
open PySem PySem.Spec PyProof.Rows
def uH:List V->List V->Bool
 |[],[]=>true
 |x::xs,y::ys=>zj x y&&uH xs ys
 |_,_=>false
theorem uI:∀{xs ys:List V},xs.length≠ys.length->uH xs ys=false
 |[],[],h=>absurd rfl h
 |[],_::_,_=>rfl
 |_::_,[],_=>rfl
 |x::xs,y::ys,h=>by
  rw[uH,uI (fun z=>h (by rw[List.length_cons,List.length_cons,z])),Bool.and_false]
theorem uJ:∀{xs ys:List V},xs.length=ys.length->(List.range xs.length).all (fun j=>zj (xs.getD j .non) (ys.getD j .non))=uH xs ys
 |[],[],_=>rfl
 |x::xs,y::ys,h=>by
  have h':xs.length=ys.length:=by simpa using h
  rw[List.length_cons,List.range_succ_eq_map,List.all_cons,List.all_map,uH,<-uJ h']
  rfl
def FV (K:PySem.W.Frag):R2:=fun x y H Q=>∃p q xs ys,x= .ref p/\y= .ref q/\fz K H p xs/\fz K H q ys/\xs.all iy=true/\ys.all iy=true/\Q (.bl (uH xs ys)) H
theorem bg.getR {xs:List V} {us:List Value} (r:bg xs us):∀(j:Nat) (h:j<us.length),bJ (xs.getD j .non) us[j]:=by
 induction r with
 |nil=>intro j h;cases h
 |cons r t ih=>
  intro j h
  cases j with
  |zero=>exact r
  |succ j=>exact ih j (by simpa using h)
theorem uK {xs:List V} (h:xs.all iy=true) (j:Nat):iy (xs.getD j .non)=true:=by
 rw[List.getD_eq_getElem?_getD]
 cases e:xs[j]? with
 |none=>rfl
 |some x=>exact List.all_eq_true.mp h x (List.mem_of_getElem? e)
theorem FW {X:Cx} (hu:X.A.units+1<cLine):kG X (compareOp .Eq) (FV X.K):=by
 intro pins s σ H x y v u Q I rx ry h
 obtain⟨p,q,xs,ys,rfl,rfl,h1,h2,f1,f2,k⟩:=h
 cases rx
 cases ry
 obtain⟨its,r,pl,hz⟩:=I.list h1
 obtain⟨its2,r2,pl2,hz2⟩:=I.list h2
 have l1:=r.length
 have l2:=r2.length
 by_cases hl:its.length=its2.length
 ·refine SeqAt.eq_listAt (e:=fun j=>zj (xs.getD j .non) (ys.getD j .non)) pl.isList pl2.isList (by simpa using hl) (by omega) (fun j a b=> ?_) ⟨.bl _,H,I,rfl,?_⟩
  ·have a':j<its.length:=by simpa using a
   have b':j<its2.length:=by simpa using b
   simpa using zO (r.getR j a') (r2.getR j b') (uK f1 j) (uK f2 j)
  ·have hx:its.toArray.size=xs.length:=by simpa using l1.symm
   rw[hx,uJ (by omega)]
   exact k
 ·refine SeqAt.eq_list_lengthsAt pl.isList pl2.isList (by simpa using hl) (by omega) ⟨.bl false,H,I,rfl,?_⟩
  rw[uI (by omega)]at k
  exact k
section
variable {X:Cx} {tg:Expr}
end
end L2
namespace L2.Pu
open PySem PySem.Spec PyProof.Rows
variable {ly:List jn}
def B1:List D->List D->Bool
 |[],[]=>true
 |x::xs,y::ys=>FC x y&&B1 xs ys
 |_,_=>false
def yN (x y:D):Option D:=match x,y with
 | .lst a, .lst b=>if a.all jd=true/\b.all jd=true then some (.bl (B1 a b))else none
 |x,y=>jY x y
theorem Reps.eqs {K:PySem.W.Frag} {F:Hp}:∀{vs us:List V} {ds es:List D},Reps K F vs ds->Reps K F us es->ds.all jd=true->es.all jd=true->uH vs us=B1 ds es
 |_,_,_,_, .nil, .nil,_,_=>rfl
 |_,_,_,_, .nil, .cons _ _,_,_=>rfl
 |_,_,_,_, .cons _ _, .nil,_,_=>rfl
 |_,_,_,_, .cons r t, .cons r' t',h,h'=>by
  rw[List.all_cons,Bool.and_eq_true]at h h'
  rw[uH,B1,Ay r r' h.1 h'.1,Reps.eqs t t' h.2 h'.2]
theorem t4 {K:PySem.W.Frag}:jD K (fun x y H Q=>HH x y H Q\/FV K x y H Q) yN:=by
 intro v u x y d H F Q s rx ry h k
 unfold yN at h
 split at h
 ·split at h
  ·rename_i a b hf
   cases h
   obtain⟨p,vs,rfl,h1,h2⟩:=rx.lst s
   obtain⟨q,us,rfl,h3,h4⟩:=ry.lst s
   refine .inr ⟨p,q,vs,us,rfl,rfl,fz.of h1,fz.of h3,h2.flat hf.1,h4.flat hf.2,?_⟩
   rw[Reps.eqs h2 h4 hf.1 hf.2]
   exact k _ H F (cm.refl s) (.bl _)
  ·cases h
 ·exact .inl (cC v u x y d H F Q s rx ry h k)
theorem wk {X:Cx} (hu:X.A.units+1<cLine):kG X (compareOp .Eq) (fun x y H Q=>HH x y H Q\/FV X.K x y H Q):=dI.or (FW hu)
section
variable {X:Cx} {a b d:Expr} {fs:aq->R (List D)} {pos:Pos}
end
end L2.Pu
namespace L2
open PySem PySem.Spec PyProof.Rows
def Hs (K:PySem.W.Frag):R2:=fun x y H Q=>∃p q xs,x= .ref p/\y= .ref q/\iH K H p xs/\iH K H q []/\Q (.bl (!xs.isEmpty)) H
theorem FX {X:Cx} (hu:X.A.units+1<cLine):kG X (compareOp .NotEq) (Hs X.K):=by
 intro pins s σ H x y v u Q I rx ry h
 obtain⟨p,q,xs,rfl,rfl,h1,h2,k⟩:=h
 cases rx
 cases ry
 obtain⟨its,r,pl,hz⟩:=I.tuple h1
 obtain⟨its2,r2,pl2,hz2⟩:=I.tuple h2
 cases r2
 refine SeqAt.RcNeAt.tuples (e:=fun _=>true) pl pl2 (by omega) (fun j a b=>by simp at b) X.prog X.w X.xe (EP X pins σ Q) ⟨.bl _,H,I,rfl,?_⟩
 have l:=r.length
 cases xs with
 |nil=>
  cases its with
  |nil=>exact k
  |cons a b=>cases l
 |cons a b=>
  cases its with
  |nil=>cases l
  |cons c d=>simpa using k
end L2
namespace L2.Pu
open PySem PySem.Spec PyProof.Rows
variable {ly:List jn}
def Dd:D->D->Option D
 | .tup ds, .tup []=>some (.bl (!ds.isEmpty))
 |_,_=>none
theorem De {K:PySem.W.Frag}:jD K (Hs K) Dd:=by
 intro v u x y d H F Q s rx ry h k
 unfold Dd at h
 split at h
 ·rename_i ds
  cases h
  obtain⟨p,vs,rfl,h1,h2⟩:=rx.tup s
  obtain⟨q,us,rfl,h3,h4⟩:=ry.tup s
  cases h4
  refine⟨p,q,vs,rfl,rfl,iH.of h1,iH.of h3,?_⟩
  have l:=h2.length
  have e:vs.isEmpty=ds.isEmpty:=by
   cases vs<;>cases ds<;>first|rfl|cases l
  rw[e]
  exact k _ H F (cm.refl s) (.bl _)
 ·cases h
end L2.Pu
namespace L2.Pu
section
variable {α:Type} {P:List α->Prop}
theorem Jg (h:P []):∀us:List α,us.length=0->P us:=fun us e=>by
 rw[List.length_eq_zero_iff.mp e];exact h
theorem Ht {n:Nat} (h:∀a us,us.length=n->P (a::us)):∀us:List α,us.length=n+1->P us:=fun us e=>by
 cases us with
 |nil=>cases e
 |cons a us=>exact h a us (Nat.succ.inj e)
theorem Df (h:∀a,P [a]):∀us:List α,us.length=1->P us:=Ht fun a=>Jg (P:=fun us=>P (a::us)) (h a)
theorem qI (h:∀a b,P [a,b]):∀us:List α,us.length=2->P us:=Ht fun a=>Df (P:=fun us=>P (a::us)) (h a)
theorem B_ (h:∀a b c,P [a,b,c]):∀us:List α,us.length=3->P us:=Ht fun a=>qI (P:=fun us=>P (a::us)) (h a)
theorem HN (h:∀a b c d,P [a,b,c,d]):∀us:List α,us.length=4->P us:=Ht fun a=>B_ (P:=fun us=>P (a::us)) (h a)
theorem HP (h:∀a b c d e,P [a,b,c,d,e]):∀us:List α,us.length=5->P us:=Ht fun a=>HN (P:=fun us=>P (a::us)) (h a)
end
end L2.Pu
namespace My
open PySem PySem.Spec PyProof.Rows L2 L2.Pu
def j8 (i:Nat):Stmt:=PySem.Challenge.pw_tankbalance_k13_told.main.body.getD i (.Pass ⟨0,0,0,0⟩)
abbrev gY:List Str:=["tanks","streams","rises","readings"]
abbrev fX:Stmt:=j8 3
def iQ:aq->R bM:=
 aw (aY (f2 (cG false) (f2 bq (af 0) (fC (.int 1))) (af 1)) (gN 2))
  (aw (aY (f2 (cG false) (f2 bq (af 0) (fC (.int 2))) (af 1)) (gN 3))
  (aw (cF (fT (f2 jY (af 2) (af 3)))
  (aX (fC (.int 0)))
  (aJ))
  (aX (Ha (cp (af 3)) (fC (.int 1)) (f1 kR (fC (.int 1)))))))
def cj:List D->R D:=aZ 2 4 iQ
abbrev dO:Stmt:=j8 4
def ki:aq->R bM:=
 aw (aY (d5 p_ (aa (af 1) (ai))) (gN 3))
  (aX (d5 uo (aa (fL (eD ["streams","amounts","group","amount_by_number"] [(".0", .local),("stream", .local),("way_over", .globalImplicit),("amount_by_number", .free),("group", .free)] (cz (ao 0)) (gN 1) (jF) (f2 qQ (ax cj 2 (aa (ao 1) (aa (ao 4) (ai)))) (oi (af 3) (f2 bq (af 1) (fC (.int 0))) (fC (.int 0)))))) (ai))))
def db:List D->R D:=aZ 3 4 ki
abbrev gZ:Stmt:=j8 5
def rQ:aq->R bM:=
 aX (d5 uo (aa (fL (eD ["rises","group"] [(".0", .local),("tank", .local),("rises", .free)] (cz (ao 1)) (gN 1) (jF) (f2 bq (af 2) (f2 gM (af 1) (fC (.int 1)))))) (ai)))
def gm:List D->R D:=aZ 2 2 rQ
abbrev dP:Stmt:=j8 7
def ef:aq->R bM:=
 cF (fT (f2 jY (af 4) (af 1)))
  (jG 2 (cn (aa (ao 3) (aa (fC (.int 1)) (aa (ao 5) (ai))))))
  (cF (fT (f2 jY (af 5) (af 1)))
  (jG 2 (cn (aa (ao 3) (aa (f1 kR (fC (.int 1))) (aa (ao 4) (ai))))))
  (aJ))
def kj:aq->R bM:=
 aw (ie 2 (ai))
  (aw (gw (cz (ao 0)) (gC 3 (bi (gN 3) (bi (gN 4) (bi (gN 5) (gB))))) (ef))
  (oM [2] (aX (ao 2))))
def fu:List D->R D:=aZ 2 6 kj
abbrev cK:Stmt:=j8 8
def dA:aq->R bM:=
 cF (fT (f2 (cG true) (af 7) (af 2)))
  (aw (pT 2 (ao 7) (cn (aa (ao 4) (aa (cn (aa (ao 5) (aa (ao 6) (ai)))) (ai)))))
  (jG 3 (ao 7)))
  (aJ)
def dB:aq->R bM:=
 aw (As 4 3 (fC (.int 0)))
  (gw (cz (ax fu 2 (aa (ao 0) (aa (ao 4) (ai))))) (gC 3 (bi (gN 5) (bi (gN 6) (bi (gN 7) (gB))))) (dA))
def iw:aq->R bM:=
 aw (w6 2 [(ao 1,fC .non)])
  (aw (ie 3 (aa (ao 1) (ai)))
  (aw (cS (fT (f2 ui (d5 fc (aa (af 3) (ai))) (fC (.int 0)))) (dB) 100)
  (oM [2] (aX (ao 2)))))
def bX:List D->R D:=aZ 2 8 iw
abbrev dQ:Stmt:=j8 9
def fH:aq->R bM:=
 pT 3 (ao 6) (fC (.bl true))
def fI:aq->R bM:=
 cF (fT (f2 (cG true) (af 4) (af 3)))
  (aw (aY (d5 cV (aa (ax bX 2 (aa (ao 1) (aa (ao 4) (ai)))) (ai))) (gN 5))
  (aw (jG 2 (d5 dw (aa (af 5) (ai))))
  (gw (cz (ao 5)) (gN 6) (fH))))
  (aJ)
def kl:aq->R bM:=
 aw (ie 2 (ai))
  (aw (Ak 3)
  (aw (gw (cz (f2 c_ (ir (aa (fC (.int 0)) (ai))) (kg (aa (fC (.int 1)) (aa (f2 c_ (af 0) (fC (.int 1))) (ai)))))) (gN 4) (fI))
  (aX (d5 dw (aa (af 2) (ai))))))
def cA:List D->R D:=aZ 2 7 kl
abbrev g_:Stmt:=j8 10
def iR:aq->R bM:=
 aw (aY (f2 bq (af 3) (af 5)) (gN 6))
  (aw (jG 4 (f2 bq (af 6) (fC (.int 1))))
  (aY (f2 bq (af 6) (fC (.int 0))) (gN 5)))
def jQ:aq->R bM:=
 aw (aY (ax bX 2 (aa (ao 0) (aa (ao 1) (ai)))) (gN 3))
  (aw (cF (fT (f2 (cG true) (af 2) (af 3)))
  (aX (fC .non))
  (aJ))
  (aw (ie 4 (ai))
  (aw (aY (ao 2) (gN 5))
  (aw (cS (fT (f2 oZ (af 5) (af 1))) (iR) 100)
  (aX (sV (af 4)))))))
def hE:List D->R D:=aZ 3 7 jQ
abbrev dR:Stmt:=mO (j8 27) 1
def eh:aq->R bM:=
 cF (fT (f2 jY (f2 bq (af 2) (fC (.int 0))) (af 1)))
  (aX (ao 2))
  (aJ)
def iE:aq->R bM:=
 aw (gw (cz (dN "Day" "streams" (af 0))) (gN 2) (eh))
  (kW "UnknownStream" (aa (fC (.str "no stream of this day has that number")) (ai)))
def bL:List D->R D:=aZ 2 3 iE
abbrev dh:Stmt:=mO (j8 27) 2
def jt:aq->R bM:=
 aw (aY (dz "Day" "stream" 2 bL (ao 0) (aa (ao 1) (ai))) (gN 2))
  (aX (f2 (cG false) (f2 bq (af 2) (fC (.int 0))) (d5 p_ (aa (dN "Day" "readings" (af 0)) (ai)))))
def aU:List D->R D:=aZ 2 3 jt
abbrev bU:Stmt:=mO (j8 27) 4
def lJ:aq->R bM:=
 aX (d5 dw (aa (fL (eD ["self"] [(".0", .local),("stream", .local),("self", .free)] (cz (dN "Day" "streams" (af 0))) (gN 1) (eJ (cp (dz "Day" "metered" 2 aU (ao 2) (aa (f2 bq (af 1) (fC (.int 0))) (ai))))) (ao 1))) (ai)))
def bj:List D->R D:=aZ 1 1 lJ
abbrev bF:Stmt:=j8 12
def km:aq->R bM:=
 aX (d5 dw (aa (fL (eD ["day","number"] [(".0", .local),("stream", .local),("number", .free)] (cz (dz "Day" "without_meter" 1 bj (ao 0) ai)) (gN 1) (fT (f2 oZ (f2 bq (af 1) (fC (.int 0))) (af 2))) (ao 1))) (ai)))
def bd:List D->R D:=aZ 2 2 km
abbrev hG:Stmt:=j8 13
def yO:aq->R bM:=
 aw (cF (cp (dz "Day" "metered" 2 aU (ao 0) (aa (ao 1) (ai))))
  (aX (cn (ai)))
  (aJ))
  (aw (aY (dz "Day" "stream" 2 bL (ao 0) (aa (ao 1) (ai))) (gN 2))
  (aw (aY (ax hE 3 (aa (ax bd 2 (aa (ao 0) (aa (ao 1) (ai)))) (aa (f2 bq (af 2) (fC (.int 2))) (aa (f2 bq (af 2) (fC (.int 1))) (ai))))) (gN 3))
  (aw (cF (fT (f2 pU (af 3) (fC .non)))
  (aX (cn (ai)))
  (aJ))
  (aX (f2 c_ (cn (aa (cn (aa (ao 1) (aa (fC (.int 1)) (ai)))) (ai))) (af 3))))))
def gn:List D->R D:=aZ 2 4 yO
abbrev dS:Stmt:=j8 20
def eo:aq->R bM:=
 cF (fT (f2 (cG true) (fC (.int 0)) (af 2)))
  (aw (aY (ax gm 2 (aa (dN "Day" "rises" (af 0)) (aa (ao 2) (ai)))) (gN 3))
  (aw (aY (ax db 3 (aa (dN "Day" "streams" (af 0)) (aa (dN "Day" "readings" (af 0)) (aa (ao 2) (ai))))) (gN 4))
  (cF (fT (f2 oZ (af 3) (af 4)))
  (jG 1 (cn (aa (ao 2) (aa (ao 3) (aa (ao 4) (ai))))))
  (aJ))))
  (aJ)
def kn:aq->R bM:=
 aw (ie 1 (ai))
  (aw (gw (cz (ax cA 2 (aa (dN "Day" "tanks" (af 0)) (aa (dz "Day" "without_meter" 1 bj (ao 0) ai) (ai))))) (gN 2) (eo))
  (aX (d5 dw (aa (af 1) (ai)))))
def gH:List D->R D:=aZ 1 5 kn
abbrev cr:Stmt:=j8 21
def dC:aq->R bM:=
 cF (fT (f2 ui (d5 fc (aa (ax gH 1 (aa (ao 0) (ai))) (ai))) (fC (.int 0))))
  (kW "Clashing" (aa (fC (.str "the readings of this day clash")) (ai)))
  (aJ)
def cR:List D->R D:=aZ 1 1 dC
abbrev fY:Stmt:=j8 23
def dL:aq->R bM:=
 cF (oK (fT (f2 (cG true) (fC (.int 0)) (af 3))) (fT (f2 oZ (ax cj 2 (aa (ao 2) (aa (ao 3) (ai)))) (fC (.int 0)))))
  (aX (ao 3))
  (aJ)
def iS:aq->R bM:=
 aw (cF (cp (dz "Day" "metered" 2 aU (ao 0) (aa (ao 1) (ai))))
  (aX (cn (ai)))
  (aJ))
  (aw (aY (dz "Day" "stream" 2 bL (ao 0) (aa (ao 1) (ai))) (gN 2))
  (aw (gw (cz (ax cA 2 (aa (dN "Day" "tanks" (af 0)) (aa (ax bd 2 (aa (ao 0) (aa (ao 1) (ai)))) (ai))))) (gN 3) (dL))
  (aX (cn (ai)))))
def dU:List D->R D:=aZ 2 4 iS
abbrev di:Stmt:=j8 24
def ju:aq->R bM:=
 aw (aY (f2 gM (ax gm 2 (aa (dN "Day" "rises" (af 0)) (aa (ao 2) (ai)))) (ax db 3 (aa (dN "Day" "streams" (af 0)) (aa (dN "Day" "readings" (af 0)) (aa (ao 2) (ai)))))) (gN 3))
  (aX (f2 qQ (ax cj 2 (aa (dz "Day" "stream" 2 bL (ao 0) (aa (ao 1) (ai))) (aa (ao 2) (ai)))) (af 3)))
def eu:List D->R D:=aZ 3 4 ju
abbrev dj:Stmt:=mO (j8 27) 3
def jv:aq->R bM:=
 aw (cF (eJ (cp (dz "Day" "metered" 2 aU (ao 0) (aa (ao 1) (ai)))))
  (kW "NotMetered" (aa (fC (.str "the stream has no meter on this day")) (ai)))
  (aJ))
  (aX (f2 bq (d5 p_ (aa (dN "Day" "readings" (af 0)) (ai))) (af 1)))
def cQ:List D->R D:=aZ 2 2 jv
abbrev hJ:Stmt:=j8 25
def jR:aq->R bM:=
 aw (aY (dz "Day" "metered" 2 aU (ao 0) (aa (ao 1) (ai))) (gN 2))
  (aw (rP (ax cR 1 (aa (ao 0) (ai))))
  (aw (cF (cp (af 2))
  (aX (cn (aa (fC (.str "metered")) (aa (dz "Day" "reading" 2 cQ (ao 0) (aa (ao 1) (ai))) (aa (cn (ai)) (aa (cn (ai)) (ai)))))))
  (aJ))
  (aw (aY (ax dU 2 (aa (ao 0) (aa (ao 1) (ai)))) (gN 3))
  (aw (cF (fT (f2 ui (d5 fc (aa (af 3) (ai))) (fC (.int 0))))
  (aX (cn (aa (fC (.str "known")) (aa (ax eu 3 (aa (ao 0) (aa (ao 1) (aa (ao 3) (ai))))) (aa (ao 3) (aa (cn (ai)) (ai)))))))
  (aJ))
  (aX (cn (aa (fC (.str "open")) (aa (fC .non) (aa (cn (ai)) (aa (ax gn 2 (aa (ao 0) (aa (ao 1) (ai)))) (ai)))))))))))
def b_:List D->R D:=aZ 2 4 jR
abbrev eM:Stmt:=mO (j8 27) 0
def qh:aq->R bM:=
 aw (uB 0 (aY (ao 1) (gN 5)))
  (aw (uB 0 (aY (d5 dw (aa (d5 cV (aa (af 2) (ai))) (ai))) (gN 6)))
  (aw (uB 0 (aY (d5 dw (aa (af 3) (ai))) (gN 7)))
  (uB 0 (aY (d5 dw (aa (d5 cV (aa (af 4) (ai))) (ai))) (gN 8)))))
def oo:List (Str×Nat):=[("tanks",5),("streams",6),("rises",7),("readings",8)]
def cW:List D->R (List (Str×D)):=mZ 4 8 oo qh
abbrev iT:Stmt:=j8 29
def uL:aq->R bM:=
 aw (cF (fT (f2 He (af 1) (d5 fc (aa (af 0) (ai)))))
  (aX (f2 bq (af 0) (af 1)))
  (aJ))
  (aX (fC (.int 0)))
def fJ:List D->R D:=aZ 2 2 uL
abbrev fZ:Stmt:=j8 30
def my:aq->R bM:=
 aw (cF (fT (f2 jY (f2 fW (ax fJ 2 (aa (ao 0) (aa (fC (.int 0)) (ai)))) (fC (.int 2))) (fC (.int 0))))
  (aX (ax fJ 2 (aa (ao 0) (aa (ao 1) (ai)))))
  (aJ))
  (aw (aY (f2 fW (f2 qQ (f2 c_ (f2 c_ (f2 c_ (ax fJ 2 (aa (ao 0) (aa (ao 1) (ai)))) (f2 gP (ax fJ 2 (aa (ao 0) (aa (fC (.int 0)) (ai)))) (fC (.int 2)))) (f2 qQ (fC (.int 7919)) (af 1))) (fC (.int 1))) (fC (.int 48271))) (fC (.int 2147483647))) (gN 2))
  (aX (f2 fW (f2 qQ (f2 c_ (af 2) (af 1)) (fC (.int 69621))) (fC (.int 2147483647)))))
def aB:List D->R D:=aZ 2 3 my
abbrev eN:Stmt:=j8 31
def jg (rec_:List D->R D):aq->R bM:=
 cF (eJ (cp (ax rec_ 2 (aa (f2 bq (af 0) (af 2)) (aa (f2 bq (af 1) (af 2)) (ai))))))
  (aX (fC (.bl false)))
  (aJ)
def dW (rec_:List D->R D):aq->R bM:=
 aw (cF (cp (iN "tuple" (af 1)))
  (aw (cF (nS (eJ (cp (iN "tuple" (af 0)))) (fT (f2 oZ (d5 fc (aa (af 0) (ai))) (d5 fc (aa (af 1) (ai))))))
  (aX (fC (.bl false)))
  (aJ))
  (aw (gw (gD (aa (d5 fc (aa (af 1) (ai))) (ai))) (gN 2) (jg rec_))
  (aX (fC (.bl true)))))
  (aJ))
  (aw (cF (fT (f2 pU (af 1) (fC .non)))
  (aX (f2 pU (af 0) (fC .non)))
  (aJ))
  (aw (cF (cp (iN "str" (af 1)))
  (aX (kQ (iN "str" (af 0)) (f2 jY (af 0) (af 1))))
  (aJ))
  (aX (kQ (iN "int" (af 0)) (kQ (pQ (iN "bool" (af 0))) (f2 jY (af 0) (af 1)))))))
def cD:Nat->List D->R D
 |0=>fun _=> .bad
 |n+1=>aZ 2 3 (dW (cD n))
def ba:List D->R D:=cD 8
abbrev eO:Stmt:=j8 32
def kX:aq->R bM:=
 aX (kQ (iN "int" (af 0)) (pQ (iN "bool" (af 0))))
def c0:List D->R D:=aZ 1 1 kX
abbrev dk:Stmt:=j8 33
def gI:aq->R bM:=
 aw (aY (f2 c_ (f2 gM (f2 gM (fC (.int 61)) (af 4)) (af 2)) (af 5)) (gN 6))
  (aw (aY (ax aB 2 (aa (ao 0) (aa (f2 c_ (fC (.int 5)) (af 5)) (ai)))) (gN 7))
  (aw (aY (f2 fW (af 7) (af 6)) (gN 8))
  (aw (cF (fT (f2 jY (f2 fW (f2 gP (ax aB 2 (aa (ao 0) (aa (fC (.int 4)) (ai)))) (fC (.int 8))) (fC (.int 2))) (fC (.int 1))))
  (aY (f2 fW (af 8) (fC (.int 4))) (gN 8))
  (aJ))
  (aw (aY (f2 c_ (f2 c_ (af 4) (fC (.int 1))) (af 8)) (gN 4))
  (aw (aY (f2 fW (f2 gP (af 7) (af 6)) (f2 c_ (af 1) (fC (.int 1)))) (gN 9))
  (aw (aY (f2 fW (f2 c_ (f2 c_ (af 9) (fC (.int 1))) (f2 fW (f2 gP (f2 gP (af 7) (af 6)) (f2 c_ (af 1) (fC (.int 1)))) (af 1))) (f2 c_ (af 1) (fC (.int 1)))) (gN 10))
  (jG 3 (cn (aa (ao 4) (aa (ao 9) (aa (ao 10) (ai))))))))))))
def jw:aq->R bM:=
 aw (ie 3 (ai))
  (aw (aY (fC (.int 0)) (gN 4))
  (aw (gw (gD (aa (ao 2) (ai))) (gN 5) (gI))
  (oM [3] (aX (ao 3)))))
def fK:List D->R D:=aZ 3 11 jw
abbrev dm:Stmt:=j8 34
def dD:aq->R bM:=
 cF (oK (fT (f2 He (f2 fW (ax aB 2 (aa (ao 0) (aa (f2 c_ (fC (.int 17)) (af 4)) (ai)))) (fC (.int 4))) (af 2))) (fT (f2 He (d5 fc (aa (af 3) (ai))) (fC (.int 10)))))
  (jG 3 (f2 bq (f2 bq (af 1) (af 4)) (fC (.int 0))))
  (aJ)
def jx:aq->R bM:=
 aw (ie 3 (ai))
  (aw (gw (gD (aa (d5 fc (aa (af 1) (ai))) (ai))) (gN 4) (dD))
  (oM [3] (aX (ao 3))))
def fM:List D->R D:=aZ 3 5 jx
abbrev f_:Stmt:=j8 35
def mz:aq->R bM:=
 aw (aY (f1 kR (af 3)) (gN 4))
  (aw (aY (ao 3) (gN 5))
  (aw (cF (fT (f2 ui (af 1) (fC (.int 0))))
  (aw (aY (d5 yC (aa (af 4) (aa (f2 gM (f2 bq (af 0) (af 1)) (fC (.int 1000))) (ai)))) (gN 4))
  (aY (d5 yB (aa (af 5) (aa (f2 c_ (f2 bq (af 0) (af 1)) (fC (.int 1000))) (ai)))) (gN 5)))
  (aJ))
  (aw (cF (fT (f2 ui (af 2) (fC (.int 0))))
  (aw (aY (d5 yC (aa (af 4) (aa (f2 gM (f1 kR (fC (.int 1000))) (f2 bq (af 0) (af 2))) (ai)))) (gN 4))
  (aY (d5 yB (aa (af 5) (aa (f2 gM (fC (.int 1000)) (f2 bq (af 0) (af 2))) (ai)))) (gN 5)))
  (aJ))
  (aX (ir (aa (ao 4) (aa (ao 5) (ai))))))))
def iU:List D->R D:=aZ 4 6 mz
abbrev eP:Stmt:=j8 36
def iF:aq->R bM:=
 aw (aY (f2 bq (af 2) (af 7)) (gC 3 (bi (gN 8) (bi (gN 9) (bi (gN 10) (gB))))))
  (aw (B0 [5] (ax iU 4 (aa (ao 5) (aa (ao 9) (aa (ao 10) (aa (f2 bq (af 4) (d5 v_ (aa (f2 (cG false) (af 8) (af 3)) (ai)))) (ai)))))) 2 (bi (gN 11) (bi (gN 12) (gB))))
  (aw (aY (f2 c_ (af 11) (f2 fW (f2 bq (af 0) (af 7)) (f2 c_ (f2 gM (af 12) (af 11)) (fC (.int 1))))) (gN 13))
  (aw (pT 5 (ao 9) (f2 gM (f2 bq (af 5) (af 9)) (af 13)))
  (aw (pT 5 (ao 10) (f2 c_ (f2 bq (af 5) (af 10)) (af 13)))
  (jG 6 (cn (aa (ao 8) (aa (ao 13) (ai)))))))))
def kY:aq->R bM:=
 aw (AU 5 (f2 uG (ir (aa (fC (.int 0)) (ai))) (f2 c_ (af 1) (fC (.int 1)))))
  (aw (ie 6 (ai))
  (aw (gw (gD (aa (d5 fc (aa (af 2) (ai))) (ai))) (gN 7) (iF))
  (aX (ir (aa (d5 dw (aa (af 6) (ai))) (aa (d5 dw (aa (yE (af 5) (jL (fC (.int 1))) (jK)) (ai))) (ai)))))))
def ig:List D->R D:=aZ 5 14 kY
abbrev eQ:Stmt:=j8 37
def kZ:aq->R bM:=
 aw (oN 5 (eD ["_law_script","_law_n","_law_streams_here","_law_metered_here","_law_small","_law_figures"] [(".0", .local),("_law_k", .local),("_law_cell", .globalImplicit),("_law_script", .free)] (gD (aa (d5 fc (aa (af 2) (ai))) (ai))) (gN 1) (jF) (f2 gP (ax aB 2 (aa (ao 3) (aa (f2 c_ (fC (.int 17)) (af 1)) (ai)))) (fC (.int 4)))))
  (oM [5] (aX (ax ig 5 (aa (ao 5) (aa (ao 1) (aa (ao 2) (aa (ao 3) (aa (f2 bq (ir (aa (ir (aa (fC (.int 5000)) (aa (fC (.int 1000)) (ai)))) (aa (ir (aa (fC (.int 2)) (aa (fC (.int 2)) (ai)))) (ai)))) (af 4)) (ai)))))))))
def ii:List D->R D:=aZ 5 6 kZ
abbrev cX:Stmt:=j8 38
def d_:aq->R bM:=
 aw (aY (f2 bq (af 1) (af 6)) (gC 2 (bi (gN 7) (bi (gN 8) (gB)))))
  (aw (aY (ax aB 2 (aa (ao 0) (aa (f2 c_ (fC (.int 29)) (af 6)) (ai)))) (gN 9))
  (aw (cF (fT (f2 (cG true) (af 7) (af 2)))
  (yu)
  (aJ))
  (aw (cF (nS (fT (f2 jY (af 3) (fC (.int 3)))) (oK (fT (f2 jY (af 3) (fC (.int 1)))) (fT (f2 jY (f2 fW (af 9) (fC (.int 3))) (fC (.int 0))))))
  (aY (f2 bq (ir (aa (f2 gM (f2 fW (f2 gP (af 9) (fC (.int 3))) (fC (.int 2001))) (fC (.int 1000))) (aa (f2 gM (f2 fW (f2 gP (af 9) (fC (.int 3))) (fC (.int 5))) (fC (.int 2))) (ai)))) (af 4)) (gN 8))
  (aJ))
  (jG 5 (cn (aa (ao 7) (aa (ao 8) (ai))))))))
def iV:aq->R bM:=
 aw (ie 5 (ai))
  (aw (gw (gD (aa (d5 fc (aa (af 1) (ai))) (ai))) (gN 6) (d_))
  (oM [5] (aX (ao 5))))
def eR:List D->R D:=aZ 5 10 iV
abbrev eS:Stmt:=j8 39
def iG:aq->R bM:=
 aw (aY (ax aB 2 (aa (ao 0) (aa (f2 c_ (fC (.int 41)) (af 5)) (ai)))) (gN 6))
  (aw (aY (f2 bq (af 1) (af 5)) (gN 7))
  (aw (cF (nS (fT (f2 jY (af 2) (fC (.int 3)))) (oK (fT (f2 jY (af 2) (fC (.int 2)))) (fT (f2 jY (f2 fW (af 6) (fC (.int 3))) (fC (.int 0))))))
  (aY (f2 bq (ir (aa (f2 gM (f2 fW (f2 gP (af 6) (fC (.int 3))) (fC (.int 2001))) (fC (.int 1000))) (aa (f2 gM (f2 fW (f2 gP (af 6) (fC (.int 3))) (fC (.int 5))) (fC (.int 2))) (ai)))) (af 3)) (gN 7))
  (aJ))
  (jG 4 (ao 7))))
def k_:aq->R bM:=
 aw (ie 4 (ai))
  (aw (gw (gD (aa (d5 fc (aa (af 1) (ai))) (ai))) (gN 5) (iG))
  (oM [4] (aX (ao 4))))
def ij:List D->R D:=aZ 4 8 k_
abbrev gf:Stmt:=j8 40
def mB:aq->R bM:=
 aw (aY (f2 fW (ax aB 2 (aa (ao 0) (aa (fC (.int 1)) (ai)))) (fC (.int 8))) (gN 1))
  (aw (aY (fC (.int 0)) (gN 2))
  (aw (cF (fT (f2 ui (af 1) (fC (.int 0))))
  (aY (f2 fW (ax aB 2 (aa (ao 0) (aa (fC (.int 2)) (ai)))) (fC (.int 13))) (gN 2))
  (aJ))
  (aw (aY (f2 fW (ax aB 2 (aa (ao 0) (aa (fC (.int 4)) (ai)))) (fC (.int 4))) (gN 3))
  (aw (aY (f2 fW (f2 gP (ax aB 2 (aa (ao 0) (aa (fC (.int 4)) (ai)))) (fC (.int 4))) (fC (.int 2))) (gN 4))
  (aw (aY (ax fK 3 (aa (ao 0) (aa (ao 1) (aa (ao 2) (ai))))) (gN 5))
  (aw (aY (ax fM 3 (aa (ao 0) (aa (ao 5) (aa (f2 fW (ax aB 2 (aa (ao 0) (aa (fC (.int 3)) (ai)))) (fC (.int 5))) (ai))))) (gN 6))
  (aw (aY (ax ii 5 (aa (ao 0) (aa (ao 1) (aa (ao 5) (aa (ao 6) (aa (ao 4) (ai))))))) (gN 7))
  (aw (aY (ax eR 5 (aa (ao 0) (aa (f2 bq (af 7) (fC (.int 0))) (aa (ao 6) (aa (ao 3) (aa (ao 4) (ai))))))) (gN 8))
  (aw (aY (ax ij 4 (aa (ao 0) (aa (f2 bq (af 7) (fC (.int 1))) (aa (ao 3) (aa (ao 4) (ai)))))) (gN 9))
  (aX (cn (aa (ao 1) (aa (d5 dw (aa (af 5) (ai))) (aa (d5 dw (aa (af 9) (ai))) (aa (d5 dw (aa (af 8) (ai))) (ai))))))))))))))))
def iW:List D->R D:=aZ 1 10 mB
abbrev hU:Stmt:=j8 41
def n_:aq->R bM:=
 aw (aY (f2 fW (ax aB 2 (aa (ao 0) (aa (fC (.int 48)) (ai)))) (fC (.int 4))) (gN 2))
  (aw (cF (fT (f2 jY (af 2) (fC (.int 0))))
  (aX (qb "Day" 4 cW (aa (f2 bq (af 1) (fC (.int 0))) (aa (d5 mT (aa (f2 bq (af 1) (fC (.int 1))) (ai))) (aa (d5 mT (aa (f2 bq (af 1) (fC (.int 2))) (ai))) (aa (d5 mT (aa (f2 bq (af 1) (fC (.int 3))) (ai))) (ai)))))))
  (aJ))
  (aw (cF (fT (f2 jY (af 2) (fC (.int 1))))
  (aX (qb "Day" 4 cW (aa (f2 bq (af 1) (fC (.int 0))) (aa (CU (d5 mT (aa (f2 bq (af 1) (fC (.int 1))) (ai)))) (aa (d5 mT (aa (f2 bq (af 1) (fC (.int 2))) (ai))) (aa (CU (d5 mT (aa (f2 bq (af 1) (fC (.int 3))) (ai)))) (ai)))))))
  (aJ))
  (aw (cF (fT (f2 jY (af 2) (fC (.int 2))))
  (aX (qb "Day" 4 cW (aa (f2 bq (af 1) (fC (.int 0))) (aa (f2 bq (af 1) (fC (.int 1))) (aa (f2 bq (af 1) (fC (.int 2))) (aa (f2 bq (af 1) (fC (.int 3))) (ai)))))))
  (aJ))
  (aw (aY (f2 gP (d5 fc (aa (f2 bq (af 1) (fC (.int 1))) (ai))) (fC (.int 2))) (gN 3))
  (aw (aY (f2 gP (d5 fc (aa (f2 bq (af 1) (fC (.int 3))) (ai))) (fC (.int 2))) (gN 4))
  (aX (qb "Day" 4 cW (aa (f2 bq (af 1) (fC (.int 0))) (aa (f2 c_ (yE (f2 bq (af 1) (fC (.int 1))) (jL (ao 3)) (jK)) (yE (f2 bq (af 1) (fC (.int 1))) (jK) (jL (ao 3)))) (aa (f2 bq (af 1) (fC (.int 2))) (aa (f2 c_ (yE (f2 bq (af 1) (fC (.int 3))) (jL (ao 4)) (jK)) (yE (f2 bq (af 1) (fC (.int 3))) (jK) (jL (ao 4)))) (ai))))))))))))
def jS:List D->R D:=aZ 2 5 n_
abbrev gg:Stmt:=j8 42
def mC:aq->R bM:=
 aw (cF (nS (eJ (cp (ax ba 2 (aa (dN "Day" "tanks" (af 0)) (aa (f2 bq (af 1) (fC (.int 0))) (ai)))))) (eJ (cp (ax ba 2 (aa (dN "Day" "streams" (af 0)) (aa (f2 bq (af 1) (fC (.int 1))) (ai)))))))
  (aX (fC (.bl false)))
  (aJ))
  (aX (kQ (ax ba 2 (aa (dN "Day" "rises" (af 0)) (aa (f2 bq (af 1) (fC (.int 2))) (ai)))) (ax ba 2 (aa (dN "Day" "readings" (af 0)) (aa (f2 bq (af 1) (fC (.int 3))) (ai))))))
def iX:List D->R D:=aZ 2 2 mC
abbrev eU:Stmt:=j8 43
def la:aq->R bM:=
 aw (oN 1 (eD ["_law_case_here","_law_read"] [(".0", .local),("_law_row", .local)] (cz (f2 bq (af 0) (fC (.int 3)))) (gN 1) (jF) (f2 bq (af 1) (fC (.int 0)))))
  (aX (fL (eD ["_law_case_here","_law_read"] [(".0", .local),("_law_stream", .local),("_law_read", .free)] (cz (f2 bq (af 0) (fC (.int 1)))) (gN 1) (fT (f2 (cG true) (f2 bq (af 1) (fC (.int 0))) (af 2))) (ao 1))))
def bP:List D->R D:=aZ 1 2 la
abbrev eV:Stmt:=j8 44
def dX:aq->R bM:=
 aw (cF (oK (fT (f2 (cG false) (af 5) (af 2))) (fT (f2 (cG true) (af 6) (af 2))))
  (aw (jG 2 (ao 6))
  (aY (fC (.bl true)) (gN 3)))
  (aJ))
  (cF (oK (fT (f2 (cG false) (af 6) (af 2))) (fT (f2 (cG true) (af 5) (af 2))))
  (aw (jG 2 (ao 5))
  (aY (fC (.bl true)) (gN 3)))
  (aJ))
def gJ:aq->R bM:=
 aw (aY (fC (.bl false)) (gN 3))
  (gw (cz (ao 0)) (gC 3 (bi (gN 4) (bi (gN 5) (bi (gN 6) (gB))))) (dX))
def lb:aq->R bM:=
 aw (ie 2 (aa (ao 1) (ai)))
  (aw (aY (fC (.bl true)) (gN 3))
  (aw (cS (cp (af 3)) (gJ) 100)
  (oM [2] (aX (ao 2)))))
def dc:List D->R D:=aZ 2 7 lb
abbrev hV:Stmt:=j8 45
def ko:aq->R bM:=
 aw (cF (fT (f2 jY (af 8) (af 5)))
  (aY (f2 c_ (af 3) (oi (af 4) (ao 6) (fC (.int 0)))) (gN 3))
  (aJ))
  (cF (fT (f2 jY (af 7) (af 5)))
  (aY (f2 gM (af 3) (oi (af 4) (ao 6) (fC (.int 0)))) (gN 3))
  (aJ))
def kq:aq->R bM:=
 gw (cz (ao 0)) (gC 3 (bi (gN 6) (bi (gN 7) (bi (gN 8) (gB))))) (ko)
def o0:aq->R bM:=
 aw (aY (fC (.int 0)) (gN 3))
  (aw (aY (d5 p_ (aa (af 1) (ai))) (gN 4))
  (aw (gw (cz (ao 2)) (gN 5) (kq))
  (aX (ao 3))))
def eA:List D->R D:=aZ 3 9 o0
abbrev ck:Stmt:=j8 46
def cY:aq->R bM:=
 aw (aY (d5 cV (aa (ax dc 2 (aa (ao 2) (aa (ao 3) (ai)))) (ai))) (gN 4))
  (aw (cF (fT (f2 oZ (f2 bq (af 4) (fC (.int 0))) (af 3)))
  (yu)
  (aJ))
  (aw (aY (d5 uo (aa (fL (eD ["_law_case_here","_law_found","_law_loose_here","_law_tank","_law_group","_law_rise","_law_came"] [(".0", .local),("_law_one", .local),("_law_case_here", .free)] (cz (ao 4)) (gN 1) (jF) (f2 bq (f2 bq (af 2) (fC (.int 2))) (f2 gM (af 1) (fC (.int 1)))))) (ai))) (gN 5))
  (aw (aY (ax eA 3 (aa (f2 bq (af 0) (fC (.int 1))) (aa (f2 bq (af 0) (fC (.int 3))) (aa (ao 4) (ai))))) (gN 6))
  (cF (fT (f2 oZ (af 5) (af 6)))
  (jG 1 (cn (aa (d5 dw (aa (af 4) (ai))) (aa (ao 5) (aa (ao 6) (ai))))))
  (aJ)))))
def gK:aq->R bM:=
 aw (ie 1 (ai))
  (aw (aY (ax bP 1 (aa (ao 0) (ai))) (gN 2))
  (aw (gw (jc (aa (fC (.int 1)) (aa (f2 c_ (f2 bq (af 0) (fC (.int 0))) (fC (.int 1))) (ai)))) (gN 3) (cY))
  (aX (d5 dw (aa (af 1) (ai))))))
def de:List D->R D:=aZ 1 7 gK
abbrev cZ:Stmt:=j8 47
def fR:aq->R bM:=
 aw (cF (nS (eJ (cp (ax c0 1 (aa (ao 3) (ai))))) (nS (fT (f2 IF (af 3) (af 2))) (fT (f2 ui (af 3) (af 1)))))
  (aX (fC (.bl false)))
  (aJ))
  (aY (ao 3) (gN 2))
def iY:aq->R bM:=
 aw (cF (nS (eJ (cp (iN "tuple" (af 0)))) (fT (f2 jY (d5 fc (aa (af 0) (ai))) (fC (.int 0)))))
  (aX (fC (.bl false)))
  (aJ))
  (aw (aY (fC (.int 0)) (gN 2))
  (aw (gw (cz (ao 0)) (gN 3) (fR))
  (aX (fC (.bl true)))))
def eW:List D->R D:=aZ 2 4 iY
abbrev gj:Stmt:=j8 48
def mD:aq->R bM:=
 aX (f2 gM (d5 v_ (aa (f2 (cG false) (f2 bq (af 0) (fC (.int 2))) (af 1)) (ai))) (d5 v_ (aa (f2 (cG false) (f2 bq (af 0) (fC (.int 1))) (af 1)) (ai))))
def hW:List D->R D:=aZ 2 2 mD
abbrev dY:Stmt:=j8 49
def i5:aq->R bM:=
 pT 4 (ao 5) (cn (aa (ao 6) (aa (ao 7) (ai))))
def i6:aq->R bM:=
 aw (cF (nS (eJ (cp (iN "tuple" (af 9)))) (nS (fT (f2 oZ (d5 fc (aa (af 9) (ai))) (fC (.int 2)))) (nS (eJ (cp (ax c0 1 (aa (f2 bq (af 9) (fC (.int 0))) (ai))))) (eJ (cp (ax c0 1 (aa (f2 bq (af 9) (fC (.int 1))) (ai))))))))
  (aX (fC (.bl false)))
  (aJ))
  (aw (cF (nS (fT (f2 (cG true) (f2 bq (af 9) (fC (.int 0))) (af 4))) (fT (f2 (cG true) (f2 bq (af 9) (fC (.int 1))) (cn (aa (fC (.int 1)) (aa (f1 kR (fC (.int 1))) (ai)))))))
  (aX (fC (.bl false)))
  (aJ))
  (aw (aY (f2 bq (af 4) (f2 bq (af 9) (fC (.int 0)))) (gC 2 (bi (gN 6) (bi (gN 7) (gB)))))
  (aw (cF (fT (f2 jY (f2 bq (af 9) (fC (.int 1))) (f1 kR (fC (.int 1)))))
  (Ft 6 7 (aa (ao 7) (aa (ao 6) (ai))))
  (aJ))
  (aw (cF (nS (fT (f2 oZ (af 6) (f2 bq (af 8) (f1 kR (fC (.int 1)))))) (fT (f2 (cG false) (af 7) (af 8))))
  (aX (fC (.bl false)))
  (aJ))
  (jG 8 (ao 7))))))
def kr:aq->R bM:=
 aw (cF (eJ (cp (iN "tuple" (af 1))))
  (aX (fC (.bl false)))
  (aJ))
  (aw (Ak 4)
  (aw (gw (cz (ao 0)) (gC 3 (bi (gN 5) (bi (gN 6) (bi (gN 7) (gB))))) (i5))
  (aw (ie 8 (aa (ao 2) (ai)))
  (aw (gw (cz (ao 1)) (gN 9) (i6))
  (aX (f2 jY (f2 bq (af 8) (f1 kR (fC (.int 1)))) (af 3)))))))
def gL:List D->R D:=aZ 4 10 kr
abbrev dn:Stmt:=j8 50
def jy:aq->R bM:=
 aw (cF (nS (eJ (cp (iN "tuple" (af 2)))) (nS (fT (f2 jY (d5 fc (aa (af 2) (ai))) (fC (.int 0)))) (eJ (cp (ax ba 2 (aa (f2 bq (af 2) (fC (.int 0))) (aa (cn (aa (f2 bq (af 1) (fC (.int 0))) (aa (fC (.int 1)) (ai)))) (ai))))))))
  (aX (fC (.bl false)))
  (aJ))
  (aw (oN 3 (eD ["_law_case_here","_law_stream","_law_ring","_law_others"] [(".0", .local),("_law_one", .local),("_law_stream", .free)] (cz (ax bP 1 (aa (ao 0) (ai)))) (gN 1) (fT (f2 oZ (f2 bq (af 1) (fC (.int 0))) (f2 bq (af 2) (fC (.int 0))))) (ao 1)))
  (oM [3] (aX (ax gL 4 (aa (ao 3) (aa (yE (af 2) (jL (fC (.int 1))) (jK)) (aa (f2 bq (af 1) (fC (.int 2))) (aa (f2 bq (af 1) (fC (.int 1))) (ai)))))))))
def eB:List D->R D:=aZ 3 4 jy
abbrev cu:Stmt:=j8 51
def hX:aq->R bM:=
 aw (cF (eJ (cp (ax eW 2 (aa (ao 2) (aa (f2 bq (af 0) (fC (.int 0))) (ai))))))
  (aX (fC (.bl false)))
  (aJ))
  (aX (f2 yN (fL (eD ["_law_case_here","_law_number","_law_group"] [(".0", .local),("_law_stream", .local),("_law_into", .globalImplicit),("_law_group", .free)] (cz (ax bP 1 (aa (ao 0) (ai)))) (gN 1) (fT (f2 oZ (ax hW 2 (aa (ao 1) (aa (ao 3) (ai)))) (fC (.int 0)))) (f2 bq (af 1) (fC (.int 0))))) (ir (aa (ao 1) (ai)))))
def dE:List D->R D:=aZ 3 3 hX
abbrev cw:Stmt:=j8 52
def cy:aq->R bM:=
 aw (cF (nS (eJ (cp (iN "tuple" (af 2)))) (fT (f2 oZ (d5 fc (aa (af 2) (ai))) (fC (.int 4)))))
  (aX (fC (.bl false)))
  (aJ))
  (aw (aY (d5 p_ (aa (f2 bq (af 0) (fC (.int 3))) (ai))) (gN 3))
  (aw (cF (fT (f2 (cG false) (f2 bq (af 1) (fC (.int 0))) (af 3)))
  (aX (ax ba 2 (aa (ao 2) (aa (cn (aa (fC (.str "metered")) (aa (f2 bq (af 3) (f2 bq (af 1) (fC (.int 0)))) (aa (cn (ai)) (aa (cn (ai)) (ai)))))) (ai)))))
  (aJ))
  (aw (oN 4 (eD ["_law_case_here","_law_stream","_law_found","_law_read","_law_others","_law_rise"] [(".0", .local),("_law_one", .local),("_law_stream", .free)] (cz (ax bP 1 (aa (ao 0) (ai)))) (gN 1) (fT (f2 oZ (f2 bq (af 1) (fC (.int 0))) (f2 bq (af 2) (fC (.int 0))))) (ao 1)))
  (aw (oM [4] (cF (fT (f2 (cG false) (f2 bq (af 1) (fC (.int 2))) (ax dc 2 (aa (ao 4) (aa (f2 bq (af 1) (fC (.int 1))) (ai))))))
  (aw (cF (eJ (cp (ax ba 2 (aa (yE (af 2) (jK) (jL (fC (.int 3)))) (aa (cn (aa (fC (.str "open")) (aa (fC .non) (aa (cn (ai)) (ai))))) (ai))))))
  (aX (fC (.bl false)))
  (aJ))
  (aX (ax eB 3 (aa (ao 0) (aa (ao 1) (aa (f2 bq (af 2) (fC (.int 3))) (ai)))))))
  (aJ)))
  (aw (cF (nS (eJ (cp (ax ba 2 (aa (f2 bq (af 2) (fC (.int 0))) (aa (fC (.str "known")) (ai)))))) (eJ (cp (ax ba 2 (aa (f2 bq (af 2) (fC (.int 3))) (aa (cn (ai)) (ai)))))))
  (aX (fC (.bl false)))
  (aJ))
  (aw (cF (nS (eJ (cp (ax dE 3 (aa (ao 0) (aa (f2 bq (af 1) (fC (.int 0))) (aa (f2 bq (af 2) (fC (.int 2))) (ai))))))) (eJ (cp (ax c0 1 (aa (f2 bq (af 2) (fC (.int 1))) (ai))))))
  (aX (fC (.bl false)))
  (aJ))
  (aw (aY (d5 uo (aa (fL (eD ["_law_case_here","_law_stream","_law_found","_law_read","_law_others","_law_rise"] [(".0", .local),("_law_tank", .local),("_law_case_here", .free)] (cz (f2 bq (af 2) (fC (.int 2)))) (gN 1) (jF) (f2 bq (f2 bq (af 2) (fC (.int 2))) (f2 gM (af 1) (fC (.int 1)))))) (ai))) (gN 5))
  (aX (f2 jY (ax eA 3 (aa (f2 bq (af 0) (fC (.int 1))) (aa (f2 c_ (f2 bq (af 0) (fC (.int 3))) (cn (aa (cn (aa (f2 bq (af 1) (fC (.int 0))) (aa (f2 bq (af 2) (fC (.int 1))) (ai)))) (ai)))) (aa (f2 bq (af 2) (fC (.int 2))) (ai))))) (af 5))))))))))
def bS:List D->R D:=aZ 3 6 cy
abbrev eX:Stmt:=j8 53
def eY:aq->R bM:=
 aw (ie 2 (ai))
  (aw (yJ 3 (AW ["UnknownStream","NotMetered","Clashing"])
  (aX (ir (aa (ax b_ 2 (aa (ao 0) (aa (ao 1) (ai)))) (aa (fC (.str "")) (ai)))))
  (ie 2 (aa (wd (qS [("UnknownStream",false),("NotMetered",false),("Clashing",true)]) (af 3)) (aa (wd (qS [("UnknownStream",true),("NotMetered",false),("Clashing",false)]) (af 3)) (aa (wd (qS [("UnknownStream",true),("NotMetered",true),("Clashing",true)]) (af 3)) (ai))))))
  (aw (aY (fC (.str "another")) (gN 4))
  (aw (cF (fT (f2 yN (af 2) (ir (aa (fC (.bl true)) (aa (fC (.bl false)) (aa (fC (.bl true)) (ai)))))))
  (aY (fC (.str "Clashing")) (gN 4))
  (aJ))
  (aw (cF (fT (f2 yN (af 2) (ir (aa (fC (.bl false)) (aa (fC (.bl true)) (aa (fC (.bl true)) (ai)))))))
  (aY (fC (.str "UnknownStream")) (gN 4))
  (aJ))
  (aX (ir (aa (fC .non) (aa (ao 4) (ai)))))))))
def cE:List D->R D:=aZ 2 5 eY
abbrev lP:Stmt:=j8 54
def t5:aq->R bM:=
 aw (aY (ax cE 2 (aa (ao 2) (aa (f2 bq (af 4) (fC (.int 0))) (ai)))) (gN 5))
  (aw (cF (fT (f2 oZ (f2 bq (af 5) (fC (.int 1))) (f2 bq (ir (aa (fC (.str "")) (aa (fC (.str "Clashing")) (ai)))) (d5 v_ (aa (af 3) (ai))))))
  (aX (fC (.bl false)))
  (aJ))
  (cF (oK (eJ (cp (af 3))) (eJ (cp (ax bS 3 (aa (ao 1) (aa (ao 4) (aa (f2 bq (af 5) (fC (.int 0))) (ai))))))))
  (aX (fC (.bl false)))
  (aJ)))
def B2:aq->R bM:=
 aw (aY (ax iW 1 (aa (ao 0) (ai))) (gN 1))
  (aw (aY (ax jS 2 (aa (ao 0) (aa (ao 1) (ai)))) (gN 2))
  (aw (aY (f2 Dd (ax de 1 (aa (ao 1) (ai))) (cn (ai))) (gN 3))
  (aw (gw (cz (f2 bq (af 1) (fC (.int 1)))) (gN 4) (t5))
  (aw (oN 6 (eD ["_law_script","_law_case_here","_law_day_here","_law_clash","_law_stream","_law_found","_law_others"] [(".0", .local),("_law_number", .local),("_law_case_here", .free)] (jc (aa (f1 kR (fC (.int 2))) (aa (fC (.int 64)) (ai)))) (gN 1) (fT (f2 (cG true) (af 1) (fL (eD [".0","_law_number","_law_case_here"] [(".0", .local),("_law_stream", .local)] (cz (f2 bq (af 2) (fC (.int 1)))) (gN 1) (jF) (f2 bq (af 1) (fC (.int 0))))))) (ao 1)))
  (aw (aY (ax cE 2 (aa (ao 2) (aa (f2 bq (af 6) (f2 fW (ax aB 2 (aa (ao 0) (aa (fC (.int 49)) (ai)))) (d5 fc (aa (af 6) (ai))))) (ai)))) (gN 5))
  (aX (kQ (f2 jY (f2 bq (af 5) (fC (.int 1))) (fC (.str "UnknownStream"))) (ax iX 2 (aa (ao 2) (aa (ao 1) (ai)))))))))))
def rR:List D->R D:=aZ 1 7 B2
end My
namespace My
open PySem PySem.Spec PyProof.Rows L2 L2.Pu
section
variable {P:Program} {w:World} {K:PySem.W.Frag} {mg:Str->Option Value} {base:Heap}
abbrev BN:List Str:=["ValueError","bool","dict","int","isinstance","len","list","max","min","range","reversed","sorted","str","sum","tuple"]
theorem oq:aI ["stream","group","source_within","target_within"] ["stream","group"] (ah fX):=⟨rfl,rfl,rfl,by decide+kernel,rfl,by decide+kernel,by decide+kernel⟩
theorem uM (A:aP K mg "way_over" fX ["stream","group"]) (B:Bl mg BN):aE P w K mg base 1 "way_over" 2 cj:=by
 refine bc A oq rfl rfl fun f cdv A outer s H E hr=> ?_
 have hu:=bT hr
 have S:=oq
 exact ag (aW 2 S.nd (yz hu (PQ.bo (aS hu (ae 0) (PQ.bo (ak)))) (ae 1)))
     (ag (aW 3 S.nd (yz hu (PQ.bo (aS hu (ae 0) (PQ.bo (ak)))) (ae 1)))
     (ag (ce (bG dI cC (ae 2) (ae 3))
     (ar (aR (ak)))
     (aQ))
     (ar (aR (CS (d4 (ae 3)) (ak) (sJ jl iC (PQ.bo (ak))))))))
theorem lQ:aI ["streams","amounts","group","amount_by_number"] ["streams","amounts","group"] (ah dO):=⟨rfl,rfl,rfl,by decide+kernel,rfl,by decide+kernel,by decide+kernel⟩
theorem qT (A:aP K mg "brought_by" dO ["streams","amounts","group"]) (B:Bl mg BN) (G_way_over:aE P w K mg base 1 "way_over" 2 cj):aE P w K mg base 2 "brought_by" 3 db:=by
 refine bc A lQ rfl rfl fun f cdv A outer s H E hr=> ?_
 have hu:=bT hr
 have S:=lQ
 exact ag (aW 3 S.nd (bn (ic rfl) kT (B.no "dict" (by decide)) L2.Pu.jM (aA (ae 1) (aO))))
     (ar (aR (bz (lr rfl) o_ (B.no "sum" (by decide)) L2.Pu.lx (aA (PQ.bo (ke (bR.of rfl (by first|decide+kernel|rfl)) rfl (dJ (al 0)) (fun _ _ _=>a_ 1 (show ([".0","stream","way_over","amount_by_number","group"]:List Str).Nodup by decide+kernel)) (fun _ _ _=>me) (fun _ _ _=>aK lw mS (PQ.bo (bE G_way_over (hr.mono (by decide)) (ac (al 1) (ac (al 4) (aj))))) (PQ.bo (w5 hu (ae 3) (aS hu (ae 1) (PQ.bo (ak))) (ak)))))) (aO)))))
theorem qi:aI ["rises","group"] ["rises","group"] (ah gZ):=⟨rfl,rfl,rfl,by decide+kernel,rfl,by decide+kernel,by decide+kernel⟩
theorem wl (A:aP K mg "rise_of" gZ ["rises","group"]) (B:Bl mg BN):aE P w K mg base 1 "rise_of" 2 gm:=by
 refine bc A qi rfl rfl fun f cdv A outer s H E hr=> ?_
 have hu:=bT hr
 have S:=qi
 exact ar (aR (bz (lr rfl) o_ (B.no "sum" (by decide)) L2.Pu.lx (aA (PQ.bo (ke (bR.of rfl (by first|decide+kernel|rfl)) rfl (dJ (al 1)) (fun _ _ _=>a_ 1 (show ([".0","tank","rises"]:List Str).Nodup by decide+kernel)) (fun _ _ _=>me) (fun _ _ _=>aS hu (ae 2) (PQ.bo (aK eG da (ae 1) (PQ.bo (ak))))))) (aO))))
theorem lR:aI ["streams","place","steps","number","source","target"] ["streams","place"] (ah dP):=⟨rfl,rfl,rfl,by decide+kernel,rfl,by decide+kernel,by decide+kernel⟩
theorem qU (A:aP K mg "steps_from" dP ["streams","place"]) (B:Bl mg BN):aE P w K mg base 1 "steps_from" 2 fu:=by
 refine bc A lR rfl rfl fun f cdv A outer s H E hr=> ?_
 have hu:=bT hr
 have S:=lR
 exact ag (fV 2 S.nd (aj))
     (ag (fG PassesOwn.leaving rfl (dJ (al 0)) (oh rfl (cb (a_ 3 S.nd) (cb (a_ 4 S.nd) (cb (a_ 5 S.nd) (kd)))))
     (ar (ce (bG dI cC (ae 4) (ae 1))
     (ar (cT 2 (cB (ac (al 3) (ac (ak) (ac (al 5) (aj)))))))
     (ar (ce (bG dI cC (ae 5) (ae 1))
     (ar (cT 2 (cB (ac (al 3) (ac (sJ jl iC (PQ.bo (ak))) (ac (al 4) (aj)))))))
     (aQ))))))
     (ar (lM [2] (aR (al 2)))))
theorem jT:aI ["streams","start","arrivals","waiting","place","number","direction","end"] ["streams","start"] (ah cK):=⟨rfl,rfl,rfl,by decide+kernel,rfl,by decide+kernel,by decide+kernel⟩
theorem o1 (A:aP K mg "arrivals_from" cK ["streams","start"]) (B:Bl mg BN) (G_steps_from:aE P w K mg base 1 "steps_from" 2 fu):aE P w K mg base 2 "arrivals_from" 2 bX:=by
 refine bc A jT rfl rfl fun f cdv A outer s H E hr=> ?_
 have hu:=bT hr
 have S:=jT
 exact ag (CW 2 S.nd (.cons (al 1) (o9) (CV.nil)) (by simp) (by decide))
     (ag (fV 3 S.nd (ac (al 1) (aj)))
     (ag (sK 100 PassesOwn.leaving (bG pe mj (PQ.bo (bz bN cH (B.no "len" (by decide)) PySem.boot_len (aA (ae 3) (aO)))) (PQ.bo (ak)))
     (ag (Hd 4 3 S.nd (ak))
     (ar (fG PassesOwn.leaving rfl (dJ (bE G_steps_from (hr.mono (by decide)) (ac (al 0) (ac (al 4) (aj))))) (oh rfl (cb (a_ 5 S.nd) (cb (a_ 6 S.nd) (cb (a_ 7 S.nd) (kd)))))
     (ar (ce (fQ hu (ae 7) (ae 2))
     (ag (uh 2 hu (al 7) (cB (ac (al 4) (ac (cB (ac (al 5) (ac (al 6) (aj)))) (aj)))))
     (ar (cT 3 (al 7))))
     (aQ)))))))
     (ar (lM [2] (aR (al 2))))))
theorem lS:aI ["tanks","streams","bunches","placed","place","bunch","member"] ["tanks","streams"] (ah dQ):=⟨rfl,rfl,rfl,by decide+kernel,rfl,by decide+kernel,by decide+kernel⟩
theorem qV (A:aP K mg "bunches_of" dQ ["tanks","streams"]) (B:Bl mg BN) (G_arrivals_from:aE P w K mg base 2 "arrivals_from" 2 bX) {t_OUTSIDE:Tok} (gl_OUTSIDE:mg "OUTSIDE"=some (.int 0 t_OUTSIDE)):aE P w K mg base 3 "bunches_of" 2 cA:=by
 refine bc A lS rfl rfl fun f cdv A outer s H E hr=> ?_
 have hu:=bT hr
 have S:=lS
 exact ag (fV 2 S.nd (aj))
     (ag (Al 3 S.nd)
     (ag (fG PassesOwn.leaving rfl (dJ (aK bH bI (PQ.bo (iL (ac (sI rfl gl_OUTSIDE) (aj)))) (PQ.bo (uA rfl (B.no "list" (by decide)) (B.no "range" (by decide)) (ac (ak) (ac (aK bH bI (ae 0) (PQ.bo (ak))) (aj))))))) (a_ 4 S.nd)
     (ar (ce (fQ hu (ae 4) (ae 3))
     (ag (aW 5 S.nd (bz (iD rfl) jf (B.no "sorted" (by decide)) L2.Pu.je (aA (PQ.bo (bE G_arrivals_from (hr.mono (by decide)) (ac (al 1) (ac (al 4) (aj))))) (aO))))
     (ag (cT 2 (bn bv cq (B.no "tuple" (by decide)) L2.Pu.bu (aA (ae 5) (aO))))
     (ar (fG PassesOwn.leaving rfl (dJ (al 5)) (a_ 6 S.nd)
     (ar (uh 3 hu (al 6) (gu)))))))
     (aQ))))
     (ar (aR (bn bv cq (B.no "tuple" (by decide)) L2.Pu.bu (aA (ae 2) (aO)))))))
theorem qj:aI ["streams","start","goal","arrivals","steps","place","arrival"] ["streams","start","goal"] (ah g_):=⟨rfl,rfl,rfl,by decide+kernel,rfl,by decide+kernel,by decide+kernel⟩
theorem wm (A:aP K mg "path_of" g_ ["streams","start","goal"]) (B:Bl mg BN) (G_arrivals_from:aE P w K mg base 2 "arrivals_from" 2 bX):aE P w K mg base 3 "path_of" 3 hE:=by
 refine bc A qj rfl rfl fun f cdv A outer s H E hr=> ?_
 have hu:=bT hr
 have S:=qj
 exact ag (aW 3 S.nd (bE G_arrivals_from (hr.mono (by decide)) (ac (al 0) (ac (al 1) (aj)))))
     (ag (ce (fQ hu (ae 2) (ae 3))
     (ar (aR (o9)))
     (aQ))
     (ag (fV 4 S.nd (aj))
     (ag (aW 5 S.nd (al 2))
     (ag (sK 100 PassesOwn.leaving (bG j9 gE (ae 5) (ae 1))
     (ag (aW 6 S.nd (aS hu (ae 3) (ae 5)))
     (ag (cT 4 (aS hu (ae 6) (PQ.bo (ak))))
     (ar (aW 5 S.nd (aS hu (ae 6) (PQ.bo (ak))))))))
     (ar (aR (AN rfl (B.no "tuple" (by decide)) (B.no "reversed" (by decide)) (ae 4))))))))
theorem lT:aI ["self","number","stream"] ["self","number"] (ah dR):=⟨rfl,rfl,rfl,by decide+kernel,rfl,by decide+kernel,by decide+kernel⟩
theorem qW (A:kh K "Day" "stream" "Day.stream" dR ["self","number"]) (B:Bl mg BN) (E_UnknownStream:qc K mg "UnknownStream") (T_Day:lO K "Day" gY):cU P w K mg base 1 "Day" "stream" 2 bL:=by
 refine lz A lT rfl rfl fun f cdv A outer s H E hr=> ?_
 have hu:=bT hr
 have S:=lT
 exact ag (fG PassesOwn.leaving rfl (dJ (fE T_Day (by decide) (ae 0))) (a_ 2 S.nd)
     (ar (ce (bG dI cC (PQ.bo (aS hu (ae 2) (PQ.bo (ak)))) (ae 1))
     (ar (aR (al 2)))
     (aQ))))
     (ar (sY E_UnknownStream rfl (ac (iz) (aj))))
theorem lc:aI ["self","number","stream"] ["self","number"] (ah dh):=⟨rfl,rfl,rfl,by decide+kernel,rfl,by decide+kernel,by decide+kernel⟩
theorem qk (A:kh K "Day" "metered" "Day.metered" dh ["self","number"]) (B:Bl mg BN) (G_Day_stream:cU P w K mg base 1 "Day" "stream" 2 bL) (T_Day:lO K "Day" gY):cU P w K mg base 2 "Day" "metered" 2 aU:=by
 refine lz A lc rfl rfl fun f cdv A outer s H E hr=> ?_
 have hu:=bT hr
 have S:=lc
 exact ag (aW 2 S.nd (jr G_Day_stream (hr.mono (by decide)) (al 0) (ac (al 1) (aj))))
     (ar (aR (yz hu (PQ.bo (aS hu (ae 2) (PQ.bo (ak)))) (PQ.bo (bn (ic rfl) kT (B.no "dict" (by decide)) L2.Pu.jM (aA (PQ.bo (fE T_Day (by decide) (ae 0))) (aO)))))))
theorem ik:aI ["self"] ["self"] (ah bU):=⟨rfl,rfl,rfl,by decide+kernel,rfl,by decide+kernel,by decide+kernel⟩
theorem lf (A:kh K "Day" "without_meter" "Day.without_meter" bU ["self"]) (B:Bl mg BN) (G_Day_metered:cU P w K mg base 2 "Day" "metered" 2 aU) (T_Day:lO K "Day" gY):cU P w K mg base 3 "Day" "without_meter" 1 bj:=by
 refine lz A ik rfl rfl fun f cdv A outer s H E hr=> ?_
 have hu:=bT hr
 have S:=ik
 exact ar (aR (bn bv cq (B.no "tuple" (by decide)) L2.Pu.bu (aA (PQ.bo (ke (bR.of rfl (by first|decide+kernel|rfl)) rfl (dJ (fE T_Day (by decide) (ae 0))) (fun _ _ _=>a_ 1 (show ([".0","stream","self"]:List Str).Nodup by decide+kernel)) (fun _ _ _=>mf (eK (d4 (PQ.bo (jr G_Day_metered (hr.mono (by decide)) (al 2) (ac (aS hu (ae 1) (PQ.bo (ak))) (aj))))))) (fun _ _ _=>al 1))) (aO))))
theorem gq:aI ["day","number"] ["day","number"] (ah bF):=⟨rfl,rfl,rfl,by decide+kernel,rfl,by decide+kernel,by decide+kernel⟩
theorem jU (A:aP K mg "others_without_meter" bF ["day","number"]) (B:Bl mg BN) (G_Day_without_meter:cU P w K mg base 3 "Day" "without_meter" 1 bj):aE P w K mg base 4 "others_without_meter" 2 bd:=by
 refine bc A gq rfl rfl fun f cdv A outer s H E hr=> ?_
 have hu:=bT hr
 have S:=gq
 exact ar (aR (bn bv cq (B.no "tuple" (by decide)) L2.Pu.bu (aA (PQ.bo (ke (bR.of rfl (by first|decide+kernel|rfl)) rfl (dJ (xn G_Day_without_meter (hr.mono (by decide)) (al 0))) (fun _ _ _=>a_ 1 (show ([".0","stream","number"]:List Str).Nodup by decide+kernel)) (fun _ _ _=>mf (bG j9 gE (PQ.bo (aS hu (ae 1) (PQ.bo (ak)))) (ae 2))) (fun _ _ _=>al 1))) (aO))))
theorem ql:aI ["day","number","stream","way_back"] ["day","number"] (ah hG):=⟨rfl,rfl,rfl,by decide+kernel,rfl,by decide+kernel,by decide+kernel⟩
theorem wo (A:aP K mg "ring_of" hG ["day","number"]) (B:Bl mg BN) (G_Day_metered:cU P w K mg base 2 "Day" "metered" 2 aU) (G_Day_stream:cU P w K mg base 1 "Day" "stream" 2 bL) (G_path_of:aE P w K mg base 3 "path_of" 3 hE) (G_others_without_meter:aE P w K mg base 4 "others_without_meter" 2 bd):aE P w K mg base 5 "ring_of" 2 gn:=by
 refine bc A ql rfl rfl fun f cdv A outer s H E hr=> ?_
 have hu:=bT hr
 have S:=ql
 exact ag (ce (d4 (PQ.bo (jr G_Day_metered (hr.mono (by decide)) (al 0) (ac (al 1) (aj)))))
     (ar (aR (cB (aj))))
     (aQ))
     (ag (aW 2 S.nd (jr G_Day_stream (hr.mono (by decide)) (al 0) (ac (al 1) (aj))))
     (ag (aW 3 S.nd (bE G_path_of (hr.mono (by decide)) (ac (bE G_others_without_meter (hr.mono (by decide)) (ac (al 0) (ac (al 1) (aj)))) (ac (aS hu (ae 2) (PQ.bo (ak))) (ac (aS hu (ae 2) (PQ.bo (ak))) (aj))))))
     (ag (ce (bG vn sN (ae 3) (PQ.bo (o9)))
     (ar (aR (cB (aj))))
     (aQ))
     (ar (aR (aK bH bI (PQ.bo (cB (ac (cB (ac (al 1) (ac (ak) (aj)))) (aj)))) (ae 3)))))))
theorem lU:aI ["day","clashes","bunch","rise","brought"] ["day"] (ah dS):=⟨rfl,rfl,rfl,by decide+kernel,rfl,by decide+kernel,by decide+kernel⟩
theorem qX (A:aP K mg "clashes_of" dS ["day"]) (B:Bl mg BN) (G_bunches_of:aE P w K mg base 3 "bunches_of" 2 cA) (G_Day_without_meter:cU P w K mg base 3 "Day" "without_meter" 1 bj) (G_rise_of:aE P w K mg base 1 "rise_of" 2 gm) (G_brought_by:aE P w K mg base 2 "brought_by" 3 db) {t_OUTSIDE:Tok} (gl_OUTSIDE:mg "OUTSIDE"=some (.int 0 t_OUTSIDE)) (T_Day:lO K "Day" gY):aE P w K mg base 4 "clashes_of" 1 gH:=by
 refine bc A lU rfl rfl fun f cdv A outer s H E hr=> ?_
 have hu:=bT hr
 have S:=lU
 exact ag (fV 1 S.nd (aj))
     (ag (fG PassesOwn.leaving rfl (dJ (bE G_bunches_of (hr.mono (by decide)) (ac (fE T_Day (by decide) (ae 0)) (ac (xn G_Day_without_meter (hr.mono (by decide)) (al 0)) (aj))))) (a_ 2 S.nd)
     (ar (ce (fQ hu (PQ.bo (sI rfl gl_OUTSIDE)) (ae 2))
     (ag (aW 3 S.nd (bE G_rise_of (hr.mono (by decide)) (ac (fE T_Day (by decide) (ae 0)) (ac (al 2) (aj)))))
     (ag (aW 4 S.nd (bE G_brought_by (hr.mono (by decide)) (ac (fE T_Day (by decide) (ae 0)) (ac (fE T_Day (by decide) (ae 0)) (ac (al 2) (aj))))))
     (ar (ce (bG j9 gE (ae 3) (ae 4))
     (ar (cT 1 (cB (ac (al 2) (ac (al 3) (ac (al 4) (aj)))))))
     (aQ)))))
     (aQ))))
     (ar (aR (bn bv cq (B.no "tuple" (by decide)) L2.Pu.bu (aA (ae 1) (aO))))))
theorem jh:aI ["day"] ["day"] (ah cr):=⟨rfl,rfl,rfl,by decide+kernel,rfl,by decide+kernel,by decide+kernel⟩
theorem n5 (A:aP K mg "refuse_clashes" cr ["day"]) (B:Bl mg BN) (G_clashes_of:aE P w K mg base 4 "clashes_of" 1 gH) (E_Clashing:qc K mg "Clashing"):aE P w K mg base 5 "refuse_clashes" 1 cR:=by
 refine bc A jh rfl rfl fun f cdv A outer s H E hr=> ?_
 have hu:=bT hr
 have S:=jh
 exact ar (ce (bG pe mj (PQ.bo (bz bN cH (B.no "len" (by decide)) PySem.boot_len (aA (PQ.bo (bE G_clashes_of (hr.mono (by decide)) (ac (al 0) (aj)))) (aO)))) (PQ.bo (ak)))
     (ar (sY E_Clashing rfl (ac (iz) (aj))))
     (aQ))
theorem ot:aI ["day","number","stream","bunch"] ["day","number"] (ah fY):=⟨rfl,rfl,rfl,by decide+kernel,rfl,by decide+kernel,by decide+kernel⟩
theorem uN (A:aP K mg "group_of" fY ["day","number"]) (B:Bl mg BN) (G_Day_metered:cU P w K mg base 2 "Day" "metered" 2 aU) (G_Day_stream:cU P w K mg base 1 "Day" "stream" 2 bL) (G_bunches_of:aE P w K mg base 3 "bunches_of" 2 cA) (G_others_without_meter:aE P w K mg base 4 "others_without_meter" 2 bd) (G_way_over:aE P w K mg base 1 "way_over" 2 cj) {t_OUTSIDE:Tok} (gl_OUTSIDE:mg "OUTSIDE"=some (.int 0 t_OUTSIDE)) (T_Day:lO K "Day" gY):aE P w K mg base 5 "group_of" 2 dU:=by
 refine bc A ot rfl rfl fun f cdv A outer s H E hr=> ?_
 have hu:=bT hr
 have S:=ot
 exact ag (ce (d4 (PQ.bo (jr G_Day_metered (hr.mono (by decide)) (al 0) (ac (al 1) (aj)))))
     (ar (aR (cB (aj))))
     (aQ))
     (ag (aW 2 S.nd (jr G_Day_stream (hr.mono (by decide)) (al 0) (ac (al 1) (aj))))
     (ag (fG PassesOwn.leaving rfl (dJ (bE G_bunches_of (hr.mono (by decide)) (ac (fE T_Day (by decide) (ae 0)) (ac (bE G_others_without_meter (hr.mono (by decide)) (ac (al 0) (ac (al 1) (aj)))) (aj))))) (a_ 3 S.nd)
     (ar (ce (nI.t (pP (fQ hu (PQ.bo (sI rfl gl_OUTSIDE)) (ae 3)) (ma (bG j9 gE (PQ.bo (bE G_way_over (hr.mono (by decide)) (ac (al 2) (ac (al 3) (aj))))) (PQ.bo (ak))))))
     (ar (aR (al 3)))
     (aQ))))
     (ar (aR (cB (aj))))))
theorem lg:aI ["day","number","group","left"] ["day","number","group"] (ah di):=⟨rfl,rfl,rfl,by decide+kernel,rfl,by decide+kernel,by decide+kernel⟩
theorem qm (A:aP K mg "amount_left" di ["day","number","group"]) (B:Bl mg BN) (G_rise_of:aE P w K mg base 1 "rise_of" 2 gm) (G_brought_by:aE P w K mg base 2 "brought_by" 3 db) (G_way_over:aE P w K mg base 1 "way_over" 2 cj) (G_Day_stream:cU P w K mg base 1 "Day" "stream" 2 bL) (T_Day:lO K "Day" gY):aE P w K mg base 3 "amount_left" 3 eu:=by
 refine bc A lg rfl rfl fun f cdv A outer s H E hr=> ?_
 have hu:=bT hr
 have S:=lg
 exact ag (aW 3 S.nd (aK eG da (PQ.bo (bE G_rise_of (hr.mono (by decide)) (ac (fE T_Day (by decide) (ae 0)) (ac (al 2) (aj))))) (PQ.bo (bE G_brought_by (hr.mono (by decide)) (ac (fE T_Day (by decide) (ae 0)) (ac (fE T_Day (by decide) (ae 0)) (ac (al 2) (aj))))))))
     (ar (aR (aK lw mS (PQ.bo (bE G_way_over (hr.mono (by decide)) (ac (jr G_Day_stream (hr.mono (by decide)) (al 0) (ac (al 1) (aj))) (ac (al 2) (aj))))) (ae 3))))
theorem lh:aI ["self","number"] ["self","number"] (ah dj):=⟨rfl,rfl,rfl,by decide+kernel,rfl,by decide+kernel,by decide+kernel⟩
theorem qo (A:kh K "Day" "reading" "Day.reading" dj ["self","number"]) (B:Bl mg BN) (G_Day_metered:cU P w K mg base 2 "Day" "metered" 2 aU) (E_NotMetered:qc K mg "NotMetered") (T_Day:lO K "Day" gY):cU P w K mg base 3 "Day" "reading" 2 cQ:=by
 refine lz A lh rfl rfl fun f cdv A outer s H E hr=> ?_
 have hu:=bT hr
 have S:=lh
 exact ag (ce (eK (d4 (PQ.bo (jr G_Day_metered (hr.mono (by decide)) (al 0) (ac (al 1) (aj))))))
     (ar (sY E_NotMetered rfl (ac (iz) (aj))))
     (aQ))
     (ar (aR (aS hu (PQ.bo (bn (ic rfl) kT (B.no "dict" (by decide)) L2.Pu.jM (aA (PQ.bo (fE T_Day (by decide) (ae 0))) (aO)))) (ae 1))))
theorem qp:aI ["day","number","has_meter","group"] ["day","number"] (ah hJ):=⟨rfl,rfl,rfl,by decide+kernel,rfl,by decide+kernel,by decide+kernel⟩
theorem wq (A:aP K mg "told_of" hJ ["day","number"]) (B:Bl mg BN) (G_Day_metered:cU P w K mg base 2 "Day" "metered" 2 aU) (G_refuse_clashes:aE P w K mg base 5 "refuse_clashes" 1 cR) (G_Day_reading:cU P w K mg base 3 "Day" "reading" 2 cQ) (G_group_of:aE P w K mg base 5 "group_of" 2 dU) (G_amount_left:aE P w K mg base 3 "amount_left" 3 eu) (G_ring_of:aE P w K mg base 5 "ring_of" 2 gn):aE P w K mg base 6 "told_of" 2 b_:=by
 refine bc A qp rfl rfl fun f cdv A outer s H E hr=> ?_
 have hu:=bT hr
 have S:=qp
 exact ag (aW 2 S.nd (jr G_Day_metered (hr.mono (by decide)) (al 0) (ac (al 1) (aj))))
     (ag (FR (bE G_refuse_clashes (hr.mono (by decide)) (ac (al 0) (aj))))
     (ag (ce (d4 (ae 2))
     (ar (aR (cB (ac (iz) (ac (jr G_Day_reading (hr.mono (by decide)) (al 0) (ac (al 1) (aj))) (ac (cB (aj)) (ac (cB (aj)) (aj))))))))
     (aQ))
     (ag (aW 3 S.nd (bE G_group_of (hr.mono (by decide)) (ac (al 0) (ac (al 1) (aj)))))
     (ag (ce (bG pe mj (PQ.bo (bz bN cH (B.no "len" (by decide)) PySem.boot_len (aA (ae 3) (aO)))) (PQ.bo (ak)))
     (ar (aR (cB (ac (iz) (ac (bE G_amount_left (hr.mono (by decide)) (ac (al 0) (ac (al 1) (ac (al 3) (aj))))) (ac (al 3) (ac (cB (aj)) (aj))))))))
     (aQ))
     (ar (aR (cB (ac (iz) (ac (o9) (ac (cB (aj)) (ac (bE G_ring_of (hr.mono (by decide)) (ac (al 0) (ac (al 1) (aj)))) (aj))))))))))))
theorem ou:aI ["self","tanks","streams","rises","readings","self.tanks","self.streams","self.rises","self.readings"] ["self","tanks","streams","rises","readings"] (ah eM):=⟨rfl,rfl,rfl,by decide+kernel,rfl,by decide+kernel,by decide+kernel⟩
theorem ji:∀g∈(["self.tanks","self.streams","self.rises","self.readings"]:List Str),¬wL (ah eM) g:=by unfold wL;decide+kernel
theorem uO (A:wg K mg "Day" "Day.__init__" eM ["self","tanks","streams","rises","readings"] gY) (B:Bl mg BN):qa P w K mg base 1 "Day" 4 cW:=by
 refine yL A ou rfl rfl (by decide) (by decide) fun C f cdv A outer s H E hC hno hr=> ?_
 have hu:=bT hr
 have S:=ou
 exact ag (sW 5 hC (hno "tanks" (by decide)) (s_ (by decide) (by decide) (by decide) (by decide)) (al 1) (hvis:=ji "self.tanks" (by decide)))
     (ag (sW 6 hC (hno "streams" (by decide)) (s_ (by decide) (by decide) (by decide) (by decide)) (bn bv cq (B.no "tuple" (by decide)) L2.Pu.bu (aA (PQ.bo (bz (iD rfl) jf (B.no "sorted" (by decide)) L2.Pu.je (aA (ae 2) (aO)))) (aO))) (hvis:=ji "self.streams" (by decide)))
     (ag (sW 7 hC (hno "rises" (by decide)) (s_ (by decide) (by decide) (by decide) (by decide)) (bn bv cq (B.no "tuple" (by decide)) L2.Pu.bu (aA (ae 3) (aO))) (hvis:=ji "self.rises" (by decide)))
     (ar (sW 8 hC (hno "readings" (by decide)) (s_ (by decide) (by decide) (by decide) (by decide)) (bn bv cq (B.no "tuple" (by decide)) L2.Pu.bu (aA (PQ.bo (bz (iD rfl) jf (B.no "sorted" (by decide)) L2.Pu.je (aA (ae 4) (aO)))) (aO))) (hvis:=ji "self.readings" (by decide))))))
theorem rS:aI ["_law_script","_law_k"] ["_law_script","_law_k"] (ah iT):=⟨rfl,rfl,rfl,by decide+kernel,rfl,by decide+kernel,by decide+kernel⟩
theorem yP (A:aP K mg "_law_at" iT ["_law_script","_law_k"]) (B:Bl mg BN):aE P w K mg base 1 "_law_at" 2 fJ:=by
 refine bc A rS rfl rfl fun f cdv A outer s H E hr=> ?_
 have hu:=bT hr
 have S:=rS
 exact ag (ce (bG zC vV (ae 1) (PQ.bo (bz bN cH (B.no "len" (by decide)) PySem.boot_len (aA (ae 0) (aO)))))
     (ar (aR (aS hu (ae 0) (ae 1))))
     (aQ))
     (ar (aR (ak)))
theorem ow:aI ["_law_script","_law_k","_law_mixed"] ["_law_script","_law_k"] (ah fZ):=⟨rfl,rfl,rfl,by decide+kernel,rfl,by decide+kernel,by decide+kernel⟩
theorem uP (A:aP K mg "_law_cell" fZ ["_law_script","_law_k"]) (B:Bl mg BN) (G_law_at:aE P w K mg base 1 "_law_at" 2 fJ):aE P w K mg base 2 "_law_cell" 2 aB:=by
 refine bc A ow rfl rfl fun f cdv A outer s H E hr=> ?_
 have hu:=bT hr
 have S:=ow
 exact ag (ce (bG dI cC (PQ.bo (aK cM cc (PQ.bo (bE G_law_at (hr.mono (by decide)) (ac (al 0) (ac (ak) (aj))))) (PQ.bo (ak)))) (PQ.bo (ak)))
     (ar (aR (bE G_law_at (hr.mono (by decide)) (ac (al 0) (ac (al 1) (aj))))))
     (aQ))
     (ag (aW 2 S.nd (aK cM cc (PQ.bo (aK lw mS (PQ.bo (aK bH bI (PQ.bo (aK bH bI (PQ.bo (aK bH bI (PQ.bo (bE G_law_at (hr.mono (by decide)) (ac (al 0) (ac (al 1) (aj))))) (PQ.bo (aK eZ dv (PQ.bo (bE G_law_at (hr.mono (by decide)) (ac (al 0) (ac (ak) (aj))))) (PQ.bo (ak)))))) (PQ.bo (aK lw mS (PQ.bo (ak)) (ae 1))))) (PQ.bo (ak)))) (PQ.bo (ak)))) (PQ.bo (ak))))
     (ar (aR (aK cM cc (PQ.bo (aK lw mS (PQ.bo (aK bH bI (ae 2) (ae 1))) (PQ.bo (ak)))) (PQ.bo (ak))))))
theorem oy:aI ["_law_found","_law_due","_law_k"] ["_law_found","_law_due"] (ah eN):=⟨rfl,rfl,rfl,by decide+kernel,rfl,by decide+kernel,by decide+kernel⟩
theorem n6 (A:aP K mg "_law_same" eN ["_law_found","_law_due"]) (B:Bl mg BN):∀n:Nat,aE P w K mg base n "_law_same" 2 (cD n)
 |0=>AE A rfl
 |n+1=>by
  have Grec:=n6 A B n
  refine bc A oy rfl rfl fun f cdv A outer s H E hr=> ?_
  have hu:=bT hr
  have S:=oy
  exact ag (ce (d4 (PQ.bo (jJ (.inr (.inr (.inr (.inl rfl)))) (B.no "isinstance" (by decide)) (B.no "tuple" (by decide)) L2.Pu.bu (ae 1))))
     (ag (ce (nI.t (kP (eK (d4 (PQ.bo (jJ (.inr (.inr (.inr (.inl rfl)))) (B.no "isinstance" (by decide)) (B.no "tuple" (by decide)) L2.Pu.bu (ae 0))))) (jE (bG j9 gE (PQ.bo (bz bN cH (B.no "len" (by decide)) PySem.boot_len (aA (ae 0) (aO)))) (PQ.bo (bz bN cH (B.no "len" (by decide)) PySem.boot_len (aA (ae 1) (aO))))))))
     (ar (aR (gu)))
     (aQ))
     (ag (fG PassesOwn.leaving rfl (iM (B.no "range" (by decide)) (ac (bz bN cH (B.no "len" (by decide)) PySem.boot_len (aA (ae 1) (aO))) (aj))) (a_ 2 S.nd)
     (ar (ce (eK (d4 (PQ.bo (bE Grec (hr.mono (by omega)) (ac (aS hu (ae 0) (ae 2)) (ac (aS hu (ae 1) (ae 2)) (aj)))))))
     (ar (aR (gu)))
     (aQ))))
     (ar (aR (gu)))))
     (aQ))
     (ag (ce (bG vn sN (ae 1) (PQ.bo (o9)))
     (ar (aR (mR vn sN (ae 0) (PQ.bo (o9)))))
     (aQ))
     (ag (ce (d4 (PQ.bo (jJ (.inr (.inr (.inl rfl))) (B.no "isinstance" (by decide)) (B.no "str" (by decide)) L2.Pu.ur (ae 1))))
     (ar (aR (rH (jJ (.inr (.inr (.inl rfl))) (B.no "isinstance" (by decide)) (B.no "str" (by decide)) L2.Pu.ur (ae 0)) (uf (mR dI cC (ae 0) (ae 1))))))
     (aQ))
     (ar (aR (rH (jJ (.inr (.inl rfl)) (B.no "isinstance" (by decide)) (B.no "int" (by decide)) L2.Pu.jN (ae 0)) (rH (E0 (jJ (.inl rfl) (B.no "isinstance" (by decide)) (B.no "bool" (by decide)) L2.Pu.rL (ae 0))) (uf (mR dI cC (ae 0) (ae 1)))))))))
theorem uQ (A:aP K mg "_law_same" eN ["_law_found","_law_due"]) (B:Bl mg BN):aE P w K mg base 8 "_law_same" 2 ba:=(n6 A B 8).mono (by decide)
theorem n8:aI ["_law_found"] ["_law_found"] (ah eO):=⟨rfl,rfl,rfl,by decide+kernel,rfl,by decide+kernel,by decide+kernel⟩
theorem t6 (A:aP K mg "_law_whole" eO ["_law_found"]) (B:Bl mg BN):aE P w K mg base 1 "_law_whole" 1 c0:=by
 refine bc A n8 rfl rfl fun f cdv A outer s H E hr=> ?_
 have hu:=bT hr
 have S:=n8
 exact ar (aR (rH (jJ (.inr (.inl rfl)) (B.no "isinstance" (by decide)) (B.no "int" (by decide)) L2.Pu.jN (ae 0)) (uf (E0 (jJ (.inl rfl) (B.no "isinstance" (by decide)) (B.no "bool" (by decide)) L2.Pu.rL (ae 0))))))
theorem li:aI ["_law_script","_law_n","_law_many","_law_rows","_law_number","_law_k","_law_room","_law_cell_here","_law_gap","_law_source","_law_target"] ["_law_script","_law_n","_law_many"] (ah dk):=⟨rfl,rfl,rfl,by decide+kernel,rfl,by decide+kernel,by decide+kernel⟩
theorem qq (A:aP K mg "_law_streams" dk ["_law_script","_law_n","_law_many"]) (B:Bl mg BN) (G_law_cell:aE P w K mg base 2 "_law_cell" 2 aB):aE P w K mg base 3 "_law_streams" 3 fK:=by
 refine bc A li rfl rfl fun f cdv A outer s H E hr=> ?_
 have hu:=bT hr
 have S:=li
 exact ag (fV 3 S.nd (aj))
     (ag (aW 4 S.nd (ak))
     (ag (fG PassesOwn.leaving rfl (iM (B.no "range" (by decide)) (ac (al 2) (aj))) (a_ 5 S.nd)
     (ag (aW 6 S.nd (aK bH bI (PQ.bo (aK eG da (PQ.bo (aK eG da (PQ.bo (ak)) (ae 4))) (ae 2))) (ae 5)))
     (ag (aW 7 S.nd (bE G_law_cell (hr.mono (by decide)) (ac (al 0) (ac (aK bH bI (PQ.bo (ak)) (ae 5)) (aj)))))
     (ag (aW 8 S.nd (aK cM cc (ae 7) (ae 6)))
     (ag (ce (bG dI cC (PQ.bo (aK cM cc (PQ.bo (aK eZ dv (PQ.bo (bE G_law_cell (hr.mono (by decide)) (ac (al 0) (ac (ak) (aj))))) (PQ.bo (ak)))) (PQ.bo (ak)))) (PQ.bo (ak)))
     (ar (aW 8 S.nd (aK cM cc (ae 8) (PQ.bo (ak)))))
     (aQ))
     (ag (aW 4 S.nd (aK bH bI (PQ.bo (aK bH bI (ae 4) (PQ.bo (ak)))) (ae 8)))
     (ag (aW 9 S.nd (aK cM cc (PQ.bo (aK eZ dv (ae 7) (ae 6))) (PQ.bo (aK bH bI (ae 1) (PQ.bo (ak))))))
     (ag (aW 10 S.nd (aK cM cc (PQ.bo (aK bH bI (PQ.bo (aK bH bI (ae 9) (PQ.bo (ak)))) (PQ.bo (aK cM cc (PQ.bo (aK eZ dv (PQ.bo (aK eZ dv (ae 7) (ae 6))) (PQ.bo (aK bH bI (ae 1) (PQ.bo (ak)))))) (ae 1))))) (PQ.bo (aK bH bI (ae 1) (PQ.bo (ak))))))
     (ar (cT 3 (cB (ac (al 4) (ac (al 9) (ac (al 10) (aj)))))))))))))))
     (ar (lM [3] (aR (al 3))))))
theorem lj:aI ["_law_script","_law_streams_here","_law_share","_law_found","_law_k"] ["_law_script","_law_streams_here","_law_share"] (ah dm):=⟨rfl,rfl,rfl,by decide+kernel,rfl,by decide+kernel,by decide+kernel⟩
theorem qr (A:aP K mg "_law_metered" dm ["_law_script","_law_streams_here","_law_share"]) (B:Bl mg BN) (G_law_cell:aE P w K mg base 2 "_law_cell" 2 aB):aE P w K mg base 3 "_law_metered" 3 fM:=by
 refine bc A lj rfl rfl fun f cdv A outer s H E hr=> ?_
 have hu:=bT hr
 have S:=lj
 exact ag (fV 3 S.nd (aj))
     (ag (fG PassesOwn.leaving rfl (iM (B.no "range" (by decide)) (ac (bz bN cH (B.no "len" (by decide)) PySem.boot_len (aA (ae 1) (aO))) (aj))) (a_ 4 S.nd)
     (ar (ce (nI.t (pP (bG zC vV (PQ.bo (aK cM cc (PQ.bo (bE G_law_cell (hr.mono (by decide)) (ac (al 0) (ac (aK bH bI (PQ.bo (ak)) (ae 4)) (aj))))) (PQ.bo (ak)))) (ae 2)) (ma (bG zC vV (PQ.bo (bz bN cH (B.no "len" (by decide)) PySem.boot_len (aA (ae 3) (aO)))) (PQ.bo (ak))))))
     (ar (cT 3 (aS hu (PQ.bo (aS hu (ae 1) (ae 4))) (PQ.bo (ak)))))
     (aQ))))
     (ar (lM [3] (aR (al 3)))))
theorem oz:aI ["_law_levels","_law_source","_law_target","_law_most","_law_low","_law_high"] ["_law_levels","_law_source","_law_target","_law_most"] (ah f_):=⟨rfl,rfl,rfl,by decide+kernel,rfl,by decide+kernel,by decide+kernel⟩
theorem uR (A:aP K mg "_law_span" f_ ["_law_levels","_law_source","_law_target","_law_most"]) (B:Bl mg BN):aE P w K mg base 1 "_law_span" 4 iU:=by
 refine bc A oz rfl rfl fun f cdv A outer s H E hr=> ?_
 have hu:=bT hr
 have S:=oz
 exact ag (aW 4 S.nd (sJ jl iC (ae 3)))
     (ag (aW 5 S.nd (al 3))
     (ag (ce (bG pe mj (ae 1) (PQ.bo (ak)))
     (ag (aW 4 S.nd (bz (re rfl) xj (B.no "max" (by decide)) L2.Pu.uu (aA (ae 4) (aA (PQ.bo (aK eG da (PQ.bo (aS hu (ae 0) (ae 1))) (PQ.bo (ak)))) (aO)))))
     (ar (aW 5 S.nd (bz (rf rfl) xi (B.no "min" (by decide)) L2.Pu.ut (aA (ae 5) (aA (PQ.bo (aK bH bI (PQ.bo (aS hu (ae 0) (ae 1))) (PQ.bo (ak)))) (aO)))))))
     (aQ))
     (ag (ce (bG pe mj (ae 2) (PQ.bo (ak)))
     (ag (aW 4 S.nd (bz (re rfl) xj (B.no "max" (by decide)) L2.Pu.uu (aA (ae 4) (aA (PQ.bo (aK eG da (PQ.bo (sJ jl iC (PQ.bo (ak)))) (PQ.bo (aS hu (ae 0) (ae 2))))) (aO)))))
     (ar (aW 5 S.nd (bz (rf rfl) xi (B.no "min" (by decide)) L2.Pu.ut (aA (ae 5) (aA (PQ.bo (aK eG da (PQ.bo (ak)) (PQ.bo (aS hu (ae 0) (ae 2))))) (aO)))))))
     (aQ))
     (ar (aR (iL (ac (al 4) (ac (al 5) (aj)))))))))
theorem n9:aI ["_law_figures","_law_n","_law_streams_here","_law_meters","_law_bounds","_law_levels","_law_rows","_law_k","_law_number","_law_source","_law_target","_law_low","_law_high","_law_amount"] ["_law_figures","_law_n","_law_streams_here","_law_meters","_law_bounds"] (ah eP):=⟨rfl,rfl,rfl,by decide+kernel,rfl,by decide+kernel,by decide+kernel⟩
theorem t7 (A:aP K mg "_law_flows" eP ["_law_figures","_law_n","_law_streams_here","_law_meters","_law_bounds"]) (B:Bl mg BN) (G_law_span:aE P w K mg base 1 "_law_span" 4 iU):aE P w K mg base 2 "_law_flows" 5 ig:=by
 refine bc A n9 rfl rfl fun f cdv A outer s H E hr=> ?_
 have hu:=bT hr
 have S:=n9
 exact ag (FQ 5 S.nd (Hr lw AV (PQ.bo (iL (ac (ak) (aj)))) (PQ.bo (aK bH bI (ae 1) (PQ.bo (ak))))))
     (ag (fV 6 S.nd (aj))
     (ag (fG PassesOwn.leaving rfl (iM (B.no "range" (by decide)) (ac (bz bN cH (B.no "len" (by decide)) PySem.boot_len (aA (ae 2) (aO))) (aj))) (a_ 7 S.nd)
     (ag (Aj (aS hu (ae 2) (ae 7)) (oh rfl (cb (a_ 8 S.nd) (cb (a_ 9 S.nd) (cb (a_ 10 S.nd) (kd))))))
     (ag (FU [5] rfl (bE G_law_span (hr.mono (by decide)) (ac (al 5) (ac (al 9) (ac (al 10) (ac (aS hu (ae 4) (PQ.bo (bn lm p0 (B.no "int" (by decide)) L2.Pu.jN (aA (PQ.bo (yz hu (ae 8) (ae 3))) (aO))))) (aj)))))) (cb (a_ 11 S.nd) (cb (a_ 12 S.nd) (kd))))
     (ag (aW 13 S.nd (aK bH bI (ae 11) (PQ.bo (aK cM cc (PQ.bo (aS hu (ae 0) (ae 7))) (PQ.bo (aK bH bI (PQ.bo (aK eG da (ae 12) (ae 11))) (PQ.bo (ak))))))))
     (ag (uh 5 hu (al 9) (aK eG da (PQ.bo (aS hu (ae 5) (ae 9))) (ae 13)))
     (ag (uh 5 hu (al 10) (aK bH bI (PQ.bo (aS hu (ae 5) (ae 10))) (ae 13)))
     (ar (cT 6 (cB (ac (al 8) (ac (al 13) (aj))))))))))))
     (ar (aR (iL (ac (bn bv cq (B.no "tuple" (by decide)) L2.Pu.bu (aA (ae 6) (aO))) (ac (bn bv cq (B.no "tuple" (by decide)) L2.Pu.bu (aA (PQ.bo (kf (ae 5) (mn (ak)) (ml))) (aO))) (aj))))))))
theorem na:aI ["_law_script","_law_n","_law_streams_here","_law_metered_here","_law_small","_law_figures"] ["_law_script","_law_n","_law_streams_here","_law_metered_here","_law_small"] (ah eQ):=⟨rfl,rfl,rfl,by decide+kernel,rfl,by decide+kernel,by decide+kernel⟩
theorem t8 (A:aP K mg "_law_truth" eQ ["_law_script","_law_n","_law_streams_here","_law_metered_here","_law_small"]) (B:Bl mg BN) (G_law_cell:aE P w K mg base 2 "_law_cell" 2 aB) (G_law_flows:aE P w K mg base 2 "_law_flows" 5 ig):aE P w K mg base 3 "_law_truth" 5 ii:=by
 refine bc A na rfl rfl fun f cdv A outer s H E hr=> ?_
 have hu:=bT hr
 have S:=na
 exact ag (sL 5 (bR.of rfl (by first|decide+kernel|rfl)) rfl S.nd (iM (B.no "range" (by decide)) (ac (bz bN cH (B.no "len" (by decide)) PySem.boot_len (aA (ae 2) (aO))) (aj))) (fun _ _ _=>a_ 1 (show ([".0","_law_k","_law_cell","_law_script"]:List Str).Nodup by decide+kernel)) (fun _ _ _=>me) (fun _ _ _=>aK eZ dv (PQ.bo (bE G_law_cell (hr.mono (by decide)) (ac (al 3) (ac (aK bH bI (PQ.bo (ak)) (ae 1)) (aj))))) (PQ.bo (ak))))
     (ar (lM [5] (aR (bE G_law_flows (hr.mono (by decide)) (ac (al 5) (ac (al 1) (ac (al 2) (ac (al 3) (ac (aS hu (PQ.bo (iL (ac (iL (ac (ak) (ac (ak) (aj)))) (ac (iL (ac (ak) (ac (ak) (aj)))) (aj))))) (ae 4)) (aj))))))))))
theorem kB:aI ["_law_script","_law_truth_here","_law_metered_here","_law_mode","_law_small","_law_found","_law_k","_law_number","_law_amount","_law_cell_here"] ["_law_script","_law_truth_here","_law_metered_here","_law_mode","_law_small"] (ah cX):=⟨rfl,rfl,rfl,by decide+kernel,rfl,by decide+kernel,by decide+kernel⟩
theorem oQ (A:aP K mg "_law_readings" cX ["_law_script","_law_truth_here","_law_metered_here","_law_mode","_law_small"]) (B:Bl mg BN) (G_law_cell:aE P w K mg base 2 "_law_cell" 2 aB):aE P w K mg base 3 "_law_readings" 5 eR:=by
 refine bc A kB rfl rfl fun f cdv A outer s H E hr=> ?_
 have hu:=bT hr
 have S:=kB
 exact ag (fV 5 S.nd (aj))
     (ag (fG PassesOwn.leaving rfl (iM (B.no "range" (by decide)) (ac (bz bN cH (B.no "len" (by decide)) PySem.boot_len (aA (ae 1) (aO))) (aj))) (a_ 6 S.nd)
     (ag (Aj (aS hu (ae 1) (ae 6)) (oh rfl (cb (a_ 7 S.nd) (cb (a_ 8 S.nd) (kd)))))
     (ag (aW 9 S.nd (bE G_law_cell (hr.mono (by decide)) (ac (al 0) (ac (aK bH bI (PQ.bo (ak)) (ae 6)) (aj)))))
     (ag (ce (fQ hu (ae 7) (ae 2))
     (ar (pR))
     (aQ))
     (ag (ce (nI.t (kP (bG dI cC (ae 3) (PQ.bo (ak))) (jE (nI.t (pP (bG dI cC (ae 3) (PQ.bo (ak))) (ma (bG dI cC (PQ.bo (aK cM cc (ae 9) (PQ.bo (ak)))) (PQ.bo (ak)))))))))
     (ar (aW 8 S.nd (aS hu (PQ.bo (iL (ac (aK eG da (PQ.bo (aK cM cc (PQ.bo (aK eZ dv (ae 9) (PQ.bo (ak)))) (PQ.bo (ak)))) (PQ.bo (ak))) (ac (aK eG da (PQ.bo (aK cM cc (PQ.bo (aK eZ dv (ae 9) (PQ.bo (ak)))) (PQ.bo (ak)))) (PQ.bo (ak))) (aj))))) (ae 4))))
     (aQ))
     (ar (cT 5 (cB (ac (al 7) (ac (al 8) (aj)))))))))))
     (ar (lM [5] (aR (al 5)))))
theorem nc:aI ["_law_script","_law_levels","_law_mode","_law_small","_law_found","_law_k","_law_cell_here","_law_rise"] ["_law_script","_law_levels","_law_mode","_law_small"] (ah eS):=⟨rfl,rfl,rfl,by decide+kernel,rfl,by decide+kernel,by decide+kernel⟩
theorem t9 (A:aP K mg "_law_rises" eS ["_law_script","_law_levels","_law_mode","_law_small"]) (B:Bl mg BN) (G_law_cell:aE P w K mg base 2 "_law_cell" 2 aB):aE P w K mg base 3 "_law_rises" 4 ij:=by
 refine bc A nc rfl rfl fun f cdv A outer s H E hr=> ?_
 have hu:=bT hr
 have S:=nc
 exact ag (fV 4 S.nd (aj))
     (ag (fG PassesOwn.leaving rfl (iM (B.no "range" (by decide)) (ac (bz bN cH (B.no "len" (by decide)) PySem.boot_len (aA (ae 1) (aO))) (aj))) (a_ 5 S.nd)
     (ag (aW 6 S.nd (bE G_law_cell (hr.mono (by decide)) (ac (al 0) (ac (aK bH bI (PQ.bo (ak)) (ae 5)) (aj)))))
     (ag (aW 7 S.nd (aS hu (ae 1) (ae 5)))
     (ag (ce (nI.t (kP (bG dI cC (ae 2) (PQ.bo (ak))) (jE (nI.t (pP (bG dI cC (ae 2) (PQ.bo (ak))) (ma (bG dI cC (PQ.bo (aK cM cc (ae 6) (PQ.bo (ak)))) (PQ.bo (ak)))))))))
     (ar (aW 7 S.nd (aS hu (PQ.bo (iL (ac (aK eG da (PQ.bo (aK cM cc (PQ.bo (aK eZ dv (ae 6) (PQ.bo (ak)))) (PQ.bo (ak)))) (PQ.bo (ak))) (ac (aK eG da (PQ.bo (aK cM cc (PQ.bo (aK eZ dv (ae 6) (PQ.bo (ak)))) (PQ.bo (ak)))) (PQ.bo (ak))) (aj))))) (ae 3))))
     (aQ))
     (ar (cT 4 (al 7)))))))
     (ar (lM [4] (aR (al 4)))))
theorem oA:aI ["_law_script","_law_n","_law_many","_law_mode","_law_small","_law_streams_here","_law_metered_here","_law_truth_here","_law_readings_here","_law_rises_here"] ["_law_script"] (ah gf):=⟨rfl,rfl,rfl,by decide+kernel,rfl,by decide+kernel,by decide+kernel⟩
theorem uS (A:aP K mg "_law_case" gf ["_law_script"]) (B:Bl mg BN) (G_law_cell:aE P w K mg base 2 "_law_cell" 2 aB) (G_law_streams:aE P w K mg base 3 "_law_streams" 3 fK) (G_law_metered:aE P w K mg base 3 "_law_metered" 3 fM) (G_law_truth:aE P w K mg base 3 "_law_truth" 5 ii) (G_law_readings:aE P w K mg base 3 "_law_readings" 5 eR) (G_law_rises:aE P w K mg base 3 "_law_rises" 4 ij):aE P w K mg base 4 "_law_case" 1 iW:=by
 refine bc A oA rfl rfl fun f cdv A outer s H E hr=> ?_
 have hu:=bT hr
 have S:=oA
 exact ag (aW 1 S.nd (aK cM cc (PQ.bo (bE G_law_cell (hr.mono (by decide)) (ac (al 0) (ac (ak) (aj))))) (PQ.bo (ak))))
     (ag (aW 2 S.nd (ak))
     (ag (ce (bG pe mj (ae 1) (PQ.bo (ak)))
     (ar (aW 2 S.nd (aK cM cc (PQ.bo (bE G_law_cell (hr.mono (by decide)) (ac (al 0) (ac (ak) (aj))))) (PQ.bo (ak)))))
     (aQ))
     (ag (aW 3 S.nd (aK cM cc (PQ.bo (bE G_law_cell (hr.mono (by decide)) (ac (al 0) (ac (ak) (aj))))) (PQ.bo (ak))))
     (ag (aW 4 S.nd (aK cM cc (PQ.bo (aK eZ dv (PQ.bo (bE G_law_cell (hr.mono (by decide)) (ac (al 0) (ac (ak) (aj))))) (PQ.bo (ak)))) (PQ.bo (ak))))
     (ag (aW 5 S.nd (bE G_law_streams (hr.mono (by decide)) (ac (al 0) (ac (al 1) (ac (al 2) (aj))))))
     (ag (aW 6 S.nd (bE G_law_metered (hr.mono (by decide)) (ac (al 0) (ac (al 5) (ac (aK cM cc (PQ.bo (bE G_law_cell (hr.mono (by decide)) (ac (al 0) (ac (ak) (aj))))) (PQ.bo (ak))) (aj))))))
     (ag (aW 7 S.nd (bE G_law_truth (hr.mono (by decide)) (ac (al 0) (ac (al 1) (ac (al 5) (ac (al 6) (ac (al 4) (aj))))))))
     (ag (aW 8 S.nd (bE G_law_readings (hr.mono (by decide)) (ac (al 0) (ac (aS hu (ae 7) (PQ.bo (ak))) (ac (al 6) (ac (al 3) (ac (al 4) (aj))))))))
     (ag (aW 9 S.nd (bE G_law_rises (hr.mono (by decide)) (ac (al 0) (ac (aS hu (ae 7) (PQ.bo (ak))) (ac (al 3) (ac (al 4) (aj)))))))
     (ar (aR (cB (ac (al 1) (ac (bn bv cq (B.no "tuple" (by decide)) L2.Pu.bu (aA (ae 5) (aO))) (ac (bn bv cq (B.no "tuple" (by decide)) L2.Pu.bu (aA (ae 9) (aO))) (ac (bn bv cq (B.no "tuple" (by decide)) L2.Pu.bu (aA (ae 8) (aO))) (aj)))))))))))))))))
theorem qt:aI ["_law_script","_law_case_here","_law_turned","_law_half","_law_mid"] ["_law_script","_law_case_here"] (ah hU):=⟨rfl,rfl,rfl,by decide+kernel,rfl,by decide+kernel,by decide+kernel⟩
theorem wt (A:aP K mg "_law_day" hU ["_law_script","_law_case_here"]) (B:Bl mg BN) (G_law_cell:aE P w K mg base 2 "_law_cell" 2 aB) (G_Day_init:qa P w K mg base 1 "Day" 4 cW):aE P w K mg base 3 "_law_day" 2 jS:=by
 refine bc A qt rfl rfl fun f cdv A outer s H E hr=> ?_
 have hu:=bT hr
 have S:=qt
 exact ag (aW 2 S.nd (aK cM cc (PQ.bo (bE G_law_cell (hr.mono (by decide)) (ac (al 0) (ac (ak) (aj))))) (PQ.bo (ak))))
     (ag (ce (bG dI cC (ae 2) (PQ.bo (ak)))
     (ar (aR (sX G_Day_init (hr.mono (by decide)) (ac (aS hu (ae 1) (PQ.bo (ak))) (ac (bn e_ jI (B.no "list" (by decide)) L2.Pu.gW (aA (PQ.bo (aS hu (ae 1) (PQ.bo (ak)))) (aO))) (ac (bn e_ jI (B.no "list" (by decide)) L2.Pu.gW (aA (PQ.bo (aS hu (ae 1) (PQ.bo (ak)))) (aO))) (ac (bn e_ jI (B.no "list" (by decide)) L2.Pu.gW (aA (PQ.bo (aS hu (ae 1) (PQ.bo (ak)))) (aO))) (aj))))))))
     (aQ))
     (ag (ce (bG dI cC (ae 2) (PQ.bo (ak)))
     (ar (aR (sX G_Day_init (hr.mono (by decide)) (ac (aS hu (ae 1) (PQ.bo (ak))) (ac (E5 (PQ.bo (bn e_ jI (B.no "list" (by decide)) L2.Pu.gW (aA (PQ.bo (aS hu (ae 1) (PQ.bo (ak)))) (aO))))) (ac (bn e_ jI (B.no "list" (by decide)) L2.Pu.gW (aA (PQ.bo (aS hu (ae 1) (PQ.bo (ak)))) (aO))) (ac (E5 (PQ.bo (bn e_ jI (B.no "list" (by decide)) L2.Pu.gW (aA (PQ.bo (aS hu (ae 1) (PQ.bo (ak)))) (aO))))) (aj))))))))
     (aQ))
     (ag (ce (bG dI cC (ae 2) (PQ.bo (ak)))
     (ar (aR (sX G_Day_init (hr.mono (by decide)) (ac (aS hu (ae 1) (PQ.bo (ak))) (ac (aS hu (ae 1) (PQ.bo (ak))) (ac (aS hu (ae 1) (PQ.bo (ak))) (ac (aS hu (ae 1) (PQ.bo (ak))) (aj))))))))
     (aQ))
     (ag (aW 3 S.nd (aK eZ dv (PQ.bo (bz bN cH (B.no "len" (by decide)) PySem.boot_len (aA (PQ.bo (aS hu (ae 1) (PQ.bo (ak)))) (aO)))) (PQ.bo (ak))))
     (ag (aW 4 S.nd (aK eZ dv (PQ.bo (bz bN cH (B.no "len" (by decide)) PySem.boot_len (aA (PQ.bo (aS hu (ae 1) (PQ.bo (ak)))) (aO)))) (PQ.bo (ak))))
     (ar (aR (sX G_Day_init (hr.mono (by decide)) (ac (aS hu (ae 1) (PQ.bo (ak))) (ac (aK bH bI (PQ.bo (kf (PQ.bo (aS hu (ae 1) (PQ.bo (ak)))) (mn (al 3)) (ml))) (PQ.bo (kf (PQ.bo (aS hu (ae 1) (PQ.bo (ak)))) (ml) (mn (al 3))))) (ac (aS hu (ae 1) (PQ.bo (ak))) (ac (aK bH bI (PQ.bo (kf (PQ.bo (aS hu (ae 1) (PQ.bo (ak)))) (mn (al 4)) (ml))) (PQ.bo (kf (PQ.bo (aS hu (ae 1) (PQ.bo (ak)))) (ml) (mn (al 4))))) (aj)))))))))))))
theorem oB:aI ["_law_day_here","_law_case_here"] ["_law_day_here","_law_case_here"] (ah gg):=⟨rfl,rfl,rfl,by decide+kernel,rfl,by decide+kernel,by decide+kernel⟩
theorem uT (A:aP K mg "_law_kept" gg ["_law_day_here","_law_case_here"]) (B:Bl mg BN) (G_law_same:aE P w K mg base 8 "_law_same" 2 ba) (T_Day:lO K "Day" gY):aE P w K mg base 9 "_law_kept" 2 iX:=by
 refine bc A oB rfl rfl fun f cdv A outer s H E hr=> ?_
 have hu:=bT hr
 have S:=oB
 exact ag (ce (nI.t (kP (eK (d4 (PQ.bo (bE G_law_same (hr.mono (by decide)) (ac (fE T_Day (by decide) (ae 0)) (ac (aS hu (ae 1) (PQ.bo (ak))) (aj))))))) (jE (eK (d4 (PQ.bo (bE G_law_same (hr.mono (by decide)) (ac (fE T_Day (by decide) (ae 0)) (ac (aS hu (ae 1) (PQ.bo (ak))) (aj))))))))))
     (ar (aR (gu)))
     (aQ))
     (ar (aR (rH (bE G_law_same (hr.mono (by decide)) (ac (fE T_Day (by decide) (ae 0)) (ac (aS hu (ae 1) (PQ.bo (ak))) (aj)))) (uf (bE G_law_same (hr.mono (by decide)) (ac (fE T_Day (by decide) (ae 0)) (ac (aS hu (ae 1) (PQ.bo (ak))) (aj))))))))
theorem ng:aI ["_law_case_here","_law_read"] ["_law_case_here"] (ah eU):=⟨rfl,rfl,rfl,by decide+kernel,rfl,by decide+kernel,by decide+kernel⟩
theorem tf (A:aP K mg "_law_loose" eU ["_law_case_here"]) (B:Bl mg BN):aE P w K mg base 1 "_law_loose" 1 bP:=by
 refine bc A ng rfl rfl fun f cdv A outer s H E hr=> ?_
 have hu:=bT hr
 have S:=ng
 exact ag (D3 1 (bR.of rfl (by first|decide+kernel|rfl)) rfl S.nd (dJ (aS hu (ae 0) (PQ.bo (ak)))) (fun _ _ _=>a_ 1 (show ([".0","_law_row"]:List Str).Nodup by decide+kernel)) (fun _ _ _=>me) (fun _ _ _=>aS hu (ae 1) (PQ.bo (ak))))
     (ar (aR (ke (bR.of rfl (by first|decide+kernel|rfl)) rfl (dJ (aS hu (ae 0) (PQ.bo (ak)))) (fun _ _ _=>a_ 1 (show ([".0","_law_stream","_law_read"]:List Str).Nodup by decide+kernel)) (fun _ _ _=>mf (fQ hu (PQ.bo (aS hu (ae 1) (PQ.bo (ak)))) (ae 2))) (fun _ _ _=>al 1))))
theorem nj:aI ["_law_streams_here","_law_place","_law_seen","_law_grown","_law_number","_law_source","_law_target"] ["_law_streams_here","_law_place"] (ah eV):=⟨rfl,rfl,rfl,by decide+kernel,rfl,by decide+kernel,by decide+kernel⟩
theorem tj (A:aP K mg "_law_flood" eV ["_law_streams_here","_law_place"]) (B:Bl mg BN):aE P w K mg base 1 "_law_flood" 2 dc:=by
 refine bc A nj rfl rfl fun f cdv A outer s H E hr=> ?_
 have hu:=bT hr
 have S:=nj
 exact ag (fV 2 S.nd (ac (al 1) (aj)))
     (ag (aW 3 S.nd (gu))
     (ag (sK 100 PassesOwn.leaving (d4 (ae 3))
     (ag (aW 3 S.nd (gu))
     (ar (fG PassesOwn.leaving rfl (dJ (al 0)) (oh rfl (cb (a_ 4 S.nd) (cb (a_ 5 S.nd) (cb (a_ 6 S.nd) (kd)))))
     (ag (ce (nI.t (pP (AA hu (ae 5) (ae 2)) (ma (fQ hu (ae 6) (ae 2)))))
     (ag (cT 2 (al 6))
     (ar (aW 3 S.nd (gu))))
     (aQ))
     (ar (ce (nI.t (pP (AA hu (ae 6) (ae 2)) (ma (fQ hu (ae 5) (ae 2)))))
     (ag (cT 2 (al 5))
     (ar (aW 3 S.nd (gu))))
     (aQ))))))))
     (ar (lM [2] (aR (al 2))))))
theorem qu:aI ["_law_streams_here","_law_amounts","_law_group","_law_total","_law_carried","_law_tank","_law_number","_law_source","_law_target"] ["_law_streams_here","_law_amounts","_law_group"] (ah hV):=⟨rfl,rfl,rfl,by decide+kernel,rfl,by decide+kernel,by decide+kernel⟩
theorem wu (A:aP K mg "_law_net" hV ["_law_streams_here","_law_amounts","_law_group"]) (B:Bl mg BN):aE P w K mg base 1 "_law_net" 3 eA:=by
 refine bc A qu rfl rfl fun f cdv A outer s H E hr=> ?_
 have hu:=bT hr
 have S:=qu
 exact ag (aW 3 S.nd (ak))
     (ag (aW 4 S.nd (bn (ic rfl) kT (B.no "dict" (by decide)) L2.Pu.jM (aA (ae 1) (aO))))
     (ag (fG PassesOwn.leaving rfl (dJ (al 2)) (a_ 5 S.nd)
     (ar (fG PassesOwn.leaving rfl (dJ (al 0)) (oh rfl (cb (a_ 6 S.nd) (cb (a_ 7 S.nd) (cb (a_ 8 S.nd) (kd)))))
     (ag (ce (bG dI cC (ae 8) (ae 5))
     (ar (aW 3 S.nd (aK bH bI (ae 3) (PQ.bo (w5 hu (ae 4) (al 6) (ak))))))
     (aQ))
     (ar (ce (bG dI cC (ae 7) (ae 5))
     (ar (aW 3 S.nd (aK eG da (ae 3) (PQ.bo (w5 hu (ae 4) (al 6) (ak))))))
     (aQ)))))))
     (ar (aR (al 3)))))
theorem iZ:aI ["_law_case_here","_law_found","_law_loose_here","_law_tank","_law_group","_law_rise","_law_came"] ["_law_case_here"] (ah ck):=⟨rfl,rfl,rfl,by decide+kernel,rfl,by decide+kernel,by decide+kernel⟩
theorem mE (A:aP K mg "_law_due_clashes" ck ["_law_case_here"]) (B:Bl mg BN) (G_law_loose:aE P w K mg base 1 "_law_loose" 1 bP) (G_law_flood:aE P w K mg base 1 "_law_flood" 2 dc) (G_law_net:aE P w K mg base 1 "_law_net" 3 eA):aE P w K mg base 2 "_law_due_clashes" 1 de:=by
 refine bc A iZ rfl rfl fun f cdv A outer s H E hr=> ?_
 have hu:=bT hr
 have S:=iZ
 exact ag (fV 1 S.nd (aj))
     (ag (aW 2 S.nd (bE G_law_loose (hr.mono (by decide)) (ac (al 0) (aj))))
     (ag (fG PassesOwn.leaving rfl (ug (B.no "range" (by decide)) (ac (ak) (ac (aK bH bI (PQ.bo (aS hu (ae 0) (PQ.bo (ak)))) (PQ.bo (ak))) (aj)))) (a_ 3 S.nd)
     (ag (aW 4 S.nd (bz (iD rfl) jf (B.no "sorted" (by decide)) L2.Pu.je (aA (PQ.bo (bE G_law_flood (hr.mono (by decide)) (ac (al 2) (ac (al 3) (aj))))) (aO))))
     (ag (ce (bG j9 gE (PQ.bo (aS hu (ae 4) (PQ.bo (ak)))) (ae 3))
     (ar (pR))
     (aQ))
     (ag (aW 5 S.nd (bz (lr rfl) o_ (B.no "sum" (by decide)) L2.Pu.lx (aA (PQ.bo (ke (bR.of rfl (by first|decide+kernel|rfl)) rfl (dJ (al 4)) (fun _ _ _=>a_ 1 (show ([".0","_law_one","_law_case_here"]:List Str).Nodup by decide+kernel)) (fun _ _ _=>me) (fun _ _ _=>aS hu (PQ.bo (aS hu (ae 2) (PQ.bo (ak)))) (PQ.bo (aK eG da (ae 1) (PQ.bo (ak))))))) (aO))))
     (ag (aW 6 S.nd (bE G_law_net (hr.mono (by decide)) (ac (aS hu (ae 0) (PQ.bo (ak))) (ac (aS hu (ae 0) (PQ.bo (ak))) (ac (al 4) (aj))))))
     (ar (ce (bG j9 gE (ae 5) (ae 6))
     (ar (cT 1 (cB (ac (bn bv cq (B.no "tuple" (by decide)) L2.Pu.bu (aA (ae 4) (aO))) (ac (al 5) (ac (al 6) (aj)))))))
     (aQ))))))))
     (ar (aR (bn bv cq (B.no "tuple" (by decide)) L2.Pu.bu (aA (ae 1) (aO)))))))
theorem kC:aI ["_law_group","_law_n","_law_last","_law_tank"] ["_law_group","_law_n"] (ah cZ):=⟨rfl,rfl,rfl,by decide+kernel,rfl,by decide+kernel,by decide+kernel⟩
theorem oR (A:aP K mg "_law_is_group" cZ ["_law_group","_law_n"]) (B:Bl mg BN) (G_law_whole:aE P w K mg base 1 "_law_whole" 1 c0):aE P w K mg base 2 "_law_is_group" 2 eW:=by
 refine bc A kC rfl rfl fun f cdv A outer s H E hr=> ?_
 have hu:=bT hr
 have S:=kC
 exact ag (ce (nI.t (kP (eK (d4 (PQ.bo (jJ (.inr (.inr (.inr (.inl rfl)))) (B.no "isinstance" (by decide)) (B.no "tuple" (by decide)) L2.Pu.bu (ae 0))))) (jE (bG dI cC (PQ.bo (bz bN cH (B.no "len" (by decide)) PySem.boot_len (aA (ae 0) (aO)))) (PQ.bo (ak))))))
     (ar (aR (gu)))
     (aQ))
     (ag (aW 2 S.nd (ak))
     (ag (fG PassesOwn.leaving rfl (dJ (al 0)) (a_ 3 S.nd)
     (ag (ce (nI.t (kP (eK (d4 (PQ.bo (bE G_law_whole (hr.mono (by decide)) (ac (al 3) (aj)))))) (kP (bG Gx Fy (ae 3) (ae 2)) (jE (bG pe mj (ae 3) (ae 1))))))
     (ar (aR (gu)))
     (aQ))
     (ar (aW 2 S.nd (al 3)))))
     (ar (aR (gu)))))
theorem oE:aI ["_law_stream","_law_group"] ["_law_stream","_law_group"] (ah gj):=⟨rfl,rfl,rfl,by decide+kernel,rfl,by decide+kernel,by decide+kernel⟩
theorem uU (A:aP K mg "_law_into" gj ["_law_stream","_law_group"]) (B:Bl mg BN):aE P w K mg base 1 "_law_into" 2 hW:=by
 refine bc A oE rfl rfl fun f cdv A outer s H E hr=> ?_
 have hu:=bT hr
 have S:=oE
 exact ar (aR (aK eG da (PQ.bo (bn lm p0 (B.no "int" (by decide)) L2.Pu.jN (aA (PQ.bo (yz hu (PQ.bo (aS hu (ae 0) (PQ.bo (ak)))) (ae 1))) (aO)))) (PQ.bo (bn lm p0 (B.no "int" (by decide)) L2.Pu.jN (aA (PQ.bo (yz hu (PQ.bo (aS hu (ae 0) (PQ.bo (ak)))) (ae 1))) (aO))))))
theorem lV:aI ["_law_streams_here","_law_steps","_law_place","_law_goal","_law_ends","_law_number","_law_source","_law_target","_law_passed","_law_step"] ["_law_streams_here","_law_steps","_law_place","_law_goal"] (ah dY):=⟨rfl,rfl,rfl,by decide+kernel,rfl,by decide+kernel,by decide+kernel⟩
theorem qY (A:aP K mg "_law_is_way" dY ["_law_streams_here","_law_steps","_law_place","_law_goal"]) (B:Bl mg BN) (G_law_whole:aE P w K mg base 1 "_law_whole" 1 c0):aE P w K mg base 2 "_law_is_way" 4 gL:=by
 refine bc A lV rfl rfl fun f cdv A outer s H E hr=> ?_
 have hu:=bT hr
 have S:=lV
 exact ag (ce (eK (d4 (PQ.bo (jJ (.inr (.inr (.inr (.inl rfl)))) (B.no "isinstance" (by decide)) (B.no "tuple" (by decide)) L2.Pu.bu (ae 1)))))
     (ar (aR (gu)))
     (aQ))
     (ag (Al 4 S.nd)
     (ag (fG PassesOwn.leaving rfl (dJ (al 0)) (oh rfl (cb (a_ 5 S.nd) (cb (a_ 6 S.nd) (cb (a_ 7 S.nd) (kd)))))
     (ar (uh 4 hu (al 5) (cB (ac (al 6) (ac (al 7) (aj)))))))
     (ag (fV 8 S.nd (ac (al 2) (aj)))
     (ag (fG PassesOwn.leaving rfl (dJ (al 1)) (a_ 9 S.nd)
     (ag (ce (nI.t (kP (eK (d4 (PQ.bo (jJ (.inr (.inr (.inr (.inl rfl)))) (B.no "isinstance" (by decide)) (B.no "tuple" (by decide)) L2.Pu.bu (ae 9))))) (kP (bG j9 gE (PQ.bo (bz bN cH (B.no "len" (by decide)) PySem.boot_len (aA (ae 9) (aO)))) (PQ.bo (ak))) (kP (eK (d4 (PQ.bo (bE G_law_whole (hr.mono (by decide)) (ac (aS hu (ae 9) (PQ.bo (ak))) (aj)))))) (jE (eK (d4 (PQ.bo (bE G_law_whole (hr.mono (by decide)) (ac (aS hu (ae 9) (PQ.bo (ak))) (aj)))))))))))
     (ar (aR (gu)))
     (aQ))
     (ag (ce (nI.t (kP (fQ hu (PQ.bo (aS hu (ae 9) (PQ.bo (ak)))) (ae 4)) (jE (fQ hu (PQ.bo (aS hu (ae 9) (PQ.bo (ak)))) (PQ.bo (cB (ac (ak) (ac (sJ jl iC (PQ.bo (ak))) (aj)))))))))
     (ar (aR (gu)))
     (aQ))
     (ag (Aj (aS hu (ae 4) (PQ.bo (aS hu (ae 9) (PQ.bo (ak))))) (oh rfl (cb (a_ 6 S.nd) (cb (a_ 7 S.nd) (kd)))))
     (ag (ce (bG dI cC (PQ.bo (aS hu (ae 9) (PQ.bo (ak)))) (PQ.bo (sJ jl iC (PQ.bo (ak)))))
     (ar (Hb 6 7 rfl S.nd (ac (al 7) (ac (al 6) (aj)))))
     (aQ))
     (ag (ce (nI.t (kP (bG j9 gE (ae 6) (PQ.bo (aS hu (ae 8) (PQ.bo (sJ jl iC (PQ.bo (ak))))))) (jE (AA hu (ae 7) (ae 8)))))
     (ar (aR (gu)))
     (aQ))
     (ar (cT 8 (al 7)))))))))
     (ar (aR (mR dI cC (PQ.bo (aS hu (ae 8) (PQ.bo (sJ jl iC (PQ.bo (ak)))))) (ae 3))))))))
theorem ll:aI ["_law_case_here","_law_stream","_law_ring","_law_others"] ["_law_case_here","_law_stream","_law_ring"] (ah dn):=⟨rfl,rfl,rfl,by decide+kernel,rfl,by decide+kernel,by decide+kernel⟩
theorem qv (A:aP K mg "_law_is_ring" dn ["_law_case_here","_law_stream","_law_ring"]) (B:Bl mg BN) (G_law_same:aE P w K mg base 8 "_law_same" 2 ba) (G_law_loose:aE P w K mg base 1 "_law_loose" 1 bP) (G_law_is_way:aE P w K mg base 2 "_law_is_way" 4 gL):aE P w K mg base 9 "_law_is_ring" 3 eB:=by
 refine bc A ll rfl rfl fun f cdv A outer s H E hr=> ?_
 have hu:=bT hr
 have S:=ll
 exact ag (ce (nI.t (kP (eK (d4 (PQ.bo (jJ (.inr (.inr (.inr (.inl rfl)))) (B.no "isinstance" (by decide)) (B.no "tuple" (by decide)) L2.Pu.bu (ae 2))))) (kP (bG dI cC (PQ.bo (bz bN cH (B.no "len" (by decide)) PySem.boot_len (aA (ae 2) (aO)))) (PQ.bo (ak))) (jE (eK (d4 (PQ.bo (bE G_law_same (hr.mono (by decide)) (ac (aS hu (ae 2) (PQ.bo (ak))) (ac (cB (ac (aS hu (ae 1) (PQ.bo (ak))) (ac (ak) (aj)))) (aj)))))))))))
     (ar (aR (gu)))
     (aQ))
     (ag (sL 3 (bR.of rfl (by first|decide+kernel|rfl)) rfl S.nd (dJ (bE G_law_loose (hr.mono (by decide)) (ac (al 0) (aj)))) (fun _ _ _=>a_ 1 (show ([".0","_law_one","_law_stream"]:List Str).Nodup by decide+kernel)) (fun _ _ _=>mf (bG j9 gE (PQ.bo (aS hu (ae 1) (PQ.bo (ak)))) (PQ.bo (aS hu (ae 2) (PQ.bo (ak)))))) (fun _ _ _=>al 1))
     (ar (lM [3] (aR (bE G_law_is_way (hr.mono (by decide)) (ac (al 3) (ac (kf (ae 2) (mn (ak)) (ml)) (ac (aS hu (ae 1) (PQ.bo (ak))) (ac (aS hu (ae 1) (PQ.bo (ak))) (aj))))))))))
theorem jj:aI ["_law_case_here","_law_number","_law_group"] ["_law_case_here","_law_number","_law_group"] (ah cu):=⟨rfl,rfl,rfl,by decide+kernel,rfl,by decide+kernel,by decide+kernel⟩
theorem nk (A:aP K mg "_law_parts_only" cu ["_law_case_here","_law_number","_law_group"]) (B:Bl mg BN) (G_law_is_group:aE P w K mg base 2 "_law_is_group" 2 eW) (G_law_loose:aE P w K mg base 1 "_law_loose" 1 bP) (G_law_into:aE P w K mg base 1 "_law_into" 2 hW):aE P w K mg base 3 "_law_parts_only" 3 dE:=by
 refine bc A jj rfl rfl fun f cdv A outer s H E hr=> ?_
 have hu:=bT hr
 have S:=jj
 exact ag (ce (eK (d4 (PQ.bo (bE G_law_is_group (hr.mono (by decide)) (ac (al 2) (ac (aS hu (ae 0) (PQ.bo (ak))) (aj)))))))
     (ar (aR (gu)))
     (aQ))
     (ar (aR (mR (wk hu) t4 (PQ.bo (ke (bR.of rfl (by first|decide+kernel|rfl)) rfl (dJ (bE G_law_loose (hr.mono (by decide)) (ac (al 0) (aj)))) (fun _ _ _=>a_ 1 (show ([".0","_law_stream","_law_into","_law_group"]:List Str).Nodup by decide+kernel)) (fun _ _ _=>mf (bG j9 gE (PQ.bo (bE G_law_into (hr.mono (by decide)) (ac (al 1) (ac (al 3) (aj))))) (PQ.bo (ak)))) (fun _ _ _=>aS hu (ae 1) (PQ.bo (ak))))) (PQ.bo (iL (ac (al 1) (aj)))))))
theorem jk:aI ["_law_case_here","_law_stream","_law_found","_law_read","_law_others","_law_rise"] ["_law_case_here","_law_stream","_law_found"] (ah cw):=⟨rfl,rfl,rfl,by decide+kernel,rfl,by decide+kernel,by decide+kernel⟩
theorem nl (A:aP K mg "_law_told_right" cw ["_law_case_here","_law_stream","_law_found"]) (B:Bl mg BN) (G_law_same:aE P w K mg base 8 "_law_same" 2 ba) (G_law_loose:aE P w K mg base 1 "_law_loose" 1 bP) (G_law_flood:aE P w K mg base 1 "_law_flood" 2 dc) (G_law_is_ring:aE P w K mg base 9 "_law_is_ring" 3 eB) (G_law_parts_only:aE P w K mg base 3 "_law_parts_only" 3 dE) (G_law_whole:aE P w K mg base 1 "_law_whole" 1 c0) (G_law_net:aE P w K mg base 1 "_law_net" 3 eA):aE P w K mg base 10 "_law_told_right" 3 bS:=by
 refine bc A jk rfl rfl fun f cdv A outer s H E hr=> ?_
 have hu:=bT hr
 have S:=jk
 exact ag (ce (nI.t (kP (eK (d4 (PQ.bo (jJ (.inr (.inr (.inr (.inl rfl)))) (B.no "isinstance" (by decide)) (B.no "tuple" (by decide)) L2.Pu.bu (ae 2))))) (jE (bG j9 gE (PQ.bo (bz bN cH (B.no "len" (by decide)) PySem.boot_len (aA (ae 2) (aO)))) (PQ.bo (ak))))))
     (ar (aR (gu)))
     (aQ))
     (ag (aW 3 S.nd (bn (ic rfl) kT (B.no "dict" (by decide)) L2.Pu.jM (aA (PQ.bo (aS hu (ae 0) (PQ.bo (ak)))) (aO))))
     (ag (ce (AA hu (PQ.bo (aS hu (ae 1) (PQ.bo (ak)))) (ae 3))
     (ar (aR (bE G_law_same (hr.mono (by decide)) (ac (al 2) (ac (cB (ac (iz) (ac (aS hu (ae 3) (PQ.bo (aS hu (ae 1) (PQ.bo (ak))))) (ac (cB (aj)) (ac (cB (aj)) (aj)))))) (aj))))))
     (aQ))
     (ag (sL 4 (bR.of rfl (by first|decide+kernel|rfl)) rfl S.nd (dJ (bE G_law_loose (hr.mono (by decide)) (ac (al 0) (aj)))) (fun _ _ _=>a_ 1 (show ([".0","_law_one","_law_stream"]:List Str).Nodup by decide+kernel)) (fun _ _ _=>mf (bG j9 gE (PQ.bo (aS hu (ae 1) (PQ.bo (ak)))) (PQ.bo (aS hu (ae 2) (PQ.bo (ak)))))) (fun _ _ _=>al 1))
     (ag (lM [4] (ce (AA hu (PQ.bo (aS hu (ae 1) (PQ.bo (ak)))) (PQ.bo (bE G_law_flood (hr.mono (by decide)) (ac (al 4) (ac (aS hu (ae 1) (PQ.bo (ak))) (aj))))))
     (ag (ce (eK (d4 (PQ.bo (bE G_law_same (hr.mono (by decide)) (ac (kf (ae 2) (ml) (mn (ak))) (ac (cB (ac (iz) (ac (o9) (ac (cB (aj)) (aj))))) (aj)))))))
     (ar (aR (gu)))
     (aQ))
     (ar (aR (bE G_law_is_ring (hr.mono (by decide)) (ac (al 0) (ac (al 1) (ac (aS hu (ae 2) (PQ.bo (ak))) (aj))))))))
     (aQ)))
     (ag (ce (nI.t (kP (eK (d4 (PQ.bo (bE G_law_same (hr.mono (by decide)) (ac (aS hu (ae 2) (PQ.bo (ak))) (ac (iz) (aj))))))) (jE (eK (d4 (PQ.bo (bE G_law_same (hr.mono (by decide)) (ac (aS hu (ae 2) (PQ.bo (ak))) (ac (cB (aj)) (aj))))))))))
     (ar (aR (gu)))
     (aQ))
     (ag (ce (nI.t (kP (eK (d4 (PQ.bo (bE G_law_parts_only (hr.mono (by decide)) (ac (al 0) (ac (aS hu (ae 1) (PQ.bo (ak))) (ac (aS hu (ae 2) (PQ.bo (ak))) (aj)))))))) (jE (eK (d4 (PQ.bo (bE G_law_whole (hr.mono (by decide)) (ac (aS hu (ae 2) (PQ.bo (ak))) (aj)))))))))
     (ar (aR (gu)))
     (aQ))
     (ag (aW 5 S.nd (bz (lr rfl) o_ (B.no "sum" (by decide)) L2.Pu.lx (aA (PQ.bo (ke (bR.of rfl (by first|decide+kernel|rfl)) rfl (dJ (aS hu (ae 2) (PQ.bo (ak)))) (fun _ _ _=>a_ 1 (show ([".0","_law_tank","_law_case_here"]:List Str).Nodup by decide+kernel)) (fun _ _ _=>me) (fun _ _ _=>aS hu (PQ.bo (aS hu (ae 2) (PQ.bo (ak)))) (PQ.bo (aK eG da (ae 1) (PQ.bo (ak))))))) (aO))))
     (ar (aR (mR dI cC (PQ.bo (bE G_law_net (hr.mono (by decide)) (ac (aS hu (ae 0) (PQ.bo (ak))) (ac (aK bH bI (PQ.bo (aS hu (ae 0) (PQ.bo (ak)))) (PQ.bo (cB (ac (cB (ac (aS hu (ae 1) (PQ.bo (ak))) (ac (aS hu (ae 2) (PQ.bo (ak))) (aj)))) (aj))))) (ac (aS hu (ae 2) (PQ.bo (ak))) (aj)))))) (ae 5)))))))))))
theorem nn:aI ["_law_day_here","_law_number","_law_kinds","e","_law_word"] ["_law_day_here","_law_number"] (ah eX):=⟨rfl,rfl,rfl,by decide+kernel,rfl,by decide+kernel,by decide+kernel⟩
theorem tm (A:aP K mg "_law_asked" eX ["_law_day_here","_law_number"]) (B:Bl mg BN) (G_told_of:aE P w K mg base 6 "told_of" 2 b_) (I_Clashing:AY K mg "Clashing" (qS [("UnknownStream",false),("NotMetered",false),("Clashing",true)])) (I_UnknownStream:AY K mg "UnknownStream" (qS [("UnknownStream",true),("NotMetered",false),("Clashing",false)])) (I_ValueError:qd K (.type "ValueError") (qS [("UnknownStream",true),("NotMetered",true),("Clashing",true)])) (U_CellarError:xp K mg "CellarError" (AW ["UnknownStream","NotMetered","Clashing"])):aE P w K mg base 7 "_law_asked" 2 cE:=by
 refine bc A nn rfl rfl fun f cdv A outer s H E hr=> ?_
 have hu:=bT hr
 have S:=nn
 exact ag (fV 2 S.nd (aj))
     (ag (Hn 3 pO S.nd U_CellarError (fun _ _=>ar (aR (iL (ac (bE G_told_of (hr.mono (by decide)) (ac (al 0) (ac (al 1) (aj)))) (ac (iz) (aj))))))
     (fun _=>ar (fV 2 S.nd (ac (AZ I_Clashing (B.no "isinstance" (by decide)) (ae 3)) (ac (AZ I_UnknownStream (B.no "isinstance" (by decide)) (ae 3)) (ac (FP I_ValueError L2.Pu.oP (B.no "ValueError" (by decide)) (B.no "isinstance" (by decide)) (ae 3)) (aj)))))))
     (ag (aW 4 S.nd (iz))
     (ag (ce (bG (wk hu) t4 (ae 2) (PQ.bo (iL (ac (gu) (ac (gu) (ac (gu) (aj)))))))
     (ar (aW 4 S.nd (iz)))
     (aQ))
     (ag (ce (bG (wk hu) t4 (ae 2) (PQ.bo (iL (ac (gu) (ac (gu) (ac (gu) (aj)))))))
     (ar (aW 4 S.nd (iz)))
     (aQ))
     (ar (aR (iL (ac (o9) (ac (al 4) (aj))))))))))
theorem B3:aI ["_law_script","_law_case_here","_law_day_here","_law_clash","_law_stream","_law_found","_law_others"] ["_law_script"] (ah lP):=⟨rfl,rfl,rfl,by decide+kernel,rfl,by decide+kernel,by decide+kernel⟩
theorem FY {f:Addr} {fd:FuncData} (F:zk K "law" "law" lP f fd) (B:Bl mg BN) (G_law_case:aE P w K mg base 4 "_law_case" 1 iW) (G_law_day:aE P w K mg base 3 "_law_day" 2 jS) (G_law_due_clashes:aE P w K mg base 2 "_law_due_clashes" 1 de) (G_law_asked:aE P w K mg base 7 "_law_asked" 2 cE) (G_law_told_right:aE P w K mg base 10 "_law_told_right" 3 bS) (G_law_cell:aE P w K mg base 2 "_law_cell" 2 aB) (G_law_kept:aE P w K mg base 9 "_law_kept" 2 iX):i7 P w K mg base (oY P w) 11 f fd ["_law_script"] (yt K 1 rR):=by
 refine Fw F B3 rfl rfl fun cdv A outer s H E hr=> ?_
 have hu:=bT hr
 have S:=B3
 exact ag (aW 1 S.nd (bE G_law_case (hr.mono (by decide)) (ac (al 0) (aj))))
     (ag (aW 2 S.nd (bE G_law_day (hr.mono (by decide)) (ac (al 0) (ac (al 1) (aj)))))
     (ag (aW 3 S.nd (mR (FX hu) De (PQ.bo (bE G_law_due_clashes (hr.mono (by decide)) (ac (al 1) (aj)))) (PQ.bo (cB (aj)))))
     (ag (fG PassesOwn.leaving rfl (dJ (aS hu (ae 1) (PQ.bo (ak)))) (a_ 4 S.nd)
     (ag (aW 5 S.nd (bE G_law_asked (hr.mono (by decide)) (ac (al 2) (ac (aS hu (ae 4) (PQ.bo (ak))) (aj)))))
     (ag (ce (bG j9 gE (PQ.bo (aS hu (ae 5) (PQ.bo (ak)))) (PQ.bo (aS hu (PQ.bo (iL (ac (iz) (ac (iz) (aj))))) (PQ.bo (bn lm p0 (B.no "int" (by decide)) L2.Pu.jN (aA (ae 3) (aO)))))))
     (ar (aR (gu)))
     (aQ))
     (ar (ce (nI.t (pP (eK (d4 (ae 3))) (ma (eK (d4 (PQ.bo (bE G_law_told_right (hr.mono (by decide)) (ac (al 1) (ac (al 4) (ac (aS hu (ae 5) (PQ.bo (ak))) (aj)))))))))))
     (ar (aR (gu)))
     (aQ))))))
     (ag (sL 6 (bR.of rfl (by first|decide+kernel|rfl)) rfl S.nd (ug (B.no "range" (by decide)) (ac (sJ jl iC (PQ.bo (ak))) (ac (ak) (aj)))) (fun _ _ _=>a_ 1 (show ([".0","_law_number","_law_case_here"]:List Str).Nodup by decide+kernel)) (fun _ _ _=>mf (fQ hu (ae 1) (PQ.bo (ke (bR.of rfl (by first|decide+kernel|rfl)) rfl (dJ (aS hu (ae 2) (PQ.bo (ak)))) (fun _ _ _=>a_ 1 (show ([".0","_law_stream"]:List Str).Nodup by decide+kernel)) (fun _ _ _=>me) (fun _ _ _=>aS hu (ae 1) (PQ.bo (ak))))))) (fun _ _ _=>al 1))
     (ag (aW 5 S.nd (bE G_law_asked (hr.mono (by decide)) (ac (al 2) (ac (aS hu (ae 6) (PQ.bo (aK cM cc (PQ.bo (bE G_law_cell (hr.mono (by decide)) (ac (al 0) (ac (ak) (aj))))) (PQ.bo (bz bN cH (B.no "len" (by decide)) PySem.boot_len (aA (ae 6) (aO))))))) (aj)))))
     (ar (aR (rH (mR dI cC (PQ.bo (aS hu (ae 5) (PQ.bo (ak)))) (PQ.bo (iz))) (uf (bE G_law_kept (hr.mono (by decide)) (ac (al 2) (ac (al 1) (aj)))))))))))))
theorem FZ {l:PySem.W.OpenLaw} {h:Heap} {fa f1 f2 f3 f4 f5 f6 f7 f8 f9 f10 f11 f12 f13 f14 f15 f16 f17 f18 f19 f20 f21 f22 f23 f24 f25 f26 f27 f28 f29 f30 f31 f32 f33 f34 f35 f36 f37 f38 f39 f40 f41 f42 f43 f44 f45 C_Day C_CellarError C_Clashing C_NotMetered C_UnknownStream:Addr} (X:K.In h) (G:h.Ns mainGlobals mg) (hfa:mg "law"=some (.ref fa))
  {od1 an1 od2 an2 od3 an3 od4 an4 od5 an5 od6 an6 od7 an7 od8 an8 od9 an9 od10 an10 od11 an11 od12 an12 od13 an13 od14 an14 od15 an15 od16 an16 od17 an17 od18 an18 od19 an19 od20 an20 od21 an21 od22 an22 od23 an23 od24 an24 od25 an25 od26 an26 od27 an27 od28 an28 od29 an29 od30 an30 od31 an31 od32 an32 od33 an33 od34 an34 od35 an35 od36 an36 od37 an37 od38 an38 od39 an39 od40 an40 od41 an41 od42 an42 od43 an43 od44 an44 od45 an45:Option Addr} {sl1 sl2 sl3 sl4 sl5 sl6 sl7 sl8 sl9 sl10 sl11 sl12 sl13 sl14 sl15 sl16 sl17 sl18 sl19 sl20 sl21 sl22 sl23 sl24 sl25 sl26 sl27 sl28 sl29 sl30 sl31 sl32 sl33 sl34 sl35 sl36 sl37 sl38 sl39 sl40 sl41 sl42 sl43 sl44 sl45:Array (Option Value)} {oc1 kV1 dc1 pm1 cd1 ct1 oc2 kV2 dc2 pm2 cd2 ct2 oc3 kV3 dc3 pm3 cd3 ct3 oc4 kV4 dc4 pm4 cd4 ct4 oc5 kV5 dc5 pm5 cd5 ct5 oc6 kV6 dc6 pm6 cd6 ct6 oc7 kV7 dc7 pm7 cd7 ct7 oc8 kV8 dc8 pm8 cd8 ct8 oc9 kV9 dc9 pm9 cd9 ct9 oc10 kV10 dc10 pm10 cd10 ct10 oc11 kV11 dc11 pm11 cd11 ct11 oc12 kV12 dc12 pm12 cd12 ct12 oc13 kV13 dc13 pm13 cd13 ct13 oc14 kV14 dc14 pm14 cd14 ct14 oc15 kV15 dc15 pm15 cd15 ct15 oc16 kV16 dc16 pm16 cd16 ct16 oc17 kV17 dc17 pm17 cd17 ct17 oc18 kV18 dc18 pm18 cd18 ct18 oc19 kV19 dc19 pm19 cd19 ct19 oc20 kV20 dc20 pm20 cd20 ct20 oc21 kV21 dc21 pm21 cd21 ct21 oc22 kV22 dc22 pm22 cd22 ct22 oc23 kV23 dc23 pm23 cd23 ct23 oc24 kV24 dc24 pm24 cd24 ct24 oc25 kV25 dc25 pm25 cd25 ct25 oc26 kV26 dc26 pm26 cd26 ct26 oc27 kV27 dc27 pm27 cd27 ct27 oc28 kV28 dc28 pm28 cd28 ct28 oc29 kV29 dc29 pm29 cd29 ct29 oc30 kV30 dc30 pm30 cd30 ct30 oc31 kV31 dc31 pm31 cd31 ct31 oc32 kV32 dc32 pm32 cd32 ct32 oc33 kV33 dc33 pm33 cd33 ct33 oc34 kV34 dc34 pm34 cd34 ct34 oc35 kV35 dc35 pm35 cd35 ct35 oc36 kV36 dc36 pm36 cd36 ct36 oc37 kV37 dc37 pm37 cd37 ct37 oc38 kV38 dc38 pm38 cd38 ct38 oc39 kV39 dc39 pm39 cd39 ct39 oc40 kV40 dc40 pm40 cd40 ct40 oc41 kV41 dc41 pm41 cd41 ct41 oc42 kV42 dc42 pm42 cd42 ct42 oc43 kV43 dc43 pm43 cd43 ct43 oc44 kV44 dc44 pm44 cd44 ct44 oc45 kV45 dc45 pm45 cd45 ct45:Value}
  (n_Day:PySem.W.nsIn K mainGlobals "Day"=some (some (.ref C_Day)))
  (n_CellarError:PySem.W.nsIn K mainGlobals "CellarError"=some (some (.ref C_CellarError)))
  (n_Clashing:PySem.W.nsIn K mainGlobals "Clashing"=some (some (.ref C_Clashing)))
  (n_NotMetered:PySem.W.nsIn K mainGlobals "NotMetered"=some (some (.ref C_NotMetered)))
  (n_UnknownStream:PySem.W.nsIn K mainGlobals "UnknownStream"=some (some (.ref C_UnknownStream)))
  (p1_Day:PySem.W.plainGet K C_Day Str.empty=true)
  (p2_Day:PySem.W.hasDictIn K C_Day=true)
  (p3_Day:PySem.W.plainOver K C_Day=true)
  (p4_Day:PySem.W.findIn K (.ref C_Day) "__setattr__"=some (some (.builtin "object.__setattr__")))
  (q_Day_tanks:PySem.W.findIn K (.ref C_Day) "tanks"=some none)
  (q_Day_streams:PySem.W.findIn K (.ref C_Day) "streams"=some none)
  (q_Day_rises:PySem.W.findIn K (.ref C_Day) "rises"=some none)
  (q_Day_readings:PySem.W.findIn K (.ref C_Day) "readings"=some none)
  (p5_Day:PySem.W.makesIn K C_Day=true)
  (p6_Day:PySem.W.keepIn K (.ref C_Day)=true)
  (a1:PySem.W.nsIn K mainGlobals "way_over"=some (some (.ref f1)))
  (l1:K.lookup f1=some ⟨oc1,od1, .func (PySem.W.fnOf "way_over" "way_over" (aN fX) (aG fX) (ah fX) .none kV1 dc1 pm1 an1 cd1 ct1),sl1⟩)
  (c1:PySem.W.codeIn K cd1 "way_over"=true)
  (k1:PySem.W.keepIn K (.ref f1)=true)
  (a2:PySem.W.nsIn K mainGlobals "brought_by"=some (some (.ref f2)))
  (l2:K.lookup f2=some ⟨oc2,od2, .func (PySem.W.fnOf "brought_by" "brought_by" (aN dO) (aG dO) (ah dO) .none kV2 dc2 pm2 an2 cd2 ct2),sl2⟩)
  (c2:PySem.W.codeIn K cd2 "brought_by"=true)
  (k2:PySem.W.keepIn K (.ref f2)=true)
  (a3:PySem.W.nsIn K mainGlobals "rise_of"=some (some (.ref f3)))
  (l3:K.lookup f3=some ⟨oc3,od3, .func (PySem.W.fnOf "rise_of" "rise_of" (aN gZ) (aG gZ) (ah gZ) .none kV3 dc3 pm3 an3 cd3 ct3),sl3⟩)
  (c3:PySem.W.codeIn K cd3 "rise_of"=true)
  (k3:PySem.W.keepIn K (.ref f3)=true)
  (a4:PySem.W.nsIn K mainGlobals "steps_from"=some (some (.ref f4)))
  (l4:K.lookup f4=some ⟨oc4,od4, .func (PySem.W.fnOf "steps_from" "steps_from" (aN dP) (aG dP) (ah dP) .none kV4 dc4 pm4 an4 cd4 ct4),sl4⟩)
  (c4:PySem.W.codeIn K cd4 "steps_from"=true)
  (k4:PySem.W.keepIn K (.ref f4)=true)
  (a5:PySem.W.nsIn K mainGlobals "arrivals_from"=some (some (.ref f5)))
  (l5:K.lookup f5=some ⟨oc5,od5, .func (PySem.W.fnOf "arrivals_from" "arrivals_from" (aN cK) (aG cK) (ah cK) .none kV5 dc5 pm5 an5 cd5 ct5),sl5⟩)
  (c5:PySem.W.codeIn K cd5 "arrivals_from"=true)
  (k5:PySem.W.keepIn K (.ref f5)=true)
  (a6:PySem.W.nsIn K mainGlobals "bunches_of"=some (some (.ref f6)))
  (l6:K.lookup f6=some ⟨oc6,od6, .func (PySem.W.fnOf "bunches_of" "bunches_of" (aN dQ) (aG dQ) (ah dQ) .none kV6 dc6 pm6 an6 cd6 ct6),sl6⟩)
  (c6:PySem.W.codeIn K cd6 "bunches_of"=true)
  (k6:PySem.W.keepIn K (.ref f6)=true)
  (a7:PySem.W.nsIn K mainGlobals "path_of"=some (some (.ref f7)))
  (l7:K.lookup f7=some ⟨oc7,od7, .func (PySem.W.fnOf "path_of" "path_of" (aN g_) (aG g_) (ah g_) .none kV7 dc7 pm7 an7 cd7 ct7),sl7⟩)
  (c7:PySem.W.codeIn K cd7 "path_of"=true)
  (k7:PySem.W.keepIn K (.ref f7)=true)
  (a8:PySem.W.findIn K (.ref C_Day) "stream"=some (some (.ref f8)))
  (l8:K.lookup f8=some ⟨oc8,od8, .func (PySem.W.fnOf "stream" "Day.stream" (aN dR) (aG dR) (ah dR) .none kV8 dc8 pm8 an8 cd8 ct8),sl8⟩)
  (c8:PySem.W.codeIn K cd8 "Day.stream"=true)
  (k8:PySem.W.keepIn K (.ref f8)=true)
  (i8:PySem.W.isFn K (.ref f8)=true)
  (a9:PySem.W.findIn K (.ref C_Day) "metered"=some (some (.ref f9)))
  (l9:K.lookup f9=some ⟨oc9,od9, .func (PySem.W.fnOf "metered" "Day.metered" (aN dh) (aG dh) (ah dh) .none kV9 dc9 pm9 an9 cd9 ct9),sl9⟩)
  (c9:PySem.W.codeIn K cd9 "Day.metered"=true)
  (k9:PySem.W.keepIn K (.ref f9)=true)
  (i9:PySem.W.isFn K (.ref f9)=true)
  (a10:PySem.W.findIn K (.ref C_Day) "without_meter"=some (some (.ref f10)))
  (l10:K.lookup f10=some ⟨oc10,od10, .func (PySem.W.fnOf "without_meter" "Day.without_meter" (aN bU) (aG bU) (ah bU) .none kV10 dc10 pm10 an10 cd10 ct10),sl10⟩)
  (c10:PySem.W.codeIn K cd10 "Day.without_meter"=true)
  (k10:PySem.W.keepIn K (.ref f10)=true)
  (i10:PySem.W.isFn K (.ref f10)=true)
  (a11:PySem.W.nsIn K mainGlobals "others_without_meter"=some (some (.ref f11)))
  (l11:K.lookup f11=some ⟨oc11,od11, .func (PySem.W.fnOf "others_without_meter" "others_without_meter" (aN bF) (aG bF) (ah bF) .none kV11 dc11 pm11 an11 cd11 ct11),sl11⟩)
  (c11:PySem.W.codeIn K cd11 "others_without_meter"=true)
  (k11:PySem.W.keepIn K (.ref f11)=true)
  (a12:PySem.W.nsIn K mainGlobals "ring_of"=some (some (.ref f12)))
  (l12:K.lookup f12=some ⟨oc12,od12, .func (PySem.W.fnOf "ring_of" "ring_of" (aN hG) (aG hG) (ah hG) .none kV12 dc12 pm12 an12 cd12 ct12),sl12⟩)
  (c12:PySem.W.codeIn K cd12 "ring_of"=true)
  (k12:PySem.W.keepIn K (.ref f12)=true)
  (a13:PySem.W.nsIn K mainGlobals "clashes_of"=some (some (.ref f13)))
  (l13:K.lookup f13=some ⟨oc13,od13, .func (PySem.W.fnOf "clashes_of" "clashes_of" (aN dS) (aG dS) (ah dS) .none kV13 dc13 pm13 an13 cd13 ct13),sl13⟩)
  (c13:PySem.W.codeIn K cd13 "clashes_of"=true)
  (k13:PySem.W.keepIn K (.ref f13)=true)
  (a14:PySem.W.nsIn K mainGlobals "refuse_clashes"=some (some (.ref f14)))
  (l14:K.lookup f14=some ⟨oc14,od14, .func (PySem.W.fnOf "refuse_clashes" "refuse_clashes" (aN cr) (aG cr) (ah cr) .none kV14 dc14 pm14 an14 cd14 ct14),sl14⟩)
  (c14:PySem.W.codeIn K cd14 "refuse_clashes"=true)
  (k14:PySem.W.keepIn K (.ref f14)=true)
  (a15:PySem.W.nsIn K mainGlobals "group_of"=some (some (.ref f15)))
  (l15:K.lookup f15=some ⟨oc15,od15, .func (PySem.W.fnOf "group_of" "group_of" (aN fY) (aG fY) (ah fY) .none kV15 dc15 pm15 an15 cd15 ct15),sl15⟩)
  (c15:PySem.W.codeIn K cd15 "group_of"=true)
  (k15:PySem.W.keepIn K (.ref f15)=true)
  (a16:PySem.W.nsIn K mainGlobals "amount_left"=some (some (.ref f16)))
  (l16:K.lookup f16=some ⟨oc16,od16, .func (PySem.W.fnOf "amount_left" "amount_left" (aN di) (aG di) (ah di) .none kV16 dc16 pm16 an16 cd16 ct16),sl16⟩)
  (c16:PySem.W.codeIn K cd16 "amount_left"=true)
  (k16:PySem.W.keepIn K (.ref f16)=true)
  (a17:PySem.W.findIn K (.ref C_Day) "reading"=some (some (.ref f17)))
  (l17:K.lookup f17=some ⟨oc17,od17, .func (PySem.W.fnOf "reading" "Day.reading" (aN dj) (aG dj) (ah dj) .none kV17 dc17 pm17 an17 cd17 ct17),sl17⟩)
  (c17:PySem.W.codeIn K cd17 "Day.reading"=true)
  (k17:PySem.W.keepIn K (.ref f17)=true)
  (i17:PySem.W.isFn K (.ref f17)=true)
  (a18:PySem.W.nsIn K mainGlobals "told_of"=some (some (.ref f18)))
  (l18:K.lookup f18=some ⟨oc18,od18, .func (PySem.W.fnOf "told_of" "told_of" (aN hJ) (aG hJ) (ah hJ) .none kV18 dc18 pm18 an18 cd18 ct18),sl18⟩)
  (c18:PySem.W.codeIn K cd18 "told_of"=true)
  (k18:PySem.W.keepIn K (.ref f18)=true)
  (a19:PySem.W.findIn K (.ref C_Day) "__init__"=some (some (.ref f19)))
  (l19:K.lookup f19=some ⟨oc19,od19, .func (PySem.W.fnOf "__init__" "Day.__init__" (aN eM) (aG eM) (ah eM) .none kV19 dc19 pm19 an19 cd19 ct19),sl19⟩)
  (c19:PySem.W.codeIn K cd19 "Day.__init__"=true)
  (k19:PySem.W.keepIn K (.ref f19)=true)
  (i19:PySem.W.isFn K (.ref f19)=true)
  (a20:PySem.W.nsIn K mainGlobals "_law_at"=some (some (.ref f20)))
  (l20:K.lookup f20=some ⟨oc20,od20, .func (PySem.W.fnOf "_law_at" "_law_at" (aN iT) (aG iT) (ah iT) .none kV20 dc20 pm20 an20 cd20 ct20),sl20⟩)
  (c20:PySem.W.codeIn K cd20 "_law_at"=true)
  (k20:PySem.W.keepIn K (.ref f20)=true)
  (a21:PySem.W.nsIn K mainGlobals "_law_cell"=some (some (.ref f21)))
  (l21:K.lookup f21=some ⟨oc21,od21, .func (PySem.W.fnOf "_law_cell" "_law_cell" (aN fZ) (aG fZ) (ah fZ) .none kV21 dc21 pm21 an21 cd21 ct21),sl21⟩)
  (c21:PySem.W.codeIn K cd21 "_law_cell"=true)
  (k21:PySem.W.keepIn K (.ref f21)=true)
  (a22:PySem.W.nsIn K mainGlobals "_law_same"=some (some (.ref f22)))
  (l22:K.lookup f22=some ⟨oc22,od22, .func (PySem.W.fnOf "_law_same" "_law_same" (aN eN) (aG eN) (ah eN) .none kV22 dc22 pm22 an22 cd22 ct22),sl22⟩)
  (c22:PySem.W.codeIn K cd22 "_law_same"=true)
  (k22:PySem.W.keepIn K (.ref f22)=true)
  (a23:PySem.W.nsIn K mainGlobals "_law_whole"=some (some (.ref f23)))
  (l23:K.lookup f23=some ⟨oc23,od23, .func (PySem.W.fnOf "_law_whole" "_law_whole" (aN eO) (aG eO) (ah eO) .none kV23 dc23 pm23 an23 cd23 ct23),sl23⟩)
  (c23:PySem.W.codeIn K cd23 "_law_whole"=true)
  (k23:PySem.W.keepIn K (.ref f23)=true)
  (a24:PySem.W.nsIn K mainGlobals "_law_streams"=some (some (.ref f24)))
  (l24:K.lookup f24=some ⟨oc24,od24, .func (PySem.W.fnOf "_law_streams" "_law_streams" (aN dk) (aG dk) (ah dk) .none kV24 dc24 pm24 an24 cd24 ct24),sl24⟩)
  (c24:PySem.W.codeIn K cd24 "_law_streams"=true)
  (k24:PySem.W.keepIn K (.ref f24)=true)
  (a25:PySem.W.nsIn K mainGlobals "_law_metered"=some (some (.ref f25)))
  (l25:K.lookup f25=some ⟨oc25,od25, .func (PySem.W.fnOf "_law_metered" "_law_metered" (aN dm) (aG dm) (ah dm) .none kV25 dc25 pm25 an25 cd25 ct25),sl25⟩)
  (c25:PySem.W.codeIn K cd25 "_law_metered"=true)
  (k25:PySem.W.keepIn K (.ref f25)=true)
  (a26:PySem.W.nsIn K mainGlobals "_law_span"=some (some (.ref f26)))
  (l26:K.lookup f26=some ⟨oc26,od26, .func (PySem.W.fnOf "_law_span" "_law_span" (aN f_) (aG f_) (ah f_) .none kV26 dc26 pm26 an26 cd26 ct26),sl26⟩)
  (c26:PySem.W.codeIn K cd26 "_law_span"=true)
  (k26:PySem.W.keepIn K (.ref f26)=true)
  (a27:PySem.W.nsIn K mainGlobals "_law_flows"=some (some (.ref f27)))
  (l27:K.lookup f27=some ⟨oc27,od27, .func (PySem.W.fnOf "_law_flows" "_law_flows" (aN eP) (aG eP) (ah eP) .none kV27 dc27 pm27 an27 cd27 ct27),sl27⟩)
  (c27:PySem.W.codeIn K cd27 "_law_flows"=true)
  (k27:PySem.W.keepIn K (.ref f27)=true)
  (a28:PySem.W.nsIn K mainGlobals "_law_truth"=some (some (.ref f28)))
  (l28:K.lookup f28=some ⟨oc28,od28, .func (PySem.W.fnOf "_law_truth" "_law_truth" (aN eQ) (aG eQ) (ah eQ) .none kV28 dc28 pm28 an28 cd28 ct28),sl28⟩)
  (c28:PySem.W.codeIn K cd28 "_law_truth"=true)
  (k28:PySem.W.keepIn K (.ref f28)=true)
  (a29:PySem.W.nsIn K mainGlobals "_law_readings"=some (some (.ref f29)))
  (l29:K.lookup f29=some ⟨oc29,od29, .func (PySem.W.fnOf "_law_readings" "_law_readings" (aN cX) (aG cX) (ah cX) .none kV29 dc29 pm29 an29 cd29 ct29),sl29⟩)
  (c29:PySem.W.codeIn K cd29 "_law_readings"=true)
  (k29:PySem.W.keepIn K (.ref f29)=true)
  (a30:PySem.W.nsIn K mainGlobals "_law_rises"=some (some (.ref f30)))
  (l30:K.lookup f30=some ⟨oc30,od30, .func (PySem.W.fnOf "_law_rises" "_law_rises" (aN eS) (aG eS) (ah eS) .none kV30 dc30 pm30 an30 cd30 ct30),sl30⟩)
  (c30:PySem.W.codeIn K cd30 "_law_rises"=true)
  (k30:PySem.W.keepIn K (.ref f30)=true)
  (a31:PySem.W.nsIn K mainGlobals "_law_case"=some (some (.ref f31)))
  (l31:K.lookup f31=some ⟨oc31,od31, .func (PySem.W.fnOf "_law_case" "_law_case" (aN gf) (aG gf) (ah gf) .none kV31 dc31 pm31 an31 cd31 ct31),sl31⟩)
  (c31:PySem.W.codeIn K cd31 "_law_case"=true)
  (k31:PySem.W.keepIn K (.ref f31)=true)
  (a32:PySem.W.nsIn K mainGlobals "_law_day"=some (some (.ref f32)))
  (l32:K.lookup f32=some ⟨oc32,od32, .func (PySem.W.fnOf "_law_day" "_law_day" (aN hU) (aG hU) (ah hU) .none kV32 dc32 pm32 an32 cd32 ct32),sl32⟩)
  (c32:PySem.W.codeIn K cd32 "_law_day"=true)
  (k32:PySem.W.keepIn K (.ref f32)=true)
  (a33:PySem.W.nsIn K mainGlobals "_law_kept"=some (some (.ref f33)))
  (l33:K.lookup f33=some ⟨oc33,od33, .func (PySem.W.fnOf "_law_kept" "_law_kept" (aN gg) (aG gg) (ah gg) .none kV33 dc33 pm33 an33 cd33 ct33),sl33⟩)
  (c33:PySem.W.codeIn K cd33 "_law_kept"=true)
  (k33:PySem.W.keepIn K (.ref f33)=true)
  (a34:PySem.W.nsIn K mainGlobals "_law_loose"=some (some (.ref f34)))
  (l34:K.lookup f34=some ⟨oc34,od34, .func (PySem.W.fnOf "_law_loose" "_law_loose" (aN eU) (aG eU) (ah eU) .none kV34 dc34 pm34 an34 cd34 ct34),sl34⟩)
  (c34:PySem.W.codeIn K cd34 "_law_loose"=true)
  (k34:PySem.W.keepIn K (.ref f34)=true)
  (a35:PySem.W.nsIn K mainGlobals "_law_flood"=some (some (.ref f35)))
  (l35:K.lookup f35=some ⟨oc35,od35, .func (PySem.W.fnOf "_law_flood" "_law_flood" (aN eV) (aG eV) (ah eV) .none kV35 dc35 pm35 an35 cd35 ct35),sl35⟩)
  (c35:PySem.W.codeIn K cd35 "_law_flood"=true)
  (k35:PySem.W.keepIn K (.ref f35)=true)
  (a36:PySem.W.nsIn K mainGlobals "_law_net"=some (some (.ref f36)))
  (l36:K.lookup f36=some ⟨oc36,od36, .func (PySem.W.fnOf "_law_net" "_law_net" (aN hV) (aG hV) (ah hV) .none kV36 dc36 pm36 an36 cd36 ct36),sl36⟩)
  (c36:PySem.W.codeIn K cd36 "_law_net"=true)
  (k36:PySem.W.keepIn K (.ref f36)=true)
  (a37:PySem.W.nsIn K mainGlobals "_law_due_clashes"=some (some (.ref f37)))
  (l37:K.lookup f37=some ⟨oc37,od37, .func (PySem.W.fnOf "_law_due_clashes" "_law_due_clashes" (aN ck) (aG ck) (ah ck) .none kV37 dc37 pm37 an37 cd37 ct37),sl37⟩)
  (c37:PySem.W.codeIn K cd37 "_law_due_clashes"=true)
  (k37:PySem.W.keepIn K (.ref f37)=true)
  (a38:PySem.W.nsIn K mainGlobals "_law_is_group"=some (some (.ref f38)))
  (l38:K.lookup f38=some ⟨oc38,od38, .func (PySem.W.fnOf "_law_is_group" "_law_is_group" (aN cZ) (aG cZ) (ah cZ) .none kV38 dc38 pm38 an38 cd38 ct38),sl38⟩)
  (c38:PySem.W.codeIn K cd38 "_law_is_group"=true)
  (k38:PySem.W.keepIn K (.ref f38)=true)
  (a39:PySem.W.nsIn K mainGlobals "_law_into"=some (some (.ref f39)))
  (l39:K.lookup f39=some ⟨oc39,od39, .func (PySem.W.fnOf "_law_into" "_law_into" (aN gj) (aG gj) (ah gj) .none kV39 dc39 pm39 an39 cd39 ct39),sl39⟩)
  (c39:PySem.W.codeIn K cd39 "_law_into"=true)
  (k39:PySem.W.keepIn K (.ref f39)=true)
  (a40:PySem.W.nsIn K mainGlobals "_law_is_way"=some (some (.ref f40)))
  (l40:K.lookup f40=some ⟨oc40,od40, .func (PySem.W.fnOf "_law_is_way" "_law_is_way" (aN dY) (aG dY) (ah dY) .none kV40 dc40 pm40 an40 cd40 ct40),sl40⟩)
  (c40:PySem.W.codeIn K cd40 "_law_is_way"=true)
  (k40:PySem.W.keepIn K (.ref f40)=true)
  (a41:PySem.W.nsIn K mainGlobals "_law_is_ring"=some (some (.ref f41)))
  (l41:K.lookup f41=some ⟨oc41,od41, .func (PySem.W.fnOf "_law_is_ring" "_law_is_ring" (aN dn) (aG dn) (ah dn) .none kV41 dc41 pm41 an41 cd41 ct41),sl41⟩)
  (c41:PySem.W.codeIn K cd41 "_law_is_ring"=true)
  (k41:PySem.W.keepIn K (.ref f41)=true)
  (a42:PySem.W.nsIn K mainGlobals "_law_parts_only"=some (some (.ref f42)))
  (l42:K.lookup f42=some ⟨oc42,od42, .func (PySem.W.fnOf "_law_parts_only" "_law_parts_only" (aN cu) (aG cu) (ah cu) .none kV42 dc42 pm42 an42 cd42 ct42),sl42⟩)
  (c42:PySem.W.codeIn K cd42 "_law_parts_only"=true)
  (k42:PySem.W.keepIn K (.ref f42)=true)
  (a43:PySem.W.nsIn K mainGlobals "_law_told_right"=some (some (.ref f43)))
  (l43:K.lookup f43=some ⟨oc43,od43, .func (PySem.W.fnOf "_law_told_right" "_law_told_right" (aN cw) (aG cw) (ah cw) .none kV43 dc43 pm43 an43 cd43 ct43),sl43⟩)
  (c43:PySem.W.codeIn K cd43 "_law_told_right"=true)
  (k43:PySem.W.keepIn K (.ref f43)=true)
  (a44:PySem.W.nsIn K mainGlobals "_law_asked"=some (some (.ref f44)))
  (l44:K.lookup f44=some ⟨oc44,od44, .func (PySem.W.fnOf "_law_asked" "_law_asked" (aN eX) (aG eX) (ah eX) .none kV44 dc44 pm44 an44 cd44 ct44),sl44⟩)
  (c44:PySem.W.codeIn K cd44 "_law_asked"=true)
  (k44:PySem.W.keepIn K (.ref f44)=true)
  (a45:PySem.W.nsIn K mainGlobals "law"=some (some (.ref f45)))
  (l45:K.lookup f45=some ⟨oc45,od45, .func (PySem.W.fnOf "law" "law" (aN lP) (aG lP) (ah lP) .none kV45 dc45 pm45 an45 cd45 ct45),sl45⟩)
  (c45:PySem.W.codeIn K cd45 "law"=true)
  (k45:PySem.W.keepIn K (.ref f45)=true)
  (s1:PySem.W.specialIn K (.builtin "object.__class__") "__get__"=some (some (.builtin "getset_descriptor.__get__")))
  (s2:PySem.W.takesIn K (.builtin "object.__class__")=some true)
  (e1_UnknownStream:PySem.W.excIn K C_UnknownStream vR "ValueError.__new__"=true)
  (e2_UnknownStream:PySem.W.findIn K (.ref C_UnknownStream) "__getattribute__"=some (some (.builtin "BaseException.__getattribute__")))
  (e3_UnknownStream:PySem.W.findIn K (.ref C_UnknownStream) "__getattr__"=some none)
  (e4_UnknownStream:PySem.W.findIn K (.ref C_UnknownStream) "__class__"=some (some (.builtin "object.__class__")))
  (e5_UnknownStream:PySem.W.mroIn K C_UnknownStream (.type "object")=some true)
  (e6_UnknownStream:PySem.W.mroIn K C_UnknownStream (.type "BaseException")=some true)
  (e7_UnknownStream:PySem.W.mroIn K C_UnknownStream (.ref C_UnknownStream)=some true)
  (e1_NotMetered:PySem.W.excIn K C_NotMetered vR "ValueError.__new__"=true)
  (e2_NotMetered:PySem.W.findIn K (.ref C_NotMetered) "__getattribute__"=some (some (.builtin "BaseException.__getattribute__")))
  (e3_NotMetered:PySem.W.findIn K (.ref C_NotMetered) "__getattr__"=some none)
  (e4_NotMetered:PySem.W.findIn K (.ref C_NotMetered) "__class__"=some (some (.builtin "object.__class__")))
  (e5_NotMetered:PySem.W.mroIn K C_NotMetered (.type "object")=some true)
  (e6_NotMetered:PySem.W.mroIn K C_NotMetered (.type "BaseException")=some true)
  (e7_NotMetered:PySem.W.mroIn K C_NotMetered (.ref C_NotMetered)=some true)
  (e1_Clashing:PySem.W.excIn K C_Clashing vR "ValueError.__new__"=true)
  (e2_Clashing:PySem.W.findIn K (.ref C_Clashing) "__getattribute__"=some (some (.builtin "BaseException.__getattribute__")))
  (e3_Clashing:PySem.W.findIn K (.ref C_Clashing) "__getattr__"=some none)
  (e4_Clashing:PySem.W.findIn K (.ref C_Clashing) "__class__"=some (some (.builtin "object.__class__")))
  (e5_Clashing:PySem.W.mroIn K C_Clashing (.type "object")=some true)
  (e6_Clashing:PySem.W.mroIn K C_Clashing (.type "BaseException")=some true)
  (e7_Clashing:PySem.W.mroIn K C_Clashing (.ref C_Clashing)=some true)
  (e1_CellarError:PySem.W.excIn K C_CellarError vR "ValueError.__new__"=true)
  (e6_CellarError:PySem.W.mroIn K C_CellarError (.type "BaseException")=some true)
  (m_CellarError_Clashing:PySem.W.mroIn K C_Clashing (.ref C_CellarError)=some true)
  (m_CellarError_NotMetered:PySem.W.mroIn K C_NotMetered (.ref C_CellarError)=some true)
  (m_CellarError_UnknownStream:PySem.W.mroIn K C_UnknownStream (.ref C_CellarError)=some true)
  (m_Clashing_Clashing:PySem.W.mroIn K C_Clashing (.ref C_Clashing)=some true)
  (m_Clashing_NotMetered:PySem.W.mroIn K C_NotMetered (.ref C_Clashing)=some false)
  (m_Clashing_UnknownStream:PySem.W.mroIn K C_UnknownStream (.ref C_Clashing)=some false)
  (m_UnknownStream_Clashing:PySem.W.mroIn K C_Clashing (.ref C_UnknownStream)=some false)
  (m_UnknownStream_NotMetered:PySem.W.mroIn K C_NotMetered (.ref C_UnknownStream)=some false)
  (m_UnknownStream_UnknownStream:PySem.W.mroIn K C_UnknownStream (.ref C_UnknownStream)=some true)
  (m_ValueError_Clashing:PySem.W.mroIn K C_Clashing (.type "ValueError")=some true)
  (m_ValueError_NotMetered:PySem.W.mroIn K C_NotMetered (.type "ValueError")=some true)
  (m_ValueError_UnknownStream:PySem.W.mroIn K C_UnknownStream (.type "ValueError")=some true)
  {t_OUTSIDE:Tok}
  (v_OUTSIDE:PySem.W.nsIn K mainGlobals "OUTSIDE"=some (some (.int 0 t_OUTSIDE)))
  (z0:PySem.W.nsIn K mainGlobals "ValueError"=some none)
  (z1:PySem.W.nsIn K mainGlobals "bool"=some none)
  (z2:PySem.W.nsIn K mainGlobals "dict"=some none)
  (z3:PySem.W.nsIn K mainGlobals "int"=some none)
  (z4:PySem.W.nsIn K mainGlobals "isinstance"=some none)
  (z5:PySem.W.nsIn K mainGlobals "len"=some none)
  (z6:PySem.W.nsIn K mainGlobals "list"=some none)
  (z7:PySem.W.nsIn K mainGlobals "max"=some none)
  (z8:PySem.W.nsIn K mainGlobals "min"=some none)
  (z9:PySem.W.nsIn K mainGlobals "range"=some none)
  (z10:PySem.W.nsIn K mainGlobals "reversed"=some none)
  (z11:PySem.W.nsIn K mainGlobals "sorted"=some none)
  (z12:PySem.W.nsIn K mainGlobals "str"=some none)
  (z13:PySem.W.nsIn K mainGlobals "sum"=some none)
  (z14:PySem.W.nsIn K mainGlobals "tuple"=some none)
  :∃fd:FuncData,(∀(s:Shared) (v:Value),BindsTo s fd ⟨[v],[]⟩ [("_law_script",v)])/\∀base:Heap,K.In base->base.Ns mainGlobals mg->i7 l.prog w K mg base (oY l.prog w) 11 fa fd ["_law_script"] (yt K 1 rR):=by
 have e:=hfa.symm.trans (PySem.W.mg_of X G a45)
 cases e
 have B:Bl mg BN:=⟨fun x hx=>by
  simp only[BN,List.mem_cons,List.not_mem_nil,or_false]at hx
  rcases hx with rfl|rfl|rfl|rfl|rfl|rfl|rfl|rfl|rfl|rfl|rfl|rfl|rfl|rfl|rfl
  ·exact PySem.W.mg_none_of X G z0
  ·exact PySem.W.mg_none_of X G z1
  ·exact PySem.W.mg_none_of X G z2
  ·exact PySem.W.mg_none_of X G z3
  ·exact PySem.W.mg_none_of X G z4
  ·exact PySem.W.mg_none_of X G z5
  ·exact PySem.W.mg_none_of X G z6
  ·exact PySem.W.mg_none_of X G z7
  ·exact PySem.W.mg_none_of X G z8
  ·exact PySem.W.mg_none_of X G z9
  ·exact PySem.W.mg_none_of X G z10
  ·exact PySem.W.mg_none_of X G z11
  ·exact PySem.W.mg_none_of X G z12
  ·exact PySem.W.mg_none_of X G z13
  ·exact PySem.W.mg_none_of X G z14⟩
 have cl_Day:q0 K "Day" C_Day:=⟨n_Day,p1_Day,p2_Day,p3_Day,p4_Day⟩
 have no_Day:∀x∈gY,iq K C_Day x:=fun x hx=>by
  simp only[gY,List.mem_cons,List.not_mem_nil,or_false]at hx
  rcases hx with rfl|rfl|rfl|rfl
  ·exact q_Day_tanks
  ·exact q_Day_streams
  ·exact q_Day_rises
  ·exact q_Day_readings
 have T_Day:lO K "Day" gY:=⟨_,cl_Day,no_Day⟩
 have F1:=bt (st:=fX) l1 c1 k1
 have b1:=F1.binds (ps:=["stream","group"]) fun _ _ _ _ _ _ us hl=>qI (P:=fun us=>bindArgs _ ⟨us,[]⟩=pure (List.zip _ us)) (fun _ _=>rfl) us hl
 have A1:aP K mg "way_over" fX ["stream","group"]:=⟨_,_,F1,PySem.W.mg_of X G a1,b1⟩
 have F2:=bt (st:=dO) l2 c2 k2
 have b2:=F2.binds (ps:=["streams","amounts","group"]) fun _ _ _ _ _ _ us hl=>B_ (P:=fun us=>bindArgs _ ⟨us,[]⟩=pure (List.zip _ us)) (fun _ _ _=>rfl) us hl
 have A2:aP K mg "brought_by" dO ["streams","amounts","group"]:=⟨_,_,F2,PySem.W.mg_of X G a2,b2⟩
 have F3:=bt (st:=gZ) l3 c3 k3
 have b3:=F3.binds (ps:=["rises","group"]) fun _ _ _ _ _ _ us hl=>qI (P:=fun us=>bindArgs _ ⟨us,[]⟩=pure (List.zip _ us)) (fun _ _=>rfl) us hl
 have A3:aP K mg "rise_of" gZ ["rises","group"]:=⟨_,_,F3,PySem.W.mg_of X G a3,b3⟩
 have F4:=bt (st:=dP) l4 c4 k4
 have b4:=F4.binds (ps:=["streams","place"]) fun _ _ _ _ _ _ us hl=>qI (P:=fun us=>bindArgs _ ⟨us,[]⟩=pure (List.zip _ us)) (fun _ _=>rfl) us hl
 have A4:aP K mg "steps_from" dP ["streams","place"]:=⟨_,_,F4,PySem.W.mg_of X G a4,b4⟩
 have F5:=bt (st:=cK) l5 c5 k5
 have b5:=F5.binds (ps:=["streams","start"]) fun _ _ _ _ _ _ us hl=>qI (P:=fun us=>bindArgs _ ⟨us,[]⟩=pure (List.zip _ us)) (fun _ _=>rfl) us hl
 have A5:aP K mg "arrivals_from" cK ["streams","start"]:=⟨_,_,F5,PySem.W.mg_of X G a5,b5⟩
 have F6:=bt (st:=dQ) l6 c6 k6
 have b6:=F6.binds (ps:=["tanks","streams"]) fun _ _ _ _ _ _ us hl=>qI (P:=fun us=>bindArgs _ ⟨us,[]⟩=pure (List.zip _ us)) (fun _ _=>rfl) us hl
 have A6:aP K mg "bunches_of" dQ ["tanks","streams"]:=⟨_,_,F6,PySem.W.mg_of X G a6,b6⟩
 have F7:=bt (st:=g_) l7 c7 k7
 have b7:=F7.binds (ps:=["streams","start","goal"]) fun _ _ _ _ _ _ us hl=>B_ (P:=fun us=>bindArgs _ ⟨us,[]⟩=pure (List.zip _ us)) (fun _ _ _=>rfl) us hl
 have A7:aP K mg "path_of" g_ ["streams","start","goal"]:=⟨_,_,F7,PySem.W.mg_of X G a7,b7⟩
 have F8:=bt (st:=dR) l8 c8 k8
 have b8:=F8.binds (ps:=["self","number"]) fun _ _ _ _ _ _ us hl=>qI (P:=fun us=>bindArgs _ ⟨us,[]⟩=pure (List.zip _ us)) (fun _ _=>rfl) us hl
 have A8:kh K "Day" "stream" "Day.stream" dR ["self","number"]:=⟨_,_,_,F8,cl_Day,⟨a8,i8,k8⟩,b8⟩
 have F9:=bt (st:=dh) l9 c9 k9
 have b9:=F9.binds (ps:=["self","number"]) fun _ _ _ _ _ _ us hl=>qI (P:=fun us=>bindArgs _ ⟨us,[]⟩=pure (List.zip _ us)) (fun _ _=>rfl) us hl
 have A9:kh K "Day" "metered" "Day.metered" dh ["self","number"]:=⟨_,_,_,F9,cl_Day,⟨a9,i9,k9⟩,b9⟩
 have F10:=bt (st:=bU) l10 c10 k10
 have b10:=F10.binds (ps:=["self"]) fun _ _ _ _ _ _ us hl=>Df (P:=fun us=>bindArgs _ ⟨us,[]⟩=pure (List.zip _ us)) (fun _=>rfl) us hl
 have A10:kh K "Day" "without_meter" "Day.without_meter" bU ["self"]:=⟨_,_,_,F10,cl_Day,⟨a10,i10,k10⟩,b10⟩
 have F11:=bt (st:=bF) l11 c11 k11
 have b11:=F11.binds (ps:=["day","number"]) fun _ _ _ _ _ _ us hl=>qI (P:=fun us=>bindArgs _ ⟨us,[]⟩=pure (List.zip _ us)) (fun _ _=>rfl) us hl
 have A11:aP K mg "others_without_meter" bF ["day","number"]:=⟨_,_,F11,PySem.W.mg_of X G a11,b11⟩
 have F12:=bt (st:=hG) l12 c12 k12
 have b12:=F12.binds (ps:=["day","number"]) fun _ _ _ _ _ _ us hl=>qI (P:=fun us=>bindArgs _ ⟨us,[]⟩=pure (List.zip _ us)) (fun _ _=>rfl) us hl
 have A12:aP K mg "ring_of" hG ["day","number"]:=⟨_,_,F12,PySem.W.mg_of X G a12,b12⟩
 have F13:=bt (st:=dS) l13 c13 k13
 have b13:=F13.binds (ps:=["day"]) fun _ _ _ _ _ _ us hl=>Df (P:=fun us=>bindArgs _ ⟨us,[]⟩=pure (List.zip _ us)) (fun _=>rfl) us hl
 have A13:aP K mg "clashes_of" dS ["day"]:=⟨_,_,F13,PySem.W.mg_of X G a13,b13⟩
 have F14:=bt (st:=cr) l14 c14 k14
 have b14:=F14.binds (ps:=["day"]) fun _ _ _ _ _ _ us hl=>Df (P:=fun us=>bindArgs _ ⟨us,[]⟩=pure (List.zip _ us)) (fun _=>rfl) us hl
 have A14:aP K mg "refuse_clashes" cr ["day"]:=⟨_,_,F14,PySem.W.mg_of X G a14,b14⟩
 have F15:=bt (st:=fY) l15 c15 k15
 have b15:=F15.binds (ps:=["day","number"]) fun _ _ _ _ _ _ us hl=>qI (P:=fun us=>bindArgs _ ⟨us,[]⟩=pure (List.zip _ us)) (fun _ _=>rfl) us hl
 have A15:aP K mg "group_of" fY ["day","number"]:=⟨_,_,F15,PySem.W.mg_of X G a15,b15⟩
 have F16:=bt (st:=di) l16 c16 k16
 have b16:=F16.binds (ps:=["day","number","group"]) fun _ _ _ _ _ _ us hl=>B_ (P:=fun us=>bindArgs _ ⟨us,[]⟩=pure (List.zip _ us)) (fun _ _ _=>rfl) us hl
 have A16:aP K mg "amount_left" di ["day","number","group"]:=⟨_,_,F16,PySem.W.mg_of X G a16,b16⟩
 have F17:=bt (st:=dj) l17 c17 k17
 have b17:=F17.binds (ps:=["self","number"]) fun _ _ _ _ _ _ us hl=>qI (P:=fun us=>bindArgs _ ⟨us,[]⟩=pure (List.zip _ us)) (fun _ _=>rfl) us hl
 have A17:kh K "Day" "reading" "Day.reading" dj ["self","number"]:=⟨_,_,_,F17,cl_Day,⟨a17,i17,k17⟩,b17⟩
 have F18:=bt (st:=hJ) l18 c18 k18
 have b18:=F18.binds (ps:=["day","number"]) fun _ _ _ _ _ _ us hl=>qI (P:=fun us=>bindArgs _ ⟨us,[]⟩=pure (List.zip _ us)) (fun _ _=>rfl) us hl
 have A18:aP K mg "told_of" hJ ["day","number"]:=⟨_,_,F18,PySem.W.mg_of X G a18,b18⟩
 have F19:=bt (st:=eM) l19 c19 k19
 have b19:=F19.binds (ps:=["self","tanks","streams","rises","readings"]) fun _ _ _ _ _ _ us hl=>HP (P:=fun us=>bindArgs _ ⟨us,[]⟩=pure (List.zip _ us)) (fun _ _ _ _ _=>rfl) us hl
 have A19:wg K mg "Day" "Day.__init__" eM ["self","tanks","streams","rises","readings"] gY:=⟨_,_,_,F19,cl_Day,PySem.W.mg_of X G n_Day,⟨p5_Day,a19,i19,p6_Day⟩,b19,no_Day⟩
 have F20:=bt (st:=iT) l20 c20 k20
 have b20:=F20.binds (ps:=["_law_script","_law_k"]) fun _ _ _ _ _ _ us hl=>qI (P:=fun us=>bindArgs _ ⟨us,[]⟩=pure (List.zip _ us)) (fun _ _=>rfl) us hl
 have A20:aP K mg "_law_at" iT ["_law_script","_law_k"]:=⟨_,_,F20,PySem.W.mg_of X G a20,b20⟩
 have F21:=bt (st:=fZ) l21 c21 k21
 have b21:=F21.binds (ps:=["_law_script","_law_k"]) fun _ _ _ _ _ _ us hl=>qI (P:=fun us=>bindArgs _ ⟨us,[]⟩=pure (List.zip _ us)) (fun _ _=>rfl) us hl
 have A21:aP K mg "_law_cell" fZ ["_law_script","_law_k"]:=⟨_,_,F21,PySem.W.mg_of X G a21,b21⟩
 have F22:=bt (st:=eN) l22 c22 k22
 have b22:=F22.binds (ps:=["_law_found","_law_due"]) fun _ _ _ _ _ _ us hl=>qI (P:=fun us=>bindArgs _ ⟨us,[]⟩=pure (List.zip _ us)) (fun _ _=>rfl) us hl
 have A22:aP K mg "_law_same" eN ["_law_found","_law_due"]:=⟨_,_,F22,PySem.W.mg_of X G a22,b22⟩
 have F23:=bt (st:=eO) l23 c23 k23
 have b23:=F23.binds (ps:=["_law_found"]) fun _ _ _ _ _ _ us hl=>Df (P:=fun us=>bindArgs _ ⟨us,[]⟩=pure (List.zip _ us)) (fun _=>rfl) us hl
 have A23:aP K mg "_law_whole" eO ["_law_found"]:=⟨_,_,F23,PySem.W.mg_of X G a23,b23⟩
 have F24:=bt (st:=dk) l24 c24 k24
 have b24:=F24.binds (ps:=["_law_script","_law_n","_law_many"]) fun _ _ _ _ _ _ us hl=>B_ (P:=fun us=>bindArgs _ ⟨us,[]⟩=pure (List.zip _ us)) (fun _ _ _=>rfl) us hl
 have A24:aP K mg "_law_streams" dk ["_law_script","_law_n","_law_many"]:=⟨_,_,F24,PySem.W.mg_of X G a24,b24⟩
 have F25:=bt (st:=dm) l25 c25 k25
 have b25:=F25.binds (ps:=["_law_script","_law_streams_here","_law_share"]) fun _ _ _ _ _ _ us hl=>B_ (P:=fun us=>bindArgs _ ⟨us,[]⟩=pure (List.zip _ us)) (fun _ _ _=>rfl) us hl
 have A25:aP K mg "_law_metered" dm ["_law_script","_law_streams_here","_law_share"]:=⟨_,_,F25,PySem.W.mg_of X G a25,b25⟩
 have F26:=bt (st:=f_) l26 c26 k26
 have b26:=F26.binds (ps:=["_law_levels","_law_source","_law_target","_law_most"]) fun _ _ _ _ _ _ us hl=>HN (P:=fun us=>bindArgs _ ⟨us,[]⟩=pure (List.zip _ us)) (fun _ _ _ _=>rfl) us hl
 have A26:aP K mg "_law_span" f_ ["_law_levels","_law_source","_law_target","_law_most"]:=⟨_,_,F26,PySem.W.mg_of X G a26,b26⟩
 have F27:=bt (st:=eP) l27 c27 k27
 have b27:=F27.binds (ps:=["_law_figures","_law_n","_law_streams_here","_law_meters","_law_bounds"]) fun _ _ _ _ _ _ us hl=>HP (P:=fun us=>bindArgs _ ⟨us,[]⟩=pure (List.zip _ us)) (fun _ _ _ _ _=>rfl) us hl
 have A27:aP K mg "_law_flows" eP ["_law_figures","_law_n","_law_streams_here","_law_meters","_law_bounds"]:=⟨_,_,F27,PySem.W.mg_of X G a27,b27⟩
 have F28:=bt (st:=eQ) l28 c28 k28
 have b28:=F28.binds (ps:=["_law_script","_law_n","_law_streams_here","_law_metered_here","_law_small"]) fun _ _ _ _ _ _ us hl=>HP (P:=fun us=>bindArgs _ ⟨us,[]⟩=pure (List.zip _ us)) (fun _ _ _ _ _=>rfl) us hl
 have A28:aP K mg "_law_truth" eQ ["_law_script","_law_n","_law_streams_here","_law_metered_here","_law_small"]:=⟨_,_,F28,PySem.W.mg_of X G a28,b28⟩
 have F29:=bt (st:=cX) l29 c29 k29
 have b29:=F29.binds (ps:=["_law_script","_law_truth_here","_law_metered_here","_law_mode","_law_small"]) fun _ _ _ _ _ _ us hl=>HP (P:=fun us=>bindArgs _ ⟨us,[]⟩=pure (List.zip _ us)) (fun _ _ _ _ _=>rfl) us hl
 have A29:aP K mg "_law_readings" cX ["_law_script","_law_truth_here","_law_metered_here","_law_mode","_law_small"]:=⟨_,_,F29,PySem.W.mg_of X G a29,b29⟩
 have F30:=bt (st:=eS) l30 c30 k30
 have b30:=F30.binds (ps:=["_law_script","_law_levels","_law_mode","_law_small"]) fun _ _ _ _ _ _ us hl=>HN (P:=fun us=>bindArgs _ ⟨us,[]⟩=pure (List.zip _ us)) (fun _ _ _ _=>rfl) us hl
 have A30:aP K mg "_law_rises" eS ["_law_script","_law_levels","_law_mode","_law_small"]:=⟨_,_,F30,PySem.W.mg_of X G a30,b30⟩
 have F31:=bt (st:=gf) l31 c31 k31
 have b31:=F31.binds (ps:=["_law_script"]) fun _ _ _ _ _ _ us hl=>Df (P:=fun us=>bindArgs _ ⟨us,[]⟩=pure (List.zip _ us)) (fun _=>rfl) us hl
 have A31:aP K mg "_law_case" gf ["_law_script"]:=⟨_,_,F31,PySem.W.mg_of X G a31,b31⟩
 have F32:=bt (st:=hU) l32 c32 k32
 have b32:=F32.binds (ps:=["_law_script","_law_case_here"]) fun _ _ _ _ _ _ us hl=>qI (P:=fun us=>bindArgs _ ⟨us,[]⟩=pure (List.zip _ us)) (fun _ _=>rfl) us hl
 have A32:aP K mg "_law_day" hU ["_law_script","_law_case_here"]:=⟨_,_,F32,PySem.W.mg_of X G a32,b32⟩
 have F33:=bt (st:=gg) l33 c33 k33
 have b33:=F33.binds (ps:=["_law_day_here","_law_case_here"]) fun _ _ _ _ _ _ us hl=>qI (P:=fun us=>bindArgs _ ⟨us,[]⟩=pure (List.zip _ us)) (fun _ _=>rfl) us hl
 have A33:aP K mg "_law_kept" gg ["_law_day_here","_law_case_here"]:=⟨_,_,F33,PySem.W.mg_of X G a33,b33⟩
 have F34:=bt (st:=eU) l34 c34 k34
 have b34:=F34.binds (ps:=["_law_case_here"]) fun _ _ _ _ _ _ us hl=>Df (P:=fun us=>bindArgs _ ⟨us,[]⟩=pure (List.zip _ us)) (fun _=>rfl) us hl
 have A34:aP K mg "_law_loose" eU ["_law_case_here"]:=⟨_,_,F34,PySem.W.mg_of X G a34,b34⟩
 have F35:=bt (st:=eV) l35 c35 k35
 have b35:=F35.binds (ps:=["_law_streams_here","_law_place"]) fun _ _ _ _ _ _ us hl=>qI (P:=fun us=>bindArgs _ ⟨us,[]⟩=pure (List.zip _ us)) (fun _ _=>rfl) us hl
 have A35:aP K mg "_law_flood" eV ["_law_streams_here","_law_place"]:=⟨_,_,F35,PySem.W.mg_of X G a35,b35⟩
 have F36:=bt (st:=hV) l36 c36 k36
 have b36:=F36.binds (ps:=["_law_streams_here","_law_amounts","_law_group"]) fun _ _ _ _ _ _ us hl=>B_ (P:=fun us=>bindArgs _ ⟨us,[]⟩=pure (List.zip _ us)) (fun _ _ _=>rfl) us hl
 have A36:aP K mg "_law_net" hV ["_law_streams_here","_law_amounts","_law_group"]:=⟨_,_,F36,PySem.W.mg_of X G a36,b36⟩
 have F37:=bt (st:=ck) l37 c37 k37
 have b37:=F37.binds (ps:=["_law_case_here"]) fun _ _ _ _ _ _ us hl=>Df (P:=fun us=>bindArgs _ ⟨us,[]⟩=pure (List.zip _ us)) (fun _=>rfl) us hl
 have A37:aP K mg "_law_due_clashes" ck ["_law_case_here"]:=⟨_,_,F37,PySem.W.mg_of X G a37,b37⟩
 have F38:=bt (st:=cZ) l38 c38 k38
 have b38:=F38.binds (ps:=["_law_group","_law_n"]) fun _ _ _ _ _ _ us hl=>qI (P:=fun us=>bindArgs _ ⟨us,[]⟩=pure (List.zip _ us)) (fun _ _=>rfl) us hl
 have A38:aP K mg "_law_is_group" cZ ["_law_group","_law_n"]:=⟨_,_,F38,PySem.W.mg_of X G a38,b38⟩
 have F39:=bt (st:=gj) l39 c39 k39
 have b39:=F39.binds (ps:=["_law_stream","_law_group"]) fun _ _ _ _ _ _ us hl=>qI (P:=fun us=>bindArgs _ ⟨us,[]⟩=pure (List.zip _ us)) (fun _ _=>rfl) us hl
 have A39:aP K mg "_law_into" gj ["_law_stream","_law_group"]:=⟨_,_,F39,PySem.W.mg_of X G a39,b39⟩
 have F40:=bt (st:=dY) l40 c40 k40
 have b40:=F40.binds (ps:=["_law_streams_here","_law_steps","_law_place","_law_goal"]) fun _ _ _ _ _ _ us hl=>HN (P:=fun us=>bindArgs _ ⟨us,[]⟩=pure (List.zip _ us)) (fun _ _ _ _=>rfl) us hl
 have A40:aP K mg "_law_is_way" dY ["_law_streams_here","_law_steps","_law_place","_law_goal"]:=⟨_,_,F40,PySem.W.mg_of X G a40,b40⟩
 have F41:=bt (st:=dn) l41 c41 k41
 have b41:=F41.binds (ps:=["_law_case_here","_law_stream","_law_ring"]) fun _ _ _ _ _ _ us hl=>B_ (P:=fun us=>bindArgs _ ⟨us,[]⟩=pure (List.zip _ us)) (fun _ _ _=>rfl) us hl
 have A41:aP K mg "_law_is_ring" dn ["_law_case_here","_law_stream","_law_ring"]:=⟨_,_,F41,PySem.W.mg_of X G a41,b41⟩
 have F42:=bt (st:=cu) l42 c42 k42
 have b42:=F42.binds (ps:=["_law_case_here","_law_number","_law_group"]) fun _ _ _ _ _ _ us hl=>B_ (P:=fun us=>bindArgs _ ⟨us,[]⟩=pure (List.zip _ us)) (fun _ _ _=>rfl) us hl
 have A42:aP K mg "_law_parts_only" cu ["_law_case_here","_law_number","_law_group"]:=⟨_,_,F42,PySem.W.mg_of X G a42,b42⟩
 have F43:=bt (st:=cw) l43 c43 k43
 have b43:=F43.binds (ps:=["_law_case_here","_law_stream","_law_found"]) fun _ _ _ _ _ _ us hl=>B_ (P:=fun us=>bindArgs _ ⟨us,[]⟩=pure (List.zip _ us)) (fun _ _ _=>rfl) us hl
 have A43:aP K mg "_law_told_right" cw ["_law_case_here","_law_stream","_law_found"]:=⟨_,_,F43,PySem.W.mg_of X G a43,b43⟩
 have F44:=bt (st:=eX) l44 c44 k44
 have b44:=F44.binds (ps:=["_law_day_here","_law_number"]) fun _ _ _ _ _ _ us hl=>qI (P:=fun us=>bindArgs _ ⟨us,[]⟩=pure (List.zip _ us)) (fun _ _=>rfl) us hl
 have A44:aP K mg "_law_asked" eX ["_law_day_here","_law_number"]:=⟨_,_,F44,PySem.W.mg_of X G a44,b44⟩
 have F45:=bt (st:=lP) l45 c45 k45
 have b45:=F45.binds (ps:=["_law_script"]) fun _ _ _ _ _ _ us hl=>Df (P:=fun us=>bindArgs _ ⟨us,[]⟩=pure (List.zip _ us)) (fun _=>rfl) us hl
 have A45:aP K mg "law" lP ["_law_script"]:=⟨_,_,F45,PySem.W.mg_of X G a45,b45⟩
 have gl_OUTSIDE:=PySem.W.mg_of X G v_OUTSIDE
 have ek_UnknownStream:qO K C_UnknownStream:=t0 e1_UnknownStream e2_UnknownStream e3_UnknownStream e4_UnknownStream e5_UnknownStream e6_UnknownStream (jP e1_UnknownStream e7_UnknownStream) s1 s2
 have ek_NotMetered:qO K C_NotMetered:=t0 e1_NotMetered e2_NotMetered e3_NotMetered e4_NotMetered e5_NotMetered e6_NotMetered (jP e1_NotMetered e7_NotMetered) s1 s2
 have ek_Clashing:qO K C_Clashing:=t0 e1_Clashing e2_Clashing e3_Clashing e4_Clashing e5_Clashing e6_Clashing (jP e1_Clashing e7_Clashing) s1 s2
 have E_Clashing:qc K mg "Clashing":=⟨_,n_Clashing,PySem.W.mg_of X G n_Clashing,ek_Clashing⟩
 have E_NotMetered:qc K mg "NotMetered":=⟨_,n_NotMetered,PySem.W.mg_of X G n_NotMetered,ek_NotMetered⟩
 have E_UnknownStream:qc K mg "UnknownStream":=⟨_,n_UnknownStream,PySem.W.mg_of X G n_UnknownStream,ek_UnknownStream⟩
 have I_Clashing:AY K mg "Clashing" (qS [("UnknownStream",false),("NotMetered",false),("Clashing",true)]):=⟨_,PySem.W.mg_of X G n_Clashing,qg (fun x hx=>by
  simp only[List.mem_cons,List.not_mem_nil,or_false]at hx
  rcases hx with rfl|rfl|rfl
  ·exact⟨_,n_UnknownStream,iI e1_Clashing m_Clashing_UnknownStream e7_UnknownStream,ek_UnknownStream⟩
  ·exact⟨_,n_NotMetered,iI e1_Clashing m_Clashing_NotMetered e7_NotMetered,ek_NotMetered⟩
  ·exact⟨_,n_Clashing,iI e1_Clashing m_Clashing_Clashing e7_Clashing,ek_Clashing⟩)⟩
 have I_UnknownStream:AY K mg "UnknownStream" (qS [("UnknownStream",true),("NotMetered",false),("Clashing",false)]):=⟨_,PySem.W.mg_of X G n_UnknownStream,qg (fun x hx=>by
  simp only[List.mem_cons,List.not_mem_nil,or_false]at hx
  rcases hx with rfl|rfl|rfl
  ·exact⟨_,n_UnknownStream,iI e1_UnknownStream m_UnknownStream_UnknownStream e7_UnknownStream,ek_UnknownStream⟩
  ·exact⟨_,n_NotMetered,iI e1_UnknownStream m_UnknownStream_NotMetered e7_NotMetered,ek_NotMetered⟩
  ·exact⟨_,n_Clashing,iI e1_UnknownStream m_UnknownStream_Clashing e7_Clashing,ek_Clashing⟩)⟩
 have I_ValueError:qd K (.type "ValueError") (qS [("UnknownStream",true),("NotMetered",true),("Clashing",true)]):=qg (fun x hx=>by
  simp only[List.mem_cons,List.not_mem_nil,or_false]at hx
  rcases hx with rfl|rfl|rfl
  ·exact⟨_,n_UnknownStream,nX m_ValueError_UnknownStream,ek_UnknownStream⟩
  ·exact⟨_,n_NotMetered,nX m_ValueError_NotMetered,ek_NotMetered⟩
  ·exact⟨_,n_Clashing,nX m_ValueError_Clashing,ek_Clashing⟩)
 have U_CellarError:xp K mg "CellarError" (AW ["UnknownStream","NotMetered","Clashing"]):=AX (PySem.W.mg_of X G n_CellarError) (fun x hx=>by
  simp only[List.mem_cons,List.not_mem_nil,or_false]at hx
  rcases hx with rfl|rfl|rfl
  ·exact⟨_,n_UnknownStream,nY e1_CellarError m_CellarError_UnknownStream e6_CellarError⟩
  ·exact⟨_,n_NotMetered,nY e1_CellarError m_CellarError_NotMetered e6_CellarError⟩
  ·exact⟨_,n_Clashing,nY e1_CellarError m_CellarError_Clashing e6_CellarError⟩)
 refine⟨PySem.W.fnOf "law" "law" (aN lP) (aG lP) (ah lP) .none kV45 dc45 pm45 an45 cd45 ct45,fun s v=> .of_eq rfl,fun base _ _=> ?_⟩
 have G_way_over:aE l.prog w K mg base 1 "way_over" 2 cj:=uM A1 B
 have G_brought_by:aE l.prog w K mg base 2 "brought_by" 3 db:=qT A2 B G_way_over
 have G_rise_of:aE l.prog w K mg base 1 "rise_of" 2 gm:=wl A3 B
 have G_steps_from:aE l.prog w K mg base 1 "steps_from" 2 fu:=qU A4 B
 have G_arrivals_from:aE l.prog w K mg base 2 "arrivals_from" 2 bX:=o1 A5 B G_steps_from
 have G_bunches_of:aE l.prog w K mg base 3 "bunches_of" 2 cA:=qV A6 B G_arrivals_from gl_OUTSIDE
 have G_path_of:aE l.prog w K mg base 3 "path_of" 3 hE:=wm A7 B G_arrivals_from
 have G_Day_stream:cU l.prog w K mg base 1 "Day" "stream" 2 bL:=qW A8 B E_UnknownStream T_Day
 have G_Day_metered:cU l.prog w K mg base 2 "Day" "metered" 2 aU:=qk A9 B G_Day_stream T_Day
 have G_Day_without_meter:cU l.prog w K mg base 3 "Day" "without_meter" 1 bj:=lf A10 B G_Day_metered T_Day
 have G_others_without_meter:aE l.prog w K mg base 4 "others_without_meter" 2 bd:=jU A11 B G_Day_without_meter
 have G_ring_of:aE l.prog w K mg base 5 "ring_of" 2 gn:=wo A12 B G_Day_metered G_Day_stream G_path_of G_others_without_meter
 have G_clashes_of:aE l.prog w K mg base 4 "clashes_of" 1 gH:=qX A13 B G_bunches_of G_Day_without_meter G_rise_of G_brought_by gl_OUTSIDE T_Day
 have G_refuse_clashes:aE l.prog w K mg base 5 "refuse_clashes" 1 cR:=n5 A14 B G_clashes_of E_Clashing
 have G_group_of:aE l.prog w K mg base 5 "group_of" 2 dU:=uN A15 B G_Day_metered G_Day_stream G_bunches_of G_others_without_meter G_way_over gl_OUTSIDE T_Day
 have G_amount_left:aE l.prog w K mg base 3 "amount_left" 3 eu:=qm A16 B G_rise_of G_brought_by G_way_over G_Day_stream T_Day
 have G_Day_reading:cU l.prog w K mg base 3 "Day" "reading" 2 cQ:=qo A17 B G_Day_metered E_NotMetered T_Day
 have G_told_of:aE l.prog w K mg base 6 "told_of" 2 b_:=wq A18 B G_Day_metered G_refuse_clashes G_Day_reading G_group_of G_amount_left G_ring_of
 have G_Day_init:qa l.prog w K mg base 1 "Day" 4 cW:=uO A19 B
 have G_law_at:aE l.prog w K mg base 1 "_law_at" 2 fJ:=yP A20 B
 have G_law_cell:aE l.prog w K mg base 2 "_law_cell" 2 aB:=uP A21 B G_law_at
 have G_law_same:aE l.prog w K mg base 8 "_law_same" 2 ba:=uQ A22 B
 have G_law_whole:aE l.prog w K mg base 1 "_law_whole" 1 c0:=t6 A23 B
 have G_law_streams:aE l.prog w K mg base 3 "_law_streams" 3 fK:=qq A24 B G_law_cell
 have G_law_metered:aE l.prog w K mg base 3 "_law_metered" 3 fM:=qr A25 B G_law_cell
 have G_law_span:aE l.prog w K mg base 1 "_law_span" 4 iU:=uR A26 B
 have G_law_flows:aE l.prog w K mg base 2 "_law_flows" 5 ig:=t7 A27 B G_law_span
 have G_law_truth:aE l.prog w K mg base 3 "_law_truth" 5 ii:=t8 A28 B G_law_cell G_law_flows
 have G_law_readings:aE l.prog w K mg base 3 "_law_readings" 5 eR:=oQ A29 B G_law_cell
 have G_law_rises:aE l.prog w K mg base 3 "_law_rises" 4 ij:=t9 A30 B G_law_cell
 have G_law_case:aE l.prog w K mg base 4 "_law_case" 1 iW:=uS A31 B G_law_cell G_law_streams G_law_metered G_law_truth G_law_readings G_law_rises
 have G_law_day:aE l.prog w K mg base 3 "_law_day" 2 jS:=wt A32 B G_law_cell G_Day_init
 have G_law_kept:aE l.prog w K mg base 9 "_law_kept" 2 iX:=uT A33 B G_law_same T_Day
 have G_law_loose:aE l.prog w K mg base 1 "_law_loose" 1 bP:=tf A34 B
 have G_law_flood:aE l.prog w K mg base 1 "_law_flood" 2 dc:=tj A35 B
 have G_law_net:aE l.prog w K mg base 1 "_law_net" 3 eA:=wu A36 B
 have G_law_due_clashes:aE l.prog w K mg base 2 "_law_due_clashes" 1 de:=mE A37 B G_law_loose G_law_flood G_law_net
 have G_law_is_group:aE l.prog w K mg base 2 "_law_is_group" 2 eW:=oR A38 B G_law_whole
 have G_law_into:aE l.prog w K mg base 1 "_law_into" 2 hW:=uU A39 B
 have G_law_is_way:aE l.prog w K mg base 2 "_law_is_way" 4 gL:=qY A40 B G_law_whole
 have G_law_is_ring:aE l.prog w K mg base 9 "_law_is_ring" 3 eB:=qv A41 B G_law_same G_law_loose G_law_is_way
 have G_law_parts_only:aE l.prog w K mg base 3 "_law_parts_only" 3 dE:=nk A42 B G_law_is_group G_law_loose G_law_into
 have G_law_told_right:aE l.prog w K mg base 10 "_law_told_right" 3 bS:=nl A43 B G_law_same G_law_loose G_law_flood G_law_is_ring G_law_parts_only G_law_whole G_law_net
 have G_law_asked:aE l.prog w K mg base 7 "_law_asked" 2 cE:=tm A44 B G_told_of I_Clashing I_UnknownStream I_ValueError U_CellarError
 exact FY F45 B G_law_case G_law_day G_law_due_clashes G_law_asked G_law_told_right G_law_cell G_law_kept
end
theorem walk {l:PySem.W.OpenLaw} {q:Program} {loose:List Str} {XP:(Str->Option Value)->Heap->Prop} {YP:World->Heap->Prop} {d:DefRec} {K:Params->PySem.W.Frag} (hn:l.most=some 63) (hdf:d.params.defaults=[])
  (hY:∀(w:World) (h:Heap),YP w h->(K w.params).In h) (main:∀ns:List Int,ns.length<=63->rR [.scr ns]= .ok (.bl true))
  (F:∀(w:World) (mg:Str->Option Value) (fa:Addr) (h:Heap),(K w.params).In h->h.Ns mainGlobals mg->mg d.name=some (.ref fa)->
   ∃fd:FuncData,(∀(s:Shared) (u:Value),BindsTo s fd ⟨[u],[]⟩ [("_law_script",u)])/\∀base:Heap,(K w.params).In base->base.Ns mainGlobals mg->i7 l.prog w (K w.params) mg base (oY l.prog w) 11 fa fd ["_law_script"] (yt (K w.params) 1 rR)):
  PySem.W.WalkO q loose XP YP l.row.toRowW d [] (fun f vs=>PySem.call f vs):=
 L2.CB (n:=63) (k:=11) (x:="_law_script") (CX:=fun w=>oY l.prog w) (sp:=fun w=>yt (K w.params) 1 rR) hn (by decide) hdf ⟨rfl,by decide,by decide⟩ hY F (fun _ _ a ns hl _ hS=>FG (main ns hl) hS) fun _ _ _ _ _ z=>L2.Pu.FT z
end My
namespace My
open PySem PySem.Spec PyProof.Rows L2 L2.Pu
local macro_rules|`(tactic|simp! [$xs,*])=>`(tactic|simp only[aw,aY,gN,cF,aX,aJ,oM,gw,ie,oN,jG,frz,frz1,List.foldl,cz,f2,f1,d5,ir,cn,fL,ax,kQ,IB,pQ,Ha,fT,cp,oK,nS,eJ,aa,ai,ao,af,fC,CU,ay,cg,List.getElem?_cons_zero,List.getElem?_cons_succ,List.set_cons_zero,List.set_cons_succ,kS,ux,AM,List.length_cons,List.length_nil,Nat.zero_add,Nat.reduceAdd,if_true,if_false,Bool.false_eq_true,Bool.not_true,Bool.not_false,gS,decide_true,decide_false,FH,FI,AG,E7,E6,Hf,Hg,Hh,w9,AH,FK,wa,CY,CZ,AI,AJ,Hi,xk,List.nil_append,Option.map_some,Nat.zero_le,$xs,*])
def Dg (ns:List Int) (k:Nat):Int:=ns.getD k 0
theorem xq (ns:List Int) (k:Nat):fJ [.scr ns, .int (k:Int)]= .ok (.int (Dg ns k)):=by
 unfold fJ aZ
 simp only[fA,uL,aw,cF,aX,aJ,f2,d5,af,fC,fT,aa,ai,FL,E6,Hj,List.length_cons,List.length_nil,if_true,List.map_cons,List.map_nil,List.replicate,Nat.sub_self,List.append_nil,List.getElem?_cons_zero,List.getElem?_cons_succ,Slot.data,ay,cg]
 by_cases h:k<ns.length
 ·have h':(k:Int)<(ns.length:Int):=by omega
  simp only[h',decide_true,if_true,eL h,Option.map_some,cg,ay]
  simp[Dg,h]
 ·have h':¬(k:Int)<(ns.length:Int):=by omega
  simp only[h',decide_false,if_false,Bool.false_eq_true,ay]
  simp[Dg,Nat.le_of_not_lt h]
theorem Jh (ns:List Int):fJ [.scr ns, .int 0]= .ok (.int (Dg ns 0)):=xq ns 0
def cl (ns:List Int) (k:Nat):Int:=if Dg ns 0%2=0 then Dg ns k else ((Dg ns k+Dg ns 0 / 2+7919*(k:Int)+1)*48271%2147483647+(k:Int))*69621%2147483647
theorem gr (ns:List Int) (k:Nat):aB [.scr ns, .int (k:Int)]= .ok (.int (cl ns k)):=by
 refine aL rfl ?_
 show my [some (.val (.scr ns)),some (.val (.int (k:Int))),none]=_
 by_cases h:Dg ns 0%2=0<;>simp! [my,Jh,xq,h,bO (show (0:Int)<2 by decide),ee (show (0:Int)<2/\(2:Int)<1073741824 by decide),AF (show Int.natAbs 48271<18446744073709551616 by decide),AF (show Int.natAbs 69621<18446744073709551616 by decide),w8 (show Int.natAbs 7919<18446744073709551616 by decide),bO (show (0:Int)<2147483647 by decide),cl]
theorem uV {g:D->aq->R aq} {gb:aq->R bM} {n:Nat} {P:Nat->aq->Prop} (h:∀k,k<n->∀ρ,P k ρ->∃ρ1 ρ2,g (.int (k:Int)) ρ= .ok ρ1/\(gb ρ1= .ok (.nx ρ2)\/gb ρ1= .ok (.cnt ρ2))/\P (k+1) ρ2):∀(j k:Nat) (ρ:aq),k+j=n->P k ρ->∃ρ',bV g gb ((List.range' k j).map fun k:Nat=>D.int (k:Int)) ρ= .ok (.nx ρ')/\P n ρ'
 |0,k,ρ,e,hp=>⟨ρ,rfl,by rw[Nat.add_zero]at e;exact e▸hp⟩
 |j+1,k,ρ,e,hp=>by
  obtain⟨ρ1,ρ2,e1,e2,h2⟩:=h k (by omega) ρ hp
  obtain⟨ρ',e3,h3⟩:=uV h j (k+1) ρ2 (by omega) h2
  refine⟨ρ',?_,h3⟩
  rw[List.range'_succ,List.map_cons]
  rcases e2 with e2|e2
  ·rw[cI e1 e2,e3]
  ·rw[uv e1 e2,e3]
theorem nq {g:D->aq->R aq} {gb:aq->R bM} {n:Nat} {P:Nat->aq->Prop} {fs:aq->R (List D)} {ρ:aq} (hf:fs ρ= .ok [.int (n:Int)]) (hn:n<=1000) (h0:P 0 ρ) (h:∀k,k<n->∀ρ,P k ρ->∃ρ1 ρ2,g (.int (k:Int)) ρ= .ok ρ1/\(gb ρ1= .ok (.nx ρ2)\/gb ρ1= .ok (.cnt ρ2))/\P (k+1) ρ2):∃ρ',gw (gD fs) g gb ρ= .ok (.nx ρ')/\P n ρ':=by
 obtain⟨ρ',e,hp⟩:=uV h n 0 ρ (by omega) h0
 rw[<-List.range_eq_range']at e
 exact⟨ρ',(eC (nU hf (by unfold lim;omega))).trans e,hp⟩
theorem qw {α β:Type} (f:α->β) {l:List α} {k:Nat} (h:k<l.length):(l.take (k+1)).map f=(l.take k).map f++[f l[k]]:=by
 rw[<-List.take_append_getElem h,List.map_append];rfl
abbrev bb:=Int×Int×Int
def av (r:bb):D:= .tup [.int r.1, .int r.2.1, .int r.2.2]
structure Good (n:Nat) (ss:List bb):Prop where
 inc:ss.Pairwise fun a b=>a.1<b.1
 num:∀r∈ss,1<=r.1/\r.1<=60
 src:∀r∈ss,0<=r.2.1/\r.2.1<=n
 tgt:∀r∈ss,0<=r.2.2/\r.2.2<=n
 ne:∀r∈ss,r.2.1≠r.2.2
def nr (ns:List Int) (c room:Int):Int:=if cl ns 4 / 8%2=1 then c%room%4 else c%room
def uW (ns:List Int) (n num room c:Int):bb:=(num+1+nr ns c room,c / room%(n+1),(c / room%(n+1)+1+c / room / (n+1)%n)%(n+1))
theorem Ec (ns:List Int):aB [.scr ns, .int 4]= .ok (.int (cl ns 4)):=gr ns 4
theorem B4 {ns:List Int} {n many k:Nat} {num:Int} {acc:List D} {x6 x7 x8 x9 x10:Option Slot} (hn:0<n) (hn7:n<=7) (hr:0<61 - num - (many:Int)+(k:Int)) (hr2:61 - num - (many:Int)+(k:Int)<=100) (hlim:acc.length<lim):
  ∃y6 y7 y8 y9 y10,gI [some (.val (.scr ns)),some (.val (.int (n:Int))),some (.val (.int (many:Int))),some (.own (.lst acc)),some (.val (.int num)),some (.val (.int (k:Int))),x6,x7,x8,x9,x10]
   = .ok (.nx [some (.val (.scr ns)),some (.val (.int (n:Int))),some (.val (.int (many:Int))),some (.own (.lst (acc++[av (uW ns n num (61 - num - (many:Int)+(k:Int)) (cl ns (5+k)))]))),some (.val (.int (num+1+nr ns (cl ns (5+k)) (61 - num - (many:Int)+(k:Int))))),some (.val (.int (k:Int))),y6,y7,y8,y9,y10]):=by
 have hc:aB [.scr ns, .int (5+(k:Int))]= .ok (.int (cl ns (5+k))):=by
  have:=gr ns (5+k)
  rwa [show ((5+k:Nat):Int)=5+(k:Int) by omega]at this
 have hn1:(0:Int)<(n:Int)+1:=by omega
 have hn0:(0:Int)<(n:Int):=by omega
 have hl3:(3:Nat)<=lim:=by decide
 generalize he:(61 - num - (many:Int)+(k:Int))=room at*
 refine⟨some (.val (.int room)),some (.val (.int (cl ns (5+k)))),some (.val (.int (nr ns (cl ns (5+k)) room))),some (.val (.int (cl ns (5+k) / room%((n:Int)+1)))),some (.val (.int ((cl ns (5+k) / room%((n:Int)+1)+1+cl ns (5+k) / room / ((n:Int)+1)%(n:Int))%((n:Int)+1)))),?_⟩
 by_cases h:cl ns 4 / 8%2=1<;>simp! [gI,he,hc,Ec,h,ee (show (0:Int)<8/\(8:Int)<1073741824 by decide),bO (show (0:Int)<2 by decide),bO (show (0:Int)<4 by decide),bO hr,ee (show 0<room/\room<1073741824 from ⟨hr,by omega⟩),bO hn1,bO hn0,ee (show 0<(n:Int)+1/\(n:Int)+1<1073741824 from ⟨hn1,by omega⟩),hlim,hl3,nr,uW,av]
theorem F_ (ns:List Int) (c room:Int) (h:0<room):0<=nr ns c room/\nr ns c room<room:=by
 unfold nr
 have h1:=Int.emod_nonneg c (show room≠0 by omega)
 have h2:=Int.emod_lt_of_pos c h
 split<;>omega
theorem B5 (ns:List Int) (n:Nat) (num room c:Int) (hn:0<n):let r:=uW ns n num room c;(0<=r.2.1/\r.2.1<=n)/\(0<=r.2.2/\r.2.2<=n)/\r.2.1≠r.2.2:=by
 have hp:(0:Int)<(n:Int)+1:=by omega
 have h0:(0:Int)<(n:Int):=by omega
 have a1:=Int.emod_nonneg (c / room) (show (n:Int)+1≠0 by omega)
 have a2:=Int.emod_lt_of_pos (c / room) hp
 have b1:=Int.emod_nonneg (c / room / ((n:Int)+1)) (show (n:Int)≠0 by omega)
 have b2:=Int.emod_lt_of_pos (c / room / ((n:Int)+1)) h0
 have c1:=Int.emod_nonneg (c / room%((n:Int)+1)+1+c / room / ((n:Int)+1)%(n:Int)) (show (n:Int)+1≠0 by omega)
 have c2:=Int.emod_lt_of_pos (c / room%((n:Int)+1)+1+c / room / ((n:Int)+1)%(n:Int)) hp
 refine⟨⟨a1,by show c / room%((n:Int)+1)<=(n:Int);omega⟩,⟨c1,by show (c / room%((n:Int)+1)+1+c / room / ((n:Int)+1)%(n:Int))%((n:Int)+1)<=(n:Int);omega⟩,?_⟩
 show c / room%((n:Int)+1)≠(c / room%((n:Int)+1)+1+c / room / ((n:Int)+1)%(n:Int))%((n:Int)+1)
 generalize c / room%((n:Int)+1)=s at*
 generalize c / room / ((n:Int)+1)%(n:Int)=e at*
 by_cases hlt:s+1+e<(n:Int)+1
 ·rw[Int.emod_eq_of_lt (by omega) hlt];omega
 ·have:(s+1+e)%((n:Int)+1)=s+1+e - ((n:Int)+1):=by
   rw[<-Int.sub_emod_right,Int.emod_eq_of_lt (by omega) (by omega)]
  rw[this];omega
theorem Good.snoc {n:Nat} {ss:List bb} {r:bb} (g:Good n ss) (h1:∀q∈ss,q.1<r.1) (h2:1<=r.1/\r.1<=60) (h3:(0<=r.2.1/\r.2.1<=n)/\(0<=r.2.2/\r.2.2<=n)/\r.2.1≠r.2.2):Good n (ss++[r]):=by
 have key:∀{Q:bb->Prop},(∀q∈ss,Q q)->Q r->∀q∈ss++[r],Q q:=fun a b q hq=>(List.mem_append.mp hq).elim (a q) fun z=>List.mem_singleton.mp z▸b
 exact⟨List.pairwise_append.mpr ⟨g.inc,List.pairwise_singleton _ _,fun a ha b hb=>List.mem_singleton.mp hb▸h1 a ha⟩,key g.num h2,key g.src h3.1,key g.tgt h3.2.1,key g.ne h3.2.2⟩
theorem tq (ns:List Int) (n many:Nat) (hn7:n<=7) (hm:many<=12) (h0:0<n\/many=0):∃ss:List bb,fK [.scr ns, .int (n:Int), .int (many:Int)]= .ok (.lst (ss.map av))/\ss.length=many/\Good n ss:=by
 obtain⟨ρ',e,ss,num,y5,y6,y7,y8,y9,y10,rfl,h1,h2,_⟩:=nq (g:=gN 5) (gb:=gI) (n:=many) (fs:=aa (ao 2) (ai)) (ρ:=[some (.val (.scr ns)),some (.val (.int (n:Int))),some (.val (.int (many:Int))),some (.own (.lst (([]:List bb).map av))),some (.val (.int 0)),none,none,none,none,none,none])
  (P:=fun k ρ=>∃(ss:List bb) (num:Int) (y5 y6 y7 y8 y9 y10:Option Slot),ρ=[some (.val (.scr ns)),some (.val (.int (n:Int))),some (.val (.int (many:Int))),some (.own (.lst (ss.map av))),some (.val (.int num)),y5,y6,y7,y8,y9,y10]/\ss.length=k/\Good n ss/\(∀r∈ss,r.1<=num)/\0<=num/\num+(many:Int) - (k:Int)<=60)
  rfl (by omega) ⟨[],0,_,_,_,_,_,_,rfl,rfl,⟨.nil,by simp,by simp,by simp,by simp⟩,by simp,Int.le_refl _,by omega⟩ (fun k hk ρ hρ=>by
   obtain⟨ss,num,y5,y6,y7,y8,y9,y10,rfl,l1,g,hb,hz,hn⟩:=hρ
   have hr:0<61 - num - (many:Int)+(k:Int):=by omega
   obtain⟨z6,z7,z8,z9,z10,es⟩:=B4 (ns:=ns) (n:=n) (many:=many) (k:=k) (num:=num) (acc:=ss.map av) (x6:=y6) (x7:=y7) (x8:=y8) (x9:=y9) (x10:=y10) (by omega) hn7 hr (by omega) (by rw[List.length_map];unfold lim;omega)
   have hg:=F_ ns (cl ns (5+k)) _ hr
   have hrow:=B5 ns n num (61 - num - (many:Int)+(k:Int)) (cl ns (5+k)) (by omega)
   have hnum:(uW ns n num (61 - num - (many:Int)+(k:Int)) (cl ns (5+k))).1=num+1+nr ns (cl ns (5+k)) (61 - num - (many:Int)+(k:Int)):=rfl
   generalize uW ns n num (61 - num - (many:Int)+(k:Int)) (cl ns (5+k))=row at*
   generalize nr ns (cl ns (5+k)) (61 - num - (many:Int)+(k:Int))=gp at*
   refine⟨_,_,rfl, .inl es,ss++[row],_,_,_,_,_,_,_,by rw[List.map_append];rfl,by simp[l1],g.snoc (fun q hq=> ?_) (by omega) hrow,fun q hq=> ?_,by omega,by omega⟩
   ·have:=hb q hq
    omega
   ·rcases List.mem_append.mp hq with hq|hq
    ·have:=hb q hq
     omega
    ·rw[List.mem_singleton.mp hq,hnum]
     exact Int.le_refl _)
 refine⟨ss,aL rfl ?_,h1,h2⟩
 show jw [some (.val (.scr ns)),some (.val (.int (n:Int))),some (.val (.int (many:Int))),none,none,none,none,none,none,none,none]=_
 unfold jw
 rw[au (ρ':=[some (.val (.scr ns)),some (.val (.int (n:Int))),some (.val (.int (many:Int))),some (.own (.lst (([]:List bb).map av))),none,none,none,none,none,none,none]) rfl,
  au (ρ':=[some (.val (.scr ns)),some (.val (.int (n:Int))),some (.val (.int (many:Int))),some (.own (.lst (([]:List bb).map av))),some (.val (.int 0)),none,none,none,none,none,none]) rfl,au e]
 rfl
inductive Wf:Nat->D->Prop
 |int (n:Nat) (i:Int):Wf n (.int i)
 |str (n:Nat) (x:Str):Wf n (.str x)
 |non (n:Nat):Wf n .non
 |tup {n:Nat} {ds:List D}:ds.length<=1000->(∀d∈ds,Wf n d)->Wf (n+1) (.tup ds)
theorem Wf.up {n:Nat} {d:D} (h:Wf n d):∀k,Wf (n+k) d:=by
 induction h with
 |int n i=>exact fun k=> .int _ i
 |str n x=>exact fun k=> .str _ x
 |non n=>exact fun k=> .non _
 | @tup n ds h1 h2 ih=>exact fun k=>by rw[Nat.add_right_comm];exact .tup h1 fun d hd=>ih d hd k
theorem yQ {rec_:List D->R D} {ds:List D} (h:∀d∈ds,rec_ [d,d]= .ok (.bl true)) {k:Nat} (hk:k<ds.length):
  jg rec_ [some (.val (.tup ds)),some (.val (.tup ds)),some (.val (.int (k:Int)))]= .ok (.nx [some (.val (.tup ds)),some (.val (.tup ds)),some (.val (.int (k:Int)))]):=by
 have hr:=h ds[k] (List.getElem_mem hk)
 simp only[jg,cF,eJ,cp,ax,aa,ai,f2,af,aX,aJ,fC,ay,cg,List.getElem?_cons_zero,List.getElem?_cons_succ,Slot.data,xk,eL hk,List.length_cons,List.length_nil,if_true,hr,gS,Bool.not_true,Bool.false_eq_true,if_false]
theorem rT {rec_:List D->R D} {ds:List D} (h:∀d∈ds,rec_ [d,d]= .ok (.bl true)):∀(ks:List Nat) (x:Option Slot),(∀k∈ks,k<ds.length)->
  ∃y,bV (gN 2) (jg rec_) (ks.map fun k:Nat=>D.int (k:Int)) [some (.val (.tup ds)),some (.val (.tup ds)),x]= .ok (.nx [some (.val (.tup ds)),some (.val (.tup ds)),y])
 |[],x,_=>⟨x,rfl⟩
 |k::ks,x,hk=>by
  obtain⟨y,e⟩:=rT h ks (some (.val (.int (k:Int)))) fun j hj=>hk j (List.mem_cons_of_mem _ hj)
  exact⟨y,by rw[List.map_cons,cI rfl (yQ h (hk k List.mem_cons_self)),e]⟩
theorem G0 {i:Int}:pX "str" (.int i)=some (.bl false):=rfl
theorem B6 {x:Str}:pX "tuple" (.str x)=some (.bl false):=rfl
theorem B7 {x:Str}:pX "bool" (.str x)=some (.bl false):=rfl
theorem B8 {x:Str}:pX "str" (.str x)=some (.bl true):=rfl
theorem Ed {x y:Str}:jY (.str x) (.str y)=some (.bl (decide (x=y))):=rfl
theorem Hu {i:Int}:pU (.int i) .non=some (.bl false):=rfl
theorem Ee {x:Str}:pU (.str x) .non=some (.bl false):=rfl
theorem Ef:pU .non .non=some (.bl true):=rfl
theorem B9:pX "tuple" .non=some (.bl false):=rfl
theorem Ba (n:Nat) (x:Str):cD (n+1) [.str x, .str x]= .ok (.bl true):=by
 refine aL rfl ?_
 show dW (cD n) [some (.val (.str x)),some (.val (.str x)),none]=_
 simp only[dW,aw,cF,aX,aJ,cp,iN,af,kQ,pQ,f2,fT,fC,ay,cg,List.getElem?_cons_zero,List.getElem?_cons_succ,Slot.data,B6,B7,B8,Ed,B9,Ef,Ee,gS,if_true,Bool.false_eq_true,if_false,Bool.not_false,decide_true]
theorem Bb (n:Nat):cD (n+1) [.non, .non]= .ok (.bl true):=by
 refine aL rfl ?_
 show dW (cD n) [some (.val (.non)),some (.val (.non)),none]=_
 simp only[dW,aw,cF,aX,aJ,cp,iN,af,kQ,pQ,f2,fT,fC,ay,cg,List.getElem?_cons_zero,List.getElem?_cons_succ,Slot.data,B6,B7,B8,Ed,B9,Ef,Ee,gS,if_true,Bool.false_eq_true,if_false,Bool.not_false,decide_true]
theorem Bc (n:Nat) (i:Int):cD (n+1) [.int i, .int i]= .ok (.bl true):=by
 refine aL rfl ?_
 show dW (cD n) [some (.val (.int i)),some (.val (.int i)),none]=_
 simp only[dW,aw,cF,aX,aJ,cp,iN,af,kQ,pQ,f2,fT,fC,ay,cg,List.getElem?_cons_zero,List.getElem?_cons_succ,Slot.data,FN,AK,AL,G0,Hu,gS,Bool.false_eq_true,if_false,Bool.not_false,AG,decide_true]
theorem yR {n:Nat} {d:D} (h:Wf n d):cD (n+1) [d,d]= .ok (.bl true):=by
 induction h with
 |int n i=>exact Bc n i
 |str n x=>exact Ba n x
 |non n=>exact Bb n
 | @tup n ds h1 h2 ih=>
  obtain⟨y,e⟩:=rT ih (List.range ds.length) none fun k hk=>List.mem_range.mp hk
  refine aL rfl ?_
  show dW (cD (n+1)) [some (.val (.tup ds)),some (.val (.tup ds)),none]=_
  simp only[dW,aw,cF,aX,aJ,nS,eJ,fT,cp,iN,af,fC,f2,d5,aa,ai,ay,cg,List.getElem?_cons_zero,List.getElem?_cons_succ,Slot.data,sS,gS,if_true,Bool.not_true,Bool.false_eq_true,if_false,wa,E7,decide_true,gw]
  rw[nU (n:=ds.length) (by simp only[aa,ai,d5,af,ay,cg,List.getElem?_cons_zero,List.getElem?_cons_succ,Slot.data,wa]) (by unfold lim;omega),ay,e]
  simp only[ay]
theorem il {n:Nat} (hn:n<=7) {d:D} (h:Wf n d):ba [d,d]= .ok (.bl true):=by
 have:=yR (h.up (7 - n))
 rw[show n+(7 - n)+1=8 by omega]at this
 exact this
theorem yS (i:Int):ba [.int i, .int i]= .ok (.bl true):=il (Nat.zero_le _) (.int 0 i)
theorem tu (ns:List Int) (h:ns.length<=1000):Wf 1 (.tup (ns.map .int)):= .tup (by simpa using h) fun d hd=>by obtain⟨i,_,rfl⟩:=List.mem_map.mp hd;exact .int 0 i
theorem rV (ns:List Int) (h:ns.length<=1000):ba [.tup (ns.map .int), .tup (ns.map .int)]= .ok (.bl true):=il (by omega) (tu ns h)
theorem Bd {ss:List bb} {k:Nat} (h:k<ss.length):L2.atI (ss.map av) (k:Int)=some (av ss[k]):=by
 rw[eL (by simpa using h)]
 simp
theorem dF {α:Type} {x:α} {xs:List α}:L2.atI (x::xs) 0=some x:=by
 have:=eL (xs:=x::xs) (k:=0) (by simp)
 simpa using this
theorem i_ {α:Type} {x y:α} {xs:List α}:L2.atI (x::y::xs) 1=some y:=by
 have:=eL (xs:=x::y::xs) (k:=1) (by simp)
 simpa using this
theorem p6 (ns:List Int) (c k:Nat) {ci:Int} (h:ci=(c:Int)):aB [.scr ns, .int (ci+(k:Int))]= .ok (.int (cl ns (c+k))):=by
 have:=gr ns (c+k)
 rwa [show ((c+k:Nat):Int)=ci+(k:Int) by omega]at this
theorem Be {ns:List Int} {ss:List bb} {share:Int} {acc:List Int} {k:Nat} (hk:k<ss.length) (hl:acc.length<=10):∃acc':List Int,dD [some (.val (.scr ns)),some (.val (.lst (ss.map av))),some (.val (.int share)),some (.own (.lst (acc.map .int))),some (.val (.int (k:Int)))]
   = .ok (.nx [some (.val (.scr ns)),some (.val (.lst (ss.map av))),some (.val (.int share)),some (.own (.lst (acc'.map .int))),some (.val (.int (k:Int)))])/\(acc'=acc\/acc'=acc++[ss[k].1])/\acc'.length<=10:=by
 have hc:aB [.scr ns, .int (17+(k:Int))]=_:=p6 ns 17 k rfl
 have hlim:acc.length<lim:=by unfold lim;omega
 have ap:acc.map D.int++[D.int ss[k].1]=(acc++[ss[k].1]).map D.int:=by simp
 by_cases h1:cl ns (17+k)%4<share
 ·by_cases h2:acc.length<10
  ·refine⟨acc++[ss[k].1],?_, .inr rfl,by simp;omega⟩
   have h2':(acc.length:Int)<10:=by omega
   simp! [dD,hc,bO (show (0:Int)<4 by decide),h1,h2',Bd hk,av,dF,hlim,List.length_map,ap]
  ·refine⟨acc,?_, .inl rfl,hl⟩
   have h2':¬(acc.length:Int)<10:=by omega
   simp! [dD,hc,bO (show (0:Int)<4 by decide),h1,h2',List.length_map]
 ·refine⟨acc,?_, .inl rfl,hl⟩
  simp! [dD,hc,bO (show (0:Int)<4 by decide),h1,List.length_map]
theorem tw (ns:List Int) (ss:List bb) (hs:ss.length<=1000) (share:Int):∃mm:List Int,fM [.scr ns, .lst (ss.map av), .int share]= .ok (.lst (mm.map .int))/\mm.Sublist (ss.map (·.1))/\mm.length<=10:=by
 obtain⟨ρ',e,mm,y4,rfl,h1,h2⟩:=nq (g:=gN 4) (gb:=dD) (n:=ss.length) (fs:=aa (d5 fc (aa (af 1) (ai))) (ai)) (ρ:=[some (.val (.scr ns)),some (.val (.lst (ss.map av))),some (.val (.int share)),some (.own (.lst (([]:List Int).map .int))),none])
  (P:=fun k ρ=>∃(acc:List Int) (y4:Option Slot),ρ=[some (.val (.scr ns)),some (.val (.lst (ss.map av))),some (.val (.int share)),some (.own (.lst (acc.map .int))),y4]/\acc.Sublist ((ss.take k).map (·.1))/\acc.length<=10)
  (by simp! [List.length_map]) hs ⟨_,_,rfl, .slnil,by simp⟩ (fun k hk ρ hρ=>by
   obtain⟨acc,y4,rfl,hs,hl⟩:=hρ
   obtain⟨acc1,e1,h1,h2⟩:=Be (ns:=ns) (share:=share) hk hl
   refine⟨_,_,rfl, .inl e1,acc1,_,rfl,?_,h2⟩
   rw[qw _ hk]
   rcases h1 with rfl|rfl
   ·exact hs.trans (List.sublist_append_left _ _)
   ·exact hs.append (List.Sublist.refl _))
 rw[List.take_length]at h1
 refine⟨mm,aL rfl ?_,h1,h2⟩
 show jx [some (.val (.scr ns)),some (.val (.lst (ss.map av))),some (.val (.int share)),none,none]=_
 unfold jx
 rw[au (ρ':=[some (.val (.scr ns)),some (.val (.lst (ss.map av))),some (.val (.int share)),some (.own (.lst (([]:List Int).map .int))),none]) rfl,au e]
 rfl
def lv (L:List Int) (i:Int):Int:=L.getD i.toNat 0
theorem xr {L:List Int} {i:Int} (h0:0<=i) (h1:i<L.length):L2.atI (L.map D.int) i=some (.int (lv L i)):=by
 obtain⟨k,rfl⟩:=Int.eq_ofNat_of_zero_le h0
 have hk:k<L.length:=by omega
 rw[eL (by simpa using hk)]
 simp[lv,hk]
theorem Bf {i j:Int}:yC [.int i, .int j]=some (.int (if j>i then j else i)):=rfl
theorem Bg {i j:Int}:yB [.int i, .int j]=some (.int (if j<i then j else i)):=rfl
theorem Eg {a b c:Int} (h1:a<=c) (h2:b<=c):(if b>a then b else a)<=c:=by split<;>assumption
theorem Bh {a b c:Int} (h:c<=a):c<=(if b>a then b else a):=by
 split
 ·exact Int.le_trans h (Int.le_of_lt (by assumption))
 ·exact h
theorem Bi {a b c:Int} (h:c<=b):c<=(if b>a then b else a):=by
 split
 ·exact h
 ·exact Int.le_trans h (Int.not_lt.mp (by assumption))
theorem Eh {a b c:Int} (h1:c<=a) (h2:c<=b):c<=(if b<a then b else a):=by split<;>assumption
theorem Bj {a b c:Int} (h:a<=c):(if b<a then b else a)<=c:=by
 split
 ·exact Int.le_trans (Int.le_of_lt (by assumption)) h
 ·exact h
theorem Bm {a b c:Int} (h:b<=c):(if b<a then b else a)<=c:=by
 split
 ·exact h
 ·exact Int.le_trans (Int.not_lt.mp (by assumption)) h
theorem yT {L:List Int} {n:Nat} {s t most:Int} (hL:L.length=n+1) (hs:0<=s/\s<=n) (ht:0<=t/\t<=n) (hm:0<=most) (hb:∀i:Int,1<=i->i<=n-> -1000<=lv L i/\lv L i<=1000):
  ∃lo hi:Int,iU [.lst (L.map .int), .int s, .int t, .int most]= .ok (.lst [.int lo, .int hi])/\lo<=0/\0<=hi/\ -most<=lo/\hi<=most/\(0<s->lv L s - 1000<=lo/\hi<=lv L s+1000)/\(0<t-> -1000 - lv L t<=lo/\hi<=1000 - lv L t):=by
 have hsl:L2.atI (L.map D.int) s=some (.int (lv L s)):=xr hs.1 (by omega)
 have htl:L2.atI (L.map D.int) t=some (.int (lv L t)):=xr ht.1 (by omega)
 have hl2:(2:Nat)<=lim:=by decide
 have hm': -most<=0:=Int.neg_nonpos_of_nonneg hm
 have r:= @Int.le_refl
 have key:∀i:Int,0<i->i<=n->(lv L i - 1000<=0/\0<=lv L i+1000)/\ -1000 - lv L i<=0/\0<=1000 - lv L i:=fun i h1 h2=>by
  have:=hb i h1 h2
  omega
 obtain⟨lo1,hi1,e1,p1,p2,p3,p4,p5⟩:∃lo1 hi1:Int,cF (fT (f2 ui (af 1) (fC (.int 0)))) (aw (aY (d5 yC (aa (af 4) (aa (f2 gM (f2 bq (af 0) (af 1)) (fC (.int 1000))) (ai)))) (gN 4)) (aY (d5 yB (aa (af 5) (aa (f2 c_ (f2 bq (af 0) (af 1)) (fC (.int 1000))) (ai)))) (gN 5))) (aJ) [some (.val (.lst (L.map .int))),some (.val (.int s)),some (.val (.int t)),some (.val (.int most)),some (.val (.int (-most))),some (.val (.int most))]
   = .ok (.nx [some (.val (.lst (L.map .int))),some (.val (.int s)),some (.val (.int t)),some (.val (.int most)),some (.val (.int lo1)),some (.val (.int hi1))])/\lo1<=0/\0<=hi1/\ -most<=lo1/\hi1<=most/\(0<s->lv L s - 1000<=lo1/\hi1<=lv L s+1000):=by
  by_cases h1:0<s
  ·have k:=(key s h1 hs.2).1
   exact⟨_,_,by simp! [h1,hsl,Bf,Bg],Eg hm' k.1,Eh hm k.2,Bh (r _),Bj (r _),fun _=>⟨Bi (r _),Bm (r _)⟩⟩
  ·exact⟨-most,most,by simp! [h1],hm',hm,r _,r _,fun z=>absurd z h1⟩
 obtain⟨lo2,hi2,e2,q1,q2,q3,q4,q5⟩:∃lo2 hi2:Int,cF (fT (f2 ui (af 2) (fC (.int 0)))) (aw (aY (d5 yC (aa (af 4) (aa (f2 gM (f1 kR (fC (.int 1000))) (f2 bq (af 0) (af 2))) (ai)))) (gN 4)) (aY (d5 yB (aa (af 5) (aa (f2 gM (fC (.int 1000)) (f2 bq (af 0) (af 2))) (ai)))) (gN 5))) (aJ) [some (.val (.lst (L.map .int))),some (.val (.int s)),some (.val (.int t)),some (.val (.int most)),some (.val (.int lo1)),some (.val (.int hi1))]
   = .ok (.nx [some (.val (.lst (L.map .int))),some (.val (.int s)),some (.val (.int t)),some (.val (.int most)),some (.val (.int lo2)),some (.val (.int hi2))])/\lo2<=0/\0<=hi2/\lo1<=lo2/\hi2<=hi1/\(0<t-> -1000 - lv L t<=lo2/\hi2<=1000 - lv L t):=by
  by_cases h1:0<t
  ·have k:=(key t h1 ht.2).2
   exact⟨_,_,by simp! [h1,htl,Bf,Bg],Eg p1 k.1,Eh p2 k.2,Bh (r _),Bj (r _),fun _=>⟨Bi (r _),Bm (r _)⟩⟩
  ·exact⟨lo1,hi1,by simp! [h1],p1,p2,r _,r _,fun z=>absurd z h1⟩
 refine⟨lo2,hi2,aL rfl ?_,q1,q2,Int.le_trans p3 q3,Int.le_trans q4 p4,fun z=>⟨Int.le_trans (p5 z).1 q3,Int.le_trans q4 (p5 z).2⟩,q5⟩
 show mz [some (.val (.lst (L.map .int))),some (.val (.int s)),some (.val (.int t)),some (.val (.int most)),none,none]=_
 unfold mz
 rw[au (ρ':=[some (.val (.lst (L.map .int))),some (.val (.int s)),some (.val (.int t)),some (.val (.int most)),some (.val (.int (-most))),none]) rfl,
  au (ρ':=[some (.val (.lst (L.map .int))),some (.val (.int s)),some (.val (.int t)),some (.val (.int most)),some (.val (.int (-most))),some (.val (.int most))]) rfl,au e1,au e2]
 simp! [hl2]
def aT (p:Int×Int):D:= .tup [.int p.1, .int p.2]
theorem Bo {b:Bool}:v_ [.bl b]=some (.int (if b=true then 1 else 0)):=rfl
theorem wv {L:List Int} {i j v:Int} (hi:0<=i) (hl:i<L.length) (hj:0<=j):lv (L.set i.toNat v) j=if j=i then v else lv L j:=by
 unfold lv
 rw[List.getD_eq_getElem?_getD,List.getElem?_set]
 by_cases h:j=i
 ·subst h
  rw[if_pos rfl,if_pos (by omega),if_pos rfl];rfl
 ·rw[if_neg (by omega),if_neg h,List.getD_eq_getElem?_getD]
theorem Bp {n:Nat} {i:Int} (h0:0<=i) (h1:i<n):L2.u0 n i=some i.toNat:=by unfold L2.u0;rw[if_pos h0,if_pos h1]
theorem uX (L:List Int) (i:Nat) (v:Int):(L.map D.int).set i (.int v)=(L.set i v).map D.int:=by rw[List.map_set]
theorem IY {i:Nat} {gs:List D->aq->R aq} {d:D} {ds:List D} {ρ:aq}:bi (gN i) gs (d::ds) ρ=gs ds (ρ.set i (some (.val d))):=rfl
theorem IZ {ρ:aq}:gB [] ρ= .ok ρ:=rfl
theorem yU {n:Nat} {figs:List Int} {ss:List bb} {mm:List Int} {b0 b1:Int} {L:List Int} {rows:List (Int×Int)} {k:Nat} {x8 x9 x10 x11 x12 x13:Option Slot} (hk:k<ss.length) (hf:k<figs.length) (g:Good n ss) (hn:n<=7) (hL:L.length=n+1) (h0:0<=b0) (h1:0<=b1)
  (hb:∀i:Int,1<=i->i<=n-> -1000<=lv L i/\lv L i<=1000) (hr:rows.length<=1000):
  ∃(a:Int) (L':List Int) (y8 y9 y10 y11 y12 y13:Option Slot),iF [some (.val (.lst (figs.map .int))),some (.val (.int (n:Int))),some (.val (.lst (ss.map av))),some (.val (.lst (mm.map .int))),some (.val (.lst [.int b0, .int b1])),some (.own (.lst (L.map .int))),some (.own (.lst (rows.map aT))),some (.val (.int (k:Int))),x8,x9,x10,x11,x12,x13]
   = .ok (.nx [some (.val (.lst (figs.map .int))),some (.val (.int (n:Int))),some (.val (.lst (ss.map av))),some (.val (.lst (mm.map .int))),some (.val (.lst [.int b0, .int b1])),some (.own (.lst (L'.map .int))),some (.own (.lst ((rows++[(ss[k].1,a)]).map aT))),some (.val (.int (k:Int))),y8,y9,y10,y11,y12,y13])/\
   L'.length=n+1/\(∀i:Int,1<=i->i<=n-> -1000<=lv L' i/\lv L' i<=1000):=by
 have hmem:=List.getElem_mem hk
 have hrow:=Bd hk
 have hs:=g.src _ hmem
 have ht:=g.tgt _ hmem
 have hne:=g.ne _ hmem
 generalize ss[k]=row at*
 obtain⟨num,s,t⟩:=row
 replace hs:0<=s/\s<=n:=hs
 replace ht:0<=t/\t<=n:=ht
 replace hne:s≠t:=hne
 have hm:0<=(if num∈mm then b1 else b0):=by split<;>omega
 obtain⟨lo,hi,e,c1,c2,c3,c4,c5,c6⟩:=yT hL hs ht hm hb
 have hfig:L2.atI (figs.map D.int) (k:Int)=some (.int figs[k]):=by
  rw[eL (by simpa using hf)];simp
 have hd:(0:Int)<hi - lo+1:=by omega
 generalize figs[k]=fg at hfig
 have a1:=Int.emod_nonneg fg (show hi - lo+1≠0 by omega)
 have a2:=Int.emod_lt_of_pos fg hd
 have hsl:L2.atI (L.map D.int) s=some (.int (lv L s)):=xr hs.1 (by omega)
 have hb2:L2.atI [D.int b0,D.int b1] (if decide (num∈mm)=true then 1 else 0)=some (.int (if num∈mm then b1 else b0)):=by
  by_cases h:num∈mm
  ·simp only[h,decide_true,if_true,i_]
  ·simp only[h,decide_false,Bool.false_eq_true,if_false,dF]
 have hixs:L2.u0 (L.map D.int).length s=some s.toNat:=Bp hs.1 (by rw[List.length_map];omega)
 have L1len:(L.set s.toNat (lv L s - (lo+fg%(hi - lo+1)))).length=n+1:=by rw[List.length_set];exact hL
 have htl:L2.atI ((L.set s.toNat (lv L s - (lo+fg%(hi - lo+1)))).map D.int) t=some (.int (lv L t)):=by
  rw[xr ht.1 (by omega),wv hs.1 (by omega) ht.1,if_neg (Ne.symm hne)]
 have hixt:L2.u0 ((L.set s.toNat (lv L s - (lo+fg%(hi - lo+1)))).map D.int).length t=some t.toNat:=Bp ht.1 (by rw[List.length_map];omega)
 have hrl:(rows.map aT).length<lim:=by rw[List.length_map];unfold lim;omega
 have hl2:(2:Nat)<=lim:=by decide
 have ap:rows.map aT++[D.tup [.int num, .int (lo+fg%(hi - lo+1))]]=(rows++[(num,lo+fg%(hi - lo+1))]).map aT:=by simp[aT]
 generalize ha:lo+fg%(hi - lo+1)=a at*
 refine⟨a,(L.set s.toNat (lv L s - a)).set t.toNat (lv L t+a),some (.val (.int num)),some (.val (.int s)),some (.val (.int t)),some (.val (.int lo)),some (.val (.int hi)),some (.val (.int a)),?_,by rw[List.length_set];exact L1len,?_⟩
 ·simp! [iF,B0,gC,IY,IZ,pT,hrow,av,e,mV,Bo,hb2,nZ,List.all_cons,List.all_nil,Bool.and_true,and_self,hfig,bO hd,ha,hsl,hixs,uX,htl,hixt,hrl,hl2,ap]
 ·intro i hi1 hin
  rw[wv ht.1 (by omega) (by omega),wv hs.1 (by omega) (by omega)]
  by_cases h1:i=t
  ·subst h1
   rw[if_pos rfl]
   have:=c6 (by omega);omega
  ·rw[if_neg h1]
   by_cases h2:i=s
   ·subst h2
    rw[if_pos rfl]
    have:=c5 (by omega);omega
   ·rw[if_neg h2];exact hb i hi1 hin
theorem Dh {k:Int} (h0:0<=k) (h:k<=1000):uG (.lst [.int 0]) (.int k)=some (.lst ((List.replicate k.toNat (0:Int)).map .int)):=by
 show (if k.natAbs<=lim/\[D.int 0].length*k.toNat<=lim then some (D.lst (List.replicate k.toNat [D.int 0]).flatten)else none)=_
 rw[if_pos ⟨by unfold lim;omega,by unfold lim;simp;omega⟩]
 congr 2
 induction k.toNat with
 |zero=>rfl
 |succ m ih=>rw[List.replicate_succ,List.replicate_succ,List.flatten_cons,ih];rfl
theorem IG {x:D} {ds:List D}:BZ (.lst (x::ds)) (some 1) none=some (.lst ds):=by
 show some (D.lst (L2.Pu.sR (x::ds) (some 1) none))=_
 unfold L2.Pu.sR HT.eF
 simp
theorem Di {m:Nat} (i:Int):lv (List.replicate m 0) i=0:=by
 unfold lv
 rw[List.getD_eq_getElem?_getD,List.getElem?_replicate]
 split<;>rfl
theorem ww {n:Nat} {figs:List Int} {ss:List bb} {mm:List Int} {b0 b1:Int} (hf:ss.length<=figs.length) (g:Good n ss) (hn:n<=7) (h0:0<=b0) (h1:0<=b1) (hs:ss.length<=1000):
  ∃(ps:List (Int×Int)) (lev:List Int),ig [.lst (figs.map .int), .int (n:Int), .lst (ss.map av), .lst (mm.map .int), .lst [.int b0, .int b1]]= .ok (.lst [.tup (ps.map aT), .tup (lev.map .int)])/\ps.map (·.1)=ss.map (·.1)/\lev.length=n:=by
 have hd:uG (.lst [.int 0]) (.int ((n:Int)+1))=some (.lst ((List.replicate (n+1) (0:Int)).map .int)):=by
  have:=Dh (k:=(n:Int)+1) (by omega) (by omega)
  rwa [show ((n:Int)+1).toNat=n+1 by omega]at this
 have hl1:(1:Nat)<=lim:=by decide
 have hl2:(2:Nat)<=lim:=by decide
 obtain⟨ρ',e,L',rows,y7,y8,y9,y10,y11,y12,y13,rfl,e2,_,e4⟩:=nq (g:=gN 7) (gb:=iF) (n:=ss.length) (fs:=aa (d5 fc (aa (af 2) (ai))) (ai)) (ρ:=[some (.val (.lst (figs.map .int))),some (.val (.int (n:Int))),some (.val (.lst (ss.map av))),some (.val (.lst (mm.map .int))),some (.val (.lst [.int b0, .int b1])),some (.own (.lst ((List.replicate (n+1) (0:Int)).map .int))),some (.own (.lst (([]:List (Int×Int)).map aT))),none,none,none,none,none,none,none])
  (P:=fun k ρ=>∃(L:List Int) (rows:List (Int×Int)) (y7 y8 y9 y10 y11 y12 y13:Option Slot),ρ=[some (.val (.lst (figs.map .int))),some (.val (.int (n:Int))),some (.val (.lst (ss.map av))),some (.val (.lst (mm.map .int))),some (.val (.lst [.int b0, .int b1])),some (.own (.lst (L.map .int))),some (.own (.lst (rows.map aT))),y7,y8,y9,y10,y11,y12,y13]/\L.length=n+1/\(∀i:Int,1<=i->i<=n-> -1000<=lv L i/\lv L i<=1000)/\rows.map (·.1)=(ss.take k).map (·.1))
  (by simp! [List.length_map]) hs ⟨_,_,_,_,_,_,_,_,_,rfl,by simp,fun i _ _=>by rw[Di];omega,rfl⟩ (fun k hk ρ hρ=>by
   obtain⟨L,rows,y7,y8,y9,y10,y11,y12,y13,rfl,hL,hb,hr⟩:=hρ
   have hrl:rows.length<=1000:=by
    have:=congrArg List.length hr
    simp at this
    omega
   obtain⟨a,L1,z8,z9,z10,z11,z12,z13,e1,l1,b1'⟩:=yU (figs:=figs) (mm:=mm) (b0:=b0) (b1:=b1) (L:=L) (rows:=rows) (k:=k) (x8:=y8) (x9:=y9) (x10:=y10) (x11:=y11) (x12:=y12) (x13:=y13) hk (by omega) g hn hL h0 h1 hb hrl
   exact⟨_,_,rfl, .inl e1,L1,_,_,_,_,_,_,_,_,rfl,l1,b1',by rw[List.map_append,hr,qw _ hk];rfl⟩)
 rw[List.take_length]at e4
 obtain⟨z,lev,rfl⟩:∃z lev,L'=z::lev:=by
  cases L' with
  |nil=>simp at e2
  |cons z lev=>exact⟨z,lev,rfl⟩
 refine⟨rows,lev,aL rfl ?_,e4,by simpa using e2⟩
 show kY [some (.val (.lst (figs.map .int))),some (.val (.int (n:Int))),some (.val (.lst (ss.map av))),some (.val (.lst (mm.map .int))),some (.val (.lst [.int b0, .int b1])),none,none,none,none,none,none,none,none,none]=_
 unfold kY
 rw[au (ρ':=[some (.val (.lst (figs.map .int))),some (.val (.int (n:Int))),some (.val (.lst (ss.map av))),some (.val (.lst (mm.map .int))),some (.val (.lst [.int b0, .int b1])),some (.own (.lst ((List.replicate (n+1) (0:Int)).map .int))),none,none,none,none,none,none,none,none]) (by simp! [AU,hd,hl1]),
  au (ρ':=[some (.val (.lst (figs.map .int))),some (.val (.int (n:Int))),some (.val (.lst (ss.map av))),some (.val (.lst (mm.map .int))),some (.val (.lst [.int b0, .int b1])),some (.own (.lst ((List.replicate (n+1) (0:Int)).map .int))),some (.own (.lst (([]:List (Int×Int)).map aT))),none,none,none,none,none,none,none]) rfl,au e]
 simp! [yE,jL,jK,List.map_cons,IG,hl2]
theorem xt {ns:List Int} {a0 a2:Option Slot}:∀(ks:List Nat) (x:Option Slot),fw (gN 1) jF (f2 gP (ax aB 2 (aa (ao 3) (aa (f2 c_ (fC (.int 17)) (af 1)) (ai)))) (fC (.int 4))) (ks.map fun k:Nat=>D.int (k:Int)) [a0,x,a2,some (.val (.scr ns))]
  = .ok ((ks.map fun k=>cl ns (17+k) / 4).map .int)
 |[],x=>rfl
 |k::ks,x=>by
  have hc:aB [.scr ns, .int (17+(k:Int))]=_:=p6 ns 17 k rfl
  have ih:=xt (ns:=ns) (a0:=a0) (a2:=a2) ks (some (.val (.int (k:Int))))
  rw[List.map_cons,fw]
  simp only[gN,jF,ay,List.set_cons_succ,List.set_cons_zero,if_true,ih]
  simp! [hc,ee (show (0:Int)<4/\(4:Int)<1073741824 by decide),List.map_cons]
def Dj (small:Int):Int:=if small=0 then 5000 else 2
def Dk (small:Int):Int:=if small=0 then 1000 else 2
theorem wx {ns:List Int} {n:Nat} {ss:List bb} {mm:List Int} {small:Int} (g:Good n ss) (hn:n<=7) (hs:ss.length<=1000) (hsm:small=0\/small=1):
  ∃(ps:List (Int×Int)) (lev:List Int),ii [.scr ns, .int (n:Int), .lst (ss.map av), .lst (mm.map .int), .int small]= .ok (.lst [.tup (ps.map aT), .tup (lev.map .int)])/\ps.map (·.1)=ss.map (·.1)/\lev.length=n:=by
 obtain⟨ps,lev,e,h⟩:=ww (n:=n) (figs:=(List.range ss.length).map fun k=>cl ns (17+k) / 4) (ss:=ss) (mm:=mm) (b0:=Dj small) (b1:=Dk small) (by simp) g hn (by unfold Dj;split<;>omega) (by unfold Dk;split<;>omega) hs
 refine⟨ps,lev,?_,h⟩
 refine aL rfl ?_
 show kZ [some (.val (.scr ns)),some (.val (.int (n:Int))),some (.val (.lst (ss.map av))),some (.val (.lst (mm.map .int))),some (.val (.int small)),none]=_
 unfold kZ
 rw[au (ρ':=[some (.val (.scr ns)),some (.val (.int (n:Int))),some (.val (.lst (ss.map av))),some (.val (.lst (mm.map .int))),some (.val (.int small)),some (.own (.lst (((List.range ss.length).map fun k=>cl ns (17+k) / 4).map .int)))])
  (own_of (fq (nU (n:=ss.length) (by simp! [List.length_map]) (by unfold lim;omega)) (by simp;unfold lim;omega) rfl (xt _ _)))]
 have hl2:(2:Nat)<=lim:=by decide
 rcases hsm with rfl|rfl
 ·simp! [dF,hl2]
  simp only[show Dj 0=5000 from rfl,show Dk 0=1000 from rfl]at e
  simp only[e,ay]
 ·simp! [i_,hl2]
  simp only[show Dj 1=2 from rfl,show Dk 1=2 from rfl]at e
  simp only[e,ay]
theorem Dl {ps:List (Int×Int)} {k:Nat} (h:k<ps.length):L2.atI (ps.map aT) (k:Int)=some (aT ps[k]):=by
 rw[eL (by simpa using h)]
 simp
theorem rW {x:Int} {xs:List Int}:cG true (.int x) (.lst (xs.map .int))=some (.bl (!decide (x∈xs))):=by
 show FD true (.int x) (xs.map .int)=_
 rw[mU]
 simp
theorem Ei {a b small:Int} (h:small=0\/small=1):L2.atI [D.int a,D.int b] small=some (.int (if small=0 then a else b)):=by
 rcases h with rfl|rfl
 ·rw[dF];rfl
 ·rw[i_];rfl
def rX (c small:Int):Int:=if small=0 then c / 3%2001 - 1000 else c / 3%5 - 2
theorem Bq {mode c:Int} {m:Int} {ρ:aq} {i j:Nat} (hi:ρ[i]? =some (some (.val (.int mode)))) (hj:ρ[j]? =some (some (.val (.int c)))):∃b,nS (fT (f2 jY (af i) (fC (.int 3)))) (oK (fT (f2 jY (af i) (fC (.int m)))) (fT (f2 jY (f2 fW (af j) (fC (.int 3))) (fC (.int 0))))) ρ= .ok b:=by
 by_cases h3:mode=3
 ·exact⟨true,by simp! [hi,h3]⟩
 ·by_cases h1:mode=m
  ·subst h1
   exact⟨decide (c%3=0),by simp! [hi,hj,h3,bO (show (0:Int)<3 by decide)]⟩
  ·exact⟨false,by simp! [hi,h3,h1]⟩
theorem Dm {ns:List Int} {ps:List (Int×Int)} {mm:List Int} {mode small:Int} {acc:List (Int×Int)} {k:Nat} {x7 x8 x9:Option Slot} (hk:k<ps.length) (hsm:small=0\/small=1) (hl:acc.length<=1000):
  ∃(acc':List (Int×Int)) (ρ:aq) (y7 y8 y9:Option Slot),ρ=[some (.val (.scr ns)),some (.val (.tup (ps.map aT))),some (.val (.lst (mm.map .int))),some (.val (.int mode)),some (.val (.int small)),some (.own (.lst (acc'.map aT))),some (.val (.int (k:Int))),y7,y8,y9]/\
   (d_ [some (.val (.scr ns)),some (.val (.tup (ps.map aT))),some (.val (.lst (mm.map .int))),some (.val (.int mode)),some (.val (.int small)),some (.own (.lst (acc.map aT))),some (.val (.int (k:Int))),x7,x8,x9]= .ok (.nx ρ)\/d_ [some (.val (.scr ns)),some (.val (.tup (ps.map aT))),some (.val (.lst (mm.map .int))),some (.val (.int mode)),some (.val (.int small)),some (.own (.lst (acc.map aT))),some (.val (.int (k:Int))),x7,x8,x9]= .ok (.cnt ρ))/\
   acc'.map (·.1)=acc.map (·.1)++[ps[k].1].filter (fun x=>decide (x∈mm)):=by
 have hp:=Dl hk
 generalize ps[k]=p at*
 obtain⟨num,am⟩:=p
 have hc:aB [.scr ns, .int (29+(k:Int))]=_:=p6 ns 29 k rfl
 have hlim:(acc.map aT).length<lim:=by rw[List.length_map];unfold lim;omega
 have hl2:(2:Nat)<=lim:=by decide
 have ap:∀r:Int,acc.map aT++[D.tup [.int num, .int r]]=(acc++[(num,r)]).map aT:=fun r=>by simp[aT]
 have e12:∀g',aw (aY (f2 bq (af 1) (af 6)) (gC 2 (bi (gN 7) (bi (gN 8) (gB))))) (aw (aY (ax aB 2 (aa (ao 0) (aa (f2 c_ (fC (.int 29)) (af 6)) (ai)))) (gN 9)) g') [some (.val (.scr ns)),some (.val (.tup (ps.map aT))),some (.val (.lst (mm.map .int))),some (.val (.int mode)),some (.val (.int small)),some (.own (.lst (acc.map aT))),some (.val (.int (k:Int))),x7,x8,x9]
   =g' [some (.val (.scr ns)),some (.val (.tup (ps.map aT))),some (.val (.lst (mm.map .int))),some (.val (.int mode)),some (.val (.int small)),some (.own (.lst (acc.map aT))),some (.val (.int (k:Int))),some (.val (.int num)),some (.val (.int am)),some (.val (.int (cl ns (29+k))))]:=fun g'=>by
  simp! [gC,IY,IZ,hp,aT,hc]
 unfold d_
 rw[e12]
 by_cases h:num∈mm
 ·obtain⟨b,hb⟩:=Bq (m:=1) (ρ:=[some (.val (.scr ns)),some (.val (.tup (ps.map aT))),some (.val (.lst (mm.map .int))),some (.val (.int mode)),some (.val (.int small)),some (.own (.lst (acc.map aT))),some (.val (.int (k:Int))),some (.val (.int num)),some (.val (.int am)),some (.val (.int (cl ns (29+k))))]) (i:=3) (j:=9) rfl rfl
  rw[au (ρ':=[some (.val (.scr ns)),some (.val (.tup (ps.map aT))),some (.val (.lst (mm.map .int))),some (.val (.int mode)),some (.val (.int small)),some (.own (.lst (acc.map aT))),some (.val (.int (k:Int))),some (.val (.int num)),some (.val (.int am)),some (.val (.int (cl ns (29+k))))]) (by simp! [rW,h])]
  obtain⟨r,hr⟩:∃r:Int,cF (nS (fT (f2 jY (af 3) (fC (.int 3)))) (oK (fT (f2 jY (af 3) (fC (.int 1)))) (fT (f2 jY (f2 fW (af 9) (fC (.int 3))) (fC (.int 0)))))) (aY (f2 bq (ir (aa (f2 gM (f2 fW (f2 gP (af 9) (fC (.int 3))) (fC (.int 2001))) (fC (.int 1000))) (aa (f2 gM (f2 fW (f2 gP (af 9) (fC (.int 3))) (fC (.int 5))) (fC (.int 2))) (ai)))) (af 4)) (gN 8)) (aJ) [some (.val (.scr ns)),some (.val (.tup (ps.map aT))),some (.val (.lst (mm.map .int))),some (.val (.int mode)),some (.val (.int small)),some (.own (.lst (acc.map aT))),some (.val (.int (k:Int))),some (.val (.int num)),some (.val (.int am)),some (.val (.int (cl ns (29+k))))]= .ok (.nx [some (.val (.scr ns)),some (.val (.tup (ps.map aT))),some (.val (.lst (mm.map .int))),some (.val (.int mode)),some (.val (.int small)),some (.own (.lst (acc.map aT))),some (.val (.int (k:Int))),some (.val (.int num)),some (.val (.int r)),some (.val (.int (cl ns (29+k))))]):=by
   cases b with
   |true=>
    refine⟨rX (cl ns (29+k)) small,?_⟩
    unfold cF
    rw[hb]
    simp! [ee (show (0:Int)<3/\(3:Int)<1073741824 by decide),bO (show (0:Int)<2001 by decide),bO (show (0:Int)<5 by decide),Ei hsm,hl2,rX]
   |false=>
    refine⟨am,?_⟩
    unfold cF
    rw[hb]
    rfl
  refine⟨acc++[(num,r)],_,some (.val (.int num)),some (.val (.int r)),some (.val (.int (cl ns (29+k)))),rfl, .inl (Eq.trans (au hr) ?_),by simp[h]⟩
  simp! [hlim,hl2,ap]
 ·refine⟨acc,_,some (.val (.int num)),some (.val (.int am)),some (.val (.int (cl ns (29+k)))),rfl, .inr ?_,by simp[h]⟩
  simp! [yu,rW,h]
theorem qZ {ns:List Int} {ps:List (Int×Int)} {mm:List Int} {mode small:Int} (hsm:small=0\/small=1) (hl:ps.length<=1000):∃rd:List (Int×Int),eR [.scr ns, .tup (ps.map aT), .lst (mm.map .int), .int mode, .int small]= .ok (.lst (rd.map aT))/\rd.map (·.1)=(ps.map (·.1)).filter (fun x=>decide (x∈mm)):=by
 obtain⟨ρ',e,rd,y6,y7,y8,y9,rfl,e4⟩:=nq (g:=gN 6) (gb:=d_) (n:=ps.length) (fs:=aa (d5 fc (aa (af 1) (ai))) (ai)) (ρ:=[some (.val (.scr ns)),some (.val (.tup (ps.map aT))),some (.val (.lst (mm.map .int))),some (.val (.int mode)),some (.val (.int small)),some (.own (.lst (([]:List (Int×Int)).map aT))),none,none,none,none])
  (P:=fun k ρ=>∃(acc:List (Int×Int)) (y6 y7 y8 y9:Option Slot),ρ=[some (.val (.scr ns)),some (.val (.tup (ps.map aT))),some (.val (.lst (mm.map .int))),some (.val (.int mode)),some (.val (.int small)),some (.own (.lst (acc.map aT))),y6,y7,y8,y9]/\acc.map (·.1)=((ps.take k).map (·.1)).filter (fun x=>decide (x∈mm)))
  (by simp! [List.length_map]) hl ⟨_,_,_,_,_,rfl,rfl⟩ (fun k hk ρ hρ=>by
   obtain⟨acc,y6,y7,y8,y9,rfl,hr⟩:=hρ
   have hrl:acc.length<=1000:=by
    have h1:=congrArg List.length hr
    have h2:=List.length_filter_le (fun x=>decide (x∈mm)) ((ps.take k).map (·.1))
    simp at h1 h2
    omega
   obtain⟨acc',ρ2,z7,z8,z9,rfl,e1,h1⟩:=Dm (ns:=ns) (mm:=mm) (mode:=mode) (small:=small) (acc:=acc) (x7:=y7) (x8:=y8) (x9:=y9) hk hsm hrl
   exact⟨_,_,rfl,e1,acc',_,_,_,_,rfl,by rw[h1,hr,qw _ hk,List.filter_append]⟩)
 rw[List.take_length]at e4
 refine⟨rd,aL rfl ?_,e4⟩
 show iV [some (.val (.scr ns)),some (.val (.tup (ps.map aT))),some (.val (.lst (mm.map .int))),some (.val (.int mode)),some (.val (.int small)),none,none,none,none,none]=_
 unfold iV
 rw[au (ρ':=[some (.val (.scr ns)),some (.val (.tup (ps.map aT))),some (.val (.lst (mm.map .int))),some (.val (.int mode)),some (.val (.int small)),some (.own (.lst (([]:List (Int×Int)).map aT))),none,none,none,none]) rfl,au e]
 rfl
theorem Dn {ns:List Int} {lev:List Int} {mode small:Int} {acc:List Int} {k:Nat} {x6 x7:Option Slot} (hk:k<lev.length) (hsm:small=0\/small=1) (hl:acc.length<=1000):
  ∃(r:Int) (y6 y7:Option Slot),iG [some (.val (.scr ns)),some (.val (.tup (lev.map .int))),some (.val (.int mode)),some (.val (.int small)),some (.own (.lst (acc.map .int))),some (.val (.int (k:Int))),x6,x7]
   = .ok (.nx [some (.val (.scr ns)),some (.val (.tup (lev.map .int))),some (.val (.int mode)),some (.val (.int small)),some (.own (.lst ((acc++[r]).map .int))),some (.val (.int (k:Int))),y6,y7]):=by
 have hp:L2.atI (lev.map D.int) (k:Int)=some (.int lev[k]):=by rw[eL (by simpa using hk)];simp
 generalize lev[k]=lk at*
 have hc:aB [.scr ns, .int (41+(k:Int))]=_:=p6 ns 41 k rfl
 have hlim:(acc.map D.int).length<lim:=by rw[List.length_map];unfold lim;omega
 have hl2:(2:Nat)<=lim:=by decide
 have ap:∀r:Int,acc.map D.int++[.int r]=(acc++[r]).map .int:=fun r=>by simp
 obtain⟨b,hb⟩:=Bq (m:=2) (ρ:=[some (.val (.scr ns)),some (.val (.tup (lev.map .int))),some (.val (.int mode)),some (.val (.int small)),some (.own (.lst (acc.map .int))),some (.val (.int (k:Int))),some (.val (.int (cl ns (41+k)))),some (.val (.int lk))]) (i:=2) (j:=6) rfl rfl
 unfold iG
 rw[au (ρ':=[some (.val (.scr ns)),some (.val (.tup (lev.map .int))),some (.val (.int mode)),some (.val (.int small)),some (.own (.lst (acc.map .int))),some (.val (.int (k:Int))),some (.val (.int (cl ns (41+k)))),x7]) (by simp! [hc]),
  au (ρ':=[some (.val (.scr ns)),some (.val (.tup (lev.map .int))),some (.val (.int mode)),some (.val (.int small)),some (.own (.lst (acc.map .int))),some (.val (.int (k:Int))),some (.val (.int (cl ns (41+k)))),some (.val (.int lk))]) (by simp! [hp])]
 cases b with
 |true=>
  refine⟨rX (cl ns (41+k)) small,_,some (.val (.int (rX (cl ns (41+k)) small))),Eq.trans (au (ρ':=[some (.val (.scr ns)),some (.val (.tup (lev.map .int))),some (.val (.int mode)),some (.val (.int small)),some (.own (.lst (acc.map .int))),some (.val (.int (k:Int))),some (.val (.int (cl ns (41+k)))),some (.val (.int (rX (cl ns (41+k)) small)))]) ?_) (by simp! [hlim,ap];rfl)⟩
  unfold cF
  rw[hb]
  simp! [ee (show (0:Int)<3/\(3:Int)<1073741824 by decide),bO (show (0:Int)<2001 by decide),bO (show (0:Int)<5 by decide),Ei hsm,hl2,rX]
 |false=>
  refine⟨lk,_,some (.val (.int lk)),Eq.trans (au (ρ':=[some (.val (.scr ns)),some (.val (.tup (lev.map .int))),some (.val (.int mode)),some (.val (.int small)),some (.own (.lst (acc.map .int))),some (.val (.int (k:Int))),some (.val (.int (cl ns (41+k)))),some (.val (.int lk))]) ?_) (by simp! [hlim,ap];rfl)⟩
  unfold cF
  rw[hb]
  rfl
theorem wy {ns:List Int} {lev:List Int} {mode small:Int} (hsm:small=0\/small=1) (hl:lev.length<=1000):∃rs:List Int,ij [.scr ns, .tup (lev.map .int), .int mode, .int small]= .ok (.lst (rs.map .int))/\rs.length=lev.length:=by
 obtain⟨ρ',e,rs,y5,y6,y7,rfl,e4⟩:=nq (g:=gN 5) (gb:=iG) (n:=lev.length) (fs:=aa (d5 fc (aa (af 1) (ai))) (ai)) (ρ:=[some (.val (.scr ns)),some (.val (.tup (lev.map .int))),some (.val (.int mode)),some (.val (.int small)),some (.own (.lst (([]:List Int).map .int))),none,none,none])
  (P:=fun k ρ=>∃(acc:List Int) (y5 y6 y7:Option Slot),ρ=[some (.val (.scr ns)),some (.val (.tup (lev.map .int))),some (.val (.int mode)),some (.val (.int small)),some (.own (.lst (acc.map .int))),y5,y6,y7]/\acc.length=k)
  (by simp! [List.length_map]) hl ⟨_,_,_,_,rfl,rfl⟩ (fun k hk ρ hρ=>by
   obtain⟨acc,y5,y6,y7,rfl,hr⟩:=hρ
   obtain⟨r,z6,z7,e1⟩:=Dn (ns:=ns) (mode:=mode) (small:=small) (acc:=acc) (x6:=y6) (x7:=y7) hk hsm (by omega)
   exact⟨_,_,rfl, .inl e1,_,_,_,_,rfl,by simp[hr]⟩)
 refine⟨rs,aL rfl ?_,e4⟩
 show k_ [some (.val (.scr ns)),some (.val (.tup (lev.map .int))),some (.val (.int mode)),some (.val (.int small)),none,none,none,none]=_
 unfold k_
 rw[au (ρ':=[some (.val (.scr ns)),some (.val (.tup (lev.map .int))),some (.val (.int mode)),some (.val (.int small)),some (.own (.lst (([]:List Int).map .int))),none,none,none]) rfl,au e]
 rfl
theorem mF:∀{l m:List Int},l.Nodup->m.Sublist l->l.filter (fun x=>decide (x∈m))=m
 |[],m,_,s=>by rw[List.sublist_nil.mp s];rfl
 |a::l,m,nd,s=>by
  obtain⟨n1,n2⟩:=List.nodup_cons.mp nd
  cases s with
  |cons _ s=>
   rw[List.filter_cons_of_neg (by simpa using fun h=>n1 (s.subset h)),mF n2 s]
  | @cons_cons m' _ _ s=>
   rw[List.filter_cons_of_pos (by simp)]
   have:l.filter (fun x=>decide (x∈a::m'))=l.filter (fun x=>decide (x∈m')):=List.filter_congr fun x hx=>by
    have:x≠a:=fun z=>n1 (z▸hx)
    simp[this]
   rw[this,mF n2 s]
theorem Good.nd {n:Nat} {ss:List bb} (g:Good n ss):(ss.map (·.1)).Nodup:=List.pairwise_map.mpr (g.inc.imp fun h=>Int.ne_of_lt h)
structure d6 (n:Nat) (ss:List bb) (rs:List Int) (rd:List (Int×Int)):Prop where
 n7:n<=7
 good:Good n ss
 len:ss.length<=12
 rsl:rs.length=n
 sub:(rd.map (·.1)).Sublist (ss.map (·.1))
 ten:rd.length<=10
def aH (n:Nat) (ss:List bb) (rs:List Int) (rd:List (Int×Int)):D:= .tup [.int (n:Int), .tup (ss.map av), .tup (rs.map .int), .tup (rd.map aT)]
theorem Hv (ns:List Int):aB [.scr ns, .int 1]= .ok (.int (cl ns 1)):=gr ns 1
theorem Hw (ns:List Int):aB [.scr ns, .int 2]= .ok (.int (cl ns 2)):=gr ns 2
theorem Hx (ns:List Int):aB [.scr ns, .int 3]= .ok (.int (cl ns 3)):=gr ns 3
theorem yV (ns:List Int):∃(n:Nat) (ss:List bb) (rs:List Int) (rd:List (Int×Int)),iW [.scr ns]= .ok (aH n ss rs rd)/\d6 n ss rs rd:=by
 obtain⟨n,en,hn7⟩:∃n:Nat,cl ns 1%8=(n:Int)/\n<=7:=⟨(cl ns 1%8).toNat,by omega,by omega⟩
 obtain⟨m0,em,hm⟩:∃m:Nat,cl ns 2%13=(m:Int)/\m<=12:=⟨(cl ns 2%13).toNat,by omega,by omega⟩
 obtain⟨many,hmany,hm12,h0⟩:∃many:Nat,many=(if (n:Int)>0 then m0 else 0)/\many<=12/\(0<n\/many=0):=⟨_,rfl,by split<;>omega,by split<;>omega⟩
 obtain⟨ss,e1,l1,g⟩:=tq ns n many hn7 hm12 h0
 have hsl:ss.length<=1000:=by omega
 obtain⟨mm,e2,s2,t2⟩:=tw ns ss hsl (cl ns 3%5)
 have hsm:cl ns 4 / 4%2=0\/cl ns 4 / 4%2=1:=by omega
 obtain⟨ps,lev,e3,f1,f2'⟩:=wx (ns:=ns) (mm:=mm) g hn7 hsl hsm
 have pl:ps.length=ss.length:=by have:=congrArg List.length f1;simpa using this
 obtain⟨rd,e4,f4⟩:=qZ (ns:=ns) (ps:=ps) (mm:=mm) (mode:=cl ns 4%4) hsm (by omega)
 obtain⟨rs,e5,l5⟩:=wy (ns:=ns) (lev:=lev) (mode:=cl ns 4%4) hsm (by omega)
 rw[f1,mF g.nd s2]at f4
 refine⟨n,ss,rs,rd,aL rfl ?_,⟨hn7,g,by omega,by omega,by rw[f4];exact s2,by have:=congrArg List.length f4;simp at this;omega⟩⟩
 show mB [some (.val (.scr ns)),none,none,none,none,none,none,none,none,none]=_
 have hl4:(4:Nat)<=lim:=by decide
 have em2:∀x,cF (fT (f2 ui (af 1) (fC (.int 0)))) (aY (f2 fW (ax aB 2 (aa (ao 0) (aa (fC (.int 2)) (ai)))) (fC (.int 13))) (gN 2)) (aJ) (some (.val (.scr ns))::some (.val (.int (n:Int)))::some (.val (.int 0))::x)= .ok (.nx (some (.val (.scr ns))::some (.val (.int (n:Int)))::some (.val (.int (many:Int)))::x)):=fun x=>by
  rw[hmany]
  by_cases hp:(n:Int)>0
  ·simp! [Hw,bO (show (0:Int)<13 by decide),em,hp]
  ·simp! [hp]
   rfl
 unfold mB
 rw[au (ρ':=[some (.val (.scr ns)),some (.val (.int (n:Int))),none,none,none,none,none,none,none,none]) (by simp! [Hv,bO (show (0:Int)<8 by decide),en]),
  au (ρ':=[some (.val (.scr ns)),some (.val (.int (n:Int))),some (.val (.int 0)),none,none,none,none,none,none,none]) rfl,au (em2 _)]
 simp! [Hx,Ec,bO (show (0:Int)<4 by decide),ee (show (0:Int)<4/\(4:Int)<1073741824 by decide),bO (show (0:Int)<2 by decide),bO (show (0:Int)<5 by decide),e1,e2,e3,e4,e5,dF,i_,hl4,aH]
theorem ku {α:Type} {f e:α->D} {p:α->Bool} {gt:aq->R Bool} {fe:aq->R D} {a0:Option Slot} {ρ:aq}:∀(l:List α),(∀a∈l,gt (a0::some (.val (f a))::ρ)= .ok (p a))->(∀a∈l,p a=true->fe (a0::some (.val (f a))::ρ)= .ok (e a))->∀x:Option Slot,fw (gN 1) gt fe (l.map f) (a0::x::ρ)= .ok ((l.filter p).map e)
 |[],_,_,_=>rfl
 |a::l,h1,h2,x=>by
  have ih:=ku l (fun b hb=>h1 b (List.mem_cons_of_mem _ hb)) (fun b hb=>h2 b (List.mem_cons_of_mem _ hb)) (some (.val (f a)))
  have g1:=h1 a List.mem_cons_self
  rw[List.map_cons,fw]
  simp only[gN,ay,List.set_cons_succ,List.set_cons_zero,g1]
  by_cases hp:p a=true
  ·simp only[hp,if_true,h2 a List.mem_cons_self hp,ay,ih,List.filter_cons,List.map_cons]
  ·simp only[hp,if_false,ih,List.filter_cons,Bool.false_eq_true]
theorem uY {g:D->aq->R aq} {gb:aq->R bM} {P:aq->Prop}:∀(ds:List D),(∀d∈ds,∀ρ,P ρ->∃ρ1 ρ2,g d ρ= .ok ρ1/\gb ρ1= .ok (.nx ρ2)/\P ρ2)->∀ρ,P ρ->∃ρ',bV g gb ds ρ= .ok (.nx ρ')/\P ρ'
 |[],_,ρ,h=>⟨ρ,rfl,h⟩
 |d::ds,hs,ρ,h=>by
  obtain⟨ρ1,ρ2,e1,e2,h2⟩:=hs d List.mem_cons_self ρ h
  obtain⟨ρ',e,h'⟩:=uY ds (fun d hd=>hs d (List.mem_cons_of_mem _ hd)) ρ2 h2
  exact⟨ρ',by rw[cI e1 e2,e],h'⟩
theorem qx {α:Type} {f:α->D} {k:α->Int} (hk:∀a,qR (f a)=some (k a)):∀l:List α,ft (l.map f)=some (l.map k)
 |[]=>rfl
 |a::l=>by
  rw[List.map_cons,ft,hk,qx hk l];rfl
theorem yW {α:Type} {f:α->D} {k:α->Int} (hk:∀a,qR (f a)=some (k a)) {l:List α} (h:l≠[]):fD (l.map f)=none:=by
 cases l with
 |nil=>exact absurd rfl h
 |cons a l=>
  have:=hk a
  rw[List.map_cons]
  cases e:f a<;>rw[e]at this<;>first|rfl|cases this
theorem xu {α:Type} {f:α->D} {k:α->Int} (hk:∀a,qR (f a)=some (k a)) {l m:List α} (p:l.Perm m) (inc:m.Pairwise fun a b=>k a<k b) (hl:m.length<64) {d:D} (hd:d= .lst (l.map f)\/d= .tup (l.map f)):cV [d]=some (.lst (m.map f)):=by
 by_cases h0:l=[]
 ·subst h0
  have:m=[]:=(List.Perm.nil_eq p).symm
  subst this
  rcases hd with rfl|rfl<;>rfl
 ·have hn:(l.map k).Nodup:=(p.map k).nodup_iff.mpr (List.pairwise_map.mpr (inc.imp fun h=>Int.ne_of_lt h))
  have hs:lN (l.map f)=m.map f:=uD (p.map f) (by
   rw[List.pairwise_map]
   refine inc.imp fun {a b} h=> ?_
   show (qR (f a)).getD 0<(qR (f b)).getD 0
   rw[hk,hk];exact h)
  have hl':(l.map k).length<64:=by rw[List.length_map,p.length_eq];exact hl
  have hr:=qx hk l
  have ha:=yW hk h0
  rcases hd with rfl|rfl
  ·have:gF [.lst (l.map f)]=none:=by simp[gF,sQ,ha]
   simp only[cV,this,n0,hr,Option.bind_some,hn,hl',and_self,if_true,hs]
  ·have:gF [.tup (l.map f)]=none:=by simp[gF,sQ,ha]
   simp only[cV,this,n0,hr,Option.bind_some,hn,hl',and_self,if_true,hs]
def oS (n:Nat) (ss:List bb) (rs:List Int) (rd:List (Int×Int)):List (Str×D):=[("tanks", .int (n:Int)),("streams", .tup (ss.map av)),("rises", .tup (rs.map .int)),("readings", .tup (rd.map aT))]
def aF (n:Nat) (ss:List bb) (rs:List Int) (rd:List (Int×Int)):D:= .ins "Day" (oS n ss rs rd)
theorem d6.inc {n:Nat} {ss:List bb} {rs:List Int} {rd:List (Int×Int)} (c:d6 n ss rs rd):rd.Pairwise fun a b=>a.1<b.1:=List.pairwise_map.mp ((List.pairwise_map.mpr c.good.inc).sublist c.sub)
theorem lA {n:Nat} {ss sl:List bb} {rs:List Int} {rd rl:List (Int×Int)} (c:d6 n ss rs rd) (p1:sl.Perm ss) (p2:rl.Perm rd) {d1 d2 d3:D} (h1:d1= .lst (sl.map av)\/d1= .tup (sl.map av)) (h2:d2= .lst (rs.map .int)\/d2= .tup (rs.map .int)) (h3:d3= .lst (rl.map aT)\/d3= .tup (rl.map aT)):
  cW [.int (n:Int),d1,d2,d3]= .ok (oS n ss rs rd):=by
 have e1:=xu (f:=av) (k:=(·.1)) (fun a=>rfl) p1 c.good.inc (by have:=c.len;omega) h1
 have e3:=xu (f:=aT) (k:=(·.1)) (fun a=>rfl) p2 c.inc (by have:=c.ten;omega) h3
 have e2:dw [d2]=some (.tup (rs.map .int)):=by rcases h2 with rfl|rfl<;>rfl
 simp! [cW,mZ,mx,fA,qh,uB,e1,e2,e3,List.map_cons,List.map_nil,List.replicate,List.cons_append,Nat.reduceSub,yH,oo,L2.Pu.gG,Option.map_some,oS]
theorem p7 {n:Nat} {ss:List bb} {rs:List Int} {rd:List (Int×Int)} {fs:aq->R (List D)} {ρ:aq} {ds:List D} (h:fs ρ= .ok ds) (h4:ds.length=4) (e:cW ds= .ok (oS n ss rs rd)):qb "Day" 4 cW fs ρ= .ok (aF n ss rs rd):=by
 unfold qb
 simp only[h,ay,h4,if_true,e,aF]
theorem IH {a b c d:D}:L2.atI [a,b,c,d] 2=some c:=by
 have:=eL (xs:=[a,b,c,d]) (k:=2) (by simp)
 simpa using this
theorem II {a b c d:D}:L2.atI [a,b,c,d] 3=some d:=by
 have:=eL (xs:=[a,b,c,d]) (k:=3) (by simp)
 simpa using this
theorem G1 (ns:List Int):aB [.scr ns, .int 48]= .ok (.int (cl ns 48)):=gr ns 48
theorem xv {ds:List D} {k:Nat} (h:k<=ds.length):BZ (.tup ds) (some (k:Int)) none=some (.tup (ds.drop k)):=by
 have e:HT.eF ds.length 0 (some (k:Int))=k:=by simp only[HT.eF];rw[if_neg (by omega)];omega
 have e2:HT.eF ds.length ds.length (none:Option Int)=ds.length:=rfl
 unfold BZ
 simp only[e,e2,L2.Pu.sR]
 split
 ·rename_i z;rw[z.1];rfl
 ·rw[List.take_of_length_le (by simp)]
theorem Ej {ds:List D} {k:Nat} (h:k<=ds.length):BZ (.tup ds) none (some (k:Int))=some (.tup (ds.take k)):=by
 have e:HT.eF ds.length ds.length (some (k:Int))=k:=by simp only[HT.eF];rw[if_neg (by omega)];omega
 have e2:HT.eF ds.length 0 (none:Option Int)=0:=rfl
 unfold BZ
 simp only[e,e2,L2.Pu.sR]
 split
 ·rename_i z;rw[z.2,List.take_of_length_le (by omega)]
 ·simp
theorem wz {a b:List D} (h:a.length+b.length<=lim):c_ (.tup a) (.tup b)=some (.tup (a++b)):=by
 unfold c_;simp only[h,if_true]
theorem rY {α:Type} (l:List α) (k:Nat):(l.drop k++l.take k).Perm l:=by
 have:=List.perm_append_comm (l₁:=l.drop k) (l₂:=l.take k)
 rwa [List.take_append_drop]at this
theorem HQ {c:aq->R Bool} {g g':aq->R bM} {ρ:aq} (h:c ρ= .ok true):cF c g g' ρ=g ρ:=by
 unfold cF
 rw[h];rfl
theorem HR {c:aq->R Bool} {g g':aq->R bM} {ρ:aq} (h:c ρ= .ok false):cF c g g' ρ=g' ρ:=by
 unfold cF
 rw[h];rfl
theorem IJ {i:Nat} {x y:Int} {ρ:aq} (h:af i ρ= .ok (.int x)) (n:x≠y):fT (f2 jY (af i) (fC (.int y))) ρ= .ok false:=by
 unfold fT f2
 rw[h]
 simp only[fC,ay,AG,cg,decide_eq_false n]
theorem Br (ns:List Int) {n:Nat} {ss:List bb} {rs:List Int} {rd:List (Int×Int)} (c:d6 n ss rs rd):jS [.scr ns,aH n ss rs rd]= .ok (aF n ss rs rd):=by
 have l1:=c.len
 have l2:=c.ten
 refine aL rfl ?_
 show n_ [some (.val (.scr ns)),some (.val (aH n ss rs rd)),none,none,none]=_
 unfold n_
 rw[au (ρ':=[some (.val (.scr ns)),some (.val (aH n ss rs rd)),some (.val (.int (cl ns 48%4))),none,none]) (by simp! [G1,bO (show (0:Int)<4 by decide)])]
 generalize cl ns 48%4=tn
 have i0:bq (aH n ss rs rd) (.int 0)=some (.int (n:Int)):=rfl
 have i1:bq (aH n ss rs rd) (.int 1)=some (.tup (ss.map av)):=rfl
 have i2:bq (aH n ss rs rd) (.int 2)=some (.tup (rs.map .int)):=rfl
 have i3:bq (aH n ss rs rd) (.int 3)=some (.tup (rd.map aT)):=rfl
 generalize aH n ss rs rd=cd at*
 by_cases h0:tn=0
 ·subst h0
  refine fj ((HQ rfl).trans (jq (p7 (ds:=[.int (n:Int), .lst (ss.map av), .lst (rs.map .int), .lst (rd.map aT)]) ?_ rfl (lA c (.refl _) (.refl _) (.inl rfl) (.inl rfl) (.inl rfl)))))
  simp! [i0,i1,i2,i3]
 refine Eq.trans (au (HR (IJ rfl h0))) ?_
 by_cases h1:tn=1
 ·subst h1
  refine fj ((HQ rfl).trans (jq (p7 (ds:=[.int (n:Int), .lst (ss.reverse.map av), .lst (rs.map .int), .lst (rd.reverse.map aT)]) ?_ rfl (lA c (List.reverse_perm _) (List.reverse_perm _) (.inl rfl) (.inl rfl) (.inl rfl)))))
  simp! [i0,i1,i2,i3,List.map_reverse]
 refine Eq.trans (au (HR (IJ rfl h1))) ?_
 by_cases h2:tn=2
 ·subst h2
  refine fj ((HQ rfl).trans (jq (p7 (ds:=[.int (n:Int), .tup (ss.map av), .tup (rs.map .int), .tup (rd.map aT)]) ?_ rfl (lA c (.refl _) (.refl _) (.inr rfl) (.inr rfl) (.inr rfl)))))
  simp! [i0,i1,i2,i3]
 refine Eq.trans (au (HR (IJ rfl h2))) ?_
 have sp:∀{α:Type} (f:α->D) (l:List α),l.length<=1000->BZ (.tup (l.map f)) (some ((l.length / 2:Nat):Int)) none=some (.tup ((l.drop (l.length / 2)).map f))/\BZ (.tup (l.map f)) none (some ((l.length / 2:Nat):Int))=some (.tup ((l.take (l.length / 2)).map f))/\c_ (.tup ((l.drop (l.length / 2)).map f)) (.tup ((l.take (l.length / 2)).map f))=some (.tup ((l.drop (l.length / 2)++l.take (l.length / 2)).map f)):=fun f l hl=>by
  have hk:l.length / 2<=(l.map f).length:=by rw[List.length_map];omega
  rw[xv hk,Ej hk,List.map_drop,List.map_take,List.map_append,List.map_drop,List.map_take]
  refine⟨rfl,rfl,wz ?_⟩
  rw[List.length_drop,List.length_take,List.length_map]
  unfold lim
  omega
 obtain⟨a1,a2,a5⟩:=sp av ss (by omega)
 obtain⟨a3,a4,a6⟩:=sp aT rd (by omega)
 have q1:((ss.length:Int)) / 2=((ss.length / 2:Nat):Int):=rfl
 have q2:((rd.length:Int)) / 2=((rd.length / 2:Nat):Int):=rfl
 rw[au (ρ':=[some (.val (.scr ns)),some (.val cd),some (.val (.int tn)),some (.val (.int ((ss.length / 2:Nat):Int))),none]) (by simp! [i1,List.length_map,ee (show (0:Int)<2/\(2:Int)<1073741824 by decide),q1]),
  au (ρ':=[some (.val (.scr ns)),some (.val cd),some (.val (.int tn)),some (.val (.int ((ss.length / 2:Nat):Int))),some (.val (.int ((rd.length / 2:Nat):Int)))]) (by simp! [i3,List.length_map,ee (show (0:Int)<2/\(2:Int)<1073741824 by decide),q2])]
 refine jq (p7 (ds:=[.int (n:Int), .tup ((ss.drop (ss.length / 2)++ss.take (ss.length / 2)).map av), .tup (rs.map .int), .tup ((rd.drop (rd.length / 2)++rd.take (rd.length / 2)).map aT)]) ?_ rfl (lA c (rY _ _) (rY _ _) (.inr rfl) (.inr rfl) (.inr rfl)))
 simp! [i0,i1,i2,i3,yE,jL,jK,a1,a2,a3,a4,a5,a6]
theorem Dp (ss:List bb) (h:ss.length<=1000):Wf 2 (.tup (ss.map av)):= .tup (by simpa using h) fun d hd=>by
 obtain⟨r,_,rfl⟩:=List.mem_map.mp hd
 exact tu [r.1,r.2.1,r.2.2] (by simp)
theorem yX (ss:List bb) (h:ss.length<=1000):ba [.tup (ss.map av), .tup (ss.map av)]= .ok (.bl true):=il (by omega) (Dp ss h)
theorem Bs (ss:List (Int×Int)) (h:ss.length<=1000):Wf 2 (.tup (ss.map aT)):= .tup (by simpa using h) fun d hd=>by
 obtain⟨r,_,rfl⟩:=List.mem_map.mp hd
 exact tu [r.1,r.2] (by simp)
theorem wA (ss:List (Int×Int)) (h:ss.length<=1000):ba [.tup (ss.map aT), .tup (ss.map aT)]= .ok (.bl true):=il (by omega) (Bs ss h)
theorem G2 {n:Nat} {ss:List bb} {rs:List Int} {rd:List (Int×Int)} {f:Str} {fa:aq->R D} {ρ:aq} {d:D} (h:fa ρ= .ok (aF n ss rs rd)) (e:(oS n ss rs rd).lookup f=some d):dN "Day" f fa ρ= .ok d:=by
 unfold dN
 simp only[h,ay,aF,if_true,e,cg]
theorem G3 {n:Nat} {ss:List bb} {rs:List Int} {rd:List (Int×Int)}:(oS n ss rs rd).lookup ("tanks":Str)=some (D.int (n:Int)):=rfl
theorem yY {n:Nat} {ss:List bb} {rs:List Int} {rd:List (Int×Int)}:(oS n ss rs rd).lookup ("streams":Str)=some (D.tup (ss.map av)):=rfl
theorem G4 {n:Nat} {ss:List bb} {rs:List Int} {rd:List (Int×Int)}:(oS n ss rs rd).lookup ("rises":Str)=some (D.tup (rs.map .int)):=rfl
theorem Bt {n:Nat} {ss:List bb} {rs:List Int} {rd:List (Int×Int)}:(oS n ss rs rd).lookup ("readings":Str)=some (D.tup (rd.map aT)):=rfl
theorem yZ {n:Nat} {ss:List bb} {rs:List Int} {rd:List (Int×Int)} (c:d6 n ss rs rd):iX [aF n ss rs rd,aH n ss rs rd]= .ok (.bl true):=by
 have l1:=c.len
 have l2:=c.ten
 have l3:=c.rsl
 have l4:=c.n7
 refine aL rfl ?_
 show mC [some (.val (aF n ss rs rd)),some (.val (aH n ss rs rd))]=_
 have s1:=yS (n:Int)
 have s2:=yX ss (by omega)
 have s3:=rV rs (by omega)
 have s4:=wA rd (by omega)
 simp! [mC,dN,aF,aH,G3,yY,G4,Bt,dF,i_,IH,II,s1,s2,s3,s4]
theorem tz {a0:Option Slot} {k:Int}:∀(ss:List bb) (x:Option Slot),(∃r∈ss,r.1=k/\bV (gN 2) eh (ss.map av) [a0,some (.val (.int k)),x]= .ok (.ret (av r)))\/((∀r∈ss,r.1≠k)/\∃y,bV (gN 2) eh (ss.map av) [a0,some (.val (.int k)),x]= .ok (.nx [a0,some (.val (.int k)),y]))
 |[],x=> .inr ⟨by simp,x,rfl⟩
 |r::ss,x=>by
  by_cases h:r.1=k
  ·refine .inl ⟨r,List.mem_cons_self,h,?_⟩
   rw[List.map_cons]
   exact uw rfl (by simp! [eh,av,dF,h])
  ·have e:eh [a0,some (.val (.int k)),some (.val (av r))]= .ok (.nx [a0,some (.val (.int k)),some (.val (av r))]):=by simp! [eh,av,dF,h]
   rcases tz (a0:=a0) (k:=k) ss (some (.val (av r)))with ⟨q,h1,h2,h3⟩|⟨h1,y,h2⟩
   ·exact .inl ⟨q,List.mem_cons_of_mem _ h1,h2,by rw[List.map_cons,cI rfl e,h3]⟩
   ·exact .inr ⟨fun q hq=>(List.mem_cons.mp hq).elim (fun z=>z▸h) (h1 q),y,by rw[List.map_cons,cI rfl e,h2]⟩
theorem Hy {ss:List bb} (h:(ss.map (·.1)).Nodup) {r q:bb} (hr:r∈ss) (hq:q∈ss) (e:r.1=q.1):r=q:=by
 induction ss with
 |nil=>cases hr
 |cons a ss ih=>
  rw[List.map_cons]at h
  obtain⟨h1,h2⟩:=List.nodup_cons.mp h
  rcases List.mem_cons.mp hr with hr1|hr1<;>rcases List.mem_cons.mp hq with hq1|hq1
  ·rw[hr1,hq1]
  ·exact(h1 (List.mem_map.mpr ⟨q,hq1,by rw[<-e,hr1]⟩)).elim
  ·exact(h1 (List.mem_map.mpr ⟨r,hr1,by rw[e,hq1]⟩)).elim
  ·exact ih h2 hr1 hq1
theorem nt {k n:Nat} {g:aq->R bM} {ds:List D} {x:Str} {ρ:aq} (h:ds.length=k) (e:g (fA n ds)= .err x ρ):aZ k n g ds= .err x ρ:=by
 unfold aZ
 rw[if_pos h,e];rfl
theorem tD {g g':aq->R bM} {ρ ρ':aq} {x:Str} (h:g ρ= .err x ρ'):aw g g' ρ= .err x ρ':=by
 unfold aw
 rw[h];rfl
theorem xw {f:aq->R D} {g:D->aq->R aq} {ρ ρ':aq} {x:Str} (h:f ρ= .err x ρ'):aY f g ρ= .err x ρ':=by
 unfold aY
 rw[h];rfl
section
variable {n:Nat} {ss:List bb} {rs:List Int} {rd:List (Int×Int)}
theorem lB (c:d6 n ss rs rd) {r:bb} (hr:r∈ss):bL [aF n ss rs rd, .int r.1]= .ok (av r):=by
 refine aL rfl ?_
 show iE [some (.val (aF n ss rs rd)),some (.val (.int r.1)),none]=_
 have e0:cz (dN "Day" "streams" (af 0)) [some (.val (aF n ss rs rd)),some (.val (.int r.1)),none]= .ok (ss.map av):=by simp! [dN,aF,yY]
 rcases tz (a0:=some (.val (aF n ss rs rd))) (k:=r.1) ss none with ⟨q,h1,h2,h3⟩|⟨h1,_⟩
 ·rw[Hy c.good.nd h1 hr h2]at h3
  exact fj ((eC e0).trans h3)
 ·exact absurd rfl (h1 r hr)
theorem wB {k:Int} (hk:∀r∈ss,r.1≠k):∃ρ,bL [aF n ss rs rd, .int k]= .err "UnknownStream" ρ:=by
 have e0:cz (dN "Day" "streams" (af 0)) [some (.val (aF n ss rs rd)),some (.val (.int k)),none]= .ok (ss.map av):=by simp! [dN,aF,yY]
 rcases tz (a0:=some (.val (aF n ss rs rd))) (k:=k) ss none with ⟨q,h1,h2,h3⟩|⟨h1,y,h2⟩
 ·exact absurd h2 (hk q h1)
 ·refine⟨[some (.val (aF n ss rs rd)),some (.val (.int k)),y],?_⟩
  have e:iE [some (.val (aF n ss rs rd)),some (.val (.int k)),none]= .err "UnknownStream" [some (.val (aF n ss rs rd)),some (.val (.int k)),y]:=by
   unfold iE
   rw[au ((eC e0).trans h2)]
   rfl
  exact nt rfl e
theorem HA {m:Str} (h:m≠"tanks"/\m≠"streams"/\m≠"rises"/\m≠"readings":=by decide):(oS n ss rs rd).lookup m=none:=by
 obtain⟨h1,h2,h3,h4⟩:=h
 simp[oS,List.lookup_cons,beq_eq_false_iff_ne.mpr h1,beq_eq_false_iff_ne.mpr h2,beq_eq_false_iff_ne.mpr h3,beq_eq_false_iff_ne.mpr h4]
theorem p8 {m:Str} {k:Nat} {r:List D->R D} {fo:aq->R D} {fs:aq->R (List D)} {ρ:aq} {ds:List D} {z:D} (h1:fo ρ= .ok (aF n ss rs rd)) (h2:fs ρ= .ok ds) (hl:ds.length+1=k) (e:r (aF n ss rs rd::ds)= .ok z) (hm:m≠"tanks"/\m≠"streams"/\m≠"rises"/\m≠"readings":=by decide):dz "Day" m k r fo fs ρ= .ok z:=by
 unfold dz
 simp only[h1,ay]
 unfold aF at e ⊢
 simp only[HA hm,and_self,if_true,h2,ay,hl,e]
theorem Bu {m x:Str} {k:Nat} {r:List D->R D} {fo:aq->R D} {fs:aq->R (List D)} {ρ ρ':aq} {ds:List D} (h1:fo ρ= .ok (aF n ss rs rd)) (h2:fs ρ= .ok ds) (hl:ds.length+1=k) (e:r (aF n ss rs rd::ds)= .err x ρ') (hm:m≠"tanks"/\m≠"streams"/\m≠"rises"/\m≠"readings":=by decide):dz "Day" m k r fo fs ρ= .err x ρ:=by
 unfold dz
 simp only[h1,ay]
 unfold aF at e ⊢
 simp only[HA hm,and_self,if_true,h2,ay,hl,e]
theorem lW {m:Str} {r:List D->R D} {fo f:aq->R D} {ρ:aq} {d z:D} (h1:fo ρ= .ok (aF n ss rs rd)) (h2:f ρ= .ok d) (e:r [aF n ss rs rd,d]= .ok z) (hm:m≠"tanks"/\m≠"streams"/\m≠"rises"/\m≠"readings":=by decide):dz "Day" m 2 r fo (aa f ai) ρ= .ok z:=p8 (ds:=[d]) h1 (cJ h2 rfl) rfl e hm
theorem HB {m:Str} {r:List D->R D} {fo:aq->R D} {ρ:aq} {z:D} (h1:fo ρ= .ok (aF n ss rs rd)) (e:r [aF n ss rs rd]= .ok z) (hm:m≠"tanks"/\m≠"streams"/\m≠"rises"/\m≠"readings":=by decide):dz "Day" m 1 r fo ai ρ= .ok z:=p8 (ds:=[]) h1 rfl rfl e hm
theorem rZ {m x:Str} {r:List D->R D} {fo f:aq->R D} {ρ ρ':aq} {d:D} (h1:fo ρ= .ok (aF n ss rs rd)) (h2:f ρ= .ok d) (e:r [aF n ss rs rd,d]= .err x ρ') (hm:m≠"tanks"/\m≠"streams"/\m≠"rises"/\m≠"readings":=by decide):dz "Day" m 2 r fo (aa f ai) ρ= .err x ρ:=Bu (ds:=[d]) h1 (cJ h2 rfl) rfl e hm
theorem wC {f:aq->R D} {ρ:aq} {d:D} {i:Nat} (h:f ρ= .ok d):aY f (gN i) ρ= .ok (.nx (ρ.set i (some (.val d)))):=by
 unfold aY gN
 rw[h];rfl
end
def xx (x:Int×Int):D:= .tup [.int x.1, .int x.2]
def jV (ps:List (Int×Int)):List (bx×D):=ps.map fun x=>(Sum.inl x.1, .int x.2)
theorem uZ (ps:List (Int×Int)):jO (ps.map xx)=some (jV ps):=by
 induction ps with
 |nil=>rfl
 |cons x r ih=>
  show (dq (.int x.1)).bind (fun key=>(jO (r.map xx)).map fun ps=>(key,D.int x.2)::ps)=_
  rw[ih]
  rfl
def jW (ps:List (Int×Int)):List (bx×D):=gU [] (jV ps)
theorem j0 {pd:D} {ps:List (Int×Int)} (h:pd= .lst (ps.map xx)\/pd= .tup (ps.map xx)):p_ [pd]=some (.dic (jW ps)):=by
 rcases h with rfl|rfl
 ·show (jO (ps.map xx)).map (fun qs=>D.dic (gU [] qs))=_
  rw[uZ];rfl
 ·show (jO (ps.map xx)).map (fun qs=>D.dic (gU [] qs))=_
  rw[uZ];rfl
def y_ (kds:List (bx×D)):Prop:=∀kv∈kds,∃i,kv.2=D.int i
theorem y_.put {kds:List (bx×D)} (h:y_ kds) (k:bx) (i:Int):y_ (lI kds k (.int i)):=by
 unfold lI
 split
 ·intro kv hkv
  obtain⟨x,hx,rfl⟩:=List.mem_map.mp hkv
  split
  ·exact⟨i,rfl⟩
  ·exact h x hx
 ·intro kv hkv
  rcases List.mem_append.mp hkv with hkv|hkv
  ·exact h kv hkv
  ·rw[List.mem_singleton.mp hkv];exact⟨i,rfl⟩
theorem qy:∀(ps:List (Int×Int)) {kds:List (bx×D)},y_ kds->y_ (gU kds (jV ps))
 |[],_,h=>h
 |x::r,_,h=>qy r (h.put (Sum.inl x.1) x.2)
def nu (ps:List (Int×Int)) (n:Int):Int:=match bW (jW ps) (Sum.inl n)with
 |some (.int i)=>i
 |_=>0
theorem xy (ps:List (Int×Int)) (n:Int):(bW (jW ps) (Sum.inl n)).getD (.int 0)= .int (nu ps n):=by
 unfold nu
 cases h:bW (jW ps) (Sum.inl n)with
 |none=>rfl
 |some d=>
  have hv:y_ (jW ps):=qy ps (kds:=[]) fun kv hkv=>by cases hkv
  unfold bW at h
  cases hf:(jW ps).find? fun kv=>decide (kv.1=Sum.inl n)with
  |none=>rw[hf]at h;cases h
  |some kv=>
   rw[hf]at h
   cases h
   obtain⟨i,hi⟩:=hv kv (List.mem_of_find?_eq_some hf)
   show (some kv.2).getD (D.int 0)=D.int (match (some kv.2:Option D)with|some (.int i)=>i|_=>0)
   rw[hi]
   rfl
theorem Dq {kds:List (bx×D)} {k:bx} {v:D} (h:k∉kds.map (·.1)):lI kds k v=kds++[(k,v)]:=by
 unfold lI
 rw[if_neg]
 intro z
 obtain⟨kv,h1,h2⟩:=List.any_eq_true.mp z
 exact h (List.mem_map.mpr ⟨kv,h1,by simpa using h2⟩)
theorem Bv (ps:List (Int×Int)) (n:Int):(Sum.inl n:bx)∈(jV ps).map (·.1)<->n∈ps.map (·.1):=by
 unfold jV
 rw[List.map_map]
 constructor
 ·intro h
  obtain⟨p,hp,e⟩:=List.mem_map.mp h
  cases e
  exact List.mem_map_of_mem hp
 ·intro h
  obtain⟨p,hp,rfl⟩:=List.mem_map.mp h
  exact List.mem_map.mpr ⟨p,hp,rfl⟩
theorem Dr {ps:List (Int×Int)} {p:Int×Int} (h:p.1∉ps.map (·.1)):lI (jV ps) (Sum.inl p.1) (.int p.2)=jV (ps++[p]):=by
 rw[Dq (fun z=>h ((Bv ps p.1).mp z))]
 simp[jV]
theorem nv {ps:List (Int×Int)} (nd:(ps.map (·.1)).Nodup):jW ps=jV ps:=by
 have key:∀(b a:List (Int×Int)),((a++b).map (·.1)).Nodup->gU (jV a) (jV b)=jV (a++b):=by
  intro b
  induction b with
  |nil=>intro a _;simp[gU,jV]
  |cons p b ih=>
   intro a nd
   show gU (lI (jV a) (Sum.inl p.1) (.int p.2)) (jV b)=_
   have hp:p.1∉a.map (·.1):=by
    rw[List.map_append,List.map_cons]at nd
    have:=(List.nodup_append.mp nd).2.2
    intro z
    exact this _ z p.1 List.mem_cons_self rfl
   rw[Dr hp,ih (a++[p]) (by rw[List.append_assoc];exact nd),List.append_assoc]
   rfl
 exact key ps [] nd
theorem tE {ps:List (Int×Int)} (nd:(ps.map (·.1)).Nodup) {p:Int×Int} (h:p∈ps):bW (jV ps) (Sum.inl p.1)=some (.int p.2):=by
 induction ps with
 |nil=>cases h
 |cons q ps ih=>
  obtain⟨n1,n2⟩:=List.nodup_cons.mp nd
  unfold bW jV
  rw[List.map_cons,List.find?_cons]
  rcases List.mem_cons.mp h with rfl|h
  ·simp
  ·have hne:q.1≠p.1:=fun z=>n1 (by show q.1∈ps.map (·.1);rw[z];exact List.mem_map_of_mem h)
   have:decide ((Sum.inl q.1:bx)=Sum.inl p.1)=false:=by simpa using hne
   simp only[this]
   exact ih n2 h
theorem tF {ps:List (Int×Int)} (nd:(ps.map (·.1)).Nodup) {p:Int×Int} (h:p∈ps):nu ps p.1=p.2:=by
 unfold nu
 rw[nv nd,tE nd h]
def bA (ss:List bb) (rd:List (Int×Int)):List bb:=ss.filter fun r=>decide (r.1∉rd.map (·.1))
theorem xz {a0:Option Slot}:∀(rd:List (Int×Int)) (x:Option Slot),fw (gN 1) jF (f2 bq (af 1) (fC (.int 0))) (rd.map aT) [a0,x]= .ok ((rd.map (·.1)).map .int)
 |[],x=>rfl
 |p::rd,x=>by
  have ih:=xz (a0:=a0) rd (some (.val (aT p)))
  rw[List.map_cons,fw]
  simp only[gN,jF,ay,List.set_cons_succ,List.set_cons_zero,if_true,ih]
  simp! [aT,dF,List.map_cons]
theorem xA {a0:Option Slot} {rr:List Int}:∀(ss:List bb) (x:Option Slot),fw (gN 1) (fT (f2 (cG true) (f2 bq (af 1) (fC (.int 0))) (af 2))) (ao 1) (ss.map av) [a0,x,some (.bor (.lst (rr.map .int)))]= .ok ((ss.filter fun r=>decide (r.1∉rr)).map av)
 |[],x=>rfl
 |r::ss,x=>by
  have ih:=xA (a0:=a0) (rr:=rr) ss (some (.val (av r)))
  rw[List.map_cons,fw]
  simp only[gN,ay,List.set_cons_succ,List.set_cons_zero,ih]
  by_cases h:r.1∈rr
  ·simp! [av,dF,iO,h,not_true,List.filter_cons,decide_false]
  ·simp! [av,dF,iO,h,not_false_eq_true,List.filter_cons,decide_true,List.map_cons]
theorem j3 {n:Nat} {ss:List bb} {rs:List Int} {rd:List (Int×Int)} (h1:ss.length<=1000) (h2:rd.length<=1000):bP [aH n ss rs rd]= .ok (.lst ((bA ss rd).map av)):=by
 refine aL rfl ?_
 show la [some (.val (aH n ss rs rd)),none]=_
 have e3:L2.atI [D.int (n:Int), .tup (ss.map av), .tup (rs.map .int), .tup (rd.map aT)] 3=some (.tup (rd.map aT)):=by
  have:=eL (xs:=[D.int (n:Int), .tup (ss.map av), .tup (rs.map .int), .tup (rd.map aT)]) (k:=3) (by simp)
  simpa using this
 unfold la
 rw[au (ρ':=[some (.val (aH n ss rs rd)),some (.own (.lst ((rd.map (·.1)).map .int)))]) (own_of (fq (ds:=rd.map aT) (τ:=[none,none]) (by simp! [aH,e3]) (by simp;unfold lim;omega) rfl (xz _ _)))]
 refine jq (sT (fq (ds:=ss.map av) (τ:=[none,none,some (.bor (.lst ((rd.map (·.1)).map .int)))]) (by simp! [aH,i_]) (by simp;unfold lim;omega) rfl (xA _ _)))
theorem d6.rnd {n:Nat} {ss:List bb} {rs:List Int} {rd:List (Int×Int)} (c:d6 n ss rs rd):(rd.map (·.1)).Nodup:=List.Nodup.sublist c.sub c.good.nd
theorem u_ (ps:List (Int×Int)) (k:Int):(bW (jV ps) (Sum.inl k)).isSome=decide (k∈ps.map (·.1)):=by
 induction ps with
 |nil=>rfl
 |cons x r ih=>
  unfold bW jV at ih ⊢
  rw[List.map_cons,List.find?_cons,List.map_cons]
  by_cases h:x.1=k
  ·simp[h]
  ·have e:decide ((Sum.inl x.1:bx)=Sum.inl k)=false:=by simpa using h
   simp only[e]
   rw[ih]
   have:¬k=x.1:=fun z=>h z.symm
   simp[this]
theorem tH {ps:List (Int×Int)} (nd:(ps.map (·.1)).Nodup) (k:Int):cG false (.int k) (.dic (jW ps))=some (.bl (decide (k∈ps.map (·.1)))):=by
 show some (D.bl (bW (jW ps) (Sum.inl k)).isSome)=_
 rw[nv nd,u_]
section
variable {n:Nat} {ss:List bb} {rs:List Int} {rd:List (Int×Int)}
theorem hZ (c:d6 n ss rs rd) {r:bb} (hr:r∈ss):aU [aF n ss rs rd, .int r.1]= .ok (.bl (decide (r.1∈rd.map (·.1)))):=by
 refine aL rfl ?_
 show jt [some (.val (aF n ss rs rd)),some (.val (.int r.1)),none]=_
 unfold jt
 refine Eq.trans (au (wC (lW rfl rfl (lB c hr)))) ?_
 have e:=j0 (pd:= .tup (rd.map aT)) (ps:=rd) (.inr rfl)
 have e2:=tH c.rnd r.1
 simp! [dN,aF,Bt,av,dF,e,e2]
theorem v2 {k:Int} (hk:∀r∈ss,r.1≠k):∃ρ,aU [aF n ss rs rd, .int k]= .err "UnknownStream" ρ:=by
 obtain⟨ρ,e⟩:=wB (n:=n) (rs:=rs) (rd:=rd) hk
 exact⟨_,nt rfl (tD (xw (rZ rfl rfl e)))⟩
theorem nw (c:d6 n ss rs rd):bj [aF n ss rs rd]= .ok (.tup ((bA ss rd).map av)):=by
 refine aL rfl (jq (mr (cJ (sT (fq (ds:=ss.map av) (τ:=[none,none,some (.val (aF n ss rs rd))]) ?_ ?_ rfl (ku (e:=av) (p:=fun r:bb=>decide (r.1∉rd.map (·.1))) ss ?_ ?_ _))) rfl) rfl))
 ·show cz (dN "Day" "streams" (af 0)) [some (.val (aF n ss rs rd))]=_
  simp! [dN,aF,yY]
 ·have:=c.len
  simp[lim];omega
 ·intro r hr
  have e:=p8 (m:="metered") (k:=2) (r:=aU) (fo:=ao 2) (fs:=aa (f2 bq (af 1) (fC (.int 0))) (ai)) (ρ:=[none,some (.val (av r)),some (.val (aF n ss rs rd))]) (ds:=[.int r.1]) rfl (by simp! [av,dF]) rfl (hZ c hr)
  simp only[eJ,cp,e,ay,gS,cg,decide_not]
 ·intro r hr _
  rfl
end
def C0 (ss:List bb) (a b:Int):Prop:=∃r∈ss,(r.2.1=a/\r.2.2=b)\/(r.2.2=a/\r.2.1=b)
inductive kD (ss:List bb) (a:Int):Int->Prop
 |refl:kD ss a a
 |step {b c:Int}:kD ss a b->C0 ss b c->kD ss a c
theorem C0.symm {ss:List bb} {a b:Int} (h:C0 ss a b):C0 ss b a:=by
 obtain⟨r,hr,h|h⟩:=h
 ·exact⟨r,hr, .inr ⟨h.2,h.1⟩⟩
 ·exact⟨r,hr, .inl ⟨h.2,h.1⟩⟩
theorem kD.trans {ss:List bb} {a b c:Int} (h:kD ss a b) (g:kD ss b c):kD ss a c:=by
 induction g with
 |refl=>exact h
 |step _ e ih=>exact .step ih e
theorem kD.symm {ss:List bb} {a b:Int} (h:kD ss a b):kD ss b a:=by
 induction h with
 |refl=>exact .refl
 |step _ e ih=>exact(kD.step .refl e.symm).trans ih
structure v3 (n:Nat) (ss:List bb):Prop where
 src:∀r∈ss,0<=r.2.1/\r.2.1<=n
 tgt:∀r∈ss,0<=r.2.2/\r.2.2<=n
theorem kD.range {n:Nat} {ss:List bb} (g:v3 n ss) {a b:Int} (ha:0<=a/\a<=n) (h:kD ss a b):0<=b/\b<=n:=by
 induction h with
 |refl=>exact ha
 |step _ e _=>
  obtain⟨r,hr,h|h⟩:=e
  ·rw[<-h.2];exact g.tgt r hr
  ·rw[<-h.2];exact g.src r hr
theorem qz {ss:List bb} {a:Int} {S:Int->Prop} (ha:S a) (hc:∀b c,S b->C0 ss b c->S c) {b:Int} (h:kD ss a b):S b:=by
 induction h with
 |refl=>exact ha
 |step _ e ih=>exact hc _ _ ih e
theorem lX (a:Int):∀{l:List Int},l.Nodup->l.length<=(l.filter fun x=>decide (x≠a)).length+1
 |[],_=>by simp
 |x::r,h=>by
  obtain⟨h1,h2⟩:=List.nodup_cons.mp h
  by_cases e:x=a
  ·subst e
   have:r.filter (fun y=>decide (y≠x))=r:=List.filter_eq_self.mpr fun y hy=>by simp;intro z;subst z;exact h1 hy
   rw[List.filter_cons,if_neg (by simp),this]
   simp
  ·have ih:=lX a h2
   rw[List.filter_cons,if_pos (by simpa using e)]
   simp only[List.length_cons]
   omega
theorem iJ:∀(n:Nat) {l:List Int},l.Nodup->(∀x∈l,0<=x/\x<n)->l.length<=n
 |0,l,_,h=>by
  cases l with
  |nil=>simp
  |cons x r=>have:=h x List.mem_cons_self;omega
 |n+1,l,hn,h=>by
  have h1:=lX (n:Int) hn
  have h2:=iJ n (l:=l.filter fun x=>decide (x≠(n:Int))) (List.Nodup.sublist List.filter_sublist hn) fun x hx=>by
   obtain⟨a,b⟩:=List.mem_filter.mp hx
   have:=h x a
   simp at b
   omega
  omega
theorem xB {n:Nat} {ss:List bb} (h:Good n ss):v3 n ss:=⟨h.src,h.tgt⟩
def mG (seen:List Int) (a b:Int):List Int:=if a∈seen/\b∉seen then seen++[b]else seen
def dG (seen:List Int) (r:bb):List Int:=mG (mG seen r.2.1 r.2.2) r.2.2 r.2.1
def dr (ss:List bb) (seen:List Int):List Int:=ss.foldl dG seen
theorem nz (seen:List Int) (a b:Int):seen.length<=(mG seen a b).length:=by
 unfold mG;split<;>simp
theorem lC (seen:List Int) (r:bb):seen.length<=(dG seen r).length:=Nat.le_trans (nz _ _ _) (nz _ _ _)
theorem jX:∀(ss:List bb) (seen:List Int),seen.length<=(dr ss seen).length
 |[],_=>Nat.le_refl _
 |r::ss,seen=>Nat.le_trans (lC seen r) (jX ss _)
theorem r_ {seen:List Int} {a b:Int} (h:(mG seen a b).length=seen.length):mG seen a b=seen/\(a∈seen->b∈seen):=by
 unfold mG at h ⊢
 split at h
 ·simp at h
 ·rename_i hc
  rw[if_neg hc]
  exact⟨rfl,fun ha=>Classical.byContradiction fun hb=>hc ⟨ha,hb⟩⟩
theorem qA {seen:List Int} {r:bb} (h:(dG seen r).length=seen.length):dG seen r=seen/\(r.2.1∈seen->r.2.2∈seen)/\(r.2.2∈seen->r.2.1∈seen):=by
 have a1:=nz seen r.2.1 r.2.2
 have a2:=nz (mG seen r.2.1 r.2.2) r.2.2 r.2.1
 unfold dG at h ⊢
 obtain⟨e1,h1⟩:=r_ (show (mG seen r.2.1 r.2.2).length=seen.length by omega)
 rw[e1]at h ⊢
 obtain⟨e2,h2⟩:=r_ h
 exact⟨e2,h1,h2⟩
theorem qB:∀{ss:List bb} {seen:List Int},(dr ss seen).length=seen.length->∀r∈ss,(r.2.1∈seen->r.2.2∈seen)/\(r.2.2∈seen->r.2.1∈seen)
 |[],_,_=>fun r hr=>by cases hr
 |r::ss,seen,h=>by
  have a1:=lC seen r
  have a2:=jX ss (dG seen r)
  replace h:(dr ss (dG seen r)).length=seen.length:=h
  obtain⟨e1,h1⟩:=qA (show (dG seen r).length=seen.length by omega)
  rw[e1]at h
  intro r' hr'
  rcases List.mem_cons.mp hr' with rfl|hr'
  ·exact h1
  ·exact qB h r' hr'
structure oU (ss:List bb) (p:Int) (seen:List Int):Prop where
 nd:seen.Nodup
 tied:∀q∈seen,kD ss p q
 here:p∈seen
theorem oU.add {ss:List bb} {p:Int} {seen:List Int} (s:oU ss p seen) {a b:Int} (h:C0 ss a b):oU ss p (mG seen a b):=by
 unfold mG
 split
 ·rename_i hc
  refine⟨List.nodup_append.mpr ⟨s.nd,by simp,fun x hx y hy=> ?_⟩,fun q hq=> ?_,List.mem_append_left _ s.here⟩
  ·have:y=b:=by simpa using hy
   subst this
   intro z;subst z;exact hc.2 hx
  ·rcases List.mem_append.mp hq with hq|hq
   ·exact s.tied q hq
   ·have:q=b:=by simpa using hq
    subst this
    exact .step (s.tied a hc.1) h
 ·exact s
theorem oU.pass {ss0:List bb} {p:Int}:∀{ss:List bb} {seen:List Int},(∀r∈ss,r∈ss0)->oU ss0 p seen->oU ss0 p (dr ss seen)
 |[],_,_,s=>s
 |r::ss,seen,h,s=>oU.pass (ss:=ss) (fun x hx=>h x (List.mem_cons_of_mem _ hx)) ((s.add ⟨r,h r List.mem_cons_self, .inl ⟨rfl,rfl⟩⟩).add ⟨r,h r List.mem_cons_self, .inr ⟨rfl,rfl⟩⟩)
theorem Ds {a0 a1:Option Slot} {seen:List Int} {g:Bool} {r:bb} (hl:seen.length<=100):
  dX [a0,a1,some (.own (.lst (seen.map .int))),some (.val (.bl g)),some (.val (.int r.1)),some (.val (.int r.2.1)),some (.val (.int r.2.2))]
   = .ok (.nx [a0,a1,some (.own (.lst ((dG seen r).map .int))),some (.val (.bl (g||decide (seen.length<(dG seen r).length)))),some (.val (.int r.1)),some (.val (.int r.2.1)),some (.val (.int r.2.2))]):=by
 have l1:(seen.map D.int).length<lim:=by rw[List.length_map];unfold lim;omega
 have l2:((seen++[r.2.2]).map D.int).length<lim:=by rw[List.length_map,List.length_append];simp;unfold lim;omega
 have ap:∀x:Int,seen.map D.int++[D.int x]=(seen++[x]).map D.int:=fun x=>by simp
 unfold dG
 by_cases h1:r.2.1∈seen<;>by_cases h2:r.2.2∈seen
 ·simp! [dX,mV,iO,h1,h2,mG,not_true,and_false,Nat.lt_irrefl,Bool.or_false]
 ·have h3:r.2.1∈seen++[r.2.2]:=List.mem_append_left _ h1
  have h4:r.2.2∈seen++[r.2.2]:=List.mem_append_right _ (by simp)
  have h5:seen.length<(seen++[r.2.2]).length:=by simp
  simp! [dX,mV,iO,h1,h2,h3,h4,h5,l1,ap,mG,not_true,not_false_eq_true,and_self,and_false,Bool.or_true]
 ·have h5:seen.length<(seen++[r.2.1]).length:=by simp
  simp! [dX,mV,iO,h1,h2,h5,l1,ap,mG,not_true,not_false_eq_true,and_self,and_false,false_and,Bool.or_true]
 ·simp! [dX,mV,iO,h1,h2,mG,false_and,Nat.lt_irrefl,Bool.or_false]
theorem xC {a0 a1:Option Slot}:∀(ss:List bb) (seen:List Int) (g:Bool) (x4 x5 x6:Option Slot),(dr ss seen).length<=100->
  ∃y4 y5 y6,bV (gC 3 (bi (gN 4) (bi (gN 5) (bi (gN 6) (gB))))) dX (ss.map av) [a0,a1,some (.own (.lst (seen.map .int))),some (.val (.bl g)),x4,x5,x6]
   = .ok (.nx [a0,a1,some (.own (.lst ((dr ss seen).map .int))),some (.val (.bl (g||decide (seen.length<(dr ss seen).length)))),y4,y5,y6])
 |[],seen,g,x4,x5,x6,_=>⟨x4,x5,x6,by simp[bV,dr]⟩
 |r::ss,seen,g,x4,x5,x6,hl=>by
  have a1':=lC seen r
  have a2':=jX ss (dG seen r)
  have hl':(dr ss (dG seen r)).length<=100:=hl
  obtain⟨y4,y5,y6,e⟩:=xC (a0:=a0) (a1:=a1) ss (dG seen r) (g||decide (seen.length<(dG seen r).length)) (some (.val (.int r.1))) (some (.val (.int r.2.1))) (some (.val (.int r.2.2))) hl'
  refine⟨y4,y5,y6,?_⟩
  rw[List.map_cons,cI rfl (Ds (by omega)),e]
  have:(dr (r::ss) seen)=dr ss (dG seen r):=rfl
  rw[this]
  congr 5
  by_cases c1:seen.length<(dG seen r).length<;>by_cases c2:(dG seen r).length<(dr ss (dG seen r)).length
  ·simp[c1,c2,show seen.length<(dr ss (dG seen r)).length by omega]
  ·simp[c1,c2,show seen.length<(dr ss (dG seen r)).length by omega]
  ·simp[c1,c2,show seen.length<(dr ss (dG seen r)).length by omega]
  ·simp[c1,c2,show ¬seen.length<(dr ss (dG seen r)).length by omega]
theorem Bw {n:Nat} {ss:List bb} {p:Int} {sd:D} (hsd:sd= .lst (ss.map av)\/sd= .tup (ss.map av)) (g:v3 n ss) (hn:n<=7) (hp:0<=p/\p<=n) (a1:Option Slot):∀(m:Nat) (seen:List Int) (x4 x5 x6:Option Slot),oU ss p seen->9<=m+seen.length->
  ∃seen' g' y4 y5 y6,cS (cp (af 3)) gJ (m+1) [some (.val sd),a1,some (.own (.lst (seen.map .int))),some (.val (.bl true)),x4,x5,x6]
   = .ok (.nx [some (.val sd),a1,some (.own (.lst (seen'.map .int))),g',y4,y5,y6])/\oU ss p seen'/\∀r∈ss,(r.2.1∈seen'->r.2.2∈seen')/\(r.2.2∈seen'->r.2.1∈seen'):=by
 have bound:∀seen,oU ss p seen->seen.length<=8:=fun seen s=>Nat.le_trans (iJ (n+1) s.nd fun x hx=>by have:=(s.tied x hx).range g hp;omega) (by omega)
 intro m
 induction m with
 |zero=>intro seen x4 x5 x6 s h;have:=bound seen s;omega
 |succ m ih=>
  intro seen x4 x5 x6 s h
  have s':=oU.pass (ss:=ss) (fun r hr=>hr) s
  have b':=bound _ s'
  obtain⟨y4,y5,y6,e⟩:=xC (a0:=some (.val sd)) (a1:=a1) ss seen false x4 x5 x6 (by omega)
  have hq:cz (ao 0) [some (.val sd),a1,some (.own (.lst (seen.map .int))),some (.val (.bl false)),x4,x5,x6]= .ok (ss.map av):=by rcases hsd with rfl|rfl<;>rfl
  have hb:gJ [some (.val sd),a1,some (.own (.lst (seen.map .int))),some (.val (.bl true)),x4,x5,x6]= .ok (.nx [some (.val sd),a1,some (.own (.lst ((dr ss seen).map .int))),some (.val (.bl (false||decide (seen.length<(dr ss seen).length)))),y4,y5,y6]):=by
   unfold gJ
   rw[au (ρ':=[some (.val sd),a1,some (.own (.lst (seen.map .int))),some (.val (.bl false)),x4,x5,x6]) rfl,eC hq,e]
  rw[mw (by rfl) hb]
  by_cases hlt:seen.length<(dr ss seen).length
  ·obtain⟨seen',g',z4,z5,z6,e',h1,h2⟩:=ih (dr ss seen) y4 y5 y6 s' (by omega)
   refine⟨seen',g',z4,z5,z6,?_,h1,h2⟩
   rw[show (false||decide (seen.length<(dr ss seen).length))=true by simp[hlt]]
   exact e'
  ·have he:(dr ss seen).length=seen.length:=by have:=jX ss seen;omega
   refine⟨dr ss seen,some (.val (.bl false)),y4,y5,y6,?_,s',?_⟩
   ·rw[show (false||decide (seen.length<(dr ss seen).length))=false by simp[hlt]]
    exact nV rfl
   ·
    have hc:=qB he
    have heq:∀(ss:List bb) (seen:List Int),(dr ss seen).length=seen.length->dr ss seen=seen:=by
     intro ss
     induction ss with
     |nil=>intro seen _;rfl
     |cons r ss ihh=>
      intro seen h
      have a1:=lC seen r
      have a2:=jX ss (dG seen r)
      replace h:(dr ss (dG seen r)).length=seen.length:=h
      obtain⟨e1,_⟩:=qA (show (dG seen r).length=seen.length by omega)
      show dr ss (dG seen r)=seen
      rw[e1]at h ⊢
      exact ihh seen h
    rw[heq ss seen he]
    exact hc
theorem j4 {n:Nat} {ss:List bb} {p:Int} {sd:D} (hsd:sd= .lst (ss.map av)\/sd= .tup (ss.map av)) (g:v3 n ss) (hn:n<=7) (hp:0<=p/\p<=n):
  ∃seen:List Int,dc [sd, .int p]= .ok (.lst (seen.map .int))/\seen.Nodup/\∀q,q∈seen<->kD ss p q:=by
 have s0:oU ss p [p]:=⟨by simp,fun q hq=>by rw[List.mem_singleton.mp hq];exact .refl,by simp⟩
 obtain⟨seen,g',y4,y5,y6,e,s,hc⟩:=Bw hsd g hn hp (some (.val (.int p))) 9 [p] none none none s0 (by simp)
 refine⟨seen,?_,s.nd,fun q=>⟨s.tied q,fun h=>qz (S:=fun q=>q∈seen) s.here (fun b c hb had=> ?_) h⟩⟩
 ·refine aL rfl ?_
  show lb [some (.val sd),some (.val (.int p)),none,none,none,none,none]=_
  have e':cS (cp (af 3)) gJ 100 [some (.val sd),some (.val (.int p)),some (.own (.lst [.int p])),some (.val (.bl true)),none,none,none]=_:=iP 90 e
  have hl1:(1:Nat)<=lim:=by decide
  unfold lb
  rw[au (ρ':=[some (.val sd),some (.val (.int p)),some (.own (.lst [.int p])),none,none,none,none]) (by simp! [hl1]),
   au (ρ':=[some (.val sd),some (.val (.int p)),some (.own (.lst [.int p])),some (.val (.bl true)),none,none,none]) rfl,au e']
  simp! []
 ·obtain⟨r,hr,h|h⟩:=had
  ·have:=(hc r hr).1 (by rw[h.1];exact hb)
   rwa [h.2]at this
  ·have:=(hc r hr).2 (by rw[h.1];exact hb)
   rwa [h.2]at this
structure oF (ss:List bb) (p:Int) (l:List Int):Prop where
 mem:∀q,q∈l<->kD ss p q
 nd:l.Nodup
 srt:l.Pairwise (·<=·)
theorem nA {ss:List bb} {p:Int} {l:List Int} (hm:∀q,q∈l<->kD ss p q) (hn:l.Nodup):oF ss p (d0 l):=
 ⟨fun q=>by rw[(fS l).mem_iff];exact hm q,(fS l).nodup_iff.mpr hn,iA l⟩
theorem oF.uniq {ss:List bb} {p:Int} {a b:List Int} (ha:oF ss p a) (hb:oF ss p b):a=b:=
 h_ ((List.perm_ext_iff_of_nodup ha.nd hb.nd).mpr fun q=>by rw[ha.mem,hb.mem]) ha.srt hb.srt
theorem oF.len {n:Nat} {ss:List bb} {p:Int} {a:List Int} (h:oF ss p a) (g:v3 n ss) (hn:n<=7) (hp:0<=p/\p<=n):a.length<=8:=
 Nat.le_trans (iJ (n+1) h.nd fun x hx=>by have:=((h.mem x).mp hx).range g hp;omega) (by omega)
theorem oF.head {ss:List bb} {p:Int} {a:List Int} (h:oF ss p a):∃x r,a=x::r/\kD ss p x/\∀q,kD ss p q->x<=q:=by
 cases a with
 |nil=>exact absurd ((h.mem p).mpr .refl) (by simp)
 |cons x r=>
  refine⟨x,r,rfl,(h.mem x).mp List.mem_cons_self,fun q hq=> ?_⟩
  rcases List.mem_cons.mp ((h.mem q).mpr hq)with rfl|hq
  ·exact Int.le_refl _
  ·exact(List.pairwise_cons.mp h.srt).1 q hq
def bQ (B:Int->List Int) (ps:List Int):List (List Int):=(ps.filter fun p=>decide ((B p).head? =some p)).map B
def bD (l:List Int):D:= .tup (l.map .int)
theorem lY (B:Int->List Int) (a b:List Int):bQ B (a++b)=bQ B a++bQ B b:=by simp[bQ]
theorem lD (xs:List Int):uo [.lst (xs.map .int)]=some (.int xs.sum):=by
 show (fD (xs.map D.int)).map (fun ns=>D.int ns.sum)=_
 rw[pW]
 rfl
def rs (rises gi:List Int):Int:=(gi.map fun t=>rises.getD (t - 1).toNat 0).sum
theorem xD {rises:List Int} {t:Int} (h:1<=t/\t<=rises.length):L2.atI (rises.map D.int) (t - 1)=some (.int (rises.getD (t - 1).toNat 0)):=by
 have hk:(t - 1).toNat<rises.length:=by omega
 rw[C_,show t - 1=(((t - 1).toNat:Nat):Int) by omega,eL hk]
 show some (D.int rises[(t - 1).toNat])=_
 rw[show ((((t - 1).toNat:Nat):Int)).toNat=(t - 1).toNat by omega,List.getD_eq_getElem?_getD,List.getElem?_eq_getElem hk]
 rfl
def tJ (am:Int->Int) (ss:List bb) (t:Int):Int:=(ss.map fun r=>(if r.2.2=t then am r.1 else 0) - (if r.2.1=t then am r.1 else 0)).sum
theorem Dt {a0 a1 a2:Option Slot} {ps:List (Int×Int)} {tot tank:Int} {r:bb}:ko [a0,a1,a2,some (.val (.int tot)),some (.val (.dic (jW ps))),some (.val (.int tank)),some (.val (.int r.1)),some (.val (.int r.2.1)),some (.val (.int r.2.2))]
  = .ok (.nx [a0,a1,a2,some (.val (.int (tot+((if r.2.2=tank then nu ps r.1 else 0) - (if r.2.1=tank then nu ps r.1 else 0))))),some (.val (.dic (jW ps))),some (.val (.int tank)),some (.val (.int r.1)),some (.val (.int r.2.1)),some (.val (.int r.2.2))]):=by
 by_cases h1:r.2.2=tank<;>by_cases h2:r.2.1=tank<;>simp! [ko,oi,dq,h1,h2,xy]
 all_goals (refine congrArg (fun z:Int=>R.ok (bM.nx [a0,a1,a2,some (.val (.int z)),some (.val (.dic (jW ps))),some (.val (.int _)),some (.val (.int r.1)),some (.val (.int _)),some (.val (.int _))])) ?_;omega)
theorem Bx {a0 a1 a2:Option Slot} {ps:List (Int×Int)} {tank:Int}:∀(ss:List bb) (tot:Int) (x6 x7 x8:Option Slot),∃y6 y7 y8,bV (gC 3 (bi (gN 6) (bi (gN 7) (bi (gN 8) (gB))))) ko (ss.map av) [a0,a1,a2,some (.val (.int tot)),some (.val (.dic (jW ps))),some (.val (.int tank)),x6,x7,x8]
  = .ok (.nx [a0,a1,a2,some (.val (.int (tot+tJ (nu ps) ss tank))),some (.val (.dic (jW ps))),some (.val (.int tank)),y6,y7,y8])
 |[],tot,x6,x7,x8=>⟨x6,x7,x8,by simp[bV,tJ]⟩
 |r::ss,tot,x6,x7,x8=>by
  obtain⟨y6,y7,y8,e⟩:=Bx (a0:=a0) (a1:=a1) (a2:=a2) (ps:=ps) (tank:=tank) ss (tot+((if r.2.2=tank then nu ps r.1 else 0) - (if r.2.1=tank then nu ps r.1 else 0))) (some (.val (.int r.1))) (some (.val (.int r.2.1))) (some (.val (.int r.2.2)))
  refine⟨y6,y7,y8,?_⟩
  rw[List.map_cons,cI rfl Dt,e]
  have:tJ (nu ps) (r::ss) tank=(if r.2.2=tank then nu ps r.1 else 0) - (if r.2.1=tank then nu ps r.1 else 0)+tJ (nu ps) ss tank:=rfl
  rw[this,Int.add_assoc]
theorem xE {sd:D} {ss:List bb} {a1 a2:Option Slot} {ps:List (Int×Int)} (hs:sd= .lst (ss.map av)\/sd= .tup (ss.map av)):∀(gi:List Int) (tot:Int) (x5 x6 x7 x8:Option Slot),∃y5 y6 y7 y8,bV (gN 5) kq (gi.map .int) [some (.val sd),a1,a2,some (.val (.int tot)),some (.val (.dic (jW ps))),x5,x6,x7,x8]
  = .ok (.nx [some (.val sd),a1,a2,some (.val (.int (tot+(gi.map (tJ (nu ps) ss)).sum))),some (.val (.dic (jW ps))),y5,y6,y7,y8])
 |[],tot,x5,x6,x7,x8=>⟨x5,x6,x7,x8,by simp[bV]⟩
 |t::gi,tot,x5,x6,x7,x8=>by
  obtain⟨z6,z7,z8,e1⟩:=Bx (a0:=some (.val sd)) (a1:=a1) (a2:=a2) (ps:=ps) (tank:=t) ss tot x6 x7 x8
  obtain⟨y5,y6,y7,y8,e2⟩:=xE (a1:=a1) (a2:=a2) (ps:=ps) hs gi (tot+tJ (nu ps) ss t) (some (.val (.int t))) z6 z7 z8
  refine⟨y5,y6,y7,y8,?_⟩
  have hq:cz (ao 0) [some (.val sd),a1,a2,some (.val (.int tot)),some (.val (.dic (jW ps))),some (.val (.int t)),x6,x7,x8]= .ok (ss.map av):=by rcases hs with rfl|rfl<;>rfl
  have hb:kq [some (.val sd),a1,a2,some (.val (.int tot)),some (.val (.dic (jW ps))),some (.val (.int t)),x6,x7,x8]= .ok (.nx [some (.val sd),a1,a2,some (.val (.int (tot+tJ (nu ps) ss t))),some (.val (.dic (jW ps))),some (.val (.int t)),z6,z7,z8]):=by
   unfold kq
   rw[eC hq,e1]
  rw[List.map_cons,cI rfl hb,e2,List.map_cons,List.sum_cons,Int.add_assoc]
theorem v4 {sd pd gd:D} {ss:List bb} {ps:List (Int×Int)} {gi:List Int} (hs:sd= .lst (ss.map av)\/sd= .tup (ss.map av)) (hp:pd= .lst (ps.map xx)\/pd= .tup (ps.map xx)) (hg:gd= .lst (gi.map .int)\/gd= .tup (gi.map .int)):
  eA [sd,pd,gd]= .ok (.int ((gi.map (tJ (nu ps) ss)).sum)):=by
 obtain⟨y5,y6,y7,y8,e⟩:=xE (a1:=some (.val pd)) (a2:=some (.val gd)) (ps:=ps) hs gi 0 none none none none
 refine aL rfl ?_
 show o0 [some (.val sd),some (.val pd),some (.val gd),none,none,none,none,none,none]=_
 have hq:cz (ao 2) [some (.val sd),some (.val pd),some (.val gd),some (.val (.int 0)),some (.val (.dic (jW ps))),none,none,none,none]= .ok (gi.map .int):=by rcases hg with rfl|rfl<;>rfl
 unfold o0
 rw[au (ρ':=[some (.val sd),some (.val pd),some (.val gd),some (.val (.int 0)),none,none,none,none,none]) rfl,
  au (ρ':=[some (.val sd),some (.val pd),some (.val gd),some (.val (.int 0)),some (.val (.dic (jW ps))),none,none,none,none]) (pZ (mr (cJ rfl rfl) (j0 hp)) rfl)]
 rw[au (by rw[eC hq];exact e)]
 simp! [Int.zero_add]
def gO (ss:List bb) (rd:List (Int×Int)) (g:List Int):Int:=(g.map (tJ (nu rd) ss)).sum
def bB (B:Int->List Int) (rises:List Int) (ss:List bb) (rd:List (Int×Int)) (ts:List Int):List (List Int×Int×Int):=((bQ B ts).map fun g=>(g,rs rises g,gO ss rd g)).filter fun x=>decide (x.2.1≠x.2.2)
def nB (x:List Int×Int×Int):D:= .tup [bD x.1, .int x.2.1, .int x.2.2]
theorem q_ (B:Int->List Int) (rises:List Int) (ss:List bb) (rd:List (Int×Int)) (a b:List Int):bB B rises ss rd (a++b)=bB B rises ss rd a++bB B rises ss rd b:=by
 unfold bB
 rw[lY,List.map_append,List.filter_append]
theorem I_ {a b c d:D}:L2.atI [a,b,c,d] 2=some c:=by
 have:=eL (xs:=[a,b,c,d]) (k:=2) (by simp)
 simpa using this
theorem G5 {a b c d:D}:L2.atI [a,b,c,d] 3=some d:=by
 have:=eL (xs:=[a,b,c,d]) (k:=3) (by simp)
 simpa using this
theorem o3:aT=xx:=rfl
theorem qC {n:Nat} {ss:List bb} {rises:List Int} {rd:List (Int×Int)} {z0:Option Slot}:∀(gi:List Int) (x:Option Slot),(∀t∈gi,1<=t/\t<=rises.length)->
  fw (gN 1) jF (f2 bq (f2 bq (af 2) (fC (.int 2))) (f2 gM (af 1) (fC (.int 1)))) (gi.map .int) [z0,x,some (.val (aH n ss rises rd))]= .ok ((gi.map fun t=>rises.getD (t - 1).toNat 0).map .int)
 |[],x,_=>rfl
 |t::gi,x,h=>by
  have ih:=qC (n:=n) (ss:=ss) (rises:=rises) (rd:=rd) (z0:=z0) gi (some (.val (.int t))) fun q hq=>h q (List.mem_cons_of_mem _ hq)
  rw[List.map_cons,fw]
  simp only[gN,jF,ay,List.set_cons_succ,List.set_cons_zero,if_true,ih]
  simp! [aH,I_,xD (h t List.mem_cons_self),List.map_cons]
theorem By {n:Nat} {ss lo:List bb} {rises:List Int} {rd:List (Int×Int)} (g:v3 n lo) (hn:n<=7) (hr:rises.length=n) {B:Int->List Int} (hB:∀p:Int,0<=p/\p<=n->oF lo p (B p)) {x4 x5 x6:Option Slot} {acc:List (List Int×Int×Int)} {p:Int} (hp:1<=p/\p<=n) (hl:acc.length<=100):
  ∃(y4 y5 y6:Option Slot) (o:aq->bM),(o= .nx\/o= .cnt)/\cY [some (.val (aH n ss rises rd)),some (.own (.lst (acc.map nB))),some (.val (.lst (lo.map av))),some (.val (.int p)),x4,x5,x6]
   = .ok (o [some (.val (aH n ss rises rd)),some (.own (.lst ((acc++bB B rises ss rd [p]).map nB))),some (.val (.lst (lo.map av))),some (.val (.int p)),y4,y5,y6]):=by
 have hp0:0<=p/\p<=n:=⟨by omega,hp.2⟩
 obtain⟨seen,hf,hnd,hm⟩:=j4 (ss:=lo) (p:=p) (.inl rfl) g hn hp0
 have hb:d0 seen=B p:=(nA hm hnd).uniq (hB p hp0)
 have hlen:=(hB p hp0).len g hn hp0
 have hsl:seen.length<64:=by have:=(fS seen).length_eq;rw[hb]at this;omega
 have hso:cV [.lst (seen.map .int)]=some (.lst ((B p).map .int)):=by
  have:gF [.lst (seen.map .int)]=some (.lst ((B p).map .int)):=by
   show ((fD (seen.map D.int)).bind fun ns=>if ns.length<64 then some (D.lst ((d0 ns).map .int))else none)=_
   rw[pW]
   show (if seen.length<64 then some (D.lst ((d0 seen).map .int))else none)=_
   rw[if_pos hsl,hb]
  unfold cV
  rw[this]
 obtain⟨x,r,hx,ht,hle⟩:=(hB p hp0).head
 have l1:(acc.map nB).length<lim:=by rw[List.length_map];unfold lim;omega
 have hl3:(3:Nat)<=lim:=by decide
 have hix:L2.atI ((B p).map D.int) 0=some (.int x):=by rw[hx,List.map_cons];exact dF
 have h1:d5 cV (aa (ax dc 2 (aa (ao 2) (aa (ao 3) (ai)))) (ai)) [some (.val (aH n ss rises rd)),some (.own (.lst (acc.map nB))),some (.val (.lst (lo.map av))),some (.val (.int p)),x4,x5,x6]= .ok (.lst ((B p).map .int)):=by simp! [hf,hso]
 by_cases e:x=p
 ·have hle1:bQ B [p]=[B p]:=by simp[bQ,List.filter_cons,hx,e]
  have hin:∀t∈B p,1<=t/\t<=rises.length:=fun t ht'=>by
   have q:=((hB p hp0).mem t).mp ht'
   have:=hle t q
   have:=q.range g hp0
   omega
  have h2:d5 uo (aa (fL (eD ["_law_case_here","_law_found","_law_loose_here","_law_tank","_law_group","_law_rise","_law_came"] [(".0", .local),("_law_one", .local),("_law_case_here", .free)] (cz (ao 4)) (gN 1) (jF) (f2 bq (f2 bq (af 2) (fC (.int 2))) (f2 gM (af 1) (fC (.int 1)))))) (ai)) [some (.val (aH n ss rises rd)),some (.own (.lst (acc.map nB))),some (.val (.lst (lo.map av))),some (.val (.int p)),some (.val (.lst ((B p).map .int))),x5,x6]= .ok (.int (rs rises (B p))):=
   mr (cJ (sT (fq (ds:=(B p).map .int) (τ:=[none,none,some (.val (aH n ss rises rd))]) rfl (by rw[List.length_map];unfold lim;omega) rfl (qC (B p) none hin))) rfl) (lD _)
  have hnet:eA [.tup (ss.map av), .tup (rd.map aT), .lst ((B p).map .int)]= .ok (.int (gO ss rd (B p))):=v4 (.inr rfl) (.inr rfl) (.inl rfl)
  have h3:ax eA 3 (aa (f2 bq (af 0) (fC (.int 1))) (aa (f2 bq (af 0) (fC (.int 3))) (aa (ao 4) (ai)))) [some (.val (aH n ss rises rd)),some (.own (.lst (acc.map nB))),some (.val (.lst (lo.map av))),some (.val (.int p)),some (.val (.lst ((B p).map .int))),some (.val (.int (rs rises (B p)))),x6]= .ok (.int (gO ss rd (B p))):=by
   simp! [aH,i_,G5,hnet]
  refine⟨some (.val (.lst ((B p).map .int))),some (.val (.int (rs rises (B p)))),some (.val (.int (gO ss rd (B p)))), .nx, .inl rfl,?_⟩
  unfold cY
  rw[au (ρ':=[some (.val (aH n ss rises rd)),some (.own (.lst (acc.map nB))),some (.val (.lst (lo.map av))),some (.val (.int p)),some (.val (.lst ((B p).map .int))),x5,x6]) (pZ (g:=gN 4) h1 rfl)]
  rw[au (ρ':=[some (.val (aH n ss rises rd)),some (.own (.lst (acc.map nB))),some (.val (.lst (lo.map av))),some (.val (.int p)),some (.val (.lst ((B p).map .int))),x5,x6]) (by simp! [gN,yu,hix,e,not_true])]
  rw[au (ρ':=[some (.val (aH n ss rises rd)),some (.own (.lst (acc.map nB))),some (.val (.lst (lo.map av))),some (.val (.int p)),some (.val (.lst ((B p).map .int))),some (.val (.int (rs rises (B p)))),x6]) (pZ (g:=gN 5) h2 rfl)]
  rw[au (ρ':=[some (.val (aH n ss rises rd)),some (.own (.lst (acc.map nB))),some (.val (.lst (lo.map av))),some (.val (.int p)),some (.val (.lst ((B p).map .int))),some (.val (.int (rs rises (B p)))),some (.val (.int (gO ss rd (B p))))]) (pZ (g:=gN 6) h3 rfl)]
  by_cases hc:rs rises (B p)=gO ss rd (B p)
  ·have:bB B rises ss rd [p]=[]:=by simp[bB,hle1,hc]
   rw[this,List.append_nil]
   simp! [gN,hc,not_true]
  ·have:bB B rises ss rd [p]=[(B p,rs rises (B p),gO ss rd (B p))]:=by simp[bB,hle1,hc]
   rw[this,List.map_append]
   simp! [gN,hc,not_false_eq_true,l1,hl3,List.map_cons,List.map_nil,nB,bD]
 ·have hle1:bQ B [p]=[]:=by simp[bQ,List.filter_cons,hx,e]
  have:bB B rises ss rd [p]=[]:=by simp[bB,hle1]
  rw[this,List.append_nil]
  refine⟨some (.val (.lst ((B p).map .int))),x5,x6, .cnt, .inr rfl,?_⟩
  unfold cY
  rw[au (ρ':=[some (.val (aH n ss rises rd)),some (.own (.lst (acc.map nB))),some (.val (.lst (lo.map av))),some (.val (.int p)),some (.val (.lst ((B p).map .int))),x5,x6]) (pZ (g:=gN 4) h1 rfl)]
  simp! [gN,yu,hix,e,not_false_eq_true]
theorem v5 {n:Nat} {ss lo:List bb} {rises:List Int} {rd:List (Int×Int)} (g:v3 n lo) (hn:n<=7) (hr:rises.length=n) {B:Int->List Int} (hB:∀p:Int,0<=p/\p<=n->oF lo p (B p)):∀(ts:List Int) (acc:List (List Int×Int×Int)) (x3 x4 x5 x6:Option Slot),(∀t∈ts,1<=t/\t<=n)->acc.length+ts.length<=100->
  ∃y3 y4 y5 y6,bV (gN 3) cY (ts.map .int) [some (.val (aH n ss rises rd)),some (.own (.lst (acc.map nB))),some (.val (.lst (lo.map av))),x3,x4,x5,x6]
   = .ok (.nx [some (.val (aH n ss rises rd)),some (.own (.lst ((acc++bB B rises ss rd ts).map nB))),some (.val (.lst (lo.map av))),y3,y4,y5,y6])
 |[],acc,x3,x4,x5,x6,_,_=>⟨x3,x4,x5,x6,by simp[bV,bB,bQ]⟩
 |t::ts,acc,x3,x4,x5,x6,ht,hl=>by
  obtain⟨z4,z5,z6,o,ho,e1⟩:=By (ss:=ss) (rd:=rd) g hn hr hB (x4:=x4) (x5:=x5) (x6:=x6) (acc:=acc) (p:=t) (ht t List.mem_cons_self) (by simp at hl;omega)
  have hcl:(bB B rises ss rd [t]).length<=1:=by
   unfold bB bQ
   refine Nat.le_trans (List.length_filter_le _ _) ?_
   rw[List.length_map,List.length_map]
   exact List.length_filter_le _ _
  obtain⟨y3,y4,y5,y6,e2⟩:=v5 (ss:=ss) (rd:=rd) g hn hr hB ts (acc++bB B rises ss rd [t]) (some (.val (.int t))) z4 z5 z6 (fun q hq=>ht q (List.mem_cons_of_mem _ hq)) (by simp at hl ⊢;omega)
  refine⟨y3,y4,y5,y6,?_⟩
  have ec:bB B rises ss rd (t::ts)=bB B rises ss rd [t]++bB B rises ss rd ts:=q_ B rises ss rd [t] ts
  rw[ec,<-List.append_assoc,List.map_cons]
  rcases ho with rfl|rfl
  ·rw[cI rfl e1,e2]
  ·rw[uv rfl e1,e2]
def bC (n:Nat):List Int:=(List.range n).map fun k:Nat=>1+(k:Int)
theorem qD {n:Nat} {t:Int}:t∈bC n<->1<=t/\t<=n:=by
 unfold bC
 rw[List.mem_map]
 constructor
 ·rintro⟨k,hk,rfl⟩
  have:=List.mem_range.mp hk
  omega
 ·intro h
  exact⟨(t - 1).toNat,List.mem_range.mpr (by omega),by omega⟩
theorem tK (n:Nat):iu 1 ((n:Int)+1)=(bC n).map .int:=by
 unfold iu bC
 rw[show ((n:Int)+1 - 1).toNat=n by omega,List.map_map]
 rfl
theorem Bz {n:Nat} {lo:List bb} (g:v3 n lo) (hn:n<=7):∃B:Int->List Int,∀p:Int,0<=p/\p<=n->oF lo p (B p):=by
 classical
 refine⟨fun p=>if h:0<=p/\p<=n then d0 (j4 (ss:=lo) (sd:= .lst (lo.map av)) (.inl rfl) g hn h).choose else [],fun p h=> ?_⟩
 have:=(j4 (ss:=lo) (sd:= .lst (lo.map av)) (.inl rfl) g hn h).choose_spec
 simp only[dif_pos h]
 exact nA this.2.2 this.2.1
theorem d6.loose {n:Nat} {ss:List bb} {rises:List Int} {rd:List (Int×Int)} (c:d6 n ss rises rd):Good n (bA ss rd):=
 ⟨c.good.inc.sublist List.filter_sublist,fun r hr=>c.good.num r ((List.mem_filter.mp hr).1),fun r hr=>c.good.src r ((List.mem_filter.mp hr).1),fun r hr=>c.good.tgt r ((List.mem_filter.mp hr).1),fun r hr=>c.good.ne r ((List.mem_filter.mp hr).1)⟩
theorem BA {n:Nat} {ss:List bb} {rises:List Int} {rd:List (Int×Int)} (c:d6 n ss rises rd) {B:Int->List Int} (hB:∀p:Int,0<=p/\p<=n->oF (bA ss rd) p (B p)):
  de [aH n ss rises rd]= .ok (.tup ((bB B rises ss rd (bC n)).map nB)):=by
 have hn:=c.n7
 have h12:=c.len
 have h10:=c.ten
 obtain⟨y3,y4,y5,y6,e⟩:=v5 (ss:=ss) (rd:=rd) (xB c.loose) hn c.rsl hB (bC n) [] none none none none (fun t ht=>qD.mp ht) (by simp[bC];omega)
 rw[List.nil_append]at e
 refine aL rfl ?_
 show gK [some (.val (aH n ss rises rd)),none,none,none,none,none,none]=_
 have hl:=j3 (n:=n) (ss:=ss) (rs:=rises) (rd:=rd) (by omega) (by omega)
 have h0:(0:Nat)<=lim:=Nat.zero_le _
 unfold gK
 rw[au (ρ':=[some (.val (aH n ss rises rd)),some (.own (.lst [])),none,none,none,none,none]) (by simp! []),
  au (ρ':=[some (.val (aH n ss rises rd)),some (.own (.lst [])),some (.val (.lst ((bA ss rd).map av))),none,none,none,none]) (by simp! [hl])]
 have hq:jc (aa (fC (.int 1)) (aa (f2 c_ (f2 bq (af 0) (fC (.int 0))) (fC (.int 1))) (ai))) [some (.val (aH n ss rises rd)),some (.own (.lst [])),some (.val (.lst ((bA ss rd).map av))),none,none,none,none]= .ok ((bC n).map .int):=by
  have hb:(1:Int).natAbs<=lim/\((n:Int)+1).natAbs<=lim:=⟨by decide,by unfold lim;omega⟩
  rw[<-tK]
  simp! [jc,aH,dF,hb,and_self]
 rw[au (by rw[eC hq];exact e)]
 simp! []
section
variable {n:Nat} {ss:List bb} {rs:List Int} {rd:List (Int×Int)}
theorem oG (c:d6 n ss rs rd) (k:Int):bd [aF n ss rs rd, .int k]= .ok (.tup (((bA ss rd).filter fun r=>decide (r.1≠k)).map av)):=by
 refine aL rfl (jq (mr (cJ (sT (fq (ds:=(bA ss rd).map av) (τ:=[none,none,some (.val (.int k))]) ?_ ?_ rfl (ku (e:=av) (p:=fun r:bb=>decide (r.1≠k)) (bA ss rd) ?_ ?_ _))) rfl) rfl))
 ·have e:=p8 (m:="without_meter") (k:=1) (r:=bj) (fo:=ao 0) (fs:=ai) (ρ:=[some (.val (aF n ss rs rd)),some (.val (.int k))]) (ds:=[]) rfl rfl rfl (nw c)
  show cz _ [some (.val (aF n ss rs rd)),some (.val (.int k))]=_
  unfold cz
  simp only[e,ay]
 ·have:=c.len
  have h2:(bA ss rd).length<=ss.length:=List.length_filter_le _ _
  simp[lim];omega
 ·intro r hr
  simp! [av,dF,ne_eq,decide_not]
 ·intro r hr _
  rfl
end
def bf (ss:List bb) (rd:List (Int×Int)) (k:Int):List bb:=(bA ss rd).filter fun r=>decide (r.1≠k)
section
variable {n:Nat} {ss:List bb} {rs:List Int} {rd:List (Int×Int)}
theorem kx (k:Int):(bf ss rd k).Sublist ss:=List.Sublist.trans List.filter_sublist List.filter_sublist
theorem d6.others (c:d6 n ss rs rd) (k:Int):v3 n (bf ss rd k):=⟨fun r hr=>c.good.src r ((kx k).subset hr),fun r hr=>c.good.tgt r ((kx k).subset hr)⟩
theorem d6.olen (c:d6 n ss rs rd) (k:Int):(bf ss rd k).length<=12:=Nat.le_trans (kx k).length_le c.len
theorem d6.ond (c:d6 n ss rs rd) (k:Int):((bf ss rd k).map (·.1)).Nodup:=List.Nodup.sublist ((kx k).map _) c.good.nd
theorem BB {r:bb}:L2.atI [D.int r.1, .int r.2.1, .int r.2.2] 2=some (.int r.2.2):=by
 have:=eL (xs:=[D.int r.1, .int r.2.1, .int r.2.2]) (k:=2) (by simp)
 simpa using this
end
abbrev lE:=Int×Option (Int×Int×Int)
def r8:Option (Int×Int×Int)->D
 |none=> .non
 |some (u,n,d)=> .tup [.int u, .tup [.int n, .int d]]
def cL (es:List lE):List (bx×D):=es.map fun e=>((Sum.inl e.1:bx),r8 e.2)
def im (es:List lE):List Int:=es.map (·.1)
theorem v6 (es:List lE) (x:Int):(bW (cL es) (Sum.inl x)).isSome=decide (x∈im es):=by
 induction es with
 |nil=>rfl
 |cons e r ih=>
  show (bW ((Sum.inl e.1,r8 e.2)::cL r) (Sum.inl x)).isSome=_
  by_cases h:e.1=x
  ·have:bW ((Sum.inl e.1,r8 e.2)::cL r) (Sum.inl x)=some (r8 e.2):=by simp[bW,h]
   rw[this]
   simp[im,h]
  ·have h1:bW ((Sum.inl e.1,r8 e.2)::cL r) (Sum.inl x)=bW (cL r) (Sum.inl x):=by simp[bW,h]
   rw[h1,ih]
   show decide (x∈im r)=decide (x∈e.1::im r)
   rw[decide_eq_decide]
   exact⟨List.mem_cons_of_mem _,fun z=>(List.mem_cons.mp z).resolve_left (Ne.symm h)⟩
theorem BC (es:List lE) (x:Int) (o:Option (Int×Int×Int)) (h:x∉im es):lI (cL es) (Sum.inl x) (r8 o)=cL (es++[(x,o)]):=by
 unfold lI
 rw[if_neg]
 ·simp[cL]
 ·intro z
  obtain⟨kv,h1,h2⟩:=List.any_eq_true.mp z
  obtain⟨e,he,rfl⟩:=List.mem_map.mp h1
  have:e.1=x:=by simpa using h2
  exact h (List.mem_map.mpr ⟨e,he,this⟩)
theorem za (es:List lE):i4 (cL es)=some (im es):=by
 induction es with
 |nil=>rfl
 |cons e r ih=>show (i4 (cL r)).map (e.1::·)=_;rw[ih];rfl
def j5 (p:Int) (r:bb):Option bb:=if r.2.1=p then some (r.1,1,r.2.2)else if r.2.2=p then some (r.1,-1,r.2.1)else none
def df (ss:List bb) (p:Int):List bb:=ss.filterMap (j5 p)
theorem Du {a0:Option Slot} {p:Int} {acc:List bb} {r:bb} (hl:acc.length<=1000):
  ef [a0,some (.val (.int p)),some (.own (.lst (acc.map av))),some (.val (.int r.1)),some (.val (.int r.2.1)),some (.val (.int r.2.2))]
   = .ok (.nx [a0,some (.val (.int p)),some (.own (.lst ((acc++(j5 p r).toList).map av))),some (.val (.int r.1)),some (.val (.int r.2.1)),some (.val (.int r.2.2))]):=by
 have l1:(acc.map av).length<lim:=by rw[List.length_map];unfold lim;omega
 have l3:(3:Nat)<=lim:=by decide
 unfold j5
 by_cases h1:r.2.1=p
 ·simp! [ef,h1,l1,l3,Option.toList,List.map_append,List.map_cons,List.map_nil,av]
 ·by_cases h2:r.2.2=p
  ·simp! [ef,h1,h2,l1,l3,Option.toList,List.map_append,List.map_cons,List.map_nil,av]
  ·simp! [ef,h1,h2,Option.toList,List.append_nil]
theorem xF {a0:Option Slot} {p:Int}:∀(ss:List bb) (acc:List bb) (x3 x4 x5:Option Slot),acc.length+ss.length<=1000->
  ∃y3 y4 y5,bV (gC 3 (bi (gN 3) (bi (gN 4) (bi (gN 5) (gB))))) ef (ss.map av) [a0,some (.val (.int p)),some (.own (.lst (acc.map av))),x3,x4,x5]
   = .ok (.nx [a0,some (.val (.int p)),some (.own (.lst ((acc++df ss p).map av))),y3,y4,y5])
 |[],acc,x3,x4,x5,_=>⟨x3,x4,x5,by simp[bV,df]⟩
 |r::ss,acc,x3,x4,x5,hl=>by
  simp only[List.length_cons]at hl
  have h1:(j5 p r).toList.length<=1:=by cases j5 p r<;>simp
  obtain⟨y3,y4,y5,e⟩:=xF (a0:=a0) (p:=p) ss (acc++(j5 p r).toList) (some (.val (.int r.1))) (some (.val (.int r.2.1))) (some (.val (.int r.2.2))) (by rw[List.length_append];omega)
  refine⟨y3,y4,y5,?_⟩
  rw[List.map_cons,cI rfl (Du (by omega)),e]
  have:df (r::ss) p=(j5 p r).toList++df ss p:=by
   unfold df
   rw[List.filterMap_cons]
   cases j5 p r<;>rfl
  rw[this,List.append_assoc]
theorem wD {ss:List bb} {p:Int} {sd:D} (hsd:sd= .lst (ss.map av)\/sd= .tup (ss.map av)) (hl:ss.length<=1000):fu [sd, .int p]= .ok (.lst ((df ss p).map av)):=by
 obtain⟨y3,y4,y5,e⟩:=xF (a0:=some (.val sd)) (p:=p) ss [] none none none (by simpa using hl)
 have hq:cz (ao 0) [some (.val sd),some (.val (.int p)),some (.own (.lst [])),none,none,none]= .ok (ss.map av):=by rcases hsd with rfl|rfl<;>rfl
 refine aL rfl ?_
 show kj [some (.val sd),some (.val (.int p)),none,none,none,none]=_
 unfold kj
 rw[au (ρ':=[some (.val sd),some (.val (.int p)),some (.own (.lst [])),none,none,none]) (by simp! []),au ((eC hq).trans e)]
 simp! []
theorem zb (ss:List bb) (p:Int):(df ss p).length<=ss.length:=List.length_filterMap_le _ _
def Dv (ss:List bb) (u n d q:Int):Prop:=∃r∈ss,r.1=n/\((d=1/\r.2.1=u/\r.2.2=q)\/(d= -1/\r.2.2=u/\r.2.1=q))
theorem G6 {ss:List bb} {p:Int} {st:bb} (h:st∈df ss p):Dv ss p st.1 st.2.1 st.2.2:=by
 obtain⟨r,hr,e⟩:=List.mem_filterMap.mp h
 unfold j5 at e
 split at e
 ·rename_i h1
  cases e
  exact⟨r,hr,rfl, .inl ⟨rfl,h1,rfl⟩⟩
 ·split at e
  ·rename_i h1 h2
   cases e
   exact⟨r,hr,rfl, .inr ⟨rfl,h2,rfl⟩⟩
  ·cases e
theorem Dv.adj {ss:List bb} {u n d q:Int} (h:Dv ss u n d q):C0 ss u q:=by
 obtain⟨r,hr,_,h|h⟩:=h
 ·exact⟨r,hr, .inl ⟨h.2.1,h.2.2⟩⟩
 ·exact⟨r,hr, .inr ⟨h.2.1,h.2.2⟩⟩
theorem zc {ss:List bb} {p c:Int} (h:C0 ss p c):c=p\/∃st∈df ss p,st.2.2=c:=by
 obtain⟨r,hr,h|h⟩:=h
 ·exact .inr ⟨(r.1,1,r.2.2),List.mem_filterMap.mpr ⟨r,hr,by unfold j5;rw[if_pos h.1]⟩,h.2⟩
 ·by_cases e:r.2.1=p
  ·exact .inl (by rw[<-h.2];exact e)
  ·exact .inr ⟨(r.1,-1,r.2.1),List.mem_filterMap.mpr ⟨r,hr,by unfold j5;rw[if_neg e,if_pos h.1]⟩,h.2⟩
inductive j6 (ss:List bb) (p:Int):List lE->Prop
 |one:j6 ss p [(p,none)]
 |snoc {es:List lE} {q u n d:Int}:j6 ss p es->u∈im es->q∉im es->Dv ss u n d q->j6 ss p (es++[(q,some (u,n,d))])
theorem fN (es:List lE) (e:lE):im (es++[e])=im es++[e.1]:=by simp[im]
theorem j6.nd {ss:List bb} {p:Int} {es:List lE} (h:j6 ss p es):(im es).Nodup:=by
 induction h with
 |one=>simp[im]
 |snoc _ _ hq _ ih=>
  rw[fN]
  refine List.nodup_append.mpr ⟨ih,by simp,fun a ha b hb=> ?_⟩
  have:b=_:=List.mem_singleton.mp hb
  subst this
  intro z;subst z;exact hq ha
theorem j6.tied {ss:List bb} {p:Int} {es:List lE} (h:j6 ss p es):∀q∈im es,kD ss p q:=by
 induction h with
 |one=>
  intro q hq
  have:q=p:=by simpa[im]using hq
  rw[this];exact .refl
 |snoc _ hu _ hs ih=>
  intro x hx
  rw[fN]at hx
  rcases List.mem_append.mp hx with hx|hx
  ·exact ih x hx
  ·have:x=_:=List.mem_singleton.mp hx
   rw[this]
   exact .step (ih _ hu) hs.adj
theorem j6.here {ss:List bb} {p:Int} {es:List lE} (h:j6 ss p es):p∈im es:=by
 induction h with
 |one=>simp[im]
 |snoc _ _ _ _ ih=>rw[fN];exact List.mem_append_left _ ih
def ky (u:Int) (s:List lE×List Int) (st:bb):List lE×List Int:=if st.2.2∈im s.1 then s else (s.1++[(st.2.2,some (u,st.1,st.2.1))],s.2++[st.2.2])
def gk (u:Int) (sts:List bb) (s:List lE×List Int):List lE×List Int:=sts.foldl (ky u) s
theorem Dw {a0 a1:Option Slot} {u:Int} {es:List lE} {w:List Int} {st:bb} (h1:es.length<=1000) (h2:w.length<=1000):
  dA [a0,a1,some (.own (.dic (cL es))),some (.own (.lst (w.map .int))),some (.val (.int u)),some (.val (.int st.1)),some (.val (.int st.2.1)),some (.val (.int st.2.2))]
   = .ok (.nx [a0,a1,some (.own (.dic (cL (ky u (es,w) st).1))),some (.own (.lst ((ky u (es,w) st).2.map .int))),some (.val (.int u)),some (.val (.int st.1)),some (.val (.int st.2.1)),some (.val (.int st.2.2))]):=by
 have hin:cG true (.int st.2.2) (.dic (cL es))=some (.bl (!decide (st.2.2∈im es))):=by
  show some (D.bl (if true then !(bW (cL es) (Sum.inl st.2.2)).isSome else (bW (cL es) (Sum.inl st.2.2)).isSome))=_
  rw[v6];rfl
 have l1:(w.map D.int).length<lim:=by rw[List.length_map];unfold lim;omega
 have l2:(cL es).length<lim:=by unfold cL;rw[List.length_map];unfold lim;omega
 have l3:(2:Nat)<=lim:=by decide
 unfold ky
 by_cases h:st.2.2∈im es
 ·simp! [dA,hin,h]
 ·have hp:=BC es st.2.2 (some (u,st.1,st.2.1)) h
  simp only[r8]at hp
  simp! [dA,hin,h,pT,dq,l1,l2,l3,hp,List.map_append,List.map_cons,List.map_nil]
theorem v7 (u:Int) (s:List lE×List Int) (st:bb):(ky u s st).1.length<=s.1.length+1/\(ky u s st).2.length<=s.2.length+1/\(ky u s st).1.length+s.2.length=s.1.length+(ky u s st).2.length/\s.1.length<=(ky u s st).1.length:=by
 unfold ky
 split
 ·exact⟨by omega,by omega,by omega,by omega⟩
 ·simp;omega
theorem xG {a0 a1:Option Slot} {u:Int}:∀(sts:List bb) (s:List lE×List Int) (x5 x6 x7:Option Slot),s.1.length+sts.length<=500->s.2.length+sts.length<=500->
  ∃y5 y6 y7,bV (gC 3 (bi (gN 5) (bi (gN 6) (bi (gN 7) (gB))))) dA (sts.map av) [a0,a1,some (.own (.dic (cL s.1))),some (.own (.lst (s.2.map .int))),some (.val (.int u)),x5,x6,x7]
   = .ok (.nx [a0,a1,some (.own (.dic (cL (gk u sts s).1))),some (.own (.lst ((gk u sts s).2.map .int))),some (.val (.int u)),y5,y6,y7])
 |[],s,x5,x6,x7,_,_=>⟨x5,x6,x7,rfl⟩
 |st::sts,s,x5,x6,x7,h1,h2=>by
  simp only[List.length_cons]at h1 h2
  obtain⟨q1,q2,_,_⟩:=v7 u s st
  obtain⟨y5,y6,y7,e⟩:=xG (a0:=a0) (a1:=a1) (u:=u) sts (ky u s st) (some (.val (.int st.1))) (some (.val (.int st.2.1))) (some (.val (.int st.2.2))) (by omega) (by omega)
  exact⟨y5,y6,y7,by rw[List.map_cons,cI rfl (Dw (by omega) (by omega)),e];rfl⟩
structure zl (ss:List bb) (p:Int) (s:List lE×List Int) (skip:Int->Prop):Prop where
 ok:j6 ss p s.1
 sub:∀x∈s.2,x∈im s.1
 cl:∀b∈im s.1,b∉s.2->¬skip b->∀c,C0 ss b c->c∈im s.1
theorem zl.add {ss:List bb} {p:Int} {s:List lE×List Int} {skip:Int->Prop} (b:zl ss p s skip) {u:Int} (hu:u∈im s.1) {st:bb} (hs:Dv ss u st.1 st.2.1 st.2.2):
  zl ss p (ky u s st) skip/\st.2.2∈im (ky u s st).1/\∀x∈im s.1,x∈im (ky u s st).1:=by
 unfold ky
 split
 ·rename_i h
  exact⟨b,h,fun x hx=>hx⟩
 ·rename_i h
  refine⟨⟨.snoc b.ok hu h hs,fun x hx=> ?_,fun x hx hw hk c hc=> ?_⟩,by rw[fN];exact List.mem_append_right _ (by simp),fun x hx=>by rw[fN];exact List.mem_append_left _ hx⟩
  ·rw[fN]
   rcases List.mem_append.mp hx with hx|hx
   ·exact List.mem_append_left _ (b.sub x hx)
   ·exact List.mem_append_right _ hx
  ·rw[fN]at hx ⊢
   rcases List.mem_append.mp hx with hx|hx
   ·exact List.mem_append_left _ (b.cl x hx (fun z=>hw (List.mem_append_left _ z)) hk c hc)
   ·exact absurd (List.mem_append_right _ hx) hw
theorem zl.all {ss:List bb} {p u:Int} {skip:Int->Prop}:∀{sts:List bb} {s:List lE×List Int},(∀st∈sts,Dv ss u st.1 st.2.1 st.2.2)->u∈im s.1->zl ss p s skip->
  zl ss p (gk u sts s) skip/\(∀st∈sts,st.2.2∈im (gk u sts s).1)/\∀x∈im s.1,x∈im (gk u sts s).1
 |[],s,_,_,b=>⟨b,fun st h=>by(cases h),fun x hx=>hx⟩
 |st::sts,s,h,hu,b=>by
  obtain⟨b1,b2,b3⟩:=b.add hu (h st List.mem_cons_self)
  obtain⟨c1,c2,c3⟩:=zl.all (sts:=sts) (fun x hx=>h x (List.mem_cons_of_mem _ hx)) (b3 u hu) b1
  refine⟨c1,fun x hx=> ?_,fun x hx=>c3 x (b3 x hx)⟩
  rcases List.mem_cons.mp hx with rfl|hx
  ·exact c3 _ b2
  ·exact c2 x hx
theorem qE (u:Int):∀(sts:List bb) (s:List lE×List Int),(gk u sts s).1.length+s.2.length=s.1.length+(gk u sts s).2.length/\s.1.length<=(gk u sts s).1.length
 |[],s=>⟨rfl,Nat.le_refl _⟩
 |st::sts,s=>by
  obtain⟨_,_,h3,h4⟩:=v7 u s st
  obtain⟨g1,g2⟩:=qE u sts (ky u s st)
  show (gk u sts (ky u s st)).1.length+s.2.length=s.1.length+(gk u sts (ky u s st)).2.length/\s.1.length<=(gk u sts (ky u s st)).1.length
  omega
theorem BD {n:Nat} {ss:List bb} {p:Int} {sd:D} (hsd:sd= .lst (ss.map av)\/sd= .tup (ss.map av)) (hl:ss.length<=100) (g:v3 n ss) (hn:n<=7) (hp:0<=p/\p<=n) (a1:Option Slot):
  ∀(m:Nat) (s:List lE×List Int) (x4 x5 x6 x7:Option Slot),zl ss p s (fun _=>False)->9+s.2.length<=m+s.1.length->s.2.length<=s.1.length->
  ∃es y4 y5 y6 y7,cS (fT (f2 ui (d5 fc (aa (af 3) (ai))) (fC (.int 0)))) dB (m+1) [some (.val sd),a1,some (.own (.dic (cL s.1))),some (.own (.lst (s.2.map .int))),x4,x5,x6,x7]
   = .ok (.nx [some (.val sd),a1,some (.own (.dic (cL es))),some (.own (.lst [])),y4,y5,y6,y7])/\j6 ss p es/\∀b∈im es,∀c,C0 ss b c->c∈im es:=by
 have bound:∀es,j6 ss p es->es.length<=8:=fun es h=>by
  have:=iJ (n+1) h.nd fun x hx=>by have:=(h.tied x hx).range g hp;omega
  unfold im at this
  rw[List.length_map]at this
  omega
 intro m
 induction m with
 |zero=>intro s x4 x5 x6 x7 b h _;have:=bound _ b.ok;omega
 |succ m ih=>
  intro s x4 x5 x6 x7 b h hws
  obtain⟨es,w⟩:=s
  cases w with
  |nil=>
   refine⟨es,x4,x5,x6,x7,nV rfl,b.ok,fun q hq c hc=>b.cl q hq (by simp) (fun z=>z) c hc⟩
  |cons u w=>
   have hu:u∈im es:=b.sub u List.mem_cons_self
   have b1:zl ss p (es,w) (fun q=>q=u):=⟨b.ok,fun x hx=>b.sub x (List.mem_cons_of_mem _ hx),fun q hq hw hk c hc=>b.cl q hq (fun z=>(List.mem_cons.mp z).elim hk hw) (fun z=>z) c hc⟩
   obtain⟨c1,c2,c3⟩:=zl.all (sts:=df ss u) (fun st hst=>G6 hst) hu b1
   have hlen:=qE u (df ss u) (es,w)
   have hb8:es.length<=8:=bound _ b.ok
   have hb8':=bound _ c1.ok
   have hsl:=zb ss u
   simp only[List.length_cons]at h hws
   have hw9:w.length<=200:=by omega
   obtain⟨y5,y6,y7,e⟩:=xG (a0:=some (.val sd)) (a1:=a1) (u:=u) (df ss u) (es,w) x5 x6 x7 (by show es.length+_<=500;omega) (by show w.length+_<=500;omega)
   have hpop:As 4 3 (fC (.int 0)) [some (.val sd),a1,some (.own (.dic (cL es))),some (.own (.lst ((u::w).map .int))),x4,x5,x6,x7]= .ok (.nx [some (.val sd),a1,some (.own (.dic (cL es))),some (.own (.lst (w.map .int))),some (.val (.int u)),x5,x6,x7]):=by
    have hi:seqIndex? 0 ((w.map D.int).length+1)=some 0:=by
     unfold seqIndex?
     simp
    have hz:Int.natAbs 0<=lim:=Nat.zero_le _
    simp! [As,hi,hz,List.map_cons,List.eraseIdx_cons_zero]
   have hcall:cz (ax fu 2 (aa (ao 0) (aa (ao 4) (ai)))) [some (.val sd),a1,some (.own (.dic (cL es))),some (.own (.lst (w.map .int))),some (.val (.int u)),x5,x6,x7]= .ok ((df ss u).map av):=by
    simp! [wD hsd (show ss.length<=1000 by omega)]
   have hbody:dB [some (.val sd),a1,some (.own (.dic (cL es))),some (.own (.lst ((u::w).map .int))),x4,x5,x6,x7]= .ok (.nx [some (.val sd),a1,some (.own (.dic (cL (gk u (df ss u) (es,w)).1))),some (.own (.lst ((gk u (df ss u) (es,w)).2.map .int))),some (.val (.int u)),y5,y6,y7]):=by
    unfold dB
    rw[au hpop,eC hcall,e]
   have htest:fT (f2 ui (d5 fc (aa (af 3) (ai))) (fC (.int 0))) [some (.val sd),a1,some (.own (.dic (cL es))),some (.own (.lst ((u::w).map .int))),x4,x5,x6,x7]= .ok true:=by
    simp! [List.map_cons]
    simp
   have b2:zl ss p (gk u (df ss u) (es,w)) (fun _=>False):=⟨c1.ok,c1.sub,fun q hq hw _ c hc=>by
    by_cases hqu:q=u
    ·subst hqu
     rcases zc hc with rfl|⟨st,hst,rfl⟩
     ·exact hq
     ·exact c2 st hst
    ·exact c1.cl q hq hw hqu c hc⟩
   obtain⟨es',z4,z5,z6,z7,e',r1,r2⟩:=ih (gk u (df ss u) (es,w)) (some (.val (.int u))) y5 y6 y7 b2 (by
    have:=hlen.1
    simp only at this
    omega) (by
    have:=hlen.1
    simp only at this
    omega)
   exact⟨es',z4,z5,z6,z7,by rw[mw htest hbody];exact e',r1,r2⟩
theorem nD {n:Nat} {ss:List bb} {p:Int} {sd:D} (hsd:sd= .lst (ss.map av)\/sd= .tup (ss.map av)) (hl:ss.length<=100) (g:v3 n ss) (hn:n<=7) (hp:0<=p/\p<=n):
  ∃es:List lE,bX [sd, .int p]= .ok (.dic (cL es))/\j6 ss p es/\∀q,q∈im es<->kD ss p q:=by
 have b0:zl ss p ([(p,none)],[p]) (fun _=>False):=⟨.one,fun x hx=>by simpa[im]using hx,fun b hb hw=>absurd (by simpa[im]using hb) hw⟩
 obtain⟨es,y4,y5,y6,y7,e,h1,h2⟩:=BD hsd hl g hn hp (some (.val (.int p))) 9 ([(p,none)],[p]) none none none none b0 (by simp) (by simp)
 refine⟨es,?_,h1,fun q=>⟨h1.tied q,fun h=>qz (S:=fun q=>q∈im es) h1.here (fun b c hb=>h2 b hb c) h⟩⟩
 refine aL rfl ?_
 show iw [some (.val sd),some (.val (.int p)),none,none,none,none,none,none]=_
 have e':cS (fT (f2 ui (d5 fc (aa (af 3) (ai))) (fC (.int 0)))) dB 100 [some (.val sd),some (.val (.int p)),some (.own (.dic [(Sum.inl p, .non)])),some (.own (.lst [.int p])),none,none,none,none]=_:=iP 90 e
 have hl1:(1:Nat)<=lim:=by decide
 unfold iw
 rw[au (ρ':=[some (.val sd),some (.val (.int p)),some (.own (.dic [(Sum.inl p, .non)])),none,none,none,none,none]) (by simp! [w6,mq,dq];rfl),
  au (ρ':=[some (.val sd),some (.val (.int p)),some (.own (.dic [(Sum.inl p, .non)])),some (.own (.lst [.int p])),none,none,none,none]) (by simp! [hl1]),au e']
 simp! []
theorem qF (B:Int->List Int) (a:List Int):(bQ B a).length<=a.length:=by
 unfold bQ
 rw[List.length_map]
 exact List.length_filter_le _ _
def tbl (ps:List Int):List (bx×D):=ps.map fun p=>((Sum.inl p:bx),D.bl true)
theorem Dx (ps:List Int) (x:Int):(bW (tbl ps) (Sum.inl x)).isSome=decide (x∈ps):=by
 induction ps with
 |nil=>rfl
 |cons e r ih=>
  show (bW ((Sum.inl e,D.bl true)::tbl r) (Sum.inl x)).isSome=_
  by_cases h:e=x
  ·have:bW ((Sum.inl e,D.bl true)::tbl r) (Sum.inl x)=some (D.bl true):=by simp[bW,h]
   rw[this]
   simp[h]
  ·have h1:bW ((Sum.inl e,D.bl true)::tbl r) (Sum.inl x)=bW (tbl r) (Sum.inl x):=by simp[bW,h]
   rw[h1,ih,decide_eq_decide]
   exact⟨List.mem_cons_of_mem _,fun z=>(List.mem_cons.mp z).resolve_left (Ne.symm h)⟩
theorem Dy (ps:List Int) (x:Int) (h:x∉ps):lI (tbl ps) (Sum.inl x) (D.bl true)=tbl (ps++[x]):=by
 unfold lI
 rw[if_neg]
 ·simp[tbl]
 ·intro z
  obtain⟨kv,h1,h2⟩:=List.any_eq_true.mp z
  obtain⟨e,he,rfl⟩:=List.mem_map.mp h1
  have:e=x:=by simpa using h2
  exact h (this▸he)
theorem s9 {a0 a1 a2 a4 a5:Option Slot}:∀(xs pl:List Int) (x6:Option Slot),(pl++xs).Nodup->(pl++xs).length<=1000->
  ∃y6,bV (gN 6) fH (xs.map .int) [a0,a1,a2,some (.own (.dic (tbl pl))),a4,a5,x6]= .ok (.nx [a0,a1,a2,some (.own (.dic (tbl (pl++xs)))),a4,a5,y6])
 |[],pl,x6,_,_=>⟨x6,by simp[bV]⟩
 |x::xs,pl,x6,hn,hl=>by
  have hx:x∉pl:=fun z=>by
   obtain⟨_,_,h⟩:=List.nodup_append.mp hn
   exact h x z x List.mem_cons_self rfl
  obtain⟨y6,e⟩:=s9 (a0:=a0) (a1:=a1) (a2:=a2) (a4:=a4) (a5:=a5) xs (pl++[x]) (some (.val (.int x))) (by simpa using hn) (by simpa using hl)
  have l1:(tbl pl).length<lim:=by
   unfold tbl
   rw[List.length_map]
   rw[List.length_append,List.length_cons]at hl
   unfold lim
   omega
  have es:fH [a0,a1,a2,some (.own (.dic (tbl pl))),a4,a5,some (.val (.int x))]= .ok (.nx [a0,a1,a2,some (.own (.dic (tbl (pl++[x])))),a4,a5,some (.val (.int x))]):=by
   simp! [fH,pT,dq,l1,Dy pl x hx]
  refine⟨y6,?_⟩
  rw[List.map_cons,cI rfl es,e]
  simp
structure Pl (ss:List bb) (ps pl:List Int):Prop where
 nd:pl.Nodup
 mem:∀x,x∈pl<->∃p∈ps,kD ss p x
theorem BE {n:Nat} {ss:List bb} {sd:D} (hsd:sd= .lst (ss.map av)\/sd= .tup (ss.map av)) (hs:ss.length<=100) (g:v3 n ss) (hn:n<=7) {B:Int->List Int} (hB:∀p:Int,0<=p/\p<=n->oF ss p (B p))
  {a0 x5 x6:Option Slot} {acc:List (List Int)} {ps pl:List Int} {p:Int} (hp:0<=p/\p<=n) (hps:∀q,q∈ps<->0<=q/\q<p) (P:Pl ss ps pl) (hl:acc.length<=100):
  ∃pl' y5 y6,fI [a0,some (.val sd),some (.own (.lst (acc.map bD))),some (.own (.dic (tbl pl))),some (.val (.int p)),x5,x6]
   = .ok (.nx [a0,some (.val sd),some (.own (.lst ((acc++bQ B [p]).map bD))),some (.own (.dic (tbl pl'))),some (.val (.int p)),y5,y6])/\Pl ss (ps++[p]) pl':=by
 have hin:cG true (.int p) (.dic (tbl pl))=some (.bl (!decide (p∈pl))):=by
  show some (D.bl (if true then !(bW (tbl pl) (Sum.inl p)).isSome else (bW (tbl pl) (Sum.inl p)).isSome))=_
  rw[Dx];rfl
 obtain⟨x,r,hx,htx,hleast⟩:=(hB p hp).head
 have hlb:=(hB p hp).len g hn hp
 have hxr:=htx.range g hp
 by_cases hin':p∈pl
 ·
  obtain⟨q,hq,hqt⟩:=(P.mem p).mp hin'
  have hqp:=(hps q).mp hq
  have hne:x≠p:=fun z=>by have:=hleast q hqt.symm;omega
  have h0:bQ B [p]=[]:=by simp[bQ,List.filter_cons,hx,hne]
  refine⟨pl,x5,x6,?_,P.nd,fun y=> ?_⟩
  ·rw[h0,List.append_nil]
   simp only[fI,cF,aJ,fT,f2,af,ay,cg,List.getElem?_cons_zero,List.getElem?_cons_succ,kS,ux,hin,hin',decide_true,Bool.not_true,Bool.false_eq_true,if_false]
  ·rw[P.mem y]
   constructor
   ·rintro⟨z,hz,ht⟩;exact⟨z,List.mem_append_left _ hz,ht⟩
   ·rintro⟨z,hz,ht⟩
    rcases List.mem_append.mp hz with hz|hz
    ·exact⟨z,hz,ht⟩
    ·rw[List.mem_singleton.mp hz]at ht
     exact⟨q,hq,hqt.trans ht⟩
 ·have hep:x=p:=by
   have h1:=hleast p .refl
   by_cases hlt:x<p
   ·exact absurd ((P.mem p).mpr ⟨x,(hps x).mpr ⟨hxr.1,hlt⟩,htx.symm⟩) hin'
   ·omega
  have h0:bQ B [p]=[B p]:=by simp[bQ,List.filter_cons,hx,hep]
  obtain⟨es,he,hok,hm⟩:=nD (p:=p) hsd hs g hn hp
  have hb:d0 (im es)=B p:=(nA hm hok.nd).uniq (hB p hp)
  have hsl:(im es).length<64:=by have:=(fS (im es)).length_eq;rw[hb]at this;omega
  have hso:gF [.dic (cL es)]=some (.lst ((B p).map .int)):=by
   show ((i4 (cL es)).bind fun ns=>if ns.length<64 then some (D.lst ((d0 ns).map .int))else none)=_
   rw[za]
   show (if (im es).length<64 then some (D.lst ((d0 (im es)).map .int))else none)=_
   rw[if_pos hsl,hb]
  replace hso:cV [.dic (cL es)]=some (.lst ((B p).map .int)):=by unfold cV;rw[hso]
  have hnd:(pl++B p).Nodup:=List.nodup_append.mpr ⟨P.nd,(hB p hp).nd,fun a ha b hb' z=>by
   subst z
   obtain⟨q,hq,hqt⟩:=(P.mem a).mp ha
   exact hin' ((P.mem p).mpr ⟨q,hq,hqt.trans (((hB p hp).mem a).mp hb').symm⟩)⟩
  have hpl8:pl.length<=8:=Nat.le_trans (iJ (n+1) P.nd fun y hy=>by
   obtain⟨q,hq,hqt⟩:=(P.mem y).mp hy
   have hq':=(hps q).mp hq
   have:=hqt.range g (by omega)
   omega) (by omega)
  obtain⟨y6,em⟩:=s9 (a0:=a0) (a1:=some (.val sd)) (a2:=some (.own (.lst ((acc++[B p]).map bD)))) (a4:=some (.val (.int p))) (a5:=some (.val (.lst ((B p).map .int)))) (B p) pl x6 hnd (by rw[List.length_append];omega)
  have l1:(acc.map bD).length<lim:=by rw[List.length_map];unfold lim;omega
  refine⟨pl++B p,some (.val (.lst ((B p).map .int))),y6,?_,hnd,fun y=> ?_⟩
  ·rw[h0]
   have s1:aY (d5 cV (aa (ax bX 2 (aa (ao 1) (aa (ao 4) (ai)))) (ai))) (gN 5) [a0,some (.val sd),some (.own (.lst (acc.map bD))),some (.own (.dic (tbl pl))),some (.val (.int p)),x5,x6]
     = .ok (.nx [a0,some (.val sd),some (.own (.lst (acc.map bD))),some (.own (.dic (tbl pl))),some (.val (.int p)),some (.val (.lst ((B p).map .int))),x6]):=by simp! [he,hso]
   have s2:jG 2 (d5 dw (aa (af 5) (ai))) [a0,some (.val sd),some (.own (.lst (acc.map bD))),some (.own (.dic (tbl pl))),some (.val (.int p)),some (.val (.lst ((B p).map .int))),x6]
     = .ok (.nx [a0,some (.val sd),some (.own (.lst ((acc++[B p]).map bD))),some (.own (.dic (tbl pl))),some (.val (.int p)),some (.val (.lst ((B p).map .int))),x6]):=by
    simp! [l1,List.map_append,List.map_cons,List.map_nil,bD]
   have s3:gw (cz (ao 5)) (gN 6) fH [a0,some (.val sd),some (.own (.lst ((acc++[B p]).map bD))),some (.own (.dic (tbl pl))),some (.val (.int p)),some (.val (.lst ((B p).map .int))),x6]
     = .ok (.nx [a0,some (.val sd),some (.own (.lst ((acc++[B p]).map bD))),some (.own (.dic (tbl (pl++B p)))),some (.val (.int p)),some (.val (.lst ((B p).map .int))),y6]):=(eC rfl).trans em
   have tst:fT (f2 (cG true) (af 4) (af 3)) [a0,some (.val sd),some (.own (.lst (acc.map bD))),some (.own (.dic (tbl pl))),some (.val (.int p)),x5,x6]= .ok true:=by
    simp! [hin,hin']
   unfold fI cF
   rw[tst,ay,if_pos rfl,au s1,au s2,s3]
  ·rw[List.mem_append,P.mem y,(hB p hp).mem y]
   constructor
   ·rintro(⟨z,hz,ht⟩|ht)
    ·exact⟨z,List.mem_append_left _ hz,ht⟩
    ·exact⟨p,List.mem_append_right _ (by simp),ht⟩
   ·rintro⟨z,hz,ht⟩
    rcases List.mem_append.mp hz with hz|hz
    ·exact .inl ⟨z,hz,ht⟩
    ·rw[List.mem_singleton.mp hz]at ht
     exact .inr ht
theorem v8 {n:Nat} {ss:List bb} {sd:D} (hsd:sd= .lst (ss.map av)\/sd= .tup (ss.map av)) (hs:ss.length<=100) (g:v3 n ss) (hn:n<=7) {B:Int->List Int} (hB:∀p:Int,0<=p/\p<=n->oF ss p (B p)) {a0:Option Slot}:
  ∀(j k:Nat) (acc:List (List Int)) (pl:List Int) (x4 x5 x6:Option Slot),k+j=n+1->Pl ss ((List.range k).map fun i:Nat=>(i:Int)) pl->acc.length<=k->
  ∃pl' y4 y5 y6,bV (gN 4) fI (((List.range' k j).map fun i:Nat=>(i:Int)).map .int) [a0,some (.val sd),some (.own (.lst (acc.map bD))),some (.own (.dic (tbl pl))),x4,x5,x6]
   = .ok (.nx [a0,some (.val sd),some (.own (.lst ((acc++bQ B ((List.range' k j).map fun i:Nat=>(i:Int))).map bD))),some (.own (.dic (tbl pl'))),y4,y5,y6])
 |0,k,acc,pl,x4,x5,x6,_,_,_=>⟨pl,x4,x5,x6,by simp[bV,bQ]⟩
 |j+1,k,acc,pl,x4,x5,x6,hk,P,ha=>by
  obtain⟨pl1,z5,z6,es,P1⟩:=BE hsd hs g hn hB (a0:=a0) (x5:=x5) (x6:=x6) (acc:=acc) (ps:=(List.range k).map fun i:Nat=>(i:Int)) (p:=(k:Int)) (by omega) (fun q=>by
   constructor
   ·intro hq
    obtain⟨i,hi,rfl⟩:=List.mem_map.mp hq
    have:=List.mem_range.mp hi
    omega
   ·rintro⟨h1,h2⟩
    exact List.mem_map.mpr ⟨q.toNat,List.mem_range.mpr (by omega),by omega⟩) P (by omega)
  have h1:=qF B [(k:Int)]
  simp only[List.length_cons,List.length_nil]at h1
  obtain⟨pl',y4,y5,y6,e⟩:=v8 hsd hs g hn hB (a0:=a0) j (k+1) (acc++bQ B [(k:Int)]) pl1 (some (.val (.int (k:Int)))) z5 z6 (by omega) (by rw[List.range_succ,List.map_append];exact P1) (by rw[List.length_append];omega)
  refine⟨pl',y4,y5,y6,?_⟩
  rw[List.range'_succ,List.map_cons,List.map_cons,cI rfl es,e,List.append_assoc,<-lY]
  rfl
theorem sZ (n:Nat):[(0:Int)]++gR 1 ((n:Int)+1)=(List.range' 0 (n+1)).map fun i:Nat=>(i:Int):=by
 unfold gR
 rw[show ((n:Int)+1 - 1).toNat=n by omega,List.range'_succ,List.map_cons,List.range_eq_range']
 rw[List.range'_eq_map_range,List.range'_eq_map_range,List.map_map,List.map_map]
 refine congrArg (List.cons (0:Int)) (List.map_congr_left fun k _=> ?_)
 show (1:Int)+((0+k:Nat):Int)=((0+1+k:Nat):Int)
 omega
theorem nE {n:Nat} {ss:List bb} {sd:D} (hsd:sd= .lst (ss.map av)\/sd= .tup (ss.map av)) (hs:ss.length<=100) (g:v3 n ss) (hn:n<=7) {B:Int->List Int} (hB:∀p:Int,0<=p/\p<=n->oF ss p (B p)):
  cA [.int (n:Int),sd]= .ok (.tup ((bQ B ((List.range (n+1)).map fun i:Nat=>(i:Int))).map bD)):=by
 obtain⟨pl',y4,y5,y6,e⟩:=v8 hsd hs g hn hB (a0:=some (.val (.int (n:Int)))) (n+1) 0 [] [] none none none (by omega) ⟨List.nodup_nil,fun x=>by simp⟩ (by simp)
 have h1:(1:Int).natAbs<=lim:=by decide
 have h2:((n:Int)+1).natAbs<=lim:=by unfold lim;omega
 have hl1:(1:Nat)<=lim:=by decide
 have hrl:(gR 1 ((n:Int)+1)).length<=8:=by
  unfold gR
  rw[List.length_map,List.length_range]
  omega
 have hq:cz (f2 c_ (ir (aa (fC (.int 0)) (ai))) (kg (aa (fC (.int 1)) (aa (f2 c_ (af 0) (fC (.int 1))) (ai))))) [some (.val (.int (n:Int))),some (.val sd),some (.own (.lst [])),some (.own (.dic [])),none,none,none]
   = .ok (((List.range' 0 (n+1)).map fun i:Nat=>(i:Int)).map .int):=by
  have hadd:c_ (.lst [.int 0]) (.lst ((gR 1 ((n:Int)+1)).map .int))=some (.lst (((List.range' 0 (n+1)).map fun i:Nat=>(i:Int)).map .int)):=by
   rw[FJ (by rw[List.length_map];simp only[List.length_cons,List.length_nil];unfold lim;omega),<-sZ]
   rfl
  simp! [kg,h1,h2,hl1,and_self,hadd]
 refine aL rfl ?_
 show kl [some (.val (.int (n:Int))),some (.val sd),none,none,none,none,none]=_
 unfold kl
 rw[au (ρ':=[some (.val (.int (n:Int))),some (.val sd),some (.own (.lst [])),none,none,none,none]) (by simp! []),
  au (ρ':=[some (.val (.int (n:Int))),some (.val sd),some (.own (.lst [])),some (.own (.dic [])),none,none,none]) rfl,au ((eC hq).trans e)]
 simp! [List.range_eq_range']
def d7 (s t:Int) (g:List Int):Int:=if decide (s∈g)=decide (t∈g)then 0 else if t∈g then 1 else -1
theorem BF (n s t:Int) (g:List Int):cj [.tup [.int n, .int s, .int t], .lst (g.map .int)]= .ok (.int (d7 s t g)):=by
 have i1:L2.atI [D.int n, .int s, .int t] 1=some (.int s):=rfl
 have i2:L2.atI [D.int n, .int s, .int t] 2=some (.int t):=rfl
 refine aL rfl ?_
 show iQ [some (.val (.tup [.int n, .int s, .int t])),some (.val (.lst (g.map .int))),none,none]=_
 by_cases a:s∈g<;>by_cases b:t∈g<;>simp only[iQ,aw,aY,gN,cF,aX,aJ,fT,Ha,cp,f2,f1,af,fC,ay,cg,List.getElem?_cons_zero,List.getElem?_cons_succ,List.set_cons_zero,List.set_cons_succ,Slot.data,xk,i1,i2,mV,AH,w9,a,b,decide_true,decide_false,gS,if_true,if_false,Bool.false_eq_true,d7,reduceCtorEq,Bool.true_eq_false]
theorem xH (n s t:Int) (g:List Int):cj [.tup [.int n, .int s, .int t], .tup (g.map .int)]= .ok (.int (d7 s t g)):=by
 have i1:L2.atI [D.int n, .int s, .int t] 1=some (.int s):=rfl
 have i2:L2.atI [D.int n, .int s, .int t] 2=some (.int t):=rfl
 refine aL rfl ?_
 show iQ [some (.val (.tup [.int n, .int s, .int t])),some (.val (.tup (g.map .int))),none,none]=_
 by_cases a:s∈g<;>by_cases b:t∈g<;>simp only[iQ,aw,aY,gN,cF,aX,aJ,fT,Ha,cp,f2,f1,af,fC,ay,cg,List.getElem?_cons_zero,List.getElem?_cons_succ,List.set_cons_zero,List.set_cons_succ,Slot.data,xk,i1,i2,E9,AH,w9,a,b,decide_true,decide_false,gS,if_true,if_false,Bool.false_eq_true,d7,reduceCtorEq,Bool.true_eq_false]
theorem se {g:D->aq->R aq} {gt:aq->R Bool} {fe:aq->R D} {d y:D} {r:List D} {τ τ1:aq} (h1:g d τ= .ok τ1) (h2:gt τ1= .ok true) (h3:fe τ1= .ok y):fw g gt fe (d::r) τ=(fw g gt fe r τ1>>=fun ys=> .ok (y::ys)):=by
 rw[fw,h1,ay,h2,ay,if_pos rfl,h3,ay]
def br (am:Int->Int) (g:List Int) (ss:List bb):Int:=(ss.map fun r=>d7 r.2.1 r.2.2 g*am r.1).sum
theorem v9 (s t:Int) (g:List Int):(d7 s t g).natAbs<18446744073709551616:=by
 unfold d7
 split
 ·decide
 ·split<;>decide
theorem xI {gd:D} {gi:List Int} {ps:List (Int×Int)} (hg:gd= .lst (gi.map .int)\/gd= .tup (gi.map .int)) {z0 z2:Option Slot}:∀(ss:List bb) (x:Option Slot),
  fw (gN 1) jF (f2 qQ (ax cj 2 (aa (ao 1) (aa (ao 4) (ai)))) (oi (af 3) (f2 bq (af 1) (fC (.int 0))) (fC (.int 0)))) (ss.map av) [z0,x,z2,some (.val (.dic (jW ps))),some (.val gd)]
   = .ok ((ss.map fun r=>d7 r.2.1 r.2.2 gi*nu ps r.1).map .int)
 |[],x=>rfl
 |r::ss,x=>by
  have hw:cj [av r,gd]= .ok (.int (d7 r.2.1 r.2.2 gi)):=by
   rcases hg with rfl|rfl
   ·exact BF r.1 r.2.1 r.2.2 gi
   ·exact xH r.1 r.2.1 r.2.2 gi
  have h0:L2.atI [D.int r.1,D.int r.2.1,D.int r.2.2] 0=some (.int r.1):=lp (j:=0) rfl
  have ih:=xI hg (ps:=ps) (z0:=z0) (z2:=z2) ss (some (.val (av r)))
  have e1:ax cj 2 (aa (ao 1) (aa (ao 4) (ai))) [z0,some (.val (av r)),z2,some (.val (.dic (jW ps))),some (.val gd)]= .ok (.int (d7 r.2.1 r.2.2 gi)):=D4 rfl rfl hw
  have e2:oi (af 3) (f2 bq (af 1) (fC (.int 0))) (fC (.int 0)) [z0,some (.val (av r)),z2,some (.val (.dic (jW ps))),some (.val gd)]= .ok (.int (nu ps r.1)):=by
   simp! [oi,av,h0,dq,xy]
  rw[List.map_cons,se (τ1:=[z0,some (.val (av r)),z2,some (.val (.dic (jW ps))),some (.val gd)]) (y:= .int (d7 r.2.1 r.2.2 gi*nu ps r.1)) rfl rfl (xl e1 e2 (w8 (v9 _ _ _))),ih]
  rfl
theorem BG (a0 a1 a2 a3:Option Slot):kA ["streams","amounts","group","amount_by_number"] [(".0", .local),("stream", .local),("way_over", .globalImplicit),("amount_by_number", .free),("group", .free)] [a0,a1,a2,a3]=[none,none,none,a3.map Slot.toBor,a2.map Slot.toBor]:=by
 cases a2<;>cases a3<;>rfl
theorem nF {sd pd gd:D} {ss:List bb} {ps:List (Int×Int)} {gi:List Int} (hs:sd= .lst (ss.map av)\/sd= .tup (ss.map av)) (hp:pd= .lst (ps.map xx)\/pd= .tup (ps.map xx)) (hg:gd= .lst (gi.map .int)\/gd= .tup (gi.map .int)) (hl:ss.length<=1000):
  db [sd,pd,gd]= .ok (.int (br (nu ps) gi ss)):=by
 have hc:=xI hg (ps:=ps) (z0:=none) (z2:=none) ss none
 have hlim:(ss.map av).length<=lim:=by rw[List.length_map];unfold lim;omega
 have hq:cz (ao 0) [some (.val sd),some (.val pd),some (.val gd),some (.val (.dic (jW ps)))]= .ok (ss.map av):=by
  rcases hs with rfl|rfl<;>rfl
 refine aL rfl ?_
 show ki [some (.val sd),some (.val pd),some (.val gd),none]=_
 unfold ki
 rw[au (ρ':=[some (.val sd),some (.val pd),some (.val gd),some (.val (.dic (jW ps)))]) (by simp! [j0 hp])]
 exact jq (mr (cJ (sT (fq hq hlim (BG _ _ _ _) hc)) rfl) (lD _))
theorem sf {rd:D} {rises:List Int} (hr:rd= .lst (rises.map .int)\/rd= .tup (rises.map .int)) {z0:Option Slot}:∀(gi:List Int) (x:Option Slot),(∀t∈gi,1<=t/\t<=rises.length)->
  fw (gN 1) jF (f2 bq (af 2) (f2 gM (af 1) (fC (.int 1)))) (gi.map .int) [z0,x,some (.val rd)]= .ok ((gi.map fun t=>rises.getD (t - 1).toNat 0).map .int)
 |[],x,_=>rfl
 |t::gi,x,h=>by
  have ih:=sf hr (z0:=z0) gi (some (.val (.int t))) fun y hy=>h y (List.mem_cons_of_mem _ hy)
  have ha:=xD (h t List.mem_cons_self)
  have hix:bq rd (.int (t - 1))=some (.int (rises.getD (t - 1).toNat 0)):=by
   rcases hr with rfl|rfl<;>exact ha
  rw[List.map_cons,se (τ1:=[z0,some (.val (.int t)),some (.val rd)]) (y:= .int (rises.getD (t - 1).toNat 0)) rfl rfl (by simp! [hix]),ih]
  rfl
theorem Dz (a0 a1:Option Slot):kA ["rises","group"] [(".0", .local),("tank", .local),("rises", .free)] [a0,a1]=[none,none,a0.map Slot.toBor]:=by
 cases a0<;>rfl
theorem sg {rd gd:D} {rises gi:List Int} (hr:rd= .lst (rises.map .int)\/rd= .tup (rises.map .int)) (hg:gd= .lst (gi.map .int)\/gd= .tup (gi.map .int)) (h:∀t∈gi,1<=t/\t<=rises.length) (hl:gi.length<=1000):
  gm [rd,gd]= .ok (.int (rs rises gi)):=by
 have hc:=sf hr (z0:=none) gi none h
 have hlim:(gi.map D.int).length<=lim:=by rw[List.length_map];unfold lim;omega
 have hq:cz (ao 1) [some (.val rd),some (.val gd)]= .ok (gi.map .int):=by
  rcases hg with rfl|rfl<;>rfl
 refine aL rfl ?_
 show rQ [some (.val rd),some (.val gd)]=_
 exact jq (mr (cJ (sT (fq hq hlim (Dz _ _) hc)) rfl) (lD _))
def d1 (am:Int->Int) (x:Int) (r:bb):Int:=(if r.2.2=x then am r.1 else 0) - (if r.2.1=x then am r.1 else 0)
theorem BH {s t x:Int} {g:List Int} (hx:x∉g) (a:Int):d7 s t (x::g)*a=((if t=x then a else 0) - (if s=x then a else 0))+d7 s t g*a:=by
 have ex:∀{y:Int},y=x->y∉g:=fun h=>by rw[h];exact hx
 unfold d7
 by_cases h1:s=x<;>by_cases h2:t=x
 ·subst h1;subst h2;simp
 ·by_cases h3:t∈g<;>simp[h1,h2,h3,hx,ex h1,Int.add_left_neg]
 ·by_cases h3:s∈g<;>simp[h1,h2,h3,hx,ex h2,Int.add_right_neg]
 ·by_cases h3:s∈g<;>by_cases h4:t∈g<;>simp[h1,h2,h3,h4]
theorem xJ (am:Int->Int) {x:Int} {g:List Int} (hx:x∉g):∀ss:List bb,br am (x::g) ss=(ss.map (d1 am x)).sum+br am g ss
 |[]=>rfl
 |r::ss=>by
  have ih:=xJ am hx ss
  unfold br at ih ⊢
  rw[List.map_cons,List.sum_cons,ih,BH hx,List.map_cons,List.sum_cons,List.map_cons,List.sum_cons]
  unfold d1
  omega
theorem BI (am:Int->Int):∀ss:List bb,br am [] ss=0
 |[]=>rfl
 |r::ss=>by
  have ih:=BI am ss
  unfold br at ih ⊢
  rw[List.map_cons,List.sum_cons,ih]
  simp[d7]
theorem zd {n:Nat} {lo:List bb} (g:v3 n lo) (hn:n<=7) (hl:lo.length<=100):∃B:Int->List Int,∀p:Int,0<=p/\p<=n->oF lo p (B p):=by
 classical
 refine⟨fun p=>if h:0<=p/\p<=n then d0 (im (nD (ss:=lo) (sd:= .lst (lo.map av)) (.inl rfl) hl g hn h).choose)else [],fun p h=> ?_⟩
 have:=(nD (ss:=lo) (sd:= .lst (lo.map av)) (.inl rfl) hl g hn h).choose_spec
 simp only[dif_pos h]
 exact nA this.2.2 this.2.1.nd
inductive Wy (ss:List bb):Int->List Int->List (Int×Int)->Int->List Int->Prop
 |nil {u:Int} {ps:List Int}:Wy ss u ps [] u ps
 |cons {u n d q v:Int} {ps qs:List Int} {st:List (Int×Int)}:Dv ss u n d q->q∉ps->Wy ss q (ps++[q]) st v qs->Wy ss u ps ((n,d)::st) v qs
theorem Wy.snoc {ss:List bb} {u v n d q:Int} {ps qs:List Int} {st:List (Int×Int)} (h:Wy ss u ps st v qs) (hs:Dv ss v n d q) (hq:q∉qs):Wy ss u ps (st++[(n,d)]) q (qs++[q]):=by
 induction h with
 |nil=>exact .cons hs hq .nil
 |cons a b _ ih=>exact .cons a b (ih hs hq)
theorem Wy.len {ss:List bb} {u v:Int} {ps qs:List Int} {st:List (Int×Int)} (h:Wy ss u ps st v qs):qs.length=ps.length+st.length:=by
 induction h with
 |nil=>simp
 |cons _ _ _ ih=>rw[ih];simp;omega
theorem Wy.nd {ss:List bb} {u v:Int} {ps qs:List Int} {st:List (Int×Int)} (h:Wy ss u ps st v qs) (hn:ps.Nodup):qs.Nodup:=by
 induction h with
 |nil=>exact hn
 |cons _ hq _ ih=>exact ih (List.nodup_append.mpr ⟨hn,by simp,fun a ha b hb=>by
   have:b=_:=List.mem_singleton.mp hb
   subst this
   intro z;subst z;exact hq ha⟩)
def zm (es:List lE) (q:Int):Option (Option (Int×Int×Int)):=(es.find? fun e=>decide (e.1=q)).map (·.2)
theorem DA (es:List lE) (q:Int):bW (cL es) (Sum.inl q)=(zm es q).map r8:=by
 induction es with
 |nil=>rfl
 |cons e r ih=>
  show bW ((Sum.inl e.1,r8 e.2)::cL r) (Sum.inl q)=_
  by_cases h:e.1=q
  ·simp[bW,zm,h]
  ·have h1:bW ((Sum.inl e.1,r8 e.2)::cL r) (Sum.inl q)=bW (cL r) (Sum.inl q):=by simp[bW,h]
   have h2:zm (e::r) q=zm r q:=by simp[zm,h]
   rw[h1,h2,ih]
theorem DB {es fs:List lE} {q:Int} {x:Option (Int×Int×Int)} (h:zm es q=some x):zm (es++fs) q=some x:=by
 unfold zm at h ⊢
 rw[List.find?_append]
 cases e:es.find? fun e=>decide (e.1=q)with
 |none=>rw[e]at h;cases h
 |some y=>rw[e]at h;simpa using h
theorem DC {es:List lE} {q:Int} {x:Option (Int×Int×Int)} (h:q∉im es):zm (es++[(q,x)]) q=some x:=by
 unfold zm
 rw[List.find?_append]
 have:es.find? (fun e=>decide (e.1=q))=none:=List.find?_eq_none.mpr fun e he=>by
  simp only[decide_eq_true_eq]
  intro z
  exact h (List.mem_map.mpr ⟨e,he,z⟩)
 rw[this]
 simp
inductive Bk (es:List lE) (p:Int):Int->List (Int×Int)->Prop
 |nil:Bk es p p []
 |step {q u n d:Int} {st:List (Int×Int)}:q≠p->zm es q=some (some (u,n,d))->Bk es p u st->Bk es p q (st++[(n,d)])
theorem Bk.app {es fs:List lE} {p q:Int} {st:List (Int×Int)} (h:Bk es p q st):Bk (es++fs) p q st:=by
 induction h with
 |nil=>exact .nil
 |step a b _ ih=>exact .step a (DB b) ih
theorem j6.way {ss:List bb} {p:Int} {es:List lE} (h:j6 ss p es):∀q∈im es,∃st qs,Bk es p q st/\Wy ss p [p] st q qs/\∀x∈qs,x∈im es:=by
 induction h with
 |one=>
  intro q hq
  have:q=p:=by simpa[im]using hq
  subst this
  exact⟨[],[q], .nil, .nil,fun x hx=>by simpa[im]using hx⟩
 | @snoc es q u n d h hu hq hs ih=>
  intro x hx
  rw[fN]at hx
  rcases List.mem_append.mp hx with hx|hx
  ·obtain⟨st,qs,h1,h2,h3⟩:=ih x hx
   exact⟨st,qs,h1.app,h2,fun y hy=>by rw[fN];exact List.mem_append_left _ (h3 y hy)⟩
  ·have:x=q:=List.mem_singleton.mp hx
   subst this
   obtain⟨st,qs,h1,h2,h3⟩:=ih u hu
   refine⟨st++[(n,d)],qs++[x], .step (fun z=>hq (by rw[z];exact h.here)) (DC hq) h1.app,h2.snoc hs fun z=>hq (h3 x z),fun y hy=> ?_⟩
   rw[fN]
   rcases List.mem_append.mp hy with hy|hy
   ·exact List.mem_append_left _ (h3 y hy)
   ·exact List.mem_append_right _ hy
def io (x:Int×Int):D:= .tup [.int x.1, .int x.2]
theorem DD {a0 a2 x6:Option Slot} {es:List lE} {p q u n d:Int} {acc:List (Int×Int)} (hl:zm es q=some (some (u,n,d))) (ha:acc.length<=100):
  iR [a0,some (.val (.int p)),a2,some (.val (.dic (cL es))),some (.own (.lst (acc.map io))),some (.val (.int q)),x6]
   = .ok (.nx [a0,some (.val (.int p)),a2,some (.val (.dic (cL es))),some (.own (.lst ((acc++[(n,d)]).map io))),some (.val (.int u)),some (.val (.tup [.int u,io (n,d)]))]):=by
 have hix:bq (.dic (cL es)) (.int q)=some (.tup [.int u,io (n,d)]):=by
  show (dq (.int q)).bind (fun key=>bW (cL es) key)=_
  show bW (cL es) (Sum.inl q)=_
  rw[DA,hl]
  rfl
 have h0:L2.atI [D.int u,io (n,d)] 0=some (.int u):=lp (j:=0) rfl
 have h1:L2.atI [D.int u,io (n,d)] 1=some (io (n,d)):=lp (j:=1) rfl
 have l1:(acc.map io).length<lim:=by rw[List.length_map];unfold lim;omega
 simp! [iR,hix,h0,h1,l1,List.map_append,List.map_cons,List.map_nil]
theorem BJ {a0 a2:Option Slot} {es:List lE} {p q:Int} {st:List (Int×Int)} (h:Bk es p q st):∀(acc:List (Int×Int)) (x6:Option Slot),acc.length+st.length<=100->
  ∃y5 y6,cS (fT (f2 oZ (af 5) (af 1))) iR (st.length+1) [a0,some (.val (.int p)),a2,some (.val (.dic (cL es))),some (.own (.lst (acc.map io))),some (.val (.int q)),x6]
   = .ok (.nx [a0,some (.val (.int p)),a2,some (.val (.dic (cL es))),some (.own (.lst ((acc++st.reverse).map io))),y5,y6]):=by
 induction h with
 |nil=>intro acc x6 _;exact⟨some (.val (.int p)),x6,by
   rw[List.reverse_nil,List.append_nil]
   exact nV (by simp! [])⟩
 | @step q u n d st hq hl _ ih=>
  intro acc x6 ha
  rw[List.length_append]at ha
  simp only[List.length_cons,List.length_nil]at ha
  obtain⟨y5,y6,e⟩:=ih (acc++[(n,d)]) (some (.val (.tup [.int u,io (n,d)]))) (by simp;omega)
  refine⟨y5,y6,?_⟩
  rw[show (st++[(n,d)]).length+1=st.length+1+1 by simp,mw (by simp! [hq]) (DD hl (by omega)),e]
  simp
theorem ze {n:Nat} {ss:List bb} {p q:Int} {sd:D} (hsd:sd= .lst (ss.map av)\/sd= .tup (ss.map av)) (hl:ss.length<=100) (g:v3 n ss) (hn:n<=7) (hp:0<=p/\p<=n):
  (¬kD ss p q/\hE [sd, .int p, .int q]= .ok .non)\/(kD ss p q/\∃st qs,hE [sd, .int p, .int q]= .ok (.tup (st.map io))/\Wy ss p [p] st q qs/\st.length<=7):=by
 obtain⟨es,he,hok,hm⟩:=nD hsd hl g hn hp
 have hin:cG true (.int q) (.dic (cL es))=some (.bl (!decide (q∈im es))):=by
  show some (D.bl (if true then !(bW (cL es) (Sum.inl q)).isSome else (bW (cL es) (Sum.inl q)).isSome))=_
  rw[v6];rfl
 have s1:aY (ax bX 2 (aa (ao 0) (aa (ao 1) (ai)))) (gN 3) [some (.val sd),some (.val (.int p)),some (.val (.int q)),none,none,none,none]= .ok (.nx [some (.val sd),some (.val (.int p)),some (.val (.int q)),some (.val (.dic (cL es))),none,none,none]):=by simp! [he]
 by_cases hq:q∈im es
 ·obtain⟨st,qs,h1,h2,h3⟩:=hok.way q hq
  have hlen:=h2.len
  have hb:qs.length<=n+1:=iJ (n+1) (h2.nd (by simp)) fun x hx=>by
   have:=(hok.tied x (h3 x hx)).range g hp
   omega
  simp only[List.length_cons,List.length_nil]at hlen
  refine .inr ⟨(hm q).mp hq,st,qs,?_,h2,by omega⟩
  obtain⟨y5,y6,e⟩:=BJ (a0:=some (.val sd)) (a2:=some (.val (.int q))) h1 [] none (by simp;omega)
  rw[List.nil_append]at e
  have e':cS (fT (f2 oZ (af 5) (af 1))) iR 100 [some (.val sd),some (.val (.int p)),some (.val (.int q)),some (.val (.dic (cL es))),some (.own (.lst [])),some (.val (.int q)),none]
    = .ok (.nx [some (.val sd),some (.val (.int p)),some (.val (.int q)),some (.val (.dic (cL es))),some (.own (.lst (st.reverse.map io))),y5,y6]):=by
   have:=iP (99 - st.length) e
   rwa [show st.length+1+(99 - st.length)=100 by omega]at this
  refine aL rfl ?_
  show jQ [some (.val sd),some (.val (.int p)),some (.val (.int q)),none,none,none,none]=_
  unfold jQ
  rw[au s1,au (ρ':=[some (.val sd),some (.val (.int p)),some (.val (.int q)),some (.val (.dic (cL es))),none,none,none]) (by simp! [hin,hq]),
   au (ρ':=[some (.val sd),some (.val (.int p)),some (.val (.int q)),some (.val (.dic (cL es))),some (.own (.lst [])),none,none]) (by simp! []),
   au (ρ':=[some (.val sd),some (.val (.int p)),some (.val (.int q)),some (.val (.dic (cL es))),some (.own (.lst [])),some (.val (.int q)),none]) (by simp! []),au e']
  simp! [sV]
  rw[<-List.map_reverse,List.reverse_reverse]
 ·refine .inl ⟨fun z=>hq ((hm q).mpr z),?_⟩
  refine aL rfl ?_
  show jQ [some (.val sd),some (.val (.int p)),some (.val (.int q)),none,none,none,none]=_
  unfold jQ
  rw[au s1,fj (d:= .non) (by simp! [hin,hq])]
theorem sh (i:Int):c0 [.int i]= .ok (.bl true):=by
 refine aL rfl ?_
 show kX [some (.val (.int i))]=_
 simp! [kX,iN,AK,AL]
theorem BK {kds:List (bx×D)} {k:bx} {v:D} (h:k∉kds.map (·.1)):lI kds k v=kds++[(k,v)]:=by
 unfold lI
 rw[if_neg]
 intro z
 obtain⟨kv,h1,h2⟩:=List.any_eq_true.mp z
 exact h (List.mem_map.mpr ⟨kv,h1,by simpa using h2⟩)
theorem BL {kds:List (bx×D)} {k:bx} {v:D} (hn:(kds.map (·.1)).Nodup) (h:(k,v)∈kds):bW kds k=some v:=by
 induction kds with
 |nil=>cases h
 |cons x r ih=>
  rw[List.map_cons]at hn
  obtain⟨h1,h2⟩:=List.nodup_cons.mp hn
  rcases List.mem_cons.mp h with h|h
  ·subst h;simp[bW]
  ·have:x.1≠k:=fun z=>h1 (by rw[z];exact List.mem_map.mpr ⟨_,h,rfl⟩)
   have e:bW (x::r) k=bW r k:=by simp[bW,this]
   rw[e]
   exact ih h2 h
def gl (r:bb):bx×D:=(Sum.inl r.1, .tup [.int r.2.1, .int r.2.2])
theorem va (ss:List bb):(ss.map gl).map (·.1)=ss.map fun r=>(Sum.inl r.1:bx):=by rw[List.map_map];rfl
theorem G7 {ss:List bb} (h:(ss.map (·.1)).Nodup):((ss.map gl).map (·.1)).Nodup:=by
 rw[va]
 have:(ss.map fun r=>(Sum.inl r.1:bx))=(ss.map (·.1)).map Sum.inl:=by rw[List.map_map];rfl
 rw[this]
 unfold List.Nodup at h ⊢
 rw[List.pairwise_map]
 exact h.imp fun {a b} hab=>by simpa using hab
theorem xK {a0 a1 a2 a3 a8 a9:Option Slot}:∀(ss acc:List bb) (x5 x6 x7:Option Slot),((acc++ss).map (·.1)).Nodup->acc.length+ss.length<=100->
  ∃y5 y6 y7,bV (gC 3 (bi (gN 5) (bi (gN 6) (bi (gN 7) (gB))))) i5 (ss.map av) [a0,a1,a2,a3,some (.own (.dic (acc.map gl))),x5,x6,x7,a8,a9]
   = .ok (.nx [a0,a1,a2,a3,some (.own (.dic ((acc++ss).map gl))),y5,y6,y7,a8,a9])
 |[],acc,x5,x6,x7,_,_=>⟨x5,x6,x7,by rw[List.append_nil];rfl⟩
 |r::ss,acc,x5,x6,x7,hn,hl=>by
  simp only[List.length_cons]at hl
  obtain⟨y5,y6,y7,e⟩:=xK (a0:=a0) (a1:=a1) (a2:=a2) (a3:=a3) (a8:=a8) (a9:=a9) ss (acc++[r]) (some (.val (.int r.1))) (some (.val (.int r.2.1))) (some (.val (.int r.2.2))) (by rw[List.append_assoc];exact hn) (by simp;omega)
  refine⟨y5,y6,y7,?_⟩
  have hk:(Sum.inl r.1:bx)∉(acc.map gl).map (·.1):=by
   rw[va]
   intro z
   obtain⟨x,hx,hxe⟩:=List.mem_map.mp z
   have hxe':x.1=r.1:=by simpa using hxe
   rw[List.map_append,List.map_cons]at hn
   exact(List.nodup_append.mp hn).2.2 x.1 (List.mem_map.mpr ⟨x,hx,rfl⟩) r.1 List.mem_cons_self hxe'
  have l1:(acc.map gl).length<lim:=by rw[List.length_map];unfold lim;omega
  have l2:(2:Nat)<=lim:=by decide
  have hb:i5 [a0,a1,a2,a3,some (.own (.dic (acc.map gl))),some (.val (.int r.1)),some (.val (.int r.2.1)),some (.val (.int r.2.2)),a8,a9]
    = .ok (.nx [a0,a1,a2,a3,some (.own (.dic ((acc++[r]).map gl))),some (.val (.int r.1)),some (.val (.int r.2.1)),some (.val (.int r.2.2)),a8,a9]):=by
   have hp:=BK (v:= .tup [.int r.2.1, .int r.2.2]) hk
   simp! [i5,pT,dq,l1,l2,hp,List.map_append,List.map_cons,List.map_nil,gl]
  rw[List.map_cons,cI rfl hb,e,List.append_assoc]
  rfl
theorem HC {d:Int} (h:d=1\/d= -1):cG true (.int d) (.tup [.int 1, .int (-1)])=some (.bl false):=by
 have:=mW (x:=d) (xs:=[1,-1])
 rw[show ([1,-1]:List Int).map D.int=[.int 1, .int (-1)]from rfl]at this
 rw[this]
 rcases h with rfl|rfl<;>rfl
theorem DE {a0 a1 a2 a3 x5 x6 x7:Option Slot} {ss:List bb} {ps:List Int} {u n d q:Int} (hn:(ss.map (·.1)).Nodup) (hs:Dv ss u n d q) (hq:q∉ps) (hu:∃r,ps=r++[u]) (hl:ps.length<=100):
  ∃y6 y7,i6 [a0,a1,a2,a3,some (.own (.dic (ss.map gl))),x5,x6,x7,some (.own (.lst (ps.map .int))),some (.val (io (n,d)))]
   = .ok (.nx [a0,a1,a2,a3,some (.own (.dic (ss.map gl))),x5,y6,y7,some (.own (.lst ((ps++[q]).map .int))),some (.val (io (n,d)))]):=by
 obtain⟨r,hr,hrn,hd⟩:=hs
 have hg:bW (ss.map gl) (Sum.inl n)=some (.tup [.int r.2.1, .int r.2.2]):=BL (G7 hn) (List.mem_map.mpr ⟨r,hr,by rw[<-hrn];rfl⟩)
 have hin:cG true (.int n) (.dic (ss.map gl))=some (.bl false):=by
  show some (D.bl (if true then !(bW (ss.map gl) (Sum.inl n)).isSome else (bW (ss.map gl) (Sum.inl n)).isSome))=_
  rw[hg];rfl
 have hix:bq (.dic (ss.map gl)) (.int n)=some (.tup [.int r.2.1, .int r.2.2]):=by
  show bW (ss.map gl) (Sum.inl n)=_
  exact hg
 have hd1:d=1\/d= -1:=by rcases hd with h|h<;>simp[h.1]
 have h0:L2.atI [D.int n,D.int d] 0=some (.int n):=lp (j:=0) rfl
 have h1:L2.atI [D.int n,D.int d] 1=some (.int d):=lp (j:=1) rfl
 have l2:(2:Nat)<=lim:=by decide
 have hlast:L2.atI (ps.map D.int) (-1)=some (.int u):=by
  obtain⟨r,rfl⟩:=hu
  rw[List.map_append]
  exact u3 _ _
 have l1:(ps.map D.int).length<lim:=by rw[List.length_map];unfold lim;omega
 have e1:cF (nS (eJ (cp (iN "tuple" (af 9)))) (nS (fT (f2 oZ (d5 fc (aa (af 9) (ai))) (fC (.int 2)))) (nS (eJ (cp (ax c0 1 (aa (f2 bq (af 9) (fC (.int 0))) (ai))))) (eJ (cp (ax c0 1 (aa (f2 bq (af 9) (fC (.int 1))) (ai))))))))
   (aX (fC (.bl false))) (aJ) [a0,a1,a2,a3,some (.own (.dic (ss.map gl))),x5,x6,x7,some (.own (.lst (ps.map .int))),some (.val (io (n,d)))]
   = .ok (.nx [a0,a1,a2,a3,some (.own (.dic (ss.map gl))),x5,x6,x7,some (.own (.lst (ps.map .int))),some (.val (io (n,d)))]):=rfl
 have e2:cF (nS (fT (f2 (cG true) (f2 bq (af 9) (fC (.int 0))) (af 4))) (fT (f2 (cG true) (f2 bq (af 9) (fC (.int 1))) (cn (aa (fC (.int 1)) (aa (f1 kR (fC (.int 1))) (ai)))))))
   (aX (fC (.bl false))) (aJ) [a0,a1,a2,a3,some (.own (.dic (ss.map gl))),x5,x6,x7,some (.own (.lst (ps.map .int))),some (.val (io (n,d)))]
   = .ok (.nx [a0,a1,a2,a3,some (.own (.dic (ss.map gl))),x5,x6,x7,some (.own (.lst (ps.map .int))),some (.val (io (n,d)))]):=by
  simp! [io,h0,h1,hin,l2,HC hd1]
 have e3:aY (f2 bq (af 4) (f2 bq (af 9) (fC (.int 0)))) (gC 2 (bi (gN 6) (bi (gN 7) (gB)))) [a0,a1,a2,a3,some (.own (.dic (ss.map gl))),x5,x6,x7,some (.own (.lst (ps.map .int))),some (.val (io (n,d)))]
   = .ok (.nx [a0,a1,a2,a3,some (.own (.dic (ss.map gl))),x5,some (.val (.int r.2.1)),some (.val (.int r.2.2)),some (.own (.lst (ps.map .int))),some (.val (io (n,d)))]):=by
  simp! [io,h0,hix,gC,bi,gB]
 have e4:∀s t:Int,(d=1/\s=r.2.1/\t=r.2.2)\/(d= -1/\s=r.2.2/\t=r.2.1)->cF (fT (f2 jY (f2 bq (af 9) (fC (.int 1))) (f1 kR (fC (.int 1))))) (Ft 6 7 (aa (ao 7) (aa (ao 6) (ai)))) (aJ) [a0,a1,a2,a3,some (.own (.dic (ss.map gl))),x5,some (.val (.int r.2.1)),some (.val (.int r.2.2)),some (.own (.lst (ps.map .int))),some (.val (io (n,d)))]
   = .ok (.nx [a0,a1,a2,a3,some (.own (.dic (ss.map gl))),x5,some (.val (.int s)),some (.val (.int t)),some (.own (.lst (ps.map .int))),some (.val (io (n,d)))]):=by
  rintro s t (⟨rfl,rfl,rfl⟩|⟨rfl,rfl,rfl⟩)
  ·rfl
  ·rfl
 have hqm:decide (q∈ps)=false:=by simp[hq]
 have e5:aw (cF (nS (fT (f2 oZ (af 6) (f2 bq (af 8) (f1 kR (fC (.int 1)))))) (fT (f2 (cG false) (af 7) (af 8)))) (aX (fC (.bl false))) (aJ)) (jG 8 (ao 7)) [a0,a1,a2,a3,some (.own (.dic (ss.map gl))),x5,some (.val (.int u)),some (.val (.int q)),some (.own (.lst (ps.map .int))),some (.val (io (n,d)))]
   = .ok (.nx [a0,a1,a2,a3,some (.own (.dic (ss.map gl))),x5,some (.val (.int u)),some (.val (.int q)),some (.own (.lst ((ps++[q]).map .int))),some (.val (io (n,d)))]):=by
  simp! [hlast,mV,hqm,l1,List.map_append,List.map_cons,List.map_nil]
 refine⟨some (.val (.int u)),some (.val (.int q)),?_⟩
 have e4':=e4 u q (hd.imp (fun h=>⟨h.1,h.2.1.symm,h.2.2.symm⟩) fun h=>⟨h.1,h.2.1.symm,h.2.2.symm⟩)
 unfold i6
 rw[au e1,au e2,au e3,au e4',e5]
theorem DF {a0 a1 a2 a3 x5:Option Slot} {ss:List bb} (hn:(ss.map (·.1)).Nodup) {u v:Int} {ps qs:List Int} {st:List (Int×Int)} (h:Wy ss u ps st v qs):∀(x6 x7 x9:Option Slot),(∃r,ps=r++[u])->ps.length+st.length<=100->
  ∃y6 y7 y9,bV (gN 9) i6 (st.map io) [a0,a1,a2,a3,some (.own (.dic (ss.map gl))),x5,x6,x7,some (.own (.lst (ps.map .int))),x9]
   = .ok (.nx [a0,a1,a2,a3,some (.own (.dic (ss.map gl))),x5,y6,y7,some (.own (.lst (qs.map .int))),y9])/\∃r,qs=r++[v]:=by
 induction h with
 |nil=>exact fun x6 x7 x9 hu _=>⟨x6,x7,x9,rfl,hu⟩
 | @cons u n d q v ps qs st hs hq _ ih=>
  intro x6 x7 x9 hu hl
  simp only[List.length_cons]at hl
  obtain⟨z6,z7,es⟩:=DE (a0:=a0) (a1:=a1) (a2:=a2) (a3:=a3) (x5:=x5) (x6:=x6) (x7:=x7) hn hs hq hu (by omega)
  obtain⟨y6,y7,y9,e,h⟩:=ih z6 z7 (some (.val (io (n,d)))) ⟨ps,rfl⟩ (by simp;omega)
  exact⟨y6,y7,y9,by rw[List.map_cons,cI rfl es,e],h⟩
theorem BM {ss:List bb} (hn:(ss.map (·.1)).Nodup) (hl:ss.length<=50) {u v:Int} {qs:List Int} {st:List (Int×Int)} (h:Wy ss u [u] st v qs) (hst:st.length<=50):
  gL [.lst (ss.map av), .tup (st.map io), .int u, .int v]= .ok (.bl true):=by
 obtain⟨y5,y6,y7,e⟩:=xK (a0:=some (.val (.lst (ss.map av)))) (a1:=some (.val (.tup (st.map io)))) (a2:=some (.val (.int u))) (a3:=some (.val (.int v))) (a8:=none) (a9:=none) ss [] none none none (by simpa using hn) (by simp;omega)
 obtain⟨z6,z7,z9,e2,r,hr⟩:=DF (a0:=some (.val (.lst (ss.map av)))) (a1:=some (.val (.tup (st.map io)))) (a2:=some (.val (.int u))) (a3:=some (.val (.int v))) (x5:=y5) hn h y6 y7 none ⟨[],rfl⟩ (by simp;omega)
 rw[List.nil_append]at e
 have hlast:L2.atI (qs.map D.int) (-1)=some (.int v):=by
  rw[hr,List.map_append]
  exact u3 _ _
 have l1:(1:Nat)<=lim:=by decide
 refine aL rfl ?_
 show kr [some (.val (.lst (ss.map av))),some (.val (.tup (st.map io))),some (.val (.int u)),some (.val (.int v)),none,none,none,none,none,none]=_
 unfold kr
 rw[au (ρ':=[some (.val (.lst (ss.map av))),some (.val (.tup (st.map io))),some (.val (.int u)),some (.val (.int v)),none,none,none,none,none,none]) (by simp! [iN,sS]),
  au (ρ':=[some (.val (.lst (ss.map av))),some (.val (.tup (st.map io))),some (.val (.int u)),some (.val (.int v)),some (.own (.dic (([]:List bb).map gl))),none,none,none,none,none]) rfl,
  au ((eC (ds:=ss.map av) rfl).trans e),
  au (ρ':=[some (.val (.lst (ss.map av))),some (.val (.tup (st.map io))),some (.val (.int u)),some (.val (.int v)),some (.own (.dic (ss.map gl))),y5,y6,y7,some (.own (.lst ([u].map .int))),none]) (by simp! [l1,List.map_cons,List.map_nil]),
  au ((eC (ds:=st.map io) rfl).trans e2)]
 simp! [hlast]
theorem nG {ss:List bb} {rd:List (Int×Int)}:∀{g:List Int},g.Nodup->gO ss rd g=br (nu rd) g ss
 |[],_=>by rw[BI];rfl
 |x::g,h=>by
  obtain⟨h1,h2⟩:=List.nodup_cons.mp h
  have ih:=nG (ss:=ss) (rd:=rd) h2
  rw[xJ _ h1,<-ih]
  rfl
theorem vb (n:Nat):((List.range (n+1)).map fun i:Nat=>(i:Int))=0::bC n:=by
 unfold bC
 rw[List.range_succ_eq_map,List.map_cons,List.map_map]
 have:(List.range n).map ((fun i:Nat=>(i:Int))∘Nat.succ)=(List.range n).map fun k:Nat=>1+(k:Int):=List.map_congr_left fun k _=>by
  show ((k+1:Nat):Int)=1+(k:Int)
  omega
 rw[this];rfl
section
variable {n:Nat} {ss:List bb} {rs':List Int} {rd:List (Int×Int)}
theorem d6.lol (c:d6 n ss rs' rd):(bA ss rd).length<=12:=Nat.le_trans (List.length_filter_le _ _) c.len
theorem zf {B:Int->List Int} (hB:∀p:Int,0<=p/\p<=n->oF (bA ss rd) p (B p)) {g:List Int} (hg:g∈bQ B (bC n)):g.Nodup/\0∉g/\∃p,1<=p/\p<=(n:Int)/\g=B p/\p∈g:=by
 obtain⟨p,hp,rfl⟩:=List.mem_map.mp hg
 obtain⟨hp1,hp2⟩:=List.mem_filter.mp hp
 have hr:=qD.mp hp1
 have b:=hB p (by omega)
 obtain⟨x,r,e,h1,h2⟩:=b.head
 have hx:x=p:=by
  have:=of_decide_eq_true hp2
  rw[e]at this
  simpa using this
 subst hx
 refine⟨b.nd,fun z=> ?_,x,hr.1,hr.2,rfl,(b.mem x).mpr .refl⟩
 have:=h2 0 ((b.mem 0).mp z)
 omega
theorem d6.inRl (c:d6 n ss rs' rd):v3 n (bA ss rd):=xB c.loose
theorem DG (c:d6 n ss rs' rd) {B:Int->List Int} (hB:∀p:Int,0<=p/\p<=n->oF (bA ss rd) p (B p)) {g:List Int} (hg:g∈bQ B (bC n)) {acc:List (List Int×Int×Int)} (hl:acc.length<=100) {x3 x4:Option Slot}:
  ∃y3 y4,eo [some (.val (aF n ss rs' rd)),some (.own (.lst (acc.map nB))),some (.val (bD g)),x3,x4]
   = .ok (.nx [some (.val (aF n ss rs' rd)),some (.own (.lst ((acc++([(g,rs rs' g,gO ss rd g)].filter fun x=>decide (x.2.1≠x.2.2))).map nB))),some (.val (bD g)),y3,y4]):=by
 obtain⟨nd,h0,p,p1,p2,rfl,hpg⟩:=zf hB hg
 have b:=hB p (by omega)
 have hlen:=b.len c.inRl c.n7 (by omega)
 have hrise:=sg (rd:= .tup (rs'.map .int)) (gd:= .tup ((B p).map .int)) (.inr rfl) (.inr rfl) (fun t ht=>by
  have:=kD.range c.inRl (by omega) ((b.mem t).mp ht)
  have hne:t≠0:=fun z=>h0 (z▸ht)
  rw[c.rsl];omega) (by omega)
 have hbr:=nF (sd:= .tup (ss.map av)) (pd:= .tup (rd.map xx)) (gd:= .tup ((B p).map .int)) (.inr rfl) (.inr rfl) (.inr rfl) (by have:=c.len;omega)
 rw[<-nG nd]at hbr
 have hn0:cG true (.int 0) (bD (B p))=some (.bl true):=by
  unfold bD
  rw[mW];simp[h0]
 have l3:(3:Nat)<=lim:=by decide
 have l1:(acc.map nB).length<lim:=by rw[List.length_map];unfold lim;omega
 refine⟨some (.val (.int (rs rs' (B p)))),some (.val (.int (gO ss rd (B p)))),?_⟩
 have e0:cF (fT (f2 (cG true) (fC (.int 0)) (af 2)))=fun (g g':aq->R bM) ρ=>(fT (f2 (cG true) (fC (.int 0)) (af 2)) ρ)>>=fun b=>if b=true then g ρ else g' ρ:=rfl
 unfold eo
 rw[e0]
 simp only[fT,f2,fC,af,ay,cg,List.getElem?_cons_zero,List.getElem?_cons_succ,kS,hn0,if_true]
 have ea:aY (ax gm 2 (aa (dN "Day" "rises" (af 0)) (aa (ao 2) (ai)))) (gN 3) [some (.val (aF n ss rs' rd)),some (.own (.lst (acc.map nB))),some (.val (bD (B p))),x3,x4]= .ok (.nx [some (.val (aF n ss rs' rd)),some (.own (.lst (acc.map nB))),some (.val (bD (B p))),some (.val (.int (rs rs' (B p)))),x4]):=by
  unfold bD
  simp! [dN,aF,G4,hrise]
 have eb:aY (ax db 3 (aa (dN "Day" "streams" (af 0)) (aa (dN "Day" "readings" (af 0)) (aa (ao 2) (ai))))) (gN 4) [some (.val (aF n ss rs' rd)),some (.own (.lst (acc.map nB))),some (.val (bD (B p))),some (.val (.int (rs rs' (B p)))),x4]= .ok (.nx [some (.val (aF n ss rs' rd)),some (.own (.lst (acc.map nB))),some (.val (bD (B p))),some (.val (.int (rs rs' (B p)))),some (.val (.int (gO ss rd (B p))))]):=by
  unfold bD
  rw[<-o3]at hbr
  simp! [dN,aF,yY,Bt,hbr]
 refine Eq.trans (au ea) (Eq.trans (au eb) ?_)
 by_cases hc:rs rs' (B p)=gO ss rd (B p)
 ·simp! [hc,List.filter_cons,ne_eq,not_true,List.filter_nil,List.append_nil]
 ·simp! [hc,List.filter_cons,ne_eq,not_false_eq_true,List.filter_nil,List.map_append,List.map_cons,List.map_nil,l1,l3,nB]
theorem xL (c:d6 n ss rs' rd) {B:Int->List Int} (hB:∀p:Int,0<=p/\p<=n->oF (bA ss rd) p (B p)):∀(gs:List (List Int)) (acc:List (List Int×Int×Int)) (x2 x3 x4:Option Slot),(∀g∈gs,g∈bQ B (bC n))->acc.length+gs.length<=100->
  ∃y2 y3 y4,bV (gN 2) eo (gs.map bD) [some (.val (aF n ss rs' rd)),some (.own (.lst (acc.map nB))),x2,x3,x4]
   = .ok (.nx [some (.val (aF n ss rs' rd)),some (.own (.lst ((acc++((gs.map fun g=>(g,rs rs' g,gO ss rd g)).filter fun x=>decide (x.2.1≠x.2.2))).map nB))),y2,y3,y4])
 |[],acc,x2,x3,x4,_,_=>⟨x2,x3,x4,by simp[bV]⟩
 |g::gs,acc,x2,x3,x4,hg,hl=>by
  simp only[List.length_cons]at hl
  obtain⟨z3,z4,e1⟩:=DG c hB (hg g List.mem_cons_self) (acc:=acc) (x3:=x3) (x4:=x4) (by omega)
  obtain⟨y2,y3,y4,e2⟩:=xL c hB gs (acc++([(g,rs rs' g,gO ss rd g)].filter fun x=>decide (x.2.1≠x.2.2))) (some (.val (bD g))) z3 z4 (fun q hq=>hg q (List.mem_cons_of_mem _ hq)) (by
   have:=List.length_filter_le (fun x:List Int×Int×Int=>decide (x.2.1≠x.2.2)) [(g,rs rs' g,gO ss rd g)]
   simp only[List.length_append,List.length_cons,List.length_nil]at this ⊢
   omega)
  refine⟨y2,y3,y4,?_⟩
  rw[List.map_cons,cI rfl e1,e2,List.append_assoc,<-List.filter_append]
  rfl
theorem nH (c:d6 n ss rs' rd) {B:Int->List Int} (hB:∀p:Int,0<=p/\p<=n->oF (bA ss rd) p (B p)):gH [aF n ss rs' rd]= .ok (.tup ((bB B rs' ss rd (bC n)).map nB)):=by
 have hb:=nE (sd:= .tup ((bA ss rd).map av)) (.inr rfl) (by have:=c.lol;omega) c.inRl c.n7 hB
 rw[vb]at hb
 have b0:=hB 0 (by omega)
 obtain⟨x,r,e,h1,h2⟩:=b0.head
 have hx:x=0:=by
  have q1:=h2 0 .refl
  have q2:=kD.range c.inRl (by omega) h1
  omega
 subst hx
 have hsplit:bQ B (0::bC n)=B 0::bQ B (bC n):=by
  unfold bQ
  rw[List.filter_cons_of_pos (by simp[e]),List.map_cons]
 rw[hsplit,List.map_cons]at hb
 have hw:=nw c
 have hm:=HB (m:="without_meter") (r:=bj) (fo:=ao 0) (ρ:=[some (.val (aF n ss rs' rd)),some (.own (.lst [])),none,none,none]) rfl hw
 have hf:cz (ax cA 2 (aa (dN "Day" "tanks" (af 0)) (aa (dz "Day" "without_meter" 1 bj (ao 0) ai) (ai)))) [some (.val (aF n ss rs' rd)),some (.own (.lst [])),none,none,none]= .ok (bD (B 0)::(bQ B (bC n)).map bD):=by
  unfold cz ax
  rw[cJ (G2 rfl G3) (cJ hm rfl)]
  simp only[ay,List.length_cons,List.length_nil,if_true,hb]
 have e1:eo [some (.val (aF n ss rs' rd)),some (.own (.lst [])),some (.val (bD (B 0))),none,none]= .ok (.nx [some (.val (aF n ss rs' rd)),some (.own (.lst [])),some (.val (bD (B 0))),none,none]):=by
  have:(0:Int)∈B 0:=(b0.mem 0).mpr .refl
  unfold eo bD
  simp only[cF,fT,f2,fC,af,ay,cg,List.getElem?_cons_zero,List.getElem?_cons_succ,kS,mW,this,decide_true,Bool.not_true,Bool.false_eq_true,if_false,aJ]
 have hll:(bQ B (bC n)).length<=7:=by
  have:=qF B (bC n)
  have h3:(bC n).length=n:=by simp[bC]
  have:=c.n7
  omega
 obtain⟨y2,y3,y4,el⟩:=xL c hB (bQ B (bC n)) [] (some (.val (bD (B 0)))) none none (fun g hg=>hg) (by simp;omega)
 refine aL rfl ?_
 show kn [some (.val (aF n ss rs' rd)),none,none,none,none]=_
 unfold kn
 rw[au (ρ':=[some (.val (aF n ss rs' rd)),some (.own (.lst [])),none,none,none]) rfl]
 refine Eq.trans (au ((eC hf).trans ((cI rfl e1).trans el))) ?_
 simp! [bB]
end
section
variable {n:Nat} {ss:List bb} {rs:List Int} {rd:List (Int×Int)}
theorem wF (c:d6 n ss rs rd) {p:Int×Int} (hp:p∈rd):cQ [aF n ss rs rd, .int p.1]= .ok (.int p.2):=by
 have hin:p.1∈rd.map (·.1):=List.mem_map_of_mem hp
 obtain⟨r,hr,hre⟩:=List.mem_map.mp (c.sub.subset hin)
 have hm:=hZ c hr
 rw[hre]at hm
 have e:=lW (m:="metered") (r:=aU) (fo:=ao 0) (f:=ao 1) (ρ:=[some (.val (aF n ss rs rd)),some (.val (.int p.1))]) rfl rfl hm
 refine aL rfl ?_
 show jv [some (.val (aF n ss rs rd)),some (.val (.int p.1))]=_
 unfold jv
 rw[au (ρ':=[some (.val (aF n ss rs rd)),some (.val (.int p.1))]) (by simp only[cF,eJ,cp,e,ay,gS,cg,hin,decide_true,Bool.not_true,Bool.false_eq_true,if_false,aJ])]
 have e1:=j0 (pd:= .tup (rd.map aT)) (ps:=rd) (.inr rfl)
 have e2:bq (.dic (jW rd)) (.int p.1)=some (.int p.2):=by
  rw[E8,nv c.rnd]
  exact tE c.rnd hp
 simp! [dN,aF,Bt,e1,e2]
end
section
variable {n:Nat} {ss:List bb} {rs:List Int} {rd:List (Int×Int)}
structure si (n:Nat) (ss:List bb) (rd:List (Int×Int)) (r:bb) (g:List Int):Prop where
 nd:g.Nodup
 srt:g.Pairwise (·<=·)
 ne:g≠[]
 len:g.length<=8
 rng:∀t∈g,1<=t/\t<=(n:Int)
 here:d7 r.2.1 r.2.2 g≠0
 only:∀q∈bA ss rd,q.1≠r.1->d7 q.2.1 q.2.2 g=0
theorem tL {s t:Int} {g:List Int}:d7 s t g=0<->(s∈g<->t∈g):=by
 unfold d7
 by_cases h1:s∈g<;>by_cases h2:t∈g<;>simp[h1,h2]
theorem xM (r:bb) (g:List Int):cj [av r,bD g]= .ok (.int (d7 r.2.1 r.2.2 g)):=xH r.1 r.2.1 r.2.2 g
theorem xN {a0 a1:Option Slot} {r:bb}:∀(gs:List (List Int)) (x3:Option Slot),
  (∃g∈gs,0∉g/\d7 r.2.1 r.2.2 g≠0/\bV (gN 3) dL (gs.map bD) [a0,a1,some (.val (av r)),x3]= .ok (.ret (bD g)))\/
  ((∀g∈gs,0∈g\/d7 r.2.1 r.2.2 g=0)/\∃y3,bV (gN 3) dL (gs.map bD) [a0,a1,some (.val (av r)),x3]= .ok (.nx [a0,a1,some (.val (av r)),y3]))
 |[],x3=> .inr ⟨by simp,x3,rfl⟩
 |g::gs,x3=>by
  have hw:=xM r g
  have hn0:cG true (.int 0) (bD g)=some (.bl (!decide (0∈g))):=mW
  by_cases h:0∉g/\d7 r.2.1 r.2.2 g≠0
  ·refine .inl ⟨g,List.mem_cons_self,h.1,h.2,?_⟩
   rw[List.map_cons]
   refine uw rfl ?_
   simp! [dL,hn0,hw,h.1,h.2]
  ·have e:dL [a0,a1,some (.val (av r)),some (.val (bD g))]= .ok (.nx [a0,a1,some (.val (av r)),some (.val (bD g))]):=by
    by_cases h0:0∈g
    ·simp! [dL,hn0,hw,h0]
    ·have h1:d7 r.2.1 r.2.2 g=0:=by
      rcases Classical.em (d7 r.2.1 r.2.2 g=0)with z|z
      ·exact z
      ·exact absurd ⟨h0,z⟩ h
     simp! [dL,hn0,hw,h0,h1]
   rcases xN (a0:=a0) (a1:=a1) (r:=r) gs (some (.val (bD g)))with ⟨q,h1,h2,h3,h4⟩|⟨h1,y,h2⟩
   ·exact .inl ⟨q,List.mem_cons_of_mem _ h1,h2,h3,by rw[List.map_cons,cI rfl e,h4]⟩
   ·refine .inr ⟨fun q hq=> ?_,y,by rw[List.map_cons,cI rfl e,h2]⟩
    rcases List.mem_cons.mp hq with rfl|hq
    ·rcases Classical.em ((0:Int)∈q)with z|z
     ·exact .inl z
     ·rcases Classical.em (d7 r.2.1 r.2.2 q=0)with y|y
      ·exact .inr y
      ·exact absurd ⟨z,y⟩ h
    ·exact h1 q hq
theorem wG {lo:List bb} {p:Int} {g:List Int} (b:oF lo p g) {q:bb} (hq:q∈lo):d7 q.2.1 q.2.2 g=0:=
 tL.mpr ⟨fun h=>(b.mem _).mpr (((b.mem _).mp h).step ⟨q,hq, .inl ⟨rfl,rfl⟩⟩),fun h=>(b.mem _).mpr (((b.mem _).mp h).step ⟨q,hq, .inr ⟨rfl,rfl⟩⟩)⟩
theorem BO (c:d6 n ss rs rd) {r:bb} (hr:r∈ss):
  ((r.1∈rd.map (·.1)\/kD (bf ss rd r.1) r.2.1 r.2.2)/\dU [aF n ss rs rd, .int r.1]= .ok (.tup []))\/
  (r.1∉rd.map (·.1)/\¬kD (bf ss rd r.1) r.2.1 r.2.2/\∃g,dU [aF n ss rs rd, .int r.1]= .ok (bD g)/\si n ss rd r g):=by
 have hm:=hZ c hr
 have l0:(0:Nat)<=lim:=by decide
 have e:=lW (m:="metered") (r:=aU) (fo:=ao 0) (f:=ao 1) (ρ:=[some (.val (aF n ss rs rd)),some (.val (.int r.1)),none,none]) rfl rfl hm
 by_cases h:r.1∈rd.map (·.1)
 ·refine .inl ⟨.inl h,aL rfl ?_⟩
  show iS [some (.val (aF n ss rs rd)),some (.val (.int r.1)),none,none]=_
  unfold iS
  refine fj ?_
  simp only[cF,cp,e,ay,gS,cg,h,decide_true,if_true,aX,cn,ai,List.length_nil,l0]
 have e2:cF (cp (dz "Day" "metered" 2 aU (ao 0) (aa (ao 1) (ai)))) (aX (cn (ai))) (aJ) [some (.val (aF n ss rs rd)),some (.val (.int r.1)),none,none]= .ok (.nx [some (.val (aF n ss rs rd)),some (.val (.int r.1)),none,none]):=by
  simp only[cF,cp,e,ay,gS,cg,h,decide_false,if_false,aJ,Bool.false_eq_true]
 have e3:=wC (i:=2) (lW (m:="stream") (r:=bL) (fo:=ao 0) (f:=ao 1) (ρ:=[some (.val (aF n ss rs rd)),some (.val (.int r.1)),none,none]) rfl rfl (lB c hr))
 have ho:=oG c r.1
 obtain⟨B,hB⟩:=zd (c.others r.1) c.n7 (by have:=c.olen r.1;omega)
 have hb:=nE (sd:= .tup ((bf ss rd r.1).map av)) (.inr rfl) (by have:=c.olen r.1;omega) (c.others r.1) c.n7 hB
 have hf:cz (ax cA 2 (aa (dN "Day" "tanks" (af 0)) (aa (ax bd 2 (aa (ao 0) (aa (ao 1) (ai)))) (ai)))) [some (.val (aF n ss rs rd)),some (.val (.int r.1)),some (.val (av r)),none]= .ok ((bQ B ((List.range (n+1)).map fun i:Nat=>(i:Int))).map bD):=by
  unfold bf at hb
  simp! [dN,aF,G3]
  rw[show D.ins "Day" (oS n ss rs rd)=aF n ss rs rd from rfl,ho]
  simp! [hb]
 have hmemB:∀g∈bQ B ((List.range (n+1)).map fun i:Nat=>(i:Int)),∃p:Int,(0<=p/\p<=n)/\g=B p:=fun g hg=>by
  obtain⟨p,hp,rfl⟩:=List.mem_map.mp hg
  obtain⟨k,hk,rfl⟩:=List.mem_map.mp (List.mem_filter.mp hp).1
  have:=List.mem_range.mp hk
  exact⟨_,by omega,rfl⟩
 have hall:∀p:Int,0<=p/\p<=n->B p∈bQ B ((List.range (n+1)).map fun i:Nat=>(i:Int)):=fun p hp=>by
  obtain⟨x,t,hx,h1,h2⟩:=(hB p hp).head
  have hxr:=kD.range (c.others r.1) hp h1
  have hbx:B p=B x:=(hB p hp).uniq ⟨fun q=>((hB x hxr).mem q).trans ⟨fun z=>h1.trans z,fun z=>h1.symm.trans z⟩,(hB x hxr).nd,(hB x hxr).srt⟩
  refine List.mem_map.mpr ⟨x,List.mem_filter.mpr ⟨List.mem_map.mpr ⟨x.toNat,List.mem_range.mpr (by omega),by omega⟩,?_⟩,hbx.symm⟩
  rw[<-hbx,hx];simp
 have du:∀z,aw (gw (cz (ax cA 2 (aa (dN "Day" "tanks" (af 0)) (aa (ax bd 2 (aa (ao 0) (aa (ao 1) (ai)))) (ai))))) (gN 3) (dL)) (aX (cn (ai))) [some (.val (aF n ss rs rd)),some (.val (.int r.1)),some (.val (av r)),none]= .ok (.ret z)->dU [aF n ss rs rd, .int r.1]= .ok z:=fun z hz=>by
  refine aL rfl ?_
  show iS [some (.val (aF n ss rs rd)),some (.val (.int r.1)),none,none]=_
  unfold iS
  rw[au e2,au e3]
  exact hz
 rcases xN (a0:=some (.val (aF n ss rs rd))) (a1:=some (.val (.int r.1))) (r:=r) (bQ B ((List.range (n+1)).map fun i:Nat=>(i:Int))) none with ⟨g,h1,h2,h3,h4⟩|⟨h1,y,h2⟩
 ·obtain⟨p,hp,rfl⟩:=hmemB g h1
  have b:=hB p hp
  refine .inr ⟨h,fun z=> ?_,B p,du _ (fj ((eC hf).trans h4)),⟨b.nd,b.srt,?_,b.len (c.others r.1) c.n7 hp,fun t ht=> ?_,h3,fun q hq hne=> ?_⟩⟩
  ·refine h3 (tL.mpr ⟨fun w=>(b.mem _).mpr (((b.mem _).mp w).trans z),fun w=>(b.mem _).mpr (((b.mem _).mp w).trans z.symm)⟩)
  ·intro z
   have:=(b.mem p).mpr .refl
   rw[z]at this;cases this
  ·have q1:=kD.range (c.others r.1) hp ((b.mem t).mp ht)
   have q2:t≠0:=fun z=>h2 (z▸ht)
   omega
  ·exact wG b (List.mem_filter.mpr ⟨hq,by simpa using hne⟩)
 ·refine .inl ⟨.inr ?_,du _ (Eq.trans (au ((eC hf).trans h2)) rfl)⟩
  have s1:=c.good.src r hr
  have s2:=c.good.tgt r hr
  rcases h1 _ (hall r.2.1 s1)with z|z
  ·rcases h1 _ (hall r.2.2 s2)with w|w
   ·exact(((hB _ s1).mem 0).mp z).trans (((hB _ s2).mem 0).mp w).symm
   ·have:=(tL.mp w).mpr (((hB _ s2).mem _).mpr .refl)
    exact(((hB _ s2).mem _).mp this).symm
  ·have:=(tL.mp z).mp (((hB _ s1).mem _).mpr .refl)
   exact((hB _ s1).mem _).mp this
end
section
variable {n:Nat} {ss:List bb} {rs:List Int} {rd:List (Int×Int)}
theorem DH (c:d6 n ss rs rd) {r:bb} (hr:r∈ss):
  ((r.1∈rd.map (·.1)\/¬kD (bf ss rd r.1) r.2.1 r.2.2)/\gn [aF n ss rs rd, .int r.1]= .ok (.tup []))\/
  (r.1∉rd.map (·.1)/\kD (bf ss rd r.1) r.2.1 r.2.2/\∃st qs,gn [aF n ss rs rd, .int r.1]= .ok (.tup (((r.1,1)::st).map io))/\Wy (bf ss rd r.1) r.2.2 [r.2.2] st r.2.1 qs/\st.length<=7):=by
 have hm:=hZ c hr
 have l0:(0:Nat)<=lim:=by decide
 have l1:(1:Nat)<=lim:=by decide
 have l2:(2:Nat)<=lim:=by decide
 have tru:∀{b:Bool},aU [aF n ss rs rd, .int r.1]= .ok (.bl b)->cp (dz "Day" "metered" 2 aU (ao 0) (aa (ao 1) (ai))) [some (.val (aF n ss rs rd)),some (.val (.int r.1)),none,none]= .ok b:=fun h=>by
  unfold cp
  rw[lW (m:="metered") rfl rfl h];rfl
 by_cases h:r.1∈rd.map (·.1)
 ·rw[decide_eq_true h]at hm
  exact .inl ⟨.inl h,aL rfl (fj ((HQ (tru hm)).trans rfl))⟩
 ·rw[decide_eq_false h]at hm
  have ho:=oG c r.1
  have hp:=ze (sd:= .tup ((bf ss rd r.1).map av)) (p:=r.2.2) (q:=r.2.1) (.inr rfl) (by have:=c.olen r.1;omega) (c.others r.1) c.n7 (c.good.tgt r hr)
  have du:∀z d:D,hE [.tup ((bf ss rd r.1).map av), .int r.2.2, .int r.2.1]= .ok z->(aw (cF (fT (f2 pU (af 3) (fC .non))) (aX (cn (ai))) (aJ)) (aX (f2 c_ (cn (aa (cn (aa (ao 1) (aa (fC (.int 1)) (ai)))) (ai))) (af 3)))) [some (.val (aF n ss rs rd)),some (.val (.int r.1)),some (.val (av r)),some (.val z)]= .ok (.ret d)->gn [aF n ss rs rd, .int r.1]= .ok d:=fun z d hz hd=>by
   unfold bf at hz
   refine aL rfl (Eq.trans (au (HR (tru hm))) (Eq.trans (au (wC (lW (m:="stream") rfl rfl (lB c hr)))) (Eq.trans (au (wC (mX (cJ (mX rfl rfl ho) (cJ (xl rfl rfl BB) (cJ (xl (d:= .int r.2.1) rfl rfl rfl) rfl))) rfl hz))) hd)))
  rcases hp with ⟨ht,hp⟩|⟨ht,st,qs,hp,hw,hst⟩
  ·exact .inl ⟨.inr fun z=>ht z.symm,du _ _ hp rfl⟩
  ·refine .inr ⟨h,ht.symm,st,qs,du _ _ hp ?_,hw,hst⟩
   have ha:=wz (a:=[.tup [.int r.1, .int 1]]) (b:=st.map io) (by simp[lim];omega)
   simp! [pU,l1,l2,ha,List.map_cons,io,List.cons_append]
end
theorem tM {ps:List (Int×Int)} (nd:(ps.map (·.1)).Nodup) {k:Int} (h:k∉ps.map (·.1)):nu ps k=0:=by
 unfold nu
 rw[nv nd]
 have:=u_ ps k
 rw[decide_eq_false h]at this
 cases e:bW (jV ps) (Sum.inl k)with
 |none=>rfl
 |some v=>rw[e]at this;cases this
theorem vc {ps:List (Int×Int)} {k a:Int} (nd:(ps.map (·.1)).Nodup) (hk:k∉ps.map (·.1)) (x:Int):nu (ps++[(k,a)]) x=if x=k then a else nu ps x:=by
 have nd':((ps++[(k,a)]).map (·.1)).Nodup:=by
  rw[List.map_append]
  exact List.nodup_append.mpr ⟨nd,by simp,fun u hu v hv z=>by
   have:v=k:=by simpa using hv
   rw[z,this]at hu
   exact hk hu⟩
 by_cases h:x=k
 ·subst h
  rw[if_pos rfl]
  exact tF nd' (p:=(x,a)) (by simp)
 ·rw[if_neg h]
  by_cases hx:x∈ps.map (·.1)
  ·obtain⟨p,hp,rfl⟩:=List.mem_map.mp hx
   rw[tF nd hp,tF nd' (List.mem_append_left _ hp)]
  ·rw[tM nd hx,tM nd' (by
    rw[List.map_append]
    intro z
    rcases List.mem_append.mp z with z|z
    ·exact hx z
    ·exact h (by simpa using z))]
theorem BP {am am':Int->Int} {g:List Int} {r:bb}:∀{ss:List bb},(ss.map (·.1)).Nodup->r∈ss->(∀x,x≠r.1->am' x=am x)->br am' g ss=br am g ss+d7 r.2.1 r.2.2 g*(am' r.1 - am r.1)
 |q::ss,nd,hr,h=>by
  rw[List.map_cons]at nd
  obtain⟨n1,n2⟩:=List.nodup_cons.mp nd
  have same:∀{l:List bb},r.1∉l.map (·.1)->br am' g l=br am g l:=fun {l} hl=>by
   unfold br
   rw[List.map_congr_left fun p hp=>by rw[h p.1 fun z=>hl (List.mem_map.mpr ⟨p,hp,z⟩)]]
  have e:∀a:Int->Int,br a g (q::ss)=d7 q.2.1 q.2.2 g*a q.1+br a g ss:=fun a=>rfl
  rw[e,e]
  by_cases hq:q=r
  ·rw[hq]at n1 ⊢
   rw[same n1,Int.mul_sub]
   omega
  ·have hr1:r∈ss:=(List.mem_cons.mp hr).resolve_left fun z=>hq z.symm
   have hne:q.1≠r.1:=fun z=>n1 (List.mem_map.mpr ⟨r,hr1,z.symm⟩)
   rw[BP n2 hr1 h,h q.1 hne]
   omega
section
variable {n:Nat} {ss:List bb} {rs':List Int} {rd:List (Int×Int)}
theorem zg (c:d6 n ss rs' rd) {B:Int->List Int} (hB:∀p:Int,0<=p/\p<=n->oF (bA ss rd) p (B p)) (hC:bB B rs' ss rd (bC n)=[]):cR [aF n ss rs' rd]= .ok .non:=by
 have h:=nH c hB
 rw[hC]at h
 refine FO (ρ:=[some (.val (aF n ss rs' rd))]) rfl ?_
 show dC [some (.val (aF n ss rs' rd))]=_
 have e:decide ((0:Int)<((0:Nat):Int))=false:=rfl
 simp! [dC,h,List.map_nil,e]
theorem wH (c:d6 n ss rs' rd) {B:Int->List Int} (hB:∀p:Int,0<=p/\p<=n->oF (bA ss rd) p (B p)) (hC:bB B rs' ss rd (bC n)≠[]):∃ρ,cR [aF n ss rs' rd]= .err "Clashing" ρ:=by
 have h:=nH c hB
 refine⟨[some (.val (aF n ss rs' rd))],nt rfl ?_⟩
 show dC [some (.val (aF n ss rs' rd))]=_
 have l1:(1:Nat)<=lim:=by decide
 have e:decide ((0:Int)<((((bB B rs' ss rd (bC n)).map nB).length:Nat):Int))=true:=by
  have:0<(bB B rs' ss rd (bC n)).length:=List.length_pos_iff.mpr hC
  rw[List.length_map]
  exact decide_eq_true (by omega)
 simp! [dC,h,e,kW,l1]
theorem DI {f:aq->R D} {ρ:aq} {d:D} (h:f ρ= .ok d):rP f ρ= .ok (.nx ρ):=by
 unfold rP
 rw[h];rfl
theorem BQ {f:aq->R D} {ρ ρ':aq} {x:Str} (h:f ρ= .err x ρ'):rP f ρ= .err x ρ':=by
 unfold rP
 rw[h];rfl
theorem qG {m:List D->R D} {n:Nat} {fs:aq->R (List D)} {ρ ρ':aq} {ds:List D} {x:Str} (h:fs ρ= .ok ds) (hl:ds.length=n) (hm:m ds= .err x ρ'):ax m n fs ρ= .err x ρ:=by
 unfold ax
 simp only[h,ay,hl,if_true,hm]
theorem BR {k:Int} (hk:∀r∈ss,r.1≠k):∃ρ,b_ [aF n ss rs' rd, .int k]= .err "UnknownStream" ρ:=by
 obtain⟨ρ,e⟩:=v2 (n:=n) (rs:=rs') (rd:=rd) hk
 exact⟨_,nt rfl (tD (xw (rZ (m:="metered") rfl rfl e)))⟩
theorem wI (c:d6 n ss rs' rd) {B:Int->List Int} (hB:∀p:Int,0<=p/\p<=n->oF (bA ss rd) p (B p)) (hC:bB B rs' ss rd (bC n)≠[]) {r:bb} (hr:r∈ss):∃ρ,b_ [aF n ss rs' rd, .int r.1]= .err "Clashing" ρ:=by
 obtain⟨ρ,e⟩:=wH c hB hC
 have hm:=hZ c hr
 refine⟨[some (.val (aF n ss rs' rd)),some (.val (.int r.1)),some (.val (.bl (decide (r.1∈rd.map (·.1))))),none],nt rfl ?_⟩
 show jR [some (.val (aF n ss rs' rd)),some (.val (.int r.1)),none,none]=_
 unfold jR
 refine Eq.trans (au (wC (lW (m:="metered") rfl rfl hm))) (tD (BQ (qG (cJ rfl rfl) rfl e)))
theorem vd (c:d6 n ss rs' rd) {r:bb} (hr:r∈ss) {g:List Int} (G:si n ss rd r g):eu [aF n ss rs' rd, .int r.1,bD g]= .ok (.int (d7 r.2.1 r.2.2 g*(rs rs' g - gO ss rd g))):=by
 have hlen:=G.len
 have hrise:=sg (rd:= .tup (rs'.map .int)) (gd:= .tup (g.map .int)) (.inr rfl) (.inr rfl) (fun t ht=>by
  have:=G.rng t ht
  rw[c.rsl];omega) (by omega)
 have hbr:=nF (sd:= .tup (ss.map av)) (pd:= .tup (rd.map xx)) (gd:= .tup (g.map .int)) (.inr rfl) (.inr rfl) (.inr rfl) (by have:=c.len;omega)
 rw[<-nG G.nd,<-o3]at hbr
 refine aL rfl ?_
 show ju [some (.val (aF n ss rs' rd)),some (.val (.int r.1)),some (.val (bD g)),none]=_
 unfold ju
 rw[au (ρ':=[some (.val (aF n ss rs' rd)),some (.val (.int r.1)),some (.val (bD g)),some (.val (.int (rs rs' g - gO ss rd g)))]) (by
  unfold bD
  simp! [dN,aF,G4,yY,Bt,hrise,hbr])]
 have e:=lW (m:="stream") (r:=bL) (fo:=ao 0) (f:=ao 1) (ρ:=[some (.val (aF n ss rs' rd)),some (.val (.int r.1)),some (.val (bD g)),some (.val (.int (rs rs' g - gO ss rd g)))]) rfl rfl (lB c hr)
 have hw:=xM r g
 have hm:=w8 (i:=d7 r.2.1 r.2.2 g) (j:=rs rs' g - gO ss rd g) (v9 _ _ _)
 simp! [e,hw,hm]
theorem DJ (c:d6 n ss rs' rd) {B:Int->List Int} (hB:∀p:Int,0<=p/\p<=n->oF (bA ss rd) p (B p)) (hC:bB B rs' ss rd (bC n)=[]) {r:bb} (hr:r∈ss):
  (∃p∈rd,p.1=r.1/\b_ [aF n ss rs' rd, .int r.1]= .ok (.tup [.str "metered", .int p.2, .tup [], .tup []]))\/
  (r.1∉rd.map (·.1)/\¬kD (bf ss rd r.1) r.2.1 r.2.2/\∃g,si n ss rd r g/\b_ [aF n ss rs' rd, .int r.1]= .ok (.tup [.str "known", .int (d7 r.2.1 r.2.2 g*(rs rs' g - gO ss rd g)),bD g, .tup []]))\/
  (r.1∉rd.map (·.1)/\kD (bf ss rd r.1) r.2.1 r.2.2/\∃st qs,Wy (bf ss rd r.1) r.2.2 [r.2.2] st r.2.1 qs/\st.length<=7/\b_ [aF n ss rs' rd, .int r.1]= .ok (.tup [.str "open", .non, .tup [], .tup (((r.1,1)::st).map io)])):=by
 have e0:=zg c hB hC
 have hm:=hZ c hr
 have l0:(0:Nat)<=lim:=by decide
 have l4:(4:Nat)<=lim:=by decide
 have du:∀z,(aw (cF (cp (af 2))
  (aX (cn (aa (fC (.str "metered")) (aa (dz "Day" "reading" 2 cQ (ao 0) (aa (ao 1) (ai))) (aa (cn (ai)) (aa (cn (ai)) (ai)))))))
  (aJ))
  (aw (aY (ax dU 2 (aa (ao 0) (aa (ao 1) (ai)))) (gN 3))
  (aw (cF (fT (f2 ui (d5 fc (aa (af 3) (ai))) (fC (.int 0))))
  (aX (cn (aa (fC (.str "known")) (aa (ax eu 3 (aa (ao 0) (aa (ao 1) (aa (ao 3) (ai))))) (aa (ao 3) (aa (cn (ai)) (ai)))))))
  (aJ))
  (aX (cn (aa (fC (.str "open")) (aa (fC .non) (aa (cn (ai)) (aa (ax gn 2 (aa (ao 0) (aa (ao 1) (ai)))) (ai))))))))) [some (.val (aF n ss rs' rd)),some (.val (.int r.1)),some (.val (.bl (decide (r.1∈rd.map (·.1))))),none])= .ok (.ret z)->b_ [aF n ss rs' rd, .int r.1]= .ok z:=fun z hz=>by
  refine aL rfl ?_
  show jR [some (.val (aF n ss rs' rd)),some (.val (.int r.1)),none,none]=_
  unfold jR
  exact Eq.trans (au (wC (lW (m:="metered") rfl rfl hm))) (Eq.trans (au (DI (mX (cJ rfl rfl) rfl e0))) hz)
 by_cases h:r.1∈rd.map (·.1)
 ·obtain⟨p,hp,hpe⟩:=List.mem_map.mp h
  refine .inl ⟨p,hp,hpe,du _ (fj ?_)⟩
  have hrd:=wF c hp
  rw[hpe]at hrd
  have e:=lW (m:="reading") (r:=cQ) (fo:=ao 0) (f:=ao 1) (ρ:=[some (.val (aF n ss rs' rd)),some (.val (.int r.1)),some (.val (.bl true)),none]) rfl rfl hrd
  rw[decide_eq_true h]
  simp! [e,l0,l4]
 ·have s1:cF (cp (af 2)) (aX (cn (aa (fC (.str "metered")) (aa (dz "Day" "reading" 2 cQ (ao 0) (aa (ao 1) (ai))) (aa (cn (ai)) (aa (cn (ai)) (ai))))))) (aJ) [some (.val (aF n ss rs' rd)),some (.val (.int r.1)),some (.val (.bl (decide (r.1∈rd.map (·.1))))),none]= .ok (.nx [some (.val (aF n ss rs' rd)),some (.val (.int r.1)),some (.val (.bl (decide (r.1∈rd.map (·.1))))),none]):=by
   rw[decide_eq_false h];rfl
  rcases BO c hr with ⟨h1,eg⟩|⟨h1,h2,g,eg,G⟩
  ·have ht:kD (bf ss rd r.1) r.2.1 r.2.2:=h1.resolve_left h
   rcases DH c hr with ⟨h2,_⟩|⟨_,_,st,qs,er,hw,hst⟩
   ·exact absurd ht (h2.resolve_left h)
   ·refine .inr (.inr ⟨h,ht,st,qs,hw,hst,du _ ?_⟩)
    rw[au s1]
    have e:decide ((0:Int)<((0:Nat):Int))=false:=rfl
    simp! [eg,e,er,l0,l4]
  ·refine .inr (.inl ⟨h,h2,g,G,du _ ?_⟩)
   rw[au s1]
   have ea:=vd c hr G
   have hl:0<g.length:=List.length_pos_iff.mpr G.ne
   have e:decide ((0:Int)<((g.map D.int).length:Int))=true:=by rw[List.length_map];exact decide_eq_true (by omega)
   have eg2:aY (ax dU 2 (aa (ao 0) (aa (ao 1) (ai)))) (gN 3) [some (.val (aF n ss rs' rd)),some (.val (.int r.1)),some (.val (.bl (decide (r.1∈rd.map (·.1))))),none]= .ok (.nx [some (.val (aF n ss rs' rd)),some (.val (.int r.1)),some (.val (.bl (decide (r.1∈rd.map (·.1))))),some (.val (bD g))]):=by simp! [eg]
   rw[au eg2]
   refine fj ?_
   have et:fT (f2 ui (d5 fc (aa (af 3) (ai))) (fC (.int 0))) [some (.val (aF n ss rs' rd)),some (.val (.int r.1)),some (.val (.bl (decide (r.1∈rd.map (·.1))))),some (.val (bD g))]= .ok true:=by
    unfold bD
    simp! [e]
   unfold cF
   rw[et]
   simp! [ea,l0,l4]
end
section
variable {n:Nat} {ss:List bb} {rs':List Int} {rd:List (Int×Int)}
theorem tO {ρ:aq} {i:Nat} {N:List Str} {r:bb} (c:d6 n ss rs' rd) {f:aq->R D} (hf:f ρ= .ok (.lst ((bA ss rd).map av))) (hin:kA N [(".0", .local),("_law_one", .local),("_law_stream", .free)] ρ=[none,none,some (.val (av r))]):
  oN i (eD N [(".0", .local),("_law_one", .local),("_law_stream", .free)] (cz f) (gN 1) (fT (f2 oZ (f2 bq (af 1) (fC (.int 0))) (f2 bq (af 2) (fC (.int 0))))) (ao 1)) ρ= .ok (.nx (ρ.set i (some (.own (.lst ((bf ss rd r.1).map av)))))):=by
 have hlo:(bA ss rd).length<=12:=Nat.le_trans (List.length_filter_le _ _) c.len
 exact own_of (fq (ds:=(bA ss rd).map av) (by unfold cz;rw[hf];rfl) (by simp[lim];omega) hin (ku (e:=av) (p:=fun q:bb=>decide (q.1≠r.1)) (bA ss rd) (fun q _=>by simp! [av,dF,ne_eq,decide_not]) (fun q _ _=>rfl) _))
end
section
variable {n:Nat} {ss:List bb} {rs:List Int} {rd:List (Int×Int)}
theorem ve (c:d6 n ss rs rd) {r:bb} (hr:r∈ss) {st:List (Int×Int)} {qs:List Int} (hw:Wy (bf ss rd r.1) r.2.2 [r.2.2] st r.2.1 qs) (hst:st.length<=7):
  eB [aH n ss rs rd,av r, .tup (((r.1,1)::st).map io)]= .ok (.bl true):=by
 have l1:=c.len
 have l2:=c.ten
 have l3:(2:Nat)<=lim:=by decide
 have hs:ba [io (r.1,1), .tup [.int r.1, .int 1]]= .ok (.bl true):=rV [r.1,1] (by simp)
 have hlo:=j3 (n:=n) (ss:=ss) (rs:=rs) (rd:=rd) (by omega) (by omega)
 refine aL rfl ?_
 show jy [some (.val (aH n ss rs rd)),some (.val (av r)),some (.val (.tup (((r.1,1)::st).map io))),none]=_
 unfold jy
 have e1:decide ((((st.map io).length+1:Nat):Int)=0)=false:=by simp;omega
 rw[au (ρ':=[some (.val (aH n ss rs rd)),some (.val (av r)),some (.val (.tup (((r.1,1)::st).map io))),none]) (by simp! [iN,sS,List.map_cons,dF,av,l3,hs,e1])]
 rw[au (tO (i:=3) (r:=r) c (f:=ax bP 1 (aa (ao 0) (ai))) (ρ:=[some (.val (aH n ss rs rd)),some (.val (av r)),some (.val (.tup (((r.1,1)::st).map io))),none]) (by simp! [hlo]) rfl)]
 have hsl:BZ (.tup (((r.1,1)::st).map io)) (some 1) none=some (.tup (st.map io)):=xv (ds:=((r.1,1)::st).map io) (k:=1) (by simp)
 have hw':=BM (c.ond r.1) (by have:=c.olen r.1;omega) hw (by omega)
 simp! [yE,jL,jK,hsl,av,i_,BB,hw']
end
theorem xO {a0:Option Slot} {n:Nat}:∀(g:List Int) (last:Int) (x3:Option Slot),(∀t∈g,last<t/\t<=(n:Int))->g.Pairwise (·<·)->∃l y3,bV (gN 3) fR (g.map .int) [a0,some (.val (.int (n:Int))),some (.val (.int last)),x3]= .ok (.nx [a0,some (.val (.int (n:Int))),some (.val (.int l)),y3])
 |[],last,x3,_,_=>⟨last,x3,rfl⟩
 |t::g,last,x3,h,hp=>by
  obtain⟨p1,p2⟩:=List.pairwise_cons.mp hp
  obtain⟨h1,h2⟩:=h t List.mem_cons_self
  obtain⟨l,y3,e⟩:=xO (a0:=a0) (n:=n) g t (some (.val (.int t))) (fun u hu=>⟨p1 u hu,(h u (List.mem_cons_of_mem _ hu)).2⟩) p2
  refine⟨l,y3,?_⟩
  have w:c0 [.int t]= .ok (.bl true):=sh t
  have d1:decide (t<=last)=false:=by simp;omega
  have d2:decide ((n:Int)<t)=false:=by simp;omega
  have eb:fR [a0,some (.val (.int (n:Int))),some (.val (.int last)),some (.val (.int t))]= .ok (.nx [a0,some (.val (.int (n:Int))),some (.val (.int t)),some (.val (.int t))]):=by
   simp! [fR,w,d1,d2]
  rw[List.map_cons,cI rfl eb,e]
theorem tP {n:Nat} {g:List Int} (hne:g≠[]) (hr:∀t∈g,1<=t/\t<=(n:Int)) (hp:g.Pairwise (·<·)):eW [bD g, .int (n:Int)]= .ok (.bl true):=by
 obtain⟨l,y3,e⟩:=xO (a0:=some (.val (bD g))) (n:=n) g 0 none (fun t ht=>by have:=hr t ht;omega) hp
 refine aL rfl ?_
 show iY [some (.val (bD g)),some (.val (.int (n:Int))),none,none]=_
 have hl:decide (((g.map D.int).length:Int)=0)=false:=by
  have:0<g.length:=List.length_pos_iff.mpr hne
  simp;exact hne
 unfold iY
 rw[au (ρ':=[some (.val (bD g)),some (.val (.int (n:Int))),none,none]) (by simp! [bD,iN,sS,hl]),
  au (ρ':=[some (.val (bD g)),some (.val (.int (n:Int))),some (.val (.int 0)),none]) rfl,
  au ((eC (ds:=g.map .int) rfl).trans e)]
 rfl
theorem zh (r:bb) (g:List Int):hW [av r,bD g]= .ok (.int ((if r.2.2∈g then 1 else 0) - (if r.2.1∈g then 1 else 0))):=by
 refine aL rfl ?_
 show mD [some (.val (av r)),some (.val (bD g))]=_
 by_cases h1:r.2.1∈g<;>by_cases h2:r.2.2∈g<;>simp! [mD,av,bD,BB,i_,E9,Bo,h1,h2]
theorem G8 {g:List Int} (h1:g.Pairwise (·<=·)) (h2:g.Nodup):g.Pairwise (·<·):=by
 have:=List.Pairwise.and h1 h2
 exact this.imp fun {a b} h=>by have:=h.1;have:=h.2;omega
theorem BS {lo:List bb} {r:bb} {p:bb->Bool} (nd:(lo.map (·.1)).Nodup) (hr:r∈lo) (h1:p r=true) (h2:∀q∈lo,q.1≠r.1->p q=false):lo.filter p=[r]:=by
 induction lo with
 |nil=>cases hr
 |cons a lo ih=>
  rw[List.map_cons]at nd
  obtain⟨n1,n2⟩:=List.nodup_cons.mp nd
  by_cases h:a=r
  ·have hz:lo.filter p=[]:=List.filter_eq_nil_iff.mpr fun q hq=>by
    rw[h2 q (List.mem_cons_of_mem _ hq) (fun z=>n1 (List.mem_map.mpr ⟨q,hq,by rw[z,h]⟩))];simp
   rw[List.filter_cons_of_pos (by rw[h];exact h1),hz,h]
  ·have hr1:r∈lo:=(List.mem_cons.mp hr).resolve_left fun z=>h z.symm
   rw[List.filter_cons_of_neg (by
    rw[h2 a List.mem_cons_self fun z=>n1 (List.mem_map.mpr ⟨r,hr1,z.symm⟩)];simp)]
   exact ih n2 hr1 (fun q hq=>h2 q (List.mem_cons_of_mem _ hq))
section
variable {n:Nat} {ss:List bb} {rs:List Int} {rd:List (Int×Int)}
theorem wJ (c:d6 n ss rs rd) {r:bb} (hr:r∈ss) (hlo:r.1∉rd.map (·.1)) {g:List Int} (G:si n ss rd r g):dE [aH n ss rs rd, .int r.1,bD g]= .ok (.bl true):=by
 have l1:=c.len
 have l2:=c.ten
 have hig:=tP G.ne G.rng (G8 G.srt G.nd)
 have hls:=j3 (n:=n) (ss:=ss) (rs:=rs) (rd:=rd) (by omega) (by omega)
 have hr1:(1:Nat)<=lim:=by decide
 refine aL rfl ?_
 show hX [some (.val (aH n ss rs rd)),some (.val (.int r.1)),some (.val (bD g))]=_
 unfold hX
 rw[au (ρ':=[some (.val (aH n ss rs rd)),some (.val (.int r.1)),some (.val (bD g))]) (by simp! [aH,dF,hig])]
 have hc:=sT (fq (N:=["_law_case_here","_law_number","_law_group"]) (names:=[(".0", .local),("_law_stream", .local),("_law_into", .globalImplicit),("_law_group", .free)]) (fi:=cz (ax bP 1 (aa (ao 0) (ai)))) (g:=gN 1) (gt:=fT (f2 oZ (ax hW 2 (aa (ao 1) (aa (ao 3) (ai)))) (fC (.int 0)))) (fe:=f2 bq (af 1) (fC (.int 0))) (ρ:=[some (.val (aH n ss rs rd)),some (.val (.int r.1)),some (.val (bD g))]) (ds:=(bA ss rd).map av) (τ:=[none,none,none,some (.val (bD g))]) (by simp! [hls]) (by
   have h2:(bA ss rd).length<=ss.length:=List.length_filter_le _ _
   simp[lim];omega) rfl (ku (e:=fun q:bb=>D.int q.1) (p:=fun q:bb=>decide (d7 q.2.1 q.2.2 g≠0)) (bA ss rd) (fun q _=>by
   have hi:=zh q g
   have hz:(!decide (((if q.2.2∈g then (1:Int)else 0) - (if q.2.1∈g then 1 else 0))=0))=decide (d7 q.2.1 q.2.2 g≠0):=by
    unfold d7
    by_cases h1:q.2.1∈g<;>by_cases h2:q.2.2∈g<;>simp[h1,h2]
   simp! [hi,hz]) (fun q _ _=>by simp! [av,dF]) _))
 rw[BS (lo:=bA ss rd) (r:=r) (List.Nodup.sublist (List.filter_sublist.map _) c.good.nd) (List.mem_filter.mpr ⟨hr,by simpa using hlo⟩) (by simpa using G.here) (fun q hq hne=>by simpa using G.only q hq hne)]at hc
 refine jq (xl hc (b:= .lst [.int r.1]) (by simp! [hr1]) ?_)
 simp only[List.map_cons,List.map_nil,yN,List.all_cons,List.all_nil,jd,Bool.and_self,and_self,B1,FC,Bool.and_true,beq_self_eq_true,if_true]
end
section
variable {n:Nat} {ss:List bb} {rs':List Int} {rd:List (Int×Int)}
theorem sl3 {a b c d:D}:BZ (.tup [a,b,c,d]) none (some 3)=some (.tup [a,b,c]):=Ej (ds:=[a,b,c,d]) (k:=3) (by simp)
theorem tR (n:Nat):Wf (n+1) (.tup []):= .tup (by simp) fun d hd=>by cases hd
theorem BU (c:d6 n ss rs' rd) {g:List Int} (hg:∀t∈g,1<=t/\t<=(n:Int)) (hlen:g.length<=8) {z:aq} {N:List Str} {f:aq->R D} (hf:f z= .ok (bD g)) (hin:kA N [(".0", .local),("_law_tank", .local),("_law_case_here", .free)] z=[none,none,some (.val (aH n ss rs' rd))]):
  d5 uo (aa (fL (eD N [(".0", .local),("_law_tank", .local),("_law_case_here", .free)] (cz f) (gN 1) (jF) (f2 bq (f2 bq (af 2) (fC (.int 2))) (f2 gM (af 1) (fC (.int 1)))))) (ai)) z= .ok (.int (rs rs' g)):=by
 refine mr (cJ (sT (fq (ds:=g.map .int) (by unfold cz;rw[hf];rfl) (by simp[lim];omega) hin (qC g none fun t ht=>by rw[c.rsl];exact hg t ht))) rfl) ?_
 rw[lD]
 rfl
theorem BV (c:d6 n ss rs' rd) {r:bb} (hr:r∈ss) (h:r.1∉rd.map (·.1)) {g:List Int} (G:si n ss rd r g):
  eA [.tup (ss.map av), .tup ((rd++[(r.1,d7 r.2.1 r.2.2 g*(rs rs' g - gO ss rd g))]).map aT),bD g]= .ok (.int (rs rs' g)):=by
 have e:=v4 (sd:= .tup (ss.map av)) (pd:= .tup ((rd++[(r.1,d7 r.2.1 r.2.2 g*(rs rs' g - gO ss rd g))]).map xx)) (gd:= .tup (g.map .int)) (.inr rfl) (.inr rfl) (.inr rfl)
 have hb:=nG (ss:=ss) (rd:=rd++[(r.1,d7 r.2.1 r.2.2 g*(rs rs' g - gO ss rd g))]) G.nd
 have ha:=BP (am:=nu rd) (am':=nu (rd++[(r.1,d7 r.2.1 r.2.2 g*(rs rs' g - gO ss rd g))])) (g:=g) c.good.nd hr (fun x hx=>by rw[vc c.rnd h,if_neg hx])
 rw[vc c.rnd h,if_pos rfl,tM c.rnd h]at ha
 have hc:=nG (ss:=ss) (rd:=rd) G.nd
 have hw:d7 r.2.1 r.2.2 g=1\/d7 r.2.1 r.2.2 g= -1:=by
  have:=G.here
  unfold d7 at this ⊢
  split at this
  ·exact absurd rfl this
  ·split
   ·simp_all
   ·split<;>simp
 have:gO ss (rd++[(r.1,d7 r.2.1 r.2.2 g*(rs rs' g - gO ss rd g))]) g=rs rs' g:=by
  rw[hb,ha,<-hc]
  rcases hw with w|w<;>rw[w]<;>omega
 rw[o3]
 exact e.trans (congrArg (fun x=>R.ok (D.int x)) this)
theorem r9 (c:d6 n ss rs' rd) {r:bb} {p:Int×Int} (hp:p∈rd) (hpe:p.1=r.1):bS [aH n ss rs' rd,av r, .tup [.str "metered", .int p.2, .tup [], .tup []]]= .ok (.bl true):=by
 have l0:(0:Nat)<=lim:=by decide
 have l4:(4:Nat)<=lim:=by decide
 have e1:=j0 (pd:= .tup (rd.map aT)) (ps:=rd) (.inr rfl)
 have i2:=tH c.rnd r.1
 have hin:r.1∈rd.map (·.1):=by rw[<-hpe];exact List.mem_map_of_mem hp
 have hx:bq (.dic (jW rd)) (.int r.1)=some (.int p.2):=by
  rw[E8,nv c.rnd,<-hpe]
  exact tE c.rnd hp
 have hs:ba [.tup [.str "metered", .int p.2, .tup [], .tup []], .tup [.str "metered", .int p.2, .tup [], .tup []]]= .ok (.bl true):=il (n:=2) (by omega) (.tup (by simp) fun d hd=>by
  simp only[List.mem_cons,List.not_mem_nil,or_false]at hd
  rcases hd with rfl|rfl|rfl|rfl
  ·exact .str _ _
  ·exact .int _ _
  ·exact tR _
  ·exact tR _)
 refine aL rfl ?_
 show cy [some (.val (aH n ss rs' rd)),some (.val (av r)),some (.val (.tup [.str "metered", .int p.2, .tup [], .tup []])),none,none,none]=_
 unfold cy
 rw[au (ρ':=[some (.val (aH n ss rs' rd)),some (.val (av r)),some (.val (.tup [.str "metered", .int p.2, .tup [], .tup []])),none,none,none]) rfl,
  au (ρ':=[some (.val (aH n ss rs' rd)),some (.val (av r)),some (.val (.tup [.str "metered", .int p.2, .tup [], .tup []])),some (.val (.dic (jW rd))),none,none]) (by simp! [aH,G5,e1])]
 refine fj ?_
 simp! [av,dF,i2,hin,hx,l0,l4,hs]
theorem wK (c:d6 n ss rs' rd) {r:bb} (hr:r∈ss) (h:r.1∉rd.map (·.1)) (ht:kD (bf ss rd r.1) r.2.1 r.2.2) {st:List (Int×Int)} {qs:List Int} (hw:Wy (bf ss rd r.1) r.2.2 [r.2.2] st r.2.1 qs) (hst:st.length<=7):
  bS [aH n ss rs' rd,av r, .tup [.str "open", .non, .tup [], .tup (((r.1,1)::st).map io)]]= .ok (.bl true):=by
 have l0:(0:Nat)<=lim:=by decide
 have l3:(3:Nat)<=lim:=by decide
 have e1:=j0 (pd:= .tup (rd.map aT)) (ps:=rd) (.inr rfl)
 have i2:=tH c.rnd r.1
 have l1:=c.len
 have l2:=c.ten
 have hls:=j3 (n:=n) (ss:=ss) (rs:=rs') (rd:=rd) (by omega) (by omega)
 have hri:=ve c hr hw hst
 obtain⟨seen,hf,_,hm⟩:=j4 (ss:=bf ss rd r.1) (sd:= .lst ((bf ss rd r.1).map av)) (p:=r.2.1) (.inl rfl) (c.others r.1) c.n7 (c.good.src r hr)
 have hin:cG false (.int r.2.2) (.lst (seen.map .int))=some (.bl true):=by rw[mV,decide_eq_true ((hm _).mpr ht)]
 have hs:ba [.tup [.str "open", .non, .tup []], .tup [.str "open", .non, .tup []]]= .ok (.bl true):=il (n:=2) (by omega) (.tup (by simp) fun d hd=>by
  simp only[List.mem_cons,List.not_mem_nil,or_false]at hd
  rcases hd with rfl|rfl|rfl
  ·exact .str _ _
  ·exact .non _
  ·exact tR _)
 generalize hF:D.tup (((r.1,1)::st).map io)=F at hri ⊢
 refine aL rfl ?_
 show cy [some (.val (aH n ss rs' rd)),some (.val (av r)),some (.val (.tup [.str "open", .non, .tup [],F])),none,none,none]=_
 unfold cy
 rw[au (ρ':=[some (.val (aH n ss rs' rd)),some (.val (av r)),some (.val (.tup [.str "open", .non, .tup [],F])),none,none,none]) rfl,
  au (ρ':=[some (.val (aH n ss rs' rd)),some (.val (av r)),some (.val (.tup [.str "open", .non, .tup [],F])),some (.val (.dic (jW rd))),none,none]) (by simp! [aH,G5,e1]),
  au (ρ':=[some (.val (aH n ss rs' rd)),some (.val (av r)),some (.val (.tup [.str "open", .non, .tup [],F])),some (.val (.dic (jW rd))),none,none]) (by simp! [av,dF,i2,h]),
  au (tO (i:=4) (r:=r) c (f:=ax bP 1 (aa (ao 0) (ai))) (ρ:=[some (.val (aH n ss rs' rd)),some (.val (av r)),some (.val (.tup [.str "open", .non, .tup [],F])),some (.val (.dic (jW rd))),none,none]) (by simp! [hls]) rfl)]
 refine fj ?_
 have hfl:fT (f2 (cG false) (f2 bq (af 1) (fC (.int 2))) (ax dc 2 (aa (ao 4) (aa (f2 bq (af 1) (fC (.int 1))) (ai))))) [some (.val (aH n ss rs' rd)),some (.val (av r)),some (.val (.tup [.str "open", .non, .tup [],F])),some (.val (.dic (jW rd))),some (.val (.lst ((bf ss rd r.1).map av))),none]= .ok true:=by
  simp! [av,i_,BB,hf,hin]
 have hb:aw (cF (eJ (cp (ax ba 2 (aa (yE (af 2) (jK) (jL (fC (.int 3)))) (aa (cn (aa (fC (.str "open")) (aa (fC .non) (aa (cn (ai)) (ai))))) (ai)))))) (aX (fC (.bl false))) (aJ)) (aX (ax eB 3 (aa (ao 0) (aa (ao 1) (aa (f2 bq (af 2) (fC (.int 3))) (ai)))))) [some (.val (aH n ss rs' rd)),some (.val (av r)),some (.val (.tup [.str "open", .non, .tup [],F])),some (.val (.dic (jW rd))),some (.val (.lst ((bf ss rd r.1).map av))),none]= .ok (.ret (.bl true)):=by
  simp! [yE,jK,jL,sl3,l0,l3,hs,G5,hri]
 show cF _ _ _ _=_
 unfold cF at hb ⊢
 exact Eq.trans (congrArg (·>>=_) hfl) hb
theorem vf (c:d6 n ss rs' rd) {r:bb} (hr:r∈ss) (h:r.1∉rd.map (·.1)) (ht:¬kD (bf ss rd r.1) r.2.1 r.2.2) {g:List Int} (G:si n ss rd r g):
  bS [aH n ss rs' rd,av r, .tup [.str "known", .int (d7 r.2.1 r.2.2 g*(rs rs' g - gO ss rd g)),bD g, .tup []]]= .ok (.bl true):=by
 have l1:=c.len
 have l2:=c.ten
 have l0:(0:Nat)<=lim:=by decide
 have k1:(1:Nat)<=lim:=by decide
 have k2:(2:Nat)<=lim:=by decide
 have e1:=j0 (pd:= .tup (rd.map aT)) (ps:=rd) (.inr rfl)
 have i2:=tH c.rnd r.1
 have hls:=j3 (n:=n) (ss:=ss) (rs:=rs') (rd:=rd) (by omega) (by omega)
 have hn:=BV c hr h G
 have hpa:=wJ c hr h G
 obtain⟨seen,hf,_,hm⟩:=j4 (ss:=bf ss rd r.1) (sd:= .lst ((bf ss rd r.1).map av)) (p:=r.2.1) (.inl rfl) (c.others r.1) c.n7 (c.good.src r hr)
 have hin:cG false (.int r.2.2) (.lst (seen.map .int))=some (.bl false):=by rw[mV,decide_eq_false fun z=>ht ((hm _).mp z)]
 have hs1:ba [.str "known", .str "known"]= .ok (.bl true):=il (n:=1) (by omega) (.str _ _)
 have hs2:ba [.tup [], .tup []]= .ok (.bl true):=il (n:=1) (by omega) (tR _)
 generalize hA:d7 r.2.1 r.2.2 g*(rs rs' g - gO ss rd g)=A at hn ⊢
 have hwh:=sh A
 have hadd:c_ (.tup (rd.map aT)) (.tup [.tup [.int r.1, .int A]])=some (.tup ((rd++[(r.1,A)]).map aT)):=by
  rw[wz (by simp[lim];omega),List.map_append];rfl
 generalize hF:D.tup [.str "known", .int A,bD g, .tup []]=F
 have f0:bq F (.int 0)=some (.str "known"):=by rw[<-hF];rfl
 have f1:bq F (.int 1)=some (.int A):=by rw[<-hF];rfl
 have f2':bq F (.int 2)=some (bD g):=by rw[<-hF];exact I_
 have f3:bq F (.int 3)=some (.tup []):=by rw[<-hF];exact G5
 refine aL rfl ?_
 show cy [some (.val (aH n ss rs' rd)),some (.val (av r)),some (.val F),none,none,none]=_
 unfold cy
 rw[au (ρ':=[some (.val (aH n ss rs' rd)),some (.val (av r)),some (.val F),none,none,none]) (by rw[<-hF];rfl),
  au (ρ':=[some (.val (aH n ss rs' rd)),some (.val (av r)),some (.val F),some (.val (.dic (jW rd))),none,none]) (by simp! [aH,G5,e1]),
  au (ρ':=[some (.val (aH n ss rs' rd)),some (.val (av r)),some (.val F),some (.val (.dic (jW rd))),none,none]) (by simp! [av,dF,i2,h]),
  au (tO (i:=4) (r:=r) c (f:=ax bP 1 (aa (ao 0) (ai))) (ρ:=[some (.val (aH n ss rs' rd)),some (.val (av r)),some (.val F),some (.val (.dic (jW rd))),none,none]) (by simp! [hls]) rfl),
  au (ρ':=[some (.val (aH n ss rs' rd)),some (.val (av r)),some (.val F),some (.val (.dic (jW rd))),some (.val (.lst ((bf ss rd r.1).map av))),none]) (by simp! [av,i_,BB,hf,hin]),
  au (ρ':=[some (.val (aH n ss rs' rd)),some (.val (av r)),some (.val F),some (.val (.dic (jW rd))),some (.val (.lst ((bf ss rd r.1).map av))),none]) (by simp! [f0,f3,l0,hs1,hs2]),
  au (ρ':=[some (.val (aH n ss rs' rd)),some (.val (av r)),some (.val F),some (.val (.dic (jW rd))),some (.val (.lst ((bf ss rd r.1).map av))),none]) (by
   have:bq (av r) (.int 0)=some (.int r.1):=rfl
   simp! [this,f1,f2',hpa,hwh]),
  au (wC (BU c G.rng G.len (by simp! [f2']) rfl))]
 simp! [aH,G5,i_,av,dF,f1,f2',k1,k2,hadd,hn]
end
section
variable {ss:List bb}
def j7 (ss:List bb):List Int:=((List.range 66).map fun k:Nat=> -2+(k:Int)).filter fun k=>decide (k∉ss.map (·.1))
theorem sj (h:ss.length<=12):0<(j7 ss).length/\(j7 ss).length<=66:=by
 refine⟨?_,Nat.le_trans (List.length_filter_le _ _) (by simp)⟩
 rcases Nat.eq_zero_or_pos (j7 ss).length with z|z
 ·exfalso
  have hall:∀k∈(List.range 66).map fun k:Nat=> -2+(k:Int),k∈ss.map (·.1):=fun k hk=>by
   rcases Classical.em (k∈ss.map (·.1))with q|q
   ·exact q
   ·have:k∈j7 ss:=List.mem_filter.mpr ⟨hk,by simpa using q⟩
    rw[List.length_eq_zero_iff.mp z]at this
    cases this
  have hnd:((List.range 66).map fun k:Nat=> -2+(k:Int)).Nodup:=by
   unfold List.Nodup
   rw[List.pairwise_map]
   exact(List.nodup_range (n:=66)).imp fun {a b} hab=>by omega
  have:=L2.Pu.js hnd hall
  simp at this
  omega
 ·exact z
theorem zi {k:Int} (h:k∈j7 ss):∀r∈ss,r.1≠k:=fun r hr z=>by
 have:=(List.mem_filter.mp h).2
 simp only[decide_eq_true_eq]at this
 exact this (List.mem_map.mpr ⟨r,hr,z⟩)
end
theorem G9 (ns:List Int):aB [.scr ns, .int 49]= .ok (.int (cl ns 49)):=gr ns 49
theorem BW {n:Nat} {ss:List bb} {rs:List Int} {rd:List (Int×Int)} {ρ:aq} {i:Nat} {N:List Str} (l1:ss.length<=12) (hin:kA N [(".0", .local),("_law_number", .local),("_law_case_here", .free)] ρ=[none,none,some (.val (aH n ss rs rd))]):
  oN i (eD N [(".0", .local),("_law_number", .local),("_law_case_here", .free)] (jc (aa (f1 kR (fC (.int 2))) (aa (fC (.int 64)) (ai)))) (gN 1) (fT (f2 (cG true) (af 1) (fL (eD [".0","_law_number","_law_case_here"] [(".0", .local),("_law_stream", .local)] (cz (f2 bq (af 2) (fC (.int 1)))) (gN 1) (jF) (f2 bq (af 1) (fC (.int 0))))))) (ao 1)) ρ
   = .ok (.nx (ρ.set i (some (.own (.lst ((j7 ss).map .int)))))):=by
 have e2:(jc (aa (f1 kR (fC (.int 2))) (aa (fC (.int 64)) (ai)))) ρ= .ok (((List.range 66).map fun k:Nat=> -2+(k:Int)).map .int):=by
  unfold jc
  simp! []
  rw[if_pos (by decide)]
  unfold iu
  rw[List.map_map]
  rfl
 exact own_of (fq (τ:=[none,none,some (.val (aH n ss rs rd))]) e2 (by simp[lim]) hin (ku (f:=D.int) (e:=D.int) (p:=fun k:Int=>decide (k∉ss.map (·.1))) _ (fun k _=>by
   have h1:=sT (fq (N:=[".0","_law_number","_law_case_here"]) (names:=[(".0", .local),("_law_stream", .local)]) (fi:=cz (f2 bq (af 2) (fC (.int 1)))) (g:=gN 1) (gt:=jF) (fe:=f2 bq (af 1) (fC (.int 0))) (ρ:=[none,some (.val (.int k)),some (.val (aH n ss rs rd))]) (ds:=ss.map av) (τ:=[none,none]) (by simp! [aH,i_]) (by simp[lim];omega) rfl (ku (e:=fun r:bb=>D.int r.1) (p:=fun _=>true) ss (fun _ _=>rfl) (fun r _ _=>by simp! [av,dF]) _))
   have h2:(ss.filter fun _=>true).map (fun r:bb=>D.int r.1)=(ss.map (·.1)).map .int:=by rw[List.filter_eq_self.mpr (fun _ _=>rfl),List.map_map];rfl
   rw[h2]at h1
   simp only[fT,f2,af,List.getElem?_cons_zero,List.getElem?_cons_succ,kS,ay,h1,iO,cg,decide_not]) (fun _ _ _=>rfl) _))
theorem DK {ss:List bb} (l1:ss.length<=12) (x:Int):∃(j:Nat),x%((j7 ss).length:Int)=(j:Int)/\∃h:j<(j7 ss).length,L2.atI ((j7 ss).map D.int) (j:Int)=some (.int (j7 ss)[j]):=by
 obtain⟨f1,_⟩:=sj (ss:=ss) l1
 have b1:=Int.emod_nonneg x (show ((j7 ss).length:Int)≠0 by omega)
 have b2:=Int.emod_lt_of_pos x (show (0:Int)<((j7 ss).length:Int) by omega)
 refine⟨(x%((j7 ss).length:Int)).toNat,by omega,by omega,?_⟩
 rw[eL (by rw[List.length_map];omega)];simp
section
variable {n:Nat} {ss:List bb} {rs':List Int} {rd:List (Int×Int)}
theorem BX {k:Int} {z:D} (h:b_ [aF n ss rs' rd, .int k]= .ok z):cE [aF n ss rs' rd, .int k]= .ok (.lst [z, .str ""]):=by
 refine aL rfl ?_
 show eY [some (.val (aF n ss rs' rd)),some (.val (.int k)),none,none,none]=_
 unfold eY
 rw[au (ρ':=[some (.val (aF n ss rs' rd)),some (.val (.int k)),some (.own (.lst [])),none,none]) rfl]
 refine fj ?_
 have l2:(2:Nat)<=lim:=by decide
 have e:aX (ir (aa (ax b_ 2 (aa (ao 0) (aa (ao 1) (ai)))) (aa (fC (.str "")) (ai)))) [some (.val (aF n ss rs' rd)),some (.val (.int k)),some (.own (.lst [])),none,none]= .ok (.ret (.lst [z, .str ""])):=by
  simp! [h,l2]
 unfold yJ
 rw[e]
theorem xP {f:aq->R D} {fs:aq->R (List D)} {ρ ρ':aq} {x:Str} (h:f ρ= .err x ρ'):aX (ir (aa f fs)) ρ= .err x ρ':=by
 unfold aX ir aa
 rw[h];rfl
theorem vg {k:Int} {ρ:aq} (h:b_ [aF n ss rs' rd, .int k]= .err "Clashing" ρ):cE [aF n ss rs' rd, .int k]= .ok (.lst [.non, .str "Clashing"]):=by
 refine aL rfl ?_
 show eY [some (.val (aF n ss rs' rd)),some (.val (.int k)),none,none,none]=_
 unfold eY
 have e:aX (ir (aa (ax b_ 2 (aa (ao 0) (aa (ao 1) (ai)))) (aa (fC (.str "")) (ai)))) [some (.val (aF n ss rs' rd)),some (.val (.int k)),some (.own (.lst [])),none,none]= .err "Clashing" [some (.val (aF n ss rs' rd)),some (.val (.int k)),some (.own (.lst [])),none,none]:=xP (qG (cJ rfl (cJ rfl rfl)) rfl h)
 rw[au (ρ':=[some (.val (aF n ss rs' rd)),some (.val (.int k)),some (.own (.lst [])),none,none]) rfl,
  au (ρ':=[some (.val (aF n ss rs' rd)),some (.val (.int k)),some (.own (.lst [.bl true, .bl false, .bl true])),none,none]) (by unfold yJ;rw[e];rfl)]
 rfl
theorem rb {k:Int} {ρ:aq} (h:b_ [aF n ss rs' rd, .int k]= .err "UnknownStream" ρ):cE [aF n ss rs' rd, .int k]= .ok (.lst [.non, .str "UnknownStream"]):=by
 refine aL rfl ?_
 show eY [some (.val (aF n ss rs' rd)),some (.val (.int k)),none,none,none]=_
 unfold eY
 have e:aX (ir (aa (ax b_ 2 (aa (ao 0) (aa (ao 1) (ai)))) (aa (fC (.str "")) (ai)))) [some (.val (aF n ss rs' rd)),some (.val (.int k)),some (.own (.lst [])),none,none]= .err "UnknownStream" [some (.val (aF n ss rs' rd)),some (.val (.int k)),some (.own (.lst [])),none,none]:=xP (qG (cJ rfl (cJ rfl rfl)) rfl h)
 rw[au (ρ':=[some (.val (aF n ss rs' rd)),some (.val (.int k)),some (.own (.lst [])),none,none]) rfl,
  au (ρ':=[some (.val (aF n ss rs' rd)),some (.val (.int k)),some (.own (.lst [.bl false, .bl true, .bl true])),none,none]) (by unfold yJ;rw[e];rfl)]
 rfl
theorem BY (c:d6 n ss rs' rd) {B:Int->List Int} (hB:∀p:Int,0<=p/\p<=n->oF (bA ss rd) p (B p)) {r:bb} (hr:r∈ss) {a0 x5 x6:Option Slot}:
  ∃y5,t5 [a0,some (.val (aH n ss rs' rd)),some (.val (aF n ss rs' rd)),some (.val (.bl (!(bB B rs' ss rd (bC n)).isEmpty))),some (.val (av r)),x5,x6]
  = .ok (.nx [a0,some (.val (aH n ss rs' rd)),some (.val (aF n ss rs' rd)),some (.val (.bl (!(bB B rs' ss rd (bC n)).isEmpty))),some (.val (av r)),y5,x6]):=by
 have l2:(2:Nat)<=lim:=by decide
 have ec:∀(b:Bool) (f:D),cE [aF n ss rs' rd, .int r.1]= .ok f->aY (ax cE 2 (aa (ao 2) (aa (f2 bq (af 4) (fC (.int 0))) (ai)))) (gN 5) [a0,some (.val (aH n ss rs' rd)),some (.val (aF n ss rs' rd)),some (.val (.bl b)),some (.val (av r)),x5,x6]
   = .ok (.nx [a0,some (.val (aH n ss rs' rd)),some (.val (aF n ss rs' rd)),some (.val (.bl b)),some (.val (av r)),some (.val f),x6]):=fun b f hf=>by simp! [av,dF,hf]
 unfold t5
 by_cases hC:bB B rs' ss rd (bC n)=[]
 ·have he:(!(bB B rs' ss rd (bC n)).isEmpty)=false:=by rw[hC];rfl
  rw[he]
  have fin:∀z,b_ [aF n ss rs' rd, .int r.1]= .ok z->bS [aH n ss rs' rd,av r,z]= .ok (.bl true)->∃y5,aw (aY (ax cE 2 (aa (ao 2) (aa (f2 bq (af 4) (fC (.int 0))) (ai)))) (gN 5))
    (aw (cF (fT (f2 oZ (f2 bq (af 5) (fC (.int 1))) (f2 bq (ir (aa (fC (.str "")) (aa (fC (.str "Clashing")) (ai)))) (d5 v_ (aa (af 3) (ai))))))
    (aX (fC (.bl false)))
    (aJ))
    (cF (oK (eJ (cp (af 3))) (eJ (cp (ax bS 3 (aa (ao 1) (aa (ao 4) (aa (f2 bq (af 5) (fC (.int 0))) (ai))))))))
    (aX (fC (.bl false)))
    (aJ))) [a0,some (.val (aH n ss rs' rd)),some (.val (aF n ss rs' rd)),some (.val (.bl false)),some (.val (av r)),x5,x6]= .ok (.nx [a0,some (.val (aH n ss rs' rd)),some (.val (aF n ss rs' rd)),some (.val (.bl false)),some (.val (av r)),y5,x6]):=fun z h1 h2=>by
   refine⟨some (.val (.lst [z, .str ""])),Eq.trans (au (ec false _ (BX h1))) ?_⟩
   rw[au (ρ':=[a0,some (.val (aH n ss rs' rd)),some (.val (aF n ss rs' rd)),some (.val (.bl false)),some (.val (av r)),some (.val (.lst [z, .str ""])),x6]) rfl]
   simp! [dF,h2]
  rcases DJ c hB hC hr with ⟨p,hp,hpe,e⟩|⟨h1,h2,g,G,e⟩|⟨h1,h2,st,qs,hw,hst,e⟩
  ·exact fin _ e (r9 c hp hpe)
  ·exact fin _ e (vf c hr h1 h2 G)
  ·exact fin _ e (wK c hr h1 h2 hw hst)
 ·have he:(!(bB B rs' ss rd (bC n)).isEmpty)=true:=by
   cases e:bB B rs' ss rd (bC n)with
   |nil=>exact absurd e hC
   |cons a b=>rfl
  rw[he]
  obtain⟨ρ,e⟩:=wI c hB hC hr
  refine⟨some (.val (.lst [.non, .str "Clashing"])),Eq.trans (au (ec true _ (vg e))) ?_⟩
  rw[au (ρ':=[a0,some (.val (aH n ss rs' rd)),some (.val (aF n ss rs' rd)),some (.val (.bl true)),some (.val (av r)),some (.val (.lst [.non, .str "Clashing"])),x6]) rfl]
  rfl
end
theorem main (ns:List Int) (_:ns.length<=63):rR [.scr ns]= .ok (.bl true):=by
 obtain⟨n,ss,rs',rd,ec,c⟩:=yV ns
 have l1:=c.len
 have l2:=c.ten
 have l0:(0:Nat)<=lim:=by decide
 have hd:=Br ns c
 have hk:=yZ c
 obtain⟨B,hB⟩:=Bz c.inRl c.n7
 have h2:=BA c hB
 have hne:Dd (.tup ((bB B rs' ss rd (bC n)).map nB)) (.tup [])=some (.bl (!(bB B rs' ss rd (bC n)).isEmpty)):=by
  show some (D.bl (!((bB B rs' ss rd (bC n)).map nB).isEmpty))=_
  rw[List.isEmpty_map]
 refine aL rfl ?_
 show B2 [some (.val (.scr ns)),none,none,none,none,none,none]=_
 unfold B2
 rw[au (ρ':=[some (.val (.scr ns)),some (.val (aH n ss rs' rd)),none,none,none,none,none]) (by simp! [ec]),
  au (ρ':=[some (.val (.scr ns)),some (.val (aH n ss rs' rd)),some (.val (aF n ss rs' rd)),none,none,none,none]) (by simp! [hd]),
  au (ρ':=[some (.val (.scr ns)),some (.val (aH n ss rs' rd)),some (.val (aF n ss rs' rd)),some (.val (.bl (!(bB B rs' ss rd (bC n)).isEmpty))),none,none,none]) (by simp! [h2,l0,hne])]
 obtain⟨ρ',el,y4,y5,y6,rfl⟩:=uY (g:=gN 4) (gb:=t5) (P:=fun ρ=>∃y4 y5 y6,ρ=[some (.val (.scr ns)),some (.val (aH n ss rs' rd)),some (.val (aF n ss rs' rd)),some (.val (.bl (!(bB B rs' ss rd (bC n)).isEmpty))),y4,y5,y6]) (ss.map av) (fun d hd ρ hρ=>by
  obtain⟨r,hr,rfl⟩:=List.mem_map.mp hd
  obtain⟨y4,y5,y6,rfl⟩:=hρ
  obtain⟨z5,e⟩:=BY c hB hr (a0:=some (.val (.scr ns))) (x5:=y5) (x6:=y6)
  exact⟨_,_,rfl,e,_,_,_,rfl⟩) _ ⟨none,none,none,rfl⟩
 rw[au ((eC (ds:=ss.map av) (by simp! [aH,i_])).trans el)]
 rw[au (BW l1 (i:=6) (N:=["_law_script","_law_case_here","_law_day_here","_law_clash","_law_stream","_law_found","_law_others"]) rfl)]
 obtain⟨j,hj,hjl,hix⟩:=DK (ss:=ss) l1 (cl ns 49)
 obtain⟨f1,f2'⟩:=sj (ss:=ss) l1
 have hp:(0:Int)<((j7 ss).length:Int):=by omega
 obtain⟨ρ,hu⟩:=BR (n:=n) (rs':=rs') (rd:=rd) (zi (ss:=ss) (List.getElem_mem hjl))
 have ha:=rb hu
 rw[au (ρ':=[some (.val (.scr ns)),some (.val (aH n ss rs' rd)),some (.val (aF n ss rs' rd)),some (.val (.bl (!(bB B rs' ss rd (bC n)).isEmpty))),y4,some (.val (.lst [.non, .str "UnknownStream"])),some (.own (.lst ((j7 ss).map .int)))]) (by simp! [G9,List.length_map,bO hp,hj,hix,ha])]
 have hs:jY (.str "UnknownStream") (.str "UnknownStream")=some (.bl true):=rfl
 simp! [i_,hs,hk]
end My
end
namespace PySem.W.Fast
theorem tw10125892865051998437:True:=.intro
theorem tw10156315204520503600:True:=.intro
theorem tw10181728709919087265:True:=.intro
theorem tw10208742629703785856:True:=.intro
theorem tw10344646149768486183:True:=.intro
theorem tw10601158410242986638:True:=.intro
theorem tw10881618134704705927:True:=.intro
theorem tw11086626526633113255:True:=.intro
theorem tw11197996868225813969:True:=.intro
theorem tw11404491038012937357:True:=.intro
theorem tw1169534539379486003:True:=.intro
theorem tw11780304776928383247:True:=.intro
theorem tw11811119046912344004:True:=.intro
theorem tw11976197193949601929:True:=.intro
theorem tw12165057731394388043:True:=.intro
theorem tw12294842727458114198:True:=.intro
theorem tw12341855438393433818:True:=.intro
theorem tw12418448524654081179:True:=.intro
theorem tw1256957367225621583:True:=.intro
theorem tw12820800090140223756:True:=.intro
theorem tw12934584442409408876:True:=.intro
theorem tw12959465354984429768:True:=.intro
theorem tw12999160713917691939:True:=.intro
theorem tw13078754764758840096:True:=.intro
theorem tw13308589416541802517:True:=.intro
theorem tw13351425750603687212:True:=.intro
theorem tw13544615297178682111:True:=.intro
theorem tw13632315698489854650:True:=.intro
theorem tw13682159061752660767:True:=.intro
theorem tw13719193317402627404:True:=.intro
theorem tw13925317056553139199:True:=.intro
theorem tw13929857949810613584:True:=.intro
theorem tw13992622129544708892:True:=.intro
theorem tw14015558128199196087:True:=.intro
theorem tw14148659268715466387:True:=.intro
theorem tw14385143584229947689:True:=.intro
theorem tw14471120917607666428:True:=.intro
theorem tw14632126173707293987:True:=.intro
theorem tw14790772612313142779:True:=.intro
theorem tw14874147752795357876:True:=.intro
theorem tw14913883786555577804:True:=.intro
theorem tw15019418298545973573:True:=.intro
theorem tw17372036375721755292:True:=.intro
theorem tw1757032244451477655:True:=.intro
theorem tw17719466982397659004:True:=.intro
theorem tw17755354709387575787:True:=.intro
theorem tw18432629932411699107:True:=.intro
theorem tw1937875104545715668:True:=.intro
theorem tw2101400481493077058:True:=.intro
theorem tw2409355637509482006:True:=.intro
theorem tw2778174815317130322:True:=.intro
theorem tw2779935474967097145:True:=.intro
theorem tw2793167632535121661:True:=.intro
theorem tw3028322192970034191:True:=.intro
theorem tw3108633310321985664:True:=.intro
theorem tw3137086633713604704:True:=.intro
theorem tw3317355044023586620:True:=.intro
theorem tw3480046746858836123:True:=.intro
theorem tw3594012634496481345:True:=.intro
theorem tw3610293953337886446:True:=.intro
theorem tw3727597763939568277:True:=.intro
theorem tw3736316074619675323:True:=.intro
theorem tw3831166465538452596:True:=.intro
theorem tw3853940271503982568:True:=.intro
theorem tw3887163717864398528:True:=.intro
theorem tw4063107268908607772:True:=.intro
theorem tw4064842157358516414:True:=.intro
theorem tw4095152423361649880:True:=.intro
theorem tw4099321091566218948:True:=.intro
theorem tw4117995081893736079:True:=.intro
theorem tw4274445333117917959:True:=.intro
theorem tw496118318258759896:True:=.intro
theorem tw5049808869047986424:True:=.intro
theorem tw5064648738268651384:True:=.intro
theorem tw528017313220007895:True:=.intro
theorem tw5533973373502168370:True:=.intro
theorem tw6049016320922365556:True:=.intro
theorem tw6129661938776589139:True:=.intro
theorem tw6246100788613521143:True:=.intro
theorem tw6539003141941901533:True:=.intro
theorem tw6793448195907625357:True:=.intro
theorem tw6840132359520175035:True:=.intro
theorem tw7026593155904908342:True:=.intro
theorem tw7053790273360353700:True:=.intro
theorem tw7243612107320940531:True:=.intro
theorem tw7491753148066717169:True:=.intro
theorem tw749472439609765036:True:=.intro
theorem tw7660372022101178337:True:=.intro
theorem tw8484119980853859901:True:=.intro
theorem tw859676992815982797:True:=.intro
theorem tw8676128358117506784:True:=.intro
theorem tw8721976912932809588:True:=.intro
theorem tw8824307087467759599:True:=.intro
theorem tw8922341551319360765:True:=.intro
theorem tw9070046937039671125:True:=.intro
theorem tw9348947998308224263:True:=.intro
theorem tw989076917700613770:True:=.intro
end PySem.W.Fast
open PySem PySem.W PyProof.Rows
set_option maxRecDepth 100000 in
set_option maxHeartbeats 0 in
theorem PySem.Challenge.cw_tankbalance_k13_told_holds : PySem.Challenge.rw_tankbalance_k13_told.Holds := by
  w_on; o_law; k_head; (case hw => w_witness2)
  k_fill
  refine My.walk (l := PySem.Challenge.rw_tankbalance_k13_told) rfl rfl (fun w h Y => PySem.W.kIn_of Y) My.main ?F
  case F =>
    intro w mg fa h KX G hmg
    refine' My.FZ KX G hmg ?_ ?_ ?_ ?_ ?_ ?_ ?_ ?_ ?_ ?_ ?_ ?_ ?_ ?_ ?_ ?_ ?_ ?_ ?_ ?_ ?_ ?_ ?_ ?_ ?_ ?_ ?_ ?_ ?_ ?_ ?_ ?_ ?_ ?_ ?_ ?_ ?_ ?_ ?_ ?_ ?_ ?_ ?_ ?_ ?_ ?_ ?_ ?_ ?_ ?_ ?_ ?_ ?_ ?_ ?_ ?_ ?_ ?_ ?_ ?_ ?_ ?_ ?_ ?_ ?_ ?_ ?_ ?_ ?_ ?_ ?_ ?_ ?_ ?_ ?_ ?_ ?_ ?_ ?_ ?_ ?_ ?_ ?_ ?_ ?_ ?_ ?_ ?_ ?_ ?_ ?_ ?_ ?_ ?_ ?_ ?_ ?_ ?_ ?_ ?_ ?_ ?_ ?_ ?_ ?_ ?_ ?_ ?_ ?_ ?_ ?_ ?_ ?_ ?_ ?_ ?_ ?_ ?_ ?_ ?_ ?_ ?_ ?_ ?_ ?_ ?_ ?_ ?_ ?_ ?_ ?_ ?_ ?_ ?_ ?_ ?_ ?_ ?_ ?_ ?_ ?_ ?_ ?_ ?_ ?_ ?_ ?_ ?_ ?_ ?_ ?_ ?_ ?_ ?_ ?_ ?_ ?_ ?_ ?_ ?_ ?_ ?_ ?_ ?_ ?_ ?_ ?_ ?_ ?_ ?_ ?_ ?_ ?_ ?_ ?_ ?_ ?_ ?_ ?_ ?_ ?_ ?_ ?_ ?_ ?_ ?_ ?_ ?_ ?_ ?_ ?_ ?_ ?_ ?_ ?_ ?_ ?_ ?_ ?_ ?_ ?_ ?_ ?_ ?_ ?_ ?_ ?_ ?_ ?_ ?_ ?_ ?_ ?_ ?_ ?_ ?_ ?_ ?_ ?_ ?_ ?_ ?_ ?_ ?_ ?_ ?_ ?_ ?_ ?_ ?_ ?_ ?_ ?_ ?_ ?_ ?_ ?_ ?_ ?_ ?_ ?_ ?_ ?_ ?_ ?_ ?_ ?_ ?_ ?_ ?_ ?_ ?_ ?_
    all_goals try first | k_is | k_exc
