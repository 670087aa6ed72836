import PyProof.Rows.All
import Wide.All
import OpenK.AllK
import Wide.FinOn
import Lean
import PyProof.EqAt
import PyProof.EqKinds
import PyProof.TupleCall
import PyProof.NeKinds
import PyProof.NsDelKeeps
import PyProof.ExcArgs
import PyProof.ExcAttrAll.ValueError
import PyProof.Rows.SortRunsK
import PyProof.CompUse
import PyProof.TupleOfSeq
import PyProof.CollectIter
import KE.KRevIter
import PyProof.DictFindH
import PyProof.Walk
import PyProof.DictWalks
import PySem.Challenge.RW_selfsight_k17_walks_gone_along
set_option maxHeartbeats 4000000
set_option linter.all false
set_option maxRecDepth 100000
set_option Elab.async false
local macro_rules
 |`(tactic|trivial)=>`(tactic|exact Or.inr (Or.inr rfl))
local macro_rules
 |`(tactic|trivial)=>`(tactic|exact Or.inr (Or.inl rfl))
local macro_rules
 |`(tactic|trivial)=>`(tactic|exact Or.inr rfl)
local macro_rules
 |`(tactic|trivial)=>`(tactic|exact Or.inl rfl)
namespace L2
open PySem PySem.Spec PyProof.Rows
abbrev Y3:=Sum Int Str
def Lw:Y3->Value->Bool
 |.inl k,v=>Value.isInt k v
 |.inr x,v=>Value.isStrOf x v
def Zob (w:World):Y3->Int
 |.inl k=>hashInt k
 |.inr x=>hashStr w x
def Y4:∀{k:Y3}{v:Value},Lw k v=true->(∃i t,k=Sum.inl i/\v=Value.int i t)\/(∃x t,k=Sum.inr x/\v=Value.str x t)
 |.inl i,v,h=>by
  obtain⟨t,e⟩:=Value.isInt_shape (k:=i) (v:=v) h
  exact .inl ⟨i,t,rfl,e⟩
 |.inr x,v,h=>by
  obtain⟨t,e⟩:=Value.isStrOf_shape (x:=x) (v:=v) h
  exact .inr ⟨x,t,rfl,e⟩
def O1 (i:Int)(t:Tok):Lw (.inl i) (.int i t)=true:=by simp[Lw,Value.isInt]
def O2 (x:Str)(t:Tok):Lw (.inr x) (.str x t)=true:=by simp[Lw,Value.isStrOf]
def Zis (a b:Int):decide ((Sum.inl a:Y3)=Sum.inl b)=(a==b):=by
 by_cases e:a=b
 ·subst e;simp
 ·have h:¬(Sum.inl a:Y3)=Sum.inl b:=fun q=>e (Sum.inl.inj q)
  rw[decide_eq_false h]
  exact(beq_eq_false_iff_ne.mpr e).symm
def Zit (a b:Str):decide ((Sum.inr a:Y3)=Sum.inr b)=decide (a=b):=by
 by_cases e:a=b
 ·subst e;simp
 ·have h:¬(Sum.inr a:Y3)=Sum.inr b:=fun q=>e (Sum.inr.inj q)
  rw[decide_eq_false h,decide_eq_false e]
def Ziu (a:Int)(b:Str):decide ((Sum.inl a:Y3)=Sum.inr b)=false:=decide_eq_false (fun q=>nomatch q)
def Ziv (a:Str)(b:Int):decide ((Sum.inr a:Y3)=Sum.inl b)=false:=decide_eq_false (fun q=>nomatch q)
def Xo (prog:Program)(w:World):PySem.KeyKind prog w Y3 where
 is:=Lw
 hash:=Zob w
 inj:=fun v a b ha hb=>by
  rcases Y4 ha with⟨i,t,rfl,rfl⟩|⟨x,t,rfl,rfl⟩
  ·rcases Y4 hb with⟨j,u,rfl,e⟩|⟨y,u,rfl,e⟩
   ·injection e with e1 _;rw[e1]
   ·exact nomatch e
  ·rcases Y4 hb with⟨j,u,rfl,e⟩|⟨y,u,rfl,e⟩
   ·exact nomatch e
   ·injection e with e1 _;rw[e1]
 byValue:=fun k v h=>by
  rcases Y4 h with⟨i,t,rfl,rfl⟩|⟨x,t,rfl,rfl⟩<;>rfl
 pyHash:=fun hv h=>by
  rcases Y4 hv with⟨i,t,rfl,rfl⟩|⟨x,t,rfl,rfl⟩
  ·exact wpAny_pyHash_int h
  ·exact wpAny_pyHash_str h
 eqBool:=fun hu hv h=>by
  rcases Y4 hu with⟨i,t,rfl,rfl⟩|⟨x,t,rfl,rfl⟩
  ·rcases Y4 hv with⟨j,u,rfl,rfl⟩|⟨y,u,rfl,rfl⟩
   ·rw[Zis] at h;exact wpAny_eqBool_int h
   ·rw[Ziu] at h;exact SeqAt.EqAt.int_str i t y u _ _ _ _ h
  ·rcases Y4 hv with⟨j,u,rfl,rfl⟩|⟨y,u,rfl,rfl⟩
   ·rw[Ziv] at h;exact SeqAt.EqAt.str_int x t j u _ _ _ _ h
   ·rw[Zit] at h;exact wpAny_eqBool_str h
 «strs»:=fun k x t v h=>by
  rcases Y4 h with⟨i,u,rfl,e⟩|⟨y,u,rfl,e⟩
  ·exact nomatch e
  ·injection e with e1 _
   subst e1
   cases v<;>rfl
def Ay (prog:Program)(w:World)(i:Int)(t:Tok):(Xo prog w).is (.inl i) (.int i t)=true:=O1 i t
def Az (prog:Program)(w:World)(x:Str)(t:Tok):(Xo prog w).is (.inr x) (.str x t)=true:=O2 x t
inductive V where
 |non|bl (b:Bool)|int (i:Int)|str (x:Str)|byt (b:Array UInt8)|flt (b:UInt64)|ref (a:Addr)|ty (n:String)
 deriving DecidableEq
def RelV:V->Value->Prop
 |.non,u=>u=Value.none
 |.bl b,u=>u=Value.bool b
 |.int i,u=>∃t,u=Value.int i t
 |.str x,u=>∃t,u=Value.str x t
 |.byt b,u=>∃t,u=Value.bytes b t
 |.flt b,u=>∃t,u=Value.float b t
 |.ref a,u=>u=Value.ref a
 |.ty n,u=>u=Value.type n
abbrev Vals:List V->List Value->Prop:=Paired RelV
theorem Vals.length {xs:List V}{us:List Value}(r:Vals xs us):xs.length=us.length:=Paired.length r
theorem Vals.get:∀{xs:List V}{us:List Value}{i:Nat}{x:V},Vals xs us->xs[i]?=some x->∃u,us[i]?=some u/\RelV x u
 |_,_,_,_,.nil,e=>by simp at e
 |_,_,0,_,.cons r _,e=>by simp at e;subst e;exact⟨_,rfl,r⟩
 |_,_,i+1,x,.cons _ t,e=>by
  obtain⟨u,h1,h2⟩:=Vals.get (i:=i) (x:=x) t (by simpa using e)
  exact⟨u,by simpa using h1,h2⟩
theorem Vals.append:∀{xs ys:List V}{us ws:List Value},Vals xs us->Vals ys ws->Vals (xs++ys) (us++ws)
 |_,_,_,_,.nil,s=>s
 |_,_,_,_,.cons r t,s=>.cons r (Vals.append t s)
theorem Vals.take:∀{xs:List V}{us:List Value} (n:Nat),Vals xs us->Vals (xs.take n) (us.take n)
 |_,_,0,_=>.nil
 |_,_,_+1,.nil=>.nil
 |_,_,n+1,.cons r t=>.cons r (Vals.take n t)
theorem Vals.drop:∀{xs:List V}{us:List Value} (n:Nat),Vals xs us->Vals (xs.drop n) (us.drop n)
 |_,_,0,r=>r
 |_,_,_+1,.nil=>.nil
 |_,_,n+1,.cons _ t=>Vals.drop n t
def Vals.none_of:∀{xs:List V}{us:List Value}{i:Nat},Vals xs us->xs[i]?=none->us[i]?=none:=fun {xs us i} r e=>by
 have h1:=r.length
 have h2:xs.length<=i:=List.getElem?_eq_none_iff.mp e
 exact List.getElem?_eq_none_iff.mpr (by omega)
def RelO:Option V->Option Value->Prop
 |some v,some u=>RelV v u
 |none,none=>True
 |_,_=>False
def KV {κ:Type}:List (κ×V)->List (κ×Value)->Prop:=Paired fun(p:κ×V) (q:κ×Value)=>p.1=q.1/\RelV p.2 q.2
def kV:Y3->V
 |.inl i=>.int i
 |.inr x=>.str x
inductive HO where
 |lst (xs:List V)
 |tup (xs:List V)
 |dK (kvs:List (Y3×V))|dT (kvs:List (List Y3×V))
 |set (S:Int->Bool) (n:Nat)
 |ins (C dx:Addr) (fs:List (Str×V))
 |own (x:Addr)
 |xd (fs:List (Str×V))
 |met (f x:Addr)
 |rng (lo hi:Int)
 |frz (o:Obj) (u:HO)
 |tbl (l c:Value) (q:Str)
 |ext (φ:Heap->Prop)
abbrev Hp:=Addr->Option HO
def upd (H:Hp)(a:Addr)(o:HO):Hp:=fun b=>if b=a then some o else H b
def Z2 {H:Hp}{a:Addr}{o:HO}:upd H a o a=some o:=by unfold upd;rw[if_pos rfl]
def Zp {H:Hp}{a b:Addr}{o:HO}(h:b≠a):upd H a o b=H b:=by unfold upd;rw[if_neg h]
def Zhu {H:Hp}{a b:Addr}{o u:HO}(h:H a=some o)(h':H b=some u)(d:o≠u):a≠b:=by
 intro e;subst e;rw[h] at h';exact d (Option.some.inj h')
def Z9 {H:Hp}{a b:Addr}{o:HO}(h:H a=some o)(h':H b=none):a≠b:=by
 intro e;subst e;rw[h] at h';cases h'
section
variable (P:Program) (w:World)
def ObjOk (H:Hp)(h:Heap)(a:Addr):HO->Prop
 |.lst xs=>xs.length<=sizeLine/\∃(its:List Value) (n:Nat),Vals xs its/\h.get? a=some {cls:=.type "list", data:=.seq its.toArray n}
 |.tup xs=>xs.length<=sizeLine/\∃its:List Value,Vals xs its/\IsTup h a its.toArray
 |.dK kvs=>kvs.length<=sizeLine/\(a==sysModules)=false/\∃vs,KV kvs vs/\h.DictOf (Xo P w) a vs
 |.dT kvs=>kvs.length<=sizeLine/\(a==sysModules)=false/\∃xs:List (List Y3×Addr×Value),
   Paired (fun(p:List Y3×V) (q:List Y3×Addr×Value)=>p.1=q.1/\H q.2.1=some (.tup (p.1.map kV))/\RelV p.2 q.2.2) kvs xs /\
   ∃o es ep,h.get? a=some o/\o.ExactDict/\o.data=.dict es ep/\es.toList=xs.map (entryOfKey (tupleKind (Xo P w)))/\(xs.map (·.1)).Nodup
 |.set S n=>h.SetOf (intKind P w) a S n
 |.ins C dx fs=>H dx=some (.own a)/\fs.length<=1000/\dx≠a/\h.get? a=some (PySem.W.instObj C dx) /\
   ∃mA,h.Ns1 dx mA/\(∀f,RelO (fs.lookup f) (mA f))/\PySem.Within mA (fs.map (·.1))
 |.own _=>∃o,h.get? a=some o
 |.xd fs=>∃mA,h.Ns1 a mA/\∀f,RelO (fs.lookup f) (mA f)
 |.rng lo hi=>∃t u v,h.get? a=some {cls:=.type "range", data:=.fields #[.int lo t,.int hi u,.int 1 v]}
 |.frz o u=>h.get? a=some o/\ObjOk H h a u
 |.tbl l c q=>∃ps:Array Value,h.get? a=some {cls:=.none,data:=.fields ps}/\(ps=#[]\/∃(b:Addr) (ob:Obj) (vs:Array Value) (t:Tok),ps=#[l,c,.ref b]/\H b=some (.frz ob (.own 0))/\ob.data=.fields vs/\vs[1]?=some (.str q t))
 |.met f x=>h.get? a=some (PySem.W.methodObj (.ref f) (.ref x))
 |.ext φ=>φ h/\(∃o,h.get? a=some o)/\∀h1 h2:Heap,φ h1->(∀o,h1.get? a=some o->h2.get? a=some o)->φ h2
def HOk (H:Hp)(h:Heap):Prop:=∀a o,H a=some o->ObjOk P w H h a o
end
section
variable {P:Program}{w:World}{H H':Hp}{h h':Heap}{a:Addr}{o:HO}
theorem ObjOk.lt (x:ObjOk P w H h a o):a<h.objs.size:=by
 cases o with
 |lst xs=>obtain⟨_,_,_,_,e⟩:=x;exact Heap.lt_size e
 |tup xs=>obtain⟨_,_,_,p⟩:=x;exact p.lt
 |dK kvs=>obtain⟨_,_,_,_,o,_,_,e,_⟩:=x;exact Heap.lt_size e
 |dT kvs=>obtain⟨_,_,_,_,o,_,_,e,_⟩:=x;exact Heap.lt_size e
 |set S n=>obtain⟨o,_,_,_,e,_⟩:=x;exact Heap.lt_size e
 |ins C dx fs=>obtain⟨_,_,_,e,_⟩:=x;exact Heap.lt_size e
 |own y=>obtain⟨_,e⟩:=x;exact Heap.lt_size e
 |xd fs=>obtain⟨_,⟨_,_,_,e,_⟩,_⟩:=x;exact Heap.lt_size e
 |rng lo hi=>obtain⟨_,_,_,e⟩:=x;exact Heap.lt_size e
 |frz ob u=>obtain⟨e,_⟩:=x;exact Heap.lt_size e
 |tbl l c q=>obtain⟨_,e,_⟩:=x;exact Heap.lt_size e
 |met f y=>exact Heap.lt_size (show h.get? a=some _ from x)
 |ext φ=>obtain⟨_,⟨_,e⟩,_⟩:=x;exact Heap.lt_size e
theorem Paired.mapP {α β:Type}{F G:α->β->Prop}:∀{l₁:List α}{l₂:List β},Paired F l₁ l₂->(∀a b,F a b->G a b)->Paired G l₁ l₂
 |_,_,.nil,_=>.nil
 |_,_,.cons r t,f=>.cons (f _ _ r) (Paired.mapP t f)
def ObjOk.stay (x:ObjOk P w H h a o)(k:∀b u,(b=a\/H b=some (.own a))->h.get? b=some u->h'.get? b=some u)(ho:∀b,H b=some (.own a)->H' b=some (.own a))(ht:∀b xs,H b=some (.tup xs)->H' b=some (.tup xs))(hz:∀b o u,H b=some (.frz o u)->H' b=some (.frz o u)):ObjOk P w H' h' a o:=by
 induction o with
 |lst xs=>obtain⟨z,its,n,r,e⟩:=x;exact⟨z,its,n,r,k _ _ (.inl rfl) e⟩
 |tup xs=>obtain⟨z,its,r,ob,e,c⟩:=x;exact⟨z,its,r,ob,k _ _ (.inl rfl) e,c⟩
 |dK kvs=>obtain⟨z,y,vs,r,ob,es,ep,e,c⟩:=x;exact⟨z,y,vs,r,ob,es,ep,k _ _ (.inl rfl) e,c⟩
 |dT kvs=>
  obtain⟨z,y,xs,r,ob,es,ep,e,c⟩:=x
  exact⟨z,y,xs,Paired.mapP r fun p q z=>⟨z.1,ht _ _ z.2.1,z.2.2⟩,ob,es,ep,k _ _ (.inl rfl) e,c⟩
 |set S n=>obtain⟨ob,es,ep,t,e,c⟩:=x;exact⟨ob,es,ep,t,k _ _ (.inl rfl) e,c⟩
 |ins C dx fs=>
  obtain⟨d,z,ne,e,mA,⟨od,es,ep,e2,c⟩,r⟩:=x
  exact⟨ho _ d,z,ne,k _ _ (.inl rfl) e,mA,⟨od,es,ep,k _ _ (.inr d) e2,c⟩,r⟩
 |own y=>obtain⟨ob,e⟩:=x;exact⟨ob,k _ _ (.inl rfl) e⟩
 |xd fs=>obtain⟨mA,⟨od,es,ep,e,c⟩,r⟩:=x;exact⟨mA,⟨od,es,ep,k _ _ (.inl rfl) e,c⟩,r⟩
 |rng lo hi=>obtain⟨t,u,v,e⟩:=x;exact⟨t,u,v,k _ _ (.inl rfl) e⟩
 |frz ob u ih=>obtain⟨e,q⟩:=x;exact⟨k _ _ (.inl rfl) e,ih q⟩
 |tbl l c q=>
  obtain⟨ps,e,r⟩:=x
  refine⟨ps,k a _ (.inl rfl) e,?_⟩
  rcases r with r|⟨b,ob,vs,t,r1,r2,r3⟩
  ·exact .inl r
  ·exact .inr ⟨b,ob,vs,t,r1,hz _ _ _ r2,r3⟩
 |met f y=>
  have e:h.get? a=some (PySem.W.methodObj (.ref f) (.ref y)):=x
  show h'.get? a=some (PySem.W.methodObj (.ref f) (.ref y))
  exact k a _ (.inl rfl) e
 |ext φ=>obtain⟨p,⟨o,e⟩,st⟩:=x;exact⟨st _ _ p fun o q=>k _ _ (.inl rfl) q,⟨o,k _ _ (.inl rfl) e⟩,st⟩
theorem HOk.lt (x:HOk P w H h)(e:H a=some o):a<h.objs.size:=(x a o e).lt
def HOk.fresh (x:HOk P w H h)(e:h.objs.size<=a):H a=none:=by
 cases q:H a with
 |none=>rfl
 |some u=>exact absurd (Nat.lt_of_lt_of_le (x.lt q) e) (Nat.lt_irrefl _)
def HOk.kept (x:HOk P w H h)(k:∀b u,h.get? b=some u->h'.get? b=some u):HOk P w H h':=fun a o e=>
 (x a o e).stay (fun b u _ q=>k b u q) (fun _ q=>q) (fun _ _ q=>q) fun _ _ _ q=>q
def HOk.laid (x:HOk P w H h)(k:∀b u,h.get? b=some u->h'.get? b=some u)(hp:h.objs.size<=a)(new:ObjOk P w (upd H a o) h' a o):HOk P w (upd H a o) h':=fun b u e=>by
 have hn:=x.fresh hp
 by_cases hb:b=a
 ·subst hb;rw[Z2] at e;cases e;exact new
 ·rw[Zp hb] at e
  exact(x b u e).stay (fun c v _ q=>k c v q) (fun c q=>by rw[Zp (Z9 q hn)];exact q) (fun c xs q=>by rw[Zp (Z9 q hn)];exact q) fun c _ _ q=>by rw[Zp (Z9 q hn)];exact q
end
def Rd (H:Hp)(a:Addr)(u:HO):Prop:=H a=some u\/∃o,H a=some (.frz o u)
def Rd.ok {P:Program}{w:World}{H:Hp}{h:Heap}{a:Addr}{u:HO}(r:Rd H a u)(x:HOk P w H h):ObjOk P w H h a u:=by
 rcases r with r|⟨o,r⟩
 ·exact x a u r
 ·obtain⟨_,q⟩:=x a _ r
  exact q
def Zl2:Option HO->Prop
 |some (.lst _)=>True
 |some (.dK _)=>True
 |some (.dT _)=>True
 |some (.set _ _)=>True
 |some (.ins _ _ _)=>True
 |some (.ext _)=>True
 |_=>False
section
variable {P:Program}{w:World}{H:Hp}{h h':Heap}{x e:Addr}{o':HO}
def HOk.write (ok:HOk P w H h)(mu:Zl2 (H x))(he:e=x\/H e=some (.own x))(k:∀b u,b≠e->h.get? b=some u->h'.get? b=some u)(heo:∃u,h'.get? e=some u)(new:ObjOk P w (upd H x o') h' x o'):HOk P w (upd H x o') h':=fun b u q=>by
 have nown:∀c y,H c=some (.own y)->c≠x:=fun c y r z=>by subst z;rw[r] at mu;exact mu
 have ntup:∀c xs,H c=some (.tup xs)->c≠x:=fun c xs r z=>by subst z;rw[r] at mu;exact mu
 have nfrz:∀c o u,H c=some (.frz o u)->c≠x:=fun c o u r z=>by subst z;rw[r] at mu;exact mu
 by_cases hb:b=x
 ·subst hb;rw[Z2] at q;cases q;exact new
 ·rw[Zp hb] at q
  by_cases hbe:b=e
  ·have q':H b=some (.own x):=by
    rcases he with z|z
    ·exact absurd (hbe.trans z) hb
    ·rw[hbe];exact z
   rw[q] at q';cases q'
   obtain⟨v,hv⟩:=heo
   exact⟨v,by rw[hbe];exact hv⟩
  ·refine(ok b u q).stay (fun c v hc r=>k c v ?_ r) (fun c r=>by rw[Zp (nown c b r)];exact r) (fun c xs r=>by rw[Zp (ntup c xs r)];exact r) fun c o u r=>by rw[Zp (nfrz c o u r)];exact r
   rcases hc with rfl|hc
   ·exact hbe
   ·rintro rfl
    rcases he with z|z
    ·exact nown c b hc z
    ·rw[hc] at z;cases z;exact hb rfl
end
structure Un (fs ex:List Addr) (H H':Hp) (h h':Heap):Prop where
 keep:∀b o,h.get? b=some o->H b=none->b ∉ fs->b ∉ ex->h'.get? b=some o
 slot:∀b o,h.get? b=some o->H b=none->b∈fs->b ∉ ex->∃sl,h'.get? b=some {o with slots:=sl}
 free:∀b o,h.get? b=some o->H b=none->b ∉ ex->H' b=none
 there:∀b o,h.get? b=some o->b ∉ ex->∃o',h'.get? b=some o'
 tups:∀b xs,H b=some (.tup xs)->H' b=some (.tup xs)
 frzs:∀b o u,H b=some (.frz o u)->H' b=some (.frz o u)
 tbls:∀b l c q,H b=some (.tbl l c q)->H' b=some (.tbl l c q)
section
variable {fs fs' ex ex':List Addr}{H H1 H2:Hp}{h h1 h2 h':Heap}{a x e:Addr}{o:HO}
def Un.any (u:Un fs ex H H1 h h1){b:Addr}{ob:Obj}(q:h.get? b=some ob)(n:H b=none)(hx:b ∉ ex):∃sl,h1.get? b=some {ob with slots:=sl}:=by
 by_cases hb:b∈fs
 ·exact u.slot b ob q n hb hx
 ·exact⟨ob.slots,u.keep b ob q n hb hx⟩
def Un.kept (k:∀b u,h.get? b=some u->h'.get? b=some u):Un fs ex H H h h':=
 ⟨fun b ob q _ _ _=>k b ob q,fun b ob q _ _ _=>⟨ob.slots,k b ob q⟩,fun _ _ _ n _=>n,fun b ob q _=>⟨ob,k b ob q⟩,fun _ _ q=>q,fun _ _ _ q=>q,fun _ _ _ _ q=>q⟩
def Un.refl:Un fs ex H H h h:=Un.kept fun _ _ q=>q
def Un.laid (k:∀b u,h.get? b=some u->h'.get? b=some u)(hp:h.objs.size<=a)(hn:H a=none):Un fs ex H (upd H a o) h h' where
 keep:=fun b u q _ _ _=>k b u q
 slot:=fun b u q _ _ _=>⟨u.slots,k b u q⟩
 free:=fun b u q n _=>by rw[Zp (Nat.ne_of_lt (Nat.lt_of_lt_of_le (Heap.lt_size q) hp))];exact n
 there:=fun b u q _=>⟨u,k b u q⟩
 tups:=fun b xs q=>by rw[Zp (Z9 q hn)];exact q
 frzs:=fun b u xs q=>by rw[Zp (Z9 q hn)];exact q
 tbls:=fun b l c r q=>by rw[Zp (Z9 q hn)];exact q
def Un.write (mu:Zl2 (H x))(he:e=x\/H e=some (.own x))(k:∀b u,b≠e->h.get? b=some u->h'.get? b=some u)(heo:∃u,h'.get? e=some u):Un fs ex H (upd H x o) h h':=by
 have hx:∀b,H b=none->b≠x:=fun b n z=>by subst z;rw[n] at mu;exact mu
 have hb:∀b,H b=none->b≠e:=fun b n z=>by
  subst z
  rcases he with r|r
  ·exact hx b n r
  ·rw[n] at r;cases r
 have hm:∀b u,H b=some u->¬Zl2 (some u)->b≠x:=fun b u q nm z=>by subst z;rw[q] at mu;exact nm mu
 refine⟨fun b u q n _ _=>k b u (hb b n) q,fun b u q n _ _=>⟨u.slots,k b u (hb b n) q⟩,fun b u q n _=>by rw[Zp (hx b n)];exact n,fun b u q _=>?_,
  fun b xs q=>by rw[Zp (hm b _ q fun z=>z)];exact q,fun b u xs q=>by rw[Zp (hm b _ q fun z=>z)];exact q,fun b l c r q=>by rw[Zp (hm b _ q fun z=>z)];exact q⟩
 by_cases hbe:b=e
 ·subst hbe;exact heo
 ·exact⟨u,k b u hbe q⟩
end
def trk (h:Heap)(H:Hp):List Addr:=(List.range h.objs.size).filter fun a=>(H a).isSome
def M7 (h:Heap)(H:Hp):Heap:=PySem.W.hideAll h (trk h H)
def O3 (h:Heap)(H:Hp):(M7 h H).objs.size=h.objs.size:=PySem.W.hideAll_size _ _
def Zbv {h:Heap}{H:Hp}{b:Addr}{o:Obj}(e:h.get? b=some o)(n:H b=none):(M7 h H).get? b=some o:=
 PySem.W.hideAll_get _ e fun hm=>by
  have q:(H b).isSome=true:=(List.mem_filter.mp hm).2
  rw[n] at q;simp at q
def Zff {h:Heap}{H:Hp}{b:Addr}{o:Obj}(e:(M7 h H).get? b=some o):h.get? b=some o/\H b=none:=by
 have e':h.get? b=some o:=PySem.W.of_hideAll (trk h H) e
 refine⟨e',?_⟩
 cases q:H b with
 |none=>rfl
 |some x=>
  have hm:b∈trk h H:=List.mem_filter.mpr ⟨List.mem_range.mpr (Heap.lt_size e'),by simp[q]⟩
  have z:(M7 h H).get? b=none:=PySem.W.hideAll_none (trk h H) hm
  rw[z] at e;cases e
structure Mod (K:PySem.W.Frag) (mg:Str->Option Value) (base:Heap):Prop where
 kin:K.In base
 glob:base.Ns mainGlobals mg
 blt:∃mb,base.Ns builtinsNs mb/\∀x:Str,x ≠ "__name__"->mb x=bootBuiltins x
 nolimit:base.NoLimit
structure Cx where
 prog:Program
 w:World
 K:PySem.W.Frag
 mg:Str->Option Value
 base:Heap
 A:Around
 N:List Str
 s₀:Shared
 H₀:Hp
 env:Env
 outer:List Env
 stack:List Env
 ex:List Addr
 fn:Str->Bool
 calm:Bool
 pn:List (Addr×Obj)
 xe:Value->Shared->Prop
def Fz (l:List Env):List Addr:=l.filterMap (·.frame)
abbrev Cx.fs (X:Cx):List Addr:=Fz X.outer
def Ld (sc:Scope)(x:Str):Prop:=sc.names.lookup x=some .local\/sc.names.lookup x=some .cell\/sc.names.lookup x=some .free
def Zbw (sc:Scope)(x:Str):Prop:=sc.names.lookup x=some .local\/sc.names.lookup x=some .cell
def Zoc (env:Env)(h:Heap)(m:Str->Option Value)(x:Str)(u:Value):Prop:=
 (env.kindOf x=some .local/\m x=some u)\/((env.kindOf x=some .cell\/env.kindOf x=some .free)/\∃c,env.cells.lookup x=some c/\h.IsCell c (some u))
structure Cx.Ok (X:Cx):Prop where
 mod:Mod X.K X.mg X.base
 kind:X.env.scope.kind=.function
 glob:X.env.globals=mainGlobals
 blt:X.env.builtins=builtinsNs
 above:X.s₀.heap.objs.size<=X.env.locals
 inj:∀x y c,X.env.cells.lookup x=some c->X.env.cells.lookup y=some c->x=y
 has:∀x,(X.env.kindOf x=some .cell\/X.env.kindOf x=some .free)->∃c,X.env.cells.lookup x=some c
 cab:∀x c,X.fn x=true->X.env.cells.lookup x=some c->X.s₀.heap.objs.size<=c
 hd:X.calm=true->X.A.handled=none
 frames:X.A.frames=some X.stack
 stk:X.stack=X.outer\/(X.stack=X.env::X.outer/\X.env.frame=some X.env.locals)
 exf:∀b∈X.ex,b≠X.env.locals/\∀x c,X.env.cells.lookup x=some c->c≠b
 bs:∀b o,X.base.get? b=some o->X.s₀.heap.get? b=some o/\X.H₀ b=none
 bsz:X.base.objs.size<=X.s₀.heap.objs.size
 noex:∀b o,X.base.get? b=some o->b ∉ X.ex
 exfs:∀b∈X.ex,b ∉ X.fs
 funs:X.s₀.heap.FunFrames X.base X.outer
 frf:∀b∈X.fs,X.H₀ b=none
structure Inv (X:Cx) (pins:List (Addr×Obj)) (σ:List (Option V)) (H:Hp) (s:Shared):Prop where
 ok:X.Ok
 os:s.os=X.s₀.os
 bare:AllBare s.gens
 base:Un X.fs X.ex X.H₀ H X.s₀.heap s.heap
 loc:∃m,s.heap.Ns X.env.locals m/\∀(i:Nat) (x:Str) (v:V),X.N[i]?=some x->σ[i]?=some (some v)->Ld X.env.scope x->∃u,RelV v u/\Zoc X.env s.heap m x u
 cell:∀x c,X.env.cells.lookup x=some c->∃v,s.heap.IsCell c v
 free:H X.env.locals=none
 freeC:∀x c,X.env.cells.lookup x=some c->H c=none
 pin:∀p∈X.pn++pins,s.heap.get? p.1=some p.2/\H p.1=none/\p.1≠X.env.locals/\p.1 ∉ X.fs/\∀v,p.2.data≠.cell v
 hok:HOk X.prog X.w H s.heap
 len:σ.length=X.N.length
section
variable {X:Cx}{pins:List (Addr×Obj)}{σ:List (Option V)}{H H':Hp}{s:Shared}{h':Heap}
def Cx.Ok.nofr (ok:X.Ok){b:Addr}{o:Obj}(e:X.base.get? b=some o):b ∉ X.fs:=fun hb=>by
 have:=(ok.funs.mem hb).1
 rw[e] at this;cases this
theorem Inv.bs (I:Inv X pins σ H s):∀b o,X.base.get? b=some o->s.heap.get? b=some o/\H b=none:=fun b o e=>
 ⟨I.base.keep b o (I.ok.bs b o e).1 (I.ok.bs b o e).2 (I.ok.nofr e) (I.ok.noex b o e),I.base.free b o (I.ok.bs b o e).1 (I.ok.bs b o e).2 (I.ok.noex b o e)⟩
def Inv.bk (I:Inv X pins σ H s):∀b o,X.base.get? b=some o->s.heap.get? b=some o:=fun b o e=>(I.bs b o e).1
theorem Inv.mod (I:Inv X pins σ H s):Mod X.K X.mg X.base:=I.ok.mod
def Inv.kIn (I:Inv X pins σ H s):X.K.In s.heap:=I.ok.mod.kin.keeps I.bk
theorem Inv.lt (I:Inv X pins σ H s):X.env.locals<s.heap.objs.size:=let ⟨_,hn,_⟩:=I.loc;hn.lt
def Inv.sz (I:Inv X pins σ H s):X.s₀.heap.objs.size<=s.heap.objs.size:=Nat.le_trans I.ok.above (Nat.le_of_lt I.lt)
def Inv.nofs (I:Inv X pins σ H s){a:Addr}(h:s.heap.objs.size<=a):a ∉ X.fs:=fun hb=>by
 obtain⟨_,o,ho,_⟩:=I.ok.funs.mem hb
 exact absurd (Nat.lt_of_lt_of_le (Heap.lt_size ho) (Nat.le_trans I.sz h)) (Nat.lt_irrefl _)
def Inv.cne (I:Inv X pins σ H s):∀x c,X.env.cells.lookup x=some c->c≠X.env.locals:=fun x c e z=>by
 obtain⟨v,o,ho,hd⟩:=I.cell x c e
 obtain⟨m,⟨o',es,ep,ho',hd',_⟩,_⟩:=I.loc
 rw[z,ho'] at ho;cases ho;rw[hd'] at hd;cases hd
theorem Inv.funs (I:Inv X pins σ H s):s.heap.FunFrames X.base X.outer:=by
 have all:∀(l:List Env),(∀b∈Fz l,b∈X.fs)->X.s₀.heap.FunFrames X.base l->s.heap.FunFrames X.base l:=by
  intro l
  induction l with
  |nil=>intro _ _;trivial
  |cons env r ih=>
   intro hs hl
   obtain⟨hk,⟨L,o,hf,hn,ho,hd⟩,hr⟩:=hl
   have hL:L∈X.fs:=hs L (by unfold Fz;rw[List.filterMap_cons,hf];exact List.mem_cons_self)
   obtain⟨sl,e⟩:=I.base.slot L o ho (I.ok.frf L hL) hL fun z=>I.ok.exfs L z hL
   exact⟨hk,⟨L,_,hf,hn,e,hd⟩,ih (fun b hb=>hs b (by unfold Fz;rw[List.filterMap_cons,hf];exact List.mem_cons_of_mem _ hb)) hr⟩
 exact all X.outer (fun _ hb=>hb) I.ok.funs
theorem Inv.stack (I:Inv X pins σ H s):s.heap.FunFrames X.base X.stack:=by
 rcases I.ok.stk with e|⟨e,hf⟩
 ·rw[e];exact I.funs
 ·rw[e]
  obtain⟨m,hn,_⟩:=I.loc
  refine .cons (by rw[I.ok.kind];decide) hf hn ?_ I.funs
  exact Heap.get?_none_of_le (Nat.le_trans I.ok.bsz I.ok.above)
def Inv.stkSub (I:Inv X pins σ H s):∀b∈Fz X.stack,b∈X.env.locals::X.fs:=fun b hb=>by
 rcases I.ok.stk with e|⟨e,hf⟩
 ·rw[e] at hb;exact List.mem_cons_of_mem _ hb
 ·rw[e] at hb
  unfold Fz at hb
  rw[List.filterMap_cons,hf] at hb
  exact hb
def Inv.stkFree (I:Inv X pins σ H s):∀b∈Fz X.stack,H b=none:=fun b hb=>by
 rcases List.mem_cons.mp (I.stkSub b hb) with e|hb
 ·rw[e];exact I.free
 ·obtain⟨_,o,ho,_⟩:=I.ok.funs.mem hb
  exact I.base.free b o ho (I.ok.frf b hb) fun z=>I.ok.exfs b z hb
def Inv.step {g':Array GenState}{t':Nat}{d':Drawn}{ch:List Addr}(I:Inv X pins σ H s)(hch:∀b∈ch,(b∈X.ex\/X.s₀.heap.objs.size<=b)/\b≠X.env.locals/\(∀x c,X.env.cells.lookup x=some c->c≠b)/\∀p∈X.pn++pins,p.1≠b)(keep:∀b o,b≠X.env.locals->b ∉ X.fs->b ∉ ch->s.heap.get? b=some o->H b=none->h'.get? b=some o)(slot:∀b o,b≠X.env.locals->b∈X.fs->b ∉ ch->s.heap.get? b=some o->H b=none->∃sl,h'.get? b=some {o with slots:=sl})(free:∀b o,b ∉ ch->s.heap.get? b=some o->H b=none->H' b=none)(there:∀b o,b ∉ ch->s.heap.get? b=some o->∃o',h'.get? b=some o')(tups:∀b xs,H b=some (.tup xs)->H' b=some (.tup xs))(frzs:∀b o u,H b=some (.frz o u)->H' b=some (.frz o u))(tbls:∀b l c q,H b=some (.tbl l c q)->H' b=some (.tbl l c q))(ns:∀m,s.heap.Ns X.env.locals m->h'.Ns X.env.locals m)(hok:HOk X.prog X.w H' h')(hg:AllBare g'):
  Inv X pins σ H' {s with heap:=h',gens:=g',drawn:=d',toks:=t'}:=by
 have neL:∀b o,X.s₀.heap.get? b=some o->b≠X.env.locals:=fun b o e=>Nat.ne_of_lt (Nat.lt_of_lt_of_le (Heap.lt_size e) I.ok.above)
 have neC:∀b o,X.s₀.heap.get? b=some o->b ∉ X.ex->b ∉ ch:=fun b o e hx hb=>by
  rcases(hch b hb).1 with z|z
  ·exact hx z
  ·exact absurd (Nat.lt_of_lt_of_le (Heap.lt_size e) z) (Nat.lt_irrefl _)
 have cellK:∀x c,X.env.cells.lookup x=some c->∀v,s.heap.IsCell c v->h'.IsCell c v:=fun x c e v ⟨o,ho,hd⟩=>by
  have nch:c ∉ ch:=fun z=>(hch c z).2.2.1 x c e rfl
  by_cases hc:c∈X.fs
  ·obtain⟨sl,q⟩:=slot c o (I.cne x c e) hc nch ho (I.freeC x c e)
   exact⟨_,q,hd⟩
  ·exact⟨o,keep c o (I.cne x c e) hc nch ho (I.freeC x c e),hd⟩
 refine⟨I.ok,I.os,hg,⟨fun b o e n hb hx=>?_,fun b o e n hb hx=>?_,fun b o e n hx=>?_,fun b o e hx=>?_,fun b xs e=>tups b xs (I.base.tups b xs e),fun b o xs e=>frzs b o xs (I.base.frzs b o xs e),fun b l c q e=>tbls b l c q (I.base.tbls b l c q e)⟩,?_,fun x c e=>?_,?_,fun x c e=>?_,fun p hp=>?_,hok,I.len⟩
 ·exact keep b o (neL b o e) hb (neC b o e hx) (I.base.keep b o e n hb hx) (I.base.free b o e n hx)
 ·obtain⟨sl,e1⟩:=I.base.slot b o e n hb hx
  obtain⟨sl',e2⟩:=slot b _ (neL b o e) hb (neC b o e hx) e1 (I.base.free b o e n hx)
  exact⟨sl',e2⟩
 ·obtain⟨o',e1⟩:=I.base.there b o e hx
  exact free b o' (neC b o e hx) e1 (I.base.free b o e n hx)
 ·obtain⟨o',e1⟩:=I.base.there b o e hx
  exact there b o' (neC b o e hx) e1
 ·obtain⟨m,hn,hl⟩:=I.loc
  refine⟨m,ns m hn,fun i x v e1 e2 e3=>?_⟩
  obtain⟨u,r,l⟩:=hl i x v e1 e2 e3
  refine⟨u,r,?_⟩
  rcases l with l|⟨k,c,e,z⟩
  ·exact .inl l
  ·exact .inr ⟨k,c,e,cellK x c e _ z⟩
 ·obtain⟨v,z⟩:=I.cell x c e
  exact⟨v,cellK x c e v z⟩
 ·obtain⟨m,⟨o,_,_,ho,_⟩,_⟩:=I.loc
  exact free _ o (fun z=>(hch _ z).2.1 rfl) ho I.free
 ·obtain⟨v,o,ho,hd⟩:=I.cell x c e
  exact free c o (fun z=>(hch c z).2.2.1 x c e rfl) ho (I.freeC x c e)
 ·obtain⟨e,n,ne,nf,d⟩:=I.pin p hp
  have nch:p.1 ∉ ch:=fun z=>(hch p.1 z).2.2.2 p hp rfl
  exact⟨keep p.1 p.2 ne nf nch e n,free p.1 p.2 nch e n,ne,nf,d⟩
def Inv.un {t':Nat}(I:Inv X pins σ H s)(u:Un X.fs [] H H' s.heap h')(hok:HOk X.prog X.w H' h'):Inv X pins σ H' {s with heap:=h',toks:=t'}:=by
 obtain⟨m,⟨o,es,ep,ho,r⟩,_⟩:=id I.loc
 obtain⟨sl,hL⟩:=u.any ho I.free (by simp)
 exact I.step (g':=s.gens) (d':=s.drawn) (ch:=[]) (fun _ z=>nomatch z) (fun b o _ hb _ e n=>u.keep b o e n hb (by simp)) (fun b o _ hb _ e n=>u.slot b o e n hb (by simp)) (fun b o _ e n=>u.free b o e n (by simp)) (fun b o _ e=>u.there b o e (by simp)) u.tups u.frzs u.tbls (fun m' hm=>by
  obtain⟨o',es',ep',ho',r'⟩:=hm
  rw[ho] at ho';cases ho'
  exact⟨_,es',ep',hL,r'⟩) hok I.bare
def Inv.call {g':Array GenState}{t':Nat}{d':Drawn}{ch:List Addr}(I:Inv X pins σ H s)(u:Un (Fz X.stack) ch H H' s.heap h')(hok:HOk X.prog X.w H' h')(hg:AllBare g')(hch:∀b∈ch,(b∈X.ex\/X.s₀.heap.objs.size<=b)/\b≠X.env.locals/\(∀x c,X.env.cells.lookup x=some c->c≠b)/\∀p∈X.pn++pins,p.1≠b):
  Inv X pins σ H' {s with heap:=h',gens:=g',drawn:=d',toks:=t'}:=by
 obtain⟨m,⟨o,es,ep,ho,r⟩,_⟩:=id I.loc
 obtain⟨sl,hL⟩:=u.any ho I.free fun z=>(hch _ z).2.1 rfl
 exact I.step (ch:=ch) hch (fun b o hL hb hc e n=>u.keep b o e n (fun z=>(List.mem_cons.mp (I.stkSub b z)).elim hL hb) hc) (fun b o _ _ hc e n=>u.any e n hc) (fun b o hc e n=>u.free b o e n hc) (fun b o hc e=>u.there b o e hc) u.tups u.frzs u.tbls (fun m' hm=>by
  obtain⟨o',es',ep',ho',r'⟩:=hm
  rw[ho] at ho';cases ho'
  exact⟨_,es',ep',hL,r'⟩) hok hg
def Inv.turned {t':Nat}{it:Addr}(I:Inv X pins σ H s)(k:∀b o,b≠it->s.heap.get? b=some o->h'.get? b=some o)(hn:H it=none)(hL:it≠X.env.locals)(h1:it∈X.ex\/X.s₀.heap.objs.size<=it)(h2:∀x c,X.env.cells.lookup x=some c->c≠it)(h3:∀p∈X.pn++pins,p.1≠it):Inv X pins σ H {s with heap:=h',toks:=t'}:=by
 have nit:∀b u,H b=some u->b≠it:=fun b u e z=>by rw[z,hn] at e;cases e
 refine I.step (g':=s.gens) (d':=s.drawn) (ch:=[it]) (fun b hb=>?_) (fun b o _ _ hc e _=>k b o (fun z=>hc (by simp[z])) e) (fun b o _ _ hc e _=>⟨o.slots,k b o (fun z=>hc (by simp[z])) e⟩) (fun _ _ _ _ n=>n)
  (fun b o hc e=>⟨o,k b o (fun z=>hc (by simp[z])) e⟩) (fun _ _ e=>e) (fun _ _ _ e=>e) (fun _ _ _ _ e=>e) (fun m hm=>?_) (fun b u e=>?_) I.bare
 ·have e:b=it:=by simpa using hb
  subst e
  exact⟨h1,hL,h2,h3⟩
 ·obtain⟨o,es,ep,ho,r⟩:=hm
  exact⟨o,es,ep,k _ o (Ne.symm hL) ho,r⟩
 ·refine(I.hok b u e).stay (fun c v hc q=>k c v ?_ q) (fun _ q=>q) (fun _ _ q=>q) fun _ _ _ q=>q
  rcases hc with z|z
  ·rw[z];exact nit b u e
  ·exact nit c _ z
def Inv.tok (I:Inv X pins σ H s)(t:Nat):Inv X pins σ H {s with toks:=t}:=I.un (h':=s.heap) (t':=t) Un.refl I.hok
theorem Inv.kept {t':Nat}(I:Inv X pins σ H s)(k:∀b u,s.heap.get? b=some u->h'.get? b=some u):Inv X pins σ H {s with heap:=h',toks:=t'}:=I.un (Un.kept k) (I.hok.kept k)
theorem Inv.laid {a:Addr}{o:HO}{t':Nat}(I:Inv X pins σ H s)(k:∀b u,s.heap.get? b=some u->h'.get? b=some u)(hp:s.heap.objs.size<=a)(new:ObjOk X.prog X.w (upd H a o) h' a o):
  Inv X pins σ (upd H a o) {s with heap:=h',toks:=t'}:=I.un (Un.laid k hp (I.hok.fresh hp)) (I.hok.laid k hp new)
theorem Inv.write {x e:Addr}{o:HO}{t':Nat}(I:Inv X pins σ H s)(mu:Zl2 (H x))(he:e=x\/H e=some (.own x))(k:∀b u,b≠e->s.heap.get? b=some u->h'.get? b=some u)(heo:∃u,h'.get? e=some u)(new:ObjOk X.prog X.w (upd H x o) h' x o):Inv X pins σ (upd H x o) {s with heap:=h',toks:=t'}:=I.un (Un.write mu he k heo) (I.hok.write mu he k heo new)
def Inv.pins_of {pins':List (Addr×Obj)}(I:Inv X pins σ H s)(h:∀p∈pins',s.heap.get? p.1=some p.2/\H p.1=none/\p.1≠X.env.locals/\p.1 ∉ X.fs/\∀v,p.2.data≠.cell v):Inv X pins' σ H s:=
 ⟨I.ok,I.os,I.bare,I.base,I.loc,I.cell,I.free,I.freeC,fun p hp=>(List.mem_append.mp hp).elim (fun z=>I.pin p (List.mem_append_left _ z)) (h p),I.hok,I.len⟩
def A0 {N:List Str}(hN:N.Nodup){i j:Nat}{x:Str}(a:N[i]?=some x)(b:N[j]?=some x):i=j:=by
 obtain⟨h1,e1⟩:=List.getElem?_eq_some_iff.mp a
 obtain⟨h2,e2⟩:=List.getElem?_eq_some_iff.mp b
 exact(List.getElem_inj hN).mp (e1.trans e2.symm)
def Lx {M:Model}{A:Around}{E:Value->Shared->Prop}{i:Nat}{x:Str}{v:V}{u:Value}{Q:Unit->Shared->Prop}(I:Inv X pins σ H s)(hN:X.N.Nodup)(hi:X.N[i]?=some x)(hx:Zbw X.env.scope x)(r:RelV v u)(h:∀s',Inv X pins (σ.set i (some v)) H s'->(∃a,Heap.SameBut a s.heap s'.heap/\(a=X.env.locals\/X.env.cells.lookup x=some a))->Q () s')(hf:X.fn x=true\/X.env.scope.names.lookup x=some .local:=by first|exact .inl rfl|exact .inr rfl|assumption):wpAny M A (storeName X.env x u) Q E s:=by
 obtain⟨m,hn,hl⟩:=id I.loc
 have hcls:(X.env.scope.kind==.class||(X.env.scope.kind==.module&&X.env.locals != X.env.globals))=false:=by rw[I.ok.kind];rfl
 have hiσ:i<σ.length:=by rw[I.len];exact(List.getElem?_eq_some_iff.mp hi).1
 have cne:=I.cne
 have tracked:∀{a:Addr}{h':Heap},(∃o,s.heap.get? a=some o/\H a=none)->Heap.SameBut a s.heap h'->HOk X.prog X.w H h':=fun {a h'} ha hs b ob e=>by
  obtain⟨_,_,hfree⟩:=ha
  refine(I.hok b ob e).stay (fun c w' hc q=>(hs.2 c ?_).trans q) (fun _ q=>q) (fun _ _ q=>q) fun _ _ _ q=>q
  rintro rfl
  rcases hc with rfl|hc
  ·rw[hfree] at e;cases e
  ·rw[hfree] at hc;cases hc
 rcases hx with hk|hk
 ·refine wpAny_storeName_local hk hn (fun h' hn' hs=>?_) hcls
  obtain⟨oL,_,_,hoL,_⟩:=id hn
  refine h _ ⟨I.ok,I.os,I.bare,⟨fun b o e n hb hx=>?_,fun b o e n hb hx=>?_,I.base.free,fun b o e hx=>?_,I.base.tups,I.base.frzs,I.base.tbls⟩,⟨_,hn',fun j y v' e1 e2 e3=>?_⟩,fun y c e=>?_,I.free,I.freeC,fun p hp=>?_,tracked ⟨oL,hoL,I.free⟩ hs,by simpa using I.len⟩ ⟨_,hs,.inl rfl⟩
  ·exact(hs.2 b (Nat.ne_of_lt (Nat.lt_of_lt_of_le (Heap.lt_size e) I.ok.above))).trans (I.base.keep b o e n hb hx)
  ·obtain⟨sl,e1⟩:=I.base.slot b o e n hb hx
   exact⟨sl,(hs.2 b (Nat.ne_of_lt (Nat.lt_of_lt_of_le (Heap.lt_size e) I.ok.above))).trans e1⟩
  ·obtain⟨o',e1⟩:=I.base.there b o e hx
   exact⟨o',(hs.2 b (Nat.ne_of_lt (Nat.lt_of_lt_of_le (Heap.lt_size e) I.ok.above))).trans e1⟩
  ·by_cases hj:j=i
   ·subst hj
    rw[hi] at e1;cases e1
    rw[List.getElem?_set_self hiσ] at e2
    cases e2
    exact⟨u,r,.inl ⟨hk,by simp⟩⟩
   ·rw[List.getElem?_set_ne (Ne.symm hj)] at e2
    obtain⟨u',r',q⟩:=hl j y v' e1 e2 e3
    refine⟨u',r',?_⟩
    rcases q with⟨k,e⟩|⟨k,c,e,z⟩
    ·refine .inl ⟨k,?_⟩
     have:y≠x:=fun e=>hj (A0 hN e1 (e▸hi))
     simp[this,e]
    ·exact .inr ⟨k,c,e,z.sameBut hs (cne y c e)⟩
  ·obtain⟨w',z⟩:=I.cell y c e
   exact⟨w',z.sameBut hs (cne y c e)⟩
  ·obtain⟨e,n,ne,nf,d⟩:=I.pin p hp
   exact⟨(hs.2 p.1 ne).trans e,n,ne,nf,d⟩
 ·have hfn:X.fn x=true:=by
   rcases hf with z|z
   ·exact z
   ·rw[z] at hk;cases hk
  obtain⟨c,hc⟩:=I.ok.has x (.inl hk)
  obtain⟨w',z⟩:=I.cell x c hc
  refine wpAny_storeName_cell I.ok.kind hk hc z (fun h' hc' hs=>?_)
  obtain⟨oc,hoc,hocd⟩:=id z
  refine h {s with heap:=h'} ⟨I.ok,I.os,I.bare,⟨fun b o e n hb hx=>?_,fun b o e n hb hx=>?_,I.base.free,fun b o e hx=>?_,I.base.tups,I.base.frzs,I.base.tbls⟩,⟨m,hn.sameBut hs (Ne.symm (cne x c hc)),fun j y v' e1 e2 e3=>?_⟩,fun y c' e=>?_,I.free,I.freeC,fun p hp=>?_,tracked ⟨oc,hoc,I.freeC x c hc⟩ hs,by simpa using I.len⟩ ⟨c,hs,.inr hc⟩
  ·exact(hs.2 b (Nat.ne_of_lt (Nat.lt_of_lt_of_le (Heap.lt_size e) (I.ok.cab x c hfn hc)))).trans (I.base.keep b o e n hb hx)
  ·obtain⟨sl,e1⟩:=I.base.slot b o e n hb hx
   exact⟨sl,(hs.2 b (Nat.ne_of_lt (Nat.lt_of_lt_of_le (Heap.lt_size e) (I.ok.cab x c hfn hc)))).trans e1⟩
  ·obtain⟨o',e1⟩:=I.base.there b o e hx
   exact⟨o',(hs.2 b (Nat.ne_of_lt (Nat.lt_of_lt_of_le (Heap.lt_size e) (I.ok.cab x c hfn hc)))).trans e1⟩
  ·by_cases hj:j=i
   ·subst hj
    rw[hi] at e1;cases e1
    rw[List.getElem?_set_self hiσ] at e2
    cases e2
    exact⟨u,r,.inr ⟨.inl hk,c,hc,hc'⟩⟩
   ·rw[List.getElem?_set_ne (Ne.symm hj)] at e2
    obtain⟨u',r',q⟩:=hl j y v' e1 e2 e3
    refine⟨u',r',?_⟩
    rcases q with q|⟨k,c',e,z'⟩
    ·exact .inl q
    ·refine .inr ⟨k,c',e,z'.sameBut hs ?_⟩
     rintro rfl
     exact hj (A0 hN e1 (I.ok.inj _ _ _ e hc▸hi))
  ·by_cases hcc:c'=c
   ·subst hcc;exact⟨_,hc'⟩
   ·obtain⟨w2,z2⟩:=I.cell y c' e
    exact⟨w2,z2.sameBut hs hcc⟩
  ·obtain⟨e,n,ne,nf,d⟩:=I.pin p hp
   refine⟨(hs.2 p.1 ?_).trans e,n,ne,nf,d⟩
   intro q
   rw[q,hoc] at e
   have q':oc=p.2:=Option.some.inj e
   exact d w' (by rw[<-q'];exact hocd)
def Nq {M:Model}{A:Around}{E:Value->Shared->Prop}{i:Nat}{x:Str}{v:V}{u:Value}{Q:Unit->Shared->Prop}(I:Inv X pins σ H s)(hN:X.N.Nodup)(hi:X.N[i]?=some x)(hx:Zbw X.env.scope x)(r:RelV v u)(h:∀s',Inv X pins (σ.set i (some v)) H s'->Q () s')(hf:X.fn x=true\/X.env.scope.names.lookup x=some .local:=by first|exact .inl rfl|exact .inr rfl|assumption):wpAny M A (storeName X.env x u) Q E s:=
 Lx I hN hi hx r (fun s' I' _=>h s' I') hf
def Inv.call' {s':Shared}{ch:List Addr}(I:Inv X pins σ H s)(ho:s'.os=s.os)(u:Un (Fz X.stack) ch H H' s.heap s'.heap)(hok:HOk X.prog X.w H' s'.heap)(hg:AllBare s'.gens)(hch:∀b∈ch,(b∈X.ex\/X.s₀.heap.objs.size<=b)/\b≠X.env.locals/\(∀x c,X.env.cells.lookup x=some c->c≠b)/\∀p∈X.pn++pins,p.1≠b):Inv X pins σ H' s':=by
 obtain⟨h',g',d',t',o'⟩:=s'
 have e:o'=s.os:=ho
 subst e
 exact I.call (g':=g') (t':=t') (d':=d') u hok hg hch
end
abbrev XK:=Value->Option Addr->Hp->Prop
abbrev St:=List (Option V)
abbrev VK:=V->Hp->Prop
abbrev TE:=St->Hp->VK->Prop
abbrev TT:=St->Hp->(Bool->Hp->Prop)->Prop
abbrev TA:=St->Hp->(List V->Hp->Prop)->Prop
structure Ends where
 nx:St->Hp->Prop
 rt:VK
 bk:St->Hp->Prop:=fun _ _=>False
 ct:St->Hp->Prop:=fun _ _=>False
abbrev TS:=Ends->St->Hp->Prop
def EP (X:Cx)(pins:List (Addr×Obj))(σ:St)(Q:VK)(u:Value)(s':Shared):Prop:=∃v H',Inv X pins σ H' s'/\RelV v u/\Q v H'
def TP (X:Cx)(pins:List (Addr×Obj))(σ:St)(Q:Bool->Hp->Prop)(b:Bool)(s':Shared):Prop:=∃H',Inv X pins σ H' s'/\Q b H'
def AP (X:Cx)(pins:List (Addr×Obj))(σ:St)(Q:List V->Hp->Prop)(us:List Value)(s':Shared):Prop:=∃vs H',Inv X pins σ H' s'/\Vals vs us/\Q vs H'
def SP (X:Cx)(pins:List (Addr×Obj))(D:Ends)(f:Flow)(s':Shared):Prop:=
 match f with
 |.next=>∃σ' H',Inv X pins σ' H' s'/\D.nx σ' H'
 |.brk=>∃σ' H',Inv X pins σ' H' s'/\D.bk σ' H'
 |.cont=>∃σ' H',Inv X pins σ' H' s'/\D.ct σ' H'
 |.ret u=>∃v σ' H',Inv X pins σ' H' s'/\RelV v u/\D.rt v H'
def PE (X:Cx)(e:Expr)(t:TE):Prop:=
 ∀(pins:List (Addr×Obj)) (s:Shared) (σ:St) (H:Hp) (Q:VK),Inv X pins σ H s->t σ H Q->wpAny (model X.prog X.w) X.A (eval e X.env) (EP X pins σ Q) X.xe s
def PT (X:Cx)(e:Expr)(t:TT):Prop:=
 ∀(pins:List (Addr×Obj)) (s:Shared) (σ:St) (H:Hp) (Q:Bool->Hp->Prop),Inv X pins σ H s->t σ H Q->wpAny (model X.prog X.w) X.A (isTrue e X.env (eval e X.env)) (TP X pins σ Q) X.xe s
def PW (X:Cx)(e:Expr)(t:TT):Prop:=
 ∀(whole:Sem Value) (pins:List (Addr×Obj)) (s:Shared) (σ:St) (H:Hp) (Q:Bool->Hp->Prop),Inv X pins σ H s->t σ H Q->wpAny (model X.prog X.w) X.A (isTrue e X.env whole) (TP X pins σ Q) X.xe s
def PW.pt {X:Cx}{e:Expr}{t:TT}(h:PW X e t):PT X e t:=h _
def PA (X:Cx)(es:List Expr)(t:TA):Prop:=
 ∀(pos:Pos) (pins:List (Addr×Obj)) (s:Shared) (σ:St) (H:Hp) (Q:List V->Hp->Prop),Inv X pins σ H s->t σ H Q->wpAny (model X.prog X.w) X.A (spliced (backTo pos (starEach es X.env))) (AP X pins σ Q) X.xe s
def PS (X:Cx)(st:Stmt)(t:TS):Prop:=
 ∀(pins:List (Addr×Obj)) (s:Shared) (σ:St) (H:Hp) (D:Ends),Inv X pins σ H s->t D σ H->wpAny (model X.prog X.w) X.A (exec st X.env) (SP X pins D) X.xe s
def PSs (X:Cx)(st:List Stmt)(t:TS):Prop:=
 ∀(pins:List (Addr×Obj)) (s:Shared) (σ:St) (H:Hp) (D:Ends),Inv X pins σ H s->t D σ H->wpAny (model X.prog X.w) X.A (execs st X.env) (SP X pins D) X.xe s
def Xi {α:Type}{t:Sem α}{Q Q':α->Shared->Prop}{M:Model}{A:Around}{E:Value->Shared->Prop}{s:Shared}(h:wpAny M A t Q E s)(hQ:∀a s,Q a s->Q' a s):wpAny M A t Q' E s:=wpAny_mono h hQ fun _ _ x=>x
section
variable {X:Cx}
def Zbx (i:Nat):TE:=fun σ H Q=>∃v,σ[i]?=some (some v)/\Q v H
def tC (v:V):TE:=fun _ H Q=>Q v H
def Qm {i:Nat}{x:Str}{pos:Pos}(hN:X.N[i]?=some x)(hv:Ld X.env.scope x) (hd:(x==("__debug__":Str))=false:=by decide) (hcd:(x==("__classdict__":Str))=false:=by decide):PE X (.Name x pos) (Zbx i):=by
 intro pins s σ H Q I h
 obtain⟨v,e,h⟩:=h
 obtain⟨m,hn,hl⟩:=I.loc
 obtain⟨u,r,l⟩:=hl i x v hN e hv
 have fin:EP X pins σ Q u s:=⟨v,H,I,r,h⟩
 rcases l with⟨hk,hm⟩|⟨hk,c,hc,hcell⟩
 ·exact wpAny_Name (wpAny_loadName_local I.ok.kind hk hn hm fin) hd
 ·rcases hk with hk|hk
  ·exact wpAny_Name (wpAny_loadName_cell I.ok.kind hk hc hcell fin) hd
  ·exact wpAny_Name (wpAny_loadName_free I.ok.kind hk hc hcell fin hcd) hd
def Ziw {i j pos}:PE X (.Constant (.int i) j pos) (tC (.int i)):=fun _ _ _ H _ I h=>wpAny_Constant_int ⟨.int i,H,I.tok _,⟨_,rfl⟩,h⟩
def Zl3 {b j pos}:PE X (.Constant (.bool b) j pos) (tC (.bl b)):=fun _ _ _ H _ I h=>Constant_bool ⟨.bl b,H,I,rfl,h⟩
def Zix {j pos}:PE X (.Constant .none j pos) (tC .non):=fun _ _ _ H _ I h=>Constant_none ⟨.non,H,I,rfl,h⟩
def Ziy {x j pos}:PE X (.Constant (.str x) j pos) (tC (.str x)):=fun _ _ _ H _ I h=>Calls.Constant_str ⟨.str x,H,I.tok _,⟨_,rfl⟩,h⟩
def Gl (X:Cx)(x:Str):Prop:=X.env.kindOf x=some .globalImplicit
def F0 {E:Value->Shared->Prop}{pins:List (Addr×Obj)}{s:Shared}{σ:St}{H:Hp}{x:Str}{u:Value}{pos:Pos}{Q:Value->Shared->Prop}(I:Inv X pins σ H s)(hg:Gl X x)(hm:X.mg x=some u)(h:Q u s)
  (hd:(x==("__debug__":Str))=false:=by decide):wpAny (model X.prog X.w) X.A (eval (.Name x pos) X.env) Q E s:=
 Calls.Name_function_global I.ok.kind hg (Calls.loadGlobal_global (by rw[I.ok.glob];exact I.mod.glob.keeps I.bk) hm h) hd
def Nb {E:Value->Shared->Prop}{pins:List (Addr×Obj)}{s:Shared}{σ:St}{H:Hp}{x:Str}{u:Value}{pos:Pos}{Q:Value->Shared->Prop}(I:Inv X pins σ H s)(hg:Gl X x)(hm:X.mg x=none)(hv:bootBuiltins x=some u)(h:Q u s)
  (hn:x ≠ "__name__":=by decide) (hd:(x==("__debug__":Str))=false:=by decide):wpAny (model X.prog X.w) X.A (eval (.Name x pos) X.env) Q E s:=by
 obtain⟨mb,h1,h2⟩:=I.mod.blt
 exact Calls.Name_function_global I.ok.kind hg (Calls.loadGlobal_builtin (by rw[I.ok.glob];exact I.mod.glob.keeps I.bk) hm (by rw[I.ok.blt];exact h1.keeps I.bk) ((h2 x hn).trans hv) h) hd
def Zfg {x:Str}{v:V}{u:Value}{pos:Pos}(hg:Gl X x)(hm:X.mg x=none)(hv:bootBuiltins x=some u)(r:RelV v u) (hn:x ≠ "__name__":=by decide) (hd:(x==("__debug__":Str))=false:=by decide):PE X (.Name x pos) (tC v):=
 fun _ _ _ H _ I h=>Nb I hg hm hv ⟨v,H,I,r,h⟩ hn hd
variable {a b:Expr}{ta tb:TE}{pos:Pos}
def PC (X:Cx)(op:CmpOp)(a b:Expr)(t:TE):Prop:=
 ∀(pins:List (Addr×Obj)) (s:Shared) (σ:St) (H:Hp) (Q:VK),Inv X pins σ H s->t σ H Q ->
  wpAny (model X.prog X.w) X.A (eval a X.env) (fun v s₁=>wpAny (model X.prog X.w) X.A (eval b X.env) (fun u s₂=>wpAny (model X.prog X.w) X.A (compareOp op v u) (EP X pins σ Q) X.xe s₂) X.xe s₁) X.xe s
def tB (t:TE):TT:=fun σ H Q=>t σ H fun x H1=>∃c,x=.bl c/\Q c H1
def Ziz {op:CmpOp}{t:TE}(h:PC X op a b t)(h1:behindInMarks op b=false:=by first|exact nobehind _ (by decide) (by decide)|rfl):PT X (.Compare a [op] [b] pos) (tB t):=by
 intro pins s σ H Q I hw
 refine wpAny_isTrue_Compare1 (Xi (h pins s σ H _ I hw) fun v s1 h1=>Xi h1 fun u s2 h2=>Xi h2 fun c s3 ⟨x,H1,I1,r1,q1⟩=>?_) h1
 obtain⟨d,rfl,q⟩:=q1
 cases r1
 exact wpAny_truthy_bool ⟨H1,I1,q⟩
def Zi0 {e:Expr}{t:TE}(h:PE X e t)(he:∀whole,isTrue e X.env whole=(do let v <-whole;standAt e.pos;holding [v] (truthy v)):=by intro _;rfl):PT X e (tB t):=by
 intro pins s σ H Q I hw
 refine isTrue_plain (Xi (h pins s σ H _ I hw) fun v s1 ⟨x,H1,I1,r1,q1⟩=>?_) (he _)
 obtain⟨d,rfl,q⟩:=q1
 cases r1
 exact wpAny_truthy_bool ⟨H1,I1,q⟩
variable {tA tB':TT}{rest:List Expr}
def Zod (t u:TT):TT:=fun σ H Q=>t σ H fun c H1=>if c=true then u σ H1 Q else Q false H1
def Zpp (t u:TT):TT:=fun σ H Q=>t σ H fun c H1=>if c=true then Q true H1 else u σ H1 Q
def Zoe (t:TT):TT:=fun σ H Q=>t σ H fun c H1=>Q (!c) H1
def Zfh (ha:PT X a tA):PW X (.BoolOp .And [a] pos) tA:=by
 intro wh pins s σ H Q I h
 refine isTrue_and (Xi (ha pins s σ H Q I h) fun c s1 e=>?_)
 cases c with
 |true=>exact isTrue_and_nil e
 |false=>exact e
def Zi1 (ha:PT X a tA):PW X (.BoolOp .Or [a] pos) tA:=by
 intro wh pins s σ H Q I h
 refine isTrue_or (Xi (ha pins s σ H Q I h) fun c s1 e=>?_)
 cases c with
 |false=>exact isTrue_or_nil e
 |true=>exact e
def Zi2 (ha:PT X a tA)(hb:PW X (.BoolOp .And (b::rest) pos) tB'):PW X (.BoolOp .And (a::b::rest) pos) (Zod tA tB'):=by
 intro wh pins s σ H Q I h
 refine isTrue_and (Xi (ha pins s σ H _ I h) fun c s1 ⟨H1,I1,q1⟩=>?_)
 cases c with
 |true=>exact hb wh pins s1 σ H1 Q I1 q1
 |false=>exact⟨H1,I1,q1⟩
def Zl4 (ha:PT X a tA)(hb:PW X (.BoolOp .Or (b::rest) pos) tB'):PW X (.BoolOp .Or (a::b::rest) pos) (Zpp tA tB'):=by
 intro wh pins s σ H Q I h
 refine isTrue_or (Xi (ha pins s σ H _ I h) fun c s1 ⟨H1,I1,q1⟩=>?_)
 cases c with
 |true=>exact⟨H1,I1,q1⟩
 |false=>exact hb wh pins s1 σ H1 Q I1 q1
def Zi3 (ha:PT X a tA):PT X (.UnaryOp .Not a pos) (Zoe tA):=by
 intro pins s σ H Q I h
 exact isTrue_not (ha pins s σ H (fun c H1=>Q (!c) H1) I h)
def Zl5 (ta tb:TE):TE:=fun σ H Q=>ta σ H fun x H1=>∃c,x=.bl c/\if c=true then tb σ H1 Q else Q (.bl false) H1
def Zl6 (ta:TE):TE:=fun σ H Q=>ta σ H fun x H1=>∃c,x=.bl c/\Q (.bl (!c)) H1
def Zi4 {op}{t:TE}(h:PE X a t):PE X (.BoolOp op [a] pos) t:=fun pins s σ H Q I hw=>BoolOp_one (h pins s σ H Q I hw)
def Zi5 (ha:PE X a ta)(hb:PE X (.BoolOp .And (b::rest) pos) tb):PE X (.BoolOp .And (a::b::rest) pos) (Zl5 ta tb):=by
 intro pins s σ H Q I h
 refine BoolOp_and (Xi (ha pins s σ H _ I h) fun v s1 ⟨x,H1,I1,r1,q1⟩=>?_)
 obtain⟨c,rfl,q1⟩:=q1
 cases r1
 refine wpAny_truthy_bool ?_
 cases c with
 |true=>exact hb pins s1 σ H1 Q I1 q1
 |false=>exact⟨.bl false,H1,I1,rfl,q1⟩
def Zi6 (ha:PE X a ta):PE X (.UnaryOp .Not a pos) (Zl6 ta):=by
 intro pins s σ H Q I h
 refine UnaryOp_ (Xi (ha pins s σ H _ I h) fun v s1 ⟨x,H1,I1,r1,q1⟩=>?_)
 obtain⟨c,rfl,q1⟩:=q1
 cases r1
 exact not_of (wpAny_truthy_bool ⟨.bl (!c),H1,I1,rfl,q1⟩)
def Zpq (t:TT)(ta tb:TE):TE:=fun σ H Q=>t σ H fun c H1=>if c=true then ta σ H1 Q else tb σ H1 Q
def A1 {c:Expr}(hc:PT X c tA)(ha:PE X a ta)(hb:PE X b tb):PE X (.IfExp c a b pos) (Zpq tA ta tb):=by
 intro pins s σ H Q I h
 refine wpAny_IfExp (Xi (hc pins s σ H _ I h) fun d s1 ⟨H1,I1,q1⟩=>?_)
 cases d with
 |true=>exact ha pins s1 σ H1 Q I1 q1
 |false=>exact hb pins s1 σ H1 Q I1 q1
end
def SqL (K:PySem.W.Frag)(H:Hp)(a:Addr)(xs:List V):Prop:=
 Rd H a (.lst xs) \/
  ∃(o:Obj) (its:Array Value) (n:Nat),K.lookup a=some o/\o.cls=.type "list"/\o.dict=none/\o.data=.seq its n/\its.size<=sizeLine/\Vals xs its.toList
def SqT (K:PySem.W.Frag)(H:Hp)(a:Addr)(xs:List V):Prop:=
 Rd H a (.tup xs) \/
  ∃(o:Obj) (its:Array Value) (n:Nat),K.lookup a=some o/\o.cls=.type "tuple"/\o.data=.seq its n/\its.size<=sizeLine/\Vals xs its.toList
def Zof:Value->Option V
 |.none=>some .non
 |.bool b=>some (.bl b)
 |.int i _=>some (.int i)
 |.str x _=>some (.str x)
 |.bytes b _=>some (.byt b)
 |.float b _=>some (.flt b)
 |.ref a=>some (.ref a)
 |.type n=>some (.ty n)
 |_=>none
def RelV.abs {x:V}{u:Value}(r:RelV x u):Zof u=some x:=by
 cases x with
 |non=>cases r;rfl
 |bl _=>cases r;rfl
 |int _=>obtain⟨t,rfl⟩:=r;rfl
 |str _=>obtain⟨t,rfl⟩:=r;rfl
 |byt _=>obtain⟨t,rfl⟩:=r;rfl
 |flt _=>obtain⟨t,rfl⟩:=r;rfl
 |ref _=>cases r;rfl
 |ty _=>cases r;rfl
theorem RelV.inj {x y:V}{u:Value}(r:RelV x u)(q:RelV y u):x=y:=Option.some.inj (r.abs.symm.trans q.abs)
theorem Vals.inj:∀{xs ys:List V}{us:List Value},Vals xs us->Vals ys us->xs=ys
 |_,_,_,.nil,.nil=>rfl
 |_,_,_,.cons r t,.cons r' t'=>by rw[r.inj r',Vals.inj t t']
section
variable {X:Cx}{pins:List (Addr×Obj)}{σ:St}{H:Hp}{s:Shared}{a:Addr}{xs ys:List V}
def SqL.of {K:PySem.W.Frag}(h:H a=some (.lst xs)):SqL K H a xs:=.inl (.inl h)
def SqT.of {K:PySem.W.Frag}(h:H a=some (.tup xs)):SqT K H a xs:=.inl (.inl h)
def Inv.list (I:Inv X pins σ H s)(h:SqL X.K H a xs):∃its:List Value,Vals xs its/\PlainL s.heap a its.toArray/\xs.length<=sizeLine:=by
 rcases h with h|⟨o,its,n,hk,hc,hd,hs,hz,r⟩
 ·obtain⟨z,its,n,r,e⟩:=h.ok I.hok
  exact⟨its,r,⟨_,n,e,rfl,rfl,rfl⟩,z⟩
 ·refine⟨its.toList,r,⟨o,n,I.kIn a o hk,hc,hd,by simpa using hs⟩,?_⟩
  have e:=r.length
  simp only[Array.length_toList] at e
  omega
def Inv.tuple (I:Inv X pins σ H s)(h:SqT X.K H a xs):∃its:List Value,Vals xs its/\IsTup s.heap a its.toArray/\xs.length<=sizeLine:=by
 rcases h with h|⟨o,its,n,hk,hc,hs,hz,r⟩
 ·obtain⟨z,its,r,p⟩:=h.ok I.hok
  exact⟨its,r,p,z⟩
 ·refine⟨its.toList,r,⟨o,I.kIn a o hk,hc,n,by simpa using hs⟩,?_⟩
  have e:=r.length
  simp only[Array.length_toList] at e
  omega
def Inv.list_inj (I:Inv X pins σ H s)(h:SqL X.K H a xs)(h':SqL X.K H a ys):xs=ys:=by
 obtain⟨its,r,⟨o,n,e,_,_,d⟩,_⟩:=I.list h
 obtain⟨its',r',⟨o',n',e',_,_,d'⟩,_⟩:=I.list h'
 rw[e] at e';cases e'
 rw[d] at d'
 injection d' with d1 _
 have:its=its':=by simpa using congrArg Array.toList d1
 subst this
 exact r.inj r'
def Inv.tuple_inj (I:Inv X pins σ H s)(h:SqT X.K H a xs)(h':SqT X.K H a ys):xs=ys:=by
 obtain⟨its,r,⟨o,e,_,n,d⟩,_⟩:=I.tuple h
 obtain⟨its',r',⟨o',e',_,n',d'⟩,_⟩:=I.tuple h'
 rw[e] at e';cases e'
 rw[d] at d'
 injection d' with d1 _
 have:its=its':=by simpa using congrArg Array.toList d1
 subst this
 exact r.inj r'
end
abbrev Cx.wish (X:Cx)(E:Value->Shared->Prop):Cx:={X with xe:=E}
abbrev Cx.nox (X:Cx):Cx:=X.wish fun _ _=>False
theorem Cx.Ok.wish {X:Cx}(ok:X.Ok)(E:Value->Shared->Prop):(X.wish E).Ok:=
 ⟨ok.mod,ok.kind,ok.glob,ok.blt,ok.above,ok.inj,ok.has,ok.cab,ok.hd,ok.frames,ok.stk,ok.exf,ok.bs,ok.bsz,ok.noex,ok.exfs,ok.funs,ok.frf⟩
def Cx.Ok.unwish {X:Cx}{E:Value->Shared->Prop}(ok:(X.wish E).Ok):X.Ok:=
 ⟨ok.mod,ok.kind,ok.glob,ok.blt,ok.above,ok.inj,ok.has,ok.cab,ok.hd,ok.frames,ok.stk,ok.exf,ok.bs,ok.bsz,ok.noex,ok.exfs,ok.funs,ok.frf⟩
section
variable {X:Cx}{pins:List (Addr×Obj)}{σ:St}{H:Hp}{s:Shared}{E:Value->Shared->Prop}
theorem Inv.wish (I:Inv X pins σ H s)(E:Value->Shared->Prop):Inv (X.wish E) pins σ H s:=⟨I.ok.wish E,I.os,I.bare,I.base,I.loc,I.cell,I.free,I.freeC,I.pin,I.hok,I.len⟩
theorem Inv.unwish (I:Inv (X.wish E) pins σ H s):Inv X pins σ H s:=⟨I.ok.unwish,I.os,I.bare,I.base,I.loc,I.cell,I.free,I.freeC,I.pin,I.hok,I.len⟩
theorem SP.unwish {D:Ends}{f:Flow}{s':Shared}(h:SP (X.wish E) pins D f s'):SP X pins D f s':=by
 cases f with
 |next=>obtain⟨σ',H',I,q⟩:=h;exact⟨σ',H',I.unwish,q⟩
 |brk=>obtain⟨σ',H',I,q⟩:=h;exact⟨σ',H',I.unwish,q⟩
 |cont=>obtain⟨σ',H',I,q⟩:=h;exact⟨σ',H',I.unwish,q⟩
 |ret u=>obtain⟨v,σ',H',I,r,q⟩:=h;exact⟨v,σ',H',I.unwish,r,q⟩
theorem PSs.nox {st:List Stmt}{t:TS}(h:PSs X.nox st t):PSs X st t:=fun pins s σ H D I hw=>
 wpAny_mono (h pins s σ H D (I.wish _) hw) (fun _ _ q=>q.unwish) fun _ _ z=>False.elim z
end
section
variable {X:Cx}{st:Stmt}{rest:List Stmt}{t u:TS}{e:Expr}{te:TE}{pos:Pos}
def Zl7:TS:=fun D σ H=>D.nx σ H
def Zog (t u:TS):TS:=fun D σ H=>t {D with nx:=u D} σ H
def Sb:PSs X [] Zl7:=fun _ _ σ H _ I h=>wpAny_execs_nil ⟨σ,H,I,h⟩
def Yc (h1:PS X st t)(h2:PSs X rest u):PSs X (st::rest) (Zog t u):=by
 intro pins s σ H D I h
 refine wpAny_execs_cons (Xi (h1 pins s σ H {D with nx:=u D} I h) fun f s1 q=>?_)
 cases f with
 |next=>
  obtain⟨σ',H',I',q⟩:=q
  exact h2 pins s1 σ' H' D I' q
 |ret v=>exact q
 |brk=>exact q
 |cont=>exact q
def Kd (h1:PS X st t):PSs X [st] t:=by
 intro pins s σ H D I h
 refine wpAny_execs_cons (Xi (h1 pins s σ H D I h) fun f s1 q=>?_)
 cases f with
 |next=>exact wpAny_execs_nil q
 |ret v=>exact q
 |brk=>exact q
 |cont=>exact q
def Inv.quiet {pins:List (Addr×Obj)}{σ:St}{H:Hp}{s:Shared}(I:Inv X pins σ H s):interactive X.env=false:=by simp[interactive,I.ok.kind]
def Zhv (te:TE):TS:=fun D σ H=>te σ H fun _ H1=>D.nx σ H1
def Gh (he:PE X e te)(hs:swapsWith e none pos.line X.env=pure false:=by rfl):PS X (.Expr e pos) (Zhv te):=by
 intro pins s σ H D I h
 exact wpAny_Expr_any (Xi (he pins s σ H _ I h) fun v s1 ⟨x,H1,I1,r1,q1⟩=>⟨σ,H1,I1,q1⟩) I.quiet hs
def Zoh (te:TE):TS:=fun D σ H=>te σ H D.rt
def Pn (he:PE X e te):PS X (.Return (some e) pos) (Zoh te):=by
 intro pins s σ H D I h
 exact wpAny_Return_some (Xi (he pins s σ H _ I h) fun v s1 ⟨x,H1,I1,r1,q1⟩=>⟨x,σ,H1,I1,r1,q1⟩)
def Zoi (c:TT)(t u:TS):TS:=fun D σ H=>c σ H fun b H1=>if b=true then t D σ H1 else u D σ H1
def F1 {c:Expr}{a b:List Stmt}{tc:TT}(hc:PT X c tc)(ha:PSs X a t)(hb:PSs X b u):PS X (.If c a b pos) (Zoi tc t u):=by
 intro pins s σ H D I h
 refine wpAny_If (Xi (hc pins s σ H _ I h) fun d s1 ⟨H1,I1,q1⟩=>?_)
 cases d with
 |true=>exact ha pins s1 σ H1 D I1 q1
 |false=>exact hb pins s1 σ H1 D I1 q1
end
abbrev TG:=V->St->Hp->(St->Hp->Prop)->Prop
abbrev Zhw:=List V->St->Hp->(St->Hp->Prop)->Prop
def PG (X:Cx)(target:Expr)(t:TG):Prop:=
 ∀(pins:List (Addr×Obj)) (s:Shared) (σ:St) (H:Hp) (v:V) (u:Value) (Q:St->Hp->Prop),Inv X pins σ H s->RelV v u->t v σ H Q ->
  wpAny (model X.prog X.w) X.A (assign target X.env u) (fun _ s'=>∃σ' H',Inv X pins σ' H' s'/\Q σ' H') X.xe s
def Zl8 (X:Cx)(ts:List Expr)(t:Zhw):Prop:=
 ∀(pins:List (Addr×Obj)) (s:Shared) (σ:St) (H:Hp) (vs:List V) (us:List Value) (Q:St->Hp->Prop),Inv X pins σ H s->Vals vs us->t vs σ H Q ->
  wpAny (model X.prog X.w) X.A (assignInOrder ((assignEach ts X.env).map (·.2)) us) (fun _ s'=>∃σ' H',Inv X pins σ' H' s'/\Q σ' H') X.xe s
section
variable {X:Cx}{pos:Pos}
def F2 (i:Nat):TG:=fun v σ H Q=>Q (σ.set i (some v)) H
def Sc {i:Nat}{x:Str}(hN:X.N.Nodup)(hi:X.N[i]?=some x)(hx:Zbw X.env.scope x)(hf:X.fn x=true\/X.env.scope.names.lookup x=some .local:=by first|exact .inl rfl|exact .inr rfl|assumption):PG X (.Name x pos) (F2 i):=by
 intro pins s σ H v u Q I r h
 exact wpAny_assign_Name (Nq I hN hi hx r (fun s' I'=>⟨_,H,I',h⟩) hf)
def Zl9:Zhw:=fun vs σ H Q=>vs=[]/\Q σ H
def Zby (t:TG)(u:Zhw):Zhw:=fun vs σ H Q=>∃v r,vs=v::r/\t v σ H fun σ' H'=>u r σ' H' Q
def F3:Zl8 X [] Zl9:=by
 intro pins s σ H vs us Q I r h
 obtain⟨e,h⟩:=h
 subst e
 cases r
 exact assignInOrder_nil ⟨σ,H,I,h⟩
def Sj {e:Expr}{es:List Expr}{t:TG}{u:Zhw}(h1:PG X e t)(h2:Zl8 X es u)(hs:(assignEach (e::es) X.env).map (·.2)=assign e X.env::(assignEach es X.env).map (·.2):=by rfl):Zl8 X (e::es) (Zby t u):=by
 intro pins s σ H vs us Q I r h
 obtain⟨v,vr,e1,h⟩:=h
 subst e1
 cases r with
 |cons r rr=>
  rw[hs]
  refine assignInOrder_cons (Xi (h1 pins s σ H _ _ _ I r h) fun _ s1 ⟨σ1,H1,I1,q1⟩=>?_)
  exact h2 pins s1 σ1 H1 _ _ Q I1 rr q1
def Zma (te:TE)(g:TG):TS:=fun D σ H=>te σ H fun x H1=>g x σ H1 D.nx
def Zi7 {tg e:Expr}{te:TE}{g:TG}(he:PE X e te)(hg:PG X tg g)(hs:swapsWithSole [tg] e pos.line X.env=pure false:=by rfl)(hw:swappedStores [tg] e X.env=pure none:=by rfl)(h1:(assignEach [tg] X.env).map (·.2)=[assign tg X.env]:=by rfl):PS X (.Assign [tg] e pos) (Zma te g):=by
 intro pins s σ H D I h
 refine wpAny_Assign_stores (Xi (he pins s σ H _ I h) fun v s1 ⟨x,H1,I1,r1,q1⟩=>?_) hs hw
 rw[h1]
 exact Xi (hg pins s1 σ H1 x v _ I1 r1 q1) fun _ s2 q=>q
def Nd {i:Nat}{x:Str}{e:Expr}{te:TE}{pos':Pos}(hN:X.N.Nodup)(hi:X.N[i]?=some x)(hx:Zbw X.env.scope x)(he:PE X e te)(hs:swapsWith e (some (.Name x pos')) pos.line X.env=pure false:=by rfl)(hf:X.fn x=true\/X.env.scope.names.lookup x=some .local:=by first|exact .inl rfl|exact .inr rfl|assumption):
  PS X (.Assign [.Name x pos'] e pos) (Zma te (F2 i)):=by
 intro pins s σ H D I h
 refine wpAny_Assign_Name (Xi (he pins s σ H _ I h) fun v s1 ⟨y,H1,I1,r1,q1⟩=>?_) hs
 exact Nq I1 hN hi hx r1 (fun s2 I2=>⟨_,H1,I2,q1⟩) hf
def Zoj (i j:Nat)(ta:TA):TS:=fun D σ H=>ta σ H fun vs H1=>∃v w,vs=[v,w]/\D.nx ((σ.set i (some v)).set j (some w)) H1
def Zi8 {i j:Nat}{x y:Str}{a b:Expr}{ta:TA}{px py pt:Pos}{kt k2 pt2}(hc:X.calm=true)(hN:X.N.Nodup)(hi:X.N[i]?=some x)(hj:X.N[j]?=some y)(hij:i≠j)(hx:X.env.scope.names.lookup x=some .local)(hy:X.env.scope.names.lookup y=some .local)(ha:PA X [a,b] ta)(hw:swappedStores [.Tuple [.Name x px,.Name y py] kt pt] (.Tuple [a,b] k2 pt2) X.env=pure (some [x,y]))(hs:swapsWithSole [.Tuple [.Name x px,.Name y py] kt pt] (.Tuple [a,b] k2 pt2) pos.line X.env=pure false:=by rfl):
  PS X (.Assign [.Tuple [.Name x px,.Name y py] kt pt] (.Tuple [a,b] k2 pt2) pos) (Zoj i j ta):=by
 intro pins s σ H D I h
 rw[exec_Assign_arm]
 refine wpAny_bind (wpAny_standAt ?_)
 rw[hs]
 refine wpAny_bind (wpAny_pure ?_)
 rw[if_neg (by decide)]
 refine wpAny_bind (Tuple_ (Xi (ha _ pins s σ H _ I h) fun us s1 ⟨vs,H1,I1,r1,q1⟩=>?_))
 obtain⟨v,w,e1,q1⟩:=q1
 subst e1
 obtain⟨u1,u2,rfl,rv,rw'⟩:∃u1 u2,us=[u1,u2]/\RelV v u1/\RelV w u2:=by
  cases r1 with
  |cons p q=>
   cases q with
   |cons p' q'=>
    cases q'
    exact⟨_,_,rfl,p,p'⟩
 refine wpAny_newObj_type ?_ (by show 2<=sizeLine;decide)
 have I2:Inv X pins σ H1 {s1 with heap:=s1.heap.push {cls:=.type "tuple", data:=.seq [u1,u2].toArray}}:=I1.kept (t':=s1.toks) fun b o e=>Heap.get?_push_of_some _ e
 rw[hw]
 refine wpAny_bind (wpAny_pure ?_)
 show wpAny (model X.prog X.w) X.A (do rule "assign.swapped-stores"; let items <-unpackItems (.ref s1.heap.objs.size) 2 none;assignInOrder [fun v=>bindName X.env y v,fun v=>bindName X.env x v] items.reverse;pure Flow.next) _ _ _
 refine wpAny_bind (wpAny_rule (wpAny_bind (unpackItems_tuple (items:=#[u1,u2]) (I.ok.hd hc) (IsTup.new s1.heap _) fun h' hx'=>?_)))
 have I3:=I2.kept (h':=h') (t':=s1.toks) fun b o e=>hx' b o (Nat.ne_of_lt (Heap.lt_size e)) e
 show wpAny _ _ (assignInOrder [fun v=>bindName X.env y v,fun v=>bindName X.env x v] [u2,u1]>>=fun _=>pure Flow.next) _ _ _
 refine wpAny_bind (assignInOrder_cons (wpAny_bindName (Nq I3 hN hj (.inl hy) rw' (fun s2 I4=>?_) (.inr hy))))
 refine assignInOrder_cons (wpAny_bindName (Nq I4 hN hi (.inl hx) rv (fun s3 I5=>assignInOrder_nil (wpAny_pure ?_)) (.inr hx)))
 rw[List.set_comm _ _ (Ne.symm hij)] at I5
 exact⟨_,H1,I5,q1⟩
end
section
variable {X:Cx}{pos:Pos}
def Zi9 (c:TT)(tb:TS):TS:=fun D σ H=>∃W:Nat->St->Hp->Prop,(∃m,W m σ H)/\∀m σ H,W m σ H ->
 c σ H fun b H1=>if b=true then ∃N:St->Hp->Prop,(∀σ' H',N σ' H'->∃m',m'<m/\W m' σ' H')/\tb {D with nx:=N,ct:=N,bk:=D.nx} σ H1 else D.nx σ H1
def A2 {c:Expr}{body:List Stmt}{tc:TT}{tb:TS}(hp:PassesOwn (model X.prog X.w) X.A X.env X.xe)(hc:PT X c tc)(hb:PSs X body tb):PS X (.While c body [] pos) (Zi9 tc tb):=by
 intro pins s σ H D I h
 obtain⟨W,⟨m0,w0⟩,turn⟩:=h
 refine wpAny_While (codeAny_whileLoop (fun n s'=>∃σ' H',Inv X pins σ' H' s'/\W n σ' H') ?_ m0 ⟨σ,H,I,w0⟩)
 rintro n s1 ⟨σ1,H1,I1,w1⟩
 refine wpAny_passesOwn hp (Xi (hc pins s1 σ1 H1 _ I1 (turn n σ1 H1 w1)) fun b s2 ⟨H2,I2,q2⟩=>?_)
 cases b with
 |true=>
  obtain⟨N,hN,q2⟩:=q2
  rw[if_pos rfl]
  refine wpAny_passesOwn hp (Xi (hb pins s2 σ1 H2 _ I2 q2) fun f s3 q3=>?_)
  cases f with
  |next=>
   obtain⟨σ3,H3,I3,n3⟩:=q3
   obtain⟨m',hm,w3⟩:=hN σ3 H3 n3
   exact⟨m',hm,σ3,H3,I3,w3⟩
  |cont=>
   obtain⟨σ3,H3,I3,n3⟩:=q3
   obtain⟨m',hm,w3⟩:=hN σ3 H3 n3
   exact⟨m',hm,σ3,H3,I3,w3⟩
  |brk=>exact q3
  |ret v=>exact q3
 |false=>
  rw[if_neg Bool.false_ne_true]
  exact wpAny_execs_nil ⟨σ1,H2,I2,q2⟩
end
structure It where
 go:Nat->Hp->Prop
 yld:Nat->Hp->V->Hp->Prop
 stop:Nat->Hp->Prop
def Ry (X:Cx)(pins:List (Addr×Obj))(H:Hp)(b:Addr):Prop:=
 H b=none/\b≠X.env.locals/\b ∉ X.fs/\(b∈X.ex\/X.s₀.heap.objs.size<=b)/\(∀x c,X.env.cells.lookup x=some c->c≠b)/\∀p∈X.pn++pins,p.1≠b
def Inv.fpOk {X:Cx}{pins:List (Addr×Obj)}{σ:St}{H H':Hp}{s:Shared}{b:Addr}(I:Inv X pins σ H s)(hb:s.heap.objs.size<=b)(hn:H' b=none):Ry X pins H' b:=by
 refine⟨hn,Nat.ne_of_gt (Nat.lt_of_lt_of_le I.lt hb),I.nofs hb,.inr (Nat.le_trans I.sz hb),fun x c e z=>?_,fun p hp z=>?_⟩
 ·obtain⟨v,q⟩:=I.cell x c e
  exact absurd (Nat.lt_of_lt_of_le q.lt (by rw[z];exact hb)) (Nat.lt_irrefl _)
 ·exact absurd (Nat.lt_of_lt_of_le (Heap.lt_size (I.pin p hp).1) (by rw[z];exact hb)) (Nat.lt_irrefl _)
structure Turn (P:Program) (w:World) (K:PySem.W.Frag) (tg:Expr) (J:It) (fp:List Addr) (it:Addr) (tn:Nat->Heap->Prop):Prop where
 mem:it∈fp
 obj:∀i h,tn i h->∀b∈fp,∃o,h.get? b=some o/\∀v,o.data≠.cell v
 keep:∀i h h',tn i h->(∀b∈fp,∀o,h.get? b=some o->h'.get? b=some o)->tn i h'
 item:∀(X:Cx),X.prog=P->X.w=w->X.K=K->X.calm=true->∀(i:Nat) (pins:List (Addr×Obj)) (s:Shared) (σ:St) (H:Hp) (E:Value->Shared->Prop),Inv X pins σ H s->(∀b∈fp,Ry X pins H b)->tn i s.heap->J.go i H ->
  wpAny (model P w) X.A (pyNext (.ref it)) (fun r s1=>∃u,r=some u /\
   wpAny (model P w) X.A (letOwnedTupleGo tg (.ref it) u) (fun _ s2=>∃x H',Inv X pins σ H' s2/\RelV x u/\J.yld i H x H'/\tn (i+1) s2.heap/\∀b∈fp,H' b=none) E s1) E s
 done:∀(X:Cx),X.prog=P->X.w=w->X.K=K->X.calm=true->∀(i:Nat) (pins:List (Addr×Obj)) (s:Shared) (σ:St) (H:Hp) (E:Value->Shared->Prop),Inv X pins σ H s->(∀b∈fp,Ry X pins H b)->tn i s.heap->J.stop i H ->
  wpAny (model P w) X.A (pyNext (.ref it)) (fun r s1=>r=none/\Inv X pins σ H s1) E s
 self:∀(A:Around) (i:Nat) (s:Shared) (Q:Value->Shared->Prop) (E:Value->Shared->Prop),tn i s.heap->Q (.ref it) s->wpAny (model P w) A (pyIter (.ref it)) Q E s
abbrev TI:=St->Hp->(It->Hp->Prop)->Prop
def Zpc (X:Cx)(pins:List (Addr×Obj))(σ:St)(tg:Expr)(R:It->Hp->Prop)(itv:Value)(s2:Shared):Prop:=
 ∃(it:Addr) (fp:List Addr) (tn:Nat->Heap->Prop) (J:It) (H':Hp),itv=.ref it/\Inv X pins σ H' s2/\Turn X.prog X.w X.K tg J fp it tn/\tn 0 s2.heap/\(∀b∈fp,Ry X pins H' b)/\R J H'
def PI (X:Cx)(tg iter:Expr)(wi:TI):Prop:=
 ∀(pins:List (Addr×Obj)) (s:Shared) (σ:St) (H:Hp) (R:It->Hp->Prop),Inv X pins σ H s->wi σ H R ->
  wpAny (model X.prog X.w) X.A (eval iter X.env) (fun v s1=>wpAny (model X.prog X.w) X.A (pyIter v) (Zpc X pins σ tg R) X.xe s1) X.xe s
def Zbz {M:Model}{A:Around}{E:Value->Shared->Prop}{s:Shared}{tg:Expr}{it:Addr}{u:Value}{o:Obj}{n:String}{vs:Array Value}{Q:Unit->Shared->Prop}(ho:s.heap.get? it=some o)(hc:o.cls=.type n)(hd:o.data=.fields vs)
  (hn:["enumerate","zip","dict_itemiterator","dict_reverseitemiterator","odict_iterator","itertools.zip_longest","itertools.pairwise"].contains n=false) (hQ:Q () s):wpAny M A (letOwnedTupleGo tg (.ref it) u) Q E s:=by
 unfold letOwnedTupleGo
 cases tg<;>first
  |exact wpAny_pure hQ
  |(cases u<;>first
    |exact wpAny_pure hQ
    |(refine wpAny_bind (wpAny_load ho ?_)
      rw[hc,hd]
      show wpAny M A (if(["enumerate","zip","dict_itemiterator","dict_reverseitemiterator","odict_iterator","itertools.zip_longest","itertools.pairwise"].contains n&&vs[0]?==some (rawInt _))=true then _ else _) Q E s
      rw[if_neg (by intro h;rw[hn,Bool.false_and] at h;cases h)]
      exact wpAny_pure hQ))
def Znz (K:PySem.W.Frag)(a:Addr):It:=
 ⟨fun i H=>∃xs x,SqL K H a xs/\xs[i]?=some x,fun i H x H'=>H'=H/\∀xs,SqL K H a xs->xs[i]?=some x,fun i H=>∃xs,SqL K H a xs/\xs.length<=i⟩
def Zlv (K:PySem.W.Frag)(a:Addr):It:=
 ⟨fun i H=>∃xs x,SqT K H a xs/\xs[i]?=some x,fun i H x H'=>H'=H/\∀xs,SqT K H a xs->xs[i]?=some x,fun i H=>∃xs,SqT K H a xs/\xs.length<=i⟩
def Zn0 (lo:Int)(n:Nat):It:=⟨fun i _=>i<n,fun i H x H'=>H'=H/\x=.int (lo+i),fun i _=>n<=i⟩
def Ly {P:Program}{w:World}{K:PySem.W.Frag}{tg:Expr}(a it:Addr):Turn P w K tg (Znz K a) [it] it (fun i h=>h.IsListIter it a i) where
 mem:=by simp
 obj:=fun i h st b hb=>by
  have e:b=it:=by simpa using hb
  subst e
  obtain⟨o,e,c,d⟩:=st
  exact⟨o,e,fun v z=>by rw[d] at z;cases z⟩
 keep:=fun i h h' st k=>st.at fun o e=>k it (by simp) o e
 item:=by
  intro X hP hw hK hc i pins s σ H E I hf st hg
  subst hP hw hK
  obtain⟨xs,x,hq,hx⟩:=hg
  obtain⟨its,rv,p,hz⟩:=I.list hq
  obtain⟨u,hu,ru⟩:=rv.get hx
  obtain⟨f0,f1,f2,f3,f4,f5⟩:=hf it (by simp)
  refine wpAny_pyNext_list_item st p.isList (x:=u) (by simpa using hu) fun h' st' sb=>?_
  have I1:Inv X pins σ H {s with heap:=h'}:=I.turned (t':=s.toks) (fun b o hb e=>(sb.2 b hb).trans e) f0 f1 f3 f4 f5
  obtain⟨o,e,c,d⟩:=id st'
  exact⟨u,rfl,Zbz (s:={s with heap:=h'}) e c d (by decide) ⟨x,H,I1,ru,⟨rfl,fun ys hy=>by rw[I.list_inj hy hq];exact hx⟩,st',fun b hb=>(hf b hb).1⟩⟩
 done:=by
  intro X hP hw hK hc i pins s σ H E I hf st hg
  subst hP hw hK
  obtain⟨xs,hq,hx⟩:=hg
  obtain⟨its,rv,p,hz⟩:=I.list hq
  obtain⟨f0,f1,f2,f3,f4,f5⟩:=hf it (by simp)
  have hl:=rv.length
  exact wpAny_pyNext_list_end (I.ok.hd hc) st p.isList (by simp;omega) fun h' eb=>⟨rfl,I.turned (t':=s.toks) (fun b o hb e=>eb b o hb e) f0 f1 f3 f4 f5⟩
 self:=fun _ _ _ _ _ st h=>wpAny_pyIter_listiter st h
def Sk {P:Program}{w:World}{K:PySem.W.Frag}{tg:Expr}(a it:Addr):Turn P w K tg (Zlv K a) [it] it (fun i h=>h.IsTupleIter it a i) where
 mem:=by simp
 obj:=fun i h st b hb=>by
  have e:b=it:=by simpa using hb
  subst e
  obtain⟨o,e,c,d⟩:=st
  exact⟨o,e,fun v z=>by rw[d] at z;cases z⟩
 keep:=fun i h h' st k=>st.at fun o e=>k it (by simp) o e
 item:=by
  intro X hP hw hK hc i pins s σ H E I hf st hg
  subst hP hw hK
  obtain⟨xs,x,hq,hx⟩:=hg
  obtain⟨its,rv,p,hz⟩:=I.tuple hq
  obtain⟨u,hu,ru⟩:=rv.get hx
  obtain⟨f0,f1,f2,f3,f4,f5⟩:=hf it (by simp)
  refine wpAny_pyNext_tuple_item st (show s.heap.IsTuple a its.toArray from p) (x:=u) (by simpa using hu) fun h' st' sb=>?_
  have I1:Inv X pins σ H {s with heap:=h'}:=I.turned (t':=s.toks) (fun b o hb e=>(sb.2 b hb).trans e) f0 f1 f3 f4 f5
  obtain⟨o,e,c,d⟩:=id st'
  exact⟨u,rfl,Zbz (s:={s with heap:=h'}) e c d (by decide) ⟨x,H,I1,ru,⟨rfl,fun ys hy=>by rw[I.tuple_inj hy hq];exact hx⟩,st',fun b hb=>(hf b hb).1⟩⟩
 done:=by
  intro X hP hw hK hc i pins s σ H E I hf st hg
  subst hP hw hK
  obtain⟨xs,hq,hx⟩:=hg
  obtain⟨its,rv,p,hz⟩:=I.tuple hq
  obtain⟨f0,f1,f2,f3,f4,f5⟩:=hf it (by simp)
  have hl:=rv.length
  exact wpAny_pyNext_tuple_end (I.ok.hd hc) st (show s.heap.IsTuple a its.toArray from p) (by simp;omega) fun h' eb=>⟨rfl,I.turned (t':=s.toks) (fun b o hb e=>eb b o hb e) f0 f1 f3 f4 f5⟩
 self:=fun _ _ _ _ _ st h=>wpAny_pyIter_tupleiter st h
def Eb {P:Program}{w:World}{K:PySem.W.Frag}{tg:Expr}(it:Addr)(lo:Int)(n:Nat):Turn P w K tg (Zn0 lo n) [it] it (fun i h=>IsRangeIter h it (lo+(i:Nat)*1) ((n:Int)-(i:Nat)) 1) where
 mem:=by simp
 obj:=fun i h st b hb=>by
  have e:b=it:=by simpa using hb
  subst e
  exact⟨_,st,fun v z=>by
   have z':Data.fields _=Data.cell v:=z
   cases z'⟩
 keep:=fun i h h' st k=>k it (by simp) _ st
 item:=by
  intro X hP hw hK hc i pins s σ H E I hf st hg
  subst hP hw hK
  obtain⟨f0,f1,f2,f3,f4,f5⟩:=hf it (by simp)
  have W:=Walks.range (prog:=X.prog) (w:=X.w) (I.ok.hd hc) it lo 1 n
  refine W.item i s _ _ hg st fun v h' tk hv st' kk=>?_
  obtain⟨t,rfl⟩:=hv
  have I1:Inv X pins σ H {s with heap:=h',toks:=tk}:=I.turned (fun b o hb e=>kk b o (by simpa using hb) e) f0 f1 f3 f4 f5
  refine⟨_,rfl,Zbz (s:={s with heap:=h',toks:=tk}) (n:="range_iterator") st' rfl rfl (by decide) ⟨.int (lo+i),H,I1,⟨t,?_⟩,⟨rfl,rfl⟩,st',fun b hb=>(hf b hb).1⟩⟩
  rw[Int.mul_one]
 done:=by
  intro X hP hw hK hc i pins s σ H E I hf st hg
  subst hP hw hK
  obtain⟨f0,f1,f2,f3,f4,f5⟩:=hf it (by simp)
  exact wpAny_pyNext_range_end (I.ok.hd hc) st (by have:n<=i:=hg;omega) fun h' eb=>⟨rfl,I.turned (t':=s.toks) (fun b o hb e=>eb b o hb e) f0 f1 f3 f4 f5⟩
 self:=fun _ _ _ _ _ st h=>wpAny_pyIter_rangeiter st h
section
variable {X:Cx}{tg:Expr}
def Zmb (K:PySem.W.Frag)(tl:TE):TI:=fun σ H R=>tl σ H fun x H1=>∃a,x=.ref a/\(∃xs,SqL K H1 a xs)/\R (Znz K a) H1
def Zok (K:PySem.W.Frag)(tl:TE):TI:=fun σ H R=>tl σ H fun x H1=>∃a,x=.ref a/\(∃xs,SqT K H1 a xs)/\R (Zlv K a) H1
def Zfi {l:Expr}{tl:TE}(hl:PE X l tl):PI X tg l (Zmb X.K tl):=by
 intro pins s σ H R I h
 refine Xi (hl pins s σ H _ I h) fun v s1 ⟨x,H1,I1,r1,q1⟩=>?_
 obtain⟨a,e,⟨xs,hq⟩,q⟩:=q1
 subst e
 cases r1
 obtain⟨its,rv,p,hz⟩:=I1.list hq
 refine wpAny_pyIter_list p.isList ?_
 refine⟨s1.heap.objs.size,[s1.heap.objs.size],_,_,H1,rfl,I1.kept (t':=s1.toks) fun b o e=>Heap.get?_push_of_some _ e,Ly a _,⟨_,Heap.get?_push_size _ rfl,rfl,rfl⟩,fun b hb=>?_,q⟩
 have e:b=s1.heap.objs.size:=by simpa using hb
 subst e
 exact I1.fpOk (Nat.le_refl _) (I1.hok.fresh (Nat.le_refl _))
def Zja {l:Expr}{tl:TE}(hl:PE X l tl):PI X tg l (Zok X.K tl):=by
 intro pins s σ H R I h
 refine Xi (hl pins s σ H _ I h) fun v s1 ⟨x,H1,I1,r1,q1⟩=>?_
 obtain⟨a,e,⟨xs,hq⟩,q⟩:=q1
 subst e
 cases r1
 obtain⟨its,rv,p,hz⟩:=I1.tuple hq
 refine wpAny_pyIter_tuple (show s1.heap.IsTuple a its.toArray from p) ?_
 refine⟨s1.heap.objs.size,[s1.heap.objs.size],_,_,H1,rfl,I1.kept (t':=s1.toks) fun b o e=>Heap.get?_push_of_some _ e,Sk a _,⟨_,Heap.get?_push_size _ rfl,rfl,rfl⟩,fun b hb=>?_,q⟩
 have e:b=s1.heap.objs.size:=by simpa using hb
 subst e
 exact I1.fpOk (Nat.le_refl _) (I1.hok.fresh (Nat.le_refl _))
def Zb0 {pins:List (Addr×Obj)}{σ:St}{H:Hp}{s:Shared}{R:It->Hp->Prop}{E:Value->Shared->Prop}{lo hi:Int}{t u v:Tok}{tk:Nat}(I:Inv X pins σ H s)(h1:-(2 ^ 62)<=lo)(h2:lo<2 ^ 62)(h3:-(2 ^ 62)<=hi)(h4:hi<2 ^ 62)(q:R (Zn0 lo (hi-lo).toNat) H):wpAny (model X.prog X.w) X.A (pyIter (.ref s.heap.objs.size)) (Zpc X pins σ tg R) E {s with heap:=s.heap.push {cls:=.type "range", data:=.fields #[.int lo t,.int hi u,.int 1 v]},toks:=tk}:=by
 refine wpAny_pyIter_range (IsRange.new ..) (small_one h1 h2 h3 h4) ?_
 have I1:Inv X pins σ H {s with heap:=s.heap.push {cls:=.type "range", data:=.fields #[.int lo t,.int hi u,.int 1 v]},toks:=tk}:=I.kept fun b o e=>Heap.get?_push_of_some _ e
 refine⟨(s.heap.push {cls:=.type "range", data:=.fields #[.int lo t,.int hi u,.int 1 v]}).objs.size,[(s.heap.push {cls:=.type "range", data:=.fields #[.int lo t,.int hi u,.int 1 v]}).objs.size],_,_,H,rfl,
  I1.kept (t':=tk) fun b o e=>Heap.get?_push_of_some _ e,Eb _ lo (hi-lo).toNat,?_,fun b hb=>?_,q⟩
 ·have e1:lo+((0:Nat):Int)*1=lo:=by simp
  have e2:(((hi-lo).toNat:Nat):Int)-((0:Nat):Int)=Builtin.Range.rangeSize lo hi 1:=by rw[rangeSize_one];split<;>omega
  show IsRangeIter _ _ (lo+((0:Nat):Int)*1) ((((hi-lo).toNat:Nat):Int)-((0:Nat):Int)) 1
  rw[e1,e2]
  exact Heap.get?_push_size _ rfl
 ·have e:b=(s.heap.push {cls:=.type "range", data:=.fields #[.int lo t,.int hi u,.int 1 v]}).objs.size:=by simpa using hb
  subst e
  exact I1.fpOk (Nat.le_refl _) (I1.hok.fresh (Nat.le_refl _))
def Zmc (ta:TA):TI:=fun σ H R=>ta σ H fun vs H1=>∃j:Int,vs=[.int j]/\-(2 ^ 62)<=j/\j<2 ^ 62/\R (Zn0 0 j.toNat) H1
def O4 {a:Expr}{ta:TA}{p pos:Pos} (hg:Gl X "range") (hm:X.mg "range"=none) (ha:PA X [a] ta) (hs:starEach [a] X.env=[(false,eval a X.env)]:=by rfl):PI X tg (.Call (.Name "range" p) [a] [] pos) (Zmc ta):=by
 intro pins s σ H R I h
 refine Call_ (Nb I hg hm boot_range (PyProof.Rows.callWith_type1 (Xi (ha pos pins s σ H _ I h) fun us s1 ⟨vs,H1,I1,r1,q1⟩=>?_) hs rfl))
 obtain⟨j,e,q1,q2,q⟩:=q1
 subst e
 cases r1 with
 |cons r rr=>
  cases rr
  obtain⟨t,rfl⟩:=r
  exact call_range_1 (Zb0 I1 (by omega) (by omega) q1 q2 (by simpa using q))
def Zol (wi:TI)(g:TG)(tb:TS):TS:=fun D σ H=>wi σ H fun J H1=>∃W:Nat->Nat->St->Hp->Prop,(∃m,W 0 m σ H1)/\∀i m σ H,W i m σ H ->
 (J.stop i H/\D.nx σ H)\/(J.go i H/\∃N:St->Hp->Prop,(∀σ' H',N σ' H'->∃m',m'<m/\W (i+1) m' σ' H')/\∀x H',J.yld i H x H'->g x σ H' fun σ2 H2=>tb {D with nx:=N,ct:=N,bk:=D.nx} σ2 H2)
def M8 (fp:List Addr)(h:Heap):List (Addr×Obj):=fp.filterMap fun b=>(h.get? b).map fun o=>(b,o)
def Ks {fp:List Addr}{h:Heap}{b:Addr}{o:Obj}(hb:b∈fp)(e:h.get? b=some o):(b,o)∈M8 fp h:=List.mem_filterMap.mpr ⟨b,hb,by rw[e];rfl⟩
def O5 {fp:List Addr}{h:Heap}{p:Addr×Obj}(hp:p∈M8 fp h):p.1∈fp/\h.get? p.1=some p.2:=by
 obtain⟨b,hb,e⟩:=List.mem_filterMap.mp hp
 cases q:h.get? b with
 |none=>rw[q] at e;cases e
 |some o=>
  rw[q] at e
  have e':(b,o)=p:=Option.some.inj e
  subst e'
  exact⟨hb,q⟩
def Inv.pinned {pins:List (Addr×Obj)}{σ:St}{H:Hp}{s:Shared}{fp:List Addr}(I:Inv X pins σ H s)(hf:∀b∈fp,Ry X pins H b)(ho:∀b∈fp,∃o,s.heap.get? b=some o/\∀v,o.data≠.cell v):Inv X (pins++M8 fp s.heap) σ H s:=
 I.pins_of fun p hp=>(List.mem_append.mp hp).elim (fun z=>I.pin p (List.mem_append_right _ z)) fun z=>by
  obtain⟨hb,e⟩:=O5 z
  obtain⟨f0,f1,f2,_⟩:=hf p.1 hb
  obtain⟨o,e',d⟩:=ho p.1 hb
  rw[e] at e';cases e'
  exact⟨e,f0,f1,f2,d⟩
def Inv.unpinned {pins pl:List (Addr×Obj)}{σ:St}{H:Hp}{s:Shared}(I:Inv X (pins++pl) σ H s):Inv X pins σ H s:=I.pins_of fun p hp=>I.pin p (List.mem_append_right _ (List.mem_append_left _ hp))
def Ec {iter:Expr}{body:List Stmt}{wi:TI}{g:TG}{tb:TS}{pos:Pos}(hp:PassesOwn (model X.prog X.w) X.A X.env X.xe)(hc:X.calm=true)(hi:PI X tg iter wi)(hg:PG X tg g)(hb:PSs X body tb)(hs:∀x,foldedSetIterable iter X.env x=pure x:=by intro _;rfl):PS X (.For tg iter body [] pos) (Zol wi g tb):=by
 intro pins s σ H D I h
 refine wpAny_For (Xi (hi pins s σ H _ I h) fun v s1 h1=>Xi h1 fun itv s2 h2=>?_) hs
 obtain⟨it,fp,tn,J,H2,e,I2,T,st2,f2,W,⟨m0,w0⟩,turn⟩:=h2
 subst e
 have stat:∀{H':Hp},(∀b∈fp,H' b=none)->∀b∈fp,Ry X pins H' b:=fun hn b hb=>⟨hn b hb,(f2 b hb).2⟩
 refine codeAny_forLoop_any (fun n s'=>∃i σ' H',Inv X pins σ' H' s'/\tn i s'.heap/\(∀b∈fp,H' b=none)/\W i n σ' H') ?_ m0 ⟨0,σ,H2,I2,st2,fun b hb=>(f2 b hb).1,w0⟩
 rintro n s3 ⟨i,σ3,H3,I3,st3,fr3,w3⟩
 rcases turn i n σ3 H3 w3 with⟨stop,qn⟩|⟨go,N,hN,step⟩
 ·refine wpAny_passesOwn hp (Xi (T.done X rfl rfl rfl hc i pins s3 σ3 H3 X.xe I3 (stat fr3) st3 stop) fun r s4 ⟨hr,I4⟩=>?_)
  subst hr
  exact wpAny_execs_nil ⟨σ3,H3,I4,qn⟩
 ·refine wpAny_passesOwn hp (Xi (T.item X rfl rfl rfl hc i pins s3 σ3 H3 X.xe I3 (stat fr3) st3 go) fun r s4 ⟨u,hr,h4⟩=>?_)
  subst hr
  refine wpAny_passesOwn hp (Xi h4 fun _ s5 ⟨x,H5,I5,r5,y5,st5,fr5⟩=>?_)
  have I5':=I5.pinned (stat fr5) (T.obj _ _ st5)
  refine wpAny_passesOwn hp (Xi (hg _ s5 σ3 H5 x u _ I5' r5 (step x H5 y5)) fun _ s6 ⟨σ6,H6,I6,q6⟩=>?_)
  refine wpAny_passesOwn hp (Xi (hb _ s6 σ6 H6 _ I6 q6) fun f s7 q7=>?_)
  have again:∀{σ7:St}{H7:Hp},Inv X (pins++M8 fp s5.heap) σ7 H7 s7->N σ7 H7->∃m,m<n/\∃i σ' H',Inv X pins σ' H' s7/\tn i s7.heap/\(∀b∈fp,H' b=none)/\W i m σ' H':=fun {σ7 H7} I7 n7=>by
   obtain⟨m',hm,w7⟩:=hN σ7 H7 n7
   refine⟨m',hm,i+1,σ7,H7,I7.unpinned,T.keep _ _ _ st5 fun b hb o e=>(I7.pin (b,o) (List.mem_append_right _ (List.mem_append_right _ (Ks hb e)))).1,fun b hb=>?_,w7⟩
   obtain⟨o,e,d⟩:=T.obj _ _ st5 b hb
   exact(I7.pin (b,o) (List.mem_append_right _ (List.mem_append_right _ (Ks hb e)))).2.1
  cases f with
  |next=>obtain⟨σ7,H7,I7,n7⟩:=q7;exact again I7 n7
  |cont=>obtain⟨σ7,H7,I7,n7⟩:=q7;exact again I7 n7
  |brk=>obtain⟨σ7,H7,I7,q7⟩:=q7;exact⟨σ7,H7,I7.unpinned,q7⟩
  |ret v=>obtain⟨x7,σ7,H7,I7,r7,q7⟩:=q7;exact⟨x7,σ7,H7,I7.unpinned,r7,q7⟩
end
abbrev R2:=V->V->Hp->VK->Prop
def OpR (X:Cx)(f:Value->Value->Sem Value)(r:R2):Prop:=
 ∀(pins:List (Addr×Obj)) (s:Shared) (σ:St) (H:Hp) (x y:V) (v u:Value) (Q:VK),Inv X pins σ H s->RelV x v->RelV y u->r x y H Q ->
  wpAny (model X.prog X.w) X.A (f v u) (EP X pins σ Q) X.xe s
def Zn1 (X:Cx)(f:Value->Sem Value)(r:V->Hp->VK->Prop):Prop:=
 ∀(pins:List (Addr×Obj)) (s:Shared) (σ:St) (H:Hp) (x:V) (v:Value) (Q:VK),Inv X pins σ H s->RelV x v->r x H Q ->
  wpAny (model X.prog X.w) X.A (f v) (EP X pins σ Q) X.xe s
def CallR (X:Cx)(f:Value)(r:List V->Hp->VK->Prop):Prop:=
 ∀(pins:List (Addr×Obj)) (s:Shared) (σ:St) (H:Hp) (xs:List V) (us:List Value) (Q:VK),Inv X pins σ H s->Vals xs us->r xs H Q ->
  wpAny (model X.prog X.w) X.A (call f us) (EP X pins σ Q) X.xe s
def Zlw (r:R2)(ta tb:TE):TE:=fun σ H Q=>ta σ H fun x H1=>tb σ H1 fun y H2=>r x y H2 Q
def Zpr (r:V->Hp->VK->Prop)(ta:TE):TE:=fun σ H Q=>ta σ H fun x H1=>r x H1 Q
def rI (C:Int->Int->Prop)(g:Int->Int->V):R2:=fun x y H Q=>∃i j,x=.int i/\y=.int j/\C i j/\Q (g i j) H
def Zfj (g:Int->Int->V):R2:=fun x y H Q=>∃i j,x=.int i/\y=.int j/\Q (g i j) H
def rU (g:Int->V):V->Hp->VK->Prop:=fun x H Q=>∃i,x=.int i/\Q (g i) H
section
variable {X:Cx}{a b c:Expr}{ta tb tc:TE}{pos:Pos}
def Zjb (ha:PE X a ta)(hb:PE X b tb){pins:List (Addr×Obj)}{s:Shared}{σ:St}{H:Hp}{R:V->V->Hp->Prop}(I:Inv X pins σ H s)(h:ta σ H fun x H1=>tb σ H1 fun y H2=>R x y H2){Q:Value->Shared->Prop}{f:Value->Value->Sem Value}(hf:∀v u s2 x y H2,Inv X pins σ H2 s2->RelV x v->RelV y u->R x y H2->wpAny (model X.prog X.w) X.A (f v u) Q X.xe s2):
  wpAny (model X.prog X.w) X.A (eval a X.env) (fun v s₁=>wpAny (model X.prog X.w) X.A (eval b X.env) (fun u s₂=>wpAny (model X.prog X.w) X.A (f v u) Q X.xe s₂) X.xe s₁) X.xe s:=by
 refine Xi (ha pins s σ H _ I h) fun v s1 ⟨x,H1,I1,r1,q1⟩=>?_
 refine Xi (hb pins s1 σ H1 _ I1 q1) fun u s2 ⟨y,H2,I2,r2,q2⟩=>?_
 exact hf v u s2 x y H2 I2 r1 r2 q2
def Zhx {op:Operator}{r:R2}(ho:OpR X (binaryOp op) r)(ha:PE X a ta)(hb:PE X b tb):PE X (.BinOp a op b pos) (Zlw r ta tb):=by
 intro pins s σ H Q I h
 exact wpAny_BinOp (Zjb ha hb I h fun v u s2 x y H2 I2 rx ry q=>ho pins s2 σ H2 x y v u Q I2 rx ry q)
def Zhy {op:UnaryOp}{r:V->Hp->VK->Prop}(ho:Zn1 X (unaryOp op) r)(ha:PE X a ta):PE X (.UnaryOp op a pos) (Zpr r ta):=by
 intro pins s σ H Q I h
 exact UnaryOp_ (Xi (ha pins s σ H _ I h) fun v s1 ⟨x,H1,I1,r1,q1⟩=>ho pins s1 σ H1 x v Q I1 r1 q1)
def Zn2 {f:Value->Value->Sem Value}{C:Int->Int->Prop}{g:Int->Int->Int}(rule:∀(i j:Int) (t u:Tok) (s:Shared) (Q:Value->Shared->Prop) (E:Value->Shared->Prop),C i j->Q (.int (g i j) s.toks) {s with toks:=s.toks+1}->wpAny (model X.prog X.w) X.A (f (.int i t) (.int j u)) Q E s):
  OpR X f (rI C fun i j=>.int (g i j)):=by
 intro pins s σ H x y v u Q I rx ry h
 obtain⟨i,j,rfl,rfl,hc,q⟩:=h
 obtain⟨t,rfl⟩:=rx
 obtain⟨t',rfl⟩:=ry
 exact rule i j t t' s _ _ hc ⟨.int (g i j),H,I.tok _,⟨_,rfl⟩,q⟩
def Zmd {f:Value->Value->Sem Value}{g:Int->Int->Int}(rule:∀(i j:Int) (t u:Tok) (s:Shared) (Q:Value->Shared->Prop) (E:Value->Shared->Prop),Q (.int (g i j) s.toks) {s with toks:=s.toks+1}->wpAny (model X.prog X.w) X.A (f (.int i t) (.int j u)) Q E s):
  OpR X f (Zfj fun i j=>.int (g i j)):=by
 intro pins s σ H x y v u Q I rx ry h
 obtain⟨i,j,rfl,rfl,q⟩:=h
 obtain⟨t,rfl⟩:=rx
 obtain⟨t',rfl⟩:=ry
 exact rule i j t t' s _ _ ⟨.int (g i j),H,I.tok _,⟨_,rfl⟩,q⟩
def Zfk {f:Value->Value->Sem Value}{g:Int->Int->Bool}(rule:∀(i j:Int) (t u:Tok) (s:Shared) (Q:Value->Shared->Prop) (E:Value->Shared->Prop),Q (.bool (g i j)) s->wpAny (model X.prog X.w) X.A (f (.int i t) (.int j u)) Q E s):
  OpR X f (Zfj fun i j=>.bl (g i j)):=by
 intro pins s σ H x y v u Q I rx ry h
 obtain⟨i,j,rfl,rfl,q⟩:=h
 obtain⟨t,rfl⟩:=rx
 obtain⟨t',rfl⟩:=ry
 exact rule i j t t' s _ _ ⟨.bl (g i j),H,I,rfl,q⟩
def Zom (i j:Int):Prop:=0<=j/\j<=1000000/\i.natAbs<2 ^ 64
def op_add:OpR X (binaryOp .Add) (Zfj fun i j=>.int (i+j)):=Zmd fun _ _ _ _ _ _ _ q=>add_int q
def Zjc:OpR X (binaryOp .Sub) (Zfj fun i j=>.int (i-j)):=Zmd fun _ _ _ _ _ _ _ q=>sub_int q
def Zfl:OpR X (binaryOp .Mod) (rI (fun _ j=>j≠0) fun i j=>.int (i.fmod j)):=Zn2 fun _ _ _ _ _ _ _ hc q=>mod_int' hc q
def Zjd:OpR X (binaryOp .Pow) (rI Zom fun i j=>.int (i ^ j.toNat)):=Zn2 fun _ _ _ _ _ _ _ hc q=>pow_int_small hc.1 hc.2.1 hc.2.2 q
def Zps {f:Value->Sem Value}{g:Int->Int}(rule:∀(i:Int) (t:Tok) (s:Shared) (Q:Value->Shared->Prop) (E:Value->Shared->Prop),Q (.int (g i) s.toks) {s with toks:=s.toks+1}->wpAny (model X.prog X.w) X.A (f (.int i t)) Q E s):
  Zn1 X f (rU fun i=>.int (g i)):=by
 intro pins s σ H x v Q I rx h
 obtain⟨i,rfl,q⟩:=h
 obtain⟨t,rfl⟩:=rx
 exact rule i t s _ _ ⟨.int (g i),H,I.tok _,⟨_,rfl⟩,q⟩
def Zje:Zn1 X (unaryOp .USub) (rU fun i=>.int (-i)):=Zps fun _ _ _ _ _ q=>neg_int q
end
section
variable {X:Cx}{a b c:Expr}{ta tb tc:TE}{pos:Pos}
def Zb1 {pins:List (Addr×Obj)}{σ:St}{H:Hp}{s:Shared}{Q:VK}{k k':Bool}(I:Inv X pins σ H s)(q:Q (.bl k) H)(e:k=k'):EP X pins σ Q (.bool k') s:=by
 subst e
 exact⟨.bl k,H,I,rfl,q⟩
def Zme:OpR X (compareOp .Lt) (Zfj fun i j=>.bl (decide (i<j))):=Zfk fun _ _ _ _ _ _ _ q=>lt_int q
def Zmf:OpR X (compareOp .LtE) (Zfj fun i j=>.bl (decide (i<=j))):=Zfk fun _ _ _ _ _ _ _ q=>le_int q
def Zmg:OpR X (compareOp .Gt) (Zfj fun i j=>.bl (decide (j<i))):=Zfk fun _ _ _ _ _ _ _ q=>gt_int q
def Zmh:OpR X (compareOp .GtE) (Zfj fun i j=>.bl (decide (j<=i))):=Zfk fun _ _ _ _ _ _ _ q=>ge_int q
def Zjf:OpR X (compareOp .Is) (fun x y H Q=>y=.non/\Q (.bl (decide (x=.non))) H):=by
 intro pins s σ H x y v u Q I rx ry h
 obtain⟨rfl,q⟩:=h
 cases ry
 refine is_none_gen (Zb1 I q ?_)
 cases x<;>first
  |(cases rx;rfl)
  |(obtain⟨t,rfl⟩:=rx;rfl)
def Zfm:OpR X (compareOp .IsNot) (fun x y H Q=>y=.non/\Q (.bl (!decide (x=.non))) H):=by
 intro pins s σ H x y v u Q I rx ry h
 obtain⟨rfl,q⟩:=h
 cases ry
 refine isnot_none_gen (Zb1 I q ?_)
 cases x<;>first
  |(cases rx;rfl)
  |(obtain⟨t,rfl⟩:=rx;rfl)
def OpR.or {f:Value->Value->Sem Value}{r r':R2}(h:OpR X f r)(h':OpR X f r'):OpR X f (fun x y H Q=>r x y H Q\/r' x y H Q):=by
 intro pins s σ H x y v u Q I rx ry q
 rcases q with q|q
 ·exact h pins s σ H x y v u Q I rx ry q
 ·exact h' pins s σ H x y v u Q I rx ry q
def Zz (b:Expr){op:CmpOp}(h:op≠.In:=by decide)(h2:op≠.NotIn:=by decide):behindInMarks op b=false:=by
 have e1:(op==CmpOp.In)=false:=by cases op<;>first|rfl|exact absurd rfl h
 have e2:(op==CmpOp.NotIn)=false:=by cases op<;>first|rfl|exact absurd rfl h2
 cases b<;>simp[behindInMarks,e1,e2]
def Zfn {op:CmpOp}{r:R2}(ho:OpR X (compareOp op) r)(ha:PE X a ta)(hb:PE X b tb)(hm:behindInMarks op b=false):PE X (.Compare a [op] [b] pos) (Zlw r ta tb):=by
 intro pins s σ H Q I h
 exact wpAny_Compare1 (Zjb ha hb I h fun v u s2 x y H2 I2 rx ry q=>ho pins s2 σ H2 x y v u Q I2 rx ry q) hm
def Zmi (t:TE):TT:=fun σ H Q=>t σ H fun x H'=>∃k,x=.bl k/\Q k H'
def F4 {op:CmpOp}{r:R2}(ho:OpR X (compareOp op) r)(ha:PE X a ta)(hb:PE X b tb)(hm:behindInMarks op b=false):PT X (.Compare a [op] [b] pos) (Zmi (Zlw r ta tb)):=by
 intro pins s σ H Q I h
 refine wpAny_isTrue_Compare1 (Xi (ha pins s σ H _ I h) fun v s1 ⟨x,H1,I1,r1,q1⟩=>Xi (hb pins s1 σ H1 _ I1 q1) fun u s2 ⟨y,H2,I2,r2,q2⟩=>
  Xi (ho pins s2 σ H2 x y v u _ I2 r1 r2 q2) fun c s3 ⟨z,H3,I3,r3,k,e,q3⟩=>?_) hm
 subst e
 cases r3
 exact wpAny_truthy_bool ⟨H3,I3,q3⟩
def Sl:(sizeLine:Nat)<2 ^ 63:=by rw[sizeLine_eq];decide
def Ed:OpR X (binaryOp .Add) (fun x y H Q=>∃i j,x=.str i/\y=.str j/\i.length+j.length<=sizeLine/\Q (.str (i++j)) H):=by
 intro pins s σ H x y v u Q I rx ry h
 obtain⟨i,j,rfl,rfl,hz,q⟩:=h
 obtain⟨t,rfl⟩:=rx
 obtain⟨t',rfl⟩:=ry
 exact add_str (fun t' tk=>⟨.str (i++j),H,I.tok _,⟨_,rfl⟩,q⟩) hz
def Wh {x:V}{us:List Value}(r:Vals [x] us):∃u,us=[u]/\RelV x u:=by
 cases r with
 |cons r1 r2=>cases r2;exact⟨_,rfl,r1⟩
def Zb2 {x y:V}{us:List Value}(r:Vals [x,y] us):∃u w',us=[u,w']/\RelV x u/\RelV y w':=by
 cases r with
 |cons r1 r2=>
  cases r2 with
  |cons r3 r4=>cases r4;exact⟨_,_,rfl,r1,r3⟩
def Zb3:CallR X (.builtin "abs") (fun xs H Q=>∃i,xs=[.int i]/\Q (.int (if i<0 then -i else i)) H):=by
 intro pins s σ H xs us Q I r h
 obtain⟨i,rfl,q⟩:=h
 obtain⟨u,rfl,t,rfl⟩:=Wh r
 exact call_abs_int fun u tk=>⟨.int (if i<0 then -i else i),H,I.tok _,⟨_,rfl⟩,q⟩
def O6 (hc:X.calm=true):CallR X (.builtin "max") (fun xs H Q=>∃i j,xs=[.int i,.int j]/\Q (.int (if j > i then j else i)) H):=by
 intro pins s σ H xs us Q I r h
 obtain⟨i,j,rfl,q⟩:=h
 obtain⟨u,w',rfl,⟨t,rfl⟩,⟨t',rfl⟩⟩:=Zb2 r
 refine max_two_ints (I.ok.hd hc) fun h' tk k=>⟨_,H,I.kept k,?_,q⟩
 by_cases hj:j > i
 ·rw[if_pos hj,if_pos hj];exact⟨_,rfl⟩
 ·rw[if_neg hj,if_neg hj];exact⟨_,rfl⟩
def O7:CallR X (.type "int") (fun xs H Q=>(∃i,xs=[.int i]/\Q (.int i) H)\/∃k,xs=[.bl k]/\Q (.int (if k then 1 else 0)) H):=by
 intro pins s σ H xs us Q I r h
 rcases h with⟨i,rfl,q⟩|⟨k,rfl,q⟩
 ·obtain⟨u,rfl,t,rfl⟩:=Wh r
  exact call_int_int ⟨.int i,H,I,⟨_,rfl⟩,q⟩
 ·obtain⟨u,rfl,r1⟩:=Wh r
  cases r1
  exact call_int_bool ⟨.int (if k then 1 else 0),H,I.tok _,⟨_,rfl⟩,q⟩
end
structure ObjM (h:Heap) (x dx C:Addr) (mA:Str->Option Value):Prop where
 obj:h.get? x=some (PySem.W.instObj C dx)
 ns:h.Ns1 dx mA
 ne:dx≠x
def O8 {h:Heap}{dx:Addr}{mA:Str->Option Value}(n:h.Ns1 dx mA):∃od,h.get? dx=some od/\∀name,PySem.W.lookIn name od=some (mA name):=by
 obtain⟨o,es,ep,ho,hd,hk,_,hm⟩:=n
 refine⟨o,ho,fun name=>?_⟩
 have e:=hm name
 unfold nsFind findBy at e
 rw[<-Array.find?_toList] at e
 unfold PySem.W.lookIn
 rw[hd]
 dsimp only
 split
 ·rename_i y q
  rw[q] at e
  exact congrArg some e
 ·rename_i q
  rw[q] at e
  have a:es.toList.any (·.refKey)=false:=by
   rw[List.any_eq_false]
   intro y hy
   obtain⟨z,t,hkey⟩:=hk y (Array.mem_toList_iff.mp hy)
   simp[DictEntry.refKey,hkey]
  have a':¬es.toList.any (·.refKey)=true:=by rw[a];exact Bool.false_ne_true
  rw[if_neg a']
  exact congrArg some e
def ObjM.look {h:Heap}{x dx C:Addr}{mA:Str->Option Value}(I:ObjM h x dx C mA):∃od,PySem.W.InstAt h x (PySem.W.instObj C dx) C (some od)/\∀name,PySem.W.lookIn name od=some (mA name):=
 let ⟨od,ho,hl⟩:=O8 I.ns
 ⟨od,⟨I.obj,rfl,rfl,ho⟩,hl⟩
section
variable {prog:Program}{w:World}{A:Around}{E:Value->Shared->Prop}{s:Shared}{K:PySem.W.Frag}{x dx C f:Addr}{mA:Str->Option Value}{name:Str}{v:Value}
def Zfo {expr:Bool}{Q:Value->Shared->Prop}(X:K.In s.heap)(I:ObjM s.heap x dx C mA)(hg:PySem.W.plainGet K C name=true)(hh:PySem.W.hasDictIn K C=true)(ha:PySem.W.findIn K (.ref C) name=some none)(hv:mA name=some v)(hv':PySem.W.handedIn v=true)(h:Q v {s with toks:=s.toks+1}):
  wpAny (model prog w) A (getAttr (.ref x) name expr) Q E s:=by
 obtain⟨od,J,hl⟩:=I.look
 exact PySem.W.get_value X J (PySem.W.plainGet_of hg).1 (PySem.W.findObj_own hh ha rfl (by rw[hl,hv])) hv' h
def Zb4 {pl:Sem Bool}{Q:Value×List Value->Shared->Prop}(X:K.In s.heap)(I:ObjM s.heap x dx C mA)(hg:PySem.W.plainGet K C name=true)(hf:PySem.W.findIn K (.ref C) name=some (some (.ref f)))(ht:PySem.W.isFn K (.ref f)=true)(hv:mA name=none)(h:Q (.ref f,[.ref x]) s):
  wpAny (model prog w) A (getMethod (.ref x) name pl) Q E s:=by
 obtain⟨od,J,hl⟩:=I.look
 exact PySem.W.method_fn X J (PySem.W.plainGet_of hg).1 (PySem.W.plainGet_of hg).2 hf (beq_iff_eq.mp ht) (by show(PySem.W.lookIn name od).map (·.isSome)=some false;rw[hl,hv];rfl) h
def Zfp {ns:List Str}{Q:Unit->Shared->Prop}(X:K.In s.heap)(I:ObjM s.heap x dx C mA)
  (hs:PySem.W.findIn K (.ref C) "__setattr__"=some (some (.builtin "object.__setattr__"))) (hp:PySem.W.plainOver K C=true) (ht:PySem.W.takerIn K C name=some none) (hh:PySem.W.hasDictIn K C=true)
  (hw:PySem.Within mA ns) (hsz:ns.length<=sizeLine)
  (h:∀h',ObjM h' x dx C (fun y=>if y=name then some v else mA y)->Heap.SameBut dx s.heap h'->Q () {s with heap:=h',toks:=s.toks+2}):
  wpAny (model prog w) A (setAttr (.ref x) name v) Q E s:=by
 obtain⟨od,J,hl⟩:=I.look
 refine PySem.W.set_plain X J hs (PySem.W.osa_open (s:={s with toks:=s.toks+1}) (r:=none) X J hp ht fun b=>?_)
 obtain⟨cd,hc,hd'⟩:=PySem.W.any_some hh
 have hx:s.heap.get? x=some ⟨.ref C,some dx,.plain,#[]⟩:=I.obj
 refine wpAny_bind (wpAny_pure (wpAny_bind (wpAny_bind (wpAny_loadPart hx (wpAny_bind (PySem.W.Looks.here (s:={s with toks:=s.toks+1}) (PySem.W.looks_clsIn X hc) ?_))))))
 rw[hd']
 refine wpAny_pure (a:=some dx) (wpAny_bind (wpAny_pure (wpAny_bind ?_)))
 refine wpAny_nsSet1 (s:={s with toks:=s.toks+1}) I.ns fun h' hn2 hs2=>?_
 obtain⟨oD,esD,epD,hoD,hdD,hcD⟩:=hn2.count (PySem.Within.cons name v hw)
 refine wpAny_bind (wpAny_lookBehind hoD (by rw[hdD];exact pastItsLine_dict (Nat.le_trans hcD (by rw[List.length_cons];omega))) ?_)
 exact wpAny_pure (h _ ⟨(hs2.2 _ (Ne.symm I.ne)).trans I.obj,hn2,I.ne⟩ hs2)
def Zb5 {R:Result->Shared->Prop}{vs:List Value}{kw:List (Str×Value)}(X:K.In s.heap)(hm:PySem.W.makesIn K C=true)
  (hi:PySem.W.findIn K (.ref C) "__init__"=some (some (.ref f))) (hf:PySem.W.typeIn K (.ref f)=some (.type "function"))
  (h:codeAny (model prog w) (A.under (.builtin "type.__call__" ⟨.ref C::vs,kw⟩)) (.call (.ref f) ⟨.ref (s.heap.objs.size+1)::vs,kw⟩) (PySem.W.InitBack (s.heap.objs.size+1) R)
   {s with heap:=(s.heap.push PySem.W.emptyDict).push (PySem.W.instObj C s.heap.objs.size)}):
  codeAny (model prog w) A (.call (.ref C) ⟨vs,kw⟩) R s:=by
 obtain⟨hh,g,d,t,os⟩:=s
 exact PySem.W.make_core (PySem.W.makes_of X hm) (PySem.W.looks_findIn X hi) (fun self=>PySem.W.bind_fn X self hf) (.inl rfl) h
end
def Yz (f:Str)(v:V):List (Str×V)->List (Str×V)
 |[]=>[(f,v)]
 |(g,x)::r=>if g=f then(g,v)::r else(g,x)::Yz f v r
theorem Q5 (f g:Str)(v:V):∀fs:List (Str×V),(Yz f v fs).lookup g=if g=f then some v else fs.lookup g
 |[]=>by
  show List.lookup g [(f,v)]=_
  by_cases h:g=f
  ·have hb:(g==f)=true:=beq_iff_eq.mpr h
   simp only[List.lookup,hb,if_pos h]
  ·have hb:(g==f)=false:=beq_eq_false_iff_ne.mpr h
   simp only[List.lookup,hb,if_neg h]
 |(k,x)::r=>by
  have ih:=Q5 f g v r
  rw[show Yz f v ((k,x)::r)=(if k=f then(k,v)::r else(k,x)::Yz f v r) from rfl]
  by_cases hk:k=f
  ·rw[if_pos hk]
   by_cases h:g=k
   ·have hb:(g==k)=true:=beq_iff_eq.mpr h
    simp only[List.lookup,hb,if_pos (h.trans hk)]
   ·have hb:(g==k)=false:=beq_eq_false_iff_ne.mpr h
    simp only[List.lookup,hb,if_neg (fun e:g=f=>h (e.trans hk.symm))]
  ·rw[if_neg hk]
   by_cases h:g=k
   ·have hb:(g==k)=true:=beq_iff_eq.mpr h
    simp only[List.lookup,hb,if_neg (fun e:g=f=>hk (h.symm.trans e))]
   ·have hb:(g==k)=false:=beq_eq_false_iff_ne.mpr h
    simp only[List.lookup,hb]
    exact ih
theorem Pp (f:Str)(v:V):∀fs:List (Str×V),f∈(Yz f v fs).map (·.1)/\∀g,g∈fs.map (·.1)->g∈(Yz f v fs).map (·.1)
 |[]=>⟨by simp[Yz],fun g h=>by simp at h⟩
 |(k,x)::r=>by
  obtain⟨i1,i2⟩:=Pp f v r
  rw[show Yz f v ((k,x)::r)=(if k=f then(k,v)::r else(k,x)::Yz f v r) from rfl]
  by_cases hk:k=f
  ·rw[if_pos hk]
   subst hk
   exact⟨by simp,fun g h=>by simpa using h⟩
  ·rw[if_neg hk]
   refine⟨?_,fun g h=>?_⟩
   ·rw[List.map_cons]
    exact List.mem_cons_of_mem _ i1
   ·rw[List.map_cons] at h ⊢
    rcases List.mem_cons.mp h with e|e
    ·exact List.mem_cons.mpr (.inl e)
    ·exact List.mem_cons_of_mem _ (i2 g e)
theorem Rq (f:Str)(v:V):∀fs:List (Str×V),(Yz f v fs).length<=fs.length+1
 |[]=>by simp[Yz]
 |(k,x)::r=>by
  have ih:=Rq f v r
  rw[show Yz f v ((k,x)::r)=(if k=f then(k,v)::r else(k,x)::Yz f v r) from rfl]
  by_cases hk:k=f
  ·rw[if_pos hk,List.length_cons,List.length_cons];omega
  ·rw[if_neg hk,List.length_cons,List.length_cons];omega
def RelO.some_of {v:V}{o:Option Value}(r:RelO (some v) o):∃u,o=some u/\RelV v u:=by
 cases o with
 |none=>exact(show False from r).elim
 |some u=>exact⟨u,rfl,r⟩
def RelO.none_of {o:Option Value}(r:RelO none o):o=none:=by
 cases o with
 |none=>rfl
 |some u=>exact(show False from r).elim
def O9 {v:V}{u:Value}(r:RelV v u):PySem.W.handedIn u=true:=by
 cases v with
 |non=>cases (show u=Value.none from r);rfl
 |bl b=>cases (show u=Value.bool b from r);rfl
 |int i=>obtain⟨t,e⟩:=(show ∃t,u=Value.int i t from r);cases e;rfl
 |str x=>obtain⟨t,e⟩:=(show ∃t,u=Value.str x t from r);cases e;rfl
 |byt b=>obtain⟨t,e⟩:=(show ∃t,u=Value.bytes b t from r);cases e;rfl
 |flt b=>obtain⟨t,e⟩:=(show ∃t,u=Value.float b t from r);cases e;rfl
 |ref a=>cases (show u=Value.ref a from r);rfl
 |ty n=>cases (show u=Value.type n from r);rfl
section
variable {P:Program}{w:World}{H H':Hp}{h h':Heap}{a C dx:Addr}{fs fs':List (Str×V)}
def M9 (hok:HOk P w H h)(e:H a=some (.ins C dx fs)):∃mA,ObjM h a dx C mA/\(∀f,RelO (fs.lookup f) (mA f))/\PySem.Within mA (fs.map (·.1))/\fs.length<=1000/\H dx=some (.own a):=by
 obtain⟨d,z,ne,ob,mA,n,r,q⟩:=(show ObjOk P w H h a (.ins C dx fs) from hok a _ e)
 exact⟨mA,⟨ob,n,ne⟩,r,q,z,d⟩
end
structure Cls (K:PySem.W.Frag) (C:Addr):Prop where
 pg:PySem.W.plainGet K C Str.empty=true
 hd:PySem.W.hasDictIn K C=true
 po:PySem.W.plainOver K C=true
 sa:PySem.W.findIn K (.ref C) "__setattr__"=some (some (.builtin "object.__setattr__"))
def Cls.get {K:PySem.W.Frag}{C:Addr}(c:Cls K C)(f:Str):PySem.W.plainGet K C f=true:=c.pg
def NoAttr (K:PySem.W.Frag)(C:Addr)(f:Str):Prop:=PySem.W.findIn K (.ref C) f=some none
def NoAttr.taker {K:PySem.W.Frag}{C:Addr}{f:Str}(n:NoAttr K C f):PySem.W.takerIn K C f=some none:=by
 unfold PySem.W.takerIn
 rw[show PySem.W.findIn K (.ref C) f=some none from n]
 rfl
structure Meth (K:PySem.W.Frag) (C:Addr) (m:Str) (f:Addr):Prop where
 at_:PySem.W.findIn K (.ref C) m=some (some (.ref f))
 fn:PySem.W.isFn K (.ref f)=true
 kp:PySem.W.keepIn K (.ref f)=true
section
variable {X:Cx}{pins:List (Addr×Obj)}{σ:St}{H:Hp}{s:Shared}{a C dx:Addr}{fs:List (Str×V)}{f:Str}{v:V}{A:Around}{E:Value->Shared->Prop}
def Sm {b:Bool}{Q:Value->Shared->Prop}(I:Inv X pins σ H s)(e:H a=some (.ins C dx fs))(c:Cls X.K C)(n:NoAttr X.K C f)(l:fs.lookup f=some v)(h:∀u s',Inv X pins σ H s'->RelV v u->Q u s'):wpAny (model X.prog X.w) A (getAttr (.ref a) f b) Q E s:=by
 obtain⟨mA,O,r,_,_,_⟩:=M9 I.hok e
 obtain⟨u,hu,ru⟩:=RelO.some_of (v:=v) (o:=mA f) (by rw[<-l];exact r f)
 exact Zfo I.kIn O (c.get f) c.hd n hu (O9 ru) (h u _ (I.tok _) ru)
def Sn {m:Str}{g:Addr}{pl:Sem Bool}{Q:Value×List Value->Shared->Prop}(I:Inv X pins σ H s)(e:H a=some (.ins C dx fs))(c:Cls X.K C)(k:Meth X.K C m g)(l:fs.lookup m=none)(h:Q (.ref g,[.ref a]) s):wpAny (model X.prog X.w) A (getMethod (.ref a) m pl) Q E s:=by
 obtain⟨mA,O,r,_,_,_⟩:=M9 I.hok e
 have hn:mA m=none:=RelO.none_of (by rw[<-l];exact r m)
 exact Zb4 I.kIn O (c.get m) k.at_ k.fn hn h
def So {y:V}{u:Value}{Q:Unit->Shared->Prop}(I:Inv X pins σ H s)(e:H a=some (.ins C dx fs))(c:Cls X.K C)(n:NoAttr X.K C f)(hl:fs.length<1000)(ry:RelV y u)(h:∀s',Inv X pins σ (upd H a (.ins C dx (Yz f y fs))) s'->Q () s'):wpAny (model X.prog X.w) A (setAttr (.ref a) f u) Q E s:=by
 obtain⟨mA,O,r,wi,_,ho⟩:=M9 I.hok e
 have hz:(fs.map (·.1)).length<=sizeLine:=by rw[List.length_map,sizeLine_eq];omega
 refine Zfp I.kIn O c.sa c.po n.taker c.hd wi hz fun h' O' sb=>h _ ?_
 have hd:∃o,h'.get? dx=some o:=let ⟨o,_,_,e',_⟩:=O'.ns;⟨o,e'⟩
 refine I.write (x:=a) (e:=dx) (by rw[e];exact True.intro) (.inr ho) (fun b q hb z=>(sb.2 b hb).trans z) hd ?_
 refine⟨by rw[Zp O.ne];exact ho,?_,O.ne,O'.obj,_,O'.ns,fun g=>?_,fun g hg=>?_⟩
 ·have:=Rq f y fs;omega
 ·show RelO ((Yz f y fs).lookup g) (if g=f then some u else mA g)
  rw[Q5]
  by_cases q:g=f
  ·rw[if_pos q,if_pos q];exact ry
  ·rw[if_neg q,if_neg q];exact r g
 ·by_cases q:g=f
  ·rw[q];exact(Pp f y fs).1
  ·refine(Pp f y fs).2 g (wi g fun z=>hg ?_)
   show(if g=f then some u else mA g)=none
   rw[if_neg q];exact z
def Inv.made (I:Inv X pins σ H s):Inv X pins σ (upd (upd H s.heap.objs.size (.own (s.heap.objs.size+1))) (s.heap.objs.size+1) (.ins C s.heap.objs.size []))
  {s with heap:=(s.heap.push PySem.W.emptyDict).push (PySem.W.instObj C s.heap.objs.size)}:=by
 have e1:(s.heap.push PySem.W.emptyDict).get? s.heap.objs.size=some PySem.W.emptyDict:=Heap.get?_push_size s.heap rfl
 have e2:((s.heap.push PySem.W.emptyDict).push (PySem.W.instObj C s.heap.objs.size)).get? (s.heap.objs.size+1)=some (PySem.W.instObj C s.heap.objs.size):=by
  have:=Heap.get?_push_size (s.heap.push PySem.W.emptyDict) (o:=PySem.W.instObj C s.heap.objs.size) rfl
  rwa[Heap.size_push] at this
 have e3:(s.heap.push PySem.W.emptyDict).Ns s.heap.objs.size (fun _=>none):=⟨PySem.W.emptyDict,#[],_,e1,rfl,(fun e he=>absurd he (by simp)),fun _=>rfl⟩
 have I1:=I.laid (a:=s.heap.objs.size) (o:=.own (s.heap.objs.size+1)) (h':=s.heap.push PySem.W.emptyDict) (t':=s.toks) (fun b u q=>Heap.get?_push_of_some _ q) (Nat.le_refl _) ⟨_,e1⟩
 refine I1.laid (a:=s.heap.objs.size+1) (o:=.ins C s.heap.objs.size []) (t':=s.toks) (fun b u q=>Heap.get?_push_of_some _ q) (Nat.le_of_eq (Heap.size_push _ _)) ?_
 have ne:s.heap.objs.size≠s.heap.objs.size+1:=Nat.ne_of_lt (Nat.lt_succ_self _)
 refine⟨by rw[Zp ne,Z2],Nat.zero_le _,ne,e2,fun _=>none,(Heap.Ns1.of_empty e3).at fun o q=>Heap.get?_push_of_some _ q,fun _=>True.intro,fun y hy=>absurd rfl hy⟩
def Zfq {prog:Program}{w:World}{env:Env}{e:Expr}{f:Str}{pos:Pos}{s:Shared}{Q:Value->Shared->Prop}(hb:attributeBase e f env (eval e env)=eval e env)(h:wpAny (model prog w) A (eval e env) (fun o s₁=>wpAny (model prog w) A (getAttr o f true) Q E s₁) E s):wpAny (model prog w) A (eval (.Attribute e f pos) env) Q E s:=
 Attribute_any_ h (by rw[arm_eval_Attribute,hb])
end
def Zon (K:PySem.W.Frag)(ta:TE)(f:Str):TE:=fun σ H Q=>ta σ H fun x H1=>∃a C dx fs v,x=.ref a/\H1 a=some (.ins C dx fs)/\Cls K C/\NoAttr K C f/\fs.lookup f=some v/\Q v H1
def Zoo (K:PySem.W.Frag)(ta tv:TE)(f:Str):TS:=fun D σ H=>tv σ H fun y H1=>ta σ H1 fun x H2=>∃a C dx fs,x=.ref a/\H2 a=some (.ins C dx fs)/\Cls K C/\NoAttr K C f/\fs.length<1000 /\
 D.nx σ (upd H2 a (.ins C dx (Yz f y fs)))
def Zmj (X:Cx)(op:Operator)(rd:V->V->Hp->VK->Prop):Prop:=
 ∀(pins:List (Addr×Obj)) (s:Shared) (σ:St) (H:Hp) (x y:V) (u v:Value) (Q:VK),Inv X pins σ H s->RelV x u->RelV y v->rd x y H Q->wpAny (model X.prog X.w) X.A (inplaceOp op u v) (EP X pins σ Q) X.xe s
def Zfr (K:PySem.W.Frag)(ta tv:TE)(rd:V->V->Hp->VK->Prop)(f:Str):TS:=fun D σ H=>ta σ H fun x H1=>∃a C dx fs v,x=.ref a/\H1 a=some (.ins C dx fs)/\Cls K C/\NoAttr K C f/\fs.lookup f=some v /\
 tv σ H1 fun y H2=>rd v y H2 fun z H3=>∃dx' fs',H3 a=some (.ins C dx' fs')/\fs'.length<1000/\D.nx σ (upd H3 a (.ins C dx' (Yz f z fs')))
section
variable {X:Cx}{o e value:Expr}{f:Str}{pos pos' tpos:Pos}{ta tv:TE}
def Ws (he:PE X e ta)(hb:attributeBase e f X.env (eval e X.env)=eval e X.env):PE X (.Attribute e f pos) (Zon X.K ta f):=by
 intro pins s σ H Q I h
 refine Zfq hb (Xi (he pins s σ H _ I h) fun u s1 ⟨x,H1,I1,rx,a,C,dx,fs,v,ex,ea,c,n,l,q⟩=>?_)
 subst ex
 obtain rfl:u=Value.ref a:=rx
 exact Sm I1 ea c n l fun u' s2 I2 ru=>⟨v,H1,I2,ru,q⟩
def Ba (ha:PE X o ta)(hv:PE X value tv)(hs:swapsWith value (some (.Attribute o f pos')) pos.line X.env=pure false):PS X (.Assign [.Attribute o f pos'] value pos) (Zoo X.K ta tv f):=by
 intro pins s σ H D I h
 refine plainObj_wpAny_Assign_Attribute (Xi (hv pins s σ H _ I h) fun u s1 ⟨y,H1,I1,ry,q⟩=>Xi (ha pins s1 σ H1 _ I1 q) fun ov s2 ⟨x,H2,I2,rx,a,C,dx,fs,ex,ea,c,n,l,q2⟩=>?_) hs
 subst ex
 obtain rfl:ov=Value.ref a:=rx
 exact So I2 ea c n l ry fun s3 I3=>⟨σ,_,I3,q2⟩
def Zaa {op:Operator}{rd:V->V->Hp->VK->Prop}(ha:PE X o ta)(hv:PE X value tv)(hop:Zmj X op rd):PS X (.AugAssign (.Attribute o f tpos) op value pos) (Zfr X.K ta tv rd f):=by
 intro pins s σ H D I h
 refine wpAny_AugAssign_AttributeAny (Xi (ha pins s σ H _ I h) fun ov s1 ⟨x,H1,I1,rx,a,C,dx,fs,v,ex,ea,c,n,l,q⟩=>?_)
 subst ex
 obtain rfl:ov=Value.ref a:=rx
 refine Sm I1 ea c n l fun u s2 I2 ru=>Xi (hv pins s2 σ H1 _ I2 q) fun w3 s3 ⟨y,H2,I3,ry,q3⟩=>Xi (hop pins s3 σ H2 v y u w3 _ I3 ru ry q3) fun w4 s4 ⟨z,H3,I4,rz,dx',fs',ea',l',q4⟩=>?_
 exact So I4 ea' c n l' rz fun s5 I5=>⟨σ,_,I5,q4⟩
def Zop:V->V->Hp->VK->Prop:=fun x y H Q=>∃i j,x=.int i/\y=.int j/\Q (.int (i+j)) H
def Zjg:Zmj X .Add Zop:=by
 rintro pins s σ H x y u v Q I rx ry ⟨i,j,rfl,rfl,q⟩
 obtain⟨t,rfl⟩:=(show ∃t,u=Value.int i t from rx)
 obtain⟨t',rfl⟩:=(show ∃t',v=Value.int j t' from ry)
 exact PyProof.Rows.iadd_int ⟨.int (i+j),H,I.tok _,⟨_,rfl⟩,q⟩
end
structure Room (k:Nat) (A:Around):Prop where
 hd:A.handled=none
 dp:A.depth+3*k+5<recursionLimit
 un:A.units+16*k+200<cLine
def Room.mono {j k:Nat}{A:Around}(r:Room k A)(h:j<=k):Room j A:=⟨r.hd,by have:=r.dp;omega,by have:=r.un;omega⟩
theorem Room.deeper {k:Nat}{A:Around}(r:Room (k+1) A)(env:Env):Room k (A.deeper env):=
 ⟨r.hd,by have:=r.dp;show A.depth+1+3*k+5<_;omega,by have:=r.un;show A.units+3+16*k+200<_;omega⟩
def Ee {A:Around}{C:Addr}{us:List Value}{kw:List (Str×Value)}:(A.under (.builtin "type.__call__" ⟨.ref C::us,kw⟩)).depth=A.depth+1:=by
 first|rfl|simp[Around.under,Code.weight,Code.isCreation,Code.isGuard,Code.isCaller,Code.frames,Code.isFrame,guardIds]
def Ef {A:Around}{C:Addr}{us:List Value}{kw:List (Str×Value)}:(A.under (.builtin "type.__call__" ⟨.ref C::us,kw⟩)).units=A.units+1:=by
 first|rfl|simp[Around.under,Code.cUnits,Code.frames,Code.isFrame]
def Room.make {k:Nat}{A:Around}(r:Room (k+1) A)(C:Addr)(us:List Value)(kw:List (Str×Value)):Room k (A.under (.builtin "type.__call__" ⟨.ref C::us,kw⟩)):=
 ⟨r.hd,by have:=r.dp;rw[Ee];omega,by have:=r.un;rw[Ef];omega⟩
theorem Room.depth {k:Nat}{A:Around}(r:Room k A):A.depth<recursionLimit:=by have:=r.dp;omega
theorem Room.units {k:Nat}{A:Around}(r:Room k A):A.units+64<cLine:=by have:=r.un;omega
def Zjh:TA:=fun _ H Q=>Q [] H
def F5 (ta:TE)(tr:TA):TA:=fun σ H Q=>ta σ H fun x H1=>tr σ H1 fun xs H2=>Q (x::xs) H2
section
variable {X:Cx}{e:Expr}{es:List Expr}{te:TE}{t:TA}{pos:Pos}
def Jm:PA X [] Zjh:=fun _ _ _ _ H Q I h=>Calls.spliced_nil ⟨[],H,I,.nil,h⟩
def Qz (ha:PE X e te)(hr:PA X es t)(hs:starEach (e::es) X.env=(false,eval e X.env)::starEach es X.env:=by rfl):PA X (e::es) (F5 te t):=by
 intro pos pins s σ H Q I h
 rw[hs]
 show wpAny _ _ (spliced ((false,eval e X.env)::backTo pos (starEach es X.env))) _ _ s
 refine Calls.spliced_cons (Xi (ha pins s σ H _ I h) fun u s1 ⟨x,H1,I1,r1,q1⟩=>?_)
 exact Xi (hr pos pins s1 σ H1 _ I1 q1) fun us s2 ⟨xs,H2,I2,r2,q2⟩=>⟨x::xs,H2,I2,.cons r1 r2,q2⟩
def Zoq (t:TA):TE:=fun σ H Q=>t σ H fun xs H1=>xs.length<=sizeLine/\∀p,H1 p=none->Q (.ref p) (upd H1 p (.tup xs))
def Zor (t:TA):TE:=fun σ H Q=>t σ H fun xs H1=>xs.length<=sizeLine/\∀p,H1 p=none->Q (.ref p) (upd H1 p (.lst xs))
def Bb {x1}(h:PA X es t):PE X (.Tuple es x1 pos) (Zoq t):=by
 intro pins s σ H Q I hq
 refine wpAny_Tuple_spliced (Xi (h pos pins s σ H _ I hq) fun us s1 ⟨xs,H1,I1,r,z,q⟩=>⟨by rw[<-r.length];exact z,?_⟩)
 have hf:H1 s1.heap.objs.size=none:=I1.hok.fresh (Nat.le_refl _)
 refine⟨.ref s1.heap.objs.size,upd H1 s1.heap.objs.size (.tup xs),I1.laid (t':=s1.toks) (fun b u e=>Heap.get?_push_of_some _ e) (Nat.le_refl _) ?_,rfl,q _ hf⟩
 exact⟨z,us,r,⟨_,Heap.get?_push_size _ rfl,rfl,_,rfl⟩⟩
def Eg (h:PA X es t):PE X (.List es pos) (Zor t):=by
 intro pins s σ H Q I hq
 refine wpAny_List_spliced (Xi (h pos pins s σ H _ I hq) fun us s1 ⟨xs,H1,I1,r,z,q⟩=>⟨by rw[<-r.length];exact z,?_⟩)
 have hf:H1 s1.heap.objs.size=none:=I1.hok.fresh (Nat.le_refl _)
 refine⟨.ref s1.heap.objs.size,upd H1 s1.heap.objs.size (.lst xs),I1.laid (t':=s1.toks) (fun b u e=>Heap.get?_push_of_some _ e) (Nat.le_refl _) ?_,rfl,q _ hf⟩
 exact⟨z,us,0,r,Heap.get?_push_size _ rfl⟩
end
abbrev Sp:=List V->Hp->VK->XK->Prop
abbrev Zfb:=List Env->Hp->Shared->XK->Value->Shared->Prop
structure Env0 (P:Program) (w:World) (K:PySem.W.Frag) (mg:Str->Option Value) (base:Heap) (A:Around) (outer:List Env) (s:Shared) (H:Hp):Prop where
 frames:A.frames=some outer
 mod:Mod K mg base
 bs:∀b o,base.get? b=some o->s.heap.get? b=some o/\H b=none
 bsz:base.objs.size<=s.heap.objs.size
 funs:s.heap.FunFrames base outer
 frf:∀b∈Fz outer,H b=none
 hok:HOk P w H s.heap
 bare:AllBare s.gens
def CE (outer:List Env)(P:Program)(w:World)(H:Hp)(s:Shared)(Q:VK)(u:Value)(s':Shared):Prop:=
 ∃v H',s'.os=s.os/\AllBare s'.gens/\Un (Fz outer) [] H H' s.heap s'.heap/\HOk P w H' s'.heap/\RelV v u/\Q v H'
def CR (CX:Zfb)(outer:List Env)(P:Program)(w:World)(H:Hp)(s:Shared)(Q:VK)(E:XK)(r:Result)(s':Shared):Prop:=
 match r with
 |.ok (.ret u)=>CE outer P w H s Q u s'
 |.ok _=>False
 |.error e=>CX outer H s E e s'
structure FnOk (P:Program) (w:World) (K:PySem.W.Frag) (mg:Str->Option Value) (base:Heap) (CX:Zfb) (k:Nat) (f:Addr) (fd:FuncData) (ps:List Str) (sp:Sp):Prop where
 len:∀vs H Q E,sp vs H Q E->vs.length=ps.length
 run:∀(A:Around) (outer:List Env) (s:Shared) (H:Hp) (args:Args) (us:List Value) (vs:List V) (Q:VK) (E:XK),Room k A->Env0 P w K mg base A outer s H->BindsTo s fd args (ps.zip us)->Vals vs us->sp vs H Q E ->
  codeAny (model P w) A (.call (.ref f) args) (CR CX outer P w H s Q E) s
def Env0.make {P:Program}{w:World}{K:PySem.W.Frag}{mg:Str->Option Value}{base:Heap}{A:Around}{outer:List Env}{s:Shared}{H:Hp}(e:Env0 P w K mg base A outer s H)(C:Addr)(us:List Value)(kw:List (Str×Value)):
  Env0 P w K mg base (A.under (.builtin "type.__call__" ⟨.ref C::us,kw⟩)) outer s H:=⟨by first|exact e.frames|(simpa[Around.under,Code.envs,Code.isFrame,pushEnvs] using e.frames),e.mod,e.bs,e.bsz,e.funs,e.frf,e.hok,e.bare⟩
section
variable {X:Cx}{pins:List (Addr×Obj)}{σ:St}{H:Hp}{s s':Shared}
def Inv.env0 (I:Inv X pins σ H s):Env0 X.prog X.w X.K X.mg X.base X.A X.stack s H:=
 ⟨I.ok.frames,I.ok.mod,I.bs,Nat.le_trans I.ok.bsz I.sz,I.stack,I.stkFree,I.hok,I.bare⟩
def Inv.after {Q:VK}{u:Value}(I:Inv X pins σ H s)(h:CE X.stack X.prog X.w H s Q u s'):EP X pins σ Q u s':=by
 obtain⟨v,H',os,bare,un,hok,r,q⟩:=h
 obtain⟨hh,g,d,t,os'⟩:=s'
 obtain rfl:os'=s.os:=os
 exact⟨v,H',I.call (h':=hh) (g':=g) (d':=d) (t':=t) (ch:=[]) un hok bare (fun b z=>absurd z (by simp)),r,q⟩
end
def Zhz (sp:Sp)(dvs:List V)(E:XK)(t:TA):TE:=fun σ H Q=>t σ H fun vs H1=>sp (vs++dvs) H1 Q E
def Zb6 (C:Addr)(m:Str)(sp:Sp)(dvs:List V)(E:XK)(ta:TE)(t:TA):TE:=fun σ H Q=>ta σ H fun x H1=>∃a dx fs,x=.ref a/\H1 a=some (.ins C dx fs)/\fs.lookup m=none /\
 t σ H1 fun vs H2=>sp (x::(vs++dvs)) H2 Q E
def Zh0 (C:Addr)(sp:Sp)(dvs:List V)(E:XK)(t:TA):TE:=fun σ H Q=>t σ H fun vs H1=>∀x dx,H1 x=none->H1 dx=none->dx≠x ->
 sp (.ref x::(vs++dvs)) (upd (upd H1 dx (.own x)) x (.ins C dx [])) (fun v H2=>v=.non/\Q (.ref x) H2) E
def Binds (K:PySem.W.Frag)(fd:FuncData)(ps:List Str)(ds:List Value):Prop:=
 ∀(s:Shared) (us:List Value),K.In s.heap->(us++ds).length=ps.length->BindsTo s fd ⟨us,[]⟩ (ps.zip (us++ds))
def Binds.all {K:PySem.W.Frag}{fd:FuncData}{ps:List Str}(h:∀us:List Value,us.length=ps.length->bindArgs fd ⟨us,[]⟩=pure (ps.zip us)):Binds K fd ps []:=fun s us _ hl=>by
 rw[List.append_nil] at hl ⊢
 exact .of_eq (h us hl)
def Nf (CX:Zfb)(X:Cx)(E:XK):Prop:=∀(pins:List (Addr×Obj)) (σ:St) (H:Hp) (s:Shared) (e:Value) (s':Shared),Inv X pins σ H s->CX X.stack H s E e s'->X.xe e s'
section
variable {X:Cx}{CX:Zfb}{k:Nat}{f C:Addr}{fd:FuncData}{ps:List Str}{sp:Sp}{dvs:List V}{ds:List Value}{E:XK}{x m:Str}{p pos apos:Pos}{e o:Expr}{es:List Expr}{ta:TE}{t:TA}
def Eh {pins:List (Addr×Obj)}{σ:St}{H:Hp}{s:Shared}{Q:VK}{us:List Value}{vs:List V}(F:FnOk X.prog X.w X.K X.mg X.base CX k f fd ps sp)(hr:Room k X.A)(hb:Binds X.K fd ps ds)(hd:Vals dvs ds)(hx:Nf CX X E)(I:Inv X pins σ H s)(r:Vals vs us)(h:sp (vs++dvs) H Q E):wpAny (model X.prog X.w) X.A (call (.ref f) us) (EP X pins σ Q) X.xe s:=by
 have r2:Vals (vs++dvs) (us++ds):=r.append hd
 have hl:(us++ds).length=ps.length:=by rw[<-r2.length];exact F.len _ _ _ _ h
 refine wpAny_call (codeAny_mono (F.run X.A X.stack s H ⟨us,[]⟩ (us++ds) (vs++dvs) Q E hr I.env0 (hb s us I.kIn hl) r2 h) fun r s' hq=>?_)
 cases r with
 |error e=>exact hx pins σ H s e s' I hq
 |ok fl=>
  cases fl with
  |ret u=>exact I.after hq
  |next=>exact False.elim hq
  |brk=>exact False.elim hq
  |cont=>exact False.elim hq
def U3 (F:FnOk X.prog X.w X.K X.mg X.base CX k f fd ps sp)(hr:Room k X.A)(hg:Gl X x)(hm:X.mg x=some (.ref f))(hk:PySem.W.keepIn X.K (.ref f)=true)(hb:Binds X.K fd ps ds)(hd:Vals dvs ds)(hx:Nf CX X E)(ha:PA X (e::es) t) (hdb:(x==("__debug__":Str))=false:=by decide) (he:starEach (e::es) X.env=(false,eval e X.env)::starEach es X.env:=by rfl) (hpl:(backTo pos (starEach es X.env)).any (·.1)=false:=by rfl):
  PE X (.Call (.Name x p) (e::es) [] pos) (Zhz sp dvs E t):=by
 intro pins s σ H Q I h
 refine wpAny_Call_Name_kw (F0 I hg hm ?_ hdb)
 refine PySem.W.callWith_K (h₀:=X.base) I.ok.mod.kin hk (Xi (ha pos pins s σ H _ I h) fun us s1 ⟨vs,H1,I1,r,q⟩=>⟨I1.kIn,?_⟩) he hpl
 exact Eh F hr hb hd hx I1 r q
def Bc {pl:Sem Bool}(he:PE X o ta)(c:Cls X.K C)(hm:Meth X.K C m f)(F:FnOk X.prog X.w X.K X.mg X.base CX k f fd ps sp)(hr:Room k X.A)(hb:Binds X.K fd ps ds)(hd:Vals dvs ds)(hx:Nf CX X E)(ha:PA X (e::es) t)(hst:starEach (e::es) X.env=(false,eval e X.env)::starEach es X.env:=by rfl)(hpl:(backTo pos (starEach es X.env)).any (·.1)=false:=by rfl)(ht:eval (.Call (.Attribute o m apos) (e::es) [] pos) X.env=(do
   let ov <-eval o X.env
   standAt apos.atName
   let (f,first) <-holding [ov] (getMethod ov m pl)
   callWith pos f first (backTo pos (starEach (e::es) X.env)) (backToKw pos (keywordEach [] X.env))):=by rfl):
  PE X (.Call (.Attribute o m apos) (e::es) [] pos) (Zb6 C m sp dvs E ta t):=by
 intro pins s σ H Q I h
 refine PySem.W.methodCall_KW (pl:=pl) (Xi (he pins s σ H _ I h) fun u s1 ⟨x,H1,I1,rx,a,dx,fs,ex,ea,l,q⟩=>?_) ht
 subst ex
 obtain rfl:u=Value.ref a:=rx
 refine Sn I1 ea c hm l ?_
 refine PySem.W.callWith_K (first:=[.ref a]) (h₀:=X.base) I.ok.mod.kin hm.kp (Xi (ha pos pins s1 σ H1 _ I1 q) fun us s2 ⟨vs,H2,I2,r,q2⟩=>⟨I2.kIn,?_⟩) hst hpl
 exact Eh (us:=.ref a::us) (vs:=.ref a::vs) F hr hb hd hx I2 (.cons rfl r) q2
def A3 {pl:Sem Bool}(he:PE X o ta)(c:Cls X.K C)(hm:Meth X.K C m f)(F:FnOk X.prog X.w X.K X.mg X.base CX k f fd ps sp)(hr:Room k X.A)(hb:Binds X.K fd ps ds)(hd:Vals dvs ds)(hx:Nf CX X E)(ht:eval (.Call (.Attribute o m apos) [] [] pos) X.env=(do
   let ov <-eval o X.env
   standAt apos.atName
   let (f,first) <-holding [ov] (getMethod ov m pl)
   callWith pos f first (backTo pos (starEach [] X.env)) (backToKw pos (keywordEach [] X.env))):=by rfl):
  PE X (.Call (.Attribute o m apos) [] [] pos) (Zb6 C m sp dvs E ta Zjh):=by
 intro pins s σ H Q I h
 refine PySem.W.methodCall_KW (pl:=pl) (Xi (he pins s σ H _ I h) fun u s1 ⟨x,H1,I1,rx,a,dx,fs,ex,ea,l,q⟩=>?_) ht
 subst ex
 obtain rfl:u=Value.ref a:=rx
 refine Sn I1 ea c hm l ?_
 exact PySem.W.callWith_K0 (first:=[.ref a]) I1.kIn hm.kp (Eh (us:=[.ref a]) (vs:=[.ref a]) F hr hb hd hx I1 (.cons rfl .nil) q)
structure Mk (K:PySem.W.Frag) (C f:Addr):Prop where
 makes:PySem.W.makesIn K C=true
 init:PySem.W.findIn K (.ref C) "__init__"=some (some (.ref f))
 fn:PySem.W.isFn K (.ref f)=true
 kp:PySem.W.keepIn K (.ref C)=true
def Zb7 {pins:List (Addr×Obj)}{σ:St}{H:Hp}{s:Shared}{Q:VK}{us:List Value}{vs:List V}(M:Mk X.K C f)(F:FnOk X.prog X.w X.K X.mg X.base CX k f fd ps sp)(hr:Room (k+1) X.A)(hb:Binds X.K fd ps ds)(hd:Vals dvs ds)(hx:Nf CX X E)(I:Inv X pins σ H s)(r:Vals vs us)(h:∀x dx,H x=none->H dx=none->dx≠x->sp (.ref x::(vs++dvs)) (upd (upd H dx (.own x)) x (.ins C dx [])) (fun v H2=>v=.non/\Q (.ref x) H2) E):
  wpAny (model X.prog X.w) X.A (call (.ref C) us) (EP X pins σ Q) X.xe s:=by
 have hq:=h (s.heap.objs.size+1) s.heap.objs.size (I.hok.fresh (Nat.le_succ _)) (I.hok.fresh (Nat.le_refl _)) (Nat.ne_of_lt (Nat.lt_succ_self _))
 have I2:=Inv.made (C:=C) I
 have r2:Vals (V.ref (s.heap.objs.size+1)::(vs++dvs)) (Value.ref (s.heap.objs.size+1)::(us++ds)):=.cons rfl (r.append hd)
 have hl:(Value.ref (s.heap.objs.size+1)::us++ds).length=ps.length:=by
  have e:=r2.length
  rw[F.len _ _ _ _ hq] at e
  exact e.symm
 refine wpAny_call (Zb5 (f:=f) I.kIn M.makes M.init (beq_iff_eq.mp M.fn) (codeAny_mono (F.run _ X.stack _ _ ⟨Value.ref (s.heap.objs.size+1)::us,[]⟩ (Value.ref (s.heap.objs.size+1)::(us++ds)) _ _ E (hr.make C us [])
  (I2.env0.make C us []) (hb _ (Value.ref (s.heap.objs.size+1)::us) I2.kIn hl) r2 hq) fun r s' hq'=>?_))
 cases r with
 |error e=>exact hx pins σ _ _ e s' I2 hq'
 |ok fl=>
  cases fl with
  |ret u=>
   obtain⟨v,H',I3,rv,ev,q3⟩:=I2.after hq'
   subst ev
   exact⟨rv,⟨V.ref (s.heap.objs.size+1),H',I3,rfl,q3⟩⟩
  |next=>exact False.elim hq'
  |brk=>exact False.elim hq'
  |cont=>exact False.elim hq'
def Bd (M:Mk X.K C f)(F:FnOk X.prog X.w X.K X.mg X.base CX k f fd ps sp)(hr:Room (k+1) X.A)(hg:Gl X x)(hm:X.mg x=some (.ref C))(hb:Binds X.K fd ps ds)(hd:Vals dvs ds)(hx:Nf CX X E)(ha:PA X (e::es) t) (hdb:(x==("__debug__":Str))=false:=by decide) (he:starEach (e::es) X.env=(false,eval e X.env)::starEach es X.env:=by rfl) (hpl:(backTo pos (starEach es X.env)).any (·.1)=false:=by rfl):
  PE X (.Call (.Name x p) (e::es) [] pos) (Zh0 C sp dvs E t):=by
 intro pins s σ H Q I h
 refine wpAny_Call_Name_kw (F0 I hg hm ?_ hdb)
 refine PySem.W.callWith_K (h₀:=X.base) I.ok.mod.kin M.kp (Xi (ha pos pins s σ H _ I h) fun us s1 ⟨vs,H1,I1,r,q⟩=>⟨I1.kIn,?_⟩) he hpl
 exact Zb7 M F hr hb hd hx I1 r q
end
structure FnScope (N P:List Str) (sc:Scope):Prop where
 kind:sc.kind=.function
 co:sc.isCoroutine=false
 gen:sc.isGenerator=false
 nd:N.Nodup
 pre:N.take P.length=P
 par:∀x∈P,sc.names.lookup x=some .local\/sc.names.lookup x=some .cell
 nofree:∀y∈sc.names,y.2≠.free
theorem Lz {kindOf:Str->Option NameKind}{x:Str}:∀{binds:List (Str×Value)}{m:Str->Option Value},(∀v,(x,v) ∉ binds)->bindL kindOf binds m x=m x
 |[],_,_=>rfl
 |(n,v)::r,m,h=>by
  unfold bindL
  rw[Lz fun w hw=>h w (List.mem_cons_of_mem _ hw)]
  split
  ·have:x≠n:=by rintro rfl;exact h v List.mem_cons_self
   simp[this]
  ·rfl
theorem L0 {kindOf:Str->Option NameKind}{x:Str}:∀{binds:List (Str×Value)}{m:Str->Option Value},(∀v,(x,v) ∉ binds)->bindC kindOf binds m x=m x
 |[],_,_=>rfl
 |(n,v)::r,m,h=>by
  unfold bindC
  rw[L0 fun w hw=>h w (List.mem_cons_of_mem _ hw)]
  split
  ·rfl
  ·have:x≠n:=by rintro rfl;exact h v List.mem_cons_self
   simp[this]
theorem L1 {kindOf:Str->Option NameKind}{x:Str}{v:Value}:∀{P:List Str}{vs:List Value}{i:Nat}{m:Str->Option Value},P.Nodup->P[i]?=some x->vs[i]?=some v->kindOf x=some .local ->
  bindL kindOf (P.zip vs) m x=some v
 |[],_,_,_,_,h,_,_=>by simp at h
 |_::_,[],_,_,_,_,h,_=>by simp at h
 |p::P,w::vs,0,m,nd,h1,h2,hk=>by
  simp at h1 h2;subst h1;subst h2
  show bindL kindOf ((p,w)::P.zip vs) m p=_
  unfold bindL
  rw[Lz fun v hv=>(List.nodup_cons.mp nd).1 (List.of_mem_zip hv).1,if_pos hk]
  simp
 |p::P,w::vs,i+1,m,nd,h1,h2,hk=>by
  show bindL kindOf ((p,w)::P.zip vs) m x=_
  unfold bindL
  exact L1 (i:=i) (List.nodup_cons.mp nd).2 (by simpa using h1) (by simpa using h2) hk
theorem L3 {kindOf:Str->Option NameKind}{x:Str}{v:Value}:∀{P:List Str}{vs:List Value}{i:Nat}{m:Str->Option Value},P.Nodup->P[i]?=some x->vs[i]?=some v->kindOf x≠some .local ->
  bindC kindOf (P.zip vs) m x=some v
 |[],_,_,_,_,h,_,_=>by simp at h
 |_::_,[],_,_,_,_,h,_=>by simp at h
 |p::P,w::vs,0,m,nd,h1,h2,hk=>by
  simp at h1 h2;subst h1;subst h2
  show bindC kindOf ((p,w)::P.zip vs) m p=_
  unfold bindC
  rw[L0 fun v hv=>(List.nodup_cons.mp nd).1 (List.of_mem_zip hv).1,if_neg hk]
  simp
 |p::P,w::vs,i+1,m,nd,h1,h2,hk=>by
  show bindC kindOf ((p,w)::P.zip vs) m x=_
  unfold bindC
  exact L3 (i:=i) (List.nodup_cons.mp nd).2 (by simpa using h1) (by simpa using h2) hk
def Jk (N:List Str)(vs:List V):St:=vs.map some++List.replicate (N.length-vs.length) none
def Vd (CX:Zfb)(P:Program)(w:World)(K:PySem.W.Frag)(mg:Str->Option Value)(base:Heap)(N:List Str)(qual:Str)(scope:Scope)(f:Addr)(cd:Value)(A:Around)(outer:List Env)(s:Shared)(H:Hp)(E:XK):Cx where
 prog:=P
 w:=w
 K:=K
 mg:=mg
 base:=base
 A:=A.deeper (envOfC qual scope s.heap.objs.size f cd)
 N:=N
 s₀:=s
 H₀:=H
 env:=envOfC qual scope s.heap.objs.size f cd
 outer:=outer
 stack:=envOfC qual scope s.heap.objs.size f cd::outer
 ex:=[]
 calm:=true
 fn:=fun _=>true
 pn:=[]
 xe:=fun e s'=>wpAny (model P w) (A.deeper (envOfC qual scope s.heap.objs.size f cd)) (leaving (envOfC qual scope s.heap.objs.size f cd) e) (fun _ s''=>CX outer H s E e s'') (fun e' s''=>CX outer H s E e' s'') s'
def Y5 {sc:Scope}{n:Nat}{x:Str}(h:sc.names.lookup x=some .cell):∃c,(cellsFrom n sc.names []).lookup x=some c:=by
 have q:=PySem.W.cellsFrom_some sc.names n [] (.inl h)
 exact Option.isSome_iff_exists.mp q
def Zab {CX:Zfb}{P:Program}{w:World}{K:PySem.W.Frag}{mg:Str->Option Value}{base:Heap}{N ps:List Str}{qual:Str}{scope:Scope}{f:Addr}{cd:Value}{A:Around}{outer:List Env}{s s1:Shared}{H:Hp}{E:XK}{us:List Value}{vs:List V}(S:FnScope N ps scope)(hd:A.handled=none)(e0:Env0 P w K mg base A outer s H)(hl:vs.length=ps.length)(r:Vals vs us)(x:InCallC s s.heap.objs.size (bindL (envOfC qual scope s.heap.objs.size f cd).kindOf (ps.zip us) fun _=>none) (cellsFrom (s.heap.objs.size+1) scope.names []) (bindC (envOfC qual scope s.heap.objs.size f cd).kindOf (ps.zip us) fun _=>none) s1):
  Inv (Vd CX P w K mg base N qual scope f cd A outer s H E) [] (Jk N vs) H s1:=by
 have hpl:ps.length<=N.length:=by have:=congrArg List.length S.pre;rw[List.length_take] at this;omega
 obtain⟨h1,tk,rfl,hk⟩:=x.done
 have noA:∀b:Addr,b ∉ (Vd CX P w K mg base N qual scope f cd A outer s H E).ex:=fun b z=>absurd (show b∈([]:List Addr) from z) (by simp)
 refine⟨⟨e0.mod,S.kind,rfl,rfl,Nat.le_refl _,fun y z c h1 h2=>?_,fun y hy=>?_,fun y c _ h=>?_,fun _=>hd,Around.frames_deeper e0.frames,.inr ⟨rfl,rfl⟩,fun b z=>absurd z (noA b),e0.bs,e0.bsz,fun b _ _=>noA b,fun b z=>absurd z (noA b),e0.funs,e0.frf⟩,
  rfl,e0.bare,Un.kept hk,⟨_,x.toInCall.ns,fun i y v h1 h2 h3=>?_⟩,fun y c h=>⟨_,x.cell y c h⟩,e0.hok.fresh (Nat.le_refl _),fun y c h=>?_,fun p hp=>absurd (show p∈([]:List (Addr×Obj)) from hp) (by simp),e0.hok.kept hk,?_⟩
 ·exact name_of_addr x.apart (PySem.mem_of_lookup h1) (PySem.mem_of_lookup h2)
 ·have hy:scope.names.lookup y=some .cell\/scope.names.lookup y=some .free:=hy
  rcases hy with hy|hy
  ·exact Y5 hy
  ·exact absurd rfl (S.nofree _ (PySem.mem_of_lookup hy))
 ·exact Nat.le_of_lt (x.above y c (PySem.mem_of_lookup h))
 ·have hi:i<vs.length:=by
   unfold Jk at h2
   by_cases hi:i<vs.length
   ·exact hi
   ·rw[List.getElem?_append_right (by simpa using hi)] at h2
    rw[List.getElem?_replicate] at h2
    split at h2<;>cases h2
  have ha:vs[i]?=some v:=by
   unfold Jk at h2
   rw[List.getElem?_append_left (by simpa using hi),List.getElem?_map] at h2
   cases e:vs[i]? with
   |none=>rw[e] at h2;cases h2
   |some a=>rw[e] at h2;cases h2;rfl
  obtain⟨u,hu,rv⟩:=r.get ha
  have hp:ps[i]?=some y:=by
   rw[<-S.pre,List.getElem?_take_of_lt (by omega)];exact h1
  have ndP:ps.Nodup:=by rw[<-S.pre];exact S.nd.sublist (List.take_sublist _ _)
  refine⟨u,rv,?_⟩
  rcases S.par y (List.mem_of_getElem? hp) with k|k
  ·exact .inl ⟨k,L1 ndP hp hu k⟩
  ·obtain⟨c,e⟩:=Y5 (n:=s.heap.objs.size+1) k
   refine .inr ⟨.inl k,c,e,?_⟩
   have q:=x.cell y c e
   rw[L3 ndP hp hu (by show scope.names.lookup y≠_;rw[k];decide)] at q
   exact q
 ·exact e0.hok.fresh (Nat.le_of_lt (x.above y c (PySem.mem_of_lookup h)))
 ·unfold Jk
  show _=N.length
  rw[List.length_append,List.length_map,List.length_replicate]
  omega
def Zmk {CX:Zfb}{P:Program}{w:World}{K:PySem.W.Frag}{mg:Str->Option Value}{base:Heap}{k:Nat}{f:Addr}{name qual:Str}{params:Arguments}{body:List Stmt}{scope:Scope}{dV kV doc pm cdv ct oc:Value}{an od:Option Addr}{osl:Array (Option Value)}{N ps:List Str}{sp:Sp}(lk:K.lookup f=some ⟨oc,od,.func (PySem.W.fnOf name qual params body scope dV kV doc pm an cdv ct),osl⟩)(hcd:PySem.W.codeIn K cdv qual=true)(S:FnScope N ps scope)(len:∀vs H Q E,sp vs H Q E->vs.length=ps.length)(hbody:∀(A:Around) (outer:List Env) (s:Shared) (H:Hp) (vs:List V) (Q:VK) (E:XK),Room k (A.deeper (envOfC qual scope s.heap.objs.size f cdv))->sp vs H Q E ->
   ∃t,PSs (Vd CX P w K mg base N qual scope f cdv A outer s H E) body t/\t {nx:=fun _ H'=>Q .non H',rt:=Q} (Jk N vs) H):
  FnOk P w K mg base CX (k+1) f (PySem.W.fnOf name qual params body scope dV kV doc pm an cdv ct) ps sp:=by
 refine⟨len,fun A outer s H args us vs Q E hr e0 hb r hsp=>?_⟩
 have hl:=len _ _ _ _ hsp
 have KX:K.In s.heap:=e0.mod.kin.keeps fun b o e=>(e0.bs b o e).1
 have lim:s.heap.NoLimit:=e0.mod.nolimit.keeps fun b o e=>(e0.bs b o e).1
 have hkind:∀y∈ps.zip us,scope.names.lookup y.1=some .local\/(scope.names.lookup y.1=some .cell/\((cellsFrom (s.heap.objs.size+1) scope.names []).lookup y.1).isSome=true):=fun⟨n,v⟩ hy=>by
  rcases S.par n (List.of_mem_zip hy).1 with q|q
  ·exact .inl q
  ·exact .inr ⟨q,PySem.W.cellsFrom_some _ _ _ (.inl q)⟩
 refine codeAny_call_function hr.depth (KX _ _ lk) rfl S.co S.gen rfl (PySem.W.codeRec_of KX hcd) (hb _ _ _ _ ?_)
 refine wpAny_newFunctionEnv_cells S.kind hkind fun env he s1 x=>?_
 subst he
 refine⟨lim.keeps x.toInCall.keep,codeAny_func ?_⟩
 obtain⟨t,ht,hq⟩:=hbody A outer s H vs Q E (hr.deeper _) hsp
 have I:Inv (Vd CX P w K mg base N qual scope f cdv A outer s H E) [] (Jk N vs) H s1:=Zab S hr.hd e0 hl r x
 refine wpAny_mono (ht [] s1 (Jk N vs) H _ I hq) (fun fl s' hs=>?_) fun e s' hs=>hs
 have fin:∀{σ':St}{H':Hp}{v:V}{u:Value},Inv (Vd CX P w K mg base N qual scope f cdv A outer s H E) [] σ' H' s'->RelV v u->Q v H'->CE outer P w H s Q u s':=
  fun {σ' H' v u} J rv q=>⟨v,H',J.os,J.bare,J.base,J.hok,rv,q⟩
 cases fl with
 |ret u=>
  obtain⟨v,σ',H',J,rv,q⟩:=hs
  exact fin J rv q
 |next=>
  obtain⟨σ',H',J,q⟩:=hs
  exact fin (v:=V.non) (u:=Value.none) J rfl q
 |brk=>
  obtain⟨_,_,_,q⟩:=hs
  exact False.elim q
 |cont=>
  obtain⟨_,_,_,q⟩:=hs
  exact False.elim q
section
variable {X:Cx}{x:Str}{p pos:Pos}{e:Expr}{es:List Expr}{t:TA}{id T:String}{r:List V->Hp->VK->Prop}
def Zos (r:List V->Hp->VK->Prop)(t:TA):TE:=fun σ H Q=>t σ H fun vs H1=>r vs H1 Q
def A4 (hc:CallR X (.builtin id) r)(hg:Gl X x)(hm:X.mg x=none)(hv:bootBuiltins x=some (.builtin id))(ha:PA X (e::es) t) (hn:x ≠ "__name__":=by decide) (hdb:(x==("__debug__":Str))=false:=by decide)
  (he:starEach (e::es) X.env=(false,eval e X.env)::starEach es X.env:=by rfl) (hpl:(backTo pos (starEach es X.env)).any (·.1)=false:=by rfl):PE X (.Call (.Name x p) (e::es) [] pos) (Zos r t):=by
 intro pins s σ H Q I h
 refine wpAny_Call_Name_kw (Nb I hg hm hv ?_ hn hdb)
 exact PyProof.Rows.callWith_builtin1 (Xi (ha pos pins s σ H _ I h) fun us s1 ⟨vs,H1,I1,r1,q1⟩=>hc pins s1 σ H1 vs us Q I1 r1 q1) he hpl
def Zac (hc:CallR X (.type T) r)(hg:Gl X x)(hm:X.mg x=none)(hv:bootBuiltins x=some (.type T))(ha:PA X (e::es) t) (hn:x ≠ "__name__":=by decide) (hdb:(x==("__debug__":Str))=false:=by decide)
  (he:starEach (e::es) X.env=(false,eval e X.env)::starEach es X.env:=by rfl) (hpl:(backTo pos (starEach es X.env)).any (·.1)=false:=by rfl):PE X (.Call (.Name x p) (e::es) [] pos) (Zos r t):=by
 intro pins s σ H Q I h
 refine wpAny_Call_Name_kw (Nb I hg hm hv ?_ hn hdb)
 exact PyProof.Rows.callWith_type1 (Xi (ha pos pins s σ H _ I h) fun us s1 ⟨vs,H1,I1,r1,q1⟩=>hc pins s1 σ H1 vs us Q I1 r1 q1) he hpl
end
end L2
namespace HT
open PySem PyProof.Rows
section
variable {prog:Program}{w:World}{A:Around}{E:Value->Shared->Prop}{s:Shared}
def cat_tup {t b:Addr}{vs ws:List Value}{Q:Value->Shared->Prop}(ht:IsTup s.heap t vs.toArray)(hb:IsTup s.heap b ws.toArray)(hv:vs≠[])(h1:ws=[]->Q (.ref t) s) (h2:ws≠[]->Q (.ref s.heap.objs.size) {s with heap:=s.heap.push {cls:=.type "tuple", data:=.seq (vs++ws).toArray}})
  (hsz:vs.length+ws.length<=sizeLine):wpAny (model prog w) A (binaryOp .Add (.ref t) (.ref b)) Q E s:=by
 obtain⟨⟨cls,dd,data,sl⟩,ho,hc,n,hd⟩:=id ht
 obtain⟨⟨cls2,dd2,data2,sl2⟩,ho2,hc2,n2,hd2⟩:=id hb
 simp only at hc hd hc2 hd2
 subst hc hd hc2 hd2
 have e:vs.toArray++ws.toArray=(vs++ws).toArray:=by simp
 by_cases hw:ws=[]
 ·exact concat_meets ⟨_,ho,rfl⟩ ⟨_,ho2,rfl⟩ noFill_tuple_add seq_tuple_add PySem.F.slot_tuple_add PySem.F.entry_tuple_add (PySem.F.args_tuple_add_2 _ _)
   (tuple_addW1 t b vs.toArray ws.toArray n n2 dd dd2 sl sl2 (by simpa using hv) (by simp[hw])) ⟨ho,ho2,h1 hw⟩
 ·refine concat_meets ⟨_,ho,rfl⟩ ⟨_,ho2,rfl⟩ noFill_tuple_add seq_tuple_add PySem.F.slot_tuple_add PySem.F.entry_tuple_add (PySem.F.args_tuple_add_2 _ _)
   (tuple_addW2 t b vs.toArray ws.toArray n n2 dd dd2 sl sl2 (by simpa using hv) (by simpa using hw) (by rw[List.size_toArray,List.size_toArray];exact hsz)) ⟨ho,ho2,?_⟩
  rw[e]
  exact h2 hw
def sIx (n d:Nat):Option Int->Nat
 |none=>d
 |some v=>if v<0 then(v+(n:Int)).toNat else min v.toNat n
def sIx_nat (n d k:Nat):sIx n d (some (k:Int))=min k n:=by
 show(if(k:Int)<0 then((k:Int)+(n:Int)).toNat else min (k:Int).toNat n)=min k n
 rw[if_neg (by omega),Int.toNat_natCast]
def Zji (n d:Nat)(hd:d<=n)(o:Option Int):sIx n d o<=n:=by
 cases o with
 |none=>exact hd
 |some v=>
  show(if v<0 then(v+(n:Int)).toNat else min v.toNat n)<=n
  by_cases hv:v<0
  ·rw[if_pos hv];omega
  ·rw[if_neg hv];exact Nat.min_le_right _ _
def F6 (v:Int)(n d:Nat):(if v<0 then max (v+(n:Int)) 0 else min v (n:Int))=((sIx n d (some v):Nat):Int):=by
 show(if v<0 then max (v+(n:Int)) 0 else min v (n:Int))=(((if v<0 then(v+(n:Int)).toNat else min v.toNat n):Nat):Int)
 by_cases hv:v<0
 ·simp only[if_pos hv];omega
 ·simp only[if_neg hv];omega
def Ei (lo hi:Option Int)(n:Nat):Builtin.Slice.sliceAdjust lo hi 1 (n:Int)=(((sIx n 0 lo:Nat):Int),((sIx n n hi:Nat):Int)):=by
 have h1:¬((1:Int)<0):=by omega
 unfold Builtin.Slice.sliceAdjust
 simp only[h1,if_false]
 refine Prod.ext ?_ ?_
 ·cases lo with
  |none=>rfl
  |some v=>exact F6 v n 0
 ·cases hi with
  |none=>rfl
  |some v=>exact F6 v n n
def Ej (i j:Nat):Builtin.Slice.slicePlaces (i:Int) (j:Int) 1=j-i:=by
 unfold Builtin.Slice.slicePlaces
 have h1:(1:Int) > 0:=by omega
 simp only[h1,if_true,Int.ediv_one]
 split<;>omega
def Sq {v:Value}{o:Option Int}{Q:Option Int->Shared->Prop}(p:IsPart v o)(h:Q o s):wpAny (model prog w) A (Builtin.Slice.slicePartIndex v) Q E s:=by
 cases p with
 |none=>exact slicePart_none h
 |int i t=>exact slicePart_int h
def Pq {sl:Addr}{vl vu:Value}{lo hi:Option Int}{n:Nat}{Q:Int×Int×Nat->Shared->Prop}(hs:s.heap.IsSliceOf sl vl vu .none)(pl:IsPart vl lo)(pu:IsPart vu hi)(h:Q (((sIx n 0 lo:Nat):Int),1,sIx n n hi-sIx n 0 lo) s):wpAny (model prog w) A (Builtin.Slice.sliceApplied (.ref sl) (pure (n:Int))) Q E s:=by
 obtain⟨os,hos,hcs,hds⟩:=id hs
 unfold Builtin.Slice.sliceApplied Builtin.Slice.sliceFields
 refine wpAny_bind (wpAny_bind (wpAny_field hos hds (x:=vl) rfl (wpAny_bind (wpAny_field hos hds (x:=vu) rfl (wpAny_bind (wpAny_field hos hds (x:=.none) rfl (wpAny_pure ?_)))))))
 refine wpAny_bind (slicePart_none ?_)
 show wpAny _ _ (if((1:Int)==0)=true then _ else _) _ _ s
 rw[if_neg (by decide)]
 refine wpAny_bind (Sq pl (wpAny_bind (Sq pu (wpAny_bind (wpAny_pure ?_)))))
 show wpAny _ _ (match Builtin.Slice.sliceAdjust lo hi 1 (n:Int) with|(lo,hi)=>pure (lo,(1:Int),Builtin.Slice.slicePlaces lo hi 1)) _ _ s
 rw[Ei lo hi n]
 show wpAny _ _ (pure (((sIx n 0 lo:Nat):Int),(1:Int),Builtin.Slice.slicePlaces ((sIx n 0 lo:Nat):Int) ((sIx n n hi:Nat):Int) 1)) _ _ s
 rw[Ej]
 exact wpAny_pure h
def Zb8 (xs:Array Value)(i k:Nat):((List.range k).filterMap fun(m:Nat)=>xs[((i:Int)+(m:Int)*1).toNat]?).toArray=((xs.toList.drop i).take k).toArray:=by
 have e:(fun(m:Nat)=>xs[((i:Int)+(m:Int)*1).toNat]?)=fun m=>xs[i+m]?:=by
  funext m
  have:((i:Int)+(m:Int)*1).toNat=i+m:=by omega
  rw[this]
 rw[e]
 have:=pick_run xs i k
 rw[List.filterMap_map] at this
 have e2:((fun x=>xs[x]?)∘fun x=>i+x)=fun m=>xs[i+m]?:=rfl
 rw[e2] at this
 rw[this]
def getItem_tuple_cut {t sl:Addr}{items:Array Value}{vl vu:Value}{lo hi:Option Int}{Q:Value->Shared->Prop}(ht:IsTup s.heap t items)(hs:s.heap.IsSliceOf sl vl vu .none)(pl:IsPart vl lo)(pu:IsPart vu hi)(hw:¬(sIx items.size 0 lo=0/\sIx items.size items.size hi=items.size))
  (h:Q (.ref s.heap.objs.size) {s with heap:=s.heap.push {cls:=.type "tuple", data:=.seq ((items.toList.drop (sIx items.size 0 lo)).take (sIx items.size items.size hi-sIx items.size 0 lo)).toArray}})
  (hsz:items.size<=sizeLine):wpAny (model prog w) A (getItem (.ref t) (.ref sl)) Q E s:=by
 have htake:sizeOk (.seq ((items.toList.drop (sIx items.size 0 lo)).take (sIx items.size items.size hi-sIx items.size 0 lo)).toArray):=by
  show((items.toList.drop (sIx items.size 0 lo)).take (sIx items.size items.size hi-sIx items.size 0 lo)).toArray.size<=sizeLine
  rw[List.size_toArray,List.length_take,List.length_drop,Array.length_toList]
  omega
 have hj:sIx items.size items.size hi<=items.size:=Zji _ _ (Nat.le_refl _) hi
 obtain⟨os,hos,hcs,hds⟩:=id hs
 have hTs:s.TypeIs (.ref sl) "slice":=⟨os,hos,hcs⟩
 unfold getItem
 try with_reducible refine wpAny_holding ?_
 first|refine wpAny_bind (wpAny_pure ?_)|skip
 refine wpAny_bind (wpAny_sequenceKey ht.typeIs (by decide) ?_)
 refine wpAny_bind (wpAny_callSpecial?_slot (name:=Str.ofString "__getitem__") ht.typeIs PyProof.Rows.slot_tuple_getitem
  (wpAny_call_entry PyProof.Rows.slot_tuple_getitem ht.typeIs entry_tuple_getitem ?_ (args_tuple_getitem _ _)))
 show wpAny _ _ (Builtin.Tuple.tupleItemsOf (.ref t)>>=_) _ _ s
 refine wpAny_bind (tupleItemsOf_ ht ?_)
 refine wpAny_bind (wpAny_typeOf hTs ?_)
 rw[if_pos (by decide)]
 refine wpAny_bind (Pq hs pl pu ?_)
 have hno:¬((((sIx items.size 0 lo:Nat):Int)==0&&(1:Int)==1&&(sIx items.size items.size hi-sIx items.size 0 lo)==items.size)=true):=by
  intro q
  rw[Bool.and_eq_true,Bool.and_eq_true] at q
  have q1:((sIx items.size 0 lo:Nat):Int)=0:=eq_of_beq q.1.1
  have q2:sIx items.size items.size hi-sIx items.size 0 lo=items.size:=eq_of_beq q.2
  exact hw ⟨by omega,by omega⟩
 show wpAny _ _ (if(((sIx items.size 0 lo:Nat):Int)==0&&(1:Int)==1&&(sIx items.size items.size hi-sIx items.size 0 lo)==items.size)=true then _ else _) _ _ s
 rw[if_neg hno,Zb8]
 first
  |exact wpAny_bind (m:=Builtin.Tuple.tupleExact _) (wpAny_newObj_type (wpAny_pure ⟨_,rfl,wpAny_pure h⟩) htake)
  |exact wpAny_bind (m:=Builtin.Tuple.tupleExact _) (wpAny_newObj_type (wpAny_bind (wpAny_pure (wpAny_pure ⟨_,rfl,wpAny_pure h⟩))) htake)
  |exact wpAny_bind (wpAny_bind (m:=Builtin.Tuple.tupleExact _) (wpAny_newObj_type (wpAny_pure (wpAny_pure ⟨_,rfl,wpAny_pure h⟩)) htake))
  |exact wpAny_bind (wpAny_bind (m:=Builtin.Tuple.tupleExact _) (wpAny_newObj_type (wpAny_pure ⟨_,rfl,wpAny_pure h⟩) htake))
end
end HT
namespace L2
open PySem PySem.Spec PyProof.Rows
abbrev TO:=St->Hp->(Option Int->Hp->Prop)->Prop
def PO (X:Cx)(e:Option Expr)(t:TO):Prop:=
 ∀(pins:List (Addr×Obj)) (s:Shared) (σ:St) (H:Hp) (Q:Option Int->Hp->Prop),Inv X pins σ H s->t σ H Q ->
  wpAny (model X.prog X.w) X.A (evalPart e X.env) (fun u s'=>∃o H',Inv X pins σ H' s'/\IsPart u o/\Q o H') X.xe s
def Zfs:TO:=fun _ H Q=>Q none H
def Zml (t:TE):TO:=fun σ H Q=>t σ H fun x H1=>∃i,x=.int i/\Q (some i) H1
section
variable {X:Cx}{e:Expr}{te:TE}{lo hi:Option Expr}{tl th:TO}{pos p2:Pos}
def Zft:PO X none Zfs:=by
 intro pins s σ H Q I h
 rw[evalPart_none]
 exact wpAny_pure ⟨none,H,I,.none,h⟩
def Zfu (h:PE X e te):PO X (some e) (Zml te):=by
 intro pins s σ H Q I hw
 rw[evalPart_some]
 refine Xi (h pins s σ H _ I hw) fun u s1 ⟨x,H1,I1,r1,q1⟩=>?_
 obtain⟨i,rfl,q⟩:=q1
 obtain⟨t,rfl⟩:=r1
 exact⟨some i,H1,I1,.int i t,q⟩
def SlR (X:Cx)(r:V->Option Int->Option Int->Hp->VK->Prop):Prop:=
 ∀(pins:List (Addr×Obj)) (s:Shared) (σ:St) (H:Hp) (x:V) (v vl vu:Value) (lo hi:Option Int) (sl:Addr) (Q:VK),Inv X pins σ H s->RelV x v->s.heap.IsSliceOf sl vl vu .none->IsPart vl lo->IsPart vu hi->r x lo hi H Q ->
  ∃T id,typeLookup (.type T) "__getitem__"=pure (some (.builtin id))/\s.TypeIs v T/\wpAny (model X.prog X.w) X.A (getItem v (.ref sl)) (EP X pins σ Q) X.xe s
def SlR.or {r r':V->Option Int->Option Int->Hp->VK->Prop}(h:SlR X r)(h':SlR X r'):SlR X (fun x lo hi H Q=>r x lo hi H Q\/r' x lo hi H Q):=by
 intro pins s σ H x v vl vu lo hi sl Q I rx hs pl pu q
 rcases q with q|q
 ·exact h pins s σ H x v vl vu lo hi sl Q I rx hs pl pu q
 ·exact h' pins s σ H x v vl vu lo hi sl Q I rx hs pl pu q
def Zpt (r:V->Option Int->Option Int->Hp->VK->Prop)(te:TE)(tl th:TO):TE:=fun σ H Q=>te σ H fun x H1=>tl σ H1 fun l H2=>th σ H2 fun u H3=>r x l u H3 Q
def Zb9 {r:V->Option Int->Option Int->Hp->VK->Prop}(hr:SlR X r)(he:PE X e te)(hl:PO X lo tl)(hu:PO X hi th):PE X (.Subscript e (.Slice lo hi none p2) pos) (Zpt r te tl th):=by
 intro pins s σ H Q I h
 refine Subscript_ (Xi (he pins s σ H _ I h) fun v s1 ⟨x,H1,I1,r1,q1⟩=>?_)
 refine wpAny_Slice (Xi (hl pins s1 σ H1 _ I1 q1) fun vl s2 ⟨l,H2,I2,pl,q2⟩=>Xi (hu pins s2 σ H2 _ I2 q2) fun vu s3 ⟨u,H3,I3,pu,q3⟩=>?_)
 rw[evalPart_none]
 refine wpAny_pure ?_
 have I4:Inv X pins σ H3 {s3 with heap:=s3.heap.push {cls:=.type "slice", data:=.fields #[vl,vu,.none]}}:=I3.kept (t':=s3.toks) fun b ob q=>Heap.get?_push_of_some _ q
 obtain⟨T,id,hT,ht,hg⟩:=hr pins {s3 with heap:=s3.heap.push {cls:=.type "slice", data:=.fields #[vl,vu,.none]}} σ H3 x v vl vu l u s3.heap.objs.size Q I4 r1 (Heap.IsSliceOf.new ..) pl pu q3
 show wpAny (model X.prog X.w) X.A (subscriptTail e (.Slice lo hi none p2) v (.ref s3.heap.objs.size)) (EP X pins σ Q) X.xe {s3 with heap:=s3.heap.push {cls:=.type "slice", data:=.fields #[vl,vu,.none]}}
 exact tail_any (ops:=[.ref s3.heap.objs.size,v]) ht hT hg (by with_unfolding_all rfl)
def A5 (xs:List V)(lo hi:Option Int):List V:=(xs.drop (HT.sIx xs.length 0 lo)).take (HT.sIx xs.length xs.length hi-HT.sIx xs.length 0 lo)
def Rr (xs:List V)(lo hi:Option Int):(A5 xs lo hi).length<=xs.length:=by
 unfold A5
 rw[List.length_take,List.length_drop]
 omega
def Zot (K:PySem.W.Frag):V->Option Int->Option Int->Hp->VK->Prop:=fun x lo hi H Q=>∃a xs,x=.ref a/\SqT K H a xs /\
 ¬(HT.sIx xs.length 0 lo=0/\HT.sIx xs.length xs.length hi=xs.length)/\∀p,H p=none->Q (.ref p) (upd H p (.tup (A5 xs lo hi)))
def Zjj:SlR X (Zot X.K):=by
 intro pins s σ H x v vl vu lo hi sl Q I rx hs pl pu h
 obtain⟨a,xs,rfl,hx,hw,q⟩:=h
 cases rx
 obtain⟨its,r,ht,hz⟩:=I.tuple hx
 have hlen:its.toArray.size=xs.length:=by rw[List.size_toArray];exact r.length.symm
 refine⟨"tuple", _,PyProof.Rows.slot_tuple_getitem.lookup,ht.typeIs,?_⟩
 refine HT.getItem_tuple_cut ht hs pl pu (by rw[hlen];exact hw) ?_ (by rw[hlen];exact hz)
 rw[hlen]
 refine⟨.ref s.heap.objs.size,_,I.laid (t':=s.toks) (o:=.tup (A5 xs lo hi)) (fun b ob q=>Heap.get?_push_of_some _ q) (Nat.le_refl _) ?_,rfl,q _ (I.hok.fresh (Nat.le_refl _))⟩
 exact⟨Nat.le_trans (Rr xs lo hi) hz,_,(r.drop (HT.sIx xs.length 0 lo)).take (HT.sIx xs.length xs.length hi-HT.sIx xs.length 0 lo),IsTup.new _ _⟩
def Zmm (K:PySem.W.Frag):R2:=fun x y H Q=>∃a b xs ys,x=.ref a/\y=.ref b/\SqT K H a xs/\SqT K H b ys/\xs≠[]/\xs.length+ys.length<=sizeLine /\
 (ys=[]->Q (.ref a) H)/\(ys≠[]->∀p,H p=none->Q (.ref p) (upd H p (.tup (xs++ys))))
def Vals.nil_iff {xs:List V}{us:List Value}(r:Vals xs us):us=[]↔xs=[]:=by
 cases r with
 |nil=>simp
 |cons _ _=>simp
def op_catT:OpR X (binaryOp .Add) (Zmm X.K):=by
 intro pins s σ H x y v u Q I rx ry h
 obtain⟨a,b,xs,ys,rfl,rfl,ha,hb,hx,hz,q1,q2⟩:=h
 cases rx
 cases ry
 obtain⟨its,r1,p1,_⟩:=I.tuple ha
 obtain⟨its2,r2,p2,_⟩:=I.tuple hb
 refine HT.cat_tup p1 p2 (fun z=>hx (r1.nil_iff.mp z)) (fun z=>⟨.ref a,H,I,rfl,q1 (r2.nil_iff.mp z)⟩) (fun z=>?_) (by rw[<-r1.length,<-r2.length];exact hz)
 refine⟨.ref s.heap.objs.size,_,I.laid (t':=s.toks) (o:=.tup (xs++ys)) (fun b ob q=>Heap.get?_push_of_some _ q) (Nat.le_refl _) ?_,rfl,q2 (fun w=>z (r2.nil_iff.mpr w)) _ (I.hok.fresh (Nat.le_refl _))⟩
 exact⟨by rw[List.length_append];exact hz,_,r1.append r2,IsTup.new _ _⟩
end
def Zjk (n:Nat)(i:Int):Option Nat:=if 0<=i then(if i<n then some i.toNat else none) else if -(n:Int)<=i then some (i+n).toNat else none
def Sr {α:Type}(xs:List α)(i:Int):Option α:=(Zjk xs.length i).bind fun j=>xs[j]?
def Zfv {n:Nat}{i:Int}{j:Nat}(h:Zjk n i=some j):seqIndex? i n=some j/\j<n/\-(n:Int)<=i/\i<n:=by
 unfold Zjk at h
 by_cases h0:0<=i
 ·rw[if_pos h0] at h
  by_cases h1:i<n
  ·rw[if_pos h1] at h
   have e:i.toNat=j:=Option.some.inj h
   exact⟨by rw[seqIndex_of h0 h1,e],by omega,by omega,h1⟩
  ·rw[if_neg h1] at h;cases h
 ·rw[if_neg h0] at h
  by_cases h1:-(n:Int)<=i
  ·rw[if_pos h1] at h
   have e:(i+n).toNat=j:=Option.some.inj h
   exact⟨by rw[seqIndex_neg (by omega) h1,e],by omega,h1,by omega⟩
  ·rw[if_neg h1] at h;cases h
def Be {α:Type}{xs:List α}{i:Int}{v:α}(h:Sr xs i=some v):∃j,seqIndex? i xs.length=some j/\xs[j]?=some v/\j<xs.length/\-(xs.length:Int)<=i/\i<xs.length:=by
 unfold Sr at h
 cases e:Zjk xs.length i with
 |none=>rw[e] at h;cases h
 |some j=>
  rw[e] at h
  obtain⟨h1,h2,h3,h4⟩:=Zfv e
  exact⟨j,h1,h,h2,h3,h4⟩
def Ke {α:Type}{xs:List α}{j:Nat}{v:α}(h:xs[j]?=some v):Sr xs (j:Int)=some v:=by
 have hj:j<xs.length:=(List.getElem?_eq_some_iff.mp h).1
 have e:Zjk xs.length (j:Int)=some j:=by
  unfold Zjk
  rw[if_pos (by omega),if_pos (by omega)];simp
 unfold Sr;rw[e];exact h
def F7 (b:Expr):Prop:=∀o i,subscripted b false o i=operate [o,i] (getItem o i)
def IxR (X:Cx)(r:R2):Prop:=
 ∀(value slice:Expr) (pins:List (Addr×Obj)) (s:Shared) (σ:St) (H:Hp) (x y:V) (v u:Value) (Q:VK),Inv X pins σ H s->RelV x v->RelV y u->r x y H Q ->
  subscripted slice false v u=operate [v,u] (getItem v u)->wpAny (model X.prog X.w) X.A (subscriptTail value slice v u) (EP X pins σ Q) X.xe s
def Zpu (X:Cx)(id:String)(r:V->List V->Hp->VK->Prop):Prop:=
 ∀(pins:List (Addr×Obj)) (s:Shared) (σ:St) (H:Hp) (x:V) (xs:List V) (v:Value) (us:List Value) (Q:VK),Inv X pins σ H s->RelV x v->Vals xs us->r x xs H Q ->
  wpAny (model X.prog X.w) X.A (call (.builtin id) (v::us)) (EP X pins σ Q) X.xe s
section
variable {X:Cx}{a b:Expr}{ta tb:TE}{pos:Pos}
def IxR.or {r r':R2}(h:IxR X r)(h':IxR X r'):IxR X (fun x y H Q=>r x y H Q\/r' x y H Q):=by
 intro value slice pins s σ H x y v u Q I rx ry q hs
 rcases q with q|q
 ·exact h value slice pins s σ H x y v u Q I rx ry q hs
 ·exact h' value slice pins s σ H x y v u Q I rx ry q hs
def Zmn {r:R2}(hr:IxR X r)(ha:PE X a ta)(hb:PE X b tb)(hs:F7 b):PE X (.Subscript a b pos) (Zlw r ta tb):=by
 intro pins s σ H Q I h
 exact Subscript_ (Zjb ha hb I h fun v u s2 x y H2 I2 rx ry q=>hr a b pins s2 σ H2 x y v u Q I2 rx ry q (hs _ _))
def Zmo (K:PySem.W.Frag):R2:=fun x y H Q=>∃p xs i v,x=.ref p/\y=.int i/\SqL K H p xs/\Sr xs i=some v/\Q v H
def Zmp (K:PySem.W.Frag):R2:=fun x y H Q=>∃p xs i v,x=.ref p/\y=.int i/\SqT K H p xs/\Sr xs i=some v/\Q v H
def Zmq:R2:=fun x y H Q=>∃z i c,x=.str z/\y=.int i/\z.length<=sizeLine/\Sr z.cps.toList i=some c/\Q (.str ⟨#[c]⟩) H
def ix_list:IxR X (Zmo X.K):=by
 intro value slice pins s σ H x y v u Q I rx ry h hs
 obtain⟨p,xs,i,z,rfl,rfl,hq,he,q⟩:=h
 cases rx
 obtain⟨t,rfl⟩:=ry
 obtain⟨its,r,pl,hz⟩:=I.list hq
 obtain⟨j,h1,h2,h3,h4,h5⟩:=Be he
 obtain⟨w,ew,rw'⟩:=r.get h2
 have hl:=r.length
 have hn:=Sl
 have fin:EP X pins σ Q w s:=⟨z,H,I,rw',q⟩
 by_cases h0:0<=i
 ·have hj:i.toNat=j:=by
   rw[seqIndex_of h0 h5] at h1
   exact Option.some.inj h1
  exact item_listR pl.isList h0 (by omega) (by rw[hj];simpa using ew) fin hs
 ·have hj:(i+(its.toArray.size:Int)).toNat=j:=by
   rw[seqIndex_neg (by omega) h4] at h1
   rw[List.size_toArray,<-hl]
   exact Option.some.inj h1
  exact subscriptTail_builtinR (x:=w) pl.isList.typeIs slot_list_getitem.lookup
   (wpAny_getItem_list_neg (Q:=fun r s'=>r=w/\EP X pins σ Q r s') pl.isList (by omega) (by rw[List.size_toArray]<;>omega) (by omega) (by rw[hj];simpa using ew) ⟨rfl,fin⟩) hs
def ix_tup:IxR X (Zmp X.K):=by
 intro value slice pins s σ H x y v u Q I rx ry h hs
 obtain⟨p,xs,i,z,rfl,rfl,hq,he,q⟩:=h
 cases rx
 obtain⟨t,rfl⟩:=ry
 obtain⟨its,r,pl,hz⟩:=I.tuple hq
 obtain⟨j,h1,h2,h3,h4,h5⟩:=Be he
 obtain⟨w,ew,rw'⟩:=r.get h2
 have hl:=r.length
 have hn:=Sl
 have fin:EP X pins σ Q w s:=⟨z,H,I,rw',q⟩
 exact subscriptTail_builtinR (x:=w) pl.typeIs slot_tuple_getitem.lookup
  (getItem_tuple (j:=j) (Q:=fun r s'=>r=w/\EP X pins σ Q r s') pl (by omega) (by omega) (by rw[List.size_toArray,<-hl];exact h1) (by simpa using ew) ⟨rfl,fin⟩) hs
def Zjl:IxR X Zmq:=by
 intro value slice pins s σ H x y v u Q I rx ry h hs
 obtain⟨z,i,c,rfl,rfl,hz,he,q⟩:=h
 obtain⟨t,rfl⟩:=rx
 obtain⟨t',rfl⟩:=ry
 obtain⟨j,h1,h2,h3,h4,h5⟩:=Be he
 have hl:z.cps.toList.length=z.length:=by simp[Str.length]
 rw[hl] at h1 h4 h5
 have hn:=Sl
 exact tail_any (typeIs_str s z t) slot_str_getitem.lookup (getItem_str (c:=c) (by
  have e1:decide (i < -(2 ^ 63:Int))=false:=decide_eq_false (by omega)
  have e2:decide (i ≥ 2 ^ 63)=false:=decide_eq_false (by omega)
  rw[e1,e2,Bool.or_false]) (by rw[h1];simpa using h2) ⟨.str ⟨#[c]⟩,H,I.tok _,⟨_,rfl⟩,q⟩) hs
def Zpv (K:PySem.W.Frag):R2:=fun x y H Q=>Zmo K x y H Q\/Zmp K x y H Q\/Zmq x y H Q
def Zjm:IxR X (Zpv X.K):=ix_list.or (ix_tup.or Zjl)
def Bf (lo hi:Option Int)(n:Nat):(sliceBounds lo hi none n).1=((HT.sIx n 0 lo:Nat):Int)/\(sliceBounds lo hi none n).2.1=((HT.sIx n n hi:Nat):Int)/\(sliceBounds lo hi none n).2.2=1:=by
 refine⟨?_,?_,rfl⟩
 ·cases lo with
  |none=>simp[sliceBounds,HT.sIx]
  |some i=>
   simp only[sliceBounds,HT.sIx,Option.getD_none,show(1:Int) > 0 by decide,if_true]
   by_cases h:i<0
   ·simp only[h,if_true]<;>omega
   ·simp only[h,if_false]<;>omega
 ·cases hi with
  |none=>simp[sliceBounds,HT.sIx]
  |some i=>
   simp only[sliceBounds,HT.sIx,Option.getD_none,show(1:Int) > 0 by decide,if_true]
   by_cases h:i<0
   ·simp only[h,if_true]<;>omega
   ·simp only[h,if_false]<;>omega
def Le (its:List Value)(lo hi:Option Int):slicePick its.toArray lo hi none=((its.drop (HT.sIx its.length 0 lo)).take (HT.sIx its.length its.length hi-HT.sIx its.length 0 lo)).toArray:=by
 obtain⟨h1,h2,h3⟩:=Bf lo hi its.toArray.size
 unfold slicePick
 rw[h1,h2,h3]
 simp only[sliceRange_one,pick_run,List.size_toArray]<;>rfl
def Zou (K:PySem.W.Frag):V->Option Int->Option Int->Hp->VK->Prop:=fun x lo hi H Q=>∃a xs,x=.ref a/\SqL K H a xs/\∀p,H p=none->Q (.ref p) (upd H p (.lst (A5 xs lo hi)))
def sl_list:SlR X (Zou X.K):=by
 intro pins s σ H x v vl vu lo hi sl Q I rx hs pl pu h
 obtain⟨a,xs,rfl,hx,q⟩:=h
 cases rx
 obtain⟨its,r,ht,hz⟩:=I.list hx
 have hlen:=r.length
 refine⟨"list", _,slot_list_getitem.lookup,ht.isList.typeIs,?_⟩
 refine wpAny_getItem_list_slice ht.isList hs pl pu .none (by simp) ?_ (by rw[List.size_toArray]<;>omega)
 rw[Le,<-hlen]
 refine⟨.ref s.heap.objs.size,_,I.laid (t':=s.toks) (o:=.lst (A5 xs lo hi)) (fun b ob q=>Heap.get?_push_of_some _ q) (Nat.le_refl _) ?_,rfl,q _ (I.hok.fresh (Nat.le_refl _))⟩
 exact⟨Nat.le_trans (Rr xs lo hi) hz,_,0,(r.drop (HT.sIx xs.length 0 lo)).take (HT.sIx xs.length xs.length hi-HT.sIx xs.length 0 lo),Heap.get?_push_size _ rfl⟩
def call_len_seq:CallR X (.builtin "len") (fun xs H Q=>∃p ys,xs=[.ref p]/\(SqL X.K H p ys\/SqT X.K H p ys)/\Q (.int ys.length) H):=by
 intro pins s σ H xs us Q I r h
 obtain⟨p,ys,rfl,hq,q⟩:=h
 obtain⟨u,rfl,rx⟩:=Wh r
 cases rx
 have hn:=Sl
 rcases hq with hq|hq
 ·obtain⟨its,r',pl,hz⟩:=I.list hq
  have hlen:=r'.length
  exact Calls.call_len_list pl.isList (by simp only[List.size_toArray]<;>omega) ⟨.int ys.length,H,I.tok _,⟨s.toks+1,by rw[List.size_toArray,hlen]⟩,q⟩
 ·obtain⟨its,r',pl,hz⟩:=I.tuple hq
  have hlen:=r'.length
  exact len_tuple pl (by simp only[List.size_toArray]<;>omega) ⟨.int ys.length,H,I.tok _,⟨s.toks+1,by rw[List.size_toArray,hlen]⟩,q⟩
def Bg:CallR X (.builtin "len") (fun xs H Q=>∃z,xs=[.str z]/\z.length<=sizeLine/\Q (.int z.length) H):=by
 intro pins s σ H xs us Q I r h
 obtain⟨z,rfl,hz,q⟩:=h
 obtain⟨u,rfl,t,rfl⟩:=Wh r
 have hn:=Sl
 exact len_str (by omega) ⟨.int z.length,H,I.tok _,⟨_,rfl⟩,q⟩
def CallR.or {f:Value}{r r':List V->Hp->VK->Prop}(h:CallR X f r)(h':CallR X f r'):CallR X f (fun xs H Q=>r xs H Q\/r' xs H Q):=by
 intro pins s σ H xs us Q I rs q
 rcases q with q|q
 ·exact h pins s σ H xs us Q I rs q
 ·exact h' pins s σ H xs us Q I rs q
def Bh:CallR X (.type "list") (fun xs H Q=>∃p ys,xs=[.ref p]/\(SqL X.K H p ys\/SqT X.K H p ys)/\∀l,H l=none->Q (.ref l) (upd H l (.lst ys))):=by
 intro pins s σ H xs us Q I r h
 obtain⟨p,ys,rfl,hq,q⟩:=h
 obtain⟨u,rfl,rx⟩:=Wh r
 cases rx
 have fin:∀(its:List Value),Vals ys its->ys.length<=sizeLine->∀(h':Heap) (c':Nat),(∀b o',s.heap.get? b=some o'->h'.get? b=some o') ->
   h'.get? s.heap.objs.size=some {cls:=.type "list", dict:=none,data:=.seq its.toArray c',slots:=#[]}->EP X pins σ Q (.ref s.heap.objs.size) {s with heap:=h'}:=fun its r' hz h' c' kp e=>
  ⟨.ref s.heap.objs.size,_,I.laid (t':=s.toks) kp (Nat.le_refl _) (show ObjOk X.prog X.w _ h' _ (.lst ys) from⟨hz,its,c',r',e⟩),rfl,q _ (I.hok.fresh (Nat.le_refl _))⟩
 rcases hq with hq|hq
 ·obtain⟨its,r',pl,hz⟩:=I.list hq
  have hlen:=r'.length
  obtain⟨o,ho,hc,n,hd⟩:=pl.isList
  exact call_list_seq p (.inl rfl) ho hc hd (fun h' c' kp e=>fin its r' hz h' c' kp e) (by simp only[List.size_toArray]<;>omega)
 ·obtain⟨its,r',pl,hz⟩:=I.tuple hq
  have hlen:=r'.length
  obtain⟨o,ho,hc,n,hd⟩:=pl
  exact call_list_seq p (.inr rfl) ho hc hd (fun h' c' kp e=>fin its r' hz h' c' kp e) (by simp only[List.size_toArray]<;>omega)
def Lf:CallR X (.type "tuple") (fun xs H Q=>∃p ys,xs=[.ref p]/\((SqL X.K H p ys/\∀l,H l=none->Q (.ref l) (upd H l (.tup ys)))\/(SqT X.K H p ys/\Q (.ref p) H))):=by
 intro pins s σ H xs us Q I r h
 obtain⟨p,ys,rfl,h⟩:=h
 obtain⟨u,rfl,rx⟩:=Wh r
 cases rx
 rcases h with⟨hq,q⟩|⟨hq,q⟩
 ·obtain⟨its,r',pl,hz⟩:=I.list hq
  have hlen:=r'.length
  refine call_tuple_list pl.isList (fun h' kp=>?_) (by simp only[List.size_toArray]<;>omega)
  have I1:Inv X pins σ H {s with heap:=h'}:=I.kept (t':=s.toks) kp
  have I2:Inv X pins σ (upd H h'.objs.size (.tup ys)) {s with heap:=h'.push {cls:=.type "tuple", data:=.seq its.toArray}}:=
   I1.laid (t':=s.toks) (fun b o e=>Heap.get?_push_of_some _ e) (Nat.le_refl _) (show ObjOk X.prog X.w _ _ _ (.tup ys) from⟨hz,its,r',IsTup.new _ _⟩)
  exact⟨.ref h'.objs.size,_,I2,rfl,q _ (I1.hok.fresh (Nat.le_refl _))⟩
 ·obtain⟨its,r',pl,hz⟩:=I.tuple hq
  exact call_tuple_same pl ⟨.ref p,H,I,rfl,q⟩
def Zpd (K:PySem.W.Frag)(T:String)(x:V)(H:Hp):Prop:=match x with
 |.str _=>T="str"
 |.int _=>T="int"
 |.ref p=>(T="list"/\∃xs,SqL K H p xs)\/(T="tuple"/\∃o,K.lookup p=some o/\o.cls=.type "tuple"/\o.dict=none) \/
   (T="dict"/\((∃kvs,H p=some (.dK kvs))\/∃kvs,H p=some (.dT kvs)))\/(T="set"/\∃S n,H p=some (.set S n))
 |_=>False
def Zjn {pins:List (Addr×Obj)}{σ:St}{H:Hp}{s:Shared}{T:String}{x:V}{v:Value}(I:Inv X pins σ H s)(r:RelV x v)(ty:Zpd X.K T x H):
  s.TypeIs v T/\∀a,v=.ref a->∃ob,s.heap.get? a=some ob/\ob.dict=none:=by
 cases x with
 |str z=>
  obtain⟨t,rfl⟩:=r
  cases (show T="str" from ty)
  exact⟨typeIs_str s z t,fun _ e=>nomatch e⟩
 |int i=>
  obtain⟨t,rfl⟩:=r
  cases (show T="int" from ty)
  exact⟨typeIs_int s i t,fun _ e=>nomatch e⟩
 |ref p=>
  cases r
  rcases ty with⟨rfl,xs,hq⟩|⟨rfl,o,hk,hc,hd⟩|⟨rfl,hk⟩|⟨rfl,S,n,hk⟩
  ·obtain⟨its,_,pl,_⟩:=I.list hq
   refine⟨pl.isList.typeIs,fun a e=>?_⟩
   cases e
   obtain⟨o,n,e,c,hd,_⟩:=pl
   exact⟨o,e,hd⟩
  ·refine⟨⟨o,I.kIn p o hk,hc⟩,fun a e=>?_⟩
   cases e
   exact⟨o,I.kIn _ o hk,hd⟩
  ·have z:∃o,s.heap.get? p=some o/\o.ExactDict:=by
    rcases hk with⟨kvs,hk⟩|⟨kvs,hk⟩
    ·obtain⟨_,_,_,_,o,_,_,e,ex,_⟩:=I.hok p _ hk
     exact⟨o,e,ex⟩
    ·obtain⟨_,_,_,_,o,_,_,e,ex,_⟩:=I.hok p _ hk
     exact⟨o,e,ex⟩
   obtain⟨o,e,ex⟩:=z
   refine⟨⟨o,e,ex.1⟩,fun a e2=>?_⟩
   cases e2
   exact⟨o,e,ex.2.1⟩
  ·obtain⟨o,_,_,_,e,ex,_⟩:=I.hok p _ hk
   refine⟨⟨o,e,ex.1⟩,fun a e2=>?_⟩
   cases e2
   exact⟨o,e,ex.2.1⟩
 |_=>exact False.elim ty
def Zpw (K:PySem.W.Frag)(T:String)(r:V->List V->Hp->VK->Prop)(to:TE)(t:TA):TE:=fun σ H Q=>to σ H fun x H1=>Zpd K T x H1/\t σ H1 fun xs H2=>r x xs H2 Q
variable {o e:Expr}{es:List Expr}{to:TE}{t:TA}{name:Str}{apos cpos:Pos}{T id:String}{r:V->List V->Hp->VK->Prop}
def Zca (pa:PlainAttrs T)(slot:Slot T name id) (hty:typeOf (.builtin id)=pure (.type "method_descriptor")) (hm:Zpu X id r) (ho:PE X o to) (ha:PA X (e::es) t)
  (hbase:attributeBase o name X.env (eval o X.env)=eval o X.env:=by rfl)
  (hfew:((backTo cpos (starEach (e::es) X.env)).all (fun x=>!x.1)&&(backToKw cpos (keywordEach [] X.env)).all (fun x=>x.1.isSome)
   && decide ((e::es).length+([]:List Keyword).length+(if([]:List Keyword).isEmpty then 0 else 1)<30))=true:=by rfl)
  (hline:(apos.endLine==cpos.line)=true:=by rfl) (hs:starEach (e::es) X.env=(false,eval e X.env)::starEach es X.env:=by rfl) (hplain:(backTo cpos (starEach es X.env)).any (·.1)=false:=by rfl):
  PE X (.Call (.Attribute o name apos) (e::es) [] cpos) (Zpw X.K T r to t):=by
 intro pins s σ H Q I h
 refine wpAny_Call_method_late hbase hfew hline rfl (Xi (ho pins s σ H _ I h) fun v s1 ⟨x,H1,I1,r1,ty,q1⟩=>?_)
 obtain⟨h1,h2⟩:=Zjn I1 r1 ty
 refine⟨T,id,pa,slot,hty,h1,h2,?_⟩
 have hA:=ha cpos pins s1 σ H1 _ I1 q1
 rw[hs] at hA ⊢
 refine Calls.callWith_builtin (by show(false||(backTo cpos (starEach es X.env)).any (·.1))=false;rw[hplain]<;>rfl) (Calls.evalArgs_plain ?_)
 exact Xi hA fun us s2 ⟨vs,H2,I2,r2,q2⟩=>hm pins s2 σ H2 x vs v us Q I2 r1 r2 q2
end
def Zpe (X:Cx)(id:String)(r:V->List V->Hp->VK->Prop):Prop:=
 ∀(pins:List (Addr×Obj)) (s:Shared) (σ:St) (H:Hp) (x:V) (xs:List V) (v:Value) (us:List Value) (Q:VK),Inv X pins σ H s->RelV x v->Vals xs us->r x xs H Q ->
  wpAny (model X.prog X.w) X.A (call (.builtin id) (v::us)) (EP X pins σ Q) X.xe s
def Vals.one:∀{x:V}{us:List Value},Vals [x] us->∃u,us=[u]/\RelV x u
 |_,_,.cons r .nil=>⟨_,rfl,r⟩
section
variable {X:Cx}{pins:List (Addr×Obj)}{σ:St}{H:Hp}{s:Shared}{l b:Addr}{xs ys zs:List V}
def Inv.lset {its its':List Value}{n:Nat}{f:Array Value->Array Value}{t':Nat}(I:Inv X pins σ H s)(hH:H l=some (.lst xs))
  (e:s.heap.get? l=some {cls:=.type "list", data:=.seq its.toArray n}) (hf:f its.toArray=its'.toArray) (hv:Vals ys its') (hz:ys.length<=sizeLine):
  Inv X pins σ (upd H l (.lst ys)) {s with heap:=s.heap.update l (Obj.mapSeq f),toks:=t'}:=by
 have q:=PySem.IsL.update e f
 rw[hf] at q
 refine I.write (x:=l) (e:=l) (by rw[hH];exact trivial) (.inl rfl) (fun b' u hb hu=>(Heap.get?_update_other s.heap (Obj.mapSeq f) (Ne.symm hb)).trans hu) ⟨_,q⟩ ?_
 exact⟨hz,its',_,hv,q⟩
def Inv.lnew {its:List Value}{t':Nat}(I:Inv X pins σ H s)(hv:Vals ys its)(hz:ys.length<=sizeLine):
  Inv X pins σ (upd H s.heap.objs.size (.lst ys)) {s with heap:=s.heap.push {cls:=.type "list", data:=.seq its.toArray},toks:=t'}:=
 I.laid (fun _ _ q=>Heap.get?_push_of_some _ q) (Nat.le_refl _) ⟨hz,its,0,hv,Heap.get?_push_size _ rfl⟩
theorem Inv.fresh (I:Inv X pins σ H s):H s.heap.objs.size=none:=I.hok.fresh (Nat.le_refl _)
def Inv.lstM (I:Inv X pins σ H s)(hH:H l=some (.lst xs)):xs.length<=sizeLine/\∃(its:List Value) (n:Nat),Vals xs its/\xs.length=its.length/\s.heap.get? l=some {cls:=.type "list", data:=.seq its.toArray n}:=by
 obtain⟨z,its,n,r,e⟩:=I.hok l _ hH
 exact⟨z,its,n,r,r.length,e⟩
def Zcb {n:Nat}(h:n<=sizeLine):Builtin.List.listTooLong n=false:=by
 unfold Builtin.List.listTooLong
 exact decide_eq_false (by omega)
end
section
variable {X:Cx}
def Zfw:V->List V->Hp->VK->Prop:=fun x vs H Q=>∃l xs y,x=.ref l/\vs=[y]/\H l=some (.lst xs)/\xs.length<sizeLine/\Q .non (upd H l (.lst (xs++[y])))
def Gi:Zpe X "list.append" Zfw:=by
 intro pins s σ H x vs v us Q I rx rv h
 obtain⟨l,xs,y,rfl,rfl,hH,hz,q⟩:=h
 cases rx
 obtain⟨u,rfl,ru⟩:=rv.one
 obtain⟨z,its,n,r,hl,e⟩:=I.lstM hH
 refine call_meets F.slot_list_append ⟨_,e,rfl⟩ F.entry_list_append (F.args_list_append_2 _ _) (PySem.list_append l its.toArray n u (by rw[List.size_toArray];omega)) ⟨e,?_⟩
 refine⟨.non,_,I.lset (its':=its++[u]) hH e (by simp) (r.append (.cons ru .nil)) ?_,rfl,q⟩
 rw[List.length_append,List.length_singleton]
 omega
def Zfx:V->List V->Hp->VK->Prop:=fun x vs H Q=>∃l b xs zs,x=.ref l/\vs=[.ref b]/\H l=some (.lst xs)/\H b=some (.lst zs)/\xs.length+zs.length<=sizeLine/\Q .non (upd H l (.lst (xs++zs)))
def Zad:Zpe X "list.extend" Zfx:=by
 intro pins s σ H x vs v us Q I rx rv h
 obtain⟨l,b,xs,zs,rfl,rfl,hH,hB,hz,q⟩:=h
 cases rx
 obtain⟨u,rfl,ru⟩:=rv.one
 cases ru
 obtain⟨z,its,n,r,hl,e⟩:=I.lstM hH
 obtain⟨z2,its2,n2,r2,hl2,e2⟩:=I.lstM hB
 have hsz:its.toArray.size+its2.toArray.size<=sizeLine:=by rw[List.size_toArray,List.size_toArray];omega
 have hlong:¬(!its.toArray.isEmpty&&Builtin.List.listTooLong (its.toArray.size+its2.toArray.size))=true:=by
  rw[Zcb hsz,Bool.and_false]
  exact Bool.false_ne_true
 refine call_meets F.slot_list_extend ⟨_,e,rfl⟩ F.entry_list_extend (F.args_list_extend_2 _ _)
  (AutoSeq1.list_extend_list_list_0 l its.toArray n b its2.toArray n2 hlong (by rw[List.size_toArray];omega) (by omega)) ⟨e,e2,?_⟩
 refine⟨.non,_,I.lset (its':=its++its2) hH e (by simp) (r.append r2) ?_,rfl,q⟩
 rw[List.length_append]
 omega
end
section
variable {κ:Type} [DecidableEq κ]
def Jd (kvs:List (κ×V))(k:κ):Option V:=(kvs.find? fun kv=>decide (kv.1=k)).map (·.2)
def Kt (kvs:List (κ×V))(k:κ)(v:V):List (κ×V):=
 if(kvs.any fun kv=>decide (kv.1=k))=true then kvs.map (fun kv=>if kv.1=k then(kv.1,v) else kv) else kvs++[(k,v)]
def Xt {p:κ×V}{r:List (κ×V)}{k:κ}(e:p.1=k):Jd (p::r) k=some p.2:=by simp[Jd,List.find?_cons,e]
def Xe {p:κ×V}{r:List (κ×V)}{k:κ}(e:¬p.1=k):Jd (p::r) k=Jd r k:=by simp[Jd,List.find?_cons,e]
theorem Nr (k:κ):∀kvs:List (κ×V),(kvs.any fun kv=>decide (kv.1=k))=(Jd kvs k).isSome
 |[]=>rfl
 |p::r=>by
  rw[List.any_cons]
  by_cases e:p.1=k
  ·simp only[Xt e,decide_eq_true e,Bool.true_or,Option.isSome_some]
  ·rw[Xe e,decide_eq_false e,Bool.false_or];exact Nr k r
theorem A6 (k j:κ)(y:V):∀kvs:List (κ×V),Jd (kvs.map fun kv=>if kv.1=k then(kv.1,y) else kv) j=(Jd kvs j).map fun x=>if j=k then y else x
 |[]=>rfl
 |p::r=>by
  have ih:=A6 k j y r
  rw[List.map_cons]
  by_cases h:p.1=k
  ·rw[if_pos h]
   by_cases e:p.1=j
   ·rw[Xt (p:=(p.1,y)) e,Xt e,Option.map_some,if_pos (e.symm.trans h)]
   ·rw[Xe (p:=(p.1,y)) e,Xe e,ih]
  ·rw[if_neg h]
   by_cases e:p.1=j
   ·rw[Xt (p:=p) e,Xt e,Option.map_some,if_neg (fun z=>h (e.trans z))]
   ·rw[Xe (p:=p) e,Xe e,ih]
theorem L4 (k j:κ)(y:V):∀kvs:List (κ×V),Jd kvs k=none->Jd (kvs++[(k,y)]) j=if j=k then some y else Jd kvs j
 |[],_=>by
  by_cases e:k=j
  ·rw[if_pos e.symm];exact Xt (p:=(k,y)) e
  ·rw[if_neg (fun z=>e z.symm)];exact Xe (p:=(k,y)) e
 |p::r,hn=>by
  rw[List.cons_append]
  have hk:¬p.1=k:=fun z=>by rw[Xt z] at hn;cases hn
  rw[Xe hk] at hn
  have ih:=L4 k j y r hn
  by_cases e:p.1=j
  ·rw[Xt e,Xt e,if_neg (fun z=>hk (e.trans z))]
  ·rw[Xe e,Xe e,ih]
def Zcc (kvs:List (κ×V))(k j:κ)(y:V):Jd (Kt kvs k y) j=if j=k then some y else Jd kvs j:=by
 unfold Kt
 by_cases a:(kvs.any fun kv=>decide (kv.1=k))=true
 ·rw[if_pos a,A6]
  rw[Nr] at a
  by_cases e:j=k
  ·obtain⟨x,hx⟩:=Option.isSome_iff_exists.mp a
   rw[if_pos e,e,hx,Option.map_some,if_pos rfl]
  ·rw[if_neg e]
   cases Jd kvs j with
   |none=>rfl
   |some x=>rw[Option.map_some,if_neg e]
 ·rw[if_neg a]
  refine L4 k j y kvs ?_
  rw[Nr] at a
  cases q:Jd kvs k with
  |none=>rfl
  |some x=>rw[q] at a;exact(a rfl).elim
def Ua (kvs:List (κ×V))(k:κ)(v:V):(Kt kvs k v).length<=kvs.length+1:=by
 unfold Kt
 split
 ·rw[List.length_map];omega
 ·rw[List.length_append,List.length_cons,List.length_nil];omega
def RelO.isSome_eq {o:Option V}{u:Option Value}(r:RelO o u):o.isSome=u.isSome:=by
 cases o with
 |none=>cases u with
  |none=>rfl
  |some _=>exact(show False from r).elim
 |some _=>cases u with
  |none=>exact(show False from r).elim
  |some _=>rfl
theorem RelO.getD {o:Option V}{u:Option Value}{d:V}{d':Value}(r:RelO o u)(rd:RelV d d'):RelV (o.getD d) (u.getD d'):=by
 cases o with
 |none=>cases u with
  |none=>exact rd
  |some _=>exact(show False from r).elim
 |some _=>cases u with
  |none=>exact(show False from r).elim
  |some _=>exact r
def KV.val {kvs:List (κ×V)}{vs:List (κ×Value)}(r:KV kvs vs)(k:κ):RelO (Jd kvs k) (valueAt vs k):=by
 unfold KV at r
 induction r with
 |nil=>exact True.intro
 | @cons p q ps qs h t ih=>
  obtain⟨h1,h2⟩:=h
  by_cases e:p.1=k
  ·have e':q.1=k:=h1.symm.trans e
   have b:valueAt (q::qs) k=some q.2:=by simp[valueAt,List.find?_cons,e']
   rw[Xt e,b];exact h2
  ·have e':¬q.1=k:=fun z=>e (h1.trans z)
   have b:valueAt (q::qs) k=valueAt qs k:=by simp[valueAt,List.find?_cons,e']
   rw[Xe e,b];exact ih
theorem KV.any {kvs:List (κ×V)}{vs:List (κ×Value)}(r:KV kvs vs)(k:κ):(kvs.any fun kv=>decide (kv.1=k))=vs.any fun kv=>decide (kv.1=k):=by
 unfold KV at r
 induction r with
 |nil=>rfl
 |cons h t ih=>rw[List.any_cons,List.any_cons,ih,h.1]
def KV.repl {kvs:List (κ×V)}{vs:List (κ×Value)}(r:KV kvs vs)(k:κ){y:V}{u:Value}(ry:RelV y u):
  KV (kvs.map fun kv=>if kv.1=k then(kv.1,y) else kv) (vs.map fun kv=>if kv.1=k then(kv.1,u) else kv):=by
 unfold KV at r ⊢
 induction r with
 |nil=>exact .nil
 | @cons p q ps qs h t ih=>
  rw[List.map_cons,List.map_cons]
  refine .cons ?_ ih
  obtain⟨h1,h2⟩:=h
  by_cases e:p.1=k
  ·rw[if_pos e,if_pos (h1.symm.trans e)];exact⟨h1,ry⟩
  ·rw[if_neg e,if_neg (fun z=>e (h1.trans z))];exact⟨h1,h2⟩
def KV.put {kvs:List (κ×V)}{vs:List (κ×Value)}(r:KV kvs vs)(k:κ){y:V}{u:Value}(ry:RelV y u):KV (Kt kvs k y) (stored vs k u):=by
 unfold Kt stored
 rw[r.any k]
 by_cases e:(vs.any fun kv=>decide (kv.1=k))=true
 ·rw[if_pos e,if_pos e];exact r.repl k ry
 ·rw[if_neg e,if_neg e];exact Paired.snoc r ⟨rfl,ry⟩
theorem KV.length {kvs:List (κ×V)}{vs:List (κ×Value)}(r:KV kvs vs):kvs.length=vs.length:=Paired.length r
end
def A7 {P:Program}{w:World}{k:Y3}{u:Value}(r:RelV (kV k) u):(Xo P w).is k u=true:=by
 cases k with
 |inl i=>obtain⟨t,e⟩:=(show ∃t,u=Value.int i t from r);subst e;exact Ay P w i t
 |inr x=>obtain⟨t,e⟩:=(show ∃t,u=Value.str x t from r);subst e;exact Az P w x t
theorem L5 {P:Program}{w:World}:∀{ks:List Y3}{us:List Value},Vals (ks.map kV) us->ItemsAre (Xo P w) ks us
 |[],_,r=>by rw[List.map_nil] at r;cases r;exact .nil
 |k::ks,_,r=>by
  rw[List.map_cons] at r
  cases r with
  |cons h t=>exact .cons (A7 h) (L5 t)
abbrev KT (H:Hp):List (List Y3×V)->List (List Y3×Addr×Value)->Prop:=Paired fun p q=>p.1=q.1/\H q.2.1=some (.tup (p.1.map kV))/\RelV p.2 q.2.2
def KT.val {H:Hp}{kvs:List (List Y3×V)}{xs:List (List Y3×Addr×Value)}(r:KT H kvs xs)(k:List Y3):RelO (Jd kvs k) ((atKey xs k).map (·.2)):=by
 induction r with
 |nil=>exact True.intro
 | @cons p q ps qs h t ih=>
  obtain⟨h1,_,h2⟩:=h
  by_cases e:p.1=k
  ·have e':q.1=k:=h1.symm.trans e
   have b:atKey (q::qs) k=some q.2:=by simp[atKey,List.find?_cons,e']
   rw[Xt e,b];exact h2
  ·have e':¬q.1=k:=fun z=>e (h1.trans z)
   have b:atKey (q::qs) k=atKey qs k:=by simp[atKey,List.find?_cons,e']
   rw[Xe e,b];exact ih
def KT.repl {H:Hp}{kvs:List (List Y3×V)}{xs:List (List Y3×Addr×Value)}(r:KT H kvs xs)(k:List Y3){y:V}{u:Value}(ry:RelV y u):
  KT H (kvs.map fun kv=>if kv.1=k then(kv.1,y) else kv) (xs.map (putAt k u)):=by
 induction r with
 |nil=>exact .nil
 | @cons p q ps qs h t ih=>
  rw[List.map_cons,List.map_cons]
  refine .cons ?_ ih
  obtain⟨h1,h2,h3⟩:=h
  unfold putAt
  by_cases e:p.1=k
  ·rw[if_pos e,if_pos (h1.symm.trans e)];exact⟨h1,h2,ry⟩
  ·rw[if_neg e,if_neg (fun z=>e (h1.trans z))];exact⟨h1,h2,h3⟩
def KT.put {H:Hp}{kvs:List (List Y3×V)}{xs:List (List Y3×Addr×Value)}(r:KT H kvs xs)(k:List Y3){b:Addr}{y:V}{u:Value}(hb:H b=some (.tup (k.map kV)))(ry:RelV y u):
  KT H (Kt kvs k y) (storedH xs k b u):=by
 have e:(kvs.any fun kv=>decide (kv.1=k))=(atKey xs k).isSome:=by
  rw[Nr,(r.val k).isSome_eq,Option.isSome_map]
 unfold Kt storedH
 rw[e]
 by_cases q:(atKey xs k).isSome=true
 ·rw[if_pos q,if_pos q];exact r.repl k ry
 ·rw[if_neg q,if_neg q];exact Paired.snoc r ⟨rfl,hb,ry⟩
def KT.keeps {H H':Hp}{kvs:List (List Y3×V)}{xs:List (List Y3×Addr×Value)}(r:KT H kvs xs)(ht:∀b ys,H b=some (.tup ys)->H' b=some (.tup ys)):KT H' kvs xs:=
 Paired.mapP r fun _ _ z=>⟨z.1,ht _ _ z.2.1,z.2.2⟩
section
variable {P:Program}{w:World}{H:Hp}{h:Heap}{a:Addr}
def Zh1 {u:HO}(ok:HOk P w H h)(e:Rd H a u):ObjOk P w H h a u:=e.ok ok
def L6 {kvs:List (Y3×V)}(ok:HOk P w H h)(e:Rd H a (.dK kvs)):kvs.length<=sizeLine/\(a==sysModules)=false/\∃vs,KV kvs vs/\h.DictOf (Xo P w) a vs:=
 show ObjOk P w H h a (.dK kvs) from Zh1 ok e
def Zmr {kvs:List (Y3×V)}(ok:HOk P w H h)(e:H a=some (.dK kvs)):kvs.length<=sizeLine/\(a==sysModules)=false/\∃vs,KV kvs vs/\h.DictOf (Xo P w) a vs:=L6 ok (.inl e)
def Pr {ks:List Y3}(ok:HOk P w H h)(e:H a=some (.tup (ks.map kV))):(tupleKind (Xo P w)).is h ks a:=by
 obtain⟨_,its,r,o,h1,h2,n,h3⟩:=(show ObjOk P w H h a (.tup (ks.map kV)) from ok a _ e)
 exact⟨o,its.toArray,n,h1,h2,h3,by simpa using L5 r⟩
def L7 {kvs:List (List Y3×V)}(ok:HOk P w H h)(e:Rd H a (.dT kvs)):kvs.length<=sizeLine/\(a==sysModules)=false /\
  ∃xs,KT H kvs xs/\h.DictOfH (tupleKind (Xo P w)) a xs:=by
 obtain⟨z,y,xs,r,o,es,ep,h1,h2,h3,h4,h5⟩:=(show ObjOk P w H h a (.dT kvs) from Zh1 ok e)
 refine⟨z,y,xs,r,o,es,ep,h1,h2,h3,h4,fun x hx=>?_,h5⟩
 have all:∀{l:List (List Y3×V)}{m:List (List Y3×Addr×Value)},KT H l m->∀x∈m,(tupleKind (Xo P w)).is h x.1 x.2.1:=by
  intro l m q
  induction q with
  |nil=>intro x hx;exact nomatch hx
  | @cons p q ps qs hq t ih=>
   intro x hx
   rcases List.mem_cons.mp hx with e|hx
   ·subst e
    exact Pr ok (by rw[<-hq.1];exact hq.2.1)
   ·exact ih x hx
 exact all r x hx
def Zh2 {kvs:List (List Y3×V)}(ok:HOk P w H h)(e:H a=some (.dT kvs)):kvs.length<=sizeLine/\(a==sysModules)=false /\
  ∃xs,KT H kvs xs/\h.DictOfH (tupleKind (Xo P w)) a xs:=L7 ok (.inl e)
end
def DGet (H:Hp)(a:Addr)(y:V)(r:Option V):Prop:=
 (∃kvs k,Rd H a (.dK kvs)/\y=kV k/\r=Jd kvs k)\/∃kvs k b,Rd H a (.dT kvs)/\y=.ref b/\H b=some (.tup (k.map kV))/\r=Jd kvs k
def DPut (H:Hp)(a:Addr)(y v:V)(H':Hp):Prop:=
 (∃kvs k,H a=some (.dK kvs)/\y=kV k/\kvs.length<sizeLine/\H'=upd H a (.dK (Kt kvs k v))) \/
 ∃kvs k b,H a=some (.dT kvs)/\y=.ref b/\H b=some (.tup (k.map kV))/\kvs.length<sizeLine/\H'=upd H a (.dT (Kt kvs k v))
def DGet.t {H:Hp}{a b:Addr}{kvs:List (List Y3×V)}{k:List Y3}(e:H a=some (.dT kvs))(eb:H b=some (.tup (k.map kV))):DGet H a (.ref b) (Jd kvs k):=.inr ⟨kvs,k,b,.inl e,rfl,eb,rfl⟩
def DPut.t {H:Hp}{a b:Addr}{kvs:List (List Y3×V)}{k:List Y3}{v:V}(e:H a=some (.dT kvs))(eb:H b=some (.tup (k.map kV)))(hl:kvs.length<sizeLine):
  DPut H a (.ref b) v (upd H a (.dT (Kt kvs k v))):=.inr ⟨kvs,k,b,e,rfl,eb,hl,rfl⟩
section
variable {X:Cx}{pins:List (Addr×Obj)}{σ:St}{H:Hp}{s:Shared}{a:Addr}{y v:V}{u r:Value}{o:Option V}{A:Around}{E:Value->Shared->Prop}
def Inv.big (I:Inv X pins σ H s):sysModules<s.heap.objs.size:=by
 have h:mainGlobals<s.heap.objs.size:=(I.mod.glob.keeps I.bk).lt
 exact Nat.lt_trans (by decide) h
def Zae {Q:Value->Shared->Prop}(hu:A.units+1<cLine)(I:Inv X pins σ H s)(g:DGet H a y (some v))(ry:RelV y u)(h:∀w' s',Inv X pins σ H s'->RelV v w'->Q w' s'):
  wpAny (model X.prog X.w) A (getItem (.ref a) u) Q E s:=by
 rcases g with⟨kvs,k,e,ey,l⟩|⟨kvs,k,b,e,ey,eb,l⟩
 ·subst ey
  obtain⟨z,hd,vs,rel,dd⟩:=L6 I.hok e
  obtain⟨w',hw,rw'⟩:=RelO.some_of (v:=v) (o:=valueAt vs k) (by rw[l];exact rel.val k)
  exact wpAny_getItem_of (A7 ry) dd.mapOf hw (h w' _ (I.tok _) rw')
 ·subst ey
  cases (show u=Value.ref b from ry)
  obtain⟨z,hd,xs,rel,dd⟩:=L7 I.hok e
  obtain⟨w',hw,rw'⟩:=RelO.some_of (v:=v) (o:=(atKey xs k).map (·.2)) (by rw[l];exact rel.val k)
  obtain⟨p,hp,hp2⟩:=Option.map_eq_some_iff.mp hw
  refine wpAny_getItem_heap (tupleKind_room_in1 hu) (Pr I.hok eb) dd hp ?_
  rw[hp2]
  exact h w' _ (I.tok _) rw'
def Zfy {Q:Value->Shared->Prop}(hu:A.units+1<cLine)(I:Inv X pins σ H s)(g:DGet H a y o)(ry:RelV y u)(h:∀s',Inv X pins σ H s'->Q (.bool (!o.isSome)) s'):
  wpAny (model X.prog X.w) A (compareOp .NotIn u (.ref a)) Q E s:=by
 rcases g with⟨kvs,k,e,ey,l⟩|⟨kvs,k,b,e,ey,eb,l⟩
 ·subst ey
  obtain⟨z,hd,vs,rel,dd⟩:=L6 I.hok e
  refine wpAny_notIn_of (A7 ry) hd dd.mapOf ?_
  rw[<-(rel.val k).isSome_eq,<-l]
  exact h _ (I.tok _)
 ·subst ey
  cases (show u=Value.ref b from ry)
  obtain⟨z,hd,xs,rel,dd⟩:=L7 I.hok e
  refine wpAny_notIn_heap (tupleKind_room_in1 hu) (Pr I.hok eb) hd dd ?_
  have q:=(rel.val k).isSome_eq
  rw[Option.isSome_map] at q
  rw[<-q,<-l]
  exact h _ (I.tok _)
def Bi {h':Heap}{t':Nat}{ob:HO}(I:Inv X pins σ H s)(mu:Zl2 (H a))(hs:Heap.SameBut a s.heap h')(he:∃q,h'.get? a=some q)(new:ObjOk X.prog X.w (upd H a ob) h' a ob):
  Inv X pins σ (upd H a ob) {s with heap:=h',toks:=t'}:=
 I.write (x:=a) (e:=a) mu (.inl rfl) (fun b q hb z=>(hs.2 b hb).trans z) he new
def Zjo {P:Program}{w:World}{H':Hp}{h':Heap}{kvs:List (Y3×V)}{vs:List (Y3×Value)}(z:kvs.length<=sizeLine)(hd:(a==sysModules)=false)(rel:KV kvs vs)(dd:h'.DictOf (Xo P w) a vs):
  ObjOk P w H' h' a (.dK kvs):=⟨z,hd,vs,rel,dd⟩
def Zaf {H':Hp}{Q:Unit->Shared->Prop}(hu:A.units+1<cLine)(I:Inv X pins σ H s)(g:DPut H a y v H')(ry:RelV y u)(rv:RelV v r)(h:∀s',Inv X pins σ H' s'->Q () s'):
  wpAny (model X.prog X.w) A (setItem (.ref a) u r) Q E s:=by
 rcases g with⟨kvs,k,e,ey,l,eH⟩|⟨kvs,k,b,e,ey,eb,l,eH⟩
 ·subst ey eH
  obtain⟨z,hd,vs,rel,dd⟩:=Zmr I.hok e
  have hz:vs.length<=sizeLine:=by rw[<-rel.length];exact z
  have hl:(Kt kvs k v).length<=sizeLine:=by have:=Ua kvs k v;omega
  refine wpAny_setItem_pairs (hsz:=hz) (A7 ry) dd fun h' dd' hs=>h _ ?_
  have he:∃q,h'.get? a=some q:=let ⟨q,_,_,hq,_⟩:=dd';⟨q,hq⟩
  exact Bi I (by rw[e];exact True.intro) hs he (Zjo hl hd (rel.put k rv) dd')
 ·subst ey eH
  cases (show u=Value.ref b from ry)
  obtain⟨z,hd,xs,rel,dd⟩:=Zh2 I.hok e
  have hz:xs.length<=sizeLine:=by rw[<-Paired.length rel];exact z
  have hl:(Kt kvs k v).length<=sizeLine:=by have:=Ua kvs k v;omega
  refine wpAny_setItem_heap (hsz:=hz) (tupleKind_room_in1 hu) (Pr I.hok eb) dd fun h' dd' hs=>h _ ?_
  obtain⟨q,es,ep,hq,h2,h3,h4,_,h5⟩:=dd'
  refine Bi I (by rw[e];exact True.intro) hs ⟨q,hq⟩ ⟨hl,hd,_,(rel.put k eb rv).keeps fun c ys ec=>?_,q,es,ep,hq,h2,h3,h4,h5⟩
  rw[Zp (Zhu ec e (fun z=>nomatch z))]
  exact ec
end
def Zms (i:Expr):Prop:=∀ov iv,subscripted i false ov iv=operate [ov,iv] (getItem ov iv)
def Zfz {prog:Program}{w:World}{A:Around}{E:Value->Shared->Prop}{s:Shared}{env:Env}{value slice:Expr}{pos:Pos}{T id:String}{Q:Value->Shared->Prop}
  (hl:typeLookup (.type T) "__getitem__"=pure (some (.builtin id))) (hs:Zms slice)
  (h:wpAny (model prog w) A (eval value env) (fun o s₁=>wpAny (model prog w) A (eval slice env) (fun i s₂=>s₂.TypeIs o T/\wpAny (model prog w) A (getItem o i) Q E s₂) E s₁) E s):
  wpAny (model prog w) A (eval (.Subscript value slice pos) env) Q E s:=by
 refine Subscript_ (wpAny_mono h (fun o s₁ h₁=>wpAny_mono h₁ (fun i s₂ h₂=>?_) fun _ _ x=>x) fun _ _ x=>x)
 obtain⟨hT,h₂⟩:=h₂
 unfold subscriptTail
 refine wpAny_bind ?_
 rw[getitemInPython_of_ne hT.not_modules]
 refine wpAny_bind (wpAny_specialOf hT hl ?_)
 have fin:wpAny (model prog w) A (subscripted slice false o i) (fun r s₃=>wpAny (model prog w) A (letTemporaryGo value o r>>=fun _=>pure r) Q E s₃) E s₂:=by
  rw[hs o i]
  exact wpAny_operating (wpAny_mono h₂ (fun r s₃ h₃=>wpAny_bind (wpAny_letTemporaryGo (wpAny_pure h₃))) fun _ _ x=>x)
 first
  |exact wpAny_pure (wpAny_bind fin)
  |exact wpAny_bind (wpAny_pure (wpAny_bind fin))
  |exact wpAny_bind fin
def A8 {X:Cx}{pins:List (Addr×Obj)}{σ:St}{H:Hp}{s:Shared}{a:Addr}{y:V}{o:Option V}(I:Inv X pins σ H s)(g:DGet H a y o):s.TypeIs (.ref a) "dict":=by
 rcases g with⟨kvs,k,e,_,_⟩|⟨kvs,k,b,e,_,_,_⟩
 ·obtain⟨_,_,vs,_,dd⟩:=L6 I.hok e
  exact dd.typeIs
 ·obtain⟨_,_,xs,_,dd⟩:=L7 I.hok e
  exact dd.typeIs
def Zmt (td ty:TE):TE:=fun σ H Q=>td σ H fun x H1=>ty σ H1 fun y H2=>∃a v,x=.ref a/\DGet H2 a y (some v)/\Q v H2
def Zf0 (ty td:TE):TE:=fun σ H Q=>ty σ H fun y H1=>td σ H1 fun x H2=>∃a o,x=.ref a/\DGet H2 a y o/\Q (.bl (!o.isSome)) H2
def Zmu (td ty tv:TE):TS:=fun D σ H=>tv σ H fun v H1=>td σ H1 fun x H2=>ty σ H2 fun y H3=>∃a H4,x=.ref a/\DPut H3 a y v H4/\D.nx σ H4
section
variable {X:Cx}{o i e value:Expr}{pos pos' tpos:Pos}{td ty tv:TE}
def Zf1 (hu:X.A.units+1<cLine)(ho:PE X o td)(hi:PE X i ty)(hs:Zms i):PE X (.Subscript o i pos) (Zmt td ty):=by
 intro pins s σ H Q I h
 refine Zfz PySem.F.slot_dict_getitem.lookup hs (Xi (ho pins s σ H _ I h) fun u s1 ⟨x,H1,I1,rx,q1⟩=>Xi (hi pins s1 σ H1 _ I1 q1) fun iv s2 ⟨y,H2,I2,ry,a,v,ex,g,q2⟩=>?_)
 subst ex
 obtain rfl:u=Value.ref a:=rx
 exact⟨A8 I2 g,Zae hu I2 g ry fun w' s3 I3 rw'=>⟨v,H2,I3,rw',q2⟩⟩
def Zag (hu:X.A.units+1<cLine)(hi:PE X i ty)(ho:PE X o td):PC X .NotIn i o (Zf0 ty td):=by
 intro pins s σ H Q I h
 refine Xi (hi pins s σ H _ I h) fun iv s1 ⟨y,H1,I1,ry,q1⟩=>Xi (ho pins s1 σ H1 _ I1 q1) fun u s2 ⟨x,H2,I2,rx,a,ov,ex,g,q2⟩=>?_
 subst ex
 obtain rfl:u=Value.ref a:=rx
 exact Zfy hu I2 g ry fun s3 I3=>⟨.bl (!ov.isSome),H2,I3,rfl,q2⟩
def Zf2 (hu:X.A.units+1<cLine)(ho:PE X o td)(hi:PE X i ty)(hv:PE X value tv)(hs:swapsWith value (some (.Subscript o i pos')) pos.line X.env=pure false):
  PS X (.Assign [.Subscript o i pos'] value pos) (Zmu td ty tv):=by
 intro pins s σ H D I h
 refine wpAny_Assign_Subscript (Xi (hv pins s σ H _ I h) fun r s1 ⟨v,H1,I1,rv,q1⟩=>Xi (ho pins s1 σ H1 _ I1 q1) fun u s2 ⟨x,H2,I2,rx,q2⟩=>Xi (hi pins s2 σ H2 _ I2 q2) fun iv s3 ⟨y,H3,I3,ry,a,H4,ex,g,q3⟩=>?_) hs
 subst ex
 obtain rfl:u=Value.ref a:=rx
 exact Zaf hu I3 g ry rv fun s4 I4=>⟨σ,H4,I4,q3⟩
end
def Zcd {P:Program}{w:World}{H:Hp}(h:Heap)(hb:sysModules<h.objs.size):ObjOk P w H (h.push {cls:=.type "dict", data:=.dict #[]}) h.objs.size (.dT []):=
 ⟨Nat.zero_le _,beq_eq_false_iff_ne.mpr (Ne.symm (Nat.ne_of_lt hb)),[],.nil,_,#[],0,Heap.get?_push_size _ rfl,⟨rfl,rfl,rfl⟩,rfl,rfl,List.nodup_nil⟩
def Zjp:TE:=fun _ H Q=>∀p,H p=none->Q (.ref p) (upd H p (.dT []))
section
variable {X:Cx}{pos:Pos}
def A9:PE X (.Dict [] [] pos) Zjp:=fun pins s σ H Q I h=>
 wpAny_Dict_empty ⟨.ref s.heap.objs.size,_,I.laid (a:=s.heap.objs.size) (o:=.dT []) (t':=s.toks) (fun _ _ q=>Heap.get?_push_of_some _ q) (Nat.le_refl _) (Zcd s.heap I.big),rfl,h _ (I.hok.fresh (Nat.le_refl _))⟩
end
structure M2 (X:Cx) (o:Expr) (m:Str) (apos:Pos) (e f:Expr) (cpos:Pos):Prop where
 base:attributeBase o m X.env (eval o X.env)=eval o X.env
 few:((backTo cpos (starEach [e,f] X.env)).all (fun x=>!x.1)&&(backToKw cpos (keywordEach [] X.env)).all (fun x=>x.1.isSome)
  && decide (([e,f]:List Expr).length+([]:List Keyword).length+(if([]:List Keyword).isEmpty then 0 else 1)<30))=true
 line:(apos.endLine==cpos.line)=true
 trees:backTo cpos (starEach [e,f] X.env)=[(false,eval e X.env),(false,eval f X.env)]
def Zov (H:Hp)(a:Addr):Prop:=(∃kvs,Rd H a (.dK kvs))\/∃kvs,Rd H a (.dT kvs)
def Zce {X:Cx}{pins:List (Addr×Obj)}{σ:St}{H:Hp}{s:Shared}{a:Addr}(I:Inv X pins σ H s)(d:Zov H a):
  s.TypeIs (.ref a) "dict"/\(∀b,Value.ref a=.ref b->∃ob,s.heap.get? b=some ob/\ob.dict=none)/\(a==sysModules)=false:=by
 rcases d with⟨kvs,e⟩|⟨kvs,e⟩
 ·obtain⟨_,hd,vs,_,dd⟩:=L6 I.hok e
  refine⟨dd.typeIs,fun b q=>?_,hd⟩
  cases q
  obtain⟨ob,_,_,h1,h2,_⟩:=dd
  exact⟨ob,h1,h2.2.1⟩
 ·obtain⟨_,hd,xs,_,dd⟩:=L7 I.hok e
  refine⟨dd.typeIs,fun b q=>?_,hd⟩
  cases q
  obtain⟨ob,_,_,h1,h2,_⟩:=dd
  exact⟨ob,h1,h2.2.1⟩
section
variable {X:Cx}{pins:List (Addr×Obj)}{σ:St}{H:Hp}{s:Shared}{a:Addr}{y d:V}{u r:Value}{o:Option V}{A:Around}{E:Value->Shared->Prop}
def Zjq {Q:Value->Shared->Prop}(hu:A.units+1<cLine)(I:Inv X pins σ H s)(g:DGet H a y o)(ry:RelV y u)(rd:RelV d r)(h:∀w' s',Inv X pins σ H s'->RelV (o.getD d) w'->Q w' s'):
  wpAny (model X.prog X.w) A (call (.builtin "dict.get") [.ref a,u,r]) Q E s:=by
 rcases g with⟨kvs,k,e,ey,l⟩|⟨kvs,k,b,e,ey,eb,l⟩
 ·subst ey
  obtain⟨z,hd,vs,rel,dd⟩:=L6 I.hok e
  refine call_meetsIn PySem.F.slot_dict_get dd.typeIs PySem.F.entry_dict_get (PySem.F.args_dict_get_3 _ _ _) (meets_dict_get_default (Xo X.prog X.w) a (A7 ry) hd r) ⟨_,dd.mapOf,h _ _ (I.tok _) ?_⟩
  rw[l]
  exact(rel.val k).getD rd
 ·subst ey
  cases (show u=Value.ref b from ry)
  obtain⟨z,hd,xs,rel,dd⟩:=L7 I.hok e
  refine call_meetsIn PySem.F.slot_dict_get dd.typeIs PySem.F.entry_dict_get (PySem.F.args_dict_get_3 _ _ _) (meetsH_dict_get_default (tupleKind (Xo X.prog X.w)) a b hd r) ⟨tupleKind_room_in1 hu,k,xs,Pr I.hok eb,dd,h _ _ (I.tok _) ?_⟩
  rw[l]
  exact(rel.val k).getD rd
end
def Zjr (td ty tx:TE):TE:=fun σ H Q=>td σ H fun x H1=>∃a,x=.ref a/\Zov H1 a/\ty σ H1 fun y H2=>tx σ H2 fun z H3=>∃o,DGet H3 a y o/\Q (o.getD z) H3
section
variable {X:Cx}{o e f:Expr}{apos cpos:Pos}{td ty tx:TE}
def Zcf (hu:X.A.units+1<cLine)(ho:PE X o td)(he:PE X e ty)(hf:PE X f tx) (m:M2 X o "get" apos e f cpos):PE X (.Call (.Attribute o "get" apos) [e,f] [] cpos) (Zjr td ty tx):=by
 intro pins s σ H Q I h
 refine wpAny_Call_method m.base m.few m.line PySem.F.plainAttrs_dict PySem.F.slot_dict_get PySem.F.type_dict_get (Xi (ho pins s σ H _ I h) fun u s1 ⟨x,H1,I1,rx,a,ex,d,q1⟩=>?_)
 subst ex
 obtain rfl:u=Value.ref a:=rx
 obtain⟨t1,t2,_⟩:=Zce I1 d
 refine⟨t1,t2,?_⟩
 rw[m.trees]
 refine Calls.callWith_builtin rfl (Calls.evalArgs_plain (Calls.spliced_cons (Xi (he pins s1 σ H1 _ I1 q1) fun iv s2 ⟨y,H2,I2,ry,q2⟩=>
  Calls.spliced_cons (Xi (hf pins s2 σ H2 _ I2 q2) fun fv s3 ⟨z,H3,I3,rz,ov,g,q3⟩=>Calls.spliced_nil ?_))))
 exact Zjq hu I3 g ry rz fun w' s4 I4 rw'=>⟨_,H3,I4,rw',q3⟩
end
end L2
namespace Att
open PySem PySem.W PySem.Calls PyProof.Rows
def Rz {P:Params}{h:Heap}:∀(ns:List Int) (vs:List Value),WellAll P h vs (ns.map WData.int)->IntsAre vs ns:=by
 intro ns
 induction ns with
 |nil=>
  intro vs w
  rw[List.map_nil] at w
  cases w
  exact .nil
 |cons n ns ih=>
  intro vs w
  rw[List.map_cons] at w
  cases w with
  |cons a b=>
   cases a
   exact .cons _ _ (ih _ b)
def Zah {l:OpenLaw}{n:Nat}(hn:l.most=some n){P:Params}{h:Heap}{args:List WData}{vals:List Value}(hpre:l.row.toRowW.claim.pre args=true)(hwl:WellAll P h vals args):
  ∃a vs ns,vals=[Value.ref a]/\args=[WData.list (ns.map WData.int)]/\h.get? a=some {cls:=.type "list", data:=.seq vs.toArray}/\IntsAre vs ns/\ns.length<=n:=by
 have hsh:WShape.hasAll [] args [.list .int]=true:=(pre_splitW hpre).1
 have hc:l.pre.holds [] {args:=args}=true:=(pre_splitW hpre).2
 obtain⟨d,r,rfl,h1,h2⟩:=hasAllW_cons hsh
 obtain rfl:=hasAllW_nil h2
 obtain⟨xs,rfl,h3⟩:=hasW_list h1
 obtain⟨ns,rfl⟩:=items_int h3
 have hlen:ns.length<=n:=by
  unfold OpenLaw.pre at hc
  have h4:(WTm.not (.lt (.lit (.int (n:Int))) (.len (.arg 0)))).holds [] {args:=[.list (ns.map .int)]}=true:=by
   have h4:=(holds_andW hc).1
   rw[hn] at h4
   exact h4
  have h5:=condW_of h4 (w_not (w_lt w_lit (w_len_list (w_arg rfl))))
  rw[List.length_map] at h5
  refine Nat.le_of_not_lt fun q=>?_
  have q':(n:Int)<((ns.length:Nat):Int):=by omega
  first
   |(rw[decide_eq_true q'] at h5;exact absurd h5 (by decide))
   |(simp at h5;omega)
 cases hwl with
 |cons w1 w2=>
  cases w2
  cases w1 with
  |list ho hall=>exact⟨_,_,ns,rfl,rfl,ho,Rz ns _ hall,hlen⟩
def Zai (l:OpenLaw)(args:List WData):l.row.toRowW.claim.post args (.bool true) args=true:=
 postW_of (r:=l.row.toRowW) (X:=(true==true))
  (show WShape.has [] (.bool true) .bool=true by first|rfl|decide|simp[WShape.has,WShape.arms,WShape.armsAll])
  (show(WTm.eq .res (.lit (.bool true))).value [] {args:=args,res:=some (.bool true),after:=args}=some (.bool (true==true)) from w_eq_bool (w_res rfl) w_lit) rfl
def attach_call {l:OpenLaw}{n:Nat}{q:Program}{loose:List Str}{XP:(Str->Option Value)->Heap->Prop}{YP:World->Heap->Prop}{d:DefRec}(hn:l.most=some n)(hdf:d.params.defaults=[])
  (call:∀(w:World) (s₀ s₁:Shared) (mg mb:Str->Option Value) (fa:Addr) (o:Obj) (pm cd doc:Value) (a:Addr) (vs:List Value) (ns:List Int),
   Ground q loose [] XP w s₀ mg mb s₁.heap->YP w s₁.heap ->
   s₁.heap.get? fa=some o->o.data=.func (docDef d.name d.params d.body d.scope pm cd doc)->s₁.heap.CodeRec cd d.name->mg d.name=some (.ref fa) ->
   s₁.heap.get? a=some {cls:=.type "list", data:=.seq vs.toArray}->IntsAre vs ns->ns.length<=n->s₁.gens=#[] ->
   codeAny (model l.prog w) callerA (.call (.ref fa) ⟨[.ref a],[]⟩) (fun r s'=>r=.ok (.ret (.bool true))/\OldK s₁.heap s'.heap/\s'.os=s₁.os/\AllBare s'.gens) s₁):
  WalkO q loose XP YP l.row.toRowW d [] (fun f vs=>PySem.call f vs):=by
 intro w s₀ s₁ mg mb G Y fa o pm cd doc dV kV ho hd hcd hD hmg hg args vals as hpre hlay hrd hwl hlo
 obtain rfl:dV=.none:=Dflts.none hD hdf
 obtain rfl:kV=.none:=Dflts.noKw hD
 obtain⟨a,vs,ns,rfl,rfl,hobj,hints,hlen⟩:=Zah hn hpre hwl
 refine enter_call (codeAny_mono (call w s₀ s₁ mg mb fa o pm cd doc a vs ns G Y ho (fd_plain hd) hcd hmg hobj hints hlen hg) fun r s' hq=>?_)
 obtain⟨rfl,h2,h3,h4⟩:=hq
 exact⟨.inl ⟨.bool true,.bool true,[],rfl,fun _=>rfl,.bool true,Zai l _,fun _=>⟨List.Pairwise.nil,fun _ hm=>(nomatch hm)⟩⟩,h2,h3,h4⟩
end Att
namespace L2
open PySem PySem.Spec PyProof.Rows
theorem L8:∀{vs:List Value}{ns:List Int},IntsAre vs ns->Vals (ns.map V.int) vs
 |_,_,.nil=>.nil
 |_,_,.cons n t h=>.cons ⟨t,rfl⟩ (L8 h)
def Zjs (H:Hp):Prop:=∀b,H b=none\/∃o xs,H b=some (.frz o (.lst xs))
def Zcg {P:Program}{w:World}{K:PySem.W.Frag}{mg mb:Str->Option Value}{CX:Zfb}{k:Nat}{fa a:Addr}{fd:FuncData}{x:Str}{sp:Sp}{s₁:Shared}{vs:List Value}{ns:List Int}(KX:K.In s₁.heap)(hns:s₁.heap.Ns mainGlobals mg)(hb:s₁.heap.Ns builtinsNs mb) (hbb:∀x:Str,x ≠ "__name__"->mb x=bootBuiltins x) (hlim:s₁.heap.NoLimit) (hg:s₁.gens=#[])
  (ha:s₁.heap.get? a=some {cls:=.type "list", data:=.seq vs.toArray}) (hi:IntsAre vs ns) (hl:ns.length<=sizeLine) (hr:Room k callerA)
  (F:∀base:Heap,K.In base->base.Ns mainGlobals mg->FnOk P w K mg base CX k fa fd [x] sp) (hbind:∀(s:Shared) (u:Value),BindsTo s fd ⟨[u],[]⟩ [(x,u)])
  (hsp:∀H:Hp,Zjs H->SqL K H a (ns.map V.int)->sp [.ref a] H (fun v _=>v=.bl true) fun _ _ _=>False)
  (hCX:∀H e s',CX [] H s₁ (fun _ _ _=>False) e s'->False):
  codeAny (model P w) callerA (.call (.ref fa) ⟨[.ref a],[]⟩) (fun r s'=>r=.ok (.ret (.bool true))/\OldK s₁.heap s'.heap/\s'.os=s₁.os/\AllBare s'.gens) s₁:=by
 have rv:=L8 hi
 have lenV:=hi.length
 have core:∀H:Hp,Zjs H->SqL K H a (ns.map V.int)->HOk P w H s₁.heap->(∀b,H b≠none->b=a)->(H a≠none->K.lookup a=none) ->
   codeAny (model P w) callerA (.call (.ref fa) ⟨[.ref a],[]⟩) (fun r s'=>r=.ok (.ret (.bool true))/\OldK s₁.heap s'.heap/\s'.os=s₁.os/\AllBare s'.gens) s₁:=by
  intro H hO hS hok hA hK
  have base_of:∀{b:Addr}{o:Obj},s₁.heap.get? b=some o->H b=none->(M7 s₁.heap H).get? b=some o:=fun e n=>Zbv e n
  have noA:∀{b:Addr}{o:Obj}{es:Array DictEntry}{ep:Nat},s₁.heap.get? b=some o->o.data=.dict es ep->H b=none:=fun {b o es ep} e d=>by
   cases q:H b with
   |none=>rfl
   |some u=>
    have e':b=a:=hA b (by rw[q];simp)
    subst e'
    rw[ha] at e;cases e
    have d':Data.seq vs.toArray _=Data.dict es ep:=d
    cases d'
  have nsK:∀{b:Addr}{m:Str->Option Value},s₁.heap.Ns b m->(M7 s₁.heap H).Ns b m:=fun {b m} ⟨o,es,ep,e,d,r⟩=>⟨o,es,ep,base_of e (noA e d),d,r⟩
  have hKb:K.In (M7 s₁.heap H):=fun b o e=>base_of (KX b o e) (by
   cases q:H b with
   |none=>rfl
   |some u=>
    have e':b=a:=hA b (by rw[q];simp)
    subst e'
    rw[hK (by rw[q];simp)] at e;cases e)
  have hM:Mod K mg (M7 s₁.heap H):=⟨hKb,nsK hns,⟨mb,nsK hb,hbb⟩,let ⟨mc,h1,h2⟩:=hlim;⟨mc,nsK h1,h2⟩⟩
  have e0:Env0 P w K mg (M7 s₁.heap H) callerA [] s₁ H:=⟨rfl,hM,fun b o e=>Zff e,Nat.le_of_eq (O3 _ _),trivial,fun b hb=>absurd (show b∈([]:List Addr) from hb) (by simp),hok,.of_eq hg⟩
  refine codeAny_mono ((F _ hKb (nsK hns)).run callerA [] s₁ H ⟨[.ref a],[]⟩ [.ref a] [.ref a] _ _ hr e0 (hbind s₁ (.ref a)) (.cons rfl .nil) (hsp H hO hS)) fun r s' h=>?_
  cases r with
  |error e=>exact(hCX H e s' h).elim
  |ok fl=>
   cases fl with
   |next=>exact False.elim h
   |brk=>exact False.elim h
   |cont=>exact False.elim h
   |ret u=>
    obtain⟨v,H',os,bare,un,hok',r',q⟩:=h
    have q':v=.bl true:=q
    subst q'
    obtain rfl:u=Value.bool true:=r'
    refine⟨rfl,OldK.of_keep fun b o e=>?_,os,bare⟩
    cases q:H b with
    |none=>exact un.keep b o e q (by intro z;exact absurd (show b∈([]:List Addr) from z) (by simp)) (by simp)
    |some u=>
     rcases hO b with z|⟨ob,xs,z⟩
     ·rw[q] at z;cases z
     ·have z2:=un.frzs b ob _ z
      obtain⟨e1,_⟩:=hok b _ z
      obtain⟨e2,_⟩:=hok' b _ z2
      rw[e] at e1;cases e1
      exact e2
 cases hk:K.lookup a with
 |some o=>
  have e:=KX a o hk
  rw[ha] at e
  cases e
  refine core (fun _=>none) (fun _=>.inl rfl) (.inr ⟨_,vs.toArray,_,hk,rfl,rfl,rfl,by rw[List.size_toArray,lenV];exact hl,by simpa using rv⟩) (fun b u z=>by have z':(none:Option HO)=some u:=z;cases z') (fun b z=>absurd rfl z) fun z=>absurd rfl z
 |none=>
  refine core (fun b=>if b=a then some (.frz {cls:=.type "list", data:=.seq vs.toArray} (.lst (ns.map V.int))) else none) (fun b=>?_) (.inl (.inr ⟨{cls:=.type "list", data:=.seq vs.toArray},if_pos rfl⟩)) (fun b u z=>?_) (fun b z=>?_) fun _=>hk
  ·by_cases hb:b=a
   ·exact .inr ⟨_,_,if_pos hb⟩
   ·exact .inl (if_neg hb)
  ·by_cases hb:b=a
   ·have z':=(if_pos hb).symm.trans z
    cases z'
    subst hb
    exact⟨ha,by rw[List.length_map];exact hl,vs,_,rv,ha⟩
   ·have z':=(if_neg hb).symm.trans z
    cases z'
  ·by_cases hb:b=a
   ·exact hb
   ·exact absurd (if_neg hb) z
def Zf3 {l:PySem.W.OpenLaw}{n k:Nat}{q:Program}{loose:List Str}{XP:(Str->Option Value)->Heap->Prop}{YP:World->Heap->Prop}{d:DefRec}{K:Params->PySem.W.Frag}{CX:World->Zfb}{sp:World->Sp}{x:Str}(hn:l.most=some n)(hn2:n<=sizeLine)(hdf:d.params.defaults=[])(hr:Room k callerA)(hY:∀(w:World) (h:Heap),YP w h->(K w.params).In h)(F:∀(w:World) (mg:Str->Option Value) (fa:Addr) (h:Heap),(K w.params).In h->h.Ns mainGlobals mg->mg d.name=some (.ref fa) ->
   ∃fd:FuncData,(∀(s:Shared) (u:Value),BindsTo s fd ⟨[u],[]⟩ [(x,u)]) /\
    ∀base:Heap,(K w.params).In base->base.Ns mainGlobals mg->FnOk l.prog w (K w.params) mg base (CX w) k fa fd [x] (sp w))(hsp:∀(w:World) (H:Hp) (a:Addr) (ns:List Int),ns.length<=n->Zjs H->SqL (K w.params) H a (ns.map V.int)->sp w [.ref a] H (fun v _=>v=.bl true) fun _ _ _=>False)(hCX:∀(w:World) (H:Hp) (s:Shared) (e:Value) (s':Shared),CX w [] H s (fun _ _ _=>False) e s'->False):
  PySem.W.WalkO q loose XP YP l.row.toRowW d [] (fun f vs=>PySem.call f vs):=by
 refine Att.attach_call hn hdf fun w s₀ s₁ mg mb fa o pm cd doc a vs ns G Y ho hd hcd hmg hobj hints hlen hg=>?_
 have KX:=hY w _ Y
 obtain⟨fd,hb,hF⟩:=F w mg fa _ KX G.T.g hmg
 exact Zcg KX G.T.g G.T.b G.T.builtins G.T.nolimit hg hobj hints (Nat.le_trans hlen hn2) hr hF hb (fun H hO hS=>hsp w H a ns hlen hO hS) fun H e s'=>hCX w H s₁ e s'
def Ub (s:Stmt):Arguments:=match s with
 |.FunctionDef _ a _ _ _ _ _ _ _ _=>a
 |_=>{posonlyargs:=[],args:=[],vararg:=none,kwonlyargs:=[],kw_defaults:=[],kwarg:=none,defaults:=[]}
def Xy (s:Stmt):List Stmt:=match s with
 |.FunctionDef _ _ b _ _ _ _ _ _ _=>b
 |_=>[]
def Zk (s:Stmt):Scope:=match s with
 |.FunctionDef _ _ _ _ _ _ sc _ _ _=>sc
 |_=>{kind:=.function,names:=[],isGenerator:=false,isCoroutine:=false}
abbrev Xj:Zfb:=fun _ _ _ _ _ _=>False
abbrev E0:XK:=fun _ _ _=>False
def Vv {X:Cx}:Nf Xj X E0:=fun _ _ _ _ _ _ _ h=>h.elim
structure Fun (K:PySem.W.Frag) (x qual:Str) (st:Stmt) (f:Addr) (fd:FuncData):Prop where
 ex:∃(oc:Value) (od:Option Addr) (kV doc pm:Value) (an:Option Addr) (cdv ct:Value) (osl:Array (Option Value)),
  fd=PySem.W.fnOf x qual (Ub st) (Xy st) (Zk st) .none kV doc pm an cdv ct/\K.lookup f=some ⟨oc,od,.func fd,osl⟩/\PySem.W.codeIn K cdv qual=true
 kp:PySem.W.keepIn K (.ref f)=true
section
variable {P:Program}{w:World}{K:PySem.W.Frag}{mg:Str->Option Value}{base:Heap}
def Fun.ok {x qual:Str}{st:Stmt}{f:Addr}{fd:FuncData}{N ps:List Str}{k:Nat}{sp:Sp}(F:Fun K x qual st f fd)(S:FnScope N ps (Zk st))(len:∀vs H Q E,sp vs H Q E->vs.length=ps.length)(hbody:∀(cdv:Value) (A:Around) (outer:List Env) (s:Shared) (H:Hp) (vs:List V) (Q:VK) (E:XK),Room k (A.deeper (envOfC qual (Zk st) s.heap.objs.size f cdv))->sp vs H Q E ->
   ∃t,PSs (Vd Xj P w K mg base N qual (Zk st) f cdv A outer s H E).nox (Xy st) t/\t {nx:=fun _ H'=>Q .non H',rt:=Q} (Jk N vs) H):FnOk P w K mg base Xj (k+1) f fd ps sp:=by
 obtain⟨oc,od,kV,doc,pm,an,cdv,ct,osl,rfl,lk,hcd⟩:=F.ex
 refine Zmk lk hcd S len fun A outer s H vs Q E hr hsp=>?_
 obtain⟨t,h,q⟩:=hbody cdv A outer s H vs Q E hr hsp
 exact⟨t,h.nox,q⟩
def Fun.binds {x qual:Str}{st:Stmt}{f:Addr}{fd:FuncData}{ps:List Str}(F:Fun K x qual st f fd)(h:∀(kV doc pm:Value) (an:Option Addr) (cdv ct:Value) (us:List Value),us.length=ps.length->bindArgs (PySem.W.fnOf x qual (Ub st) (Xy st) (Zk st) .none kV doc pm an cdv ct) ⟨us,[]⟩=pure (ps.zip us)):Binds K fd ps []:=by
 obtain⟨oc,od,kV,doc,pm,an,cdv,ct,osl,rfl,lk,hcd⟩:=F.ex
 exact .all (h kV doc pm an cdv ct)
def Zch {x qual:Str}{st:Stmt}{f:Addr}{oc:Value}{od an:Option Addr}{osl:Array (Option Value)}{kV doc pm cdv ct:Value}(l:K.lookup f=some ⟨oc,od,.func (PySem.W.fnOf x qual (Ub st) (Xy st) (Zk st) .none kV doc pm an cdv ct),osl⟩)(c:PySem.W.codeIn K cdv qual=true)(k:PySem.W.keepIn K (.ref f)=true):Fun K x qual st f (PySem.W.fnOf x qual (Ub st) (Xy st) (Zk st) .none kV doc pm an cdv ct):=⟨⟨oc,od,kV,doc,pm,an,cdv,ct,osl,rfl,l,c⟩,k⟩
end
def Same (H H':Hp):Prop:=∀b o,H b=some o->H' b=some o
def Same.refl (H:Hp):Same H H:=fun _ _ h=>h
def Same.trans {H H1 H2:Hp}(a:Same H H1)(b:Same H1 H2):Same H H2:=fun c o h=>b c o (a c o h)
def Same.free {H H':Hp}(e:Same H H'){l:Addr}(h:H' l=Option.none):H l=Option.none:=by
 cases q:H l with
 |none=>rfl
 |some o=>
  rw[e l o q] at h
  cases h
def Same.seq {K:PySem.W.Frag}{H H':Hp}{a:Addr}{xs:List V}(e:Same H H')(h:SqL K H a xs):SqL K H' a xs:=by
 rcases h with(h|⟨o,h⟩)|h
 ·exact .inl (.inl (e _ _ h))
 ·exact .inl (.inr ⟨o,e _ _ h⟩)
 ·exact .inr h
end L2
namespace DL
open PySem PySem.Spec PyProof.Rows L2
inductive D where
 |non|bl (b:Bool)|int (i:Int)|str (x:Str)|tup (ds:List D)|lst (ds:List D)
structure XV where
 cls:Str
 ns:List Str
 ds:List D
inductive M (α:Type) where
 |ok (a:α)|ex (x:XV)|bad
def M.bind {α β:Type}(r:M α)(k:α->M β):M β:=match r with
 |.ok a=>k a
 |.ex x=>.ex x
 |.bad=>.bad
@[simp] theorem M.bind_ok {α β:Type}(a:α)(k:α->M β):(M.ok a).bind k=k a:=rfl
@[simp] theorem M.bind_ex {α β:Type}(x:XV)(k:α->M β):(M.ex x:M α).bind k=.ex x:=rfl
@[simp] theorem M.bind_bad {α β:Type}(k:α->M β):(M.bad:M α).bind k=.bad:=rfl
inductive S where
 |im (d:D)|ow (ds:List D)|od (kvs:List (List Y3×D))|dk (kvs:List (Y3×D))|xc (x:XV)|fn (x:Str)|ob (a:Addr) (c:Str) (r:List (Str×D))|fl (a:Addr) (hall:D) (sqs:List (List Y3×D))
def S.own:S->Bool
 |.im _=>false
 |.xc _=>false
 |.fn _=>false
 |.ob _ _ _=>false
 |.fl _ _ _=>false
 |_=>true
abbrev Zl:=List (Option S)
section
variable (K:PySem.W.Frag) (H:Hp)
mutual
def Rep:D->V->Prop
 |.non,v=>v=.non
 |.bl b,v=>v=.bl b
 |.int i,v=>v=.int i
 |.str x,v=>v=.str x
 |.tup ds,v=>∃a xs,v=.ref a/\H a=some (.tup xs)/\Reps ds xs
 |.lst ds,v=>∃a xs,v=.ref a/\SqL K H a xs/\Reps ds xs
def Reps:List D->List V->Prop
 |[],xs=>xs=[]
 |d::ds,xs=>∃x r,xs=x::r/\Rep d x/\Reps ds r
end
end
def RepKV (K:PySem.W.Frag)(H:Hp){κ:Type}:List (κ×D)->List (κ×V)->Prop:=Paired fun p q=>p.1=q.1/\Rep K H p.2 q.2
def S.at (K:PySem.W.Frag)(Hf H:Hp)(p:Addr):S->Prop
 |.im _=>False
 |.xc _=>False
 |.fn _=>False
 |.ob _ _ _=>False
 |.fl _ _ _=>False
 |.ow ds=>∃xs,H p=some (.lst xs)/\Reps K Hf ds xs
 |.od kvs=>∃ys,H p=some (.dT ys)/\RepKV K Hf kvs ys
 |.dk kvs=>∃ys,H p=some (.dK ys)/\RepKV K Hf kvs ys
def _root_.L2.Same.seqT {K:PySem.W.Frag}{H H':Hp}{a:Addr}{xs:List V}(e:Same H H')(h:SqT K H a xs):SqT K H' a xs:=by
 rcases h with(h|⟨o,h⟩)|h
 ·exact .inl (.inl (e _ _ h))
 ·exact .inl (.inr ⟨o,e _ _ h⟩)
 ·exact .inr h
section
variable {K:PySem.W.Frag}{H H':Hp}
mutual
theorem Rep.mono (e:Same H H'):∀{d:D}{v:V},Rep K H d v->Rep K H' d v
 |.non,_,h=>by unfold Rep at h ⊢;exact h
 |.bl _,_,h=>by unfold Rep at h ⊢;exact h
 |.int _,_,h=>by unfold Rep at h ⊢;exact h
 |.str _,_,h=>by unfold Rep at h ⊢;exact h
 |.tup ds,_,h=>by
  unfold Rep at h ⊢
  obtain⟨a,xs,e1,e2,e3⟩:=h
  exact⟨a,xs,e1,e _ _ e2,Reps.mono e e3⟩
 |.lst ds,_,h=>by
  unfold Rep at h ⊢
  obtain⟨a,xs,e1,e2,e3⟩:=h
  exact⟨a,xs,e1,e.seq e2,Reps.mono e e3⟩
theorem Reps.mono (e:Same H H'):∀{ds:List D}{xs:List V},Reps K H ds xs->Reps K H' ds xs
 |[],_,h=>by unfold Reps at h ⊢;exact h
 |d::ds,_,h=>by
  unfold Reps at h ⊢
  obtain⟨x,r,e1,e2,e3⟩:=h
  exact⟨x,r,e1,Rep.mono e e2,Reps.mono e e3⟩
end
def rep_non {v:V}:Rep K H .non v↔v=.non:=by unfold Rep;exact Iff.rfl
def rep_bl {b:Bool}{v:V}:Rep K H (.bl b) v↔v=.bl b:=by unfold Rep;exact Iff.rfl
def rep_int {i:Int}{v:V}:Rep K H (.int i) v↔v=.int i:=by unfold Rep;exact Iff.rfl
def rep_str {x:Str}{v:V}:Rep K H (.str x) v↔v=.str x:=by unfold Rep;exact Iff.rfl
def rep_tup {ds:List D}{v:V}:Rep K H (.tup ds) v↔∃a xs,v=.ref a/\H a=some (.tup xs)/\Reps K H ds xs:=by rw[Rep]
def Qu {ds:List D}{v:V}(h:Rep K H (.tup ds) v):∃a xs,v=.ref a/\SqT K H a xs/\Reps K H ds xs:=by
 obtain⟨a,xs,e1,e2,e3⟩:=rep_tup.mp h
 exact⟨a,xs,e1,SqT.of e2,e3⟩
def rep_lst {ds:List D}{v:V}:Rep K H (.lst ds) v↔∃a xs,v=.ref a/\SqL K H a xs/\Reps K H ds xs:=by rw[Rep]
def reps_nil {xs:List V}:Reps K H [] xs↔xs=[]:=by rw[Reps]
def reps_cons {d:D}{ds:List D}{xs:List V}:Reps K H (d::ds) xs↔∃x r,xs=x::r/\Rep K H d x/\Reps K H ds r:=by rw[Reps]
def Reps.nil:Reps K H [] []:=reps_nil.mpr rfl
def Reps.cons {d:D}{ds:List D}{x:V}{xs:List V}(h:Rep K H d x)(t:Reps K H ds xs):Reps K H (d::ds) (x::xs):=reps_cons.mpr ⟨x,xs,rfl,h,t⟩
theorem Reps.length:∀{ds:List D}{xs:List V},Reps K H ds xs->ds.length=xs.length
 |[],_,h=>by rw[reps_nil.mp h];rfl
 |d::ds,_,h=>by
  obtain⟨x,r,rfl,_,t⟩:=reps_cons.mp h
  rw[List.length_cons,List.length_cons,Reps.length t]
theorem Reps.get:∀{ds:List D}{xs:List V}{i:Nat}{d:D},Reps K H ds xs->ds[i]?=some d->∃x,xs[i]?=some x/\Rep K H d x
 |[],_,_,_,_,e=>by simp at e
 |_::ds,_,0,_,h,e=>by
  obtain⟨x,r,rfl,q,t⟩:=reps_cons.mp h
  simp at e;subst e;exact⟨x,rfl,q⟩
 |_::ds,_,i+1,_,h,e=>by
  obtain⟨x,r,rfl,q,t⟩:=reps_cons.mp h
  obtain⟨y,e1,e2⟩:=Reps.get (i:=i) t (by simpa using e)
  exact⟨y,by simpa using e1,e2⟩
theorem Reps.append:∀{ds es:List D}{xs ys:List V},Reps K H ds xs->Reps K H es ys->Reps K H (ds++es) (xs++ys)
 |[],_,_,_,h,t=>by rw[reps_nil.mp h];exact t
 |_::ds,_,_,_,h,t=>by
  obtain⟨x,r,rfl,q,u⟩:=reps_cons.mp h
  exact .cons q (Reps.append u t)
theorem Reps.take:∀{ds:List D}{xs:List V} (n:Nat),Reps K H ds xs->Reps K H (ds.take n) (xs.take n)
 |_,_,0,_=>by simpa using Reps.nil
 |[],_,n+1,h=>by rw[reps_nil.mp h];simpa using Reps.nil
 |_::ds,_,n+1,h=>by
  obtain⟨x,r,rfl,q,u⟩:=reps_cons.mp h
  exact .cons q (Reps.take n u)
theorem Reps.drop:∀{ds:List D}{xs:List V} (n:Nat),Reps K H ds xs->Reps K H (ds.drop n) (xs.drop n)
 |_,_,0,h=>by simpa using h
 |[],_,n+1,h=>by rw[reps_nil.mp h];simpa using Reps.nil
 |_::ds,_,n+1,h=>by
  obtain⟨x,r,rfl,q,u⟩:=reps_cons.mp h
  exact Reps.drop n u
def Reps.none_of {ds:List D}{xs:List V}{i:Nat}(h:Reps K H ds xs)(e:ds[i]?=none):xs[i]?=none:=by
 have:=h.length
 rw[List.getElem?_eq_none_iff] at e ⊢
 lia
end
theorem RepKV.mono {K:PySem.W.Frag}{H H':Hp}(e:Same H H'){κ:Type}{a:List (κ×D)}{b:List (κ×V)}(r:RepKV K H a b):RepKV K H' a b:=Paired.mapP r fun _ _ q=>⟨q.1,q.2.mono e⟩
def F8 {K:PySem.W.Frag}{Hf H:Hp}{p:Addr}{s:S}(h:S.at K Hf H p s):∃o,H p=some o:=by
 cases s with
 |im d=>exact h.elim
 |xc x=>exact h.elim
 |fn x=>exact h.elim
 |ob a c r=>exact h.elim
 |fl a g q=>exact h.elim
 |ow ds=>obtain⟨xs,e,_⟩:=h;exact⟨_,e⟩
 |od kvs=>obtain⟨ys,e,_⟩:=h;exact⟨_,e⟩
 |dk kvs=>obtain⟨ys,e,_⟩:=h;exact⟨_,e⟩
def Gj {K:PySem.W.Frag}{Hf Hf' H H':Hp}{p:Addr}{s:S}(h:S.at K Hf H p s)(e:Same Hf Hf')(q:∀o,H p=some o->H' p=some o):S.at K Hf' H' p s:=by
 cases s with
 |im d=>exact h.elim
 |xc x=>exact h.elim
 |fn x=>exact h.elim
 |ob a c r=>exact h.elim
 |fl a g q=>exact h.elim
 |ow ds=>obtain⟨xs,e1,e2⟩:=h;exact⟨xs,q _ e1,e2.mono e⟩
 |od kvs=>obtain⟨ys,e1,e2⟩:=h;exact⟨ys,q _ e1,e2.mono e⟩
 |dk kvs=>obtain⟨ys,e1,e2⟩:=h;exact⟨ys,q _ e1,e2.mono e⟩
def XO (a:Addr)(C:Addr)(dx:Option Addr):HO:=.ext fun h=>∃oe vs,h.get? a=some oe/\oe.cls=.ref C/\oe.dict=dx/\oe.data=.fields vs
def XF (Hf:Hp)(ns:List Str)(xs:List V):Option Addr->Prop
 |none=>ns=[]/\xs=[]
 |some dx=>Hf dx=some (.xd (ns.zip xs))/\ns.length=xs.length
def XF.mono {H H':Hp}(e:Same H H'){ns:List Str}{xs:List V}:∀{dx:Option Addr},XF H ns xs dx->XF H' ns xs dx
 |none,h=>h
 |some _,h=>⟨e _ _ h.1,h.2⟩
def RepE (K:PySem.W.Frag)(Hf:Hp)(x:XV)(v:V):Prop:=
 ∃a C dx xs,v=.ref a/\Hf a=some (XO a C dx)/\PySem.W.nsIn K mainGlobals x.cls=some (some (.ref C))/\XF Hf x.ns xs dx/\Reps K Hf x.ds xs
theorem RepE.mono {K:PySem.W.Frag}{H H':Hp}(e:Same H H'){x:XV}{v:V}(h:RepE K H x v):RepE K H' x v:=by
 obtain⟨a,C,dx,xs,e1,e2,e3,e4,e5⟩:=h
 exact⟨a,C,dx,xs,e1,e _ _ e2,e3,e4.mono e,e5.mono e⟩
def RepO (K:PySem.W.Frag)(Hf:Hp)(a:Addr)(c:Str)(r:List (Str×D))(v:V):Prop:=∃C dx gs,v=.ref a/\PySem.W.nsIn K mainGlobals c=some (some (.ref C))/\Hf a=some (.ins C dx gs)/\RepKV K Hf r gs
theorem RepO.mono {K:PySem.W.Frag}{H H':Hp}(e:Same H H'){a:Addr}{c:Str}{r:List (Str×D)}{v:V}(h:RepO K H a c r v):RepO K H' a c r v:=by
 obtain⟨C,dx,gs,e1,e2,e3,e4⟩:=h
 exact⟨C,dx,gs,e1,e2,e _ _ e3,e4.mono e⟩
structure FlG (K:PySem.W.Frag) (Hf:Hp) (g:D) (d q:Addr) (gs:List (Str×V)):Prop where
 hall:∃v,gs.lookup ("hall":Str)=some v/\Rep K Hf g v
 sq:gs.lookup ("by_square":Str)=some (.ref d)
 kn:gs.lookup ("known_faces":Str)=some (.ref q)
 m1:gs.lookup ("people_at":Str)=none
 m2:gs.lookup ("faces_at":Str)=none
theorem FlG.mono {K:PySem.W.Frag}{H H':Hp}(e:Same H H'){g:D}{d q:Addr}{gs:List (Str×V)}(h:FlG K H g d q gs):FlG K H' g d q gs:=⟨let ⟨v,e1,e2⟩:=h.hall;⟨v,e1,e2.mono e⟩,h.sq,h.kn,h.m1,h.m2⟩
def RepFl (K:PySem.W.Frag)(Hf:Hp)(a:Addr)(g:D)(q:List (List Y3×D))(v:V):Prop:=∃C dx gs d k ys,v=.ref a/\PySem.W.nsIn K mainGlobals "Floor"=some (some (.ref C))/\Hf a=some (.ins C dx gs)/\FlG K Hf g d k gs/\Hf d=some (.dT ys)/\RepKV K Hf q ys
theorem RepFl.mono {K:PySem.W.Frag}{H H':Hp}(e:Same H H'){a:Addr}{g:D}{q:List (List Y3×D)}{v:V}(h:RepFl K H a g q v):RepFl K H' a g q v:=by
 obtain⟨C,dx,gs,d,k,ys,e1,e2,e3,e4,e5,e6⟩:=h
 exact⟨C,dx,gs,d,k,ys,e1,e2,e _ _ e3,e4.mono e,e _ _ e5,e6.mono e⟩
def RepS (K:PySem.W.Frag)(Hf:Hp):S->V->Prop
 |.im d,v=>Rep K Hf d v
 |.xc x,v=>RepE K Hf x v
 |.fn x,v=>∃a,v=.ref a/\PySem.W.nsIn K mainGlobals x=some (some (.ref a))
 |.ob a c r,v=>RepO K Hf a c r v
 |.fl a g q,v=>RepFl K Hf a g q v
 |_,_=>True
theorem RepS.mono {K:PySem.W.Frag}{H H':Hp}(e:Same H H'){t:S}{v:V}(h:RepS K H t v):RepS K H' t v:=by
 cases t with
 |im d=>exact Rep.mono e h
 |xc x=>exact RepE.mono e h
 |fn x=>exact h
 |ob a c r=>exact RepO.mono e h
 |fl a g q=>exact RepFl.mono e h
 |_=>trivial
def Lv (H:Hp)(a:Addr):Prop:=∃o,H a=some o/\∀xs,o≠.tup xs
def Lv.nn {H:Hp}{a:Addr}(h:Lv H a):H a≠none:=by
 obtain⟨o,e,_⟩:=h
 rw[e];simp
theorem Lv.lst {H:Hp}{a:Addr}{xs:List V}(e:H a=some (.lst xs)):Lv H a:=⟨_,e,fun _ q=>by cases q⟩
def _root_.L2.Same.lv {H H':Hp}(e:Same H H'){a:Addr}(h:Lv H a):Lv H' a:=let ⟨o,q,n⟩:=h;⟨o,e a o q,n⟩
def Zh3 {K:PySem.W.Frag}{Hf H:Hp}{p:Addr}{s:S}(h:S.at K Hf H p s):Lv H p:=by
 cases s with
 |im d=>exact h.elim
 |xc x=>exact h.elim
 |fn x=>exact h.elim
 |ob a c r=>exact h.elim
 |fl a g q=>exact h.elim
 |ow ds=>obtain⟨xs,e,_⟩:=h;exact⟨_,e,fun _ q=>by cases q⟩
 |od kvs=>obtain⟨xs,e,_⟩:=h;exact⟨_,e,fun _ q=>by cases q⟩
 |dk kvs=>obtain⟨xs,e,_⟩:=h;exact⟨_,e,fun _ q=>by cases q⟩
structure Gr (Hf H Hf' H':Hp):Prop where
 fz:Same Hf Hf'
 sub:Same Hf' H'
 all:Same H H'
 ban:∀a,Lv H a->Hf a=none->Hf' a=none
theorem Gr.refl {Hf H:Hp}(h:Same Hf H):Gr Hf H Hf H:=⟨Same.refl _,h,Same.refl _,fun _ _ e=>e⟩
theorem Gr.trans {Hf H Hf1 H1 Hf2 H2:Hp}(a:Gr Hf H Hf1 H1)(b:Gr Hf1 H1 Hf2 H2):Gr Hf H Hf2 H2:=
 ⟨a.fz.trans b.fz,b.sub,a.all.trans b.all,fun c h e=>b.ban c (a.all.lv h) (a.ban c h e)⟩
def Qw {H:Hp}{p:Addr}(h:H p=none)(o:HO):Same H (upd H p o):=fun b u q=>by rw[Zp (Z9 q h)];exact q
theorem _root_.L2.Same.upd {Hf H:Hp}(e:Same Hf H)(p:Addr)(o:HO):Same (L2.upd Hf p o) (L2.upd H p o):=fun b u q=>by
 by_cases hb:b=p
 ·subst hb;rw[Z2] at q ⊢;exact q
 ·rw[Zp hb] at q ⊢;exact e b u q
def Gr.alloc {Hf H:Hp}(e:Same Hf H){p:Addr}(h:H p=none)(o:HO):Gr Hf H (upd Hf p o) (upd H p o):=
 ⟨Qw (e.free h) o,Same.upd e p o,Qw h o,fun a ha ea=>by
  have:a≠p:=fun z=>ha.nn (z▸h)
  rw[Zp this];exact ea⟩
structure SR (K:PySem.W.Frag) (H0:Hp) (B:Addr->Prop) (Hf:Hp) (sd:Zl) (σ:L2.St) (H:Hp):Prop where
 sub:Same Hf H
 all:Same H0 H
 ban:∀a,B a->Hf a=none
 bt:∀a,B a->Lv H0 a
 len:sd.length=σ.length
 imS:∀(i:Nat) (t:S),sd[i]?=some (some t)->t.own=false->∃v,σ[i]?=some (some v)/\RepS K Hf t v
 ow:∀(i:Nat) (t:S),sd[i]?=some (some t)->t.own=true->∃p,σ[i]?=some (some (.ref p))/\H0 p=none/\Hf p=none/\S.at K Hf H p t
 sep:∀(i j:Nat) (t u:S) (p:Addr),i≠j->sd[i]?=some (some t)->t.own=true->sd[j]?=some (some u)->u.own=true->σ[i]?=some (some (.ref p))->σ[j]?=some (some (.ref p))->False
section
variable {K:PySem.W.Frag}{H0 Hf Hf' H H':Hp}{B:Addr->Prop}{sd:Zl}{σ:L2.St}
theorem SR.im (r:SR K H0 B Hf sd σ H):∀(i:Nat) (d:D),sd[i]?=some (some (.im d))->∃v,σ[i]?=some (some v)/\Rep K Hf d v:=fun i _ e=>r.imS i _ e rfl
def SR.gr (r:SR K H0 B Hf sd σ H)(g:Gr Hf H Hf' H'):SR K H0 B Hf' sd σ H' where
 sub:=g.sub
 all:=r.all.trans g.all
 ban:=fun a h=>g.ban a (r.all.lv (r.bt a h)) (r.ban a h)
 bt:=r.bt
 len:=r.len
 imS:=fun i d e z=>let ⟨v,e1,e2⟩:=r.imS i d e z;⟨v,e1,e2.mono g.fz⟩
 ow:=fun i t e ho=>by
  obtain⟨p,e1,e2,e3,e4⟩:=r.ow i t e ho
  obtain⟨o,eo⟩:=F8 e4
  exact⟨p,e1,e2,g.ban p (Zh3 e4) e3,Gj e4 g.fz fun o h=>g.all _ _ h⟩
 sep:=r.sep
def SR.set_st (r:SR K H0 B Hf sd σ H)(i:Nat){d:S}{v:V}(hd:d.own=false)(h:RepS K Hf d v):SR K H0 B Hf (sd.set i (some d)) (σ.set i (some v)) H where
 sub:=r.sub
 all:=r.all
 ban:=r.ban
 bt:=r.bt
 len:=by rw[List.length_set,List.length_set];exact r.len
 imS:=fun j d' e z=>by
  by_cases hj:i=j
  ·subst hj
   have hi:i<sd.length:=by
    have:=(List.getElem?_eq_some_iff.mp e).1;simpa using this
   rw[List.getElem?_set_self hi] at e
   cases e
   exact⟨v,by rw[List.getElem?_set_self (by rw[<-r.len];exact hi)],h⟩
  ·rw[List.getElem?_set_ne hj] at e ⊢
   exact r.imS j d' e z
 ow:=fun j t e ho=>by
  by_cases hj:i=j
  ·subst hj
   have hi:i<sd.length:=by
    have:=(List.getElem?_eq_some_iff.mp e).1;simpa using this
   rw[List.getElem?_set_self hi] at e
   cases e
   rw[hd] at ho;cases ho
  ·rw[List.getElem?_set_ne hj] at e ⊢
   exact r.ow j t e ho
 sep:=fun j k t u p hjk e1 o1 e2 o2 e3 e4=>by
  have ne:∀{l:Nat}{fs:S},(sd.set i (some d))[l]?=some (some fs)->fs.own=true->i≠l:=fun {l fs} e o z=>by
   subst z
   have hi:i<sd.length:=by
    have:=(List.getElem?_eq_some_iff.mp e).1;simpa using this
   rw[List.getElem?_set_self hi] at e
   cases e
   rw[hd] at o;cases o
  have n1:=ne e1 o1
  have n2:=ne e2 o2
  rw[List.getElem?_set_ne n1] at e1 e3
  rw[List.getElem?_set_ne n2] at e2 e4
  exact r.sep j k t u p hjk e1 o1 e2 o2 e3 e4
def SR.set_im (r:SR K H0 B Hf sd σ H)(i:Nat){d:D}{v:V}(h:Rep K Hf d v):SR K H0 B Hf (sd.set i (some (.im d))) (σ.set i (some v)) H:=r.set_st (d:=.im d) i rfl h
def SR.change (r:SR K H0 B Hf sd σ H){i:Nat}{p:Addr}{o:HO}{t u:S}(ht:sd[i]?=some (some t))(ot:t.own=true)(hi:σ[i]?=some (some (.ref p)))(ou:u.own=true)(h:S.at K Hf (upd H p o) p u):SR K H0 B Hf (sd.set i (some u)) σ (upd H p o):=by
 obtain⟨p',z1,z2,z3,z4⟩:=r.ow i t ht ot
 rw[hi] at z1
 cases z1
 have hl:i<sd.length:=(List.getElem?_eq_some_iff.mp ht).1
 have back:∀{j:Nat}{w:S},i≠j->(sd.set i (some u))[j]?=some (some w)->sd[j]?=some (some w):=fun {j w} n e=>by rwa[List.getElem?_set_ne n] at e
 refine⟨fun b v q=>?_,fun b v q=>?_,r.ban,r.bt,by rw[List.length_set];exact r.len,fun j d e z=>?_,fun j w e ow=>?_,fun j k w x q hjk e1 o1 e2 o2 e3 e4=>?_⟩
 ·rw[Zp (Z9 q z3)];exact r.sub b v q
 ·rw[Zp (Z9 q z2)];exact r.all b v q
 ·by_cases n:i=j
  ·subst n
   rw[List.getElem?_set_self hl] at e
   cases e
   rw[ou] at z;cases z
  ·exact r.imS j d (back n e) z
 ·by_cases n:i=j
  ·subst n
   rw[List.getElem?_set_self hl] at e
   cases e
   exact⟨p,hi,z2,z3,h⟩
  ·obtain⟨q,e1,e2,e3,e4⟩:=r.ow j w (back n e) ow
   refine⟨q,e1,e2,e3,Gj e4 (Same.refl _) fun o' h'=>?_⟩
   have:q≠p:=fun z=>by
    subst z
    exact r.sep i j t w q n ht ot (back n e) ow hi e1
   rw[Zp this];exact h'
 ·have get:∀{l:Nat}{w:S},(sd.set i (some u))[l]?=some (some w)->w.own=true->∃w',sd[l]?=some (some w')/\w'.own=true:=fun {l w} e ow=>by
   by_cases n:i=l
   ·subst n;exact⟨t,ht,ot⟩
   ·exact⟨w,back n e,ow⟩
  obtain⟨w',a1,a2⟩:=get e1 o1
  obtain⟨x',b1,b2⟩:=get e2 o2
  exact r.sep j k w' x' q hjk a1 a2 b1 b2 e3 e4
def SR.freeze (r:SR K H0 B Hf sd σ H){i:Nat}{ds:List D}(ht:sd[i]?=some (some (.ow ds))):∃Hf',Same Hf Hf'/\SR K H0 B Hf' (sd.set i (some (.im (.lst ds)))) σ H:=by
 obtain⟨p,z1,z2,z3,xs,z4,z5⟩:=r.ow i _ ht rfl
 have hl:i<sd.length:=(List.getElem?_eq_some_iff.mp ht).1
 have back:∀{j:Nat}{w:S},i≠j->(sd.set i (some (S.im (.lst ds))))[j]?=some (some w)->sd[j]?=some (some w):=fun {j w} n e=>by rwa[List.getElem?_set_ne n] at e
 have sm:=Qw z3 (.lst xs)
 refine⟨upd Hf p (.lst xs),sm,fun b v q=>?_,r.all,fun a h=>?_,r.bt,by rw[List.length_set];exact r.len,fun j d e z=>?_,fun j w e ow=>?_,fun j k w x q hjk e1 o1 e2 o2 e3 e4=>?_⟩
 ·by_cases hb:b=p
  ·subst hb;rw[Z2] at q;rw[z4];exact q
  ·rw[Zp hb] at q;exact r.sub b v q
 ·have:a≠p:=fun z=>(r.bt a h).nn (z▸z2)
  rw[Zp this];exact r.ban a h
 ·by_cases n:i=j
  ·subst n
   rw[List.getElem?_set_self hl] at e
   cases e
   exact⟨_,z1,(rep_lst.mpr ⟨p,xs,rfl,SqL.of Z2,z5.mono sm⟩:Rep K _ (.lst ds) _)⟩
  ·obtain⟨v,e1,e2⟩:=r.imS j d (back n e) z
   exact⟨v,e1,e2.mono sm⟩
 ·by_cases n:i=j
  ·subst n
   rw[List.getElem?_set_self hl] at e
   cases e
   cases ow
  ·obtain⟨q,e1,e2,e3,e4⟩:=r.ow j w (back n e) ow
   refine⟨q,e1,e2,?_,Gj e4 sm fun o' h'=>h'⟩
   have:q≠p:=fun z=>by
    subst z
    exact r.sep i j _ w q n ht rfl (back n e) ow z1 e1
   rw[Zp this];exact e3
 ·have ne:∀{l:Nat}{w:S},(sd.set i (some (S.im (.lst ds))))[l]?=some (some w)->w.own=true->i≠l:=fun {l w} e o z=>by
   subst z
   rw[List.getElem?_set_self hl] at e
   cases e
   cases o
  exact r.sep j k w x q hjk (back (ne e1 o1) e1) o1 (back (ne e2 o2) e2) o2 e3 e4
end
def Zjt (K:PySem.W.Frag)(Hf _H:Hp)(x:XV)(c:Value)(dx:Option Addr):Prop:=
 ∃C xs,c=.ref C/\PySem.W.nsIn K mainGlobals x.cls=some (some (.ref C))/\XF Hf x.ns xs dx/\Reps K Hf x.ds xs
def Po (K:PySem.W.Frag)(E:XK){α β:Type}(R:Hp->Hp->α->β->Prop)(Hf H:Hp)(r:M α)(Q:β->Hp->Prop):Prop:=match r with
 |.ok a=>∀b Hf' H',Gr Hf H Hf' H'->R Hf' H' a b->Q b H'
 |.ex x=>∀c dx Hf' H',Gr Hf H Hf' H'->Zjt K Hf' H' x c dx->E c dx H'
 |.bad=>False
def rV (K:PySem.W.Frag)(Hf _H:Hp)(d:D)(v:V):Prop:=Rep K Hf d v
def rA (K:PySem.W.Frag)(Hf _H:Hp)(ds:List D)(vs:List V):Prop:=Reps K Hf ds vs
def rQ {α:Type}(_Hf _H:Hp)(a b:α):Prop:=a=b
section
variable {K:PySem.W.Frag}{E:XK}{α β γ δ:Type}{R:Hp->Hp->α->β->Prop}{T:Hp->Hp->γ->δ->Prop}{Hf H Hf1 H1:Hp}
def Po.weak {r:M α}{Q:β->Hp->Prop}(g:Gr Hf H Hf1 H1)(h:Po K E R Hf H r Q):Po K E R Hf1 H1 r Q:=by
 cases r with
 |ok a=>exact fun b Hf' H' g' q=>h b Hf' H' (g.trans g') q
 |ex x=>exact fun c dx Hf' H' g' q=>h c dx Hf' H' (g.trans g') q
 |bad=>exact h
theorem Po.bind {r:M α}{k:α->M γ}{Q:δ->Hp->Prop}{Q1:β->Hp->Prop}(h:Po K E T Hf H (r.bind k) Q)(s:∀a b Hf1 H1,r=.ok a->Gr Hf H Hf1 H1->R Hf1 H1 a b->Po K E T Hf1 H1 (k a) Q->Q1 b H1):Po K E R Hf H r Q1:=by
 cases r with
 |ok a=>exact fun b Hf' H' g q=>s a b Hf' H' rfl g q (Po.weak g h)
 |ex x=>exact h
 |bad=>exact h
def Po.ret {a:α}{b:β}{Q:β->Hp->Prop}(e:Same Hf H)(h:Po K E R Hf H (.ok a) Q)(q:R Hf H a b):Q b H:=h b Hf H (Gr.refl e) q
end
def X4 (X:Cx)(E:XK)(e:Expr)(f:Zl->M D):Prop:=
 ∃t:TE,PE X e t/\∀(H0:Hp) (B:Addr->Prop) (Hf:Hp) (sd:Zl) (σ:L2.St) (H:Hp) (Q:VK),SR X.K H0 B Hf sd σ H->Po X.K E (rV X.K) Hf H (f sd) Q->t σ H Q
def Aw (X:Cx)(E:XK)(es:List Expr)(f:Zl->M (List D)):Prop:=
 ∃t:TA,PA X es t/\∀(H0:Hp) (B:Addr->Prop) (Hf:Hp) (sd:Zl) (σ:L2.St) (H:Hp) (Q:List V->Hp->Prop),SR X.K H0 B Hf sd σ H->Po X.K E (rA X.K) Hf H (f sd) Q->t σ H Q
def Ca (X:Cx)(E:XK)(e:Expr)(f:Zl->M Bool):Prop:=
 ∃t:TT,PT X e t/\∀(H0:Hp) (B:Addr->Prop) (Hf:Hp) (sd:Zl) (σ:L2.St) (H:Hp) (Q:Bool->Hp->Prop),SR X.K H0 B Hf sd σ H->Po X.K E rQ Hf H (f sd) Q->t σ H Q
def PWd (X:Cx)(E:XK)(e:Expr)(f:Zl->M Bool):Prop:=
 ∃t:TT,PW X e t/\∀(H0:Hp) (B:Addr->Prop) (Hf:Hp) (sd:Zl) (σ:L2.St) (H:Hp) (Q:Bool->Hp->Prop),SR X.K H0 B Hf sd σ H->Po X.K E rQ Hf H (f sd) Q->t σ H Q
def Zn3 (X:Cx)(E:XK)(e:Option Expr)(f:Zl->M (Option Int)):Prop:=
 ∃t:TO,PO X e t/\∀(H0:Hp) (B:Addr->Prop) (Hf:Hp) (sd:Zl) (σ:L2.St) (H:Hp) (Q:Option Int->Hp->Prop),SR X.K H0 B Hf sd σ H->Po X.K E rQ Hf H (f sd) Q->t σ H Q
inductive O where
 |nx (sd:Zl)|rt (s:S)|bk (sd:Zl)|ct (sd:Zl)
structure Fin' (H0:Hp) (B:Addr->Prop) (Hf H:Hp):Prop where
 sub:Same Hf H
 all:Same H0 H
 ban:∀a,B a->Hf a=none
def RS (K:PySem.W.Frag)(H0 Hf H:Hp):S->V->Prop
 |.im d,v=>Rep K Hf d v
 |.xc x,v=>RepE K Hf x v
 |t,v=>∃p,v=.ref p/\H0 p=none/\Hf p=none/\S.at K Hf H p t
def PoS (K:PySem.W.Frag)(E:XK)(H0:Hp)(B:Addr->Prop)(Hf:Hp)(r:M O)(D:Ends):Prop:=match r with
 |.ok (.nx sd')=>∀σ' Hf' H',Same Hf Hf'->SR K H0 B Hf' sd' σ' H'->D.nx σ' H'
 |.ok (.bk sd')=>∀σ' Hf' H',Same Hf Hf'->SR K H0 B Hf' sd' σ' H'->D.bk σ' H'
 |.ok (.ct sd')=>∀σ' Hf' H',Same Hf Hf'->SR K H0 B Hf' sd' σ' H'->D.ct σ' H'
 |.ok (.rt s)=>∀v Hf' H',Same Hf Hf'->Fin' H0 B Hf' H'->RS K H0 Hf' H' s v->D.rt v H'
 |.ex x=>∀c dx Hf' H',Same Hf Hf'->Fin' H0 B Hf' H'->Zjt K Hf' H' x c dx->E c dx H'
 |.bad=>False
def SR.fin {K:PySem.W.Frag}{H0 Hf H:Hp}{B:Addr->Prop}{sd:Zl}{σ:L2.St}(r:SR K H0 B Hf sd σ H):Fin' H0 B Hf H:=⟨r.sub,r.all,r.ban⟩
def Ss (X:Cx)(E:XK)(st:Stmt)(f:Zl->M O):Prop:=
 ∃t:TS,PS X st t/\∀(H0:Hp) (B:Addr->Prop) (Hf:Hp) (sd:Zl) (σ:L2.St) (H:Hp) (D:Ends),SR X.K H0 B Hf sd σ H->PoS X.K E H0 B Hf (f sd) D->t D σ H
def Ps (X:Cx)(E:XK)(st:List Stmt)(f:Zl->M O):Prop:=
 ∃t:TS,PSs X st t/\∀(H0:Hp) (B:Addr->Prop) (Hf:Hp) (sd:Zl) (σ:L2.St) (H:Hp) (D:Ends),SR X.K H0 B Hf sd σ H->PoS X.K E H0 B Hf (f sd) D->t D σ H
def PoS.weak {K:PySem.W.Frag}{E:XK}{H0 Hf Hf1:Hp}{B:Addr->Prop}{r:M O}{D:Ends}(g:Same Hf Hf1)(h:PoS K E H0 B Hf r D):PoS K E H0 B Hf1 r D:=by
 cases r with
 |ok o=>
  cases o with
  |nx sd=>exact fun σ' Hf' H' e q=>h σ' Hf' H' (g.trans e) q
  |bk sd=>exact fun σ' Hf' H' e q=>h σ' Hf' H' (g.trans e) q
  |ct sd=>exact fun σ' Hf' H' e q=>h σ' Hf' H' (g.trans e) q
  |rt s=>exact fun v Hf' H' e q=>h v Hf' H' (g.trans e) q
 |ex x=>exact fun c dx Hf' H' e q=>h c dx Hf' H' (g.trans e) q
 |bad=>exact h
theorem PoS.bind {K:PySem.W.Frag}{E:XK}{H0 Hf H:Hp}{B:Addr->Prop}{sd:Zl}{σ:L2.St}{α β:Type}{R:Hp->Hp->α->β->Prop}{r:M α}{k:α->M O}{D:Ends}{Q1:β->Hp->Prop}(sr:SR K H0 B Hf sd σ H)(h:PoS K E H0 B Hf (r.bind k) D)(s:∀a b Hf1 H1,r=.ok a->Gr Hf H Hf1 H1->SR K H0 B Hf1 sd σ H1->R Hf1 H1 a b->PoS K E H0 B Hf1 (k a) D->Q1 b H1):Po K E R Hf H r Q1:=by
 cases r with
 |ok a=>exact fun b Hf' H' g q=>s a b Hf' H' rfl g (sr.gr g) q (PoS.weak g.fz h)
 |ex x=>exact fun c dx Hf' H' g q=>h c dx Hf' H' g.fz (sr.gr g).fin q
 |bad=>exact h
section
variable {X:Cx}{E:XK}{pos:Pos}{a b:Expr}
def Zd (i:Nat)(sd:Zl):M D:=match sd[i]? with
 |some (some (.im d))=>.ok d
 |_=>.bad
def Zc (i:Nat){x:Str}(hN:X.N[i]?=some x:=by rfl)(hv:Ld X.env.scope x:=by trivial) (hd:(x==("__debug__":Str))=false:=by decide)
  (hcd:(x==("__classdict__":Str))=false:=by decide):X4 X E (.Name x pos) (Zd i):=by
 refine⟨_,Qm hN hv hd hcd,fun H0 B Hf sd σ H Q sr h=>?_⟩
 unfold Zd at h
 split at h
 ·rename_i d e
  obtain⟨v,e1,e2⟩:=sr.im i d e
  exact⟨v,e1,Po.ret sr.sub h e2⟩
 ·exact h.elim
def eC (d:D)(_:Zl):M D:=.ok d
def Zi {i:Int}{j}:X4 X E (.Constant (.int i) j pos) (eC (.int i)):=⟨_,Ziw,fun _ _ _ _ _ _ _ sr h=>Po.ret sr.sub h (rep_int.mpr rfl)⟩
def Wi {i:Bool}{j}:X4 X E (.Constant (.bool i) j pos) (eC (.bl i)):=⟨_,Zl3,fun _ _ _ _ _ _ _ sr h=>Po.ret sr.sub h (rep_bl.mpr rfl)⟩
def Qr {j}:X4 X E (.Constant .none j pos) (eC .non):=⟨_,Zix,fun _ _ _ _ _ _ _ sr h=>Po.ret sr.sub h (rep_non.mpr rfl)⟩
def Ql {x}{j}:X4 X E (.Constant (.str x) j pos) (eC (.str x)):=⟨_,Ziy,fun _ _ _ _ _ _ _ sr h=>Po.ret sr.sub h (rep_str.mpr rfl)⟩
def Se (X:Cx)(E:XK)(f:Value->Value->Sem Value)(g:D->D->M D):Prop:=
 ∃r:R2,OpR X f r/\∀(Hf H:Hp) (x y:V) (dx dy:D) (Q:VK),Same Hf H->Rep X.K Hf dx x->Rep X.K Hf dy y->Po X.K E (rV X.K) Hf H (g dx dy) Q->r x y H Q
def Zn (g:D->D->M D)(fa fb:Zl->M D)(sd:Zl):M D:=(fa sd).bind fun x=>(fb sd).bind fun y=>g x y
def two {fa fb:Zl->M D}{g:D->D->M D}{ta tb:TE}{r:R2}{H0:Hp}{B:Addr->Prop}{Hf:Hp}{sd:Zl}{σ:L2.St}{H:Hp}{Q:VK}(ha:∀(H0:Hp) (B:Addr->Prop) (Hf:Hp) (sd:Zl) (σ:L2.St) (H:Hp) (Q:VK),SR X.K H0 B Hf sd σ H->Po X.K E (rV X.K) Hf H (fa sd) Q->ta σ H Q)(hb:∀(H0:Hp) (B:Addr->Prop) (Hf:Hp) (sd:Zl) (σ:L2.St) (H:Hp) (Q:VK),SR X.K H0 B Hf sd σ H->Po X.K E (rV X.K) Hf H (fb sd) Q->tb σ H Q)(hr:∀(Hf H:Hp) (x y:V) (dx dy:D) (Q:VK),Same Hf H->Rep X.K Hf dx x->Rep X.K Hf dy y->Po X.K E (rV X.K) Hf H (g dx dy) Q->r x y H Q)(sr:SR X.K H0 B Hf sd σ H)(h:Po X.K E (rV X.K) Hf H (Zn g fa fb sd) Q):Zlw r ta tb σ H Q:=by
 refine ha H0 B Hf sd σ H _ sr (Po.bind h fun dx x Hf1 H1 _ g1 rx h1=>?_)
 have sr1:=sr.gr g1
 refine hb H0 B Hf1 sd σ H1 _ sr1 (Po.bind h1 fun dy y Hf2 H2 _ g2 ry h2=>?_)
 exact hr Hf2 H2 x y dx dy Q g2.sub (Rep.mono g2.fz rx) ry h2
def Zs {op:Operator}{g:D->D->M D}{fa fb:Zl->M D}(ho:Se X E (binaryOp op) g)(ha:X4 X E a fa)(hb:X4 X E b fb):X4 X E (.BinOp a op b pos) (Zn g fa fb):=by
 obtain⟨r,hr,qr⟩:=ho
 obtain⟨ta,pa,qa⟩:=ha
 obtain⟨tb,pb,qb⟩:=hb
 exact⟨_,Zhx hr pa pb,fun H0 B Hf sd σ H Q sr h=>two qa qb qr sr h⟩
def Jn {op:CmpOp}{g:D->D->M D}{fa fb:Zl->M D}(ho:Se X E (compareOp op) g)(ha:X4 X E a fa)(hb:X4 X E b fb)(hm:behindInMarks op b=false):X4 X E (.Compare a [op] [b] pos) (Zn g fa fb):=by
 obtain⟨r,hr,qr⟩:=ho
 obtain⟨ta,pa,qa⟩:=ha
 obtain⟨tb,pb,qb⟩:=hb
 exact⟨_,Zfn hr pa pb hm,fun H0 B Hf sd σ H Q sr h=>two qa qb qr sr h⟩
def gI (c:Int->Int->Bool)(g:Int->Int->D):D->D->M D
 |.int i,.int j=>if c i j then .ok (g i j) else .bad
 |_,_=>.bad
def F9 (g:Int->Int->D):D->D->M D
 |.int i,.int j=>.ok (g i j)
 |_,_=>.bad
def Cb {f:Value->Value->Sem Value}{gv:Int->Int->V}{gd:Int->Int->D}(h:OpR X f (Zfj gv))(hg:∀i j (H:Hp),Rep X.K H (gd i j) (gv i j)):Se X E f (F9 gd):=by
 refine⟨_,h,fun Hf H x y dx dy Q e rx ry q=>?_⟩
 unfold F9 at q
 split at q
 ·rename_i i j
  exact⟨i,j,rep_int.mp rx,rep_int.mp ry,Po.ret e q (hg i j Hf)⟩
 ·exact q.elim
def Zf4 {f:Value->Value->Sem Value}{C:Int->Int->Prop}{c:Int->Int->Bool}{gv:Int->Int->V}{gd:Int->Int->D}(h:OpR X f (rI C gv))(hc:∀i j,c i j=true->C i j)(hg:∀i j (H:Hp),Rep X.K H (gd i j) (gv i j)):Se X E f (gI c gd):=by
 refine⟨_,h,fun Hf H x y dx dy Q e rx ry q=>?_⟩
 unfold gI at q
 split at q
 ·rename_i i j
  split at q
  ·rename_i hcc
   exact⟨i,j,rep_int.mp rx,rep_int.mp ry,hc i j hcc,Po.ret e q (hg i j Hf)⟩
  ·exact q.elim
 ·exact q.elim
def Xf:D->D->M D:=F9 fun i j=>.int (i-j)
def Bj:D->D->M D:=F9 fun i j=>.bl (decide (i<j))
def Zow:D->D->M D:=F9 fun i j=>.bl (decide (i<=j))
def Pt:D->D->M D:=F9 fun i j=>.bl (decide (j<i))
def Zmv:D->D->M D:=F9 fun i j=>.bl (decide (j<=i))
def Y0:Se X E (binaryOp .Sub) Xf:=Cb Zjc fun _ _ _=>rep_int.mpr rfl
def Rs:Se X E (compareOp .Lt) Bj:=Cb Zme fun _ _ _=>rep_bl.mpr rfl
def Zh4:Se X E (compareOp .LtE) Zow:=Cb Zmf fun _ _ _=>rep_bl.mpr rfl
def Nt:Se X E (compareOp .Gt) Pt:=Cb Zmg fun _ _ _=>rep_bl.mpr rfl
def Zmw:Se X E (compareOp .GtE) Zmv:=Cb Zmh fun _ _ _=>rep_bl.mpr rfl
end
section
variable {X:Cx}{E:XK}{pos:Pos}{a b:Expr}
def Ha {i:Int}(h:i.natAbs<2 ^ 4000):Builtin.Int.intBits i<=2 ^ 20:=by
 unfold Builtin.Int.intBits
 split
 ·exact Nat.zero_le _
 ·rename_i hz
  have hn:i.natAbs≠0:=fun z=>hz (by rw[Int.natAbs_eq_zero.mp z];rfl)
  have:i.natAbs.log2<4000:=(Nat.log2_lt hn).mpr h
  have e:(2:Nat) ^ 20=1048576:=rfl
  lia
def Zox (i j:Int):Prop:=i.natAbs<2 ^ 4000/\j.natAbs<2 ^ 4000
def Zpx (_i j:Int):Prop:=j≠0/\j.natAbs<2 ^ 4000
def Zju {j:Int}(h:j.natAbs<2 ^ 4000):j.natAbs.log2<9000:=by
 by_cases hn:j.natAbs=0
 ·rw[hn];decide
 ·have:j.natAbs.log2<4000:=(Nat.log2_lt hn).mpr h
  lia
def Zf5:OpR X (binaryOp .Mult) (rI Zox fun i j=>.int (i*j)):=Zn2 fun _ _ _ _ _ _ _ hc q=>mul_int q (IntMulOk.of_bits (Ha hc.1) (Ha hc.2))
def Zci:OpR X (binaryOp .FloorDiv) (rI Zpx fun i j=>.int (i.fdiv j)):=Zn2 fun _ _ _ _ _ _ _ hc q=>floordiv_int hc.1 q (.inl (PyProof.noPylong_of_log2 (Zju hc.2)))
def sm (i:Int):Bool:=decide (i.natAbs<2 ^ 4000)
def sm_iff {i:Int}:sm i=true↔i.natAbs<2 ^ 4000:=decide_eq_true_iff
def Zmx:D->D->M D:=gI (fun i j=>sm i&&sm j) fun i j=>.int (i*j)
def Q6:D->D->M D:=gI (fun _ j=>j != 0&&sm j) fun i j=>.int (i.fdiv j)
def Qn:D->D->M D:=gI (fun _ j=>j != 0) fun i j=>.int (i.fmod j)
def Zf6:D->D->M D:=gI (fun i j=>decide (0<=j/\j<=1000/\i.natAbs<1000)) fun i j=>.int (i ^ j.toNat)
def Zjv:Se X E (binaryOp .Mult) Zmx:=Zf4 Zf5 (fun i j h=>by
 rw[Bool.and_eq_true] at h
 exact⟨sm_iff.mp h.1,sm_iff.mp h.2⟩) fun _ _ _=>rep_int.mpr rfl
def Yn:Se X E (binaryOp .FloorDiv) Q6:=Zf4 Zci (fun i j h=>by
 rw[Bool.and_eq_true] at h
 exact⟨by simpa using h.1,sm_iff.mp h.2⟩) fun _ _ _=>rep_int.mpr rfl
def Q2:Se X E (binaryOp .Mod) Qn:=Zf4 Zfl (fun i j h=>by simpa using h) fun _ _ _=>rep_int.mpr rfl
def Zjw:Se X E (binaryOp .Pow) Zf6:=Zf4 Zjd (fun i j h=>by
 have h:=of_decide_eq_true h
 refine⟨h.1,by lia,?_⟩
 have e:(2:Nat) ^ 64=18446744073709551616:=rfl
 lia) fun _ _ _=>rep_int.mpr rfl
def Hc {K:PySem.W.Frag}{H:Hp}{ds:List D}{xs:List V}{i:Int}{d:D}(r:Reps K H ds xs)(e:Sr ds i=some d):∃x,Sr xs i=some x/\Rep K H d x:=by
 unfold Sr at e ⊢
 rw[<-r.length]
 cases q:Zjk ds.length i with
 |none=>rw[q] at e;cases e
 |some j=>
  rw[q] at e
  exact r.get e
def Yj:D->D->M D
 |.lst ds,.int i=>match Sr ds i with
  |some d=>.ok d
  |none=>.bad
 |.tup ds,.int i=>match Sr ds i with
  |some d=>.ok d
  |none=>.bad
 |.str z,.int i=>if z.length<=sizeLine then(match Sr z.cps.toList i with
  |some c=>.ok (.str ⟨#[c]⟩)
  |none=>.bad) else .bad
 |_,_=>.bad
def Xl {fa fb:Zl->M D}(ha:X4 X E a fa)(hb:X4 X E b fb)(hs:F7 b):X4 X E (.Subscript a b pos) (Zn Yj fa fb):=by
 obtain⟨ta,pa,qa⟩:=ha
 obtain⟨tb,pb,qb⟩:=hb
 refine⟨_,Zmn Zjm pa pb hs,fun H0 B Hf sd σ H Q sr h=>two qa qb (fun Hf H x y dx dy Q e rx ry q=>?_) sr h⟩
 unfold Yj at q
 split at q
 ·rename_i ds i
  split at q
  ·rename_i d ei
   obtain⟨p,xs,rfl,hp,hr⟩:=rep_lst.mp rx
   obtain⟨v,e1,e2⟩:=Hc hr ei
   exact .inl ⟨p,xs,i,v,rfl,rep_int.mp ry,e.seq hp,e1,Po.ret e q e2⟩
  ·exact q.elim
 ·rename_i ds i
  split at q
  ·rename_i d ei
   obtain⟨p,xs,rfl,hp,hr⟩:=Qu rx
   obtain⟨v,e1,e2⟩:=Hc hr ei
   exact .inr (.inl ⟨p,xs,i,v,rfl,rep_int.mp ry,Same.seqT e hp,e1,Po.ret e q e2⟩)
  ·exact q.elim
 ·rename_i z i
  split at q
  ·rename_i hz
   split at q
   ·rename_i c ei
    exact .inr (.inr ⟨z,i,c,rep_str.mp rx,rep_int.mp ry,hz,ei,Po.ret e q (rep_str.mpr rfl)⟩)
   ·exact q.elim
  ·exact q.elim
 ·exact q.elim
def Zh (_:Zl):M (List D):=.ok []
def Zb (fa:Zl->M D)(fr:Zl->M (List D))(sd:Zl):M (List D):=(fa sd).bind fun d=>(fr sd).bind fun ds=>.ok (d::ds)
def Ze:Aw X E [] Zh:=⟨_,Jm,fun _ _ _ _ _ _ _ sr h=>Po.ret sr.sub h Reps.nil⟩
def Za {es:List Expr}{fa:Zl->M D}{fr:Zl->M (List D)}(ha:X4 X E a fa)(hr:Aw X E es fr)(hs:starEach (a::es) X.env=(false,eval a X.env)::starEach es X.env:=by rfl):Aw X E (a::es) (Zb fa fr):=by
 obtain⟨ta,pa,qa⟩:=ha
 obtain⟨tr,pr,qr⟩:=hr
 refine⟨_,Qz pa pr hs,fun H0 B Hf sd σ H Q sr h=>?_⟩
 refine qa H0 B Hf sd σ H _ sr (Po.bind h fun d v Hf1 H1 _ g1 rv h1=>?_)
 refine qr H0 B Hf1 sd σ H1 _ (sr.gr g1) (Po.bind h1 fun ds vs Hf2 H2 _ g2 rs h2=>?_)
 exact Po.ret g2.sub h2 (Reps.cons (Rep.mono g2.fz rv) rs)
def few (ds:List D):Bool:=decide (ds.length<=1000000)
def Ut {K:PySem.W.Frag}{H:Hp}{ds:List D}{xs:List V}(h:few ds=true)(r:Reps K H ds xs):xs.length<=sizeLine:=by
 have:=of_decide_eq_true h
 have e:=sizeLine_eq
 rw[<-r.length,e]
 lia
def Qf (fs:Zl->M (List D))(sd:Zl):M D:=(fs sd).bind fun ds=>if few ds then .ok (.tup ds) else .bad
def Jq (fs:Zl->M (List D))(sd:Zl):M D:=(fs sd).bind fun ds=>if few ds then .ok (.lst ds) else .bad
theorem Gr.tup {K:PySem.W.Frag}{Hf H:Hp}{p:Addr}{ds:List D}{xs:List V}(e:Same Hf H)(hp:H p=none)(r:Reps K Hf ds xs):Rep K (upd Hf p (.tup xs)) (.tup ds) (.ref p):=
 rep_tup.mpr ⟨p,xs,rfl,Z2,r.mono (Qw (e.free hp) _)⟩
theorem Gr.lst {K:PySem.W.Frag}{Hf H:Hp}{p:Addr}{ds:List D}{xs:List V}(e:Same Hf H)(hp:H p=none)(r:Reps K Hf ds xs):Rep K (upd Hf p (.lst xs)) (.lst ds) (.ref p):=
 rep_lst.mpr ⟨p,xs,rfl,SqL.of Z2,r.mono (Qw (e.free hp) _)⟩
def Qb {es:List Expr}{fs:Zl->M (List D)}{x1}(h:Aw X E es fs):X4 X E (.Tuple es x1 pos) (Qf fs):=by
 obtain⟨t,p,q⟩:=h
 refine⟨_,Bb p,fun H0 B Hf sd σ H Q sr h=>?_⟩
 refine q H0 B Hf sd σ H _ sr (Po.bind h fun ds vs Hf1 H1 _ g1 rs h1=>?_)
 split at h1
 ·rename_i hf
  exact⟨Ut hf rs,fun p hp=>h1 _ _ _ (Gr.alloc g1.sub hp _) (Gr.tup g1.sub hp rs)⟩
 ·exact h1.elim
def Ku {es:List Expr}{fs:Zl->M (List D)}(h:Aw X E es fs):X4 X E (.List es pos) (Jq fs):=by
 obtain⟨t,p,q⟩:=h
 refine⟨_,Eg p,fun H0 B Hf sd σ H Q sr h=>?_⟩
 refine q H0 B Hf sd σ H _ sr (Po.bind h fun ds vs Hf1 H1 _ g1 rs h1=>?_)
 split at h1
 ·rename_i hf
  exact⟨Ut hf rs,fun p hp=>h1 _ _ _ (Gr.alloc g1.sub hp _) (Gr.lst g1.sub hp rs)⟩
 ·exact h1.elim
def Wj (X:Cx)(E:XK)(f:Value)(g:List D->M D):Prop:=
 ∃r,CallR X f r/\∀(Hf H:Hp) (xs:List V) (ds:List D) (Q:VK),Same Hf H->Reps X.K Hf ds xs->Po X.K E (rV X.K) Hf H (g ds) Q->r xs H Q
def Kv (g:List D->M D)(fs:Zl->M (List D))(sd:Zl):M D:=(fs sd).bind g
def Yd {x:Str}{id:String}{p:Pos}{g:List D->M D}{e:Expr}{es:List Expr}{fs:Zl->M (List D)}(hc:Wj X E (.builtin id) g)(hg:Gl X x)(hm:X.mg x=none)(hv:bootBuiltins x=some (.builtin id))(ha:Aw X E (e::es) fs)
  (hn:x ≠ "__name__":=by decide) (hdb:(x==("__debug__":Str))=false:=by decide)
  (he:starEach (e::es) X.env=(false,eval e X.env)::starEach es X.env:=by rfl) (hpl:(backTo pos (starEach es X.env)).any (·.1)=false:=by rfl):X4 X E (.Call (.Name x p) (e::es) [] pos) (Kv g fs):=by
 obtain⟨r,hr,qr⟩:=hc
 obtain⟨t,pt,qt⟩:=ha
 refine⟨_,A4 hr hg hm hv pt hn hdb he hpl,fun H0 B Hf sd σ H Q sr h=>?_⟩
 exact qt H0 B Hf sd σ H _ sr (Po.bind h fun ds vs Hf1 H1 _ g1 rs h1=>qr Hf1 H1 vs ds Q g1.sub rs h1)
def Vw {x:Str}{T:String}{p:Pos}{g:List D->M D}{e:Expr}{es:List Expr}{fs:Zl->M (List D)}(hc:Wj X E (.type T) g)(hg:Gl X x)(hm:X.mg x=none)(hv:bootBuiltins x=some (.type T))(ha:Aw X E (e::es) fs)
  (hn:x ≠ "__name__":=by decide) (hdb:(x==("__debug__":Str))=false:=by decide)
  (he:starEach (e::es) X.env=(false,eval e X.env)::starEach es X.env:=by rfl) (hpl:(backTo pos (starEach es X.env)).any (·.1)=false:=by rfl):X4 X E (.Call (.Name x p) (e::es) [] pos) (Kv g fs):=by
 obtain⟨r,hr,qr⟩:=hc
 obtain⟨t,pt,qt⟩:=ha
 refine⟨_,Zac hr hg hm hv pt hn hdb he hpl,fun H0 B Hf sd σ H Q sr h=>?_⟩
 exact qt H0 B Hf sd σ H _ sr (Po.bind h fun ds vs Hf1 H1 _ g1 rs h1=>qr Hf1 H1 vs ds Q g1.sub rs h1)
def K4 {K:PySem.W.Frag}{H:Hp}{d:D}{xs:List V}(r:Reps K H [d] xs):∃x,xs=[x]/\Rep K H d x:=by
 obtain⟨x,t,rfl,h,r2⟩:=reps_cons.mp r
 rw[reps_nil.mp r2];exact⟨x,rfl,h⟩
def Zcj {K:PySem.W.Frag}{H:Hp}{d e:D}{xs:List V}(r:Reps K H [d,e] xs):∃x y,xs=[x,y]/\Rep K H d x/\Rep K H e y:=by
 obtain⟨x,t,rfl,h,r2⟩:=reps_cons.mp r
 obtain⟨y,rfl,h2⟩:=K4 r2
 exact⟨x,y,rfl,h,h2⟩
def G0:List D->M D
 |[.int i]=>.ok (.int (if i<0 then -i else i))
 |_=>.bad
def Pu:Wj X E (.builtin "abs") G0:=by
 refine⟨_,Zb3,fun Hf H xs ds Q e r q=>?_⟩
 unfold G0 at q
 split at q
 ·obtain⟨x,rfl,h⟩:=K4 r
  rw[rep_int.mp h]
  exact⟨_,rfl,Po.ret e q (rep_int.mpr rfl)⟩
 ·exact q.elim
def R0:List D->M D
 |[.int i]=>.ok (.int i)
 |[.bl b]=>.ok (.int (if b then 1 else 0))
 |_=>.bad
def Bk:Wj X E (.type "int") R0:=by
 refine⟨_,O7,fun Hf H xs ds Q e r q=>?_⟩
 unfold R0 at q
 split at q
 ·obtain⟨x,rfl,h⟩:=K4 r
  rw[rep_int.mp h]
  exact .inl ⟨_,rfl,Po.ret e q (rep_int.mpr rfl)⟩
 ·obtain⟨x,rfl,h⟩:=K4 r
  rw[rep_bl.mp h]
  exact .inr ⟨_,rfl,Po.ret e q (rep_int.mpr rfl)⟩
 ·exact q.elim
def Wl:List D->M D
 |[.lst ds]=>.ok (.int ds.length)
 |[.tup ds]=>.ok (.int ds.length)
 |[.str z]=>if z.length<=sizeLine then .ok (.int z.length) else .bad
 |_=>.bad
def Wt:Wj X E (.builtin "len") Wl:=by
 refine⟨_,call_len_seq.or Bg,fun Hf H xs ds Q e r q=>?_⟩
 unfold Wl at q
 split at q
 ·obtain⟨x,rfl,h⟩:=K4 r
  obtain⟨p,ys,rfl,hp,hr⟩:=rep_lst.mp h
  refine .inl ⟨p,ys,rfl,.inl (e.seq hp),?_⟩
  rw[<-hr.length]
  exact Po.ret e q (rep_int.mpr rfl)
 ·obtain⟨x,rfl,h⟩:=K4 r
  obtain⟨p,ys,rfl,hp,hr⟩:=Qu h
  refine .inl ⟨p,ys,rfl,.inr (Same.seqT e hp),?_⟩
  rw[<-hr.length]
  exact Po.ret e q (rep_int.mpr rfl)
 ·split at q
  ·rename_i hz
   obtain⟨x,rfl,h⟩:=K4 r
   rw[rep_str.mp h]
   exact .inr ⟨_,rfl,hz,Po.ret e q (rep_int.mpr rfl)⟩
  ·exact q.elim
 ·exact q.elim
def He:List D->M D
 |[.lst ds]=>.ok (.lst ds)
 |[.tup ds]=>.ok (.lst ds)
 |_=>.bad
def Zf7:Wj X E (.type "list") He:=by
 refine⟨_,Bh,fun Hf H xs ds Q e r q=>?_⟩
 unfold He at q
 split at q
 ·obtain⟨x,rfl,h⟩:=K4 r
  obtain⟨p,ys,rfl,hp,hr⟩:=rep_lst.mp h
  exact⟨p,ys,rfl,.inl (e.seq hp),fun l hl=>q _ _ _ (Gr.alloc e hl _) (Gr.lst e hl hr)⟩
 ·obtain⟨x,rfl,h⟩:=K4 r
  obtain⟨p,ys,rfl,hp,hr⟩:=Qu h
  exact⟨p,ys,rfl,.inr (Same.seqT e hp),fun l hl=>q _ _ _ (Gr.alloc e hl _) (Gr.lst e hl hr)⟩
 ·exact q.elim
def Su:List D->M D
 |[.lst ds]=>.ok (.tup ds)
 |[.tup ds]=>.ok (.tup ds)
 |_=>.bad
def Cc:Wj X E (.type "tuple") Su:=by
 refine⟨_,Lf,fun Hf H xs ds Q e r q=>?_⟩
 unfold Su at q
 split at q
 ·obtain⟨x,rfl,h⟩:=K4 r
  obtain⟨p,ys,rfl,hp,hr⟩:=rep_lst.mp h
  exact⟨p,ys,rfl,.inl ⟨e.seq hp,fun l hl=>q _ _ _ (Gr.alloc e hl _) (Gr.tup e hl hr)⟩⟩
 ·obtain⟨x,rfl,h⟩:=K4 r
  obtain⟨p,ys,rfl,hp,hr⟩:=Qu h
  exact⟨p,ys,rfl,.inr ⟨Same.seqT e hp,Po.ret e q (h)⟩⟩
 ·exact q.elim
def asB:D->M Bool
 |.bl b=>.ok b
 |_=>.bad
def tB (f:Zl->M D)(sd:Zl):M Bool:=(f sd).bind asB
def tN (f:Zl->M Bool)(sd:Zl):M Bool:=(f sd).bind fun b=>.ok (!b)
def tA (f g:Zl->M Bool)(sd:Zl):M Bool:=(f sd).bind fun b=>if b then g sd else .ok false
def tO (f g:Zl->M Bool)(sd:Zl):M Bool:=(f sd).bind fun b=>if b then .ok true else g sd
def Q7 {e:Expr}{f:Zl->M D}(h:X4 X E e f)(he:∀whole,isTrue e X.env whole=(do let v <-whole;standAt e.pos;holding [v] (truthy v)):=by intro _;rfl):Ca X E e (tB f):=by
 obtain⟨t,p,q⟩:=h
 refine⟨_,Zi0 p he,fun H0 B Hf sd σ H Q sr h=>?_⟩
 refine q H0 B Hf sd σ H _ sr (Po.bind h fun d v Hf1 H1 _ g1 rv h1=>?_)
 unfold asB at h1
 split at h1
 ·exact⟨_,rep_bl.mp rv,Po.ret (R:=rQ) g1.sub h1 rfl⟩
 ·exact h1.elim
def Zr {op:CmpOp}{g:D->D->M D}{fa fb:Zl->M D}(ho:Se X E (compareOp op) g)(ha:X4 X E a fa)(hb:X4 X E b fb)(hm:behindInMarks op b=false):Ca X E (.Compare a [op] [b] pos) (tB (Zn g fa fb)):=by
 obtain⟨r,hr,qr⟩:=ho
 obtain⟨ta,pa,qa⟩:=ha
 obtain⟨tb,pb,qb⟩:=hb
 refine⟨_,F4 hr pa pb hm,fun H0 B Hf sd σ H Q sr h=>?_⟩
 refine two qa qb qr sr (Po.bind h fun d v Hf1 H1 _ g1 rv h1=>?_)
 unfold asB at h1
 split at h1
 ·exact⟨_,rep_bl.mp rv,Po.ret (R:=rQ) g1.sub h1 rfl⟩
 ·exact h1.elim
def Ju {f:Zl->M Bool}(h:Ca X E a f):Ca X E (.UnaryOp .Not a pos) (tN f):=by
 obtain⟨t,p,q⟩:=h
 refine⟨_,Zi3 p,fun H0 B Hf sd σ H Q sr h=>?_⟩
 refine q H0 B Hf sd σ H _ sr (Po.bind h fun b v Hf1 H1 _ g1 rv h1=>?_)
 have e:b=v:=rv
 subst e
 exact Po.ret (R:=rQ) g1.sub h1 rfl
theorem PWd.pt {f:Zl->M Bool}{e:Expr}(h:PWd X E e f):Ca X E e f:=by
 obtain⟨t,p,q⟩:=h
 exact⟨t,p.pt,q⟩
def Kf {f:Zl->M Bool}(h:Ca X E a f):PWd X E (.BoolOp .And [a] pos) f:=by
 obtain⟨t,p,q⟩:=h
 exact⟨t,Zfh p,q⟩
def Je {f:Zl->M Bool}(h:Ca X E a f):PWd X E (.BoolOp .Or [a] pos) f:=by
 obtain⟨t,p,q⟩:=h
 exact⟨t,Zi1 p,q⟩
def Jv {rest:List Expr}{f g:Zl->M Bool}(h:Ca X E a f)(h2:PWd X E (.BoolOp .And (b::rest) pos) g):PWd X E (.BoolOp .And (a::b::rest) pos) (tA f g):=by
 obtain⟨t,p,q⟩:=h
 obtain⟨t2,p2,q2⟩:=h2
 refine⟨_,Zi2 p p2,fun H0 B Hf sd σ H Q sr h=>?_⟩
 refine q H0 B Hf sd σ H _ sr (Po.bind h fun b v Hf1 H1 _ g1 rv h1=>?_)
 have e:b=v:=rv
 subst e
 cases b with
 |true=>rw[if_pos rfl] at h1 ⊢;exact q2 H0 B Hf1 sd σ H1 Q (sr.gr g1) h1
 |false=>rw[if_neg Bool.false_ne_true] at h1 ⊢;exact Po.ret (R:=rQ) g1.sub h1 rfl
def Kg {rest:List Expr}{f g:Zl->M Bool}(h:Ca X E a f)(h2:PWd X E (.BoolOp .Or (b::rest) pos) g):PWd X E (.BoolOp .Or (a::b::rest) pos) (tO f g):=by
 obtain⟨t,p,q⟩:=h
 obtain⟨t2,p2,q2⟩:=h2
 refine⟨_,Zl4 p p2,fun H0 B Hf sd σ H Q sr h=>?_⟩
 refine q H0 B Hf sd σ H _ sr (Po.bind h fun b v Hf1 H1 _ g1 rv h1=>?_)
 have e:b=v:=rv
 subst e
 cases b with
 |true=>rw[if_pos rfl] at h1 ⊢;exact Po.ret (R:=rQ) g1.sub h1 rfl
 |false=>rw[if_neg Bool.false_ne_true] at h1 ⊢;exact q2 H0 B Hf1 sd σ H1 Q (sr.gr g1) h1
def R1 (f g:Zl->M D)(sd:Zl):M D:=(f sd).bind fun d=>(asB d).bind fun b=>if b then g sd else .ok (.bl false)
def Ek (f:Zl->M D)(sd:Zl):M D:=(f sd).bind fun d=>(asB d).bind fun b=>.ok (.bl (!b))
def Uo (c:Zl->M Bool)(f g:Zl->M D)(sd:Zl):M D:=(c sd).bind fun b=>if b then f sd else g sd
def Bl {op}{f:Zl->M D}(h:X4 X E a f):X4 X E (.BoolOp op [a] pos) f:=by
 obtain⟨t,p,q⟩:=h
 exact⟨t,Zi4 p,q⟩
def Zjx {d:D}{b:Bool}(h:asB d=.ok b):d=.bl b:=by
 unfold asB at h
 split at h
 ·cases h;rfl
 ·cases h
def Zck {d:D}{x:XV}(h:asB d=.ex x):False:=by
 unfold asB at h
 split at h<;>cases h
theorem Po.asB {K:PySem.W.Frag}{α β:Type}{R:Hp->Hp->α->β->Prop}{Hf H:Hp}{d:D}{k:Bool->M α}{Q:β->Hp->Prop}(h:Po K E R Hf H ((asB d).bind k) Q):∃b,d=.bl b/\Po K E R Hf H (k b) Q:=by
 cases q:DL.asB d with
 |ok b=>rw[q] at h;exact⟨b,Zjx q,h⟩
 |ex x=>exact(Zck q).elim
 |bad=>rw[q] at h;exact h.elim
def Pv {rest:List Expr}{f g:Zl->M D}(h:X4 X E a f)(h2:X4 X E (.BoolOp .And (b::rest) pos) g):X4 X E (.BoolOp .And (a::b::rest) pos) (R1 f g):=by
 obtain⟨t,p,q⟩:=h
 obtain⟨t2,p2,q2⟩:=h2
 refine⟨_,Zi5 p p2,fun H0 B Hf sd σ H Q sr h=>?_⟩
 refine q H0 B Hf sd σ H _ sr (Po.bind h fun d v Hf1 H1 _ g1 rv h1=>?_)
 obtain⟨c,rfl,h2⟩:=Po.asB h1
 refine⟨c,rep_bl.mp rv,?_⟩
 cases c with
 |true=>rw[if_pos rfl] at h2 ⊢;exact q2 H0 B Hf1 sd σ H1 Q (sr.gr g1) h2
 |false=>rw[if_neg Bool.false_ne_true] at h2 ⊢;exact Po.ret (R:=rV X.K) g1.sub h2 (rep_bl.mpr rfl)
def Zcl {f:Zl->M D}(h:X4 X E a f):X4 X E (.UnaryOp .Not a pos) (Ek f):=by
 obtain⟨t,p,q⟩:=h
 refine⟨_,Zi6 p,fun H0 B Hf sd σ H Q sr h=>?_⟩
 refine q H0 B Hf sd σ H _ sr (Po.bind h fun d v Hf1 H1 _ g1 rv h1=>?_)
 obtain⟨c,rfl,h2⟩:=Po.asB h1
 exact⟨c,rep_bl.mp rv,Po.ret (R:=rV X.K) g1.sub h2 (rep_bl.mpr rfl)⟩
def Q9 {c:Expr}{f g:Zl->M D}{k:Zl->M Bool}(hc:Ca X E c k)(h:X4 X E a f)(h2:X4 X E b g):X4 X E (.IfExp c a b pos) (Uo k f g):=by
 obtain⟨t,p,q⟩:=hc
 obtain⟨t1,p1,q1⟩:=h
 obtain⟨t2,p2,q2⟩:=h2
 refine⟨_,A1 p p1 p2,fun H0 B Hf sd σ H Q sr h=>?_⟩
 refine q H0 B Hf sd σ H _ sr (Po.bind h fun c v Hf1 H1 _ g1 rv h1=>?_)
 have e:c=v:=rv
 subst e
 cases c with
 |true=>rw[if_pos rfl] at h1 ⊢;exact q1 H0 B Hf1 sd σ H1 Q (sr.gr g1) h1
 |false=>rw[if_neg Bool.false_ne_true] at h1 ⊢;exact q2 H0 B Hf1 sd σ H1 Q (sr.gr g1) h1
end
section
variable {X:Cx}{E:XK}{pos:Pos}{a b:Expr}
def Qs (sd:Zl):M O:=.ok (.nx sd)
def Zy (f g:Zl->M O)(sd:Zl):M O:=(f sd).bind fun o=>match o with
 |.nx sd'=>g sd'
 |o=>.ok o
def Z8:Ps X E [] Qs:=⟨_,Sb,fun _ _ Hf _ _ _ _ sr h=>h _ Hf _ (Same.refl _) sr⟩
def Zm {st:Stmt}{f:Zl->M O}(h:Ss X E st f):Ps X E [st] f:=by
 obtain⟨t,p,q⟩:=h
 exact⟨t,Kd p,q⟩
def Zf {st:Stmt}{rest:List Stmt}{f g:Zl->M O}(h:Ss X E st f)(h2:Ps X E rest g):Ps X E (st::rest) (Zy f g):=by
 obtain⟨t,p,q⟩:=h
 obtain⟨t2,p2,q2⟩:=h2
 refine⟨_,Yc p p2,fun H0 B Hf sd σ H D sr h=>?_⟩
 refine q H0 B Hf sd σ H _ sr ?_
 unfold Zy at h
 cases e:f sd with
 |ok o=>
  rw[e] at h
  cases o with
  |nx sd'=>exact fun σ' Hf' H' e' sr'=>q2 H0 B Hf' sd' σ' H' D sr' (PoS.weak e' h)
  |rt s=>exact h
  |bk sd'=>exact h
  |ct sd'=>exact h
 |ex x=>rw[e] at h;exact h
 |bad=>rw[e] at h;exact h
def Z4 (i:Nat)(f:Zl->M D)(sd:Zl):M O:=(f sd).bind fun d=>.ok (.nx (sd.set i (some (.im d))))
def Zv (i:Nat){x:Str}{e:Expr}{f:Zl->M D}{pos':Pos}(hN:X.N.Nodup)(h:X4 X E e f)(hi:X.N[i]?=some x:=by rfl)(hx:Zbw X.env.scope x:=by trivial)(hs:swapsWith e (some (.Name x pos')) pos.line X.env=pure false:=by rfl)(hf:X.fn x=true\/X.env.scope.names.lookup x=some .local:=by first|exact .inl rfl|exact .inr rfl|assumption):
  Ss X E (.Assign [.Name x pos'] e pos) (Z4 i f):=by
 obtain⟨t,p,q⟩:=h
 refine⟨_,Nd hN hi hx p hs hf,fun H0 B Hf sd σ H D sr h=>?_⟩
 refine q H0 B Hf sd σ H _ sr (PoS.bind sr h fun d v Hf1 H1 _ g1 sr1 rv h1=>?_)
 exact h1 _ Hf1 H1 (Same.refl _) (sr1.set_im i rv)
def Qj (f:Zl->M D)(sd:Zl):M O:=(f sd).bind fun d=>.ok (.rt (.im d))
def Zu {e:Expr}{f:Zl->M D}(h:X4 X E e f):Ss X E (.Return (some e) pos) (Qj f):=by
 obtain⟨t,p,q⟩:=h
 refine⟨_,Pn p,fun H0 B Hf sd σ H D sr h=>?_⟩
 refine q H0 B Hf sd σ H _ sr (PoS.bind sr h fun d v Hf1 H1 _ g1 sr1 rv h1=>?_)
 exact h1 v Hf1 H1 (Same.refl _) sr1.fin rv
def Yy (c:Zl->M Bool)(f g:Zl->M O)(sd:Zl):M O:=(c sd).bind fun b=>if b then f sd else g sd
def Qe {c:Expr}{xs ys:List Stmt}{k:Zl->M Bool}{f g:Zl->M O}(hc:Ca X E c k)(h:Ps X E xs f)(h2:Ps X E ys g):Ss X E (.If c xs ys pos) (Yy k f g):=by
 obtain⟨t,p,q⟩:=hc
 obtain⟨t1,p1,q1⟩:=h
 obtain⟨t2,p2,q2⟩:=h2
 refine⟨_,F1 p p1 p2,fun H0 B Hf sd σ H D sr h=>?_⟩
 refine q H0 B Hf sd σ H _ sr (PoS.bind (R:=rQ) sr h fun c v Hf1 H1 _ g1 sr1 rv h1=>?_)
 have e:c=v:=rv
 subst e
 cases c with
 |true=>rw[if_pos rfl] at h1 ⊢;exact q1 H0 B Hf1 sd σ H1 D sr1 h1
 |false=>rw[if_neg Bool.false_ne_true] at h1 ⊢;exact q2 H0 B Hf1 sd σ H1 D sr1 h1
def Yr (c:Zl->M Bool)(f:Zl->M O):Nat->Zl->M O
 |0,_=>.bad
 |n+1,sd=>(c sd).bind fun b=>if b then((f sd).bind fun o=>match o with
   |.nx sd'=>Yr c f n sd'
   |.ct sd'=>Yr c f n sd'
   |.bk sd'=>.ok (.nx sd')
   |.rt s=>.ok (.rt s)) else .ok (.nx sd)
open Classical in
noncomputable def Wu (c:Zl->M Bool)(f:Zl->M O)(sd:Zl):M O:=if h:∃n,Yr c f n sd≠.bad then Yr c f (choose h) sd else .bad
theorem Uc (c:Zl->M Bool)(f:Zl->M O):∀(n m:Nat) (sd:Zl),n<=m->Yr c f n sd≠.bad->Yr c f m sd=Yr c f n sd
 |0,_,_,_,h=>absurd rfl h
 |n+1,0,_,hm,_=>absurd hm (by lia)
 |n+1,m+1,sd,hm,h=>by
  unfold Yr at h ⊢
  cases e:c sd with
  |ok b=>
   rw[e] at h
   simp only[M.bind_ok] at h ⊢
   cases b with
   |false=>rfl
   |true=>
    simp only[if_true] at h ⊢
    cases e2:f sd with
    |ok o=>
     rw[e2] at h
     simp only[M.bind_ok] at h ⊢
     cases o with
     |nx sd'=>exact Uc c f n m sd' (by lia) h
     |ct sd'=>exact Uc c f n m sd' (by lia) h
     |bk sd'=>rfl
     |rt s=>rfl
    |ex x=>rfl
    |bad=>rfl
  |ex x=>rfl
  |bad=>rfl
def Pw {c:Zl->M Bool}{f:Zl->M O}{n:Nat}{sd:Zl}(h:Yr c f n sd≠.bad):Wu c f sd=Yr c f n sd:=by
 unfold Wu
 have hx:∃n,Yr c f n sd≠.bad:=⟨n,h⟩
 rw[dif_pos hx]
 have h2:=Classical.choose_spec hx
 rcases Nat.le_total n (Classical.choose hx) with l|l
 ·exact Uc c f _ _ sd l h
 ·exact(Uc c f _ _ sd l h2).symm
def Px {c:Expr}{body:List Stmt}{k:Zl->M Bool}{f:Zl->M O}(hp:PassesOwn (model X.prog X.w) X.A X.env X.xe)(hc:Ca X E c k)(h:Ps X E body f):Ss X E (.While c body [] pos) (Wu k f):=by
 obtain⟨t,p,q⟩:=hc
 obtain⟨t1,p1,q1⟩:=h
 refine⟨_,A2 hp p p1,fun H0 B Hf sd σ H D sr h=>?_⟩
 obtain⟨n,hn⟩:∃n,PoS X.K E H0 B Hf (Yr k f n sd) D:=by
  unfold Wu at h
  split at h
  ·exact⟨_,h⟩
  ·exact h.elim
 refine⟨fun m σ' H'=>∃Hf' sd',Same Hf Hf'/\SR X.K H0 B Hf' sd' σ' H'/\PoS X.K E H0 B Hf' (Yr k f m sd') D,⟨n,Hf,sd,Same.refl _,sr,hn⟩,?_⟩
 rintro m σ1 H1 ⟨Hf1,sd1,e1,sr1,h1⟩
 cases m with
 |zero=>exact h1.elim
 |succ m=>
  unfold Yr at h1
  refine q H0 B Hf1 sd1 σ1 H1 _ sr1 (PoS.bind (R:=rQ) sr1 h1 fun c v Hf2 H2 _ g2 sr2 rv h2=>?_)
  have e:c=v:=rv
  subst e
  cases c with
  |false=>
   rw[if_neg Bool.false_ne_true] at h2 ⊢
   exact h2 σ1 Hf2 H2 (Same.refl _) sr2
  |true=>
   rw[if_pos rfl] at h2 ⊢
   refine⟨fun σ' H'=>∃Hf' sd',Same Hf Hf'/\SR X.K H0 B Hf' sd' σ' H'/\PoS X.K E H0 B Hf' (Yr k f m sd') D,fun σ' H' w=>⟨m,Nat.lt_succ_self m,w⟩,?_⟩
   refine q1 H0 B Hf2 sd1 σ1 H2 _ sr2 ?_
   cases e2:f sd1 with
   |ok o=>
    rw[e2] at h2
    cases o with
    |nx sd'=>exact fun σ' Hf' H' e' sr'=>⟨Hf',sd',e1.trans (g2.fz.trans e'),sr',PoS.weak e' h2⟩
    |ct sd'=>exact fun σ' Hf' H' e' sr'=>⟨Hf',sd',e1.trans (g2.fz.trans e'),sr',PoS.weak e' h2⟩
    |bk sd'=>exact h2
    |rt s=>exact h2
   |ex x=>rw[e2] at h2;exact h2
   |bad=>rw[e2] at h2;exact h2
end
section
variable {prog:Program}{w:World}{A:Around}{E:Value->Shared->Prop}
theorem L9 {it t:Addr}{items:Array Value}(hne:t≠it):∀(n i:Nat) (s:Shared) (Q:List Value->Shared->Prop),s.heap.IsListIter it t i->s.heap.IsList t items->i+n<=items.size ->
  (∀h',h'.IsListIter it t (i+n)->Heap.SameBut it s.heap h'->Q ((items.toList.drop i).take n) {s with heap:=h'})->wpAny (model prog w) A (draw (.ref it) n) Q E s
 |0,i,s,Q,hit,_,_,hQ=>by
  show wpAny _ _ (pure []) Q E s
  exact wpAny_pure (by simpa using hQ s.heap hit (Heap.SameBut.refl ..))
 |n+1,i,s,Q,hit,ht,hle,hQ=>by
  have hlt:i<items.size:=by lia
  show wpAny _ _ (pyNext (.ref it)>>=_) Q E s
  refine wpAny_bind (wpAny_pyNext_list_item hit ht (x:=items[i]) (by simp[hlt]) fun h₁ hit₁ hs₁=>?_)
  refine wpAny_bind (wpAny_holding (L9 hne n (i+1) _ _ hit₁ (ht.extBut hs₁.extBut hne) (by lia) fun h₂ hit₂ hs₂=>wpAny_pure ?_))
  have hd:items.toList.drop i=items[i]::items.toList.drop (i+1):=by simp[List.drop_eq_getElem_cons,hlt]
  have:=hQ h₂ (by rw[show i+(n+1)=i+1+n by lia];exact hit₂) (hs₁.trans hs₂)
  rw[hd,List.take_succ_cons] at this
  exact this
def Py {s:Shared}{t:Addr}{items:Array Value}{Q:List Value->Shared->Prop}(hh:A.handled=none)(ht:s.heap.IsList t items)(hQ:∀h',Heap.ExtBut s.heap.objs.size s.heap h'->Q items.toList {s with heap:=h'}):wpAny (model prog w) A (unpackItems (.ref t) items.size none) Q E s:=by
 have hlt:t≠s.heap.objs.size:=by obtain⟨o,ho,_⟩:=ht;exact Nat.ne_of_lt (Heap.lt_size ho)
 unfold unpackItems
 refine wpAny_bind ?_
 ·unfold notIterableAtAll
  refine wpAny_bind (wpAny_specialOf ht.typeIs slot_list_iter.lookup ?_)
  refine wpAny_pure ?_
  simp only[Bool.false_eq_true,if_false]
  refine wpAny_bind (wpAny_holding (wpAny_pyIter_list ht ?_))
  refine wpAny_bind (wpAny_holding (L9 hlt items.size 0 _ _ ⟨_,Heap.get?_push_size _ rfl,rfl,rfl⟩ (ht.push _) (by lia) fun h₁ hit₁ hs₁=>?_))
  have hall:List.take items.size (List.drop 0 items.toList)=items.toList:=by
   rw[List.drop_zero];exact List.take_of_length_le (by simp)
  rw[hall]
  rw[if_neg (by simp)]
  have ht₁:h₁.IsList t items:=(ht.push _).extBut hs₁.extBut hlt
  refine wpAny_bind (wpAny_holding (wpAny_pyNext_list_end hh hit₁ ht₁ (by simp) fun h₂ he₂=>?_))
  simp only[Option.isSome_none,Bool.false_eq_true,if_false]
  refine wpAny_pure (hQ h₂ fun b o hb e=>he₂ b o hb (hs₁.extBut b o hb (Heap.get?_push_of_some _ e)))
def Nu {s:Shared}{env:Env}{elts:List Expr}{x1}{pos:Pos}{t:Addr}{items:Array Value}{Q:Unit->Shared->Prop}(hh:A.handled=none)(ht:s.heap.IsList t items)(hn:(assignEach elts env).length=items.size)(hstar:(assignEach elts env).findIdx? (·.1)=none)(h:∀h',Heap.ExtBut s.heap.objs.size s.heap h'->wpAny (model prog w) A (assignInOrder ((assignEach elts env).map (·.2)) items.toList) Q E {s with heap:=h'}):
  wpAny (model prog w) A (assign (.Tuple elts x1 pos) env (.ref t)) Q E s:=by
 rw[assign_Tuple]
 refine wpAny_bind (wpAny_standAt ?_)
 unfold unpack
 rw[hn,hstar]
 exact wpAny_bind (wpAny_holding (Py hh ht h))
def El (x:Str):List V:=x.cps.toList.map fun c=>V.str ⟨#[c]⟩
theorem Cd {it:Addr}{x:Str}{t:Tok}:∀(n i:Nat) (s:Shared) (Q:List Value->Shared->Prop),s.heap.IsStrIter it "str_ascii_iterator" x t i->i+n<=x.cps.size ->
  (∀h' tk us,h'.IsStrIter it "str_ascii_iterator" x t (i+n)->Heap.SameBut it s.heap h'->Vals (((El x).drop i).take n) us->Q us {s with heap:=h',toks:=tk})->wpAny (model prog w) A (draw (.ref it) n) Q E s
 |0,i,s,Q,hit,_,hQ=>by
  show wpAny _ _ (pure []) Q E s
  exact wpAny_pure (hQ s.heap s.toks [] hit (Heap.SameBut.refl ..) (by simpa using Paired.nil))
 |n+1,i,s,Q,hit,hle,hQ=>by
  have hlt:i<x.cps.size:=by lia
  show wpAny _ _ (pyNext (.ref it)>>=_) Q E s
  refine wpAny_bind (wpAny_pyNext_ascii_item hit (c:=x.cps[i]) (by simp[hlt]) fun h₁ hit₁ hs₁=>?_)
  refine wpAny_bind (wpAny_holding (Cd n (i+1) _ _ hit₁ (by lia) fun h₂ tk us hit₂ hs₂ hv=>wpAny_pure ?_))
  have hd:(El x).drop i=V.str ⟨#[x.cps[i]]⟩::(El x).drop (i+1):=by
   have hl:i<(El x).length:=by simp[El,hlt]
   rw[List.drop_eq_getElem_cons hl];simp[El]
  refine hQ h₂ tk _ (by rw[show i+(n+1)=i+1+n by lia];exact hit₂) (hs₁.trans hs₂) ?_
  rw[hd,List.take_succ_cons]
  exact .cons ⟨_,rfl⟩ hv
def R3 {s:Shared}{x:Str}{t:Tok}{Q:List Value->Shared->Prop}(hh:A.handled=none)(ha:x.cps.all (·<128)=true)(hQ:∀h' tk us,Heap.ExtBut s.heap.objs.size s.heap h'->Vals (El x) us->Q us {s with heap:=h',toks:=tk}):wpAny (model prog w) A (unpackItems (.str x t) x.cps.size none) Q E s:=by
 unfold unpackItems
 refine wpAny_bind ?_
 ·unfold notIterableAtAll
  refine wpAny_bind (wpAny_specialOf (typeIs_str s x t) PySem.F.slot_str_iter.lookup ?_)
  refine wpAny_pure ?_
  simp only[Bool.false_eq_true,if_false]
  refine wpAny_bind (wpAny_holding (wpAny_pyIter_ascii ha ?_))
  refine wpAny_bind (wpAny_holding (Cd x.cps.size 0 _ _ ⟨_,Heap.get?_push_size _ rfl,rfl,rfl⟩ (by lia) fun h₁ tk us hit₁ hs₁ hv=>?_))
  have hall:List.take x.cps.size (List.drop 0 (El x))=El x:=by
   rw[List.drop_zero];exact List.take_of_length_le (by simp[El])
  rw[hall] at hv
  have hl:us.length=x.cps.size:=by rw[<-hv.length];simp[El]
  rw[if_neg (by simp[hl])]
  refine wpAny_bind (wpAny_holding (wpAny_pyNext_ascii_end hh hit₁ (by simp) fun h₂ he₂=>?_))
  simp only[Option.isSome_none,Bool.false_eq_true,if_false]
  refine wpAny_pure (hQ h₂ tk us (fun b o hb e=>he₂ b o hb (hs₁.extBut b o hb (Heap.get?_push_of_some _ e))) hv)
def Pz {s:Shared}{env:Env}{elts:List Expr}{x1}{pos:Pos}{x:Str}{t:Tok}{Q:Unit->Shared->Prop}(hh:A.handled=none)(ha:x.cps.all (·<128)=true)(hn:(assignEach elts env).length=x.cps.size)(hstar:(assignEach elts env).findIdx? (·.1)=none)(h:∀h' tk us,Heap.ExtBut s.heap.objs.size s.heap h'->Vals (El x) us->wpAny (model prog w) A (assignInOrder ((assignEach elts env).map (·.2)) us) Q E {s with heap:=h',toks:=tk}):
  wpAny (model prog w) A (assign (.Tuple elts x1 pos) env (.str x t)) Q E s:=by
 rw[assign_Tuple]
 refine wpAny_bind (wpAny_standAt ?_)
 unfold unpack
 rw[hn,hstar]
 exact wpAny_bind (wpAny_holding (R3 hh ha h))
end
section
variable {X:Cx}{pos:Pos}
def Zmy (K:PySem.W.Frag)(n:Nat)(t:Zhw):TG:=fun v σ H Q=>(∃a xs,v=.ref a/\(SqT K H a xs\/SqL K H a xs)/\xs.length=n/\t xs σ H Q)\/∃x:Str,v=.str x/\x.cps.all (·<128)=true/\x.cps.size=n/\t (El x) σ H Q
def Zcm {es:List Expr}{k:Nat}{t:Zhw}{n:Nat}(hc:X.calm=true)(h:Zl8 X es t)(hn:(assignEach es X.env).length=n:=by rfl)(hst:(assignEach es X.env).findIdx? (·.1)=none:=by rfl):PG X (.Tuple es k pos) (Zmy X.K n t):=by
 intro pins s σ H v u Q I r hw
 rcases hw with⟨a,xs,e1,hq,hl,hw⟩|⟨x,e1,ha,hl,hw⟩
 case inr=>
  subst e1
  obtain⟨tk,rfl⟩:=(show ∃t,u=Value.str x t from r)
  refine Pz (I.ok.hd hc) ha (by rw[hn,hl]) hst fun h' tk us hx hv=>?_
  have I1:Inv X pins σ H {s with heap:=h',toks:=tk}:=I.kept (t':=tk) fun b o e=>hx b o (Nat.ne_of_lt (Heap.lt_size e)) e
  exact h pins _ σ H (El x) _ Q I1 hv hw
 subst e1
 cases r
 rcases hq with hq|hq
 ·obtain⟨its,rv,ht,hz⟩:=I.tuple hq
  refine assign_Tuple_tuple (I.ok.hd hc) ht (by simp[hn,<-hl,rv.length]) hst fun h' hx=>?_
  have I1:Inv X pins σ H {s with heap:=h'}:=I.kept (t':=s.toks) fun b o e=>hx b o (Nat.ne_of_lt (Heap.lt_size e)) e
  exact h pins _ σ H xs _ Q I1 (by simpa using rv) hw
 ·obtain⟨its,rv,ht,hz⟩:=I.list hq
  refine Nu (I.ok.hd hc) ht.isList (by simp[hn,<-hl,rv.length]) hst fun h' hx=>?_
  have I1:Inv X pins σ H {s with heap:=h'}:=I.kept (t':=s.toks) fun b o e=>hx b o (Nat.ne_of_lt (Heap.lt_size e)) e
  exact h pins _ σ H xs _ Q I1 (by simpa using rv) hw
end
def Zjy (X:Cx)(tg:Expr)(g:D->Zl->M Zl):Prop:=
 ∃t:TG,PG X tg t/\∀(H0:Hp) (B:Addr->Prop) (Hf:Hp) (sd:Zl) (σ:L2.St) (H:Hp) (v:V) (d:D) (sd':Zl) (Q:L2.St->Hp->Prop),SR X.K H0 B Hf sd σ H->Rep X.K Hf d v->g d sd=.ok sd' ->
  (∀σ',SR X.K H0 B Hf sd' σ' H->Q σ' H)->t v σ H Q
def Zf8 (X:Cx)(ts:List Expr)(g:List D->Zl->M Zl):Prop:=
 ∃t:Zhw,Zl8 X ts t/\∀(H0:Hp) (B:Addr->Prop) (Hf:Hp) (sd:Zl) (σ:L2.St) (H:Hp) (vs:List V) (ds:List D) (sd':Zl) (Q:L2.St->Hp->Prop),SR X.K H0 B Hf sd σ H->Reps X.K Hf ds vs->g ds sd=.ok sd' ->
  (∀σ',SR X.K H0 B Hf sd' σ' H->Q σ' H)->t vs σ H Q
section
variable {X:Cx}{E:XK}{pos:Pos}{a b:Expr}
def Y1 (i:Nat)(d:D)(sd:Zl):M Zl:=.ok (sd.set i (some (.im d)))
def Qa (i:Nat){x:Str}(hN:X.N.Nodup)(hi:X.N[i]?=some x:=by rfl)(hx:Zbw X.env.scope x:=by trivial)(hf:X.fn x=true\/X.env.scope.names.lookup x=some .local:=by first|exact .inl rfl|exact .inr rfl|assumption):
  Zjy X (.Name x pos) (Y1 i):=by
 refine⟨_,Sc hN hi hx hf,fun H0 B Hf sd σ H v d sd' Q sr r e h=>?_⟩
 cases e
 exact h _ (sr.set_im i r)
def K5:List D->Zl->M Zl
 |[],sd=>.ok sd
 |_,_=>.bad
def Qp (g:D->Zl->M Zl)(gs:List D->Zl->M Zl):List D->Zl->M Zl
 |d::ds,sd=>(g d sd).bind fun sd'=>gs ds sd'
 |_,_=>.bad
def K6:Zf8 X [] K5:=by
 refine⟨_,F3,fun H0 B Hf sd σ H vs ds sd' Q sr r e h=>?_⟩
 cases ds with
 |nil=>cases e;exact⟨reps_nil.mp r,h σ sr⟩
 |cons d ds=>cases e
def Qx {es:List Expr}{g:D->Zl->M Zl}{gs:List D->Zl->M Zl}(h1:Zjy X a g)(h2:Zf8 X es gs)(hs:(assignEach (a::es) X.env).map (·.2)=assign a X.env::(assignEach es X.env).map (·.2):=by rfl):Zf8 X (a::es) (Qp g gs):=by
 obtain⟨t,p,q⟩:=h1
 obtain⟨t2,p2,q2⟩:=h2
 refine⟨_,Sj p p2 hs,fun H0 B Hf sd σ H vs ds sd' Q sr r e h=>?_⟩
 cases ds with
 |nil=>cases e
 |cons d ds=>
  obtain⟨v,vr,rfl,rv,rr⟩:=reps_cons.mp r
  cases e1:g d sd with
  |ok sd1=>
   have e':gs ds sd1=.ok sd':=by
    have e:(g d sd).bind (fun sd'=>gs ds sd')=.ok sd':=e
    rw[e1] at e
    exact e
   exact⟨v,vr,rfl,q H0 B Hf sd σ H v d sd1 _ sr rv e1 fun σ1 sr1=>q2 H0 B Hf sd1 σ1 H vr ds sd' Q sr1 rr e' h⟩
  |ex x=>have e:(g d sd).bind (fun sd'=>gs ds sd')=.ok sd':=e;rw[e1] at e;cases e
  |bad=>have e:(g d sd).bind (fun sd'=>gs ds sd')=.ok sd':=e;rw[e1] at e;cases e
def Kr (n:Nat)(gs:List D->Zl->M Zl):D->Zl->M Zl
 |.tup ds,sd=>if ds.length=n then gs ds sd else .bad
 |.lst ds,sd=>if ds.length=n then gs ds sd else .bad
 |.str x,sd=>if x.cps.size=n/\x.cps.all (·<128)=true then gs (x.cps.toList.map fun c=>.str ⟨#[c]⟩) sd else .bad
 |_,_=>.bad
theorem Ce {K:PySem.W.Frag}{H:Hp}:∀l:List Nat,Reps K H (l.map fun c=>D.str ⟨#[c]⟩) (l.map fun c=>V.str ⟨#[c]⟩)
 |[]=>Reps.nil
 |_::l=>Reps.cons (rep_str.mpr rfl) (Ce l)
def Ud {es:List Expr}{k:Nat}{gs:List D->Zl->M Zl}{n:Nat}(hc:X.calm=true)(h:Zf8 X es gs)(hn:(assignEach es X.env).length=n:=by rfl)(hst:(assignEach es X.env).findIdx? (·.1)=none:=by rfl):Zjy X (.Tuple es k pos) (Kr n gs):=by
 obtain⟨t,p,q⟩:=h
 refine⟨_,Zcm hc p hn hst,fun H0 B Hf sd σ H v d sd' Q sr r e h=>?_⟩
 unfold Kr at e
 split at e
 ·rename_i ds
  split at e
  ·rename_i hl
   obtain⟨a,xs,rfl,ha,hr⟩:=Qu r
   exact .inl ⟨a,xs,rfl,.inl (Same.seqT sr.sub ha),by rw[<-hr.length];exact hl,q H0 B Hf sd σ H xs ds sd' Q sr hr e h⟩
  ·cases e
 ·rename_i ds
  split at e
  ·rename_i hl
   obtain⟨a,xs,rfl,ha,hr⟩:=rep_lst.mp r
   exact .inl ⟨a,xs,rfl,.inr (sr.sub.seq ha),by rw[<-hr.length];exact hl,q H0 B Hf sd σ H xs ds sd' Q sr hr e h⟩
  ·cases e
 ·rename_i x
  split at e
  ·rename_i hl
   exact .inr ⟨x,rep_str.mp r,hl.2,hl.1,q H0 B Hf sd σ H (El x) _ sd' Q sr (Ce x.cps.toList) e h⟩
  ·cases e
 ·cases e
def P0 (f:Zl->M D)(g:D->Zl->M Zl)(sd:Zl):M O:=(f sd).bind fun d=>match g d sd with
 |.ok sd'=>.ok (.nx sd')
 |_=>.bad
def Nv {e tg:Expr}{f:Zl->M D}{g:D->Zl->M Zl}(h:X4 X E e f)(hg:Zjy X tg g)(hs:swapsWithSole [tg] e pos.line X.env=pure false:=by rfl)(hw:swappedStores [tg] e X.env=pure none:=by rfl)(h1:(assignEach [tg] X.env).map (·.2)=[assign tg X.env]:=by rfl):Ss X E (.Assign [tg] e pos) (P0 f g):=by
 obtain⟨t,p,q⟩:=h
 obtain⟨tg',pg,qg⟩:=hg
 refine⟨_,Zi7 p pg hs hw h1,fun H0 B Hf sd σ H D sr h=>?_⟩
 refine q H0 B Hf sd σ H _ sr (PoS.bind sr h fun d v Hf1 H1 _ g1 sr1 rv h1=>?_)
 split at h1
 ·rename_i sd' e1
  exact qg H0 B Hf1 sd σ H1 v d sd' _ sr1 rv e1 fun σ' sr'=>h1 σ' Hf1 H1 (Same.refl _) sr'
 ·exact h1.elim
def Bm (i j:Nat)(fs:Zl->M (List D))(sd:Zl):M O:=(fs sd).bind fun ds=>match ds with
 |[d,e]=>.ok (.nx ((sd.set i (some (.im d))).set j (some (.im e))))
 |_=>.bad
def Hg (i j:Nat){x y:Str}{fs:Zl->M (List D)}{px py pt:Pos}{kt k2 pt2}(hc:X.calm=true)(hN:X.N.Nodup)(ha:Aw X E [a,b] fs)(hw:swappedStores [.Tuple [.Name x px,.Name y py] kt pt] (.Tuple [a,b] k2 pt2) X.env=pure (some [x,y]))(hi:X.N[i]?=some x:=by rfl)(hj:X.N[j]?=some y:=by rfl)(hij:i≠j:=by decide)(hx:X.env.scope.names.lookup x=some .local:=by rfl)(hy:X.env.scope.names.lookup y=some .local:=by rfl)(hs:swapsWithSole [.Tuple [.Name x px,.Name y py] kt pt] (.Tuple [a,b] k2 pt2) pos.line X.env=pure false:=by rfl):
  Ss X E (.Assign [.Tuple [.Name x px,.Name y py] kt pt] (.Tuple [a,b] k2 pt2) pos) (Bm i j fs):=by
 obtain⟨t,p,q⟩:=ha
 refine⟨_,Zi8 hc hN hi hj hij hx hy p hw hs,fun H0 B Hf sd σ H D sr h=>?_⟩
 refine q H0 B Hf sd σ H _ sr (PoS.bind sr h fun ds vs Hf1 H1 _ g1 sr1 rs h1=>?_)
 split at h1
 ·rename_i d e
  obtain⟨v,w,rfl,rv,rw'⟩:=Zcj rs
  exact⟨v,w,rfl,h1 _ Hf1 H1 (Same.refl _) ((sr1.set_im i rv).set_im j rw')⟩
 ·exact h1.elim
def S.toD:S->M D
 |.im d=>.ok d
 |.ow ds=>.ok (.lst ds)
 |.od _=>.bad
 |.dk _=>.bad
 |.xc _=>.bad
 |.fn _=>.bad
 |.ob _ _ _=>.bad
 |.fl _ _ _=>.bad
def Ax (K:PySem.W.Frag)(F:List D->M S):Sp:=fun vs H Q _=>∃Hf ds s,Same Hf H/\Reps K Hf ds vs/\F ds=.ok s/\∀v Hf' H',Gr Hf H Hf' H'->RS K H Hf' H' s v->Q v H'
def R4 (r:M O):M S:=r.bind fun o=>match o with
 |.rt s=>.ok s
 |.nx _=>.ok (.im .non)
 |_=>.bad
def Vr (n m:Nat)(f:Zl->M O)(ds:List D):M S:=if ds.length=n then R4 (f (ds.map (fun d=>some (S.im d))++List.replicate m none)) else .bad
def Zcn {K:PySem.W.Frag}{N:List Str}{Hf H:Hp}{ds:List D}{vs:List V}{m:Nat}(e:Same Hf H)(r:Reps K Hf ds vs)(hN:N.length=ds.length+m):
  SR K H (fun a=>Lv H a/\Hf a=none) Hf (ds.map (fun d=>some (S.im d))++List.replicate m none) (L2.Jk N vs) H where
 sub:=e
 all:=Same.refl _
 ban:=fun _ h=>h.2
 bt:=fun _ h=>h.1
 len:=by
  unfold L2.Jk
  have:=r.length
  simp only[List.length_append,List.length_map,List.length_replicate]
  lia
 imS:=fun i d hi hz=>by
  unfold L2.Jk
  by_cases hl:i<ds.length
  ·rw[List.getElem?_append_left (by simpa using hl),List.getElem?_map] at hi
   cases q:ds[i]? with
   |none=>rw[q] at hi;cases hi
   |some d'=>
    rw[q] at hi
    cases hi
    obtain⟨v,e1,e2⟩:=r.get q
    refine⟨v,?_,e2⟩
    have:i<vs.length:=(List.getElem?_eq_some_iff.mp e1).1
    rw[List.getElem?_append_left (by simpa using this),List.getElem?_map,e1]
    rfl
  ·rw[List.getElem?_append_right (by simpa using hl),List.getElem?_replicate] at hi
   split at hi<;>cases hi
 ow:=fun i t hi ho=>by
  by_cases hl:i<ds.length
  ·rw[List.getElem?_append_left (by simpa using hl),List.getElem?_map] at hi
   cases q:ds[i]? with
   |none=>rw[q] at hi;cases hi
   |some d'=>rw[q] at hi;cases hi;cases ho
  ·rw[List.getElem?_append_right (by simpa using hl),List.getElem?_replicate] at hi
   split at hi<;>cases hi
 sep:=fun i j t _ p _ hi ho _ _ _ _=>by
  by_cases hl:i<ds.length
  ·rw[List.getElem?_append_left (by simpa using hl),List.getElem?_map] at hi
   cases q:ds[i]? with
   |none=>rw[q] at hi;cases hi
   |some d'=>rw[q] at hi;cases hi;cases ho
  ·rw[List.getElem?_append_right (by simpa using hl),List.getElem?_replicate] at hi
   split at hi<;>cases hi
def Xk {P:Program}{w:World}{K:PySem.W.Frag}{mg:Str->Option Value}{base:Heap}{x qual:Str}{st:Stmt}{f:Addr}{fd:FuncData}{N ps:List Str}{k m n:Nat}{fb:Zl->M O}(F:Fun K x qual st f fd)(sc:FnScope N ps (Zk st))(hn:ps.length=n)(hN:N.length=n+m)(hbody:∀(cdv:Value) (A:Around) (outer:List Env) (s:Shared) (H:Hp) (E:XK),Room k (A.deeper (envOfC qual (Zk st) s.heap.objs.size f cdv)) ->
   Ps (Vd Xj P w K mg base N qual (Zk st) f cdv A outer s H E).nox E0 (Xy st) fb):FnOk P w K mg base Xj (k+1) f fd ps (Ax K (Vr n m fb)):=by
 refine F.ok sc (fun vs H Q E h=>?_) (fun cdv A outer s H vs Q E hr h=>?_)
 ·obtain⟨Hf,ds,s,e,r,hF,_⟩:=h
  unfold Vr at hF
  split at hF
  ·rename_i hl
   rw[<-r.length,hl,hn]
  ·cases hF
 ·obtain⟨Hf,ds,s',e,r,hF,q⟩:=h
  obtain⟨t,p,qt⟩:=hbody cdv A outer s H E hr
  unfold Vr at hF
  split at hF
  ·rename_i hl
   refine⟨t,p,qt H _ Hf _ (L2.Jk N vs) H _ (Zcn (N:=N) (m:=m) e r (by lia)) ?_⟩
   generalize fb (List.map (fun d=>some (S.im d)) ds++List.replicate m none)=ro at hF
   have back:∀{v:V}{Hf' H':Hp}{s:DL.S},Same Hf Hf'->Fin' H (fun a=>Lv H a/\Hf a=none) Hf' H'->RS K H Hf' H' s v->s=s'->Q v H':=fun {v Hf' H' s} e1 e2 e3 e4=>by
    subst e4
    exact q v Hf' H' ⟨e1,e2.sub,e2.all,fun a h1 h2=>e2.ban a ⟨h1,h2⟩⟩ e3
   cases ro with
   |ok o=>
    cases o with
    |rt s2=>
     have e':s2=s':=by cases hF;rfl
     exact fun v Hf' H' e1 e2 e3=>back e1 e2 e3 e'
    |nx sd'=>
     have e':DL.S.im .non=s':=by cases hF;rfl
     exact fun σ' Hf' H' e1 sr'=>back (v:=.non) (s:=DL.S.im .non) e1 sr'.fin (show Rep K Hf' .non .non from rep_non.mpr rfl) e'
    |bk sd'=>cases hF
    |ct sd'=>cases hF
   |ex x=>cases hF
   |bad=>cases hF
  ·cases hF
def Zt (F:List D->M S)(fs:Zl->M (List D))(sd:Zl):M D:=(fs sd).bind fun ds=>match F ds with
 |.ok s=>s.toD
 |_=>.bad
def Jw {k:Nat}{f:Addr}{fd:FuncData}{ps:List Str}{F:List D->M S}{x:Str}{p:Pos}{es:List Expr}{fs:Zl->M (List D)}(G:FnOk X.prog X.w X.K X.mg X.base Xj k f fd ps (Ax X.K F))(hr:Room k X.A)(hm:X.mg x=some (.ref f))(hk:PySem.W.keepIn X.K (.ref f)=true)(hb:Binds X.K fd ps [])(ha:Aw X E (a::es) fs)(hg:Gl X x:=by rfl) (hdb:(x==("__debug__":Str))=false:=by decide) (he:starEach (a::es) X.env=(false,eval a X.env)::starEach es X.env:=by rfl) (hpl:(backTo pos (starEach es X.env)).any (·.1)=false:=by rfl):
  X4 X E (.Call (.Name x p) (a::es) [] pos) (Zt F fs):=by
 obtain⟨t,pt,qt⟩:=ha
 refine⟨_,U3 (dvs:=[]) (E:=E0) G hr hg hm hk hb .nil Vv pt hdb he hpl,fun H0 B Hf sd σ H Q sr h=>?_⟩
 refine qt H0 B Hf sd σ H _ sr (Po.bind h fun ds vs Hf1 H1 _ g1 rs h1=>?_)
 split at h1
 ·rename_i s e
  refine⟨Hf1,ds,s,g1.sub,by rw[List.append_nil];exact rs,e,fun v Hf' H' g2 rv=>?_⟩
  cases s with
  |im d=>exact h1 v Hf' H' g2 rv
  |ow es=>
   obtain⟨p,rfl,e1,e2,xs,e3,e4⟩:=rv
   refine h1 _ (upd Hf' p (.lst xs)) H' ⟨g2.fz.trans (Qw e2 _),fun b u q=>?_,g2.all,fun a h1 h2=>?_⟩ (rep_lst.mpr ⟨p,xs,rfl,SqL.of Z2,e4.mono (Qw e2 _)⟩)
   ·by_cases hb:b=p
    ·subst hb;rw[Z2] at q;rw[e3];exact q
    ·rw[Zp hb] at q;exact g2.sub b u q
   ·have:a≠p:=fun z=>h1.nn (z▸e1)
    rw[Zp this];exact g2.ban a h1 h2
  |od kvs=>exact h1.elim
  |dk kvs=>exact h1.elim
  |xc x=>exact h1.elim
  |fn x=>exact h1.elim
  |ob a c r=>exact h1.elim
  |fl a g q=>exact h1.elim
 ·exact h1.elim
end
mutual
def D.eq:D->D->Bool
 |.non,.non=>true
 |.bl a,.bl b=>a==b
 |.bl a,.int b=>(if a then 1 else 0)==b
 |.int a,.bl b=>a==(if b then 1 else 0)
 |.int a,.int b=>a==b
 |.str a,.str b=>a==b
 |.tup xs,.tup ys=>D.eqs xs ys
 |.lst xs,.lst ys=>D.eqs xs ys
 |_,_=>false
def D.eqs:List D->List D->Bool
 |[],[]=>true
 |x::xs,y::ys=>D.eq x y&&D.eqs xs ys
 |_,_=>false
end
mutual
def D.dep:D->Nat
 |.tup ds=>D.deps ds+1
 |.lst ds=>D.deps ds+1
 |_=>0
def D.deps:List D->Nat
 |[]=>0
 |d::ds=>max (D.dep d) (D.deps ds)
end
mutual
theorem D.eq_refl:∀d:D,D.eq d d=true
 |.non=>by rw[D.eq]
 |.bl b=>by rw[D.eq];simp
 |.int i=>by rw[D.eq];simp
 |.str x=>by rw[D.eq];simp
 |.tup ds=>by rw[D.eq];exact D.eqs_refl ds
 |.lst ds=>by rw[D.eq];exact D.eqs_refl ds
theorem D.eqs_refl:∀ds:List D,D.eqs ds ds=true
 |[]=>by rw[D.eqs]
 |d::ds=>by rw[D.eqs,D.eq_refl d,D.eqs_refl ds];rfl
end
theorem D.eqs_all:∀ds es:List D,D.eqs ds es=((List.range (min ds.length es.length)).all (fun j=>D.eq (ds.getD j .non) (es.getD j .non))&&ds.length==es.length)
 |[],[]=>by rw[D.eqs];rfl
 |[],_::_=>by rw[D.eqs];simp;all_goals (intros;simp_all)
 |_::_,[]=>by rw[D.eqs];simp;all_goals (intros;simp_all)
 |d::ds,e::es=>by
  have h:min (d::ds).length (e::es).length=min ds.length es.length+1:=by simp only[List.length_cons];lia
  rw[D.eqs,D.eqs_all ds es,h,List.range_succ_eq_map,List.all_cons,List.all_map,Bool.and_assoc]
  congr 1
  simp only[List.length_cons]
  congr 1
  by_cases q:ds.length=es.length
  ·simp[q]
  ·have q':¬ds.length+1=es.length+1:=by lia
   simp[q]
section
variable {X:Cx}{pins:List (Addr×Obj)}{σ:L2.St}{H:Hp}{s:Shared}
def Zco (I:Inv X pins σ H s){a:Addr}{xs ys:List V}(h1:SqT X.K H a xs)(h2:SqL X.K H a ys):False:=by
 obtain⟨its,_,⟨o,e,c,_⟩,_⟩:=I.tuple h1
 obtain⟨its2,_,p,_⟩:=I.list h2
 obtain⟨o2,e2,c2,_⟩:=p.isList
 rw[e] at e2
 cases e2
 rw[c] at c2
 exact absurd c2 (by decide)
mutual
theorem Nw (I:Inv X pins σ H s):∀(d d':D) (v:V),Rep X.K H d v->Rep X.K H d' v->d=d'
 |.non,d',v,h1,h2=>by
  rw[rep_non] at h1;subst h1
  cases d' with
  |non=>rfl
  |bl b=>rw[rep_bl] at h2;cases h2
  |int b=>rw[rep_int] at h2;cases h2
  |str b=>rw[rep_str] at h2;cases h2
  |tup b=>rw[rep_tup] at h2;obtain⟨_,_,e,_⟩:=h2;cases e
  |lst b=>rw[rep_lst] at h2;obtain⟨_,_,e,_⟩:=h2;cases e
 |.bl a,d',v,h1,h2=>by
  rw[rep_bl] at h1;subst h1
  cases d' with
  |non=>rw[rep_non] at h2;cases h2
  |bl b=>rw[rep_bl] at h2;cases h2;rfl
  |int b=>rw[rep_int] at h2;cases h2
  |str b=>rw[rep_str] at h2;cases h2
  |tup b=>rw[rep_tup] at h2;obtain⟨_,_,e,_⟩:=h2;cases e
  |lst b=>rw[rep_lst] at h2;obtain⟨_,_,e,_⟩:=h2;cases e
 |.int a,d',v,h1,h2=>by
  rw[rep_int] at h1;subst h1
  cases d' with
  |non=>rw[rep_non] at h2;cases h2
  |bl b=>rw[rep_bl] at h2;cases h2
  |int b=>rw[rep_int] at h2;cases h2;rfl
  |str b=>rw[rep_str] at h2;cases h2
  |tup b=>rw[rep_tup] at h2;obtain⟨_,_,e,_⟩:=h2;cases e
  |lst b=>rw[rep_lst] at h2;obtain⟨_,_,e,_⟩:=h2;cases e
 |.str a,d',v,h1,h2=>by
  rw[rep_str] at h1;subst h1
  cases d' with
  |non=>rw[rep_non] at h2;cases h2
  |bl b=>rw[rep_bl] at h2;cases h2
  |int b=>rw[rep_int] at h2;cases h2
  |str b=>rw[rep_str] at h2;cases h2;rfl
  |tup b=>rw[rep_tup] at h2;obtain⟨_,_,e,_⟩:=h2;cases e
  |lst b=>rw[rep_lst] at h2;obtain⟨_,_,e,_⟩:=h2;cases e
 |.tup ds,d',v,h1,h2=>by
  obtain⟨a,xs,rfl,ha,hr⟩:=Qu h1
  cases d' with
  |non=>rw[rep_non] at h2;cases h2
  |bl b=>rw[rep_bl] at h2;cases h2
  |int b=>rw[rep_int] at h2;cases h2
  |str b=>rw[rep_str] at h2;cases h2
  |tup es=>
   obtain⟨b,ys,e,hb,hr2⟩:=Qu h2
   cases e
   have:=I.tuple_inj ha hb
   subst this
   rw[Sv I ds es xs hr hr2]
  |lst es=>
   obtain⟨b,ys,e,hb,hr2⟩:=rep_lst.mp h2
   cases e
   exact(Zco I ha hb).elim
 |.lst ds,d',v,h1,h2=>by
  obtain⟨a,xs,rfl,ha,hr⟩:=rep_lst.mp h1
  cases d' with
  |non=>rw[rep_non] at h2;cases h2
  |bl b=>rw[rep_bl] at h2;cases h2
  |int b=>rw[rep_int] at h2;cases h2
  |str b=>rw[rep_str] at h2;cases h2
  |tup es=>
   obtain⟨b,ys,e,hb,hr2⟩:=Qu h2
   cases e
   exact(Zco I hb ha).elim
  |lst es=>
   obtain⟨b,ys,e,hb,hr2⟩:=rep_lst.mp h2
   cases e
   have:=I.list_inj ha hb
   subst this
   rw[Sv I ds es xs hr hr2]
theorem Sv (I:Inv X pins σ H s):∀(ds es:List D) (vs:List V),Reps X.K H ds vs->Reps X.K H es vs->ds=es
 |[],[],_,_,_=>rfl
 |[],e::es,vs,h1,h2=>by
  rw[reps_nil] at h1;subst h1
  obtain⟨_,_,z,_⟩:=reps_cons.mp h2
  cases z
 |d::ds,[],vs,h1,h2=>by
  rw[reps_nil] at h2;subst h2
  obtain⟨_,_,z,_⟩:=reps_cons.mp h1
  cases z
 |d::ds,e::es,vs,h1,h2=>by
  obtain⟨v,r,rfl,a1,a2⟩:=reps_cons.mp h1
  obtain⟨v',r',z,b1,b2⟩:=reps_cons.mp h2
  cases z
  rw[Nw I d e v a1 b1,Sv I ds es r a2 b2]
end
structure Cm (A:Around) (s:Shared) (u v:Value) (b:Bool):Prop where
 rc:SeqAt.RcAt A s u v b
 ne:SeqAt.RcNeAt A s u v (!b)
 eq:SeqAt.EqAt A s u v b
mutual
theorem Sw (I:Inv X pins σ H s):∀(x y:D) (A:Around) (v w:V) (u1 u2:Value),A.units+x.dep<cLine->Rep X.K H x v->Rep X.K H y w->RelV v u1->RelV w u2->Cm A s u1 u2 (D.eq x y)
 |.non,y,A,v,w,u1,u2,hu,rx,ry,r1,r2=>by
  rw[rep_non] at rx;subst rx
  have r1:u1=Value.none:=r1
  subst r1
  have hu':A.units<cLine:=by lia
  cases y with
  |non=>rw[rep_non] at ry;subst ry;cases (show u2=Value.none from r2);rw[D.eq];exact⟨.none_none,.none_none,.same _⟩
  |bl b=>rw[rep_bl] at ry;subst ry;cases (show u2=Value.bool b from r2);rw[D.eq];exact⟨.none_bool b,.none_bool b,.none_bool b⟩;all_goals (intros;simp_all)
  |int b=>rw[rep_int] at ry;subst ry;obtain⟨t,q⟩:=(show ∃t,u2=Value.int b t from r2);subst q;rw[D.eq];exact⟨.none_int b t,.none_int b t,.none_int b t⟩;all_goals (intros;simp_all)
  |str b=>rw[rep_str] at ry;subst ry;obtain⟨t,q⟩:=(show ∃t,u2=Value.str b t from r2);subst q;rw[D.eq];exact⟨.none_str b t,.none_str b t,.none_str b t⟩;all_goals (intros;simp_all)
  |tup es=>
   obtain⟨p,xs,rfl,hp,hr⟩:=Qu ry
   cases (show u2=Value.ref p from r2)
   obtain⟨its,_,ht,_⟩:=I.tuple hp
   rw[D.eq]
   exact⟨.none_tuple ht hu',.none_tuple ht hu',.none_tuple ht hu'⟩
   all_goals (intros;simp_all)
  |lst es=>
   obtain⟨p,xs,rfl,hp,hr⟩:=rep_lst.mp ry
   cases (show u2=Value.ref p from r2)
   obtain⟨its,_,ht,_⟩:=I.list hp
   rw[D.eq]
   exact⟨.none_list ht.isList hu',.none_list ht.isList hu',.none_list ht.isList hu'⟩
   all_goals (intros;simp_all)
 |.bl a,y,A,v,w,u1,u2,hu,rx,ry,r1,r2=>by
  rw[rep_bl] at rx;subst rx
  have r1:u1=Value.bool a:=r1
  subst r1
  have hu':A.units<cLine:=by lia
  cases y with
  |non=>rw[rep_non] at ry;subst ry;cases (show u2=Value.none from r2);rw[D.eq];exact⟨.bool_none a,.bool_none a,.bool_none a⟩;all_goals (intros;simp_all)
  |bl b=>rw[rep_bl] at ry;subst ry;cases (show u2=Value.bool b from r2);rw[D.eq];exact⟨.bool_bool a b,.bool_bool a b,.bool_bool a b⟩
  |int b=>rw[rep_int] at ry;subst ry;obtain⟨t,q⟩:=(show ∃t,u2=Value.int b t from r2);subst q;rw[D.eq];exact⟨.bool_int a b t,.bool_int a b t,.bool_int a b t⟩
  |str b=>rw[rep_str] at ry;subst ry;obtain⟨t,q⟩:=(show ∃t,u2=Value.str b t from r2);subst q;rw[D.eq];exact⟨.bool_str a b t,.bool_str a b t,.bool_str a b t⟩;all_goals (intros;simp_all)
  |tup es=>
   obtain⟨p,xs,rfl,hp,hr⟩:=Qu ry
   cases (show u2=Value.ref p from r2)
   obtain⟨its,_,ht,_⟩:=I.tuple hp
   rw[D.eq]
   exact⟨.bool_tuple a ht hu',.bool_tuple a ht hu',.bool_tuple a ht hu'⟩
   all_goals (intros;simp_all)
  |lst es=>
   obtain⟨p,xs,rfl,hp,hr⟩:=rep_lst.mp ry
   cases (show u2=Value.ref p from r2)
   obtain⟨its,_,ht,_⟩:=I.list hp
   rw[D.eq]
   exact⟨.bool_list a ht.isList hu',.bool_list a ht.isList hu',.bool_list a ht.isList hu'⟩
   all_goals (intros;simp_all)
 |.int a,y,A,v,w,u1,u2,hu,rx,ry,r1,r2=>by
  rw[rep_int] at rx;subst rx
  obtain⟨t1,q1⟩:=(show ∃t,u1=Value.int a t from r1)
  subst q1
  have hu':A.units<cLine:=by lia
  cases y with
  |non=>rw[rep_non] at ry;subst ry;cases (show u2=Value.none from r2);rw[D.eq];exact⟨.int_none a t1,.int_none a t1,.int_none a t1⟩;all_goals (intros;simp_all)
  |bl b=>rw[rep_bl] at ry;subst ry;cases (show u2=Value.bool b from r2);rw[D.eq];exact⟨.int_bool a t1 b,.int_bool a t1 b,.int_bool a t1 b⟩
  |int b=>rw[rep_int] at ry;subst ry;obtain⟨t,q⟩:=(show ∃t,u2=Value.int b t from r2);subst q;rw[D.eq];exact⟨.int_int a t1 b t,.int_int a t1 b t,.int_int a t1 b t⟩
  |str b=>rw[rep_str] at ry;subst ry;obtain⟨t,q⟩:=(show ∃t,u2=Value.str b t from r2);subst q;rw[D.eq];exact⟨.int_str a t1 b t,.int_str a t1 b t,.int_str a t1 b t⟩;all_goals (intros;simp_all)
  |tup es=>
   obtain⟨p,xs,rfl,hp,hr⟩:=Qu ry
   cases (show u2=Value.ref p from r2)
   obtain⟨its,_,ht,_⟩:=I.tuple hp
   rw[D.eq]
   exact⟨.int_tuple a t1 ht hu',.int_tuple a t1 ht hu',.int_tuple a t1 ht hu'⟩
   all_goals (intros;simp_all)
  |lst es=>
   obtain⟨p,xs,rfl,hp,hr⟩:=rep_lst.mp ry
   cases (show u2=Value.ref p from r2)
   obtain⟨its,_,ht,_⟩:=I.list hp
   rw[D.eq]
   exact⟨.int_list a t1 ht.isList hu',.int_list a t1 ht.isList hu',.int_list a t1 ht.isList hu'⟩
   all_goals (intros;simp_all)
 |.str a,y,A,v,w,u1,u2,hu,rx,ry,r1,r2=>by
  rw[rep_str] at rx;subst rx
  obtain⟨t1,q1⟩:=(show ∃t,u1=Value.str a t from r1)
  subst q1
  have hu':A.units<cLine:=by lia
  cases y with
  |non=>rw[rep_non] at ry;subst ry;cases (show u2=Value.none from r2);rw[D.eq];exact⟨.str_none a t1,.str_none a t1,.str_none a t1⟩;all_goals (intros;simp_all)
  |bl b=>rw[rep_bl] at ry;subst ry;cases (show u2=Value.bool b from r2);rw[D.eq];exact⟨.str_bool a t1 b,.str_bool a t1 b,.str_bool a t1 b⟩;all_goals (intros;simp_all)
  |int b=>rw[rep_int] at ry;subst ry;obtain⟨t,q⟩:=(show ∃t,u2=Value.int b t from r2);subst q;rw[D.eq];exact⟨.str_int a t1 b t,.str_int a t1 b t,.str_int a t1 b t⟩;all_goals (intros;simp_all)
  |str b=>rw[rep_str] at ry;subst ry;obtain⟨t,q⟩:=(show ∃t,u2=Value.str b t from r2);subst q;rw[D.eq];exact⟨.str_str a t1 b t,.str_str a t1 b t,.str_str a t1 b t⟩
  |tup es=>
   obtain⟨p,xs,rfl,hp,hr⟩:=Qu ry
   cases (show u2=Value.ref p from r2)
   obtain⟨its,_,ht,_⟩:=I.tuple hp
   rw[D.eq]
   exact⟨.str_tuple a t1 ht hu',.str_tuple a t1 ht hu',.str_tuple a t1 ht hu'⟩
   all_goals (intros;simp_all)
  |lst es=>
   obtain⟨p,xs,rfl,hp,hr⟩:=rep_lst.mp ry
   cases (show u2=Value.ref p from r2)
   obtain⟨its,_,ht,_⟩:=I.list hp
   rw[D.eq]
   exact⟨.str_list a t1 ht.isList hu',.str_list a t1 ht.isList hu',.str_list a t1 ht.isList hu'⟩
   all_goals (intros;simp_all)
 |.tup ds,y,A,v,w,u1,u2,hu,rx,ry,r1,r2=>by
  rw[D.dep] at hu
  have hu':A.units<cLine:=by lia
  obtain⟨p1,xs1,rfl,hp1,hr1⟩:=Qu rx
  cases (show u1=Value.ref p1 from r1)
  obtain⟨its1,rv1,ht1,_⟩:=I.tuple hp1
  cases y with
  |non=>rw[rep_non] at ry;subst ry;cases (show u2=Value.none from r2);rw[D.eq];exact⟨.tuple_none ht1 hu',.tuple_none ht1 hu',.tuple_none ht1 hu'⟩;all_goals (intros;simp_all)
  |bl b=>rw[rep_bl] at ry;subst ry;cases (show u2=Value.bool b from r2);rw[D.eq];exact⟨.tuple_bool b ht1 hu',.tuple_bool b ht1 hu',.tuple_bool b ht1 hu'⟩;all_goals (intros;simp_all)
  |int b=>rw[rep_int] at ry;subst ry;obtain⟨t,q⟩:=(show ∃t,u2=Value.int b t from r2);subst q;rw[D.eq];exact⟨.tuple_int b t ht1 hu',.tuple_int b t ht1 hu',.tuple_int b t ht1 hu'⟩;all_goals (intros;simp_all)
  |str b=>rw[rep_str] at ry;subst ry;obtain⟨t,q⟩:=(show ∃t,u2=Value.str b t from r2);subst q;rw[D.eq];exact⟨.tuple_str b t ht1 hu',.tuple_str b t ht1 hu',.tuple_str b t ht1 hu'⟩;all_goals (intros;simp_all)
  |tup es=>
   obtain⟨p2,xs2,rfl,hp2,hr2⟩:=Qu ry
   cases (show u2=Value.ref p2 from r2)
   obtain⟨its2,rv2,ht2,_⟩:=I.tuple hp2
   have l1:its1.toArray.size=ds.length:=by rw[List.size_toArray,<-rv1.length,<-hr1.length]
   have l2:its2.toArray.size=es.length:=by rw[List.size_toArray,<-rv2.length,<-hr2.length]
   have items:=Bn I ds es A.in1 xs1 xs2 its1 its2 (by show A.units+1+_<_;lia) hr1 hr2 rv1 rv2
   have he:∀j (h1:j<its1.toArray.size) (h2:j<its2.toArray.size),SeqAt.EqAt A.in1 s its1.toArray[j] its2.toArray[j] (D.eq (ds.getD j .non) (es.getD j .non)):=fun j h1 h2=>by
    refine items j _ _ _ _ ?_ ?_ ?_ ?_
    ·rw[List.getD_eq_getElem?_getD,List.getElem?_eq_getElem (by lia)];simp
    ·rw[List.getD_eq_getElem?_getD,List.getElem?_eq_getElem (by lia)];simp
    ·simp
    ·simp
   have rc:=SeqAt.RcAt.tuples ht1 ht2 hu' he
   have ne:=SeqAt.RcNeAt.tuples ht1 ht2 hu' he
   rw[l1,l2,<-D.eqs_all] at rc ne
   rw[D.eq]
   refine⟨rc,ne,?_⟩
   by_cases hpp:p1=p2
   ·subst hpp
    have:=Nw I _ _ _ rx ry
    cases this
    rw[D.eqs_refl]
    exact .same _
   ·exact .of_refs hpp rc
  |lst es=>
   obtain⟨p2,xs2,rfl,hp2,hr2⟩:=rep_lst.mp ry
   cases (show u2=Value.ref p2 from r2)
   obtain⟨its2,rv2,ht2,_⟩:=I.list hp2
   rw[D.eq]
   exact⟨.tuple_list ht1 ht2.isList hu',.tuple_list ht1 ht2.isList hu',.tuple_list ht1 ht2.isList hu'⟩
   all_goals (intros;simp_all)
 |.lst ds,y,A,v,w,u1,u2,hu,rx,ry,r1,r2=>by
  rw[D.dep] at hu
  have hu':A.units<cLine:=by lia
  obtain⟨p1,xs1,rfl,hp1,hr1⟩:=rep_lst.mp rx
  cases (show u1=Value.ref p1 from r1)
  obtain⟨its1,rv1,pl1,_⟩:=I.list hp1
  have ht1:=pl1.isList
  cases y with
  |non=>rw[rep_non] at ry;subst ry;cases (show u2=Value.none from r2);rw[D.eq];exact⟨.list_none ht1 hu',.list_none ht1 hu',.list_none ht1 hu'⟩;all_goals (intros;simp_all)
  |bl b=>rw[rep_bl] at ry;subst ry;cases (show u2=Value.bool b from r2);rw[D.eq];exact⟨.list_bool b ht1 hu',.list_bool b ht1 hu',.list_bool b ht1 hu'⟩;all_goals (intros;simp_all)
  |int b=>rw[rep_int] at ry;subst ry;obtain⟨t,q⟩:=(show ∃t,u2=Value.int b t from r2);subst q;rw[D.eq];exact⟨.list_int b t ht1 hu',.list_int b t ht1 hu',.list_int b t ht1 hu'⟩;all_goals (intros;simp_all)
  |str b=>rw[rep_str] at ry;subst ry;obtain⟨t,q⟩:=(show ∃t,u2=Value.str b t from r2);subst q;rw[D.eq];exact⟨.list_str b t ht1 hu',.list_str b t ht1 hu',.list_str b t ht1 hu'⟩;all_goals (intros;simp_all)
  |tup es=>
   obtain⟨p2,xs2,rfl,hp2,hr2⟩:=Qu ry
   cases (show u2=Value.ref p2 from r2)
   obtain⟨its2,rv2,ht2,_⟩:=I.tuple hp2
   rw[D.eq]
   exact⟨.list_tuple ht1 ht2 hu',.list_tuple ht1 ht2 hu',.list_tuple ht1 ht2 hu'⟩
   all_goals (intros;simp_all)
  |lst es=>
   obtain⟨p2,xs2,rfl,hp2,hr2⟩:=rep_lst.mp ry
   cases (show u2=Value.ref p2 from r2)
   obtain⟨its2,rv2,pl2,_⟩:=I.list hp2
   have ht2:=pl2.isList
   have l1:its1.toArray.size=ds.length:=by rw[List.size_toArray,<-rv1.length,<-hr1.length]
   have l2:its2.toArray.size=es.length:=by rw[List.size_toArray,<-rv2.length,<-hr2.length]
   have items:=Bn I ds es A.in1 xs1 xs2 its1 its2 (by show A.units+1+_<_;lia) hr1 hr2 rv1 rv2
   have he:∀j (h1:j<its1.toArray.size) (h2:j<its2.toArray.size),SeqAt.EqAt A.in1 s its1.toArray[j] its2.toArray[j] (D.eq (ds.getD j .non) (es.getD j .non)):=fun j h1 h2=>by
    refine items j _ _ _ _ ?_ ?_ ?_ ?_
    ·rw[List.getD_eq_getElem?_getD,List.getElem?_eq_getElem (by lia)];simp
    ·rw[List.getD_eq_getElem?_getD,List.getElem?_eq_getElem (by lia)];simp
    ·simp
    ·simp
   have both:SeqAt.RcAt A s (.ref p1) (.ref p2) (D.eqs ds es)/\SeqAt.RcNeAt A s (.ref p1) (.ref p2) (!D.eqs ds es):=by
    by_cases hl:ds.length=es.length
    ·have rc:=SeqAt.RcAt.lists ht1 ht2 (by lia) hu' he
     have ne:=SeqAt.RcNeAt.lists ht1 ht2 (by lia) hu' he
     have e:D.eqs ds es=(List.range its1.toArray.size).all fun j=>D.eq (ds.getD j .non) (es.getD j .non):=by
      rw[D.eqs_all,l1,<-hl,Nat.min_self];simp
     rw[e]
     exact⟨rc,ne⟩
    ·have e:D.eqs ds es=false:=by rw[D.eqs_all];simp[hl]
     rw[e]
     have hs:(its1.toArray.size != its2.toArray.size)=true:=by rw[l1,l2];simpa using hl
     exact⟨.lists_lengths ht1 ht2 hs hu',.lists_lengths ht1 ht2 hs hu'⟩
   rw[D.eq]
   refine⟨both.1,both.2,?_⟩
   by_cases hpp:p1=p2
   ·subst hpp
    have:=Nw I _ _ _ rx ry
    cases this
    rw[D.eqs_refl]
    exact .same _
   ·exact .of_refs hpp both.1
theorem Bn (I:Inv X pins σ H s):∀(ds es:List D) (A:Around) (vs ws:List V) (us1 us2:List Value),A.units+D.deps ds<cLine->Reps X.K H ds vs->Reps X.K H es ws->Vals vs us1->Vals ws us2 ->
  ∀(j:Nat) (d e:D) (u1 u2:Value),ds[j]?=some d->es[j]?=some e->us1[j]?=some u1->us2[j]?=some u2->SeqAt.EqAt A s u1 u2 (D.eq d e)
 |[],_,_,_,_,_,_,_,_,_,_,_,j,_,_,_,_,h,_,_,_=>by simp at h
 |_::_,[],_,_,_,_,_,_,_,_,_,_,j,_,_,_,_,_,h,_,_=>by simp at h
 |d0::ds,e0::es,A,vs,ws,us1,us2,hu,r1,r2,v1,v2,j,d,e,u1,u2,h1,h2,h3,h4=>by
  rw[D.deps] at hu
  obtain⟨x,xr,rfl,a1,a2⟩:=reps_cons.mp r1
  obtain⟨y,yr,rfl,b1,b2⟩:=reps_cons.mp r2
  cases v1 with
  |cons c1 c2=>
   cases v2 with
   |cons d1 d2=>
    cases j with
    |zero=>
     simp at h1 h2 h3 h4
     subst h1 h2 h3 h4
     exact(Sw I d0 e0 A x y _ _ (by lia) a1 b1 c1 d1).eq
    |succ j=>
     simp at h1 h2 h3 h4
     exact Bn I ds es A xr yr _ _ (by lia) a2 b2 c2 d2 j d e u1 u2 h1 h2 h3 h4
end
end
section
variable {X:Cx}{E:XK}{pos:Pos}{a b:Expr}
def Ys (x y:D):M D:=if x.dep<=60 then .ok (.bl (D.eq x y)) else .bad
def Wm (x y:D):M D:=if x.dep<=60 then .ok (.bl (!D.eq x y)) else .bad
def Ya (hu:X.A.units+64<cLine):Se X E (compareOp .Eq) Ys:=by
 refine⟨fun x y H Q=>∃dx dy,Rep X.K H dx x/\Rep X.K H dy y/\dx.dep<=60/\Q (.bl (D.eq dx dy)) H,fun pins s σ H x y v u Q I rx ry h=>?_,fun Hf H x y dx dy Q e rx ry q=>?_⟩
 ·obtain⟨dx,dy,h1,h2,h3,q⟩:=h
  exact(Sw I dx dy X.A x y v u (by lia) h1 h2 rx ry).rc _ _ _ _ ⟨.bl _,H,I,rfl,q⟩
 ·unfold Ys at q
  split at q
  ·rename_i hd
   exact⟨dx,dy,rx.mono e,ry.mono e,hd,Po.ret e q (rep_bl.mpr rfl)⟩
  ·exact q.elim
def Ue (hu:X.A.units+64<cLine):Se X E (compareOp .NotEq) Wm:=by
 refine⟨fun x y H Q=>∃dx dy,Rep X.K H dx x/\Rep X.K H dy y/\dx.dep<=60/\Q (.bl (!D.eq dx dy)) H,fun pins s σ H x y v u Q I rx ry h=>?_,fun Hf H x y dx dy Q e rx ry q=>?_⟩
 ·obtain⟨dx,dy,h1,h2,h3,q⟩:=h
  exact(Sw I dx dy X.A x y v u (by lia) h1 h2 rx ry).ne _ _ _ _ ⟨.bl _,H,I,rfl,q⟩
 ·unfold Wm at q
  split at q
  ·rename_i hd
   exact⟨dx,dy,rx.mono e,ry.mono e,hd,Po.ret e q (rep_bl.mpr rfl)⟩
  ·exact q.elim
end
def Zpy:D->String
 |.non=>"NoneType"
 |.bl _=>"bool"
 |.int _=>"int"
 |.str _=>"str"
 |.tup _=>"tuple"
 |.lst _=>"list"
def Zn4 (T:String):D->Bool
 |.non=>false
 |.bl _=>T=="bool" || T=="int"
 |.int _=>T=="int"
 |.str _=>T=="str"
 |.tup _=>T=="tuple"
 |.lst _=>T=="list"
def Zjz (K:PySem.W.Frag)(d:D){T:String} (hT:T∈["int","bool","tuple","list","str"]):PySem.W.kitOne K (.type (Zpy d)) (.type T)=some (Zn4 T d):=by
 simp only[List.mem_cons,List.not_mem_nil,or_false] at hT
 rcases hT with rfl|rfl|rfl|rfl|rfl<;>cases d<;>rfl
section
variable {X:Cx}{E:XK}{pos:Pos}{a b:Expr}
def Cf {T:String} (hT:T∈["int","bool","tuple","list","str"]):CallR X (.builtin "isinstance") (fun xs H Q=>∃x d,xs=[x,.ty T]/\Rep X.K H d x/\Q (.bl (Zn4 T d)) H):=by
 intro pins s σ H xs us Q I r h
 obtain⟨x,d,rfl,hx,q⟩:=h
 obtain⟨u,w',rfl,r1,r2⟩:=Zb2 r
 cases (show w'=Value.type T from r2)
 have e:=Zjz X.K d hT
 have fin:∀tk,EP X pins σ Q (.bool (Zn4 T d)) {s with toks:=tk}:=fun tk=>⟨.bl _,H,I.tok _,rfl,q⟩
 cases d with
 |non=>rw[rep_non] at hx;subst hx;cases (show u=Value.none from r1);exact PySem.W.kia_one PySem.W.kitx_none I.kIn True.intro e (fun z=>nomatch z) fin
 |bl y=>rw[rep_bl] at hx;subst hx;cases (show u=Value.bool y from r1);exact PySem.W.kia_one PySem.W.kitx_bool I.kIn True.intro e (fun z=>nomatch z) fin
 |int y=>rw[rep_int] at hx;subst hx;obtain⟨t,z⟩:=(show ∃t,u=Value.int y t from r1);subst z;exact PySem.W.kia_one PySem.W.kitx_int I.kIn True.intro e (fun z=>nomatch z) fin
 |str y=>rw[rep_str] at hx;subst hx;obtain⟨t,z⟩:=(show ∃t,u=Value.str y t from r1);subst z;exact PySem.W.kia_one PySem.W.kitx_str I.kIn True.intro e (fun z=>nomatch z) fin
 |tup ds=>
  obtain⟨p,ys,rfl,hp,hr⟩:=Qu hx
  cases (show u=Value.ref p from r1)
  obtain⟨its,_,⟨o,h1,h2,_⟩,_⟩:=I.tuple hp
  exact PySem.W.kia_one PySem.W.kitx_tuple I.kIn ⟨o,h1,h2⟩ e (fun z=>nomatch z) fin
 |lst ds=>
  obtain⟨p,ys,rfl,hp,hr⟩:=rep_lst.mp hx
  cases (show u=Value.ref p from r1)
  obtain⟨its,_,pl,_⟩:=I.list hp
  obtain⟨o,h1,h2,_⟩:=pl.isList
  exact PySem.W.kia_one PySem.W.kitx_list I.kIn ⟨o,h1,h2⟩ e (fun z=>nomatch z) fin
def Zbs (T:String)(f:Zl->M D)(sd:Zl):M D:=(f sd).bind fun d=>.ok (.bl (Zn4 T d))
def Jf (T:String){p p2:Pos}{f:Zl->M D} (hg:Gl X "isinstance") (hm:X.mg "isinstance"=none) (hmT:X.mg (Str.ofString T)=none) (hgT:Gl X (Str.ofString T)) (hvT:bootBuiltins (Str.ofString T)=some (.type T)) (h:X4 X E a f)
  (hT:T∈["int","bool","tuple","list","str"]:=by decide) (hnT:(Str.ofString T) ≠ "__name__":=by decide) (hdT:((Str.ofString T)==("__debug__":Str))=false:=by decide)
  (he:starEach [a,.Name (Str.ofString T) p2] X.env=(false,eval a X.env)::starEach [.Name (Str.ofString T) p2] X.env:=by rfl) (he2:starEach [.Name (Str.ofString T) p2] X.env=(false,eval (.Name (Str.ofString T) p2) X.env)::starEach [] X.env:=by rfl)
  (hpl:(backTo pos (starEach [.Name (Str.ofString T) p2] X.env)).any (·.1)=false:=by rfl) (hv:bootBuiltins "isinstance"=some (.builtin "isinstance"):=by rfl):
  X4 X E (.Call (.Name "isinstance" p) [a,.Name (Str.ofString T) p2] [] pos) (Zbs T f):=by
 obtain⟨t,pt,qt⟩:=h
 refine⟨_,A4 (Cf hT) hg hm hv (Qz pt (Qz (Zfg (v:=.ty T) hgT hmT hvT rfl hnT hdT) Jm he2) he) (by decide) (by decide) he hpl,fun H0 B Hf sd σ H Q sr h=>?_⟩
 refine qt H0 B Hf sd σ H _ sr (Po.bind h fun d v Hf1 H1 _ g1 rv h1=>?_)
 exact⟨v,d,rfl,Rep.mono g1.sub rv,Po.ret (R:=rV X.K) g1.sub h1 (rep_bl.mpr rfl)⟩
def Kh:List D->Option (List Bool)
 |[]=>some []
 |.bl b::r=>(Kh r).map (b::·)
 |_::_=>none
theorem U4 {K:PySem.W.Frag}{H:Hp}:∀{ds:List D}{bs:List Bool}{xs:List V},Kh ds=some bs->Reps K H ds xs->xs=bs.map V.bl
 |[],bs,xs,e,r=>by
  rw[reps_nil.mp r]
  cases e
  rfl
 |.bl b::ds,bs,xs,e,r=>by
  obtain⟨x,t,rfl,h1,h2⟩:=reps_cons.mp r
  unfold Kh at e
  cases q:Kh ds with
  |none=>rw[q] at e;cases e
  |some cs=>
   rw[q] at e
   cases e
   rw[rep_bl.mp h1,U4 q h2]
   rfl
 |.non::_,_,_,e,_=>by cases e
 |.int _::_,_,_,e,_=>by cases e
 |.str _::_,_,_,e,_=>by cases e
 |.tup _::_,_,_,e,_=>by cases e
 |.lst _::_,_,_,e,_=>by cases e
def Hh {bs:List Bool}:∀{us:List Value},Vals (bs.map V.bl) us->us=bs.map Value.bool:=by
 induction bs with
 |nil=>intro us r;cases r;rfl
 |cons b bs ih=>
  intro us r
  cases r with
  |cons r1 r2=>rw[ih r2];cases (show _=Value.bool b from r1);rfl
def Em (bs:List Bool):((List.range bs.length).all fun i=>(bs[i]?).getD true)=bs.all id:=by
 induction bs with
 |nil=>rfl
 |cons b bs ih=>
  rw[List.length_cons,List.range_succ_eq_map,List.all_cons,List.all_map,List.all_cons]
  have:(((fun i=>((b::bs)[i]?).getD true)∘Nat.succ):Nat->Bool)=fun i=>(bs[i]?).getD true:=by funext i;simp
  rw[this,ih]
  simp
def En (bs:List Bool):((List.range bs.length).any fun i=>(bs[i]?).getD false)=bs.any id:=by
 induction bs with
 |nil=>rfl
 |cons b bs ih=>
  rw[List.length_cons,List.range_succ_eq_map,List.any_cons,List.any_map,List.any_cons]
  have:(((fun i=>((b::bs)[i]?).getD false)∘Nat.succ):Nat->Bool)=fun i=>(bs[i]?).getD false:=by funext i;simp
  rw[this,ih]
  simp
def Hi {s:Shared}{h':Heap}{o:Obj}(hk:∀b x,b ∉ [s.heap.objs.size]->(s.heap.push o).get? b=some x->h'.get? b=some x):∀b x,s.heap.get? b=some x->h'.get? b=some x:=
 fun b x e=>hk b x (fun hm=>by rw[List.mem_singleton.mp hm] at e;exact Nat.lt_irrefl _ (Heap.lt_size e)) (Heap.get?_push_of_some _ e)
def Zaj (hc:X.calm=true):CallR X (.builtin "all") (fun xs H Q=>∃(p:Addr) (bs:List Bool),xs=[.ref p]/\SqL X.K H p (bs.map V.bl)/\Q (.bl (bs.all id)) H):=by
 intro pins s σ H xs us Q I r h
 obtain⟨p,bs,rfl,hp,q⟩:=h
 obtain⟨u,rfl,rx⟩:=Wh r
 cases rx
 obtain⟨its,rv,pl,_⟩:=I.list hp
 have hl:=pl.isList
 have ei:=Hh rv
 have hlt:p<s.heap.objs.size:=by obtain⟨_,e,_⟩:=hl;exact Heap.lt_size e
 refine call_all_walk (wpAny_pyIter_list hl ?_)
 refine⟨s.heap.objs.size,[s.heap.objs.size,p],[s.heap.objs.size],its.toArray.size,_,_,fun i=>(bs[i]?).getD true,rfl,Walks.list (A:=X.A.in1) (I.ok.hd hc) _ p (Nat.ne_of_lt hlt) its.toArray,
  ⟨⟨_,Heap.get?_push_size _ rfl,rfl,rfl⟩,hl.push _⟩,fun i v s' Q' E' hP hQ=>?_,fun h' tk hk=>?_⟩
 ·have hv:its[i]?=some v:=by simpa using hP
  rw[ei,List.getElem?_map] at hv
  cases eb:bs[i]? with
  |none=>rw[eb] at hv;cases hv
  |some b=>
   rw[eb] at hv
   cases hv
   simp only[eb,Option.getD_some] at hQ
   exact wpAny_truthy_bool hQ
 ·have e:((List.range its.toArray.size).all fun i=>(bs[i]?).getD true)=bs.all id:=by
   rw[List.size_toArray,ei,List.length_map];exact Em bs
  rw[e]
  exact⟨.bl _,H,I.kept (Hi hk),rfl,q⟩
def Zak (hc:X.calm=true):CallR X (.builtin "any") (fun xs H Q=>∃(p:Addr) (bs:List Bool),xs=[.ref p]/\SqL X.K H p (bs.map V.bl)/\Q (.bl (bs.any id)) H):=by
 intro pins s σ H xs us Q I r h
 obtain⟨p,bs,rfl,hp,q⟩:=h
 obtain⟨u,rfl,rx⟩:=Wh r
 cases rx
 obtain⟨its,rv,pl,_⟩:=I.list hp
 have hl:=pl.isList
 have ei:=Hh rv
 have hlt:p<s.heap.objs.size:=by obtain⟨_,e,_⟩:=hl;exact Heap.lt_size e
 refine call_any_walk (wpAny_pyIter_list hl ?_)
 refine⟨s.heap.objs.size,[s.heap.objs.size,p],[s.heap.objs.size],its.toArray.size,_,_,fun i=>(bs[i]?).getD false,rfl,Walks.list (A:=X.A.in1) (I.ok.hd hc) _ p (Nat.ne_of_lt hlt) its.toArray,
  ⟨⟨_,Heap.get?_push_size _ rfl,rfl,rfl⟩,hl.push _⟩,fun i v s' Q' E' hP hQ=>?_,fun h' tk hk=>?_⟩
 ·have hv:its[i]?=some v:=by simpa using hP
  rw[ei,List.getElem?_map] at hv
  cases eb:bs[i]? with
  |none=>rw[eb] at hv;cases hv
  |some b=>
   rw[eb] at hv
   cases hv
   simp only[eb,Option.getD_some] at hQ
   exact wpAny_truthy_bool hQ
 ·have e:((List.range its.toArray.size).any fun i=>(bs[i]?).getD false)=bs.any id:=by
   rw[List.size_toArray,ei,List.length_map];exact En bs
  rw[e]
  exact⟨.bl _,H,I.kept (Hi hk),rfl,q⟩
def Zal:List D->M D
 |[.lst ds]=>match Kh ds with
  |some bs=>.ok (.bl (bs.all id))
  |none=>.bad
 |_=>.bad
def Zf9:List D->M D
 |[.lst ds]=>match Kh ds with
  |some bs=>.ok (.bl (bs.any id))
  |none=>.bad
 |_=>.bad
def Zcp (hc:X.calm=true):Wj X E (.builtin "all") Zal:=by
 refine⟨_,Zaj hc,fun Hf H xs ds Q e r q=>?_⟩
 unfold Zal at q
 split at q
 ·split at q
  ·rename_i bs hb
   obtain⟨x,rfl,h⟩:=K4 r
   obtain⟨p,ys,rfl,hp,hr⟩:=rep_lst.mp h
   have:=U4 hb hr
   subst this
   exact⟨p,bs,rfl,e.seq hp,Po.ret e q (rep_bl.mpr rfl)⟩
  ·exact q.elim
 ·exact q.elim
def Zj0 (hc:X.calm=true):Wj X E (.builtin "any") Zf9:=by
 refine⟨_,Zak hc,fun Hf H xs ds Q e r q=>?_⟩
 unfold Zf9 at q
 split at q
 ·split at q
  ·rename_i bs hb
   obtain⟨x,rfl,h⟩:=K4 r
   obtain⟨p,ys,rfl,hp,hr⟩:=rep_lst.mp h
   have:=U4 hb hr
   subst this
   exact⟨p,bs,rfl,e.seq hp,Po.ret e q (rep_bl.mpr rfl)⟩
  ·exact q.elim
 ·exact q.elim
def op_catS:OpR X (binaryOp .Add) (fun x y H Q=>∃l b xs zs,x=.ref l/\y=.ref b/\SqL X.K H l xs/\SqL X.K H b zs/\xs.length+zs.length<=sizeLine/\∀p,H p=none->Q (.ref p) (upd H p (.lst (xs++zs)))):=by
 intro pins s σ H x y v u Q I rx ry h
 obtain⟨l,b,xs,zs,rfl,rfl,hH,hB,hz,q⟩:=h
 cases rx
 cases ry
 obtain⟨its,r,pl,z⟩:=I.list hH
 obtain⟨its2,r2,pl2,z2⟩:=I.list hB
 have l1:=r.length
 have l2:=r2.length
 obtain⟨⟨cls,dd,data,sl⟩,ho,hc,n,hd⟩:=pl.isList
 obtain⟨⟨cls2,dd2,data2,sl2⟩,ho2,hc2,n2,hd2⟩:=pl2.isList
 simp only at hc hd hc2 hd2
 subst hc hd hc2 hd2
 have e:its.toArray++its2.toArray=(its++its2).toArray:=by simp
 refine concat_meets ⟨_,ho,rfl⟩ ⟨_,ho2,rfl⟩ noFill_list_add seq_list_add PySem.F.slot_list_add PySem.F.entry_list_add (PySem.F.args_list_add_2 _ _) (list_addW l b its.toArray its2.toArray n n2 dd dd2 sl sl2 (by rw[List.size_toArray,List.size_toArray];lia)) ⟨ho,ho2,?_⟩
 rw[e]
 exact⟨.ref _,_,I.lnew (t':=s.toks) (r.append r2) (by rw[List.length_append];lia),rfl,q _ I.fresh⟩
def Qi:D->D->M D
 |.int i,.int j=>.ok (.int (i+j))
 |.lst xs,.lst ys=>if few (xs++ys) then .ok (.lst (xs++ys)) else .bad
 |.tup (x::xs),.tup ys=>if few (x::xs++ys) then .ok (.tup (x::xs++ys)) else .bad
 |.str i,.str j=>if i.length+j.length<=sizeLine then .ok (.str (i++j)) else .bad
 |_,_=>.bad
def Q0:Se X E (binaryOp .Add) Qi:=by
 refine⟨_,op_add.or (op_catS.or (op_catT.or Ed)),fun Hf H x y dx dy Q e rx ry q=>?_⟩
 unfold Qi at q
 split at q
 ·rename_i i j
  exact .inl ⟨i,j,rep_int.mp rx,rep_int.mp ry,Po.ret e q (rep_int.mpr rfl)⟩
 ·rename_i xs ys
  split at q
  ·rename_i hf
   obtain⟨p1,us,rfl,h1,r1⟩:=rep_lst.mp rx
   obtain⟨p2,ws,rfl,h2,r2⟩:=rep_lst.mp ry
   have hl:=Ut hf (r1.append r2)
   rw[List.length_append] at hl
   exact .inr (.inl ⟨p1,p2,us,ws,rfl,rfl,e.seq h1,e.seq h2,hl,fun p hp=>q _ _ _ (Gr.alloc e hp _) (Gr.lst e hp (r1.append r2))⟩)
  ·exact q.elim
 ·rename_i x0 xs ys
  split at q
  ·rename_i hf
   obtain⟨p1,us,rfl,h1,r1⟩:=Qu rx
   obtain⟨p2,ws,rfl,h2,r2⟩:=Qu ry
   have hl:=Ut hf (r1.append r2)
   rw[List.length_append] at hl
   have hne:us≠[]:=fun z=>by
    have:=r1.length
    rw[z] at this
    cases this
   refine .inr (.inr (.inl ⟨p1,p2,us,ws,rfl,rfl,Same.seqT e h1,Same.seqT e h2,hne,hl,fun z=>?_,fun _ p hp=>q _ _ _ (Gr.alloc e hp _) (Gr.tup e hp (r1.append r2))⟩))
   subst z
   have:ys=[]:=List.length_eq_zero_iff.mp r2.length
   subst this
   rw[List.append_nil] at q
   exact Po.ret e q rx
  ·exact q.elim
 ·rename_i i j
  split at q
  ·rename_i hl
   exact .inr (.inr (.inr ⟨i,j,rep_str.mp rx,rep_str.mp ry,hl,Po.ret e q (rep_str.mpr rfl)⟩))
  ·exact q.elim
 ·exact q.elim
def Qc:D->D->M D:=Zmx
def Qh:Se X E (binaryOp .Mult) Qc:=Zjv
def Nx (ds:List D)(lo hi:Option Int):List D:=(ds.drop (HT.sIx ds.length 0 lo)).take (HT.sIx ds.length ds.length hi-HT.sIx ds.length 0 lo)
def Cg {K:PySem.W.Frag}{H:Hp}{ds:List D}{xs:List V}(r:Reps K H ds xs)(lo hi:Option Int):Reps K H (Nx ds lo hi) (A5 xs lo hi):=by
 unfold Nx A5
 rw[<-r.length]
 exact(r.drop _).take _
def Zpf:D->Option Int->Option Int->M D
 |.lst ds,lo,hi=>.ok (.lst (Nx ds lo hi))
 |.tup ds,lo,hi=>if HT.sIx ds.length 0 lo=0/\HT.sIx ds.length ds.length hi=ds.length then .bad else .ok (.tup (Nx ds lo hi))
 |_,_,_=>.bad
def Wk (_:Zl):M (Option Int):=.ok none
def Xa (f:Zl->M D)(sd:Zl):M (Option Int):=(f sd).bind fun d=>match d with
 |.int i=>.ok (some i)
 |_=>.bad
def Wv:Zn3 X E none Wk:=⟨_,Zft,fun _ _ _ _ _ _ _ sr h=>Po.ret (R:=rQ) sr.sub h rfl⟩
def X5 {e:Expr}{f:Zl->M D}(h:X4 X E e f):Zn3 X E (some e) (Xa f):=by
 obtain⟨t,p,q⟩:=h
 refine⟨_,Zfu p,fun H0 B Hf sd σ H Q sr h=>?_⟩
 refine q H0 B Hf sd σ H _ sr (Po.bind h fun d v Hf1 H1 _ g1 rv h1=>?_)
 split at h1
 ·exact⟨_,rep_int.mp rv,Po.ret (R:=rQ) g1.sub h1 rfl⟩
 ·exact h1.elim
def Ma (f:Zl->M D)(lo hi:Zl->M (Option Int))(sd:Zl):M D:=(f sd).bind fun d=>(lo sd).bind fun l=>(hi sd).bind fun h=>Zpf d l h
def K7 {e:Expr}{lo hi:Option Expr}{p2:Pos}{f:Zl->M D}{fl fh:Zl->M (Option Int)}(h:X4 X E e f)(hl:Zn3 X E lo fl)(hh:Zn3 X E hi fh):X4 X E (.Subscript e (.Slice lo hi none p2) pos) (Ma f fl fh):=by
 obtain⟨t,p,q⟩:=h
 obtain⟨tl,pl,ql⟩:=hl
 obtain⟨th,ph,qh⟩:=hh
 refine⟨_,Zb9 (sl_list.or Zjj) p pl ph,fun H0 B Hf sd σ H Q sr h=>?_⟩
 refine q H0 B Hf sd σ H _ sr (Po.bind h fun d v Hf1 H1 _ g1 rv h1=>?_)
 refine ql H0 B Hf1 sd σ H1 _ (sr.gr g1) (Po.bind h1 fun l l' Hf2 H2 _ g2 el h2=>?_)
 have el:l=l':=el
 subst el
 refine qh H0 B Hf2 sd σ H2 _ ((sr.gr g1).gr g2) (Po.bind h2 fun u u' Hf3 H3 _ g3 eu h3=>?_)
 have eu:u=u':=eu
 subst eu
 have rv3:=(Rep.mono g3.fz (Rep.mono g2.fz rv))
 unfold Zpf at h3
 split at h3
 ·rename_i ds
  obtain⟨a,xs,rfl,ha,hr⟩:=rep_lst.mp rv3
  exact .inl ⟨a,xs,rfl,g3.sub.seq ha,fun p hp=>h3 _ _ _ (Gr.alloc g3.sub hp _) (Gr.lst g3.sub hp (Cg hr _ _))⟩
 ·rename_i ds
  split at h3
  ·exact h3.elim
  ·rename_i hw
   obtain⟨a,xs,rfl,ha,hr⟩:=Qu rv3
   exact .inr ⟨a,xs,rfl,Same.seqT g3.sub ha,by rw[<-hr.length];exact hw,fun p hp=>h3 _ _ _ (Gr.alloc g3.sub hp _) (Gr.tup g3.sub hp (Cg hr _ _))⟩
 ·exact h3.elim
def R5 (K:PySem.W.Frag)(Hf _H:Hp)(ds:List D)(J:It):Prop:=∀(i:Nat) (Hf1 H1:Hp),Same Hf Hf1->Same Hf1 H1->match ds[i]? with
 |some d=>J.go i H1/\∀x H2,J.yld i H1 x H2->∃Hf2,Gr Hf1 H1 Hf2 H2/\Rep K Hf2 d x
 |none=>J.stop i H1
def Zj1 (X:Cx)(E:XK)(tg iter:Expr)(fi:Zl->M (List D)):Prop:=
 ∃wi:TI,PI X tg iter wi/\∀(H0:Hp) (B:Addr->Prop) (Hf:Hp) (sd:Zl) (σ:L2.St) (H:Hp) (R:It->Hp->Prop),SR X.K H0 B Hf sd σ H->Po X.K E (R5 X.K) Hf H (fi sd) R->wi σ H R
def Zj2 {K:PySem.W.Frag}{Hf H:Hp}{a:Addr}{xs:List V}{ds:List D}(h:SqL K Hf a xs)(r:Reps K Hf ds xs):R5 K Hf H ds (Znz K a):=by
 intro i Hf1 H1 e1 e2
 have h2:=e2.seq (e1.seq h)
 cases q:ds[i]? with
 |some d=>
  obtain⟨x,ex,rx⟩:=r.get q
  refine⟨⟨xs,x,h2,ex⟩,fun y H2 hy=>?_⟩
  obtain⟨e,hy⟩:=hy
  subst e
  have ey:=hy xs h2
  rw[ex] at ey
  cases ey
  exact⟨Hf1,Gr.refl e2,rx.mono e1⟩
 |none=>
  refine⟨xs,h2,?_⟩
  have:=r.none_of q
  exact List.getElem?_eq_none_iff.mp this
def Zj3 {K:PySem.W.Frag}{Hf H:Hp}{a:Addr}{xs:List V}{ds:List D}(h:SqT K Hf a xs)(r:Reps K Hf ds xs):R5 K Hf H ds (Zlv K a):=by
 intro i Hf1 H1 e1 e2
 have h2:=Same.seqT e2 (Same.seqT e1 h)
 cases q:ds[i]? with
 |some d=>
  obtain⟨x,ex,rx⟩:=r.get q
  refine⟨⟨xs,x,h2,ex⟩,fun y H2 hy=>?_⟩
  obtain⟨e,hy⟩:=hy
  subst e
  have ey:=hy xs h2
  rw[ex] at ey
  cases ey
  exact⟨Hf1,Gr.refl e2,rx.mono e1⟩
 |none=>
  refine⟨xs,h2,?_⟩
  have:=r.none_of q
  exact List.getElem?_eq_none_iff.mp this
def Sx (lo:Int)(n:Nat):List D:=(List.range n).map fun k=>.int (lo+(k:Nat))
def Zj4 {K:PySem.W.Frag}{Hf H:Hp}(lo:Int)(n:Nat):R5 K Hf H (Sx lo n) (Zn0 lo n):=by
 intro i Hf1 H1 e1 e2
 unfold Sx
 rw[List.getElem?_map]
 by_cases hi:i<n
 ·rw[List.getElem?_range hi]
  refine⟨hi,fun y H2 hy=>?_⟩
  obtain⟨e,hy⟩:=hy
  subst e
  exact⟨Hf1,Gr.refl e2,rep_int.mpr hy⟩
 ·rw[List.getElem?_eq_none (by simpa using hi)]
  exact Nat.le_of_not_lt hi
def V6 (f:Zl->M D)(sd:Zl):M (List D):=(f sd).bind fun d=>match d with
 |.lst ds=>.ok ds
 |.tup ds=>.ok ds
 |_=>.bad
def Zj5 {tg l:Expr}{tl:TE}(hl:PE X l tl):PI X tg l (fun σ H R=>tl σ H fun x H1=>(∃a,x=.ref a/\(∃xs,SqL X.K H1 a xs)/\R (Znz X.K a) H1)\/∃a,x=.ref a/\(∃xs,SqT X.K H1 a xs)/\R (Zlv X.K a) H1):=by
 intro pins s σ H R I h
 refine Xi (hl pins s σ H _ I h) fun v s1 ⟨x,H1,I1,r1,q1⟩=>?_
 rcases q1 with⟨a,e,⟨xs,hq⟩,q⟩|⟨a,e,⟨xs,hq⟩,q⟩
 ·subst e
  cases r1
  obtain⟨its,rv,p,hz⟩:=I1.list hq
  refine wpAny_pyIter_list p.isList ?_
  refine⟨s1.heap.objs.size,[s1.heap.objs.size],_,_,H1,rfl,I1.kept (t':=s1.toks) fun b o e=>Heap.get?_push_of_some _ e,Ly a _,⟨_,Heap.get?_push_size _ rfl,rfl,rfl⟩,fun b hb=>?_,q⟩
  have e:b=s1.heap.objs.size:=by simpa using hb
  subst e
  exact I1.fpOk (Nat.le_refl _) (I1.hok.fresh (Nat.le_refl _))
 ·subst e
  cases r1
  obtain⟨its,rv,p,hz⟩:=I1.tuple hq
  refine wpAny_pyIter_tuple (show s1.heap.IsTuple a its.toArray from p) ?_
  refine⟨s1.heap.objs.size,[s1.heap.objs.size],_,_,H1,rfl,I1.kept (t':=s1.toks) fun b o e=>Heap.get?_push_of_some _ e,Sk a _,⟨_,Heap.get?_push_size _ rfl,rfl,rfl⟩,fun b hb=>?_,q⟩
  have e:b=s1.heap.objs.size:=by simpa using hb
  subst e
  exact I1.fpOk (Nat.le_refl _) (I1.hok.fresh (Nat.le_refl _))
def Ki {tg l:Expr}{f:Zl->M D}(h:X4 X E l f):Zj1 X E tg l (V6 f):=by
 obtain⟨t,p,q⟩:=h
 refine⟨_,Zj5 p,fun H0 B Hf sd σ H R sr h=>?_⟩
 refine q H0 B Hf sd σ H _ sr (Po.bind h fun d v Hf1 H1 _ g1 rv h1=>?_)
 split at h1
 ·rename_i ds
  obtain⟨a,xs,rfl,ha,hr⟩:=rep_lst.mp rv
  exact .inl ⟨a,rfl,⟨xs,g1.sub.seq ha⟩,Po.ret (R:=R5 X.K) g1.sub h1 (Zj2 ha hr)⟩
 ·rename_i ds
  obtain⟨a,xs,rfl,ha,hr⟩:=Qu rv
  exact .inr ⟨a,rfl,⟨xs,Same.seqT g1.sub ha⟩,Po.ret (R:=R5 X.K) g1.sub h1 (Zj3 ha hr)⟩
 ·exact h1.elim
def Yf (fs:Zl->M (List D))(sd:Zl):M (List D):=(fs sd).bind fun ds=>match ds with
 |[.int j]=>if -1000000<=j/\j<=1000000 then .ok (Sx 0 j.toNat) else .bad
 |_=>.bad
def Xp {tg a:Expr}{p:Pos}{fs:Zl->M (List D)} (hg:Gl X "range") (hm:X.mg "range"=none) (h:Aw X E [a] fs) (hs:starEach [a] X.env=[(false,eval a X.env)]:=by rfl):Zj1 X E tg (.Call (.Name "range" p) [a] [] pos) (Yf fs):=by
 obtain⟨t,pt,q⟩:=h
 refine⟨_,O4 hg hm pt hs,fun H0 B Hf sd σ H R sr h=>?_⟩
 refine q H0 B Hf sd σ H _ sr (Po.bind h fun ds vs Hf1 H1 _ g1 rs h1=>?_)
 split at h1
 ·split at h1
  ·rename_i hj
   obtain⟨v,rfl,rv⟩:=K4 rs
   rw[rep_int.mp rv]
   exact⟨_,rfl,by lia,by lia,Po.ret (R:=R5 X.K) g1.sub h1 (Zj4 0 _)⟩
  ·exact h1.elim
 ·exact h1.elim
def Y6 (g:D->Zl->M Zl)(f:Zl->M O):List D->Zl->M O
 |[],sd=>.ok (.nx sd)
 |d::r,sd=>match g d sd with
  |.ok sd1=>(f sd1).bind fun o=>match o with
   |.nx sd2=>Y6 g f r sd2
   |.ct sd2=>Y6 g f r sd2
   |.bk sd2=>.ok (.nx sd2)
   |.rt s=>.ok (.rt s)
  |_=>.bad
def V7 (fi:Zl->M (List D))(g:D->Zl->M Zl)(f:Zl->M O)(sd:Zl):M O:=(fi sd).bind fun ds=>Y6 g f ds sd
def Xz {tg iter:Expr}{body:List Stmt}{fi:Zl->M (List D)}{g:D->Zl->M Zl}{f:Zl->M O}(hp:PassesOwn (model X.prog X.w) X.A X.env X.xe)(hc:X.calm=true)(hi:Zj1 X E tg iter fi)(hg:Zjy X tg g)(hb:Ps X E body f)(hs:∀x,foldedSetIterable iter X.env x=pure x:=by intro _;rfl):Ss X E (.For tg iter body [] pos) (V7 fi g f):=by
 obtain⟨wi,pw,qw⟩:=hi
 obtain⟨tg',pg,qg⟩:=hg
 obtain⟨tb,pb,qb⟩:=hb
 refine⟨_,Ec hp hc pw pg pb hs,fun H0 B Hf sd σ H D sr h=>?_⟩
 refine qw H0 B Hf sd σ H _ sr (PoS.bind sr h fun ds J Hf1 H1 _ g1 sr1 J1 h1=>?_)
 refine⟨fun i m σ' H'=>m=ds.length-i/\∃Hf' sd',Same Hf1 Hf'/\SR X.K H0 B Hf' sd' σ' H'/\PoS X.K E H0 B Hf' (Y6 g f (ds.drop i) sd') D,⟨ds.length,by simp,Hf1,sd,Same.refl _,sr1,by simpa using h1⟩,?_⟩
 rintro i m σ2 H2 ⟨rfl,Hf2,sd2,e2,sr2,h2⟩
 have jj:=J1 i Hf2 H2 e2 sr2.sub
 cases q:ds[i]? with
 |none=>
  rw[q] at jj
  refine .inl ⟨jj,?_⟩
  rw[List.drop_eq_nil_of_le (List.getElem?_eq_none_iff.mp q)] at h2
  exact h2 σ2 Hf2 H2 (Same.refl _) sr2
 |some d=>
  rw[q] at jj
  obtain⟨go,yl⟩:=jj
  have hlt:i<ds.length:=(List.getElem?_eq_some_iff.mp q).1
  have hd:ds.drop i=d::ds.drop (i+1):=by
   rw[List.drop_eq_getElem_cons hlt]
   congr 1
   exact(List.getElem?_eq_some_iff.mp q).2
  rw[hd] at h2
  refine .inr ⟨go,fun σ' H'=>∃Hf' sd',Same Hf1 Hf'/\SR X.K H0 B Hf' sd' σ' H'/\PoS X.K E H0 B Hf' (Y6 g f (ds.drop (i+1)) sd') D,fun σ' H' w=>⟨ds.length-(i+1),by lia,rfl,w⟩,fun x H3 y3=>?_⟩
  obtain⟨Hf3,g3,rx⟩:=yl x H3 y3
  have sr3:=sr2.gr g3
  unfold Y6 at h2
  split at h2
  ·rename_i sd3 eg
   refine qg H0 B Hf3 sd2 σ2 H3 x d sd3 _ sr3 rx eg fun σ4 sr4=>?_
   refine qb H0 B Hf3 sd3 σ4 H3 _ sr4 ?_
   have h2:=PoS.weak g3.fz h2
   cases ef:f sd3 with
   |ok o=>
    rw[ef] at h2
    cases o with
    |nx sd'=>exact fun σ' Hf' H' e' sr'=>⟨Hf',sd',e2.trans (g3.fz.trans e'),sr',PoS.weak e' h2⟩
    |ct sd'=>exact fun σ' Hf' H' e' sr'=>⟨Hf',sd',e2.trans (g3.fz.trans e'),sr',PoS.weak e' h2⟩
    |bk sd'=>exact h2
    |rt s=>exact h2
   |ex x=>rw[ef] at h2;exact h2
   |bad=>rw[ef] at h2;exact h2
  ·exact h2.elim
end
def Uu {prog:Program}{w:World}{A:Around}{R:Result->Shared->Prop}{s:Shared}{elt target iter:Expr}{scope:Scope}{pos:Pos}{it acc:Value}{env:Env}(I:Nat->Shared->Prop)
  (turn:∀n s,I n s->wpAny (model prog w) A (pyNext it) (fun r s₁=>match r with
   |none=>R (.ok .next) s₁
   |some v=>wpAny (model prog w) A (letOwnedTupleGo target it v) (fun _ s₂=>wpAny (model prog w) A (assign target env v) (fun _ s₃=>wpAny (model prog w) A (eval elt env) (fun x s₄=>
     wpAny (model prog w) A (call (.builtin "list.append") [acc,x]) (fun _ s₅=>∃m,m<n/\I m s₅) (fun _ _=>False) s₄) (fun _ _=>False) s₃) (fun _ _=>False) s₂) (fun _ _=>False) s₁) (fun _ _=>False) s)
  (n:Nat) (h:I n s):
  codeAny (model prog w) A (.compLoop (.ListComp elt [⟨target,iter,[],0⟩] scope pos) 0 it acc env) R s:=by
 refine codeAny_loop rfl I (fun n s hI=>?_) n h
 show wpAny _ A ((compTurn (.ListComp elt [⟨target,iter,[],0⟩] scope pos) 0 it acc env).onRaise (fun x=>do noteFrame x env;theTreesLotGoes x)) _ _ s
 refine wpAny_noted ?_
 rw[compTurn_list]
 refine wpAny_bind (wpAny_standAt (wpAny_bind (wpAny_mono (turn n s hI) (fun r s₁ h₁=>?_) fun _ _ h'=>h'.elim)))
 cases r with
 |none=>exact wpAny_pure h₁
 |some v=>
  refine wpAny_bind (wpAny_mono h₁ (fun _ s₂ h₂=>?_) fun _ _ h'=>h'.elim)
  refine wpAny_bind (wpAny_mono h₂ (fun _ s₃ h₃=>?_) fun _ _ h'=>h'.elim)
  refine wpAny_bind (wpAny_tests_nil ?_)
  exact wpAny_bind (wpAny_bind (wpAny_mono h₃ (fun x s₄ h₄=>wpAny_bind (wpAny_mono h₄ (fun _ s₅ h₅=>wpAny_pure (wpAny_pure ⟨rfl,h₅⟩)) fun _ _ h'=>h'.elim)) fun _ _ h'=>h'.elim))
def Ww (X:Cx)(Nc:List Str)(scope:Scope)(cl:List (Str×Addr))(s3:Shared)(H3:Hp)(C:Addr)(ex:List Addr):Cx:=
 {X with N:=Nc,s₀:=s3,H₀:=H3,env:=compEnvC scope cl C X.env,outer:=X.stack,stack:=X.stack,ex:=ex,fn:=fun _=>false,pn:=[],xe:=fun _ _=>False}
structure CapOk (X:Cx) (Nc:List Str) (n0:Nat) (caps:List Nat) (scope:Scope) (cl:List (Str×Addr)):Prop where
 sub:∀y c,cl.lookup y=some c->X.env.cells.lookup y=some c
 has:∀y,(relabel scope X.env).names.lookup y=some .cell\/(relabel scope X.env).names.lookup y=some .free->∃c,cl.lookup y=some c
 cap:∀(i j:Nat) (x:Str),Nc[n0+i]?=some x->caps[i]?=some j->X.N[j]?=some x/\X.env.scope.names.lookup x=some .cell/\(relabel scope X.env).names.lookup x=some .cell
 len:Nc.length=n0+caps.length
def Yl:Obj:={cls:=.type "list", dict:=none,data:=.seq ([]:List Value).toArray}
section
variable {X:Cx}{pins:List (Addr×Obj)}{σ:L2.St}{H2:Hp}{s2:Shared}{Nc:List Str}{n0:Nat}{caps:List Nat}{scope:Scope}{cl:List (Str×Addr)}{fp:List Addr}
def Ci (I2:Inv X pins σ H2 s2)(f2:∀b∈fp,Ry X pins H2 b)(hold:∀b∈fp,∃o,s2.heap.get? b=some o)(hkind:scope.kind=.function)(cap:CapOk X Nc n0 caps scope cl){h1:Heap}{m0:Str->Option Value}{tk:Nat}(hns:h1.Ns (s2.heap.objs.size+1) m0)(hold1:∀b o,s2.heap.get? b=some o->h1.get? b=some o)(hD:h1.get? s2.heap.objs.size=some Yl):
  Inv (Ww X Nc scope cl {s2 with heap:=s2.heap.push Yl} (upd H2 s2.heap.objs.size (.lst [])) (s2.heap.objs.size+1) fp) [] (List.replicate n0 none++caps.map fun j=>(σ[j]?).join) (upd H2 s2.heap.objs.size (.lst [])) {s2 with heap:=h1,toks:=tk}:=by
 have fresh:H2 s2.heap.objs.size=none:=I2.hok.fresh (Nat.le_refl _)
 have freshC:H2 (s2.heap.objs.size+1)=none:=I2.hok.fresh (Nat.le_succ _)
 have sz:(s2.heap.push Yl).objs.size=s2.heap.objs.size+1:=Heap.size_push _ _
 have lt:∀{b:Addr}{o:Obj},s2.heap.get? b=some o->b<s2.heap.objs.size:=fun e=>Heap.lt_size e
 have ne0:∀{b:Addr}{o:Obj},s2.heap.get? b=some o->b≠s2.heap.objs.size:=fun e=>Nat.ne_of_lt (lt e)
 have clt:∀y c,cl.lookup y=some c->c<s2.heap.objs.size:=fun y c e=>by
  obtain⟨v,q⟩:=I2.cell y c (cap.sub y c e)
  exact q.lt
 have frl:∀b∈Fz X.stack,b<s2.heap.objs.size:=fun b hb=>by
  obtain⟨_,o,ho,_⟩:=I2.stack.mem hb
  exact lt ho
 have kp:∀b o,(s2.heap.push Yl).get? b=some o->h1.get? b=some o:=fun b o e=>by
  by_cases hb:b=s2.heap.objs.size
  ·subst hb
   rw[Heap.get?_push_size _ rfl] at e
   cases e
   exact hD
  ·rw[Heap.get?_push_ne _ _ _ hb] at e
   exact hold1 b o e
 have hok3:HOk X.prog X.w (upd H2 s2.heap.objs.size (.lst [])) h1:=I2.hok.laid hold1 (Nat.le_refl _) ⟨Nat.zero_le _,[],0,.nil,hD⟩
 refine⟨⟨I2.ok.mod,?_,I2.ok.glob,I2.ok.blt,?_,?_,?_,?_,I2.ok.hd,I2.ok.frames,.inl rfl,?_,?_,?_,?_,?_,?_,?_⟩,rfl,I2.bare,?_,⟨m0,hns,?_⟩,?_,?_,?_,?_,hok3,?_⟩
 ·show(relabel scope X.env).kind=.function
  exact hkind
 ·show(s2.heap.push Yl).objs.size<=s2.heap.objs.size+1
  rw[sz];exact Nat.le_refl _
 ·intro x y c h1 h2
  exact I2.ok.inj x y c (cap.sub x c h1) (cap.sub y c h2)
 ·intro x h
  exact cap.has x h
 ·intro x c h
  cases h
 ·intro b hb
  refine⟨?_,fun x c e=>?_⟩
  ·obtain⟨o,e⟩:=hold b hb
   exact Nat.ne_of_lt (Nat.lt_succ_of_lt (lt e))
  ·exact(f2 b hb).2.2.2.2.1 x c (cap.sub x c e)
 ·intro b o e
  obtain⟨q1,q2⟩:=I2.bs b o e
  exact⟨Heap.get?_push_of_some _ q1,(Zp (ne0 q1)).trans q2⟩
 ·show X.base.objs.size<=(s2.heap.push Yl).objs.size
  rw[sz]
  exact Nat.le_succ_of_le (Nat.le_trans I2.ok.bsz I2.sz)
 ·intro b o e hb
  obtain⟨_,_,_,f4,_,_⟩:=f2 b hb
  rcases f4 with z|z
  ·exact I2.ok.noex b o e z
  ·exact absurd (Nat.lt_of_lt_of_le (Nat.lt_of_lt_of_le (Heap.lt_size e) I2.ok.bsz) z) (Nat.lt_irrefl _)
 ·intro b hb hz
  rcases List.mem_cons.mp (I2.stkSub b hz) with e|hz
  ·exact(f2 b hb).2.1 e
  ·exact(f2 b hb).2.2.1 hz
 ·exact I2.stack.of_keeps fun b o e _=>⟨o,Heap.get?_push_of_some _ e,rfl⟩
 ·intro b hb
  show upd H2 s2.heap.objs.size (.lst []) b=none
  rw[Zp (Nat.ne_of_lt (frl b hb))]
  exact I2.stkFree b hb
 ·exact Un.kept kp
 ·intro i x v e1 e2 e3
  have hi:n0<=i:=by
   refine Nat.le_of_not_lt fun hlt=>?_
   rw[List.getElem?_append_left (by simpa using hlt),List.getElem?_replicate] at e2
   split at e2<;>cases e2
  obtain⟨k,rfl⟩:=Nat.exists_eq_add_of_le hi
  rw[List.getElem?_append_right (by simp),List.length_replicate,Nat.add_sub_cancel_left,List.getElem?_map] at e2
  cases ej:caps[k]? with
  |none=>rw[ej] at e2;cases e2
  |some j=>
   rw[ej] at e2
   have e2:(σ[j]?).join=some v:=by simpa using e2
   have es:σ[j]?=some (some v):=by
    cases z:σ[j]? with
    |none=>rw[z] at e2;cases e2
    |some q=>rw[z] at e2;have:q=some v:=e2;rw[this]
   obtain⟨a1,a2,a3⟩:=cap.cap k j x e1 ej
   obtain⟨m,hn,hl⟩:=I2.loc
   obtain⟨u,ru,lk⟩:=hl j x v a1 es (.inr (.inl a2))
   refine⟨u,ru,?_⟩
   rcases lk with⟨z,_⟩|⟨_,c,ec,cell⟩
   ·have z:X.env.scope.names.lookup x=some .local:=z
    rw[a2] at z;cases z
   ·obtain⟨c',ec'⟩:=cap.has x (.inl a3)
    have:=cap.sub x c' ec'
    rw[ec] at this
    cases this
    obtain⟨o,ho,hd⟩:=cell
    exact .inr ⟨.inl a3,c,ec',o,hold1 _ _ ho,hd⟩
 ·intro x c e
  obtain⟨v,o,ho,hd⟩:=I2.cell x c (cap.sub x c e)
  exact⟨v,o,hold1 _ _ ho,hd⟩
 ·show upd H2 s2.heap.objs.size (.lst []) (s2.heap.objs.size+1)=none
  rw[Zp (Nat.ne_of_gt (Nat.lt_succ_self _))]
  exact freshC
 ·intro x c e
  show upd H2 s2.heap.objs.size (.lst []) c=none
  rw[Zp (Nat.ne_of_lt (clt x c e))]
  exact I2.freeC x c (cap.sub x c e)
 ·intro p hp
  exact absurd (show p∈([]:List (Addr×Obj)) from hp) (by simp)
 ·rw[List.length_append,List.length_replicate,List.length_map]
  exact cap.len.symm
def Mb (I2:Inv X pins σ H2 s2)(f2:∀b∈fp,Ry X pins H2 b){σ':L2.St}{H':Hp}{s':Shared}{h':Heap}(J:Inv (Ww X Nc scope cl {s2 with heap:=s2.heap.push Yl} (upd H2 s2.heap.objs.size (.lst [])) (s2.heap.objs.size+1) fp) [] σ' H' s')(sb:Heap.SameBut (s2.heap.objs.size+1) s'.heap h'):
  Inv X pins σ H' {s' with heap:=h'}:=by
 have I3:Inv X pins σ (upd H2 s2.heap.objs.size (.lst [])) {s2 with heap:=s2.heap.push Yl}:=I2.laid (t':=s2.toks) (fun b u e=>Heap.get?_push_of_some _ e) (Nat.le_refl _) ⟨Nat.zero_le _,[],0,.nil,Heap.get?_push_size _ rfl⟩
 have sz:(s2.heap.push Yl).objs.size=s2.heap.objs.size+1:=Heap.size_push _ _
 have same:∀{b:Addr}{o:Obj},(s2.heap.push Yl).get? b=some o->h'.get? b=s'.heap.get? b:=fun {b o} e=>sb.2 b (by
  have:=Heap.lt_size e
  rw[sz] at this
  exact Nat.ne_of_lt this)
 have u:Un (Fz X.stack) fp (upd H2 s2.heap.objs.size (.lst [])) H' (s2.heap.push Yl) s'.heap:=J.base
 refine I3.call' (s':={s' with heap:=h'}) (ch:=fp) J.os ⟨fun b o e n h1 h2=>?_,fun b o e n h1 h2=>?_,u.free,fun b o e h1=>?_,u.tups,u.frzs,u.tbls⟩ (fun b ob e=>?_) J.bare fun b hb=>?_
 ·show h'.get? b=_
  rw[same e];exact u.keep b o e n h1 h2
 ·show ∃sl,h'.get? b=_
  rw[same e];exact u.slot b o e n h1 h2
 ·show ∃o',h'.get? b=_
  rw[same e];exact u.there b o e h1
 ·have fr:H' (s2.heap.objs.size+1)=none:=J.free
  refine(J.hok b ob e).stay (fun c w hc q=>?_) (fun _ q=>q) (fun _ _ q=>q) fun _ _ _ q=>q
  refine(sb.2 c ?_).trans q
  rintro rfl
  rcases hc with rfl|hc
  ·rw[fr] at e;cases e
  ·rw[fr] at hc;cases hc
 ·obtain⟨f0,f1,_,f3,f4,f5⟩:=f2 b hb
  exact⟨f3,f1,f4,f5⟩
end
def Zmz:Option S->Option S
 |some (.im d)=>some (.im d)
 |_=>none
def Wn (n0:Nat)(caps:List Nat)(sd:Zl):Zl:=List.replicate n0 none++caps.map fun j=>Zmz (sd[j]?).join
def V8 (gt:D->Zl->M Zl)(fe:Zl->M D)(sd0:Zl):List D->M (List D)
 |[]=>.ok []
 |d::ds=>match gt d sd0 with
  |.ok sd1=>match fe sd1 with
   |.ok e=>match V8 gt fe sd0 ds with
    |.ok es=>.ok (e::es)
    |_=>.bad
   |_=>.bad
  |_=>.bad
def X6 (fi:Zl->M (List D))(n0:Nat)(caps:List Nat)(gt:D->Zl->M Zl)(fe:Zl->M D)(sd:Zl):M (List D):=(fi sd).bind fun ds=>if few ds then V8 gt fe (Wn n0 caps sd) ds else .bad
def PoF (K:PySem.W.Frag)(E:XK)(Hf H:Hp)(r:M (List D))(Q:VK):Prop:=match r with
 |.ok ds=>∀p xs Hf' H',Gr Hf H Hf' H'->H p=none->Hf' p=none->H' p=some (.lst xs)->Reps K Hf' ds xs->Q (.ref p) H'
 |.ex x=>∀c dx Hf' H',Gr Hf H Hf' H'->Zjt K Hf' H' x c dx->E c dx H'
 |.bad=>False
def Zm0 (X:Cx)(E:XK)(e:Expr)(f:Zl->M (List D)):Prop:=
 ∃t:TE,PE X e t/\∀(H0:Hp) (B:Addr->Prop) (Hf:Hp) (sd:Zl) (σ:L2.St) (H:Hp) (Q:VK),SR X.K H0 B Hf sd σ H->PoF X.K E Hf H (f sd) Q->t σ H Q
def PoF.weak {K:PySem.W.Frag}{E:XK}{Hf H Hf1 H1:Hp}{r:M (List D)}{Q:VK}(g:Gr Hf H Hf1 H1)(h:PoF K E Hf H r Q):PoF K E Hf1 H1 r Q:=by
 cases r with
 |ok a=>exact fun p xs Hf' H' g' e1 e2 e3 e4=>h p xs Hf' H' (g.trans g') (g.all.free e1) e2 e3 e4
 |ex x=>exact fun c dx Hf' H' g' q=>h c dx Hf' H' (g.trans g') q
 |bad=>exact h
theorem PoF.bind {K:PySem.W.Frag}{E:XK}{Hf H:Hp}{α β:Type}{R:Hp->Hp->α->β->Prop}{r:M α}{k:α->M (List D)}{Q:VK}{Q1:β->Hp->Prop}(h:PoF K E Hf H (r.bind k) Q)(s:∀a b Hf1 H1,r=.ok a->Gr Hf H Hf1 H1->R Hf1 H1 a b->PoF K E Hf1 H1 (k a) Q->Q1 b H1):Po K E R Hf H r Q1:=by
 cases r with
 |ok a=>exact fun b Hf' H' g q=>s a b Hf' H' rfl g q (PoF.weak g h)
 |ex x=>exact h
 |bad=>exact h
def G8 (f:Zl->M (List D))(sd:Zl):M D:=(f sd).bind fun ds=>.ok (.lst ds)
def Bo {X:Cx}{E:XK}{e:Expr}{f:Zl->M (List D)}(h:Zm0 X E e f):X4 X E e (G8 f):=by
 obtain⟨t,p,q⟩:=h
 refine⟨t,p,fun H0 B Hf sd σ H Q sr h=>q H0 B Hf sd σ H Q sr ?_⟩
 unfold G8 at h
 cases e:f sd with
 |ok ds=>
  rw[e] at h
  intro p xs Hf' H' g e1 e2 e3 e4
  refine h _ (upd Hf' p (.lst xs)) H' ⟨g.fz.trans (Qw e2 _),fun b u z=>?_,g.all,fun a h1 h2=>?_⟩ (rep_lst.mpr ⟨p,xs,rfl,SqL.of Z2,e4.mono (Qw e2 _)⟩)
  ·by_cases hb:b=p
   ·subst hb;rw[Z2] at z;rw[e3];exact z
   ·rw[Zp hb] at z;exact g.sub b u z
  ·have:a≠p:=fun z=>h1.nn (z▸e1)
   rw[Zp this];exact g.ban a h1 h2
 |ex x=>rw[e] at h;exact h
 |bad=>rw[e] at h;exact h
def Mc {gt:D->Zl->M Zl}{fe:Zl->M D}{sd0:Zl}{x:XV}:∀{ds:List D},V8 gt fe sd0 ds=.ex x->False
 |[],h=>by cases h
 |d::ds,h=>by
  unfold V8 at h
  split at h
  ·split at h
   ·split at h<;>cases h
   ·cases h
  ·cases h
def SR.ofIm {K:PySem.W.Frag}{Hf H:Hp}{sd:Zl}{σ:L2.St}(e:Same Hf H)(hl:sd.length=σ.length)(him:∀(i:Nat) (d:D),sd[i]?=some (some (.im d))->∃v,σ[i]?=some (some v)/\Rep K Hf d v)(hno:∀(i:Nat) (t:S),sd[i]?=some (some t)->∃d,t=.im d):
  SR K H (fun a=>Lv H a/\Hf a=none) Hf sd σ H:=
 ⟨e,Same.refl _,fun _ h=>h.2,fun _ h=>h.1,hl,fun i t h _=>(by obtain⟨d,rfl⟩:=hno i t h;exact him i d h),fun i t h ho=>(by obtain⟨d,rfl⟩:=hno i t h;cases ho),fun i _ t _ _ _ h ho _ _ _ _=>(by obtain⟨d,rfl⟩:=hno i t h;cases ho)⟩
def Eo {n0:Nat}{caps:List Nat}{sd:Zl}{i:Nat}{s:S}(h:(Wn n0 caps sd)[i]?=some (some s)):n0<=i:=by
 refine Nat.le_of_not_lt fun hlt=>?_
 unfold Wn at h
 rw[List.getElem?_append_left (by simpa using hlt),List.getElem?_replicate] at h
 split at h<;>cases h
def Ep {n0:Nat}{caps:List Nat}{sd:Zl}{i:Nat}{s:S}(h:(Wn n0 caps sd)[i]?=some (some s)):∃k j d,i=n0+k/\caps[k]?=some j/\sd[j]?=some (some (.im d))/\s=.im d:=by
 obtain⟨k,rfl⟩:=Nat.exists_eq_add_of_le (Eo h)
 unfold Wn at h
 rw[List.getElem?_append_right (by simp),List.length_replicate,Nat.add_sub_cancel_left,List.getElem?_map] at h
 cases ej:caps[k]? with
 |none=>rw[ej] at h;cases h
 |some j=>
  rw[ej] at h
  have h:Zmz (sd[j]?).join=some s:=by simpa using h
  cases z:sd[j]? with
  |none=>rw[z] at h;cases h
  |some q=>
   rw[z] at h
   cases q with
   |none=>cases h
   |some q=>
    cases q with
    |im d=>cases h;exact⟨k,j,d,rfl,ej,z,rfl⟩
    |ow _=>cases h
    |od _=>cases h
    |dk _=>cases h
    |xc _=>cases h
    |fn _=>cases h
    |ob _ _ _=>cases h
    |fl _ _ _=>cases h
def Zcq {n0:Nat}{caps:List Nat}{sd:Zl}(i:Nat)(t:S)(h:(Wn n0 caps sd)[i]?=some (some t)):∃d,t=.im d:=by
 obtain⟨_,_,d,_,_,_,e⟩:=Ep h
 exact⟨d,e⟩
def Zj6 (n0:Nat)(gt:D->Zl->M Zl):Prop:=∀d sd sd1,gt d sd=.ok sd1->sd1.length=sd.length/\(∀i:Nat,n0<=i->sd1[i]?=sd[i]?)/\True
def J9 {n0 k:Nat}(h:k<n0):Zj6 n0 (Y1 k):=fun d sd sd1 e=>by
 cases e
 exact⟨List.length_set,fun i hi=>List.getElem?_set_ne (by lia),trivial⟩
def Uv {X:Cx}{E:XK}{pos:Pos}{tg elt iter:Expr}{scope:Scope}{Nc:List Str}{n0:Nat}{caps:List Nat}{cl:List (Str×Addr)}{fi:Zl->M (List D)}{gt:D->Zl->M Zl}{fe:Zl->M D}(hc:X.calm=true)(hclos:closureFor scope X.env=pure cl)(cap:CapOk X Nc n0 caps scope cl)(hkind:scope.kind=.function)(hcell:∀y∈scope.names,y.2≠.cell)(hnames:∀y∈scope.names,y.2=.local->scope.names.lookup y.1=some .local)(hk:Zj6 n0 gt)(hi:Zj1 X E tg iter fi)(hg:∀s3 H3 C ex,Zjy (Ww X Nc scope cl s3 H3 C ex) tg gt)(he:∀s3 H3 C ex,X4 (Ww X Nc scope cl s3 H3 C ex) E0 elt fe)(hs:∀x,foldedSetIterable iter X.env x=pure x:=by intro _;rfl):
  Zm0 X E (.ListComp elt [⟨tg,iter,[],0⟩] scope pos) (X6 fi n0 caps gt fe):=by
 refine⟨fun σ H Q=>∃H0 B Hf sd,SR X.K H0 B Hf sd σ H/\PoF X.K E Hf H (X6 fi n0 caps gt fe sd) Q,?_,fun H0 B Hf sd σ H Q sr h=>⟨H0,B,Hf,sd,sr,h⟩⟩
 rintro pins s σ H Q I ⟨H0,B,Hf,sd,sr,h⟩
 obtain⟨wi,pw,qw⟩:=hi
 rw[eval_ListComp]
 refine wpAny_comprehension_free (use:=none) rfl hs hclos hkind hnames ?_
 have step:=pw pins s σ H (fun J H2=>∃ds Hf2,Gr Hf H Hf2 H2/\R5 X.K Hf2 H2 ds J/\PoF X.K E Hf2 H2 (if few ds then V8 gt fe (Wn n0 caps sd) ds else .bad) Q) I
  (qw H0 B Hf sd σ H _ sr (PoF.bind h fun ds J Hf2 H2 _ g2 jok h2=>⟨ds,Hf2,g2,jok,h2⟩))
 refine Xi step fun v s1 h1=>Xi h1 fun itv s2 h2=>?_
 obtain⟨it,fp,tn,J,H2,rfl,I2,T,st2,f2,ds,Hf2,g2,jok,hq⟩:=h2
 have sr2:=sr.gr g2
 split at hq
 case isFalse=>exact hq.elim
 case isTrue hfew=>
 have fresh:H2 s2.heap.objs.size=none:=I2.hok.fresh (Nat.le_refl _)
 have holdf:∀b∈fp,∃o,s2.heap.get? b=some o:=fun b hb=>let ⟨o,e,_⟩:=T.obj 0 _ st2 b hb;⟨o,e⟩
 refine wpAny_newObj_type (wpAny_newFunctionEnv hcell (by intro y hy;simp at hy) (fun h₁ hns₁ hsb₁=>?_) hkind)
 have hC:(s2.heap.push Yl).objs.size=s2.heap.objs.size+1:=Heap.size_push _ _
 have hns:h₁.Ns (s2.heap.objs.size+1) (fun x=>([]:List (Str×Value)).reverse.lookup x):=hC▸hns₁
 have hsb:Heap.SameBut (s2.heap.objs.size+1) ((s2.heap.push Yl).push {cls:=.type "dict", data:=.dict #[]}) h₁:=hC▸hsb₁
 have hold1:∀b o,s2.heap.get? b=some o->h₁.get? b=some o:=fun b o e=>by
  have hb:b<s2.heap.objs.size:=Heap.lt_size e
  exact(hsb.2 b (Nat.ne_of_lt (Nat.lt_succ_of_lt hb))).trans (Heap.get?_push_of_some _ (Heap.get?_push_of_some _ e))
 have hD:h₁.get? s2.heap.objs.size=some Yl:=(hsb.2 _ (Nat.ne_of_lt (Nat.lt_succ_self _))).trans (Heap.get?_push_of_some _ (Heap.get?_push_size _ rfl))
 have J0:=Ci I2 f2 holdf hkind cap (tk:=s2.toks+([]:List (Str×Value)).length) hns hold1 hD
 have hg:=hg {s2 with heap:=s2.heap.push Yl} (upd H2 s2.heap.objs.size (.lst [])) (s2.heap.objs.size+1) fp
 have he:=he {s2 with heap:=s2.heap.push Yl} (upd H2 s2.heap.objs.size (.lst [])) (s2.heap.objs.size+1) fp
 generalize hXc:Ww X Nc scope cl {s2 with heap:=s2.heap.push Yl} (upd H2 s2.heap.objs.size (.lst [])) (s2.heap.objs.size+1) fp=Xc at J0 hg he
 have eP:Xc.prog=X.prog:=by subst hXc;rfl
 have eW:Xc.w=X.w:=by subst hXc;rfl
 have eK:Xc.K=X.K:=by subst hXc;rfl
 have eA:Xc.A=X.A:=by subst hXc;rfl
 have eX:Xc.xe=fun _ _=>False:=by subst hXc;rfl
 have eE:Xc.env=compEnvC scope cl (s2.heap.objs.size+1) X.env:=by subst hXc;rfl
 have eC:Xc.calm=true:=by subst hXc;exact hc
 have fpc:∀{H':Hp},(∀b∈fp,H' b=none)->∀b∈fp,Ry Xc [] H' b:=fun {H'} hn b hb=>by
  subst hXc
  obtain⟨f0,f1,f2',f3,f4,f5⟩:=f2 b hb
  obtain⟨o,eo⟩:=holdf b hb
  refine⟨hn b hb,Nat.ne_of_lt (Nat.lt_succ_of_lt (Heap.lt_size eo)),fun hz=>?_,.inl hb,fun x c e=>f4 x c (cap.sub x c e),fun p hp=>absurd (show p∈([]:List (Addr×Obj)) from hp) (by simp)⟩
  rcases List.mem_cons.mp (I2.stkSub b hz) with e|hz
  ·exact f1 e
  ·exact f2' hz
 have nfp:∀b∈fp,b≠s2.heap.objs.size:=fun b hb=>by
  obtain⟨o,eo⟩:=holdf b hb
  exact Nat.ne_of_lt (Heap.lt_size eo)
 obtain⟨tg',pg,qg⟩:=hg
 obtain⟨te,pe,qe⟩:=he
 have loop:∀s₃:Shared,s₃={s2 with heap:=h₁,toks:=s2.toks+([]:List (Str×Value)).length} ->
   codeAny (model X.prog X.w) X.A (.compLoop (.ListComp elt [⟨tg,iter,[],0⟩] scope pos) 0 (.ref it) (.ref s2.heap.objs.size) (compEnvC scope cl (s2.heap.objs.size+1) X.env))
    (compPost (model X.prog X.w) X.A X.xe none (EP X pins σ Q) (.ref s2.heap.objs.size) (s2.heap.objs.size+1)) s₃:=by
  rintro s₃ rfl
  refine Uu (fun n s'=>∃i vs es H' Hf' σ',n=ds.length-i/\i<=ds.length/\Inv Xc [] σ' H' s'/\tn i s'.heap/\(∀b∈fp,H' b=none) /\
   H' s2.heap.objs.size=some (.lst vs)/\Hf' s2.heap.objs.size=none/\Gr Hf2 H2 Hf' H'/\Reps X.K Hf' es vs/\vs.length=i /\
   (Wn n0 caps sd).length=σ'.length/\(∀(j:Nat) (d:D),(Wn n0 caps sd)[j]?=some (some (.im d))->∃v,σ'[j]?=some (some v)/\Rep X.K Hf' d v) /\
   PoF X.K E Hf2 H2 ((V8 gt fe (Wn n0 caps sd) (ds.drop i)).bind fun fs=>.ok (es++fs)) Q) ?_ ds.length ?_
  ·rintro n s' ⟨i,vs,es,H',Hf',σ',rfl,hil,J1,st1,fr1,hd1,hf1,g1,rs1,hl1,hlen1,him1,hq1⟩
   have jj:=jok i Hf' H' g1.fz g1.sub
   cases q:ds[i]? with
   |none=>
    rw[q] at jj
    have tdone:=T.done Xc eP eW eK eC i [] s' _ H' (fun _ _=>False) J1 (fpc fr1) st1 jj
    rw[eA] at tdone
    refine wpAny_mono tdone (fun r s4 hr=>?_) fun _ _ z=>z
    obtain⟨rfl,J4⟩:=hr
    rw[List.drop_eq_nil_of_le (List.getElem?_eq_none_iff.mp q)] at hq1
    subst hXc
    obtain⟨m,hn4,_⟩:=J4.loc
    refine⟨m,hn4,fun h' sb=>?_⟩
    refine⟨.ref s2.heap.objs.size,H',Mb I2 f2 J4 sb,rfl,?_⟩
    have hq2:PoF X.K E Hf2 H2 (.ok es) Q:=by
     have:es++([]:List D)=es:=List.append_nil es
     rw[<-this];exact hq1
    exact hq2 _ vs Hf' H' g1 fresh hf1 hd1 rs1
   |some d=>
    rw[q] at jj
    obtain⟨go,yl⟩:=jj
    have hlt:i<ds.length:=(List.getElem?_eq_some_iff.mp q).1
    have hdr:ds.drop i=d::ds.drop (i+1):=by
     rw[List.drop_eq_getElem_cons hlt]
     congr 1
     exact(List.getElem?_eq_some_iff.mp q).2
    obtain⟨sd1,e1,eg,ee,hq2⟩:∃sd1 e1,gt d (Wn n0 caps sd)=.ok sd1/\fe sd1=.ok e1/\PoF X.K E Hf2 H2 ((V8 gt fe (Wn n0 caps sd) (ds.drop (i+1))).bind fun fs=>.ok ((es++[e1])++fs)) Q:=by
     rw[hdr] at hq1
     unfold V8 at hq1
     split at hq1
     ·rename_i sd1 eg
      split at hq1
      ·rename_i e1 ee
       refine⟨sd1,e1,eg,ee,?_⟩
       cases em:V8 gt fe (Wn n0 caps sd) (ds.drop (i+1)) with
       |ok fs=>
        rw[em] at hq1
        have:(es++[e1])++fs=es++e1::fs:=by simp
        rw[M.bind_ok,this]
        exact hq1
       |ex x=>exact(Mc em).elim
       |bad=>rw[em] at hq1;exact hq1.elim
      ·exact hq1.elim
     ·exact hq1.elim
    have titem:=T.item Xc eP eW eK eC i [] s' _ H' (fun _ _=>False) J1 (fpc fr1) st1 go
    rw[eA] at titem
    refine wpAny_mono titem (fun r s4 hr=>?_) fun _ _ z=>z
    obtain⟨u,rfl,h4⟩:=hr
    refine wpAny_mono h4 (fun _ s5 h5=>?_) fun _ _ z=>z
    obtain⟨x,H5,J5,r5,y5,st5,fr5⟩:=h5
    obtain⟨Hf5,g5,rx⟩:=yl x H5 y5
    have J5':=J5.pinned (fpc fr5) (T.obj _ _ st5)
    have hD5:H5 s2.heap.objs.size=some (.lst vs):=g5.all _ _ hd1
    have hf5:Hf5 s2.heap.objs.size=none:=g5.ban _ (Lv.lst hd1) hf1
    have him5:∀(j:Nat) (d:D),(Wn n0 caps sd)[j]?=some (some (.im d))->∃v,σ'[j]?=some (some v)/\Rep X.K Hf5 d v:=fun j d z=>let ⟨v,z1,z2⟩:=him1 j d z;⟨v,z1,z2.mono g5.fz⟩
    have sr5:SR Xc.K H5 (fun a=>Lv H5 a/\Hf5 a=none) Hf5 (Wn n0 caps sd) σ' H5:=eK▸SR.ofIm g5.sub hlen1 him5 Zcq
    obtain⟨kl,kk,kn⟩:=hk d _ sd1 eg
    have hg2:=pg _ s5 σ' H5 x u (fun σ6 H6=>te σ6 H6 fun v7 H7=>∃Hf7,Gr Hf5 H5 Hf7 H7/\Rep X.K Hf7 e1 v7/\(Wn n0 caps sd).length=σ6.length/\(∀(j:Nat) (d:D),(Wn n0 caps sd)[j]?=some (some (.im d))->∃v,σ6[j]?=some (some v)/\Rep X.K Hf7 d v)) J5' r5
     (qg H5 _ Hf5 _ σ' H5 x d sd1 _ sr5 (eK▸rx) eg fun σ6 sr6=>qe H5 _ Hf5 sd1 σ6 H5 _ sr6 (by
      rw[ee]
      intro v7 Hf7 H7 g7 r7
      have r7:Rep Xc.K Hf7 e1 v7:=r7
      rw[eK] at r7
      refine⟨Hf7,g7,r7,by rw[<-kl];exact sr6.len,fun j d z=>?_⟩
      have z2:sd1[j]?=some (some (.im d)):=by rw[kk j (Eo z)];exact z
      obtain⟨v,z3,z4⟩:=sr6.im j d z2
      rw[eK] at z4
      exact⟨v,z3,z4.mono g7.fz⟩))
    rw[eP,eW,eA,eX,eE] at hg2
    refine wpAny_mono hg2 (fun _ s6 h6=>?_) fun _ _ z=>z
    obtain⟨σ6,H6,J6,q6⟩:=h6
    have he2:=pe _ s6 σ6 H6 _ J6 q6
    rw[eP,eW,eA,eX,eE] at he2
    refine wpAny_mono he2 (fun y s7 h7=>?_) fun _ _ z=>z
    obtain⟨v7,H7,J7,r7,Hf7,g7,rv7,hl7,him7⟩:=h7
    have hD7:H7 s2.heap.objs.size=some (.lst vs):=g7.all _ _ hD5
    have hf7:Hf7 s2.heap.objs.size=none:=g7.ban _ (Lv.lst hD5) hf5
    have happ:=Gi (X:=Xc) _ s7 σ6 H7 (.ref s2.heap.objs.size) [v7] (.ref s2.heap.objs.size) [y] (fun _ H8=>H8=upd H7 s2.heap.objs.size (.lst (vs++[v7]))) J7 rfl (.cons r7 .nil)
     ⟨_,vs,v7,rfl,rfl,hD7,by
      have h1:=of_decide_eq_true hfew
      have h2:=sizeLine_eq
      lia,rfl⟩
    rw[eP,eW,eA,eX] at happ
    refine wpAny_mono happ (fun _ s8 h8=>?_) fun _ _ z=>z
    obtain⟨_,H8,J8,_,e8⟩:=h8
    subst e8
    have g17:=(g1.trans g5).trans g7
    refine⟨ds.length-(i+1),by lia,i+1,vs++[v7],es++[e1],_,Hf7,σ6,rfl,hlt,J8.unpinned,?_,fun b hb=>?_,Z2,hf7,⟨g17.fz,fun b o z=>?_,fun b o z=>?_,g17.ban⟩,?_,by rw[List.length_append,hl1];rfl,hl7,him7,hq2⟩
    ·exact T.keep _ _ _ st5 fun b hb o e=>(J8.pin (b,o) (List.mem_append_right _ (List.mem_append_right _ (Ks hb e)))).1
    ·obtain⟨o,e,_⟩:=T.obj _ _ st5 b hb
     exact(J8.pin (b,o) (List.mem_append_right _ (List.mem_append_right _ (Ks hb e)))).2.1
    ·have:b≠s2.heap.objs.size:=Z9 z hf7
     rw[Zp this];exact g17.sub b o z
    ·have:b≠s2.heap.objs.size:=Z9 z fresh
     rw[Zp this];exact g17.all b o z
    ·exact(rs1.mono (g5.fz.trans g7.fz)).append (Reps.cons rv7 Reps.nil)
  ·refine⟨0,[],[],_,Hf2,_,by simp,Nat.zero_le _,J0,T.keep 0 _ _ st2 fun b hb o e=>hold1 b o e,fun b hb=>?_,Z2,g2.sub.free fresh,⟨Same.refl _,fun b o z=>?_,Qw fresh _,fun _ _ z=>z⟩,Reps.nil,rfl,?_,fun j d z=>?_,?_⟩
   ·rw[Zp (nfp b hb)];exact(f2 b hb).1
   ·have:b≠s2.heap.objs.size:=Z9 (g2.sub b o z) fresh
    rw[Zp this];exact g2.sub b o z
   ·unfold Wn;simp only[List.length_append,List.length_replicate,List.length_map]
   ·obtain⟨k,j',d',rfl,ej,es,ed⟩:=Ep z
    cases ed
    obtain⟨v,z1,z2⟩:=sr2.im j' d es
    refine⟨v,?_,z2⟩
    rw[List.getElem?_append_right (by simp),List.length_replicate,Nat.add_sub_cancel_left,List.getElem?_map,ej]
    simp[z1]
   ·have:∀r:M (List D),(r.bind fun fs=>.ok ([]++fs))=r:=fun r=>by cases r<;>simp
    rw[List.drop_zero,this]
    exact hq
 show codeAny (model X.prog X.w) X.A (.compStart (.ListComp elt [⟨tg,iter,[],0⟩] scope pos) 0 (.ref it) (.ref s2.heap.objs.size) (compEnvC scope cl (s2.heap.push Yl).objs.size X.env))
  (compPost (model X.prog X.w) X.A X.xe none (EP X pins σ Q) (.ref s2.heap.objs.size) (s2.heap.push Yl).objs.size) {s2 with heap:=h₁,toks:=s2.toks+([]:List (Str×Value)).length}
 rw[hC]
 exact codeAny_compStart_list (loop _ rfl) (T.self X.A 0 _ _ _ (T.keep 0 _ _ st2 fun b hb o e=>hold1 b o e) (loop _ rfl))
def Zm1 {X:Cx}{Nc:List Str}{n0:Nat}{scope:Scope}(hn:Nc.length=n0)(h:∀y∈scope.names,y.2≠.cell/\y.2≠.free):CapOk X Nc n0 [] scope []:=by
 have key:∀(l:List (Str×NameKind)) (y:Str) (k:NameKind),(∀p∈l,p.2≠.cell/\p.2≠.free)->(l.map fun(n,k)=>if(k==NameKind.free&&X.env.scope.kind==.function&&X.env.kindOf n==some .cell) then(n,NameKind.cell) else(n,k)).lookup y=some k->k≠.cell/\k≠.free:=by
  intro l y k
  induction l with
  |nil=>intro _ e;cases e
  |cons p r ih=>
   intro hp e
   obtain⟨n,kk⟩:=p
   have h0:=hp (n,kk) List.mem_cons_self
   have hf:(kk==NameKind.free)=false:=by
    have:=h0.2
    cases kk<;>first|rfl|exact absurd rfl this
   rw[List.map_cons] at e
   simp only[hf,Bool.false_and,Bool.false_eq_true,if_false,List.lookup_cons] at e
   split at e
   ·cases e;exact h0
   ·exact ih (fun q hq=>hp q (List.mem_cons_of_mem _ hq)) e
 refine⟨fun y c e=>(nomatch e),fun y e=>?_,fun i j x _ e=>by simp at e,by simpa using hn⟩
 rcases e with e|e
 ·exact absurd rfl (key _ y _ h e).1
 ·exact absurd rfl (key _ y _ h e).2
section
variable {X:Cx}{E:XK}{pos:Pos}{a b:Expr}
def Sy (fs:Zl->M (List D))(sd:Zl):M (List D):=(fs sd).bind fun ds=>if few ds then .ok ds else .bad
def Ve {es:List Expr}{fs:Zl->M (List D)}(h:Aw X E es fs):Zm0 X E (.List es pos) (Sy fs):=by
 obtain⟨t,p,q⟩:=h
 refine⟨_,Eg p,fun H0 B Hf sd σ H Q sr h=>?_⟩
 refine q H0 B Hf sd σ H _ sr (PoF.bind h fun ds vs Hf1 H1 _ g1 rs h1=>?_)
 split at h1
 ·rename_i hf
  refine⟨Ut hf rs,fun p hp=>h1 p vs Hf1 _ ⟨Same.refl _,g1.sub.trans (Qw hp _),Qw hp _,fun _ _ e=>e⟩ hp (g1.sub.free hp) Z2 rs⟩
 ·exact h1.elim
def PoS.bindF {K:PySem.W.Frag}{E:XK}{H0 Hf H:Hp}{B:Addr->Prop}{sd:Zl}{σ:L2.St}{r:M (List D)}{k:List D->M O}{D':Ends}{Q1:VK}(sr:SR K H0 B Hf sd σ H)(h:PoS K E H0 B Hf (r.bind k) D')(s:∀ds p xs Hf1 H1,r=.ok ds->Gr Hf H Hf1 H1->SR K H0 B Hf1 sd σ H1->H p=none->Hf1 p=none->H1 p=some (.lst xs)->Reps K Hf1 ds xs->PoS K E H0 B Hf1 (k ds) D'->Q1 (.ref p) H1):PoF K E Hf H r Q1:=by
 cases r with
 |ok ds=>exact fun p xs Hf' H' g e1 e2 e3 e4=>s ds p xs Hf' H' rfl g (sr.gr g) e1 e2 e3 e4 (PoS.weak g.fz h)
 |ex x=>exact fun c dx Hf' H' g q=>h c dx Hf' H' g.fz (sr.gr g).fin q
 |bad=>exact h
def SR.set_new {K:PySem.W.Frag}{H0 Hf H H1:Hp}{B:Addr->Prop}{sd:Zl}{σ:L2.St}(r0:SR K H0 B Hf sd σ H){Hf1:Hp}(r:SR K H0 B Hf1 sd σ H1)(g:Same H H1)(i:Nat){p:Addr}{t:S}(hp:H p=none)(hf:Hf1 p=none)(ho:t.own=true)(h:S.at K Hf1 H1 p t):
  SR K H0 B Hf1 (sd.set i (some t)) (σ.set i (some (.ref p))) H1 where
 sub:=r.sub
 all:=r.all
 ban:=r.ban
 bt:=r.bt
 len:=by rw[List.length_set,List.length_set];exact r.len
 imS:=fun j d' e z=>by
  by_cases hj:i=j
  ·subst hj
   have hi:i<sd.length:=by
    have:=(List.getElem?_eq_some_iff.mp e).1;simpa using this
   rw[List.getElem?_set_self hi] at e
   cases e
   rw[ho] at z;cases z
  ·rw[List.getElem?_set_ne hj] at e ⊢
   exact r.imS j d' e z
 ow:=fun j u e hu=>by
  by_cases hj:i=j
  ·subst hj
   have hi:i<sd.length:=by
    have:=(List.getElem?_eq_some_iff.mp e).1;simpa using this
   rw[List.getElem?_set_self hi] at e
   cases e
   exact⟨p,by rw[List.getElem?_set_self (by rw[<-r.len];exact hi)],r0.all.free hp,hf,h⟩
  ·rw[List.getElem?_set_ne hj] at e ⊢
   exact r.ow j u e hu
 sep:=fun j k u w q hjk e1 o1 e2 o2 e3 e4=>by
  have new:∀{l:Nat},i=l->(σ.set i (some (V.ref p)))[l]?=some (some (.ref q))->q=p:=fun {l} z e=>by
   subst z
   have hi:i<σ.length:=by
    have:=(List.getElem?_eq_some_iff.mp e).1;simpa using this
   rw[List.getElem?_set_self hi] at e
   cases e;rfl
  have old:∀{l:Nat}{u:S},i≠l->(sd.set i (some t))[l]?=some (some u)->u.own=true->(σ.set i (some (V.ref p)))[l]?=some (some (.ref q))->q≠p:=fun {l u} n e ou z=>by
   rw[List.getElem?_set_ne n] at e z
   obtain⟨q',e1,_,_,e4⟩:=r0.ow l u e ou
   rw[z] at e1
   cases e1
   obtain⟨o,eo⟩:=F8 e4
   exact Z9 eo hp
  by_cases n1:i=j
  ·have n2:i≠k:=fun z=>hjk (n1.symm.trans z)
   exact old n2 e2 o2 e4 (new n1 e3)
  ·by_cases n2:i=k
   ·exact old n1 e1 o1 e3 (new n2 e4)
   ·rw[List.getElem?_set_ne n1] at e1 e3
    rw[List.getElem?_set_ne n2] at e2 e4
    exact r.sep j k u w q hjk e1 o1 e2 o2 e3 e4
def Sz (i:Nat)(f:Zl->M (List D))(sd:Zl):M O:=(f sd).bind fun ds=>.ok (.nx (sd.set i (some (.ow ds))))
def Vf (i:Nat){x:Str}{e:Expr}{f:Zl->M (List D)}{pos':Pos}(hN:X.N.Nodup)(h:Zm0 X E e f)(hi:X.N[i]?=some x:=by rfl)(hx:Zbw X.env.scope x:=by trivial)(hs:swapsWith e (some (.Name x pos')) pos.line X.env=pure false:=by rfl)(hf:X.fn x=true\/X.env.scope.names.lookup x=some .local:=by first|exact .inl rfl|exact .inr rfl|assumption):
  Ss X E (.Assign [.Name x pos'] e pos) (Sz i f):=by
 obtain⟨t,p,q⟩:=h
 refine⟨_,Nd hN hi hx p hs hf,fun H0 B Hf sd σ H D sr h=>?_⟩
 refine q H0 B Hf sd σ H _ sr (PoS.bindF sr h fun ds p xs Hf1 H1 _ g1 sr1 e1 e2 e3 e4 h1=>?_)
 exact h1 _ Hf1 H1 (Same.refl _) (sr.set_new sr1 g1.all i e1 e2 rfl ⟨xs,e3,e4⟩)
def Vg (i:Nat)(f:Zl->M D)(sd:Zl):M O:=match sd[i]? with
 |some (some (.ow ds))=>(f sd).bind fun d=>if few ds then .ok (.nx (sd.set i (some (.ow (ds++[d]))))) else .bad
 |_=>.bad
def Vh (i:Nat){x:Str}{e:Expr}{f:Zl->M D}{p1 p2 p3:Pos}(h:X4 X E e f)(hi:X.N[i]?=some x:=by rfl)(hv:Ld X.env.scope x:=by trivial)
  (hd:(x==("__debug__":Str))=false:=by decide) (hcd:(x==("__classdict__":Str))=false:=by decide)
  (hse:starEach [e] X.env=(false,eval e X.env)::starEach [] X.env:=by rfl)
  (hbase:attributeBase (.Name x p1) "append" X.env (eval (.Name x p1) X.env)=eval (.Name x p1) X.env:=by rfl)
  (hfew:((backTo p3 (starEach [e] X.env)).all (fun x=>!x.1)&&(backToKw p3 (keywordEach [] X.env)).all (fun x=>x.1.isSome)
   && decide ([e].length+([]:List Keyword).length+(if([]:List Keyword).isEmpty then 0 else 1)<30))=true:=by rfl)
  (hline:(p2.endLine==p3.line)=true:=by rfl) (hplain:(backTo p3 (starEach ([]:List Expr) X.env)).any (·.1)=false:=by rfl)
  (hsw:swapsWith (.Call (.Attribute (.Name x p1) "append" p2) [e] [] p3) none pos.line X.env=pure false:=by rfl):
  Ss X E (.Expr (.Call (.Attribute (.Name x p1) "append" p2) [e] [] p3) pos) (Vg i f):=by
 obtain⟨t,pt,q⟩:=h
 refine⟨_,Gh (Zca PySem.F.plainAttrs_list PySem.F.slot_list_append PySem.F.type_list_append Gi (Qm hi hv hd hcd) (Qz pt Jm hse) hbase hfew hline hse hplain) hsw,fun H0 B Hf sd σ H D sr h=>?_⟩
 unfold Vg at h
 split at h
 ·rename_i ds ei
  obtain⟨p,z1,z2,z3,xs,z4,z5⟩:=sr.ow i _ ei rfl
  refine⟨_,z1,.inl ⟨rfl,xs,SqL.of z4⟩,?_⟩
  refine q H0 B Hf sd σ H _ sr (PoS.bind sr h fun d v Hf1 H1 _ g1 sr1 rv h1=>?_)
  split at h1
  ·rename_i hf
   have z5':=z5.mono g1.fz
   have hl:xs.length<sizeLine:=by
    have h1:=of_decide_eq_true hf
    have h2:=sizeLine_eq
    rw[<-z5.length,h2];lia
   refine⟨p,xs,v,rfl,rfl,g1.all _ _ z4,hl,?_⟩
   exact h1 _ Hf1 _ (Same.refl _) (sr1.change ei rfl z1 rfl ⟨_,Z2,z5'.append (Reps.cons rv Reps.nil)⟩)
  ·exact h1.elim
 ·exact h.elim
def Cj (i:Nat)(f:Zl->M (List D))(sd:Zl):M O:=match sd[i]? with
 |some (some (.ow ds))=>(f sd).bind fun es=>if few (ds++es) then .ok (.nx (sd.set i (some (.ow (ds++es))))) else .bad
 |_=>.bad
def Hj (i:Nat){x:Str}{e:Expr}{f:Zl->M (List D)}{p1 p2 p3:Pos}(h:Zm0 X E e f)(hi:X.N[i]?=some x:=by rfl)(hv:Ld X.env.scope x:=by trivial)
  (hd:(x==("__debug__":Str))=false:=by decide) (hcd:(x==("__classdict__":Str))=false:=by decide)
  (hse:starEach [e] X.env=(false,eval e X.env)::starEach [] X.env:=by rfl)
  (hbase:attributeBase (.Name x p1) "extend" X.env (eval (.Name x p1) X.env)=eval (.Name x p1) X.env:=by rfl)
  (hfew:((backTo p3 (starEach [e] X.env)).all (fun x=>!x.1)&&(backToKw p3 (keywordEach [] X.env)).all (fun x=>x.1.isSome)
   && decide ([e].length+([]:List Keyword).length+(if([]:List Keyword).isEmpty then 0 else 1)<30))=true:=by rfl)
  (hline:(p2.endLine==p3.line)=true:=by rfl) (hplain:(backTo p3 (starEach ([]:List Expr) X.env)).any (·.1)=false:=by rfl)
  (hsw:swapsWith (.Call (.Attribute (.Name x p1) "extend" p2) [e] [] p3) none pos.line X.env=pure false:=by rfl):
  Ss X E (.Expr (.Call (.Attribute (.Name x p1) "extend" p2) [e] [] p3) pos) (Cj i f):=by
 obtain⟨t,pt,q⟩:=h
 refine⟨_,Gh (Zca PySem.F.plainAttrs_list PySem.F.slot_list_extend PySem.F.type_list_extend Zad (Qm hi hv hd hcd) (Qz pt Jm hse) hbase hfew hline hse hplain) hsw,fun H0 B Hf sd σ H D sr h=>?_⟩
 unfold Cj at h
 split at h
 ·rename_i ds ei
  obtain⟨p,z1,z2,z3,xs,z4,z5⟩:=sr.ow i _ ei rfl
  refine⟨_,z1,.inl ⟨rfl,xs,SqL.of z4⟩,?_⟩
  refine q H0 B Hf sd σ H _ sr (PoS.bindF sr h fun es b ys Hf1 H1 _ g1 sr1 e1 e2 e3 e4 h1=>?_)
  split at h1
  ·rename_i hf
   have z5':=z5.mono g1.fz
   have hl:=Ut hf (z5'.append e4)
   rw[List.length_append] at hl
   refine⟨p,b,xs,ys,rfl,rfl,g1.all _ _ z4,e3,hl,?_⟩
   exact h1 _ Hf1 _ (Same.refl _) (sr1.change ei rfl z1 rfl ⟨_,Z2,z5'.append e4⟩)
  ·exact h1.elim
 ·exact h.elim
def Ck (i:Nat)(sd:Zl):M O:=match sd[i]? with
 |some (some (.ow ds))=>.ok (.rt (.ow ds))
 |_=>.bad
def S0 (i:Nat){x:Str}{p1:Pos}(hi:X.N[i]?=some x:=by rfl)(hv:Ld X.env.scope x:=by trivial)
  (hd:(x==("__debug__":Str))=false:=by decide) (hcd:(x==("__classdict__":Str))=false:=by decide):Ss X E (.Return (some (.Name x p1)) pos) (Ck i):=by
 refine⟨_,Pn (Qm hi hv hd hcd),fun H0 B Hf sd σ H D sr h=>?_⟩
 unfold Ck at h
 split at h
 ·rename_i ds ei
  obtain⟨p,z1,z2,z3,z4⟩:=sr.ow i _ ei rfl
  exact⟨_,z1,h _ Hf H (Same.refl _) sr.fin ⟨p,rfl,z2,z3,z4⟩⟩
 ·exact h.elim
def frz (i:Nat)(sd:Zl):Zl:=match sd[i]? with
 |some (some (.ow ds))=>sd.set i (some (.im (.lst ds)))
 |_=>sd
def V9 (i:Nat)(f:Zl->M O)(sd:Zl):M O:=f (frz i sd)
def Kj (i:Nat){st:List Stmt}{f:Zl->M O}(h:Ps X E st f):Ps X E st (V9 i f):=by
 obtain⟨t,p,q⟩:=h
 refine⟨t,p,fun H0 B Hf sd σ H D sr h=>?_⟩
 unfold V9 frz at h
 split at h
 ·rename_i ds ei
  obtain⟨Hf',e,sr'⟩:=sr.freeze ei
  exact q H0 B Hf' _ σ H D sr' (PoS.weak e h)
 ·exact q H0 B Hf sd σ H D sr h
theorem Wx {Xc:Cx}{pins:List (Addr×Obj)}{σ:L2.St}{H:Hp}{s:Shared}(I:Inv Xc pins σ H s)(dx:D)(e:Value->Bool)(he:∀d v u,Rep Xc.K H d v->RelV v u->e u=D.eq d dx):
  ∀{ds:List D}{xs:List V}{us:List Value},Reps Xc.K H ds xs->Vals xs us->us.any e=ds.any fun d=>D.eq d dx
 |[],xs,us,r,v=>by
  rw[reps_nil.mp r] at v
  cases v
  rfl
 |d::ds,xs,us,r,v=>by
  obtain⟨x,xr,rfl,r1,r2⟩:=reps_cons.mp r
  cases v with
  |cons v1 v2=>rw[List.any_cons,List.any_cons,he d x _ r1 v1,Wx I dx e he r2 v2]
def Cn {Xc:Cx}{H:Hp}{ds:List D}:∀{xs:List V}{us:List Value}{u:Value},Reps Xc.K H ds xs->Vals xs us->u∈us->∃d v,d∈ds/\Rep Xc.K H d v/\RelV v u:=by
 induction ds with
 |nil=>
  intro xs us u r v hu
  rw[reps_nil.mp r] at v
  cases v
  cases hu
 |cons d ds ih=>
  intro xs us u r v hu
  obtain⟨x,xr,rfl,r1,r2⟩:=reps_cons.mp r
  cases v with
  |cons v1 v2=>
   rcases List.mem_cons.mp hu with rfl|hu
   ·exact⟨d,x,List.mem_cons_self,r1,v1⟩
   ·obtain⟨d',v',h1,h2,h3⟩:=ih r2 v2 hu
    exact⟨d',v',List.mem_cons_of_mem _ h1,h2,h3⟩
def Md (dx:D)(ds:List D):Bool:=ds.any fun d=>D.eq d dx
def Zm2 (K:PySem.W.Frag)(neg:Bool):R2:=fun x y H Q=>∃dx ds,Rep K H dx x/\(Rep K H (.lst ds) y\/Rep K H (.tup ds) y)/\D.deps ds<=60/\Q (.bl (if neg then !Md dx ds else Md dx ds)) H
theorem S1:∀{ds:List D}{d:D},d∈ds->d.dep<=D.deps ds
 |e::ds,d,h=>by
  rw[D.deps]
  rcases List.mem_cons.mp h with rfl|h
  ·lia
  ·have:=S1 h;lia
open Classical in
theorem Zj7 (hu:X.A.units+64<cLine):OpR X (compareOp .In) (Zm2 X.K false):=by
 intro pins s σ H x y v u Q I rx ry h
 obtain⟨dx,ds,hx,hy,hd,q⟩:=h
 let e:Value->Bool:=fun u=>decide (∃d v,Rep X.K H d v/\RelV v u/\D.eq d dx=true)
 have he:∀d v u,Rep X.K H d v->RelV v u->e u=D.eq d dx:=fun d v u r1 r2=>by
  cases z:D.eq d dx with
  |true=>exact decide_eq_true ⟨d,v,r1,r2,z⟩
  |false=>
   refine decide_eq_false ?_
   rintro⟨d',v',a1,a2,a3⟩
   have e1:v'=v:=RelV.inj a2 r2
   subst e1
   rw[Nw I d d' _ r1 a1,a3] at z
   cases z
 have each:∀{xs:List V}{us:List Value},Reps X.K H ds xs->Vals xs us->∀w∈us,SeqAt.EqAt X.A.in1 s w v (e w):=fun {xs us} r1 r2 w hw=>by
  obtain⟨d,z,m1,m2,m3⟩:=Cn r1 r2 hw
  rw[he d z w m2 m3]
  refine(Sw I d dx X.A.in1 z x w v ?_ m2 hx m3 rx).eq
  have:=S1 m1
  show X.A.units+1+_<_
  lia
 rcases hy with hy|hy
 ·obtain⟨p,xs,rfl,hp,hr⟩:=rep_lst.mp hy
  cases ry
  obtain⟨its,r,pl,hz⟩:=I.list hp
  refine SeqAt.in_listAt e pl.isList (fun w hw=>each hr r w (by simpa using hw)) ⟨.bl _,H,I,rfl,?_⟩
  rw[show its.toArray.any e=its.any e by simp,Wx I dx e he hr r]
  exact q
 ·obtain⟨p,xs,rfl,hp,hr⟩:=Qu hy
  cases ry
  obtain⟨its,r,pl,hz⟩:=I.tuple hp
  refine SeqAt.in_tupleAt e pl (fun w hw=>each hr r w (by simpa using hw)) ⟨.bl _,H,I,rfl,?_⟩
  rw[show its.toArray.any e=its.any e by simp,Wx I dx e he hr r]
  exact q
open Classical in
theorem Zam (hu:X.A.units+64<cLine):OpR X (compareOp .NotIn) (Zm2 X.K true):=by
 intro pins s σ H x y v u Q I rx ry h
 obtain⟨dx,ds,hx,hy,hd,q⟩:=h
 let e:Value->Bool:=fun u=>decide (∃d v,Rep X.K H d v/\RelV v u/\D.eq d dx=true)
 have he:∀d v u,Rep X.K H d v->RelV v u->e u=D.eq d dx:=fun d v u r1 r2=>by
  cases z:D.eq d dx with
  |true=>exact decide_eq_true ⟨d,v,r1,r2,z⟩
  |false=>
   refine decide_eq_false ?_
   rintro⟨d',v',a1,a2,a3⟩
   have e1:v'=v:=RelV.inj a2 r2
   subst e1
   rw[Nw I d d' _ r1 a1,a3] at z
   cases z
 have each:∀{xs:List V}{us:List Value},Reps X.K H ds xs->Vals xs us->∀w∈us,SeqAt.EqAt X.A.in1 s w v (e w):=fun {xs us} r1 r2 w hw=>by
  obtain⟨d,z,m1,m2,m3⟩:=Cn r1 r2 hw
  rw[he d z w m2 m3]
  refine(Sw I d dx X.A.in1 z x w v ?_ m2 hx m3 rx).eq
  have:=S1 m1
  show X.A.units+1+_<_
  lia
 rcases hy with hy|hy
 ·obtain⟨p,xs,rfl,hp,hr⟩:=rep_lst.mp hy
  cases ry
  obtain⟨its,r,pl,hz⟩:=I.list hp
  refine SeqAt.notIn_listAt e pl.isList (fun w hw=>each hr r w (by simpa using hw)) ⟨.bl _,H,I,rfl,?_⟩
  rw[show its.toArray.any e=its.any e by simp,Wx I dx e he hr r]
  exact q
 ·obtain⟨p,xs,rfl,hp,hr⟩:=Qu hy
  cases ry
  obtain⟨its,r,pl,hz⟩:=I.tuple hp
  refine SeqAt.notIn_tupleAt e pl (fun w hw=>each hr r w (by simpa using hw)) ⟨.bl _,H,I,rfl,?_⟩
  rw[show its.toArray.any e=its.any e by simp,Wx I dx e he hr r]
  exact q
def Er:D->D->M D
 |x,.lst ds=>if D.deps ds<=60 then .ok (.bl (Md x ds)) else .bad
 |x,.tup ds=>if D.deps ds<=60 then .ok (.bl (Md x ds)) else .bad
 |_,_=>.bad
def S2:D->D->M D
 |x,.lst ds=>if D.deps ds<=60 then .ok (.bl (!Md x ds)) else .bad
 |x,.tup ds=>if D.deps ds<=60 then .ok (.bl (!Md x ds)) else .bad
 |_,_=>.bad
def Me (hu:X.A.units+64<cLine):Se X E (compareOp .In) Er:=by
 refine⟨_,Zj7 hu,fun Hf H x y dx dy Q e rx ry q=>?_⟩
 unfold Er at q
 split at q
 ·split at q
  ·rename_i hd
   exact⟨_,_,rx.mono e,.inl (ry.mono e),hd,Po.ret e q (rep_bl.mpr rfl)⟩
  ·exact q.elim
 ·split at q
  ·rename_i hd
   exact⟨_,_,rx.mono e,.inr (ry.mono e),hd,Po.ret e q (rep_bl.mpr rfl)⟩
  ·exact q.elim
 ·exact q.elim
def Zcr (hu:X.A.units+64<cLine):Se X E (compareOp .NotIn) S2:=by
 refine⟨_,Zam hu,fun Hf H x y dx dy Q e rx ry q=>?_⟩
 unfold S2 at q
 split at q
 ·split at q
  ·rename_i hd
   exact⟨_,_,rx.mono e,.inl (ry.mono e),hd,Po.ret e q (rep_bl.mpr rfl)⟩
  ·exact q.elim
 ·split at q
  ·rename_i hd
   exact⟨_,_,rx.mono e,.inr (ry.mono e),hd,Po.ret e q (rep_bl.mpr rfl)⟩
  ·exact q.elim
 ·exact q.elim
def D.isN:D->Bool
 |.non=>true
 |_=>false
def Ng:D->D->M D
 |x,.non=>.ok (.bl x.isN)
 |_,_=>.bad
def Xd:D->D->M D
 |x,.non=>.ok (.bl (!x.isN))
 |_,_=>.bad
def Hl {K:PySem.W.Frag}{H:Hp}{d:D}{v:V}(r:Rep K H d v):decide (v=.non)=d.isN:=by
 cases d with
 |non=>rw[rep_non.mp r];rfl
 |bl b=>rw[rep_bl.mp r];rfl
 |int b=>rw[rep_int.mp r];rfl
 |str b=>rw[rep_str.mp r];rfl
 |tup b=>obtain⟨_,_,e,_⟩:=rep_tup.mp r;rw[e];rfl
 |lst b=>obtain⟨_,_,e,_⟩:=rep_lst.mp r;rw[e];rfl
def U5:Se X E (compareOp .Is) Ng:=by
 refine⟨_,Zjf,fun Hf H x y dx dy Q e rx ry q=>?_⟩
 unfold Ng at q
 split at q
 ·exact⟨rep_non.mp ry,Po.ret e q (by rw[Hl rx];exact rep_bl.mpr rfl)⟩
 ·exact q.elim
def Kw:Se X E (compareOp .IsNot) Xd:=by
 refine⟨_,Zfm,fun Hf H x y dx dy Q e rx ry q=>?_⟩
 unfold Xd at q
 split at q
 ·exact⟨rep_non.mp ry,Po.ret e q (by rw[Hl rx];exact rep_bl.mpr rfl)⟩
 ·exact q.elim
end
section
variable {X:Cx}{pins:List (Addr×Obj)}{σ:L2.St}{H:Hp}{s:Shared}{h':Heap}{t':Nat}{fp:List Addr}
def _root_.L2.Inv.turnedT {T:Addr}{o:HO}(I:Inv X pins σ H s)(hf:∀b∈fp,Ry X pins H b)(k:∀b u,b ∉ fp->s.heap.get? b=some u->h'.get? b=some u)(hT:s.heap.objs.size<=T)(new:ObjOk X.prog X.w (upd H T o) h' T o):
  Inv X pins σ (upd H T o) {s with heap:=h',toks:=t'}:=by
 have hn:=I.hok.fresh hT
 have ne:∀b u,s.heap.get? b=some u->b≠T:=fun b u e=>Nat.ne_of_lt (Nat.lt_of_lt_of_le (Heap.lt_size e) hT)
 refine I.step (g':=s.gens) (d':=s.drawn) (ch:=fp) (fun b hb=>?_) (fun b u _ _ hc e _=>k b u hc e) (fun b u _ _ hc e _=>⟨u.slots,k b u hc e⟩) (fun b u _ e n=>by rw[Zp (ne b u e)];exact n) (fun b u hc e=>⟨u,k b u hc e⟩)
  (fun b xs e=>by rw[Zp (Z9 e hn)];exact e) (fun b u xs e=>by rw[Zp (Z9 e hn)];exact e) (fun b l c q e=>by rw[Zp (Z9 e hn)];exact e) (fun m hm=>?_) (fun b u e=>?_) I.bare
 ·obtain⟨f0,f1,f2,f3,f4,f5⟩:=hf b hb
  exact⟨f3,f1,f4,f5⟩
 ·obtain⟨ob,es,ep,ho,r⟩:=hm
  exact⟨ob,es,ep,k _ ob (fun z=>(hf _ z).2.1 rfl) ho,r⟩
 ·by_cases hb:b=T
  ·subst hb;rw[Z2] at e;cases e;exact new
  ·rw[Zp hb] at e
   have nf:∀c v,H c=some v->c ∉ fp:=fun c v e z=>by rw[(hf c z).1] at e;cases e
   refine(I.hok b u e).stay (fun c v hc q=>k c v ?_ q) (fun c q=>by rw[Zp (Z9 q hn)];exact q) (fun c xs q=>by rw[Zp (Z9 q hn)];exact q) fun c _ _ q=>by rw[Zp (Z9 q hn)];exact q
   rcases hc with rfl|hc
   ·exact nf _ _ e
   ·exact nf _ _ hc
def _root_.L2.Inv.turnedF (I:Inv X pins σ H s)(hf:∀b∈fp,Ry X pins H b)(k:∀b u,b ∉ fp->s.heap.get? b=some u->h'.get? b=some u):Inv X pins σ H {s with heap:=h',toks:=t'}:=by
 refine I.step (g':=s.gens) (d':=s.drawn) (ch:=fp) (fun b hb=>?_) (fun b u _ _ hc e _=>k b u hc e) (fun b u _ _ hc e _=>⟨u.slots,k b u hc e⟩) (fun b u _ e n=>n) (fun b u hc e=>⟨u,k b u hc e⟩)
  (fun b xs e=>e) (fun b u xs e=>e) (fun _ _ _ _ e=>e) (fun m hm=>?_) (fun b u e=>?_) I.bare
 ·obtain⟨f0,f1,f2,f3,f4,f5⟩:=hf b hb
  exact⟨f3,f1,f4,f5⟩
 ·obtain⟨ob,es,ep,ho,r⟩:=hm
  exact⟨ob,es,ep,k _ ob (fun z=>(hf _ z).2.1 rfl) ho,r⟩
 ·have nf:∀c v,H c=some v->c ∉ fp:=fun c v e z=>by rw[(hf c z).1] at e;cases e
  refine(I.hok b u e).stay (fun c v hc q=>k c v ?_ q) (fun c q=>q) (fun c xs q=>q) fun _ _ _ q=>q
  rcases hc with rfl|hc
  ·exact nf _ _ e
  ·exact nf _ _ hc
end
structure ZA (z TI TO i1 i2:Addr):Prop where
 TIz:TI≠z
 TOz:TO≠z
 i1z:i1≠z
 i2z:i2≠z
 TITO:TI≠TO
 TIi1:TI≠i1
 TIi2:TI≠i2
 TOi1:TO≠i1
 TOi2:TO≠i2
 i12:i1≠i2
def Zpz (n:Nat):ZA (n+4) (n+2) (n+3) n (n+1):=
 ⟨Nat.ne_of_lt (by lia),Nat.ne_of_lt (by lia),Nat.ne_of_lt (by lia),Nat.ne_of_lt (by lia),Nat.ne_of_lt (by lia),Nat.ne_of_gt (by lia),Nat.ne_of_gt (by lia),Nat.ne_of_gt (by lia),Nat.ne_of_gt (by lia),Nat.ne_of_lt (by lia)⟩
section
variable {X:Cx}{E:XK}{pos p p2:Pos}{es:List Expr}{k:Nat}
def Co:List D->List D->List D:=List.zipWith fun x y=>.tup [x,y]
def Zcs (xs ys:List D)(i:Nat):(Co xs ys)[i]?=match xs[i]?,ys[i]? with
  |some x,some y=>some (.tup [x,y])
  |_,_=>none:=by
 unfold Co
 rw[List.getElem?_zipWith]
 cases xs[i]?<;>cases ys[i]?<;>rfl
def Zga (fs:Zl->M (List D))(sd:Zl):M (List D):=(fs sd).bind fun ds=>match ds with
 |[.lst xs,.lst ys]=>.ok (Co xs ys)
 |_=>.bad
end
def Zgb:D->Option Y3
 |.int i=>some (.inl i)
 |.str x=>some (.inr x)
 |_=>none
def Vx:List D->Option (List Y3)
 |[]=>some []
 |d::r=>match Zgb d,Vx r with
  |some k,some ks=>some (k::ks)
  |_,_=>none
def Zct {K:PySem.W.Frag}{H:Hp}{d:D}{k:Y3}{v:V}(e:Zgb d=some k)(r:Rep K H d v):v=kV k:=by
 cases d with
 |int i=>cases e;exact rep_int.mp r
 |str x=>cases e;exact rep_str.mp r
 |non=>cases e
 |bl _=>cases e
 |tup _=>cases e
 |lst _=>cases e
theorem S3 {K:PySem.W.Frag}{H:Hp}:∀{ds:List D}{ks:List Y3}{vs:List V},Vx ds=some ks->Reps K H ds vs->vs=ks.map kV
 |[],ks,vs,e,r=>by cases e;rw[reps_nil.mp r];rfl
 |d::ds,ks,vs,e,r=>by
  obtain⟨x,xr,rfl,r1,r2⟩:=reps_cons.mp r
  unfold Vx at e
  split at e
  ·rename_i k ks' e1 e2
   cases e
   rw[Zct e1 r1,S3 e2 r2]
   rfl
  ·cases e
def Zcu {κ:Type}[DecidableEq κ](kvs:List (κ×D))(k:κ)(d:D):List (κ×D):=
 if(kvs.any fun kv=>decide (kv.1=k))=true then kvs.map (fun kv=>if kv.1=k then(kv.1,d) else kv) else kvs++[(k,d)]
def Xm {κ:Type}[DecidableEq κ](kvs:List (κ×D))(k:κ):Option D:=(kvs.find? fun kv=>decide (kv.1=k)).map (·.2)
section
variable {κ:Type} [DecidableEq κ]
variable {K:PySem.W.Frag}{H:Hp}
theorem RepKV.any {kvs:List (κ×D)}{ys:List (κ×V)}(r:RepKV K H kvs ys)(k:κ):(kvs.any fun kv=>decide (kv.1=k))=(ys.any fun kv=>decide (kv.1=k)):=by
 unfold RepKV at r
 induction r with
 |nil=>rfl
 |cons h t ih=>rw[List.any_cons,List.any_cons,ih,h.1]
def RepKV.get {kvs:List (κ×D)}{ys:List (κ×V)}(r:RepKV K H kvs ys)(k:κ){d:D}(e:Xm kvs k=some d):∃v,Jd ys k=some v/\Rep K H d v:=by
 unfold RepKV at r
 induction r with
 |nil=>cases e
 | @cons p q ps qs h t ih=>
  by_cases hk:p.1=k
  ·have e1:Xm (p::ps) k=some p.2:=by simp[Xm,List.find?_cons,hk]
   rw[e1] at e
   cases e
   exact⟨q.2,Xt (h.1▸hk),h.2⟩
  ·have e1:Xm (p::ps) k=Xm ps k:=by simp[Xm,List.find?_cons,hk]
   rw[e1] at e
   obtain⟨v,h1,h2⟩:=ih e
   exact⟨v,by rw[Xe (fun z=>hk (h.1.trans z))];exact h1,h2⟩
theorem RepKV.none {kvs:List (κ×D)}{ys:List (κ×V)}(r:RepKV K H kvs ys)(k:κ)(e:Xm kvs k=.none):Jd ys k=.none:=by
 unfold RepKV at r
 induction r with
 |nil=>rfl
 | @cons p q ps qs h t ih=>
  by_cases hk:p.1=k
  ·have e1:Xm (p::ps) k=some p.2:=by simp[Xm,List.find?_cons,hk]
   rw[e1] at e
   cases e
  ·have e1:Xm (p::ps) k=Xm ps k:=by simp[Xm,List.find?_cons,hk]
   rw[e1] at e
   rw[Xe (fun z=>hk (h.1.trans z))];exact ih e
def RepKV.repl {kvs:List (κ×D)}{ys:List (κ×V)}(r:RepKV K H kvs ys)(k:κ){d:D}{v:V}(h:Rep K H d v):RepKV K H (kvs.map fun kv=>if kv.1=k then(kv.1,d) else kv) (ys.map fun kv=>if kv.1=k then(kv.1,v) else kv):=by
 unfold RepKV at r ⊢
 induction r with
 |nil=>exact .nil
 | @cons p q ps qs hp t ih=>
  refine .cons ?_ ih
  show(if p.1=k then(p.1,d) else p).1=(if q.1=k then(q.1,v) else q).1/\Rep K H (if p.1=k then(p.1,d) else p).2 (if q.1=k then(q.1,v) else q).2
  by_cases hk:p.1=k
  ·rw[if_pos hk,if_pos (hp.1▸hk)];exact⟨hp.1,h⟩
  ·rw[if_neg hk,if_neg (fun z=>hk (hp.1.trans z))];exact hp
def RepKV.put {kvs:List (κ×D)}{ys:List (κ×V)}(r:RepKV K H kvs ys)(k:κ){d:D}{v:V}(h:Rep K H d v):RepKV K H (Zcu kvs k d) (Kt ys k v):=by
 unfold Zcu Kt
 rw[r.any k]
 split
 ·exact r.repl k h
 ·exact Paired.snoc r ⟨rfl,h⟩
theorem RepKV.length {kvs:List (κ×D)}{ys:List (κ×V)}(r:RepKV K H kvs ys):kvs.length=ys.length:=Paired.length r
end
section
variable {X:Cx}{E:XK}{pos p1 p2 pos':Pos}{key value:Expr}{x:Str}
def Bp {K:PySem.W.Frag}{Hf H:Hp}{ds:List D}{ks:List Y3}{y:V}(e:Vx ds=some ks)(sub:Same Hf H)(r:Rep K Hf (.tup ds) y):∃b,y=.ref b/\H b=some (.tup (ks.map kV)):=by
 obtain⟨b,xs,rfl,hb,hr⟩:=rep_tup.mp r
 rw[S3 e hr] at hb
 exact⟨b,rfl,sub _ _ hb⟩
end
def Zh5:D->Bool
 |.non=>true
 |.bl _=>true
 |.int _=>true
 |.str _=>true
 |_=>false
def Zcv {K:PySem.W.Frag}{H H':Hp}{d:D}{v:V}(h:Zh5 d=true)(r:Rep K H d v):Rep K H' d v:=by
 cases d with
 |non=>exact rep_non.mpr (rep_non.mp r)
 |bl _=>exact rep_bl.mpr (rep_bl.mp r)
 |int _=>exact rep_int.mpr (rep_int.mp r)
 |str _=>exact rep_str.mpr (rep_str.mp r)
 |tup _=>cases h
 |lst _=>cases h
def Hm (i:Nat)(f:Zl->M D)(sd:Zl):M D:=match f (frz i sd) with
 |.ok d=>if Zh5 d then .ok d else .bad
 |_=>.bad
def Wy (i:Nat)(f:Zl->M Bool)(sd:Zl):M Bool:=match f (frz i sd) with
 |.ok b=>.ok b
 |_=>.bad
section
variable {X:Cx}{E:XK}{e:Expr}
def Zcw {K:PySem.W.Frag}{H0 Hf H:Hp}{B:Addr->Prop}{sd:Zl}{σ:L2.St}(sr:SR K H0 B Hf sd σ H)(i:Nat):∃Hf',Same Hf Hf'/\SR K H0 B Hf' (frz i sd) σ H:=by
 unfold frz
 split
 ·rename_i ds ei
  exact sr.freeze ei
 ·exact⟨Hf,Same.refl _,sr⟩
def Zgc (i:Nat){f:Zl->M D}(h:X4 X E e f):X4 X E e (Hm i f):=by
 obtain⟨t,p,q⟩:=h
 refine⟨t,p,fun H0 B Hf sd σ H Q sr h=>?_⟩
 obtain⟨Hf',e1,sr'⟩:=Zcw sr i
 refine q H0 B Hf' _ σ H Q sr' ?_
 unfold Hm at h
 cases ef:f (frz i sd) with
 |ok d=>
  rw[ef] at h
  dsimp only at h
  split at h
  ·rename_i hfl
   exact fun v Hf2 H2 g r=>h v Hf H2 ⟨Same.refl _,sr.sub.trans g.all,g.all,fun _ _ z=>z⟩ (Zcv hfl r)
  ·exact h.elim
 |ex x=>rw[ef] at h;exact h.elim
 |bad=>rw[ef] at h;exact h.elim
def Cp (i:Nat){f:Zl->M Bool}(h:Ca X E e f):Ca X E e (Wy i f):=by
 obtain⟨t,p,q⟩:=h
 refine⟨t,p,fun H0 B Hf sd σ H Q sr h=>?_⟩
 obtain⟨Hf',e1,sr'⟩:=Zcw sr i
 refine q H0 B Hf' _ σ H Q sr' ?_
 unfold Wy at h
 cases ef:f (frz i sd) with
 |ok d=>
  rw[ef] at h
  exact fun v Hf2 H2 g r=>h v Hf H2 ⟨Same.refl _,sr.sub.trans g.all,g.all,fun _ _ z=>z⟩ r
 |ex x=>rw[ef] at h;exact h.elim
 |bad=>rw[ef] at h;exact h.elim
end
def P3 (cells:List (Str×Addr)):List (Str×NameKind)->List (Str×Addr)->List (Str×Addr)
 |[],acc=>acc
 |(n,k)::r,acc=>if k==NameKind.free then(match cells.lookup n with
  |some c=>P3 cells r ((n,c)::acc)
  |none=>P3 cells r acc) else P3 cells r acc
theorem Ny (cells:List (Str×Addr)):∀(names:List (Str×NameKind)) (acc:List (Str×Addr)),(∀p∈acc,cells.lookup p.1=some p.2)->∀p∈P3 cells names acc,cells.lookup p.1=some p.2
 |[],acc,h=>h
 |(n,k)::r,acc,h=>by
  unfold P3
  split
  ·split
   ·rename_i c hc
    refine Ny cells r _ fun p hp=>?_
    rcases List.mem_cons.mp hp with rfl|hp
    ·exact hc
    ·exact h p hp
   ·exact Ny cells r acc h
  ·exact Ny cells r acc h
theorem Gk (cells:List (Str×Addr)):∀(names:List (Str×NameKind)) (acc:List (Str×Addr)),∀p∈acc,p∈P3 cells names acc
 |[],acc,p,h=>h
 |(n,k)::r,acc,p,h=>by
  unfold P3
  split
  ·split
   ·exact Gk cells r _ p (List.mem_cons_of_mem _ h)
   ·exact Gk cells r acc p h
  ·exact Gk cells r acc p h
theorem Nz (cells:List (Str×Addr)):∀(names:List (Str×NameKind)) (acc:List (Str×Addr)) (n:Str) (c:Addr),(n,NameKind.free)∈names->cells.lookup n=some c->(n,c)∈P3 cells names acc
 |[],_,_,_,h,_=>by cases h
 |(m,k)::r,acc,n,c,h,hc=>by
  unfold P3
  rcases List.mem_cons.mp h with h|h
  ·cases h
   rw[if_pos (by decide),hc]
   exact Gk cells r _ _ List.mem_cons_self
  ·split
   ·split
    ·exact Nz cells r _ n c h hc
    ·exact Nz cells r _ n c h hc
   ·exact Nz cells r _ n c h hc
def S4 {β:Type}:∀{l:List (Str×β)}{n:Str}{c:β},l.lookup n=some c->(n,c)∈l:=fun h=>PySem.mem_of_lookup h
theorem Rt {β:Type}:∀{l:List (Str×β)}{n:Str}{c:β},(n,c)∈l->∃d,l.lookup n=some d
 |[],_,_,h=>by cases h
 |(m,d)::r,n,c,h=>by
  rw[List.lookup_cons]
  by_cases e:n=m
  ·subst e;exact⟨d,by simp⟩
  ·have e':(n==m)=false:=beq_eq_false_iff_ne.mpr e
   rw[e']
   rcases List.mem_cons.mp h with h|h
   ·cases h;exact absurd rfl e
   ·exact Rt h
def Kx {scope:Scope}{env:Env}(h:∀y∈scope.names,y.2=.free->∃c,env.cells.lookup y.1=some c):closureFor scope env=pure (P3 env.cells scope.names []):=by
 have key:∀(names:List (Str×NameKind)) (acc:List (Str×Addr)),(∀y∈names,y.2=.free->∃c,env.cells.lookup y.1=some c) ->
   (forIn names acc fun(x:Str×NameKind) (cs:List (Str×Addr))=>(do
    if x.2==.free then
     let c <-cellOf env x.1
     pure (ForInStep.yield ((x.1,c)::cs))
    else pure (ForInStep.yield cs):Sem _))=pure (P3 env.cells names acc):=by
  intro names
  induction names with
  |nil=>intro acc _;rfl
  |cons y r ih=>
   intro acc hy
   obtain⟨n,k⟩:=y
   rw[List.forIn_cons]
   unfold P3
   by_cases hk:(k==NameKind.free)=true
   ·obtain⟨c,hc⟩:=hy (n,k) List.mem_cons_self (by simpa using hk)
    have e1:cellOf env n=pure c:=by unfold cellOf;rw[hc]
    simp only[hk,if_true,e1,hc,pure_bind]
    exact ih _ fun z hz=>hy z (List.mem_cons_of_mem _ hz)
   ·simp only[hk,Bool.false_eq_true,if_false,pure_bind]
    exact ih _ fun z hz=>hy z (List.mem_cons_of_mem _ hz)
 have e:=key scope.names [] h
 unfold closureFor
 simp only[bind_pure]
 exact e
def Zan {X:Cx}{Nc:List Str}{n0:Nat}{caps:List Nat}{scope sc:Scope}(hsc:X.env.scope=sc)(hkf:sc.kind=.function)(hcell:∀y∈scope.names,y.2≠.cell)(hfree:∀y∈scope.names,y.2=.free->sc.names.lookup y.1=some .cell)(hcl:∀y∈scope.names,y.2=.free->∃c,X.env.cells.lookup y.1=some c)(hl:Nc.length=n0+caps.length)(hcap:∀(i j:Nat) (x:Str),Nc[n0+i]?=some x->caps[i]?=some j->X.N[j]?=some x/\scope.names.lookup x=some .free):CapOk X Nc n0 caps scope (P3 X.env.cells scope.names []):=by
 have frees:∀(l:List (Str×NameKind)) (y:Str),(∀p∈l,p.2≠.cell)->(∀p∈l,p.2=.free->sc.names.lookup p.1=some .cell) ->
   ((l.map fun(n,k)=>if(k==NameKind.free&&X.env.scope.kind==.function&&X.env.kindOf n==some .cell) then(n,NameKind.cell) else(n,k)).lookup y=some .cell\/(l.map fun(n,k)=>if(k==NameKind.free&&X.env.scope.kind==.function&&X.env.kindOf n==some .cell) then(n,NameKind.cell) else(n,k)).lookup y=some .free)->(y,NameKind.free)∈l:=by
  intro l y
  induction l with
  |nil=>intro _ _ e;rcases e with e|e<;>cases e
  |cons p r ih=>
   intro h1 h2 e
   obtain⟨n,k⟩:=p
   have c1:=h1 (n,k) List.mem_cons_self
   rw[List.map_cons,List.lookup_cons] at e
   have hfst:(if(k==NameKind.free&&X.env.scope.kind==.function&&X.env.kindOf n==some .cell) then(n,NameKind.cell) else(n,k)).1=n:=by split<;>rfl
   by_cases ey:y=n
   ·subst ey
    simp only[hfst,beq_self_eq_true] at e
    by_cases hk:k=.free
    ·subst hk;exact List.mem_cons_self
    ·have hk':(k==NameKind.free)=false:=beq_eq_false_iff_ne.mpr hk
     simp only[hk',Bool.false_and,Bool.false_eq_true,if_false] at e
     rcases e with e|e
     ·cases e;exact absurd rfl c1
     ·cases e;exact absurd rfl hk
   ·have ey':(y==n)=false:=beq_eq_false_iff_ne.mpr ey
    simp only[hfst,ey'] at e
    exact List.mem_cons_of_mem _ (ih (fun p hp=>h1 p (List.mem_cons_of_mem _ hp)) (fun p hp=>h2 p (List.mem_cons_of_mem _ hp)) e)
 refine⟨fun y c e=>Ny _ _ [] (fun p hp=>by cases hp) _ (S4 e),fun y e=>?_,fun i j x e1 e2=>?_,hl⟩
 ·have hm:=frees scope.names y hcell hfree e
  obtain⟨c,hc⟩:=hcl _ hm rfl
  obtain⟨d,hd⟩:=Rt (Nz X.env.cells scope.names [] y c hm hc)
  exact⟨d,hd⟩
 ·obtain⟨a1,a2⟩:=hcap i j x e1 e2
  have a3:=hfree _ (S4 a2) rfl
  refine⟨a1,by rw[hsc];exact a3,?_⟩
  have rl:∀(l:List (Str×NameKind)),l.lookup x=some .free->(l.map fun(n,k)=>if(k==NameKind.free&&X.env.scope.kind==.function&&X.env.kindOf n==some .cell) then(n,NameKind.cell) else(n,k)).lookup x=some .cell:=by
   intro l
   induction l with
   |nil=>intro e;cases e
   |cons p r ih=>
    intro e
    obtain⟨n,k⟩:=p
    rw[List.map_cons,List.lookup_cons]
    rw[List.lookup_cons] at e
    have hfst:(if(k==NameKind.free&&X.env.scope.kind==.function&&X.env.kindOf n==some .cell) then(n,NameKind.cell) else(n,k)).1=n:=by split<;>rfl
    by_cases ex:x=n
    ·subst ex
     simp only[beq_self_eq_true] at e
     cases e
     have c3:X.env.kindOf x=some .cell:=by show X.env.scope.names.lookup x=_;rw[hsc];exact a3
     have c4:X.env.scope.kind=.function:=by rw[hsc];exact hkf
     simp only[hfst,beq_self_eq_true,c3,c4,Bool.and_true,if_true]
    ·have ex':(x==n)=false:=beq_eq_false_iff_ne.mpr ex
     simp only[ex'] at e
     simp only[hfst,ex']
     exact ih e
  exact rl _ a2
def Zm3 (sc names:List (Str×NameKind)):Bool:=names.all fun y=>!(decide (y.2=NameKind.free))||decide (sc.lookup y.1=some NameKind.cell)
def Wo {sc scope:Scope}(h:Zm3 sc.names scope.names=true):∀y∈scope.names,y.2=.free->sc.names.lookup y.1=some .cell:=fun y hy hf=>by
 have:=List.all_eq_true.mp h y hy
 rw[Bool.or_eq_true] at this
 rcases this with z|z
 ·rw[decide_eq_true hf] at z;cases z
 ·exact of_decide_eq_true z
def Zcx (N:List Str)(names:List (Str×NameKind)):List Str->List Nat->Bool
 |x::xs,j::js=>decide (N[j]?=some x)&&decide (names.lookup x=some NameKind.free)&&Zcx N names xs js
 |_,_=>true
theorem Cq {N:List Str}{names:List (Str×NameKind)}:∀{xs:List Str}{js:List Nat},Zcx N names xs js=true->∀(i j:Nat) (x:Str),xs[i]?=some x->js[i]?=some j->N[j]?=some x/\names.lookup x=some .free
 |[],_,_,i,_,_,e,_=>by simp at e
 |_::_,[],_,i,_,_,_,e=>by simp at e
 |x::xs,j::js,h,0,j',x',e1,e2=>by
  unfold Zcx at h
  rw[Bool.and_eq_true,Bool.and_eq_true] at h
  simp at e1 e2
  subst e1 e2
  exact⟨of_decide_eq_true h.1.1,of_decide_eq_true h.1.2⟩
 |x::xs,j::js,h,i+1,j',x',e1,e2=>by
  unfold Zcx at h
  rw[Bool.and_eq_true] at h
  exact Cq h.2 i j' x' (by simpa using e1) (by simpa using e2)
def Gm {X:Cx}{N:List Str}{Nc:List Str}{n0:Nat}{caps:List Nat}{scope:Scope}(hN:X.N=N)(h:Zcx N scope.names (Nc.drop n0) caps=true):
  ∀(i j:Nat) (x:Str),Nc[n0+i]?=some x->caps[i]?=some j->X.N[j]?=some x/\scope.names.lookup x=some .free:=fun i j x e1 e2=>by
 rw[hN]
 exact Cq h i j x (by rw[List.getElem?_drop];exact e1) e2
section
variable {X:Cx}{E:XK}{pos p p1 p2:Pos}{a e:Expr}{x:Str}
def Zoy (X:Cx)(E:XK)(f:Value->Sem Value)(g:D->M D):Prop:=
 ∃r,Zn1 X f r/\∀(Hf H:Hp) (x:V) (dx:D) (Q:VK),Same Hf H->Rep X.K Hf dx x->Po X.K E (rV X.K) Hf H (g dx) Q->r x H Q
def Lg:D->M D
 |.int i=>.ok (.int (-i))
 |_=>.bad
def Bq:Zoy X E (unaryOp .USub) Lg:=by
 refine⟨_,Zje,fun Hf H x dx Q e rx q=>?_⟩
 unfold Lg at q
 split at q
 ·exact⟨_,rep_int.mp rx,Po.ret e q (rep_int.mpr rfl)⟩
 ·exact q.elim
def Zh6 (g:D->M D)(f:Zl->M D)(sd:Zl):M D:=(f sd).bind g
def Zcy {op:UnaryOp}{g:D->M D}{f:Zl->M D}(ho:Zoy X E (unaryOp op) g)(h:X4 X E a f):X4 X E (.UnaryOp op a pos) (Zh6 g f):=by
 obtain⟨r,hr,qr⟩:=ho
 obtain⟨t,p,q⟩:=h
 refine⟨_,Zhy hr p,fun H0 B Hf sd σ H Q sr h=>?_⟩
 exact q H0 B Hf sd σ H _ sr (Po.bind h fun d v Hf1 H1 _ g1 rv h1=>qr Hf1 H1 v d Q g1.sub rv h1)
end
theorem Reps.rev {K:PySem.W.Frag}{H:Hp}:∀{ds:List D}{xs:List V},Reps K H ds xs->Reps K H ds.reverse xs.reverse
 |[],xs,h=>by rw[reps_nil.mp h];exact Reps.nil
 |d::ds,xs,h=>by
  obtain⟨x,r,rfl,h1,h2⟩:=reps_cons.mp h
  rw[List.reverse_cons,List.reverse_cons]
  exact(Reps.rev h2).append (Reps.cons h1 Reps.nil)
structure Ch (fr:List Addr) (a T:Addr) (h h':Heap):Prop where
 keep:∀b o,b≠a->b≠T->b ∉ fr->h.get? b=some o->h'.get? b=some o
 slot:∀b o,b≠a->b≠T->h.get? b=some o->∃sl,h'.get? b=some {o with slots:=sl}
def Zj8 {P:Program}{w:World}{H:Hp}{h h':Heap}{fr:List Addr}{a T:Addr}(x:HOk P w H h)(c:Ch fr a T h h')(na:H a=none)(nT:H T=none)(nf:∀b∈fr,H b=none):HOk P w H h':=fun b u e=>by
 have ne:∀d v,H d=some v->d≠a/\d≠T/\d ∉ fr:=fun d v q=>⟨fun z=>(by rw[z,na] at q;cases q),fun z=>(by rw[z,nT] at q;cases q),fun z=>(by rw[nf d z] at q;cases q)⟩
 refine(x b u e).stay (fun d v hd q=>?_) (fun _ q=>q) (fun _ _ q=>q) fun _ _ _ q=>q
 have z:d≠a/\d≠T/\d ∉ fr:=by
  rcases hd with rfl|hd
  ·exact ne _ _ e
  ·exact ne _ _ hd
 exact c.keep d v z.1 z.2.1 z.2.2 q
end DL
namespace DL
open PySem PySem.Spec PyProof.Rows L2
theorem Zo {X:Cx}{E:XK}{pos p:Pos}{a:Expr}{i:Int}{j}{fa:Zl->M D}(ha:X4 X E a fa):X4 X E (.Subscript a (.Constant (.int i) j p) pos) (Zn Yj fa (eC (.int i))):=Xl ha Zi (fun _ _=>rfl)
end DL
local macro_rules
 |`(↑$x:num)=>`(DL.eC (.int $x))
 |`(↑$x:str)=>`(DL.eC (.str (PySem.Str.ofString $x)))
 |`($x:num[$y:num]!)=>`(DL.Zn DL.Yj (DL.Zd $x) (DL.eC (.int $y)))
local macro_rules
 |`(tactic|trivial)=>`(tactic|exact fun _ _ _ _ _ _ us hl=>match us,hl with | [_],_=>rfl)
local macro_rules
 |`(tactic|trivial)=>`(tactic|exact fun _ _ _ _ _ _ us hl=>match us,hl with | [_,_],_=>rfl)
local macro_rules
 |`(tactic|trivial)=>`(tactic|exact fun _ _ _ _ _ _ us hl=>match us,hl with | [_,_,_],_=>rfl)
local macro_rules
 |`(tactic|trivial)=>`(tactic|exact fun _ _ _ _ _ _ us hl=>match us,hl with | [_,_,_,_],_=>rfl)
local macro_rules
 |`(tactic|trivial)=>`(tactic|exact fun _ _ _ _ _ _ us hl=>match us,hl with | [_,_,_,_,_],_=>rfl)
namespace DL
open PySem PySem.Spec PySem.Calls PySem.Builtin PySem.Builtin.ObjectAttr PyProof.Rows L2 PySem.W
section
variable {X:Cx}{pins:List (Addr×Obj)}{σ:L2.St}{H:Hp}{s:Shared}{h':Heap}{a T C:Addr}{e:Value}
structure Fresh (X:Cx) (pins:List (Addr×Obj)) (b:Addr):Prop where
 lo:X.s₀.heap.objs.size<=b
 nl:b≠X.env.locals
 nc:∀x c,X.env.cells.lookup x=some c->c≠b
 np:∀p∈X.pn++pins,p.1≠b
def Zcz (I:Inv X pins σ H s){b:Addr}(h:s.heap.objs.size<=b):Fresh X pins b where
 lo:=Nat.le_trans I.sz h
 nl:=Nat.ne_of_gt (Nat.lt_of_lt_of_le I.lt h)
 nc:=fun x c q=>by
  obtain⟨v,o,ho,_⟩:=I.cell x c q
  exact Nat.ne_of_lt (Nat.lt_of_lt_of_le (Heap.lt_size ho) h)
 np:=fun p hp=>Nat.ne_of_lt (Nat.lt_of_lt_of_le (Heap.lt_size (I.pin p hp).1) h)
def Zj9 (I:Inv X pins σ H s)(c:Ch (Fz X.stack) a T s.heap h')(na:H a=none)(nT:H T=none)(fa:Fresh X pins a)(fT:Fresh X pins T):Inv X pins σ H {s with heap:=h'}:=by
 refine I.call (h':=h') (g':=s.gens) (d':=s.drawn) (t':=s.toks) (ch:=[a,T]) ⟨fun b o q n nf nx=>?_,fun b o q n bf nx=>?_,fun b o q n nx=>n,fun b o q nx=>?_,fun b xs q=>q,fun b o u q=>q,fun _ _ _ _ q=>q⟩ (Zj8 I.hok c na nT I.stkFree) I.bare fun b hb=>?_
 ·exact c.keep b o (fun z=>nx (by simp[z])) (fun z=>nx (by simp[z])) nf q
 ·exact c.slot b o (fun z=>nx (by simp[z])) (fun z=>nx (by simp[z])) q
 ·obtain⟨sl,z⟩:=c.slot b o (fun z=>nx (by simp[z])) (fun z=>nx (by simp[z])) q
  exact⟨_,z⟩
 ·rcases List.mem_cons.mp hb with rfl|hb
  ·exact⟨.inr fa.lo,fa.nl,fa.nc,fa.np⟩
  ·have:b=T:=by simpa using hb
   subst this
   exact⟨.inr fT.lo,fT.nl,fT.nc,fT.np⟩
end
def SR.ofS {K:Frag}{Hf H:Hp}{sd:Zl}{σ:L2.St}(e:Same Hf H)(hl:sd.length=σ.length)(hS:∀(i:Nat) (t:S),sd[i]?=some (some t)->t.own=false/\∃v,σ[i]?=some (some v)/\RepS K Hf t v):
  SR K H (fun a=>Lv H a/\Hf a=none) Hf sd σ H:=
 ⟨e,Same.refl _,fun _ h=>h.2,fun _ h=>h.1,hl,fun i t h _=>(hS i t h).2,fun i t h ho=>(by rw[(hS i t h).1] at ho;cases ho),fun i _ t _ _ _ h ho _ _ _ _=>(by rw[(hS i t h).1] at ho;cases ho)⟩
end DL
namespace DL
open PySem PySem.Spec PyProof.Rows L2
def ItK (t:Bool)(h:Heap)(i l:Addr)(k:Nat):Prop:=∃o,h.get? i=some o/\o.cls=.type (if t then "tuple_iterator" else "list_iterator")/\o.data=.fields #[.ref l,.int k 0]
def SqK (t:Bool)(h:Heap)(l:Addr)(xs:Array Value):Prop:=∃o,h.get? l=some o/\o.cls=.type (if t then "tuple" else "list")/\∃n,o.data=.seq xs n
def ItK.at {t:Bool}{h h':Heap}{i l:Addr}{k:Nat}(x:ItK t h i l k)(q:∀o,h.get? i=some o->h'.get? i=some o):ItK t h' i l k:=let ⟨o,e,r⟩:=x;⟨o,q o e,r⟩
def SqK.at {t:Bool}{h h':Heap}{l:Addr}{xs:Array Value}(x:SqK t h l xs)(q:∀o,h.get? l=some o->h'.get? l=some o):SqK t h' l xs:=let ⟨o,e,r⟩:=x;⟨o,q o e,r⟩
section
variable {prog:Program}{w:World}{A:Around}{E:Value->Shared->Prop}{s:Shared}
def Nh {t:Bool}{it l:Addr}{i:Nat}{xs:Array Value}{x:Value}{Q:Value->Shared->Prop}(hi:ItK t s.heap it l i)(hl:SqK t s.heap l xs)(hx:xs[i]?=some x)(hQ:∀h',ItK t h' it l (i+1)->Heap.SameBut it s.heap h'->Q x {s with heap:=h'}):wpAny (model prog w) A (Builtin.SmallTypes.nextOf (.ref it)) Q E s:=by
 cases t with
 |false=>exact wpAny_nextOf_list_item (show s.heap.IsListIter it l i from hi) (show s.heap.IsList l xs from hl) hx hQ
 |true=>
  obtain⟨o,ho,hc,hd⟩:=id hi
  obtain⟨ol,hol,_,nl,hdl⟩:=hl
  have ty:s.TypeIs (.ref it) "tuple_iterator":=⟨o,ho,hc⟩
  unfold Builtin.SmallTypes.nextOf
  refine wpAny_bind (wpAny_callSpecial?_slot (name:=Str.ofString "__next__") ty PyProof.Rows.slot_tupleiter_next (wpAny_call_entry PyProof.Rows.slot_tupleiter_next ty PyProof.Rows.entry_tupleiter_next ?_ (PyProof.Rows.args_tupleiter_next _)))
  refine wpAny_bind (m:=field (.ref it) 0) (wpAny_field ho hd (x:=.ref l) rfl ?_)
  dsimp only
  rw[if_neg (fun z:(Value.ref l==Value.none)=true=>Bool.false_ne_true z)]
  refine wpAny_bind (m:=field (.ref it) 1) (wpAny_field ho hd (x:=.int i 0) rfl (wpAny_bind (m:=seqItems? (.ref l)) (wpAny_seqItems hol hdl ?_)))
  simp only[Int.toNat_natCast,hx]
  refine wpAny_bind (wpAny_setField ho hd (by simp) (wpAny_pure ⟨x,rfl,wpAny_pure (hQ _ ⟨_,Heap.get?_update_self _ ho (Obj.isFreed_of_fields (Obj.data_mapFields hd _)),(Obj.cls_mapFields ..).trans hc,?_⟩ (Heap.SameBut.update ..))⟩))
  rw[Obj.data_mapFields hd];simp[rawInt]
def Mf {t:Bool}{it l:Addr}{i:Nat}{xs:Array Value}{Q:Value->Shared->Prop}(hh:A.handled=none)(hi:ItK t s.heap it l i)(hl:SqK t s.heap l xs)(hx:xs[i]?=none)
  (hE:∀h' e,Heap.ExtBut it s.heap h'->(∃o,h'.get? e=some o/\o.cls=.type "StopIteration")->E (.ref e) {s with heap:=h'}):wpAny (model prog w) A (Builtin.SmallTypes.nextOf (.ref it)) Q E s:=by
 cases t with
 |false=>exact wpAny_nextOf_list_end hh (show s.heap.IsListIter it l i from hi) (show s.heap.IsList l xs from hl) hx hE
 |true=>
  obtain⟨o,ho,hc,hd⟩:=id hi
  obtain⟨ol,hol,_,nl,hdl⟩:=hl
  have ty:s.TypeIs (.ref it) "tuple_iterator":=⟨o,ho,hc⟩
  unfold Builtin.SmallTypes.nextOf
  refine wpAny_bind (wpAny_callSpecial?_slot (name:=Str.ofString "__next__") ty PyProof.Rows.slot_tupleiter_next (wpAny_call_entry PyProof.Rows.slot_tupleiter_next ty PyProof.Rows.entry_tupleiter_next ?_ (PyProof.Rows.args_tupleiter_next _)))
  refine wpAny_bind (m:=field (.ref it) 0) (wpAny_field ho hd (x:=.ref l) rfl ?_)
  dsimp only
  rw[if_neg (fun z:(Value.ref l==Value.none)=true=>Bool.false_ne_true z)]
  refine wpAny_bind (m:=field (.ref it) 1) (wpAny_field ho hd (x:=.int i 0) rfl (wpAny_bind (m:=seqItems? (.ref l)) (wpAny_seqItems hol hdl ?_)))
  simp only[Int.toNat_natCast,hx]
  refine wpAny_bind (wpAny_rule (wpAny_bind (wpAny_setField ho hd (by simp) (wpAny_bind (m:=newExc (.type "StopIteration") []) ?_))))
  simp only[newExc,newTuple]
  refine wpAny_bind (wpAny_newObj_type (wpAny_bind (m:=firstArgMember _ _) (wpAny_of_eq (a:=Value.none) (by first|rfl|(simp only[firstArgMember];rfl)) (wpAny_newObj_type ?_ (by size_fits)))) (by size_fits))
  simp only[raiseNew]
  refine wpAny_bind (wpAny_handled ?_)
  first|rw[show A.in1.handled=none from hh]|rw[hh]
  exact wpAny_bind (wpAny_pure (wpAny_throw (hE _ _ (((Heap.SameBut.update ..).extBut.push _).push _) ⟨_,Heap.get?_push_size _ rfl,rfl⟩)))
def Zh7 {t:Bool}{l:Addr}{xs:Array Value}{Q:Value->Shared->Prop}(hl:SqK t s.heap l xs)
  (hQ:Q (.ref s.heap.objs.size) {s with heap:=s.heap.push {cls:=.type (if t then "tuple_iterator" else "list_iterator"),data:=.fields #[.ref l,.int 0 0]}}):wpAny (model prog w) A (pyIter (.ref l)) Q E s:=by
 cases t with
 |false=>exact wpAny_pyIter_list (show s.heap.IsList l xs from hl) hQ
 |true=>exact PyProof.Rows.iter_tuple (show IsTup s.heap l xs from hl) hQ
def Zao {t1 t2:Bool}{z TI TO i1 i2 l1 l2:Addr}{k1 k2:Nat}{xs ys:Array Value}{x y a b:Value}{Q:Value->Shared->Prop}(D:ZipApart z TI TO i1 i2 l1 l2)(yz:IsZip s.heap z TI TO .none)(yI:IsPair s.heap TI (.ref i1) (.ref i2))(yO:IsPair s.heap TO a b)(y1:ItK t1 s.heap i1 l1 k1)(y2:ItK t2 s.heap i2 l2 k2)(m1:SqK t1 s.heap l1 xs)(m2:SqK t2 s.heap l2 ys)(ex:xs[k1]?=some x)(ey:ys[k2]?=some y)(hQ:∀h',IsZip h' z TI TO (rawInt s.heap.objs.size)->IsPair h' TO x y->ItK t1 h' i1 l1 (k1+1)->ItK t2 h' i2 l2 (k2+1)->IsPair h' s.heap.objs.size x y->h'.objs.size=s.heap.objs.size+1->(∀c o,c≠z->c≠TO->c≠i1->c≠i2->s.heap.get? c=some o->h'.get? c=some o)->Q (.ref s.heap.objs.size) {s with heap:=h'}):
  wpAny (model prog w) A (Builtin.«zip.__next__» ⟨[.ref z],[]⟩) (fun fin s'=>∃v,fin=.done (.ret v)/\Q v s') E s:=by
 refine wpAny_bind (m:=field (.ref z) 2) (wpAny_field yz rfl (x:=.bool false) rfl (wpAny_bind (m:=field (.ref z) 3) (wpAny_field yz rfl (x:=.ref TI) rfl (wpAny_bind (wpAny_seqItems yI rfl ?_)))))
 refine wpAny_bind (m:=Builtin.SmallTypes.ownedTupleIsFree (.ref z)) ?_
 unfold Builtin.SmallTypes.ownedTupleIsFree
 refine wpAny_bind (wpAny_field yz rfl (x:=.none) rfl (wpAny_pure ?_));simp only[if_true]
 refine wpAny_bind (wpAny_rule (wpAny_bind (wpAny_field yz rfl (x:=.ref TO) rfl (wpAny_bind (wpAny_setField_rec yz (by simp) fun h1 z1 e1=>wpAny_bind ?_)))))
 have z1:IsZip h1 z TI TO .ellipsis:=z1
 simp only[List.zipIdx_cons,List.zipIdx_nil,List.forIn_cons,List.forIn_nil]
 refine wpAny_bind (wpAny_bind (wpAny_onRaise (wpAny_bind (m:=Builtin.SmallTypes.nextOf (.ref i1)) (Nh (s:={s with heap:=h1}) (y1.at fun o q=>e1.extBut _ _ D.i1z q) (m1.at fun o q=>e1.extBut _ _ D.l1z q) ex fun h2 n1 e2=>wpAny_pure ?_))))
 have o2:IsPair h2 TO a b:=e2.extBut _ _ D.TOi1 (e1.extBut _ _ D.TOz yO)
 refine wpAny_bind (wpAny_seqItems o2 rfl (wpAny_bind (wpAny_updateSeq_pair o2 fun h3 o3 e3=>wpAny_bind (wpAny_letGo (wpAny_pure ?_)))))
 have o3:IsPair h3 TO x b:=o3
 refine wpAny_bind (wpAny_bind (wpAny_onRaise (wpAny_bind (m:=Builtin.SmallTypes.nextOf (.ref i2)) (Nh (s:={s with heap:=h3}) (y2.at fun o q=>e3.extBut _ _ D.TOi2.symm (e2.extBut _ _ D.i12.symm (e1.extBut _ _ D.i2z q))) (m2.at fun o q=>e3.extBut _ _ D.l2TO (e2.extBut _ _ D.l2i1 (e1.extBut _ _ D.l2z q))) ey fun h4 n2 e4=>wpAny_pure ?_))))
 have o4:IsPair h4 TO x b:=e4.extBut _ _ D.TOi2 o3
 refine wpAny_bind (wpAny_seqItems o4 rfl (wpAny_bind (wpAny_updateSeq_pair o4 fun h5 o5 e5=>wpAny_bind (wpAny_letGo (wpAny_pure (wpAny_pure ?_))))))
 have o5:IsPair h5 TO x y:=o5
 refine wpAny_bind (wpAny_seqItems o5 rfl (wpAny_bind (wpAny_newTuple ?_)))
 have sz:h5.objs.size=s.heap.objs.size:=by rw[e5.1,e4.1,e3.1,e2.1,e1.1]
 have z5:IsZip h5 z TI TO .ellipsis:=e5.extBut _ _ D.TOz.symm (e4.extBut _ _ D.i2z.symm (e3.extBut _ _ D.TOz.symm (e2.extBut _ _ D.i1z.symm z1)))
 have kk:∀c o,c≠z->c≠TO->c≠i1->c≠i2->s.heap.get? c=some o->h5.get? c=some o:=fun c o c1 c2 c3 c4 q=>e5.extBut _ _ c2 (e4.extBut _ _ c4 (e3.extBut _ _ c2 (e2.extBut _ _ c3 (e1.extBut _ _ c1 q))))
 have f1:ItK t1 h5 i1 l1 (k1+1):=n1.at fun o q=>e5.extBut _ _ D.TOi1.symm (e4.extBut _ _ D.i12 (e3.extBut _ _ D.TOi1.symm q))
 have f2:ItK t2 h5 i2 l2 (k2+1):=n2.at fun o q=>e5.extBut _ _ D.TOi2.symm q
 have zl:z<h5.objs.size:=Heap.lt_size z5
 refine wpAny_bind (m:=Builtin.SmallTypes.ownedTupleHandOut (.ref z) (.ref h5.objs.size)) ?_
 unfold Builtin.SmallTypes.ownedTupleHandOut
 have z6:IsZip (h5.push {cls:=.type "tuple", data:=.seq #[x,y]}) z TI TO .ellipsis:=Heap.get?_push_of_some _ z5
 refine wpAny_bind (wpAny_setField_rec z6 (by simp) fun h7 z7 e7=>?_)
 have z7:IsZip h7 z TI TO (rawInt h5.objs.size):=z7
 refine wpAny_setField_rec z7 (by simp) fun h8 z8 e8=>?_
 have z8:IsZip h8 z TI TO (rawInt h5.objs.size):=z8
 have up:∀c o,c≠z->h5.get? c=some o->h8.get? c=some o:=fun c o c1 q=>e8.extBut _ _ c1 (e7.extBut _ _ c1 (Heap.get?_push_of_some _ q))
 have nz:h5.objs.size≠z:=Nat.ne_of_gt zl
 have T8:IsPair h8 h5.objs.size x y:=e8.extBut _ _ nz (e7.extBut _ _ nz (Heap.get?_push_size _ rfl))
 have s8:h8.objs.size=h5.objs.size+1:=by rw[e8.1,e7.1,Heap.size_push]
 refine wpAny_pure ⟨_,rfl,?_⟩
 rw[sz] at z8 T8 s8
 have fin:=hQ h8 z8 (up _ _ D.TOz o5) (f1.at fun o q=>up _ o D.i1z q) (f2.at fun o q=>up _ o D.i2z q) T8 s8 fun c o c1 c2 c3 c4 q=>up c o c1 (kk c o c1 c2 c3 c4 q)
 rw[<-sz] at fin
 exact fin
def Zc0 {t1 t2:Bool}{z TI TO i1 i2 l1 l2:Addr}{k1 k2:Nat}{xs ys:Array Value}{a b:Value}{Q:Fin->Shared->Prop}(hh:A.handled=none)(D:ZipApart z TI TO i1 i2 l1 l2)(yz:IsZip s.heap z TI TO .none)(yI:IsPair s.heap TI (.ref i1) (.ref i2))(yO:IsPair s.heap TO a b)(y1:ItK t1 s.heap i1 l1 k1)(y2:ItK t2 s.heap i2 l2 k2)(m1:SqK t1 s.heap l1 xs)(m2:SqK t2 s.heap l2 ys)(hend:xs[k1]?=none\/ys[k2]?=none)
  (hE:∀h' e,(∀c o,c≠z->c≠TO->c≠i1->c≠i2->s.heap.get? c=some o->h'.get? c=some o)->(∃o,h'.get? e=some o/\o.cls=.type "StopIteration")->E (.ref e) {s with heap:=h'}):
  wpAny (model prog w) A (Builtin.«zip.__next__» ⟨[.ref z],[]⟩) Q E s:=by
 refine wpAny_bind (m:=field (.ref z) 2) (wpAny_field yz rfl (x:=.bool false) rfl (wpAny_bind (m:=field (.ref z) 3) (wpAny_field yz rfl (x:=.ref TI) rfl (wpAny_bind (wpAny_seqItems yI rfl ?_)))))
 refine wpAny_bind (m:=Builtin.SmallTypes.ownedTupleIsFree (.ref z)) ?_
 unfold Builtin.SmallTypes.ownedTupleIsFree
 refine wpAny_bind (wpAny_field yz rfl (x:=.none) rfl (wpAny_pure ?_));simp only[if_true]
 refine wpAny_bind (wpAny_rule (wpAny_bind (wpAny_field yz rfl (x:=.ref TO) rfl (wpAny_bind (wpAny_setField_rec yz (by simp) fun h1 z1 e1=>wpAny_bind ?_)))))
 have z1:IsZip h1 z TI TO .ellipsis:=z1
 simp only[List.zipIdx_cons,List.zipIdx_nil,List.forIn_cons,List.forIn_nil]
 refine wpAny_bind (wpAny_bind (wpAny_onRaise (wpAny_bind (m:=Builtin.SmallTypes.nextOf (.ref i1)) ?_)))
 have u1:=y1.at (h':=h1) fun o q=>e1.extBut _ _ D.i1z q
 have v1:=m1.at (h':=h1) fun o q=>e1.extBut _ _ D.l1z q
 cases hx:xs[k1]? with
 |none=>
  refine Mf (s:={s with heap:=h1}) hh u1 v1 hx fun h2 e e2 he=>?_
  obtain⟨oe,q1,q2⟩:=he
  have z2:IsZip h2 z TI TO .ellipsis:=e2 _ _ D.i1z.symm z1
  have nz:e≠z:=fun r=>by subst r;rw[z2] at q1;cases q1;simp at q2
  exact wpAny_setField_rec z2 (by simp) fun h3 _ e3=>hE h3 e (fun c o c1 _ c3 _ r=>e3.extBut _ _ c1 (e2 _ _ c3 (e1.extBut _ _ c1 r))) ⟨oe,e3.extBut _ _ nz q1,q2⟩
 |some x=>
  have hy:ys[k2]?=none:=by
   rcases hend with q|q
   ·rw[hx] at q;cases q
   ·exact q
  refine Nh (s:={s with heap:=h1}) u1 v1 hx fun h2 n1 e2=>wpAny_pure ?_
  have o2:IsPair h2 TO a b:=e2.extBut _ _ D.TOi1 (e1.extBut _ _ D.TOz yO)
  refine wpAny_bind (wpAny_seqItems o2 rfl (wpAny_bind (wpAny_updateSeq_pair o2 fun h3 o3 e3=>wpAny_bind (wpAny_letGo (wpAny_pure ?_)))))
  refine wpAny_bind (wpAny_bind (wpAny_onRaise (wpAny_bind (m:=Builtin.SmallTypes.nextOf (.ref i2)) (Mf (s:={s with heap:=h3}) hh (y2.at fun o q=>e3.extBut _ _ D.TOi2.symm (e2.extBut _ _ D.i12.symm (e1.extBut _ _ D.i2z q))) (m2.at fun o q=>e3.extBut _ _ D.l2TO (e2.extBut _ _ D.l2i1 (e1.extBut _ _ D.l2z q))) hy fun h4 e e4 he=>?_))))
  obtain⟨oe,q1,q2⟩:=he
  have z4:IsZip h4 z TI TO .ellipsis:=e4 _ _ D.i2z.symm (e3.extBut _ _ D.TOz.symm (e2.extBut _ _ D.i1z.symm z1))
  have nz:e≠z:=fun r=>by subst r;rw[z4] at q1;cases q1;simp at q2
  exact wpAny_setField_rec z4 (by simp) fun h5 _ e5=>hE h5 e (fun c o c1 c2 c3 c4 r=>e5.extBut _ _ c1 (e4 _ _ c4 (e3.extBut _ _ c2 (e2.extBut _ _ c3 (e1.extBut _ _ c1 r))))) ⟨oe,e5.extBut _ _ nz q1,q2⟩
def Es {t1 t2:Bool}{z TI TO i1 i2 l1 l2:Addr}{k1 k2:Nat}{xs ys:Array Value}{x y a b:Value}{Q:Option Value->Shared->Prop}(D:ZipApart z TI TO i1 i2 l1 l2)(yz:IsZip s.heap z TI TO .none)(yI:IsPair s.heap TI (.ref i1) (.ref i2))(yO:IsPair s.heap TO a b)(y1:ItK t1 s.heap i1 l1 k1)(y2:ItK t2 s.heap i2 l2 k2)(m1:SqK t1 s.heap l1 xs)(m2:SqK t2 s.heap l2 ys)(ex:xs[k1]?=some x)(ey:ys[k2]?=some y)(hQ:∀h',IsZip h' z TI TO (rawInt s.heap.objs.size)->IsPair h' TO x y->ItK t1 h' i1 l1 (k1+1)->ItK t2 h' i2 l2 (k2+1)->IsPair h' s.heap.objs.size x y->h'.objs.size=s.heap.objs.size+1->(∀c o,c≠z->c≠TO->c≠i1->c≠i2->s.heap.get? c=some o->h'.get? c=some o)->Q (some (.ref s.heap.objs.size)) {s with heap:=h'}):
  wpAny (model prog w) A (pyNext (.ref z)) Q E s:=by
 have ty:s.TypeIs (.ref z) "zip":=⟨_,yz,rfl⟩
 unfold pyNext
 exact wpAny_bind (wpAny_attempt (wpAny_callSpecial?_slot (name:=Str.ofString "__next__") ty F.slot_zip_next (wpAny_call_entry F.slot_zip_next ty F.entry_zip_next
  (Zao D yz yI yO y1 y2 m1 m2 ex ey fun h' a1 a2 a3 a4 a5 a6 a7=>wpAny_pure (hQ h' a1 a2 a3 a4 a5 a6 a7)) (F.args_zip_next_1 _))))
def Zap {t1 t2:Bool}{z TI TO i1 i2 l1 l2:Addr}{k1 k2:Nat}{xs ys:Array Value}{a b:Value}{Q:Option Value->Shared->Prop}(hh:A.handled=none)(D:ZipApart z TI TO i1 i2 l1 l2)(yz:IsZip s.heap z TI TO .none)(yI:IsPair s.heap TI (.ref i1) (.ref i2))(yO:IsPair s.heap TO a b)(y1:ItK t1 s.heap i1 l1 k1)(y2:ItK t2 s.heap i2 l2 k2)(m1:SqK t1 s.heap l1 xs)(m2:SqK t2 s.heap l2 ys)(hend:xs[k1]?=none\/ys[k2]?=none)(hQ:∀h',(∀c o,c≠z->c≠TO->c≠i1->c≠i2->s.heap.get? c=some o->h'.get? c=some o)->Q none {s with heap:=h'}):wpAny (model prog w) A (pyNext (.ref z)) Q E s:=by
 have ty:s.TypeIs (.ref z) "zip":=⟨_,yz,rfl⟩
 unfold pyNext
 refine wpAny_bind (wpAny_attempt (wpAny_callSpecial?_slot (name:=Str.ofString "__next__") ty F.slot_zip_next (wpAny_call_entry F.slot_zip_next ty F.entry_zip_next (Zc0 hh D yz yI yO y1 y2 m1 m2 hend fun h' e hk he=>?_) (F.args_zip_next_1 _))))
 obtain⟨o,q1,q2⟩:=he
 exact wpAny_bind (wpAny_isInstance (T:="StopIteration") (b:=true) ⟨o,q1,q2⟩ isSubtype_stop (wpAny_pure (hQ _ hk)))
abbrev Zbt (t:Bool)(l:Addr):Obj:={cls:=.type (if t then "tuple_iterator" else "list_iterator"),data:=.fields #[.ref l,.int 0 0]}
abbrev Zka (t1 t2:Bool)(h:Heap)(l1 l2:Addr):Heap:=(h.push (Zbt t1 l1)).push (Zbt t2 l2)
abbrev Zn5 (t1 t2:Bool)(h:Heap)(l1 l2:Addr):Heap:=((Zka t1 t2 h l1 l2).push {cls:=.type "tuple", data:=.seq #[.ref h.objs.size,.ref (h.push (Zbt t1 l1)).objs.size]}).push {cls:=.type "tuple", data:=.seq #[.none,.none]}
abbrev Zlx (t1 t2:Bool)(h:Heap)(l1 l2:Addr):Heap:=(Zn5 t1 t2 h l1 l2).push {cls:=.type "zip", data:=.fields #[.none,.bool false,.bool false,.ref (Zka t1 t2 h l1 l2).objs.size,.ref ((Zka t1 t2 h l1 l2).push {cls:=.type "tuple", data:=.seq #[.ref h.objs.size,.ref (h.push (Zbt t1 l1)).objs.size]}).objs.size]}
def Zoz (t1 t2:Bool)(l1 l2:Addr)(xs ys:Array Value):Meets (Builtin.«zip.__new__» ⟨[.type "zip", .ref l1,.ref l2],[]⟩) (fun _ R s=>SqK t1 s.heap l1 xs/\SqK t2 s.heap l2 ys/\R (.ok (.ret (.ref (Zn5 t1 t2 s.heap l1 l2).objs.size))) {s with heap:=Zlx t1 t2 s.heap l1 l2}):=
 .of_wp fun prog w A R s h=>by
  obtain⟨hp,g,d,tk,os⟩:=s
  obtain⟨h1,h2,h⟩:=h
  have sb:=sub_zip
  have b1:SqK t1 (Shared.heap ⟨hp,g,d,tk,os⟩) l1 xs:=h1
  have b2:SqK t2 (Shared.heap ⟨hp.push (Zbt t1 l1),g,d,tk,os⟩) l2 ys:=h2.at fun o q=>Heap.get?_push_of_some _ q
  wp_walk using Zh7 b1,Zh7 b2
  exact⟨_,rfl,h⟩
def Zm4 {t1 t2:Bool}{l1 l2:Addr}{xs ys:Array Value}{Q:Value->Shared->Prop}(m1:SqK t1 s.heap l1 xs)(m2:SqK t2 s.heap l2 ys)(h:∀h',IsZip h' (s.heap.objs.size+4) (s.heap.objs.size+2) (s.heap.objs.size+3) .none->IsPair h' (s.heap.objs.size+2) (.ref s.heap.objs.size) (.ref (s.heap.objs.size+1))->IsPair h' (s.heap.objs.size+3) .none .none ->
   ItK t1 h' s.heap.objs.size l1 0->ItK t2 h' (s.heap.objs.size+1) l2 0->(∀c o,s.heap.get? c=some o->h'.get? c=some o)->Q (.ref (s.heap.objs.size+4)) {s with heap:=h'}):wpAny (model prog w) A (call (.type "zip") [.ref l1,.ref l2]) Q E s:=by
 refine callType_new F.called_zip (by decide) (F.typeCall_zip_2 _ _) (F.newCall_zip_2 _ _) (fun obj=>F.args_object_init_3 obj _ _) F.entry_zip_new (Zoz t1 t2 l1 l2 xs ys) ⟨m1,m2,?_⟩
 have z1:(s.heap.push (Zbt t1 l1)).objs.size=s.heap.objs.size+1:=Heap.size_push ..
 have z2:(Zka t1 t2 s.heap l1 l2).objs.size=s.heap.objs.size+2:=by rw[Heap.size_push,z1]
 have z3:((Zka t1 t2 s.heap l1 l2).push {cls:=.type "tuple", data:=.seq #[.ref s.heap.objs.size,.ref (s.heap.push (Zbt t1 l1)).objs.size]}).objs.size=s.heap.objs.size+3:=by rw[Heap.size_push,z2]
 have z4:(Zn5 t1 t2 s.heap l1 l2).objs.size=s.heap.objs.size+4:=by rw[Heap.size_push,z3]
 have g5:(Zlx t1 t2 s.heap l1 l2).get? (Zn5 t1 t2 s.heap l1 l2).objs.size=some _:=Heap.get?_push_size _ rfl
 have g4:(Zlx t1 t2 s.heap l1 l2).get? ((Zka t1 t2 s.heap l1 l2).push {cls:=.type "tuple", data:=.seq #[.ref s.heap.objs.size,.ref (s.heap.push (Zbt t1 l1)).objs.size]}).objs.size=some {cls:=.type "tuple", data:=.seq #[.none,.none]}:=Heap.get?_push_of_some _ (Heap.get?_push_size _ rfl)
 have g3:(Zlx t1 t2 s.heap l1 l2).get? (Zka t1 t2 s.heap l1 l2).objs.size=some {cls:=.type "tuple", data:=.seq #[.ref s.heap.objs.size,.ref (s.heap.push (Zbt t1 l1)).objs.size]}:=Heap.get?_push_of_some _ (Heap.get?_push_of_some _ (Heap.get?_push_size _ rfl))
 have g2:(Zlx t1 t2 s.heap l1 l2).get? (s.heap.push (Zbt t1 l1)).objs.size=some (Zbt t2 l2):=Heap.get?_push_of_some _ (Heap.get?_push_of_some _ (Heap.get?_push_of_some _ (Heap.get?_push_size _ rfl)))
 have g1:(Zlx t1 t2 s.heap l1 l2).get? s.heap.objs.size=some (Zbt t1 l1):=Heap.get?_push_of_some _ (Heap.get?_push_of_some _ (Heap.get?_push_of_some _ (Heap.get?_push_of_some _ (Heap.get?_push_size _ rfl))))
 show _/\_
 rw[z2,z3,z4] at g5
 rw[z1,z2] at g3
 rw[z3] at g4
 rw[z1] at g2
 rw[z4]
 exact⟨⟨_,g5,rfl⟩,h _ g5 g3 g4 ⟨_,g1,rfl,rfl⟩ ⟨_,g2,rfl,rfl⟩ fun c o q=>Heap.get?_push_of_some _ (Heap.get?_push_of_some _ (Heap.get?_push_of_some _ (Heap.get?_push_of_some _ (Heap.get?_push_of_some _ q))))⟩
end
def S5 (t:Bool)(K:PySem.W.Frag)(H:Hp)(a:Addr)(xs:List V):Prop:=if t=true then SqT K H a xs else SqL K H a xs
def Uf {X:Cx}{pins:List (Addr×Obj)}{σ:L2.St}{H:Hp}{s:Shared}{t:Bool}{a:Addr}{xs:List V}(I:Inv X pins σ H s)(h:S5 t X.K H a xs):∃its:List Value,Vals xs its/\SqK t s.heap a its.toArray:=by
 cases t with
 |false=>
  obtain⟨its,rv,p,_⟩:=I.list (show SqL X.K H a xs from h)
  exact⟨its,rv,p.isList⟩
 |true=>
  obtain⟨its,rv,p,_⟩:=I.tuple (show SqT X.K H a xs from h)
  exact⟨its,rv,p⟩
def Hn {X:Cx}{pins:List (Addr×Obj)}{σ:L2.St}{H:Hp}{s:Shared}{t:Bool}{a:Addr}{xs ys:List V}(I:Inv X pins σ H s)(h:S5 t X.K H a xs)(h':S5 t X.K H a ys):xs=ys:=by
 cases t with
 |false=>exact I.list_inj (show SqL X.K H a xs from h) (show SqL X.K H a ys from h')
 |true=>exact I.tuple_inj (show SqT X.K H a xs from h) (show SqT X.K H a ys from h')
def Jr {K:PySem.W.Frag}{H H':Hp}{t:Bool}{a:Addr}{xs:List V}(e:Same H H')(h:S5 t K H a xs):S5 t K H' a xs:=by
 cases t with
 |false=>exact e.seq (show SqL K H a xs from h)
 |true=>exact e.seqT (show SqT K H a xs from h)
def Zo0 (t1 t2:Bool)(K:PySem.W.Frag)(a b:Addr):It:=
 ⟨fun i H=>∃xs ys x y,S5 t1 K H a xs/\S5 t2 K H b ys/\xs[i]?=some x/\ys[i]?=some y,
  fun i H v H'=>∃p x y,H p=none/\v=.ref p/\H'=upd H p (.tup [x,y])/\(∀xs,S5 t1 K H a xs->xs[i]?=some x)/\∀ys,S5 t2 K H b ys->ys[i]?=some y,
  fun i H=>∃xs ys,S5 t1 K H a xs/\S5 t2 K H b ys/\(xs.length<=i\/ys.length<=i)⟩
abbrev Zp0 (t1 t2:Bool)(a b z TI TO i1 i2:Addr)(i:Nat)(h:Heap):Prop:=IsZip h z TI TO .none/\IsPair h TI (.ref i1) (.ref i2)/\(∃p q,IsPair h TO p q)/\ItK t1 h i1 a i/\ItK t2 h i2 b i/\a<z/\b<z/\a≠TO/\b≠TO/\a≠i1/\a≠i2/\b≠i1/\b≠i2
def Zaq {P:Program}{w:World}{K:PySem.W.Frag}{es:List Expr}{k:Nat}{pos:Pos}(t1 t2:Bool)(a b z TI TO i1 i2:Addr)(A:ZA z TI TO i1 i2):Turn P w K (.Tuple es k pos) (Zo0 t1 t2 K a b) [z,TI,TO,i1,i2] z (Zp0 t1 t2 a b z TI TO i1 i2) where
 mem:=by simp
 obj:=fun i h st c hc=>by
  obtain⟨hz,hTI,⟨p,q,hTO⟩,⟨o1,e1,c1,d1⟩,⟨o2,e2,c2,d2⟩,_⟩:=st
  simp at hc
  rcases hc with rfl|rfl|rfl|rfl|rfl
  ·exact⟨_,hz,fun v z=>by cases z⟩
  ·exact⟨_,hTI,fun v z=>by cases z⟩
  ·exact⟨_,hTO,fun v z=>by cases z⟩
  ·exact⟨o1,e1,fun v z=>by rw[d1] at z;cases z⟩
  ·exact⟨o2,e2,fun v z=>by rw[d2] at z;cases z⟩
 keep:=fun i h h' st kk=>by
  obtain⟨hz,hTI,⟨p,q,hTO⟩,h1,h2,ap⟩:=st
  exact⟨kk z (by simp) _ hz,kk TI (by simp) _ hTI,⟨p,q,kk TO (by simp) _ hTO⟩,h1.at fun o e=>kk i1 (by simp) o e,h2.at fun o e=>kk i2 (by simp) o e,ap⟩
 item:=by
  intro X hP hw hK hc i pins s σ H E I hf st hg
  subst hP hw hK
  obtain⟨xs,ys,x,y,hq1,hq2,hx,hy⟩:=hg
  obtain⟨its1,rv1,p1⟩:=Uf I hq1
  obtain⟨its2,rv2,p2⟩:=Uf I hq2
  obtain⟨u1,hu1,ru1⟩:=rv1.get hx
  obtain⟨u2,hu2,ru2⟩:=rv2.get hy
  obtain⟨hz,hTI,⟨p,q,hTO⟩,h1,h2,w1,w2,w3,w4,w5,w6,w7,w8⟩:=id st
  have D:ZipApart z TI TO i1 i2 a b:=⟨A.TIz,A.TOz,A.i1z,A.i2z,A.TITO,A.TIi1,A.TIi2,A.TOi1,A.TOi2,A.i12,Nat.ne_of_lt w1,w3,w5,w6,Nat.ne_of_lt w2,w4,w7,w8⟩
  refine Es D hz hTI hTO h1 h2 p1 p2 (x:=u1) (y:=u2) (by simpa using hu1) (by simpa using hu2) fun h' a1 a2 a3 a4 a5 a6 a7=>⟨_,rfl,wpAny_letOwnedTupleGo_zip a1 fun h'' b1 b2=>?_⟩
  have lt:∀{c o},s.heap.get? c=some o->c≠s.heap.objs.size:=fun e=>Nat.ne_of_lt (Heap.lt_size e)
  have kk:∀b u,b ∉ [z,TI,TO,i1,i2]->s.heap.get? b=some u->h''.get? b=some u:=fun b u nb q=>(b2.2 b (fun z=>nb (by simp[z]))).trans (a7 b u (fun z=>nb (by simp[z])) (fun z=>nb (by simp[z])) (fun z=>nb (by simp[z])) (fun z=>nb (by simp[z])) q)
  have hT:h''.get? s.heap.objs.size=some {cls:=.type "tuple", data:=.seq #[u1,u2]}:=(b2.2 _ (Ne.symm (lt hz))).trans a5
  refine⟨.ref s.heap.objs.size,_,I.turnedT (o:=.tup [x,y]) (t':=s.toks) hf kk (Nat.le_refl _) ⟨by show 2<=sizeLine;decide,[u1,u2],.cons ru1 (.cons ru2 .nil),⟨_,hT,rfl,_,rfl⟩⟩,rfl,
   ⟨_,x,y,I.fresh,rfl,rfl,fun zs hy=>by rw[Hn I hy hq1];exact hx,fun zs hy'=>by rw[Hn I hy' hq2];exact hy⟩,
   ⟨b1,(b2.2 TI A.TIz).trans (a7 _ _ A.TIz A.TITO A.TIi1 A.TIi2 hTI),⟨u1,u2,(b2.2 TO A.TOz).trans a2⟩,a3.at fun o q=>(b2.2 i1 A.i1z).trans q,a4.at fun o q=>(b2.2 i2 A.i2z).trans q,w1,w2,w3,w4,w5,w6,w7,w8⟩,fun b hb=>?_⟩
  have:b≠s.heap.objs.size:=by
   obtain⟨o1,e1,_⟩:=id h1
   obtain⟨o2,e2,_⟩:=id h2
   have hb':=hb
   simp at hb'
   rcases hb' with rfl|rfl|rfl|rfl|rfl
   ·exact lt hz
   ·exact lt hTI
   ·exact lt hTO
   ·exact lt e1
   ·exact lt e2
  rw[Zp this];exact(hf b hb).1
 done:=by
  intro X hP hw hK hc i pins s σ H E I hf st hg
  subst hP hw hK
  obtain⟨xs,ys,hq1,hq2,hx⟩:=hg
  obtain⟨its1,rv1,p1⟩:=Uf I hq1
  obtain⟨its2,rv2,p2⟩:=Uf I hq2
  have hl1:=rv1.length
  have hl2:=rv2.length
  obtain⟨hz,hTI,⟨p,q,hTO⟩,h1,h2,w1,w2,w3,w4,w5,w6,w7,w8⟩:=id st
  have D:ZipApart z TI TO i1 i2 a b:=⟨A.TIz,A.TOz,A.i1z,A.i2z,A.TITO,A.TIi1,A.TIi2,A.TOi1,A.TOi2,A.i12,Nat.ne_of_lt w1,w3,w5,w6,Nat.ne_of_lt w2,w4,w7,w8⟩
  refine Zap (I.ok.hd hc) D hz hTI hTO h1 h2 p1 p2 ?_ fun h' eb=>⟨rfl,I.turnedF (t':=s.toks) hf fun b u nb q=>eb b u (fun z=>nb (by simp[z])) (fun z=>nb (by simp[z])) (fun z=>nb (by simp[z])) (fun z=>nb (by simp[z])) q⟩
  rcases hx with hx|hx
  ·exact .inl (by simp;lia)
  ·exact .inr (by simp;lia)
 self:=fun _ _ _ _ _ st h=>wpAny_pyIter_zip st.1 h
section
variable {X:Cx}{E:XK}{pos p p2:Pos}{es:List Expr}{k:Nat}
def Zp1 (t1 t2:Bool)(K:PySem.W.Frag)(tl:TA):TI:=fun σ H R=>tl σ H fun vs H1=>∃a b,vs=[.ref a,.ref b]/\(∃xs,S5 t1 K H1 a xs)/\(∃ys,S5 t2 K H1 b ys)/\R (Zo0 t1 t2 K a b) H1
def Ho (t1 t2:Bool){l m:Expr}{tl:TA} (hg:Gl X "zip") (hm:X.mg "zip"=none) (hl:PA X [l,m] tl) (hs:starEach [l,m] X.env=[(false,eval l X.env),(false,eval m X.env)]:=by rfl) (hs2:starEach [m] X.env=[(false,eval m X.env)]:=by rfl):
  PI X (.Tuple es k p2) (.Call (.Name "zip" p) [l,m] [] pos) (Zp1 t1 t2 X.K tl):=by
 intro pins s σ H R I h
 refine Call_ (Nb I hg hm boot_zip (PyProof.Rows.callWith_type1 (Xi (hl pos pins s σ H _ I h) fun us s1 ⟨vs,H1,I1,r1,q1⟩=>?_) (by rw[hs,hs2]) (by rw[hs2];rfl)))
 obtain⟨a,b,rfl,⟨xs,hq⟩,⟨ys,hq2⟩,q⟩:=q1
 obtain⟨u,w',rfl,rx,ry⟩:=Zb2 r1
 cases rx
 cases ry
 obtain⟨its,rv,pl⟩:=Uf I1 hq
 obtain⟨its2,rv2,pl2⟩:=Uf I1 hq2
 refine Zm4 pl pl2 fun h' e1 e2 e3 e4 e5 e7=>wpAny_pyIter_zip e1 ?_
 have I2:Inv X pins σ H1 {s1 with heap:=h'}:=I1.kept (t':=s1.toks) e7
 have la:a<s1.heap.objs.size:=by obtain⟨o,z,_⟩:=pl;exact Heap.lt_size z
 have lb:b<s1.heap.objs.size:=by obtain⟨o,z,_⟩:=pl2;exact Heap.lt_size z
 refine⟨s1.heap.objs.size+4,[s1.heap.objs.size+4,s1.heap.objs.size+2,s1.heap.objs.size+3,s1.heap.objs.size,s1.heap.objs.size+1],_,_,H1,rfl,I2,Zaq t1 t2 a b (s1.heap.objs.size+4) (s1.heap.objs.size+2) (s1.heap.objs.size+3) s1.heap.objs.size (s1.heap.objs.size+1) (Zpz _),
  ⟨e1,e2,⟨_,_,e3⟩,e4,e5,Nat.lt_of_lt_of_le la (Nat.le_add_right _ _),Nat.lt_of_lt_of_le lb (Nat.le_add_right _ _),Nat.ne_of_lt (Nat.lt_of_lt_of_le la (Nat.le_add_right _ _)),Nat.ne_of_lt (Nat.lt_of_lt_of_le lb (Nat.le_add_right _ _)),Nat.ne_of_lt la,Nat.ne_of_lt (Nat.lt_succ_of_lt la),Nat.ne_of_lt lb,Nat.ne_of_lt (Nat.lt_succ_of_lt lb)⟩,fun b hb=>?_,q⟩
 have hb:s1.heap.objs.size<=b:=by simp at hb;rcases hb with rfl|rfl|rfl|rfl|rfl<;>lia
 exact I1.fpOk hb (I1.hok.fresh hb)
def Zc1 {t1 t2:Bool}{K:PySem.W.Frag}{Hf H:Hp}{a b:Addr}{xs ys:List V}{ds es:List D}(h:S5 t1 K Hf a xs)(r:Reps K Hf ds xs)(h':S5 t2 K Hf b ys)(r':Reps K Hf es ys):R5 K Hf H (Co ds es) (Zo0 t1 t2 K a b):=by
 intro i Hf1 H1 e1 e2
 have h2:=Jr e2 (Jr e1 h)
 have h3:=Jr e2 (Jr e1 h')
 rw[Zcs]
 cases q:ds[i]? with
 |none=>exact⟨xs,ys,h2,h3,.inl (List.getElem?_eq_none_iff.mp (r.none_of q))⟩
 |some d=>
  cases q':es[i]? with
  |none=>exact⟨xs,ys,h2,h3,.inr (List.getElem?_eq_none_iff.mp (r'.none_of q'))⟩
  |some e=>
   obtain⟨x,ex,rx⟩:=r.get q
   obtain⟨y,ey,ry⟩:=r'.get q'
   refine⟨⟨xs,ys,x,y,h2,h3,ex,ey⟩,fun v H2 hy=>?_⟩
   obtain⟨p,x',y',hp,rfl,rfl,hall,hall'⟩:=hy
   have ex':=hall xs h2
   rw[ex] at ex'
   cases ex'
   have ey':=hall' ys h3
   rw[ey] at ey'
   cases ey'
   exact⟨_,Gr.alloc e2 hp _,Gr.tup e2 hp (Reps.cons (rx.mono e1) (Reps.cons (ry.mono e1) Reps.nil))⟩
end
end DL
namespace DL
open PySem PySem.Spec PyProof.Rows L2 PySem.W
def N0 (s:Stmt)(j:Nat):Stmt:=match s with
 |.ClassDef _ _ _ body _ _ _ _ _ _ _=>body.getD j (.Pass ⟨0,0,0,0⟩)
 |_=>.Pass ⟨0,0,0,0⟩
def Wp (q:Nat->Nat->Option Bool){α:Type}:KasT α->Option α
 |.ret a=>some a
 |.ask i j k=>match q i j with
  |some b=>Wp q (k b)
  |none=>none
theorem Hq {q:Nat->Nat->Option Bool}{cmp:Nat->Nat->(Bool->Shared->Prop)->Shared->Prop}{α:Type}{Q:α->Shared->Prop}{s:Shared}{a:α}(hc:∀i j b C,q i j=some b->C b s->cmp i j C s):∀t:KasT α,Wp q t=some a->Q a s->t.kasWp cmp Q s
 |.ret b,e,h=>by
  cases (Option.some.inj (show some b=some a from e))
  exact h
 |.ask i j k,e,h=>by
  unfold Wp at e
  cases z:q i j with
  |none=>rw[z] at e;cases e
  |some b=>
   rw[z] at e
   exact hc i j b _ z (Hq hc (k b) e h)
def Zn6:V->V->Option Bool
 |.int a,.int b=>some (decide (a<b))
 |.str a,.str b=>some (decide (a.cps.toList<b.cps.toList))
 |_,_=>none
def Zm5:V->V->Option Bool
 |.int a,.int b=>some (a==b)
 |.str a,.str b=>some (a==b)
 |_,_=>none
def Zgd:List V->List V->Option Bool
 |[],[]=>some false
 |x::xs,y::ys=>match Zm5 x y with
  |some true=>Zgd xs ys
  |some false=>Zn6 x y
  |none=>none
 |_,_=>none
section
variable {prog:Program}{w:World}{A:Around}{E:Value->Shared->Prop}{s:Shared}
def Zkb {x y:V}{u v:Value}{b:Bool}{Q:Bool->Shared->Prop}(h:Zm5 x y=some b)(rx:RelV x u)(ry:RelV y v)(q:Q b s):wpAny (model prog w) A (eqBool u v) Q E s:=by
 unfold Zm5 at h
 split at h
 ·obtain⟨t,rfl⟩:=rx
  obtain⟨t',rfl⟩:=ry
  cases h
  exact wpAny_eqBool_int q
 ·obtain⟨t,rfl⟩:=rx
  obtain⟨t',rfl⟩:=ry
  cases h
  exact PyProof.Rows.eqBool_str q
 ·cases h
def Zkc {o:Bool}{x y:V}{u v:Value}{b:Bool}{Q:Bool->Shared->Prop}(h:Zn6 x y=some b)(rx:RelV x u)(ry:RelV y v)(q:Q b s):wpAny (model prog w) A (oneLt' o u v) Q E s:=by
 unfold Zn6 at h
 split at h
 ·obtain⟨t,rfl⟩:=rx
  obtain⟨t',rfl⟩:=ry
  cases h
  cases o with
  |true=>exact oneLt_int q
  |false=>exact kat_one _ _ (PyProof.Rows.lt_int q)
 ·obtain⟨t,rfl⟩:=rx
  obtain⟨t',rfl⟩:=ry
  cases h
  cases o with
  |true=>exact PyProof.Rows.oneLt_str q
  |false=>exact kat_one _ _ (PyProof.Rows.lt_str q)
 ·cases h
theorem Zc2 {o:Bool}{r:Bool}{Q:Bool->Shared->Prop}:∀{xs ys:List V}{us vs:List Value} (i:Nat),Zgd xs ys=some r->Vals xs us->Vals ys vs->Q r s->KatLex prog w A o false Q (us.zip vs) i s
 |[],[],_,_,i,h,.nil,.nil,q=>by
  cases (Option.some.inj (show some false=some r from h))
  exact kat_nil q
 |x::xs,y::ys,_,_,i,h,.cons rx r1,.cons ry r2,q=>by
  unfold Zgd at h
  refine kat_cons ?_
  cases z:Zm5 x y with
  |none=>rw[z] at h;cases h
  |some b=>
   rw[z] at h
   refine Zkb z rx ry ?_
   cases b with
   |true=>exact kat_yes (Zc2 (i+1) h r1 r2 q)
   |false=>exact kat_no (Zkc h rx ry q)
 |[],_::_,_,_,_,h,_,_,_=>by cases h
 |_::_,[],_,_,_,h,_,_,_=>by cases h
def Et {a:Addr}{vs:List Value}{n:Nat}{κ:SortKind}{q:Nat->Nat->Option Bool}{p:Array Nat}{P:Fin->Shared->Prop} (ho:s.heap.get? a=some (seqObj "list" vs.toArray n)) (h2:2<=vs.length) (h64:vs.length<64)
  (hk:∀h',(∀b o,b≠a->s.heap.get? b=some o->h'.get? b=some o)->∀Q:SortKind->Shared->Prop,Q κ {s with heap:=h'}->wpAny (model prog w) A (keyKind' vs.toArray) Q E {s with heap:=h'})
  (hq:∀h',(∀b o,b≠a->s.heap.get? b=some o->h'.get? b=some o)->∀i j b (C:Bool->Shared->Prop),q i j=some b->C b {s with heap:=h'}->kas_ask prog w A κ vs i j C {s with heap:=h'})
  (hp:Wp q (kas_sort vs.length)=some p) (h:p.size=vs.length->P (.done (.ret .none)) {s with heap:=sortedHeap s.heap a vs (p.toList.map fun i=>vs.getD i Value.none).toArray}):
  wpAny (model prog w) A (Builtin.«list.sort» ⟨[.ref a],[]⟩) P E s:=by
 have la:a<s.heap.objs.size:=Heap.lt_size ho
 obtain⟨e1,ho1⟩:∃e1,(s.heap.update a (Obj.mapSeq fun _=>#[])).get? a=some (seqObj "list" #[] e1):=⟨_,get?_update_seq ho fun _=>#[]⟩
 have keep:∀b o,b≠a->s.heap.get? b=some o->(((s.heap.update a (Obj.mapSeq fun _=>#[])).push (seqObj "tuple" vs.toArray 0)).push (seqObj "list" #[] 0)).get? b=some o:=
  fun b o nb e=>Heap.get?_push_of_some _ (Heap.get?_push_of_some _ ((Heap.get?_update_other _ _ (Ne.symm nb)).trans e))
 have ho6:(((s.heap.update a (Obj.mapSeq fun _=>#[])).push (seqObj "tuple" vs.toArray 0)).push (seqObj "list" #[] 0)).get? a=some (seqObj "list" #[] e1):=Heap.get?_push_of_some _ (Heap.get?_push_of_some _ ho1)
 have z1:vs.toArray.size<=sizeLine:=by rw[List.size_toArray,sizeLine_eq];lia
 have n2:¬vs.toArray.size<2:=by rw[List.size_toArray];lia
 rw[list_sort_plain]
 refine wpAny_bind (listItems_at ho rfl (wpAny_bind (listUpdate_at ho rfl (wpAny_bind (seqEpoch_at ho1 rfl (wpAny_bind (wpAny_newTuple (wpAny_bind (wpAny_newList (wpAny_holding ?_) (Nat.zero_le _))) (by simpa using z1))))) z1 (Nat.zero_le _))))
 dsimp only
 rw[if_neg n2,if_neg n2]
 refine wpAny_bind (hk _ keep _ ?_)
 have hz:(vs.toArray.zip vs.toArray)=pairsOf vs:=rfl
 refine wpAny_bind (wpAny_mono (kat_run (ks:=vs) (vs:=vs) (κ:=κ) (Q:=fun st' s'=>p.size=vs.length/\arrOf st'=p.map (kas_item (vs.toArray.zip vs.toArray))/\failedOf st'=none/\s'=_) (G:=fun p' s'=>p'=p/\s'=_) rfl h2 h64
  (fun p' st' s' a1 a2 a3 a4=>by obtain⟨rfl,e⟩:=a4;exact⟨a1,a2,a3,e⟩) (Hq (hq _ keep) _ hp ⟨rfl,rfl⟩)) ?_ fun _ _ x=>x)
 rintro⟨⟨⟩,st'⟩ s' ⟨zz,har,hf,rfl⟩
 dsimp only
 have hout:=kat_snds (ks:=vs) (vs:=vs) rfl har
 refine wpAny_bind (seqEpoch_at ho6 rfl (wpAny_bind (listUpdate_at ho6 rfl ?_ (Nat.zero_le _) (by rw[hout,List.size_toArray,List.length_map,Array.length_toList,zz,sizeLine_eq];lia))))
 rw[hf]
 simp only[bne_self_eq_false,Bool.false_eq_true,if_false]
 rw[hout]
 exact wpAny_pure (h zz)
def Cr {t:Bool}{l:Addr}{vs:List Value}{Q:List Value->Shared->Prop}(hl:SqK t s.heap l vs.toArray) (h:Q vs {s with heap:=(s.heap.push (seqObj "list" #[] 0)).update s.heap.objs.size (Obj.mapSeq (·++vs.toArray))}) (hz:vs.length<=sizeLine):
  wpAny (model prog w) A (collect (.ref l)) Q E s:=by
 cases t with
 |false=>exact collect_list (show s.heap.IsList l vs.toArray from hl) h hz
 |true=>
  obtain⟨o,ho,hc,n,hd⟩:=id hl
  have ho':(s.heap.push (seqObj "list" #[] 0)).get? l=some o:=Heap.get?_push_of_some _ ho
  have hn:(s.heap.push (seqObj "list" #[] 0)).get? s.heap.objs.size=some (seqObj "list" #[] 0):=Heap.get?_push_size _ rfl
  unfold collect
  refine wpAny_bind (wpAny_runValue (codeAny_builtin entry_proto_collect' (wpAny_bind (m:=newList []) (wpAny_newList (wpAny_pure ⟨Code.quiet_builtin _ (by decide +kernel),codeAny_builtin entry_list_iadd' ?_⟩)))))
  change wpAny _ _ (Builtin.List.listExtendWith _ _ _) _ _ _
  unfold Builtin.List.listExtendWith
  refine wpAny_bind (wpAny_typeOf (T:="tuple") ⟨o,ho',hc⟩ ?_)
  have ht:(Value.type "tuple"== Value.type "tuple")=true:=by rfl
  rw[if_pos (by rw[ht];simp)]
  refine wpAny_bind (listItems_at ho' hd (wpAny_bind (listItems_at hn rfl ?_)))
  rw[if_neg (by simp)]
  refine wpAny_bind (listUpdate_at hn rfl (wpAny_pure ?_) (Nat.zero_le _) (by show(#[]++vs.toArray).size<=_;simp only[Array.size_append,List.size_toArray,List.length_nil];lia))
  change wpAny _ _ (do
   let o <-load s.heap.objs.size
   match o.data with
   |.seq xs _=>pure xs.toList
   |_=>unsupported "internal:collect") Q E _
  refine wpAny_bind (wpAny_load (get?_update_seq hn _) ?_)
  change wpAny _ _ (pure ((#[]:Array Value)++vs.toArray).toList) Q E _
  have e0:((#[]:Array Value)++vs.toArray).toList=vs:=by simp
  rw[e0]
  exact wpAny_pure h
def Zge {t:Bool}{l:Addr}{vs:List Value}{κ:SortKind}{q:Nat->Nat->Option Bool}{p:Array Nat}{Q:Value->Shared->Prop}(hl:SqK t s.heap l vs.toArray)(h2:2<=vs.length)(h64:vs.length<64)(hk:∀A' E' h',(∀b o,s.heap.get? b=some o->h'.get? b=some o)->∀Q:SortKind->Shared->Prop,Q κ {s with heap:=h'}->wpAny (model prog w) A' (keyKind' vs.toArray) Q E' {s with heap:=h'})(hq:∀A' h',(∀b o,s.heap.get? b=some o->h'.get? b=some o)->∀i j b (C:Bool->Shared->Prop),q i j=some b->C b {s with heap:=h'}->kas_ask prog w A' κ vs i j C {s with heap:=h'})(hp:Wp q (kas_sort vs.length)=some p)(h:p.size=vs.length->Q (.ref (s.heap.objs.size+1)) {s with heap:=sortedAll s.heap vs (p.toList.map fun i=>vs.getD i Value.none).toArray}):
  wpAny (model prog w) A (call (.builtin "sorted") [.ref l]) Q E s:=by
 have z1:vs.length<=sizeLine:=by rw[sizeLine_eq];lia
 refine Calls.call_function_entry kind_sorted plain_sorted entry_sorted (args_sorted1 _) ?_
 unfold Builtin.«sorted»
 refine wpAny_bind (m:=checkCount "sorted" 1 1 _) (wpAny_pure (wpAny_bind (Cr hl (wpAny_bind (wpAny_newList ?_ z1)) z1)))
 have hsz:((s.heap.push (seqObj "list" #[] 0)).update s.heap.objs.size (Obj.mapSeq (·++vs.toArray))).objs.size=s.heap.objs.size+1:=(Heap.size_update ..).trans (size_push' ..)
 have hoL:(((s.heap.push (seqObj "list" #[] 0)).update s.heap.objs.size (Obj.mapSeq (·++vs.toArray))).push (seqObj "list" vs.toArray 0)).get? (s.heap.objs.size+1)=some (seqObj "list" vs.toArray 0):=hsz▸Heap.get?_push_size _ rfl
 have keep:∀b o,s.heap.get? b=some o->(((s.heap.push (seqObj "list" #[] 0)).update s.heap.objs.size (Obj.mapSeq (·++vs.toArray))).push (seqObj "list" vs.toArray 0)).get? b=some o:=fun b o e=>
  Heap.get?_push_of_some _ ((Heap.get?_update_other _ _ (Nat.ne_of_gt (Heap.lt_size e))).trans (Heap.get?_push_of_some _ e))
 have nb:∀b o,s.heap.get? b=some o->b≠s.heap.objs.size+1:=fun b o e=>Nat.ne_of_lt (Nat.lt_succ_of_lt (Heap.lt_size e))
 change wpAny _ _ _ _ _ {s with heap:=((s.heap.push (seqObj "list" #[] 0)).update s.heap.objs.size (Obj.mapSeq (·++vs.toArray))).push (seqObj "list" vs.toArray 0)}
 rw[hsz]
 refine wpAny_bind (wpAny_holding (wpAny_call_entry slot_list_sort ⟨_,hoL,rfl⟩ entry_list_sort (Et (κ:=κ) (q:=q) (p:=p) hoL h2 h64 (fun h' e Q hQ=>hk _ _ h' (fun b o z=>e b o (nb b o z) (keep b o z)) Q hQ)
  (fun h' e=>hq _ h' fun b o z=>e b o (nb b o z) (keep b o z)) hp fun hz=>⟨_,rfl,wpAny_pure ⟨_,rfl,h hz⟩⟩) (args_list_sort _)))
def Eu {a:Addr}{vs:List Value}{n:Nat}{P:Fin->Shared->Prop} (ho:s.heap.get? a=some (seqObj "list" vs.toArray n)) (h2:vs.length<2)
  (h:P (.done (.ret .none)) {s with heap:=sortedHeap s.heap a vs vs.toArray}):wpAny (model prog w) A (Builtin.«list.sort» ⟨[.ref a],[]⟩) P E s:=by
 obtain⟨e1,ho1⟩:∃e1,(s.heap.update a (Obj.mapSeq fun _=>#[])).get? a=some (seqObj "list" #[] e1):=⟨_,get?_update_seq ho fun _=>#[]⟩
 have ho6:(((s.heap.update a (Obj.mapSeq fun _=>#[])).push (seqObj "tuple" vs.toArray 0)).push (seqObj "list" #[] 0)).get? a=some (seqObj "list" #[] e1):=Heap.get?_push_of_some _ (Heap.get?_push_of_some _ ho1)
 have z1:vs.toArray.size<=sizeLine:=by rw[List.size_toArray,sizeLine_eq];lia
 rw[list_sort_plain]
 refine wpAny_bind (listItems_at ho rfl (wpAny_bind (listUpdate_at ho rfl (wpAny_bind (seqEpoch_at ho1 rfl (wpAny_bind (wpAny_newTuple (wpAny_bind (wpAny_newList (wpAny_holding ?_) (Nat.zero_le _))) (by simpa using z1))))) z1 (Nat.zero_le _))))
 dsimp only
 have n2:vs.toArray.size<2:=by rw[List.size_toArray];exact h2
 rw[if_pos n2,if_pos n2]
 refine wpAny_bind (wpAny_pure ?_)
 rw[StateT.run_pure]
 refine wpAny_bind (wpAny_pure ?_)
 dsimp only
 have eo:(vs.toArray.zip vs.toArray).map (·.2)=vs.toArray:=by
  apply Array.toList_inj.mp
  rw[Array.toList_map,Array.toList_zip,List.map_snd_zip]
  lia
 refine wpAny_bind (seqEpoch_at ho6 rfl (wpAny_bind (listUpdate_at ho6 rfl ?_ (Nat.zero_le _) (by show((vs.toArray.zip vs.toArray).map (·.2)).size<=_;rw[eo];lia))))
 simp only[bne_self_eq_false,Bool.false_eq_true,if_false]
 change wpAny _ _ (ret .none) _ _ {s with heap:=sortedHeap s.heap a vs ((vs.toArray.zip vs.toArray).map (·.2))}
 rw[eo]
 exact wpAny_pure h
def Zgf {t:Bool}{l:Addr}{vs:List Value}{Q:Value->Shared->Prop}(hl:SqK t s.heap l vs.toArray)(h2:vs.length<2)(h:Q (.ref (s.heap.objs.size+1)) {s with heap:=sortedAll s.heap vs vs.toArray}):
  wpAny (model prog w) A (call (.builtin "sorted") [.ref l]) Q E s:=by
 have z1:vs.length<=sizeLine:=by rw[sizeLine_eq];lia
 refine Calls.call_function_entry kind_sorted plain_sorted entry_sorted (args_sorted1 _) ?_
 unfold Builtin.«sorted»
 refine wpAny_bind (m:=checkCount "sorted" 1 1 _) (wpAny_pure (wpAny_bind (Cr hl (wpAny_bind (wpAny_newList ?_ z1)) z1)))
 have hsz:((s.heap.push (seqObj "list" #[] 0)).update s.heap.objs.size (Obj.mapSeq (·++vs.toArray))).objs.size=s.heap.objs.size+1:=(Heap.size_update ..).trans (size_push' ..)
 have hoL:(((s.heap.push (seqObj "list" #[] 0)).update s.heap.objs.size (Obj.mapSeq (·++vs.toArray))).push (seqObj "list" vs.toArray 0)).get? (s.heap.objs.size+1)=some (seqObj "list" vs.toArray 0):=hsz▸Heap.get?_push_size _ rfl
 change wpAny _ _ _ _ _ {s with heap:=((s.heap.push (seqObj "list" #[] 0)).update s.heap.objs.size (Obj.mapSeq (·++vs.toArray))).push (seqObj "list" vs.toArray 0)}
 rw[hsz]
 exact wpAny_bind (wpAny_holding (wpAny_call_entry slot_list_sort ⟨_,hoL,rfl⟩ entry_list_sort (Eu hoL h2 ⟨_,rfl,wpAny_pure ⟨_,rfl,h⟩⟩) (args_list_sort _)))
end
def N2:List V->Bool
 |.str _::_=>true
 |_=>false
def N3:List V->Bool
 |.int _::_=>true
 |_=>false
def RowsH (h:Heap):List Value->List (List V)->Prop:=Paired fun u y=>∃a us,u=Value.ref a/\IsTup h a us.toArray/\Vals y us
def RowsH.mono {h h':Heap}{us:List Value}{ys:List (List V)}(k:∀b o,h.get? b=some o->h'.get? b=some o)(r:RowsH h us ys):RowsH h' us ys:=
 Paired.mapP r fun u y q=>by
  obtain⟨a,vs,e,⟨o,e1,e2⟩,e3⟩:=q
  exact⟨a,vs,e,⟨o,k _ _ e1,e2⟩,e3⟩
theorem RowsH.firstS {h:Heap}:∀{us:List Value}{ys:List (List V)},RowsH h us ys->ys.all N2=true->∃fs,KatTups h us fs/\(∀v∈fs,∃x t,v=Value.str x t)/\fs.length=us.length
 |_,_,.nil,_=>⟨[],KatTups.nil,fun v hv=>(by cases hv),rfl⟩
 |_,y::ys,.cons q r,hs=>by
  rw[List.all_cons,Bool.and_eq_true] at hs
  obtain⟨fs,k1,k2,k3⟩:=RowsH.firstS r hs.2
  obtain⟨a,vs,rfl,⟨o,e1,e2,n,e3⟩,e4⟩:=q
  cases y with
  |nil=>simp[N2] at hs
  |cons z y=>
   cases z with
   |str x=>
    cases e4 with
    |cons rx rr=>
     obtain⟨t,rfl⟩:=rx
     exact⟨Value.str x t::fs,KatTups.cons e1 e2 e3 (by simp) k1,fun v hv=>by
      rcases List.mem_cons.mp hv with rfl|hv
      ·exact⟨x,t,rfl⟩
      ·exact k2 v hv,by rw[List.length_cons,List.length_cons,k3]⟩
   |_=>simp[N2] at hs
theorem RowsH.firstI {h:Heap}:∀{us:List Value}{ys:List (List V)},RowsH h us ys->ys.all N3=true->∃fs,KatTups h us fs/\(∀v∈fs,∃x t,v=Value.int x t)/\fs.length=us.length
 |_,_,.nil,_=>⟨[],KatTups.nil,fun v hv=>(by cases hv),rfl⟩
 |_,y::ys,.cons q r,hs=>by
  rw[List.all_cons,Bool.and_eq_true] at hs
  obtain⟨fs,k1,k2,k3⟩:=RowsH.firstI r hs.2
  obtain⟨a,vs,rfl,⟨o,e1,e2,n,e3⟩,e4⟩:=q
  cases y with
  |nil=>simp[N3] at hs
  |cons z y=>
   cases z with
   |int x=>
    cases e4 with
    |cons rx rr=>
     obtain⟨t,rfl⟩:=rx
     exact⟨Value.int x t::fs,KatTups.cons e1 e2 e3 (by simp) k1,fun v hv=>by
      rcases List.mem_cons.mp hv with rfl|hv
      ·exact⟨x,t,rfl⟩
      ·exact k2 v hv,by rw[List.length_cons,List.length_cons,k3]⟩
   |_=>simp[N3] at hs
theorem RowsH.get {h:Heap}:∀{us:List Value}{ys:List (List V)}{i:Nat}{y:List V},RowsH h us ys->ys[i]?=some y->∃a vs,us.getD i Value.none=Value.ref a/\IsTup h a vs.toArray/\Vals y vs
 |_,_,_,_,.nil,e=>by simp at e
 |_,_,0,_,.cons q _,e=>by
  simp at e
  subst e
  obtain⟨a,vs,rfl,e1,e2⟩:=q
  exact⟨a,vs,rfl,e1,e2⟩
 |_,_,i+1,_,.cons _ r,e=>by
  obtain⟨a,vs,e1,e2,e3⟩:=RowsH.get (i:=i) r (by simpa using e)
  exact⟨a,vs,by simpa using e1,e2,e3⟩
def Lh (ys:List (List V))(i j:Nat):Option Bool:=match ys[i]?,ys[j]? with
 |some x,some y=>if x.length=y.length then Zgd x y else none
 |_,_=>none
def Zgg {prog:Program}{w:World}{A:Around}{s:Shared}{o:Bool}{us:List Value}{ys:List (List V)}(r:RowsH s.heap us ys){i j:Nat}{b:Bool}{C:Bool->Shared->Prop}(e:Lh ys i j=some b)(h:C b s):kas_ask prog w A (tuples' o) us i j C s:=by
 unfold Lh at e
 split at e
 ·rename_i x y ex ey
  split at e
  ·rename_i hl
   obtain⟨a,vs,e1,⟨o1,e2,_,n,e3⟩,e4⟩:=r.get ex
   obtain⟨a',vs',e1',⟨o1',e2',_,n',e3'⟩,e4'⟩:=r.get ey
   unfold kas_ask
   rw[e1,e1']
   refine kat_lt e2 e3 e2' e3' ?_
   have l1:=e4.length
   have l2:=e4'.length
   have:decide (vs.toArray.size<vs'.toArray.size)=false:=decide_eq_false (by rw[List.size_toArray,List.size_toArray];lia)
   rw[this]
   exact Zc2 0 e e4 e4' h
  ·cases e
 ·cases e
def RowsT (H:Hp):List V->List (List V)->Prop:=Paired fun z y=>∃a,z=V.ref a/\H a=some (.tup y)
theorem Zc3 {X:Cx}{pins:List (Addr×Obj)}{σ:L2.St}{H:Hp}{s:Shared}(I:Inv X pins σ H s):∀{zs:List V}{ys:List (List V)}{us:List Value},RowsT H zs ys->Vals zs us->RowsH s.heap us ys
 |_,_,_,.nil,.nil=>.nil
 |_,_,_,.cons q r,.cons v t=>.cons (by
   obtain⟨a,rfl,e⟩:=q
   cases v
   obtain⟨its,rv,p,_⟩:=I.tuple (SqT.of e)
   exact⟨a,its,rfl,p,rv⟩) (Zc3 I r t)
theorem Mg {zs:List V}{us:List Value}(r:Vals zs us):∀l:List Nat,Vals (l.map fun i=>zs.getD i .non) (l.map fun i=>us.getD i Value.none)
 |[]=>.nil
 |i::l=>.cons (by
   by_cases h:i<zs.length
   ·obtain⟨u,e1,e2⟩:=r.get (List.getElem?_eq_getElem h)
    dsimp only
    rw[List.getD_eq_getElem?_getD,List.getD_eq_getElem?_getD,e1,List.getElem?_eq_getElem h]
    exact e2
   ·have h1:zs[i]?=none:=List.getElem?_eq_none_iff.mpr (by lia)
    have h2:us[i]?=none:=r.none_of h1
    dsimp only
    rw[List.getD_eq_getElem?_getD,List.getD_eq_getElem?_getD,h1,h2]
    exact rfl) (Mg r l)
section
variable {X:Cx}{E:XK}
def Ev:CallR X (.builtin "sorted") (fun xs H Q=>∃(t:Bool) (p:Addr) (zs:List V) (ys:List (List V)) (q:Array Nat),xs=[.ref p]/\S5 t X.K H p zs/\RowsT H zs ys/\2<=zs.length/\zs.length<64/\(ys.all N2||ys.all N3)=true /\
  Wp (Lh ys) (kas_sort zs.length)=some q/\∀l,H l=none->Q (.ref l) (upd H l (.lst (q.toList.map fun i=>zs.getD i .non)))):=by
 intro pins s σ H xs us Q I r h
 obtain⟨t,p,zs,ys,q,rfl,hp,hr,h2,h64,hh,hq,k⟩:=h
 obtain⟨u,rfl,rx⟩:=Wh r
 cases rx
 obtain⟨its,rv,pl⟩:=Uf I hp
 have hl:=rv.length
 have rows:=Zc3 I hr rv
 have kind:∃o:Bool,∀A' E' h',(∀b o,s.heap.get? b=some o->h'.get? b=some o)->∀Q:SortKind->Shared->Prop,Q (tuples' o) {s with heap:=h'}->wpAny (model X.prog X.w) A' (keyKind' its.toArray) Q E' {s with heap:=h'}:=by
  rcases Bool.or_eq_true _ _▸hh with hh|hh
  ·refine⟨Value.type "str" != Value.type "tuple", fun A' E' h' e Q hQ=>?_⟩
   obtain⟨fs,k1,k2,k3⟩:=(rows.mono e).firstS hh
   exact kat_kind (s:={s with heap:=h'}) (T:=Value.type "str") k1 (by lia) (fun v hv=>by obtain⟨x,t,rfl⟩:=k2 v hv;exact Looks.of_pure rfl) (by rfl) hQ
  ·refine⟨Value.type "int" != Value.type "tuple", fun A' E' h' e Q hQ=>?_⟩
   obtain⟨fs,k1,k2,k3⟩:=(rows.mono e).firstI hh
   exact kat_kind (s:={s with heap:=h'}) (T:=Value.type "int") k1 (by lia) (fun v hv=>by obtain⟨x,t,rfl⟩:=k2 v hv;exact Looks.of_pure rfl) (by rfl) hQ
 obtain⟨o,kind⟩:=kind
 refine Zge (κ:=tuples' o) (q:=Lh ys) (p:=q) pl (by lia) (by lia) kind (fun A' h' e i j b C z c=>Zgg (s:={s with heap:=h'}) (rows.mono e) z c) (by rw[<-hl];exact hq) fun hz=>?_
 obtain⟨n,he⟩:=sortedAll_at s.heap its (q.toList.map fun i=>its.getD i Value.none).toArray
 refine⟨.ref (s.heap.objs.size+1),_,I.laid (t':=s.toks) (o:=.lst (q.toList.map fun i=>zs.getD i .non)) (fun b o e=>sortedAll_old e) (Nat.le_succ _) ?_,rfl,k _ (I.hok.fresh (Nat.le_succ _))⟩
 refine⟨?_,(q.toList.map fun i=>its.getD i Value.none),n,Mg rv _,by simpa using he⟩
 rw[List.length_map,Array.length_toList,hz,sizeLine_eq]
 lia
def Cs:CallR X (.builtin "sorted") (fun xs H Q=>(∃(t:Bool) (p:Addr) (zs:List V),xs=[.ref p]/\S5 t X.K H p zs/\zs.length<2/\∀l,H l=none->Q (.ref l) (upd H l (.lst zs))) \/
  ∃(t:Bool) (p:Addr) (zs:List V) (ys:List (List V)) (q:Array Nat),xs=[.ref p]/\S5 t X.K H p zs/\RowsT H zs ys/\2<=zs.length/\zs.length<64/\(ys.all N2||ys.all N3)=true /\
  Wp (Lh ys) (kas_sort zs.length)=some q/\∀l,H l=none->Q (.ref l) (upd H l (.lst (q.toList.map fun i=>zs.getD i .non)))):=by
 intro pins s σ H xs us Q I r h
 rcases h with h|h
 ·obtain⟨t,p,zs,rfl,hp,h2,k⟩:=h
  obtain⟨u,rfl,rx⟩:=Wh r
  cases rx
  obtain⟨its,rv,pl⟩:=Uf I hp
  have hl:=rv.length
  refine Zgf pl (by lia) ?_
  obtain⟨n,he⟩:=sortedAll_at s.heap its its.toArray
  refine⟨.ref (s.heap.objs.size+1),_,I.laid (t':=s.toks) (o:=.lst zs) (fun b o e=>sortedAll_old e) (Nat.le_succ _) ?_,rfl,k _ (I.hok.fresh (Nat.le_succ _))⟩
  refine⟨?_,its,n,rv,by simpa using he⟩
  rw[sizeLine_eq]
  lia
 ·exact Ev _ _ _ _ _ _ _ I r h
def Zc4:D->Option V
 |.int i=>some (.int i)
 |.str x=>some (.str x)
 |_=>none
def Br:List D->Option (List V)
 |[]=>some []
 |d::r=>match Zc4 d,Br r with
  |some v,some vs=>some (v::vs)
  |_,_=>none
def S6:List D->Option (List (List V))
 |[]=>some []
 |.tup ds::r=>match Br ds,S6 r with
  |some v,some vs=>some (v::vs)
  |_,_=>none
 |_::_=>none
def Zar {K:PySem.W.Frag}{H:Hp}{d:D}{v x:V}(e:Zc4 d=some v)(r:Rep K H d x):x=v:=by
 unfold Zc4 at e
 split at e
 ·cases e;exact rep_int.mp r
 ·cases e;exact rep_str.mp r
 ·cases e
theorem Ru {K:PySem.W.Frag}{H:Hp}:∀{ds:List D}{vs xs:List V},Br ds=some vs->Reps K H ds xs->xs=vs
 |[],vs,xs,e,r=>by
  cases e
  exact reps_nil.mp r
 |d::ds,vs,xs,e,r=>by
  obtain⟨x,t,rfl,h1,h2⟩:=reps_cons.mp r
  unfold Br at e
  split at e
  ·rename_i a b ea eb
   cases e
   rw[Zar ea h1,Ru eb h2]
  ·cases e
theorem S7 {K:PySem.W.Frag}{H:Hp}:∀{ds:List D}{ys:List (List V)}{xs:List V},S6 ds=some ys->Reps K H ds xs->RowsT H xs ys
 |[],ys,xs,e,r=>by
  cases e
  rw[reps_nil.mp r]
  exact .nil
 |d::ds,ys,xs,e,r=>by
  obtain⟨x,t,rfl,h1,h2⟩:=reps_cons.mp r
  cases d with
  |tup es=>
   unfold S6 at e
   split at e
   ·rename_i a b ea eb
    cases e
    obtain⟨p,us,rfl,hp,hr⟩:=rep_tup.mp h1
    have:=Ru ea hr
    subst this
    exact .cons ⟨p,rfl,hp⟩ (S7 eb h2)
   ·cases e
  |_=>cases e
def RowsT.mono {H H':Hp}{xs:List V}{ys:List (List V)}(e:Same H H')(r:RowsT H xs ys):RowsT H' xs ys:=Paired.mapP r fun _ _ q=>by
 obtain⟨a,h1,h2⟩:=q
 exact⟨a,h1,e _ _ h2⟩
theorem Mh {K:PySem.W.Frag}{H:Hp}{ds:List D}{zs:List V}(r:Reps K H ds zs):∀l:List Nat,Reps K H (l.map fun i=>ds.getD i .non) (l.map fun i=>zs.getD i .non)
 |[]=>Reps.nil
 |i::l=>Reps.cons (by
   by_cases h:i<ds.length
   ·obtain⟨x,e1,e2⟩:=r.get (List.getElem?_eq_getElem h)
    dsimp only
    rw[List.getD_eq_getElem?_getD,List.getD_eq_getElem?_getD,e1,List.getElem?_eq_getElem h]
    exact e2
   ·have h1:ds[i]?=none:=List.getElem?_eq_none_iff.mpr (by lia)
    have h2:zs[i]?=none:=r.none_of h1
    dsimp only
    rw[List.getD_eq_getElem?_getD,List.getD_eq_getElem?_getD,h1,h2]
    exact rep_non.mpr rfl) (Mh r l)
def Bs (ds:List D):M D:=match S6 ds with
 |some ys=>if 2<=ds.length/\ds.length<64/\(ys.all N2||ys.all N3)=true then(match Wp (Lh ys) (kas_sort ds.length) with
   |some p=>.ok (.lst (p.toList.map fun i=>ds.getD i .non))
   |none=>.bad) else .bad
 |none=>.bad
def P4 (ds:List D):M D:=if ds.length<2 then .ok (.lst ds) else Bs ds
def S8:List D->M D
 |[.lst ds]=>P4 ds
 |[.tup ds]=>P4 ds
 |_=>.bad
def Zas {t:Bool}{Hf H:Hp}{p:Addr}{zs:List V}{ds:List D}{Q:VK}(e:Same Hf H)(hp:S5 t X.K Hf p zs)(hr:Reps X.K Hf ds zs)(q:Po X.K E (rV X.K) Hf H (Bs ds) Q):
  ∃(t:Bool) (p':Addr) (zs:List V) (ys:List (List V)) (q:Array Nat),[V.ref p]=[V.ref p']/\S5 t X.K H p' zs/\RowsT H zs ys/\2<=zs.length/\zs.length<64/\(ys.all N2||ys.all N3)=true /\
  Wp (Lh ys) (kas_sort zs.length)=some q/\∀l,H l=none->Q (.ref l) (upd H l (.lst (q.toList.map fun i=>zs.getD i .non))):=by
 unfold Bs at q
 have hl:=hr.length
 split at q
 ·rename_i ys ey
  split at q
  ·rename_i hc
   split at q
   ·rename_i a ea
    exact⟨t,p,zs,ys,a,rfl,Jr e hp,(S7 ey hr).mono e,by lia,by lia,hc.2.2,by rw[<-hl];exact ea,fun l hl=>q _ _ _ (Gr.alloc e hl _) (Gr.lst e hl (Mh hr _))⟩
   ·exact q.elim
  ·exact q.elim
 ·exact q.elim
def Mi {t:Bool}{Hf H:Hp}{p:Addr}{zs:List V}{ds:List D}{Q:VK}(e:Same Hf H)(hp:S5 t X.K Hf p zs)(hr:Reps X.K Hf ds zs)(q:Po X.K E (rV X.K) Hf H (P4 ds) Q):
  (∃(t:Bool) (p':Addr) (zs:List V),[V.ref p]=[V.ref p']/\S5 t X.K H p' zs/\zs.length<2/\∀l,H l=none->Q (.ref l) (upd H l (.lst zs))) \/
  ∃(t:Bool) (p':Addr) (zs:List V) (ys:List (List V)) (q:Array Nat),[V.ref p]=[V.ref p']/\S5 t X.K H p' zs/\RowsT H zs ys/\2<=zs.length/\zs.length<64/\(ys.all N2||ys.all N3)=true /\
  Wp (Lh ys) (kas_sort zs.length)=some q/\∀l,H l=none->Q (.ref l) (upd H l (.lst (q.toList.map fun i=>zs.getD i .non))):=by
 unfold P4 at q
 split at q
 ·rename_i h
  have hl:=hr.length
  exact .inl ⟨t,p,zs,rfl,Jr e hp,by lia,fun l hl=>q _ _ _ (Gr.alloc e hl _) (Gr.lst e hl hr)⟩
 ·exact .inr (Zas e hp hr q)
def Zc5:Wj X E (.builtin "sorted") S8:=by
 refine⟨_,Cs,fun Hf H xs ds Q e r q=>?_⟩
 unfold S8 at q
 split at q
 ·obtain⟨x,rfl,h⟩:=K4 r
  obtain⟨p,ys,rfl,hp,hr⟩:=rep_lst.mp h
  exact Mi (t:=false) e hp hr q
 ·obtain⟨x,rfl,h⟩:=K4 r
  obtain⟨p,ys,rfl,hp,hr⟩:=Qu h
  exact Mi (t:=true) e hp hr q
 ·exact q.elim
variable {e:Expr}{x:Str}{pos p2:Pos}{a:Addr}{cs:List V}{f:Zl->M D}
end
section
variable {q:Nat->Nat->Option Bool}{n:Nat}
theorem Mj {α β:Type}{f:α->KasT β}:∀t:KasT α,Wp q (t.bind f)=(Wp q t).bind fun a=>Wp q (f a)
 |.ret _=>rfl
 |.ask i j k=>by
  have e1:∀{γ:Type} (k:Bool->KasT γ),Wp q (.ask i j k)=(q i j).bind fun b=>Wp q (k b):=fun k=>by
   rw[Wp]
   cases q i j<;>rfl
  have e2:(KasT.ask i j k).bind f=.ask i j fun b=>(k b).bind f:=rfl
  rw[e2,e1,e1]
  cases q i j with
  |none=>rfl
  |some b=>exact Mj (k b)
def Rn (q:Nat->Nat->Option Bool){α:Type}(t:KasT α)(P:α->Prop):Prop:=∃a,Wp q t=some a/\P a
theorem Rn.bind {α β:Type}{t:KasT α}{f:α->KasT β}{P:α->Prop}{Q:β->Prop}(h:Rn q t P)(k:∀a,P a->Rn q (f a) Q):Rn q (t.bind f) Q:=by
 obtain⟨a,e,p⟩:=h
 obtain⟨b,e2,p2⟩:=k a p
 exact⟨b,by rw[Mj,e];exact e2,p2⟩
theorem Rn.ret {α:Type}{a:α}{P:α->Prop}(h:P a):Rn q (.ret a) P:=⟨a,rfl,h⟩
def Gp (n:Nat)(p:Array Nat):Prop:=p.Perm (List.toArray (List.range n))
def Gp.at {p:Array Nat}(h:Gp n p)(n0:0<n)(i:Nat):p.getD i 0<n:=by
 rw[Array.getD_eq_getD_getElem?]
 cases e:p[i]? with
 |none=>exact n0
 |some x=>
  have:=h.mem_iff.mp (Array.mem_of_getElem? e)
  simpa using this
def Gp.rev {p:Array Nat}(h:Gp n p)(i j:Nat):Gp n (kas_rev p i j):=(mirror_perm _ _ _ _).trans h
section
variable (n0:0<n) (ht:∀i j,i<n->j<n->∃b,q i j=some b)
theorem Rn.ask {α:Type}{i j:Nat}{k:Bool->KasT α}{P:α->Prop}(hi:i<n)(hj:j<n)(ht:∀i j,i<n->j<n->∃b,q i j=some b)(h:∀b,Rn q (k b) P):Rn q (.ask i j k) P:=by
 obtain⟨b,e⟩:=ht i j hi hj
 obtain⟨a,e2,p⟩:=h b
 refine⟨a,?_,p⟩
 unfold Wp
 rw[e]
 exact e2
include n0 ht
theorem Ew {p:Array Nat}(h:Gp n p):∀f k,Rn q (kas_asc p f k) fun _=>True
 |0,k=>.ret trivial
 |f+1,k=>by
  refine .ask (h.at n0 _) (h.at n0 _) ht fun c=>?_
  cases c
  ·exact Ew h f (k+1)
  ·exact .ret trivial
theorem Sf:∀f (p:Array Nat) k r,Gp n p->Rn q (kas_desc f p k r) fun a=>Gp n a.1
 |0,p,k,r,h=>.ret h
 |f+1,p,k,r,h=>by
  refine .ask (h.at n0 _) (h.at n0 _) ht fun c=>?_
  cases c
  ·refine .ask (h.at n0 _) (h.at n0 _) ht fun d=>?_
   cases d
   ·exact Sf f p _ _ h
   ·exact .ret h
  ·show Rn q (if r > 0 then _ else _) _
   split
   ·exact Sf f _ _ _ (h.rev _ _)
   ·exact Sf f _ _ _ h
def Hr {p:Array Nat}(h:Gp n p)(k m:Nat):Rn q (kas_tail3 k m p) fun a=>Gp n a.2:=(Ew n0 ht (h.rev _ _) _ _).bind fun _ _=>.ret (h.rev _ _)
def Ht {p:Array Nat}(h:Gp n p)(k m:Nat):Rn q (kas_descPart k m p) fun a=>Gp n a.2:=(Sf n0 ht _ _ _ _ h).bind fun r hr=>by
 split
 ·exact Hr n0 ht (Gp.rev hr _ _) _ _
 ·exact Hr n0 ht hr _ _
def Zc6 {p:Array Nat}(h:Gp n p)(m:Nat):Rn q (kas_count m p) fun a=>Gp n a.2:=(Ew n0 ht h _ _).bind fun k _=>by
 split
 ·exact .ret h
 ·split
  ·refine .ask (h.at n0 _) (h.at n0 _) ht fun c=>?_
   cases c
   ·exact Ht n0 ht (h.rev _ _) _ _
   ·exact .ret h
  ·exact Ht n0 ht h _ _
theorem S9 {p:Array Nat}(h:Gp n p)(k:Nat):∀f l r,Rn q (kas_place p k f l r) fun _=>True
 |0,l,r=>.ret trivial
 |f+1,l,r=>by
  unfold kas_place
  split
  ·exact .ret trivial
  ·refine .ask (h.at n0 _) (h.at n0 _) ht fun c=>?_
   cases c
   ·exact S9 h k f _ _
   ·exact S9 h k f _ _
theorem Zc7:∀f (p:Array Nat) k,Gp n p->Rn q (kas_bin f p k) fun p=>Gp n p
 |0,p,k,h=>.ret h
 |f+1,p,k,h=>(S9 n0 ht h k _ _ _).bind fun l _=>Zc7 f _ _ ((bubble_perm _ _ _).trans h)
def Zgh:Rn q (kas_sort n) fun p=>Gp n p:=(Zc6 n0 ht (Array.Perm.refl _) _).bind fun r hr=>by
 split
 ·exact Zc7 n0 ht _ _ _ hr
 ·exact .ret hr
end
end
def Ex {ds:List D}{ys:List (List V)}(hr:S6 ds=some ys)(hl:ds.length<64)(hh:(ys.all N2||ys.all N3)=true)(hy:ys.length=ds.length)(hc:∀x∈ys,∀y∈ys,x.length=y.length/\∃b,Zgd x y=some b):∃es:List D,es.Perm ds/\S8 [.lst ds]=.ok (.lst es):=by
 show ∃es:List D,es.Perm ds/\P4 ds=.ok (.lst es)
 unfold P4
 by_cases h2:ds.length<2
 ·exact⟨ds,List.Perm.refl _,if_pos h2⟩
 ·rw[if_neg h2]
  obtain⟨p,e,hp⟩:=Zgh (q:=Lh ys) (n:=ds.length) (by lia) fun i j hi hj=>by
   unfold Lh
   rw[List.getElem?_eq_getElem (by lia),List.getElem?_eq_getElem (by lia)]
   obtain⟨e,b,h⟩:=hc ys[i] (List.getElem_mem _) ys[j] (List.getElem_mem _)
   exact⟨b,by dsimp only;rw[if_pos e,h]⟩
  refine⟨p.toList.map fun i=>ds.getD i .non,?_,?_⟩
  ·have h1:p.toList.Perm (List.range ds.length):=by
    have:=Array.perm_iff_toList_perm.mp hp
    simpa using this
   have h3:=h1.map fun i=>ds.getD i D.non
   refine h3.trans (List.Perm.of_eq ?_)
   apply List.ext_getElem?
   intro i
   rw[List.getElem?_map]
   by_cases hi:i<ds.length
   ·rw[List.getElem?_range hi,List.getElem?_eq_getElem hi]
    simp[hi]
   ·rw[List.getElem?_eq_none (by rw[List.length_range];lia),List.getElem?_eq_none (by lia)]
    rfl
  ·unfold Bs
   rw[hr]
   dsimp only
   rw[if_pos ⟨by lia,hl,hh⟩,e]
end DL
namespace DL
open PySem PySem.Spec PySem.Calls PySem.Builtin PySem.Builtin.ObjectAttr PyProof.Rows L2 PySem.W
def Ct (i:Nat){X:Cx}{E:XK}{pos py spos:Pos}{tg elt iter:Expr}{scope:Scope}{Nc:List Str}{n0:Nat}{caps:List Nat}{cl:List (Str×Addr)}{fi:Zl->M (List D)}{gt:D->Zl->M Zl}{fe:Zl->M D}{y:Str}(hN:X.N.Nodup)(hc:X.calm=true)(hclos:closureFor scope X.env=pure cl)(cap:CapOk X Nc n0 caps scope cl)(hkind:scope.kind=.function)(hcell:∀y∈scope.names,y.2≠.cell)(hnames:∀y∈scope.names,y.2=.local->scope.names.lookup y.1=some .local)(hk:Zj6 n0 gt)(hi:Zj1 X E tg iter fi)(hg:∀s3 H3 C ex,Zjy (Ww X Nc scope cl s3 H3 C ex) tg gt)(he:∀s3 H3 C ex,X4 (Ww X Nc scope cl s3 H3 C ex) E0 elt fe)(hs:∀x,foldedSetIterable iter X.env x=pure x:=by intro _;rfl)(hy:X.N[i]?=some y:=by rfl)(hloc:Zbw X.env.scope y:=by trivial)(hfy:X.fn y=true\/X.env.scope.names.lookup y=some .local:=by first|exact .inl rfl|exact .inr rfl)(hsw:swapsWith (.ListComp elt [⟨tg,iter,[],0⟩] scope pos) (some (.Name y py)) spos.line X.env=pure true:=by rfl):
  Ss X E (.Assign [.Name y py] (.ListComp elt [⟨tg,iter,[],0⟩] scope pos) spos) (Z4 i (G8 (X6 fi n0 caps gt fe))):=by
 refine⟨fun D' σ H=>∃H0 B Hf sd,SR X.K H0 B Hf sd σ H/\PoS X.K E H0 B Hf (Z4 i (G8 (X6 fi n0 caps gt fe)) sd) D',?_,fun H0 B Hf sd σ H D' sr h=>⟨H0,B,Hf,sd,sr,h⟩⟩
 rintro pins s σ H D' I ⟨H0,B,Hf,sd,sr,h⟩
 obtain⟨wi,pw,qw⟩:=hi
 rw[exec_Assign_Name_used _ _ _ _ hsw]
 refine wpAny_bind (wpAny_standAt (wpAny_bind ?_))
 show wpAny _ _ (do let _ <-comprehension (.ListComp elt [⟨tg,iter,[],0⟩] scope pos) scope X.env _ (newList []) false (eval iter X.env) (some (assign (.Name y py) X.env))) _ _ s
 refine wpAny_bind (wpAny_mono (wpAny_comprehension_free (use:=some (assign (.Name y py) X.env)) (Q:=fun _ s'=>SP X pins D' .next s') rfl hs hclos hkind hnames ?_) (fun _ s' hq=>wpAny_pure (wpAny_pure hq)) fun _ _ e=>e)
 have h':PoS X.K E H0 B Hf ((fi sd).bind fun ds=>(if few ds then V8 gt fe (Wn n0 caps sd) ds else .bad).bind fun es=>.ok (.nx (sd.set i (some (.im (.lst es)))))) D':=by
  unfold Z4 G8 X6 at h
  cases q:fi sd with
  |ok ds=>
   rw[q] at h
   rw[M.bind_ok] at h ⊢
   cases q2:(if few ds then V8 gt fe (Wn n0 caps sd) ds else M.bad) with
   |ok es=>rw[q2] at h;exact h
   |ex x=>rw[q2] at h;exact h
   |bad=>rw[q2] at h;exact h
  |ex x=>rw[q] at h;exact h
  |bad=>rw[q] at h;exact h
 have step:=pw pins s σ H (fun J H2=>∃ds Hf2,Gr Hf H Hf2 H2/\R5 X.K Hf2 H2 ds J/\PoS X.K E H0 B Hf2 ((if few ds then V8 gt fe (Wn n0 caps sd) ds else .bad).bind fun es=>.ok (.nx (sd.set i (some (.im (.lst es)))))) D') I
  (qw H0 B Hf sd σ H _ sr (PoS.bind sr h' fun ds J Hf2 H2 _ g2 _ jok h2=>⟨ds,Hf2,g2,jok,h2⟩))
 refine Xi step fun v s1 h1=>Xi h1 fun itv s2 h2=>?_
 obtain⟨it,fp,tn,J,H2,rfl,I2,T,st2,f2,ds,Hf2,g2,jok,hq⟩:=h2
 have sr2:=sr.gr g2
 split at hq
 case isFalse=>exact hq.elim
 case isTrue hfew=>
 have fresh:H2 s2.heap.objs.size=none:=I2.hok.fresh (Nat.le_refl _)
 have holdf:∀b∈fp,∃o,s2.heap.get? b=some o:=fun b hb=>let ⟨o,e,_⟩:=T.obj 0 _ st2 b hb;⟨o,e⟩
 refine wpAny_newObj_type (wpAny_newFunctionEnv hcell (by intro y hy;simp at hy) (fun h₁ hns₁ hsb₁=>?_) hkind)
 have hC:(s2.heap.push Yl).objs.size=s2.heap.objs.size+1:=Heap.size_push _ _
 have hns:h₁.Ns (s2.heap.objs.size+1) (fun x=>([]:List (Str×Value)).reverse.lookup x):=hC▸hns₁
 have hsb:Heap.SameBut (s2.heap.objs.size+1) ((s2.heap.push Yl).push {cls:=.type "dict", data:=.dict #[]}) h₁:=hC▸hsb₁
 have hold1:∀b o,s2.heap.get? b=some o->h₁.get? b=some o:=fun b o e=>by
  have hb:b<s2.heap.objs.size:=Heap.lt_size e
  exact(hsb.2 b (Nat.ne_of_lt (Nat.lt_succ_of_lt hb))).trans (Heap.get?_push_of_some _ (Heap.get?_push_of_some _ e))
 have hD:h₁.get? s2.heap.objs.size=some Yl:=(hsb.2 _ (Nat.ne_of_lt (Nat.lt_succ_self _))).trans (Heap.get?_push_of_some _ (Heap.get?_push_size _ rfl))
 have J0:=Ci I2 f2 holdf hkind cap (tk:=s2.toks+([]:List (Str×Value)).length) hns hold1 hD
 have hg:=hg {s2 with heap:=s2.heap.push Yl} (upd H2 s2.heap.objs.size (.lst [])) (s2.heap.objs.size+1) fp
 have he:=he {s2 with heap:=s2.heap.push Yl} (upd H2 s2.heap.objs.size (.lst [])) (s2.heap.objs.size+1) fp
 generalize hXc:Ww X Nc scope cl {s2 with heap:=s2.heap.push Yl} (upd H2 s2.heap.objs.size (.lst [])) (s2.heap.objs.size+1) fp=Xc at J0 hg he
 have eP:Xc.prog=X.prog:=by subst hXc;rfl
 have eW:Xc.w=X.w:=by subst hXc;rfl
 have eK:Xc.K=X.K:=by subst hXc;rfl
 have eA:Xc.A=X.A:=by subst hXc;rfl
 have eX:Xc.xe=fun _ _=>False:=by subst hXc;rfl
 have eE:Xc.env=compEnvC scope cl (s2.heap.objs.size+1) X.env:=by subst hXc;rfl
 have eC:Xc.calm=true:=by subst hXc;exact hc
 have fpc:∀{H':Hp},(∀b∈fp,H' b=none)->∀b∈fp,Ry Xc [] H' b:=fun {H'} hn b hb=>by
  subst hXc
  obtain⟨f0,f1,f2',f3,f4,f5⟩:=f2 b hb
  obtain⟨o,eo⟩:=holdf b hb
  refine⟨hn b hb,Nat.ne_of_lt (Nat.lt_succ_of_lt (Heap.lt_size eo)),fun hz=>?_,.inl hb,fun x c e=>f4 x c (cap.sub x c e),fun p hp=>absurd (show p∈([]:List (Addr×Obj)) from hp) (by simp)⟩
  rcases List.mem_cons.mp (I2.stkSub b hz) with e|hz
  ·exact f1 e
  ·exact f2' hz
 have nfp:∀b∈fp,b≠s2.heap.objs.size:=fun b hb=>by
  obtain⟨o,eo⟩:=holdf b hb
  exact Nat.ne_of_lt (Heap.lt_size eo)
 obtain⟨tg',pg,qg⟩:=hg
 obtain⟨te,pe,qe⟩:=he
 have loop:∀s₃:Shared,s₃={s2 with heap:=h₁,toks:=s2.toks+([]:List (Str×Value)).length} ->
   codeAny (model X.prog X.w) X.A (.compLoop (.ListComp elt [⟨tg,iter,[],0⟩] scope pos) 0 (.ref it) (.ref s2.heap.objs.size) (compEnvC scope cl (s2.heap.objs.size+1) X.env))
    (compPost (model X.prog X.w) X.A X.xe (some (assign (.Name y py) X.env)) (fun _ s'=>SP X pins D' .next s') (.ref s2.heap.objs.size) (s2.heap.objs.size+1)) s₃:=by
  rintro s₃ rfl
  refine Uu (fun n s'=>∃k vs es H' Hf' σ',n=ds.length-k/\k<=ds.length/\Inv Xc [] σ' H' s'/\tn k s'.heap/\(∀b∈fp,H' b=none) /\
   H' s2.heap.objs.size=some (.lst vs)/\Hf' s2.heap.objs.size=none/\Gr Hf2 H2 Hf' H'/\Reps X.K Hf' es vs/\vs.length=k /\
   (Wn n0 caps sd).length=σ'.length/\(∀(j:Nat) (d:D),(Wn n0 caps sd)[j]?=some (some (.im d))->∃v,σ'[j]?=some (some v)/\Rep X.K Hf' d v) /\
   PoS X.K E H0 B Hf2 ((V8 gt fe (Wn n0 caps sd) (ds.drop k)).bind fun fs=>.ok (.nx (sd.set i (some (.im (.lst (es++fs))))))) D') ?_ ds.length ?_
  ·rintro n s' ⟨k,vs,es,H',Hf',σ',rfl,hil,J1,st1,fr1,hd1,hf1,g1,rs1,hl1,hlen1,him1,hq1⟩
   have jj:=jok k Hf' H' g1.fz g1.sub
   cases q:ds[k]? with
   |none=>
    rw[q] at jj
    have tdone:=T.done Xc eP eW eK eC k [] s' _ H' (fun _ _=>False) J1 (fpc fr1) st1 jj
    rw[eA] at tdone
    refine wpAny_mono tdone (fun r s4 hr=>?_) fun _ _ z=>z
    obtain⟨rfl,J4⟩:=hr
    rw[List.drop_eq_nil_of_le (List.getElem?_eq_none_iff.mp q)] at hq1
    subst hXc
    obtain⟨m,hn4,_⟩:=J4.loc
    have I4:Inv X pins σ H' s4:=Mb I2 f2 J4 (h':=s4.heap) ⟨rfl,fun _ _=>rfl⟩
    have fC:Fresh X pins (s2.heap.objs.size+1):=Zcz I2 (Nat.le_succ _)
    have nC:H' (s2.heap.objs.size+1)=none:=J4.free
    show wpAny (model X.prog X.w) X.A (assign (.Name y py) X.env (.ref s2.heap.objs.size)) _ _ s4
    refine wpAny_assign_Name (Lx (v:=.ref s2.heap.objs.size) I4 hN hy hloc rfl (fun s5 I5 hw=>?_) hfy)
    obtain⟨a5,sb5,ha5⟩:=hw
    have neC:s2.heap.objs.size+1≠a5:=by
     rcases ha5 with e|e
     ·rw[e];exact fC.nl
     ·exact(fC.nc _ _ e).symm
    refine⟨m,hn4.sameBut sb5 neC,fun h6 sb6=>?_⟩
    have I6:Inv X pins (σ.set i (some (.ref s2.heap.objs.size))) H' {s5 with heap:=h6}:=Zj9 (a:=s2.heap.objs.size+1) (T:=s2.heap.objs.size+1) I5 ⟨fun b o n1 n2 _ e=>(sb6.2 b n1).trans e,fun b o n1 n2 e=>⟨o.slots,(sb6.2 b n1).trans e⟩⟩ nC nC fC fC
    have hq2:PoS X.K E H0 B Hf2 (.ok (.nx (sd.set i (some (.im (.lst es)))))) D':=by
     have:es++([]:List D)=es:=List.append_nil es
     rw[<-this];exact hq1
    have g:Gr Hf2 H2 (upd Hf' s2.heap.objs.size (.lst vs)) H':=by
     refine⟨g1.fz.trans (Qw hf1 _),fun b u z=>?_,g1.all,fun a h1 h2=>?_⟩
     ·by_cases hb:b=s2.heap.objs.size
      ·subst hb;rw[Z2] at z;rw[hd1];exact z
      ·rw[Zp hb] at z;exact g1.sub b u z
     ·have:a≠s2.heap.objs.size:=fun z=>h1.nn (z▸fresh)
      rw[Zp this];exact g1.ban a h1 h2
    exact⟨_,H',I6,hq2 _ _ H' g.fz ((sr2.gr g).set_im i (rep_lst.mpr ⟨_,vs,rfl,SqL.of Z2,rs1.mono (Qw hf1 _)⟩))⟩
   |some d=>
    rw[q] at jj
    obtain⟨go,yl⟩:=jj
    have hlt:k<ds.length:=(List.getElem?_eq_some_iff.mp q).1
    have hdr:ds.drop k=d::ds.drop (k+1):=by
     rw[List.drop_eq_getElem_cons hlt]
     congr 1
     exact(List.getElem?_eq_some_iff.mp q).2
    obtain⟨sd1,e1,eg,ee,hq2⟩:∃sd1 e1,gt d (Wn n0 caps sd)=.ok sd1/\fe sd1=.ok e1/\PoS X.K E H0 B Hf2 ((V8 gt fe (Wn n0 caps sd) (ds.drop (k+1))).bind fun fs=>.ok (.nx (sd.set i (some (.im (.lst ((es++[e1])++fs))))))) D':=by
     rw[hdr] at hq1
     unfold V8 at hq1
     split at hq1
     ·rename_i sd1 eg
      split at hq1
      ·rename_i e1 ee
       refine⟨sd1,e1,eg,ee,?_⟩
       cases em:V8 gt fe (Wn n0 caps sd) (ds.drop (k+1)) with
       |ok fs=>
        rw[em] at hq1
        have:(es++[e1])++fs=es++e1::fs:=by simp
        rw[M.bind_ok,this]
        exact hq1
       |ex x=>exact(Mc em).elim
       |bad=>rw[em] at hq1;exact hq1.elim
      ·exact hq1.elim
     ·exact hq1.elim
    have titem:=T.item Xc eP eW eK eC k [] s' _ H' (fun _ _=>False) J1 (fpc fr1) st1 go
    rw[eA] at titem
    refine wpAny_mono titem (fun r s4 hr=>?_) fun _ _ z=>z
    obtain⟨u,rfl,h4⟩:=hr
    refine wpAny_mono h4 (fun _ s5 h5=>?_) fun _ _ z=>z
    obtain⟨x,H5,J5,r5,y5,st5,fr5⟩:=h5
    obtain⟨Hf5,g5,rx⟩:=yl x H5 y5
    have J5':=J5.pinned (fpc fr5) (T.obj _ _ st5)
    have hD5:H5 s2.heap.objs.size=some (.lst vs):=g5.all _ _ hd1
    have hf5:Hf5 s2.heap.objs.size=none:=g5.ban _ (Lv.lst hd1) hf1
    have him5:∀(j:Nat) (d:D),(Wn n0 caps sd)[j]?=some (some (.im d))->∃v,σ'[j]?=some (some v)/\Rep X.K Hf5 d v:=fun j d z=>let ⟨v,z1,z2⟩:=him1 j d z;⟨v,z1,z2.mono g5.fz⟩
    have sr5:SR Xc.K H5 (fun a=>Lv H5 a/\Hf5 a=none) Hf5 (Wn n0 caps sd) σ' H5:=eK▸SR.ofIm g5.sub hlen1 him5 Zcq
    obtain⟨kl,kk,kn⟩:=hk d _ sd1 eg
    have hg2:=pg _ s5 σ' H5 x u (fun σ6 H6=>te σ6 H6 fun v7 H7=>∃Hf7,Gr Hf5 H5 Hf7 H7/\Rep X.K Hf7 e1 v7/\(Wn n0 caps sd).length=σ6.length/\(∀(j:Nat) (d:D),(Wn n0 caps sd)[j]?=some (some (.im d))->∃v,σ6[j]?=some (some v)/\Rep X.K Hf7 d v)) J5' r5
     (qg H5 _ Hf5 _ σ' H5 x d sd1 _ sr5 (eK▸rx) eg fun σ6 sr6=>qe H5 _ Hf5 sd1 σ6 H5 _ sr6 (by
      rw[ee]
      intro v7 Hf7 H7 g7 r7
      have r7:Rep Xc.K Hf7 e1 v7:=r7
      rw[eK] at r7
      refine⟨Hf7,g7,r7,by rw[<-kl];exact sr6.len,fun j d z=>?_⟩
      have z2:sd1[j]?=some (some (.im d)):=by rw[kk j (Eo z)];exact z
      obtain⟨v,z3,z4⟩:=sr6.im j d z2
      rw[eK] at z4
      exact⟨v,z3,z4.mono g7.fz⟩))
    rw[eP,eW,eA,eX,eE] at hg2
    refine wpAny_mono hg2 (fun _ s6 h6=>?_) fun _ _ z=>z
    obtain⟨σ6,H6,J6,q6⟩:=h6
    have he2:=pe _ s6 σ6 H6 _ J6 q6
    rw[eP,eW,eA,eX,eE] at he2
    refine wpAny_mono he2 (fun y s7 h7=>?_) fun _ _ z=>z
    obtain⟨v7,H7,J7,r7,Hf7,g7,rv7,hl7,him7⟩:=h7
    have hD7:H7 s2.heap.objs.size=some (.lst vs):=g7.all _ _ hD5
    have hf7:Hf7 s2.heap.objs.size=none:=g7.ban _ (Lv.lst hD5) hf5
    have happ:=Gi (X:=Xc) _ s7 σ6 H7 (.ref s2.heap.objs.size) [v7] (.ref s2.heap.objs.size) [y] (fun _ H8=>H8=upd H7 s2.heap.objs.size (.lst (vs++[v7]))) J7 rfl (.cons r7 .nil)
     ⟨_,vs,v7,rfl,rfl,hD7,by
      have h1:=of_decide_eq_true hfew
      have h2:=sizeLine_eq
      lia,rfl⟩
    rw[eP,eW,eA,eX] at happ
    refine wpAny_mono happ (fun _ s8 h8=>?_) fun _ _ z=>z
    obtain⟨_,H8,J8,_,e8⟩:=h8
    subst e8
    have g17:=(g1.trans g5).trans g7
    refine⟨ds.length-(k+1),by lia,k+1,vs++[v7],es++[e1],_,Hf7,σ6,rfl,hlt,J8.unpinned,?_,fun b hb=>?_,Z2,hf7,⟨g17.fz,fun b o z=>?_,fun b o z=>?_,g17.ban⟩,?_,by rw[List.length_append,hl1];rfl,hl7,him7,hq2⟩
    ·exact T.keep _ _ _ st5 fun b hb o e=>(J8.pin (b,o) (List.mem_append_right _ (List.mem_append_right _ (Ks hb e)))).1
    ·obtain⟨o,e,_⟩:=T.obj _ _ st5 b hb
     exact(J8.pin (b,o) (List.mem_append_right _ (List.mem_append_right _ (Ks hb e)))).2.1
    ·have:b≠s2.heap.objs.size:=Z9 z hf7
     rw[Zp this];exact g17.sub b o z
    ·have:b≠s2.heap.objs.size:=Z9 z fresh
     rw[Zp this];exact g17.all b o z
    ·exact(rs1.mono (g5.fz.trans g7.fz)).append (Reps.cons rv7 Reps.nil)
  ·refine⟨0,[],[],_,Hf2,_,by simp,Nat.zero_le _,J0,T.keep 0 _ _ st2 fun b hb o e=>hold1 b o e,fun b hb=>?_,Z2,g2.sub.free fresh,⟨Same.refl _,fun b o z=>?_,Qw fresh _,fun _ _ z=>z⟩,Reps.nil,rfl,?_,fun j d z=>?_,?_⟩
   ·rw[Zp (nfp b hb)];exact(f2 b hb).1
   ·have:b≠s2.heap.objs.size:=Z9 (g2.sub b o z) fresh
    rw[Zp this];exact g2.sub b o z
   ·unfold Wn;simp only[List.length_append,List.length_replicate,List.length_map]
   ·obtain⟨k,j',d',rfl,ej,es,ed⟩:=Ep z
    cases ed
    obtain⟨v,z1,z2⟩:=sr2.im j' d es
    refine⟨v,?_,z2⟩
    rw[List.getElem?_append_right (by simp),List.length_replicate,Nat.add_sub_cancel_left,List.getElem?_map,ej]
    simp[z1]
   ·rw[List.drop_zero]
    exact hq
 show codeAny (model X.prog X.w) X.A (.compStart (.ListComp elt [⟨tg,iter,[],0⟩] scope pos) 0 (.ref it) (.ref s2.heap.objs.size) (compEnvC scope cl (s2.heap.push Yl).objs.size X.env))
  (compPost (model X.prog X.w) X.A X.xe (some (assign (.Name y py) X.env)) (fun _ s'=>SP X pins D' .next s') (.ref s2.heap.objs.size) (s2.heap.push Yl).objs.size) {s2 with heap:=h₁,toks:=s2.toks+([]:List (Str×Value)).length}
 rw[hC]
 exact codeAny_compStart_list (loop _ rfl) (T.self X.A 0 _ _ _ (T.keep 0 _ _ st2 fun b hb o e=>hold1 b o e) (loop _ rfl))
end DL
namespace DL
open PySem PySem.Spec PyProof.Rows L2
theorem Ta {α β:Type}{F:α->β->Prop}:∀{l:List α}{m:List β},Paired F l m->∀{i:Nat}{a:α},l[i]?=some a->∃b,m[i]?=some b/\F a b
 |_,_,.nil,i,a,e=>by simp at e
 |_,_,.cons h t,0,a,e=>by simp at e;subst e;exact⟨_,rfl,h⟩
 |_,_,.cons h t,i+1,a,e=>by
  obtain⟨b,e1,e2⟩:=Ta t (i:=i) (by simpa using e)
  exact⟨b,by simpa using e1,e2⟩
section
variable {X:Cx}{E:XK}{pos p1 p2 pos':Pos}{key value:Expr}{x:Str}
def Zo1 {σ:L2.St}{i:Nat}{v:Option V}(hi:i≠0):(σ.set i v)[0]?=σ[0]?:=List.getElem?_set_ne hi
end
def Np (H:Hp)(a:Addr):Hp:=fun b=>if b=a then none else H b
def Vy (H:Hp)(a:Addr):Same (Np H a) H:=fun b u q=>by
 unfold Np at q
 split at q
 ·cases q
 ·exact q
def Vz (H:Hp)(a:Addr):Np H a a=none:=if_pos rfl
def Kk {H:Hp}{a b:Addr}(h:b≠a):Np H a b=H b:=if_neg h
structure GrM (a:Addr) (Hf H Hf' H':Hp):Prop where
 fz:Same Hf Hf'
 sub:Same Hf' H'
 all:∀b u,b≠a->H b=some u->H' b=some u
 ban:∀b,Lv H b->Hf b=none->Hf' b=none
def Zly (K:PySem.W.Frag)(Hf:Hp):List S->List V->Prop:=Paired fun s v=>s.own=false/\RepS K Hf s v
def Zm6 (K:PySem.W.Frag)(Hf _H:Hp)(ss:List S)(vs:List V):Prop:=Zly K Hf ss vs
def Zkd (X:Cx)(E:XK)(es:List Expr)(f:Zl->M (List S)):Prop:=
 ∃t:TA,PA X es t/\∀(H0:Hp) (B:Addr->Prop) (Hf:Hp) (sd:Zl) (σ:L2.St) (H:Hp) (Q:List V->Hp->Prop),SR X.K H0 B Hf sd σ H->Po X.K E (Zm6 X.K) Hf H (f sd) Q->t σ H Q
def Ni:S->Bool
 |.ob _ _ _=>true
 |.fl _ _ _=>true
 |_=>false
def K8 {s:S}(h:Ni s=true):s.own=false:=by
 cases s<;>first|rfl|cases h
def Cu (_:Zl):M (List S):=.ok []
def Wz (i:Nat)(fr:Zl->M (List S))(sd:Zl):M (List S):=match sd[i]? with
 |some (some s)=>if Ni s then(fr sd).bind fun ss=>.ok (s::ss) else .bad
 |_=>.bad
def Cv (fa:Zl->M D)(fr:Zl->M (List S))(sd:Zl):M (List S):=(fa sd).bind fun d=>(fr sd).bind fun ss=>.ok (.im d::ss)
section
variable {X:Cx}{E:XK}{pos p p1 p2 apos:Pos}{a:Expr}{es:List Expr}{x:Str}
def Bt:Zkd X E [] Cu:=⟨_,Jm,fun _ _ _ _ _ _ _ sr h=>Po.ret (R:=Zm6 X.K) sr.sub h .nil⟩
def Bu {fa:Zl->M D}{fr:Zl->M (List S)}(ha:X4 X E a fa)(hr:Zkd X E es fr)(hs:starEach (a::es) X.env=(false,eval a X.env)::starEach es X.env:=by rfl):Zkd X E (a::es) (Cv fa fr):=by
 obtain⟨ta,pa,qa⟩:=ha
 obtain⟨tr,pr,qr⟩:=hr
 refine⟨_,Qz pa pr hs,fun H0 B Hf sd σ H Q sr h=>?_⟩
 refine qa H0 B Hf sd σ H _ sr (Po.bind h fun d v Hf1 H1 _ g1 rv h1=>?_)
 refine qr H0 B Hf1 sd σ H1 _ (sr.gr g1) (Po.bind h1 fun ds vs Hf2 H2 _ g2 rs h2=>?_)
 exact Po.ret (R:=Zm6 X.K) g2.sub h2 (.cons ⟨rfl,Rep.mono g2.fz rv⟩ rs)
def Ug (i:Nat){fr:Zl->M (List S)}(hr:Zkd X E es fr)(hN:X.N[i]?=some x:=by rfl)(hv:Ld X.env.scope x:=by trivial) (hd:(x==("__debug__":Str))=false:=by decide)
  (hcd:(x==("__classdict__":Str))=false:=by decide) (hs:starEach (.Name x p::es) X.env=(false,eval (.Name x p) X.env)::starEach es X.env:=by rfl):Zkd X E (.Name x p::es) (Wz i fr):=by
 obtain⟨tr,pr,qr⟩:=hr
 refine⟨_,Qz (Qm hN hv hd hcd) pr hs,fun H0 B Hf sd σ H Q sr h=>?_⟩
 unfold Wz at h
 split at h
 ·rename_i s ei
  split at h
  ·rename_i ho
   obtain⟨v,e1,e2⟩:=sr.imS i s ei (K8 ho)
   refine⟨v,e1,qr H0 B Hf sd σ H _ sr (Po.bind h fun ss vs Hf1 H1 _ g1 rs h1=>?_)⟩
   exact Po.ret (R:=Zm6 X.K) g1.sub h1 (.cons ⟨K8 ho,e2.mono g1.fz⟩ rs)
  ·exact h.elim
 ·exact h.elim
end
def Rv (K:PySem.W.Frag)(F:List S->M S):Sp:=fun vs H Q _=>∃Hf ss s,Same Hf H/\Zly K Hf ss vs/\F ss=.ok s/\∀v Hf' H',Gr Hf H Hf' H'->RS K H Hf' H' s v->Q v H'
def Hu (n m:Nat)(f:Zl->M O)(ss:List S):M S:=if ss.length=n then R4 (f (ss.map some++List.replicate m none)) else .bad
def Gn {K:PySem.W.Frag}{N:List Str}{Hf H:Hp}{ss:List S}{vs:List V}{m:Nat}(e:Same Hf H)(r:Zly K Hf ss vs)(hN:N.length=ss.length+m):
  SR K H (fun a=>Lv H a/\Hf a=none) Hf (ss.map some++List.replicate m none) (L2.Jk N vs) H:=by
 have hlen:=Paired.length r
 have es:L2.Jk N vs=vs.map some++List.replicate m none:=by
  unfold L2.Jk
  rw[show N.length-vs.length=m by lia]
 rw[es]
 refine SR.ofS e (by simp[hlen]) fun i t h=>?_
 by_cases hl:i<ss.length
 ·rw[List.getElem?_append_left (by simpa using hl),List.getElem?_map] at h
  cases q:ss[i]? with
  |none=>rw[q] at h;cases h
  |some s=>
   rw[q] at h
   cases h
   obtain⟨v,e1,e2,e3⟩:=Ta r q
   have:i<vs.length:=(List.getElem?_eq_some_iff.mp e1).1
   exact⟨e2,v,by rw[List.getElem?_append_left (by simpa using this),List.getElem?_map,e1];rfl,e3⟩
 ·rw[List.getElem?_append_right (by simpa using hl),List.getElem?_replicate] at h
  split at h<;>cases h
def Ey {P:Program}{w:World}{K:PySem.W.Frag}{mg:Str->Option Value}{base:Heap}{x qual:Str}{st:Stmt}{f:Addr}{fd:FuncData}{N ps:List Str}{k m n:Nat}{fb:Zl->M O}(F:Fun K x qual st f fd)(sc:FnScope N ps (Zk st))(hn:ps.length=n)(hN:N.length=n+m)(hbody:∀(cdv:Value) (A:Around) (outer:List Env) (s:Shared) (H:Hp) (E:XK),Room k (A.deeper (envOfC qual (Zk st) s.heap.objs.size f cdv)) ->
   Ps (Vd Xj P w K mg base N qual (Zk st) f cdv A outer s H E).nox E0 (Xy st) fb):FnOk P w K mg base Xj (k+1) f fd ps (Rv K (Hu n m fb)):=by
 refine F.ok sc (fun vs H Q E h=>?_) (fun cdv A outer s H vs Q E hr h=>?_)
 ·obtain⟨Hf,ss,s,e,r,hF,_⟩:=h
  unfold Hu at hF
  split at hF
  ·rename_i hl
   rw[<-Paired.length r,hl,hn]
  ·cases hF
 ·obtain⟨Hf,ss,s',e,r,hF,q⟩:=h
  obtain⟨t,p,qt⟩:=hbody cdv A outer s H E hr
  unfold Hu at hF
  split at hF
  ·rename_i hl
   refine⟨t,p,qt H _ Hf _ (L2.Jk N vs) H _ (Gn (N:=N) (m:=m) e r (by lia)) ?_⟩
   generalize fb (ss.map some++List.replicate m none)=ro at hF
   have back:∀{v:V}{Hf' H':Hp}{s:DL.S},Same Hf Hf'->Fin' H (fun a=>Lv H a/\Hf a=none) Hf' H'->RS K H Hf' H' s v->s=s'->Q v H':=fun {v Hf' H' s} e1 e2 e3 e4=>by
    subst e4
    exact q v Hf' H' ⟨e1,e2.sub,e2.all,fun a h1 h2=>e2.ban a ⟨h1,h2⟩⟩ e3
   cases ro with
   |ok o=>
    cases o with
    |rt s2=>
     have e':s2=s':=by cases hF;rfl
     exact fun v Hf' H' e1 e2 e3=>back e1 e2 e3 e'
    |nx sd'=>
     have e':DL.S.im .non=s':=by cases hF;rfl
     exact fun σ' Hf' H' e1 sr'=>back (v:=.non) (s:=DL.S.im .non) e1 sr'.fin (show Rep K Hf' .non .non from rep_non.mpr rfl) e'
    |bk sd'=>cases hF
    |ct sd'=>cases hF
   |ex x=>cases hF
   |bad=>cases hF
  ·cases hF
def N4:M S->M D
 |.ok (.im d)=>.ok d
 |_=>.bad
def Tb (F:List S->M S)(fs:Zl->M (List S))(sd:Zl):M D:=(fs sd).bind fun ss=>N4 (F ss)
def Bv {K:PySem.W.Frag}{E:XK}{Hf1 H1:Hp}{F:List S->M S}{ss:List S}{vs:List V}{Q:VK}(e:Same Hf1 H1)(rs:Zly K Hf1 ss vs)(h:Po K E (rV K) Hf1 H1 (N4 (F ss)) Q){E':XK}:Rv K F vs H1 Q E':=by
 cases q:F ss with
 |ok s=>
  rw[q] at h
  cases s with
  |im d=>exact⟨Hf1,ss,.im d,e,rs,q,fun v Hf' H' g rv=>h v Hf' H' g rv⟩
  |ow ds=>exact h.elim
  |od kvs=>exact h.elim
  |dk kvs=>exact h.elim
  |xc x=>exact h.elim
  |fn x=>exact h.elim
  |ob a c r=>exact h.elim
  |fl a g q=>exact h.elim
 |ex x=>rw[q] at h;exact h.elim
 |bad=>rw[q] at h;exact h.elim
section
variable {X:Cx}{E:XK}{pos p p1 p2 apos:Pos}{a:Expr}{es:List Expr}{x vn m:Str}{k:Nat}{f:Addr}{fd:FuncData}{ps:List Str}{F:List S->M S}
def Cw {fs:Zl->M (List S)}(G:FnOk X.prog X.w X.K X.mg X.base Xj k f fd ps (Rv X.K F))(hr:Room k X.A)(hm:X.mg x=some (.ref f))(hk:PySem.W.keepIn X.K (.ref f)=true)(hb:Binds X.K fd ps [])(ha:Zkd X E (a::es) fs)(hg:Gl X x:=by rfl) (hdb:(x==("__debug__":Str))=false:=by decide) (he:starEach (a::es) X.env=(false,eval a X.env)::starEach es X.env:=by rfl) (hpl:(backTo pos (starEach es X.env)).any (·.1)=false:=by rfl):
  X4 X E (.Call (.Name x p) (a::es) [] pos) (Tb F fs):=by
 obtain⟨t,pt,qt⟩:=ha
 refine⟨_,U3 (dvs:=[]) (E:=E0) G hr hg hm hk hb .nil Vv pt hdb he hpl,fun H0 B Hf sd σ H Q sr h=>?_⟩
 refine qt H0 B Hf sd σ H _ sr (Po.bind h fun ss vs Hf1 H1 _ g1 rs h1=>?_)
 show Rv X.K F (vs++[]) H1 Q _
 rw[List.append_nil]
 exact Bv g1.sub rs h1
structure ObC (K:PySem.W.Frag) (c:Str) (C:Addr):Prop where
 at_:PySem.W.nsIn K mainGlobals c=some (some (.ref C))
 cls:Cls K C
def N5 {K:PySem.W.Frag}{H:Hp}{r:List (Str×D)}{gs:List (Str×V)}(h:RepKV K H r gs)(n:Str):match r.lookup n with
  |some d=>∃v,gs.lookup n=some v/\Rep K H d v
  |none=>gs.lookup n=none:=by
 induction h with
 |nil=>rfl
 | @cons p q l l' hp ht ih=>
  obtain⟨p1,p2⟩:=p
  obtain⟨q1,q2⟩:=q
  obtain⟨e,rp⟩:=hp
  have e:p1=q1:=e
  subst e
  rw[List.lookup_cons,List.lookup_cons]
  cases n==p1 with
  |true=>exact⟨q2,rfl,rp⟩
  |false=>exact ih
def Yo (i:Nat)(c n:Str)(sd:Zl):M D:=match sd[i]? with
 |some (some (.ob _ c' r))=>if c'=c then(match r.lookup n with|some d=>.ok d|none=>.bad) else .bad
 |_=>.bad
def Yb (i:Nat){c n:Str}{C:Addr}(oc:ObC X.K c C)(na:NoAttr X.K C n)(hN:X.N[i]?=some vn:=by rfl)(hv:Ld X.env.scope vn:=by trivial) (hd:(vn==("__debug__":Str))=false:=by decide)
  (hcd:(vn==("__classdict__":Str))=false:=by decide) (hb:attributeBase (.Name vn p) n X.env (eval (.Name vn p) X.env)=eval (.Name vn p) X.env:=by rfl):X4 X E (.Attribute (.Name vn p) n pos) (Yo i c n):=by
 refine⟨_,Ws (Qm hN hv hd hcd) hb,fun H0 B Hf sd σ H Q sr h=>?_⟩
 unfold Yo at h
 split at h
 ·rename_i a c' r ei
  split at h
  ·rename_i ec
   subst ec
   obtain⟨v,e1,C',dx,gs,rfl,e2,e3,e4⟩:=sr.imS i _ ei rfl
   rw[oc.at_] at e2
   cases e2
   have kl:=N5 e4 n
   split at h
   ·rename_i d el
    rw[el] at kl
    obtain⟨v,l,rv⟩:=kl
    exact⟨.ref a,e1,a,C,dx,gs,v,rfl,sr.sub _ _ e3,oc.cls,na,l,Po.ret (R:=rV X.K) sr.sub h rv⟩
   ·exact h.elim
  ·exact h.elim
 ·exact h.elim
def X7 (i:Nat)(c n:Str)(F:List S->M S)(fs:Zl->M (List D))(sd:Zl):M D:=match sd[i]? with
 |some (some (.ob a c' r))=>if c'=c/\r.lookup n=none then(fs sd).bind fun ds=>N4 (F (.ob a c' r::ds.map S.im)) else .bad
 |_=>.bad
theorem Bw {K:PySem.W.Frag}{H:Hp}:∀{ds:List D}{vs:List V},Reps K H ds vs->Zly K H (ds.map S.im) vs
 |[],_,r=>by rw[reps_nil.mp r];exact .nil
 |d::ds,_,r=>by
  obtain⟨x,t,rfl,h,q⟩:=reps_cons.mp r
  exact .cons ⟨rfl,h⟩ (Bw q)
def Ml {c n:Str}{C:Addr}{t:TA}{fs:Zl->M (List D)}{i:Nat}(oc:ObC X.K c C)(qt:∀(H0:Hp) (B:Addr->Prop) (Hf:Hp) (sd:Zl) (σ:L2.St) (H:Hp) (Q:List V->Hp->Prop),SR X.K H0 B Hf sd σ H->Po X.K E (rA X.K) Hf H (fs sd) Q->t σ H Q){H0:Hp}{B:Addr->Prop}{Hf:Hp}{sd:Zl}{σ:L2.St}{H:Hp}{Q:VK}{E':XK}(sr:SR X.K H0 B Hf sd σ H)(h:Po X.K E (rV X.K) Hf H (X7 i c n F fs sd) Q):Zb6 C n (Rv X.K F) [] E' (Zbx i) t σ H Q:=by
 unfold X7 at h
 split at h
 ·rename_i a c' r ei
  split at h
  ·rename_i ec
   obtain⟨ec,el⟩:=ec
   subst ec
   obtain⟨v,e1,C',dx,gs,rfl,e2,e3,e4⟩:=sr.imS i _ ei rfl
   rw[oc.at_] at e2
   cases e2
   have kl:=N5 e4 n
   rw[el] at kl
   refine⟨.ref a,e1,a,dx,gs,rfl,sr.sub _ _ e3,kl,qt H0 B Hf sd σ H _ sr (Po.bind h fun ds vs Hf1 H1 _ g1 rs h1=>?_)⟩
   rw[List.append_nil]
   have ro:RepS X.K Hf1 (.ob a c' r) (.ref a):=RepO.mono g1.fz ⟨C,dx,gs,rfl,oc.at_,e3,e4⟩
   exact Bv g1.sub (.cons ⟨rfl,ro⟩ (Bw rs)) h1
  ·exact h.elim
 ·exact h.elim
def W0 (i:Nat){c:Str}{C:Addr}{fs:Zl->M (List D)}{pl:Sem Bool}(oc:ObC X.K c C)(hm:Meth X.K C m f)(G:FnOk X.prog X.w X.K X.mg X.base Xj k f fd ps (Rv X.K F))(hr:Room k X.A)(hb:Binds X.K fd ps [])(ha:Aw X E (a::es) fs)(hN:X.N[i]?=some vn:=by rfl)(hv:Ld X.env.scope vn:=by trivial) (hd:(vn==("__debug__":Str))=false:=by decide) (hcd:(vn==("__classdict__":Str))=false:=by decide)
  (hst:starEach (a::es) X.env=(false,eval a X.env)::starEach es X.env:=by rfl) (hpl:(backTo pos (starEach es X.env)).any (·.1)=false:=by rfl)
  (ht:eval (.Call (.Attribute (.Name vn p) m apos) (a::es) [] pos) X.env=(do
   let ov <-eval (.Name vn p) X.env
   standAt apos.atName
   let (f,first) <-holding [ov] (getMethod ov m pl)
   callWith pos f first (backTo pos (starEach (a::es) X.env)) (backToKw pos (keywordEach [] X.env))):=by rfl):X4 X E (.Call (.Attribute (.Name vn p) m apos) (a::es) [] pos) (X7 i c m F fs):=by
 obtain⟨t,pt,qt⟩:=ha
 exact⟨_,Bc (dvs:=[]) (E:=E0) (pl:=pl) (Qm hN hv hd hcd) oc.cls hm G hr hb .nil Vv pt hst hpl ht,fun H0 B Hf sd σ H Q sr h=>Ml oc qt sr h⟩
def Vs (i:Nat){c:Str}{C:Addr}{pl:Sem Bool}(oc:ObC X.K c C)(hm:Meth X.K C m f)(G:FnOk X.prog X.w X.K X.mg X.base Xj k f fd ps (Rv X.K F))(hr:Room k X.A)(hb:Binds X.K fd ps [])(hN:X.N[i]?=some vn:=by rfl)(hv:Ld X.env.scope vn:=by trivial) (hd:(vn==("__debug__":Str))=false:=by decide) (hcd:(vn==("__classdict__":Str))=false:=by decide)
  (ht:eval (.Call (.Attribute (.Name vn p) m apos) [] [] pos) X.env=(do
   let ov <-eval (.Name vn p) X.env
   standAt apos.atName
   let (f,first) <-holding [ov] (getMethod ov m pl)
   callWith pos f first (backTo pos (starEach [] X.env)) (backToKw pos (keywordEach [] X.env))):=by rfl):X4 X E (.Call (.Attribute (.Name vn p) m apos) [] [] pos) (X7 i c m F Zh):=
 ⟨_,A3 (dvs:=[]) (E:=E0) (pl:=pl) (Qm hN hv hd hcd) oc.cls hm G hr hb .nil Vv ht,fun H0 B Hf sd σ H Q sr h=>Ml oc (fun _ _ _ _ _ _ _ sr h=>Po.ret sr.sub h Reps.nil) sr h⟩
end
def Uh (it ip:Nat)(f:Zl->M O):List (S×D)->Zl->M O
 |[],sd=>.ok (.nx sd)
 |od::r,sd=>(f ((sd.set it (some od.1)).set ip (some (.im od.2)))).bind fun x=>match x with
  |.nx sd2=>Uh it ip f r sd2
  |.ct sd2=>Uh it ip f r sd2
  |.bk sd2=>.ok (.nx sd2)
  |.rt s=>.ok (.rt s)
def N6 (it ip i1 i2:Nat)(f1 f2:Zl->M D)(f:Zl->M O)(sd:Zl):M O:=match sd[i1]?,sd[i2]? with
 |some (some o1),some (some o2)=>if Ni o1&&Ni o2 then(f1 sd).bind fun d1=>(f2 sd).bind fun d2=>Uh it ip f [(o1,d1),(o2,d2)] sd else .bad
 |_,_=>.bad
def PrV (K:PySem.W.Frag)(Hf:Hp)(od:S×D)(v:V):Prop:=∃p a b,v=.ref p/\Hf p=some (.tup [a,b])/\od.1.own=false/\RepS K Hf od.1 a/\Rep K Hf od.2 b
theorem PrV.mono {K:PySem.W.Frag}{H H':Hp}(e:Same H H'){od:S×D}{v:V}(h:PrV K H od v):PrV K H' od v:=by
 obtain⟨p,a,b,e1,e2,e3,e4,e5⟩:=h
 exact⟨p,a,b,e1,e _ _ e2,e3,e4.mono e,e5.mono e⟩
section
variable {X:Cx}{E:XK}{pos q0 q1 q2 pt pp p1 p2 pg:Pos}{x1 x2 xt xp:Str}{e1 e2:Expr}{k0 k1 k2 kt:Nat}
def Zc8 (it ip i1 i2:Nat){body:List Stmt}{f1 f2:Zl->M D}{f:Zl->M O}(hp:PassesOwn (model X.prog X.w) X.A X.env X.xe)(hc:X.calm=true)(hN:X.N.Nodup)(h1:X4 X E e1 f1)(h2:X4 X E e2 f2)(hb:Ps X E body f)(n1:X.N[i1]?=some x1:=by rfl)(n2:X.N[i2]?=some x2:=by rfl)(nt:X.N[it]?=some xt:=by rfl)(np:X.N[ip]?=some xp:=by rfl)(v1:Ld X.env.scope x1:=by trivial)(v2:Ld X.env.scope x2:=by trivial)(lt:Zbw X.env.scope xt:=by trivial)(lp:Zbw X.env.scope xp:=by trivial)(ft:X.fn xt=true\/X.env.scope.names.lookup xt=some .local:=by first|exact .inl rfl|exact .inr rfl)(fp:X.fn xp=true\/X.env.scope.names.lookup xp=some .local:=by first|exact .inl rfl|exact .inr rfl)
  (d1:(x1==("__debug__":Str))=false:=by decide) (c1:(x1==("__classdict__":Str))=false:=by decide) (d2:(x2==("__debug__":Str))=false:=by decide) (c2:(x2==("__classdict__":Str))=false:=by decide)
  (s1:starEach [.Name x1 p1,e1] X.env=(false,eval (.Name x1 p1) X.env)::starEach [e1] X.env:=by rfl) (s1':starEach [e1] X.env=(false,eval e1 X.env)::starEach [] X.env:=by rfl)
  (s2:starEach [.Name x2 p2,e2] X.env=(false,eval (.Name x2 p2) X.env)::starEach [e2] X.env:=by rfl) (s2':starEach [e2] X.env=(false,eval e2 X.env)::starEach [] X.env:=by rfl)
  (s3:starEach [.Tuple [.Name x1 p1,e1] k1 q1,.Tuple [.Name x2 p2,e2] k2 q2] X.env=(false,eval (.Tuple [.Name x1 p1,e1] k1 q1) X.env)::starEach [.Tuple [.Name x2 p2,e2] k2 q2] X.env:=by rfl)
  (s4:starEach [.Tuple [.Name x2 p2,e2] k2 q2] X.env=(false,eval (.Tuple [.Name x2 p2,e2] k2 q2) X.env)::starEach [] X.env:=by rfl)
  (g1:(assignEach [.Name xt pt,.Name xp pp] X.env).map (·.2)=assign (.Name xt pt) X.env::(assignEach [.Name xp pp] X.env).map (·.2):=by rfl) (g2:(assignEach [.Name xp pp] X.env).map (·.2)=assign (.Name xp pp) X.env::(assignEach [] X.env).map (·.2):=by rfl)
  (gn:(assignEach [.Name xt pt,.Name xp pp] X.env).length=2:=by rfl) (gs:(assignEach [.Name xt pt,.Name xp pp] X.env).findIdx? (·.1)=none:=by rfl)
  (hs:∀x,foldedSetIterable (.Tuple [.Tuple [.Name x1 p1,e1] k1 q1,.Tuple [.Name x2 p2,e2] k2 q2] k0 q0) X.env x=pure x:=by intro _;rfl):
  Ss X E (.For (.Tuple [.Name xt pt,.Name xp pp] kt pg) (.Tuple [.Tuple [.Name x1 p1,e1] k1 q1,.Tuple [.Name x2 p2,e2] k2 q2] k0 q0) body [] pos) (N6 it ip i1 i2 f1 f2 f):=by
 obtain⟨t1,pe1,qe1⟩:=h1
 obtain⟨t2,pe2,qe2⟩:=h2
 obtain⟨tb,pb,qb⟩:=hb
 refine⟨_,Ec hp hc (Zja (Bb (Qz (Bb (Qz (Qm n1 v1 d1 c1) (Qz pe1 Jm s1') s1)) (Qz (Bb (Qz (Qm n2 v2 d2 c2) (Qz pe2 Jm s2') s2)) Jm s4) s3))) (Zcm hc (Sj (Sc hN nt lt ft) (Sj (Sc hN np lp fp) F3 g2) g1) gn gs) pb hs,fun H0 B Hf sd σ H D sr h=>?_⟩
 unfold N6 at h
 split at h
 ·rename_i o1 o2 eo1 eo2
  split at h
  ·rename_i ho
   rw[Bool.and_eq_true] at ho
   obtain⟨w1,a1,a2⟩:=sr.imS i1 o1 eo1 (K8 ho.1)
   refine⟨w1,a1,qe1 H0 B Hf sd σ H _ sr (PoS.bind sr h fun y1 u1 Hf1 H1 _ g1 sr1 r1 h1=>?_)⟩
   refine⟨by rw[sizeLine_eq];simp,fun a hl=>?_⟩
   have G1:=Gr.alloc g1.sub hl (.tup [w1,u1])
   have sr2:=sr1.gr G1
   obtain⟨w2,b1,b2⟩:=sr2.imS i2 o2 eo2 (K8 ho.2)
   refine⟨w2,b1,qe2 H0 B _ sd σ _ _ sr2 (PoS.bind sr2 (PoS.weak G1.fz h1) fun y2 u2 Hf2 H2 _ g2 sr3 r2 h2=>?_)⟩
   refine⟨by rw[sizeLine_eq];simp,fun b hl2=>?_⟩
   have G2:=Gr.alloc g2.sub hl2 (.tup [w2,u2])
   have sr4:=sr3.gr G2
   refine⟨by rw[sizeLine_eq];simp,fun z hl3=>?_⟩
   have G3:=Gr.alloc sr4.sub hl3 (.tup [V.ref a,V.ref b])
   have sr5:=sr4.gr G3
   have m2:=g2.fz.trans (G2.fz.trans G3.fz)
   have P1:PrV X.K (upd (upd Hf2 b (.tup [w2,u2])) z (.tup [.ref a,.ref b])) (o1,y1) (.ref a):=⟨a,w1,u1,rfl,m2 _ _ Z2,K8 ho.1,(a2.mono (g1.fz.trans G1.fz)).mono m2,(r1.mono G1.fz).mono m2⟩
   have P2:PrV X.K (upd (upd Hf2 b (.tup [w2,u2])) z (.tup [.ref a,.ref b])) (o2,y2) (.ref b):=⟨b,w2,u2,rfl,G3.fz _ _ Z2,K8 ho.2,b2.mono m2,r2.mono (G2.fz.trans G3.fz)⟩
   have hz:(upd (upd Hf2 b (.tup [w2,u2])) z (.tup [V.ref a,V.ref b])) z=some (.tup [V.ref a,V.ref b]):=Z2
   have h3:=PoS.weak (G2.fz.trans G3.fz) h2
   generalize upd (upd Hf2 b (.tup [w2,u2])) z (.tup [.ref a,.ref b])=Hf3 at *
   generalize upd (upd H2 b (.tup [w2,u2])) z (.tup [.ref a,.ref b])=H3 at *
   refine⟨z,rfl,⟨_,SqT.of (sr5.sub _ _ hz)⟩,?_⟩
   refine⟨fun i m σ' H'=>m=2-i/\∃Hf' sd',Same Hf3 Hf'/\SR X.K H0 B Hf' sd' σ' H'/\PoS X.K E H0 B Hf' (Uh it ip f ([(o1,y1),(o2,y2)].drop i) sd') D,⟨2,rfl,Hf3,sd,Same.refl _,sr5,h3⟩,?_⟩
   rintro i m σ' H' ⟨rfl,Hf',sd',e',sr',h'⟩
   have sq:SqT X.K H' z [V.ref a,V.ref b]:=SqT.of (sr'.sub _ _ (e' _ _ hz))
   have one:∀(od:S×DL.D) (v:V) (r:List (S×DL.D)) (n:Nat),[(o1,y1),(o2,y2)].drop i=od::r->[V.ref a,V.ref b][i]?=some v->PrV X.K Hf3 od v->r=[(o1,y1),(o2,y2)].drop (i+1)->2-(i+1)<2-i ->
     (Zlv X.K z).go i H'/\∃N:L2.St->Hp->Prop,(∀σ' H',N σ' H'->∃m',m'<2-i/\(m'=2-(i+1)/\∃Hf' sd',Same Hf3 Hf'/\SR X.K H0 B Hf' sd' σ' H'/\PoS X.K E H0 B Hf' (Uh it ip f ([(o1,y1),(o2,y2)].drop (i+1)) sd') D))/\∀x H'',(Zlv X.K z).yld i H' x H''->Zmy X.K 2 (Zby (F2 it) (Zby (F2 ip) Zl9)) x σ' H'' fun σ2 H2=>tb {D with nx:=N,ct:=N,bk:=D.nx} σ2 H2:=fun od v r n ed ev pv er hl=>by
    refine⟨⟨_,_,sq,ev⟩,fun σ' H'=>∃Hf' sd',Same Hf3 Hf'/\SR X.K H0 B Hf' sd' σ' H'/\PoS X.K E H0 B Hf' (Uh it ip f ([(o1,y1),(o2,y2)].drop (i+1)) sd') D,fun σ2 H2 w=>⟨2-(i+1),hl,rfl,w⟩,fun x H'' hy=>?_⟩
    obtain⟨e,hy⟩:=hy
    subst e
    have ex:=hy _ sq
    rw[ev] at ex
    cases ex
    obtain⟨p,va,vb,rfl,q1,q2,q3,q4⟩:=pv.mono e'
    refine .inl ⟨p,[va,vb],rfl,.inl (SqT.of (sr'.sub _ _ q1)),rfl,va,[vb],rfl,vb,[],rfl,rfl,?_⟩
    have sr6:=(sr'.set_st it q2 q3).set_im ip q4
    refine qb H0 B Hf' _ _ H'' _ sr6 ?_
    rw[ed] at h'
    unfold Uh at h'
    cases ef:f ((sd'.set it (some od.1)).set ip (some (.im od.2))) with
    |ok o=>
     rw[ef] at h'
     cases o with
     |nx s'=>rw[<-er];exact fun σ' Hf2 H2 e2 sr2=>⟨Hf2,s',e'.trans e2,sr2,PoS.weak e2 h'⟩
     |ct s'=>rw[<-er];exact fun σ' Hf2 H2 e2 sr2=>⟨Hf2,s',e'.trans e2,sr2,PoS.weak e2 h'⟩
     |bk s'=>exact h'
     |rt s=>exact h'
    |ex x=>rw[ef] at h';exact h'
    |bad=>rw[ef] at h';exact h'
   match i,sq,h',one with
   |0,sq,h',one=>exact .inr (one (o1,y1) (.ref a) [(o2,y2)] 0 rfl rfl P1 rfl (by decide))
   |1,sq,h',one=>exact .inr (one (o2,y2) (.ref b) [] 0 rfl rfl P2 rfl (by decide))
   |i+2,sq,h',one=>
    have h2:PoS X.K E H0 B Hf' (.ok (.nx sd')) D:=by simpa[Uh] using h'
    exact .inl ⟨⟨_,sq,by simp⟩,h2 σ' Hf' H' (Same.refl _) sr'⟩
  ·exact h.elim
 ·exact h.elim
end
def Ez (i:Nat)(fk fd:Zl->M D)(sd:Zl):M D:=match sd[i]? with
 |some (some (.fl _ _ q))=>(fk sd).bind fun k=>(fd sd).bind fun d=>(match k with
  |.tup ds=>(match Vx ds with
   |some ks=>.ok ((Xm q ks).getD d)
   |none=>.bad)
  |_=>.bad)
 |_=>.bad
section
variable {X:Cx}{E:XK}{pos p p1 p2 apos bpos cpos:Pos}{a key dflt:Expr}{es:List Expr}{x vn m:Str}{k:Nat}{f:Addr}{fd:FuncData}{ps:List Str}{F:List S->M S}
def Zc9 (i:Nat){C:Addr}{fk fd:Zl->M D}(hu:X.A.units+64<cLine) (oc:ObC X.K "Floor" C) (na:NoAttr X.K C "by_square") (hk:X4 X E key fk) (hf:X4 X E dflt fd)
  (hN:X.N[i]?=some vn:=by rfl) (hv:Ld X.env.scope vn:=by trivial) (hd:(vn==("__debug__":Str))=false:=by decide) (hcd:(vn==("__classdict__":Str))=false:=by decide)
  (hb:attributeBase (.Name vn p) "by_square" X.env (eval (.Name vn p) X.env)=eval (.Name vn p) X.env:=by rfl) (mm:M2 X (.Attribute (.Name vn p) "by_square" bpos) "get" apos key dflt cpos:=by exact⟨rfl,rfl,rfl,rfl⟩):
  X4 X E (.Call (.Attribute (.Attribute (.Name vn p) "by_square" bpos) "get" apos) [key,dflt] [] cpos) (Ez i fk fd):=by
 obtain⟨tk,pk,qk⟩:=hk
 obtain⟨td,pd,qd⟩:=hf
 refine⟨_,Zcf (by lia) (Ws (Qm hN hv hd hcd) hb) pk pd mm,fun H0 B Hf sd σ H Q sr h=>?_⟩
 unfold Ez at h
 split at h
 ·rename_i a g q ei
  obtain⟨v,e1,C',dx,gs,d,kq,ys,rfl,e2,e3,e4,e6,e7⟩:=sr.imS i _ ei rfl
  rw[oc.at_] at e2
  cases e2
  refine⟨.ref a,e1,a,C,dx,gs,.ref d,rfl,sr.sub _ _ e3,oc.cls,na,e4.sq,d,rfl,.inr ⟨ys,.inl (sr.sub _ _ e6)⟩,?_⟩
  refine qk H0 B Hf sd σ H _ sr (Po.bind h fun dk y Hf1 H1 _ g1 ry h1=>?_)
  refine qd H0 B Hf1 sd σ H1 _ (sr.gr g1) (Po.bind h1 fun dd z Hf2 H2 _ g2 rz h2=>?_)
  split at h2
  ·rename_i ds
   split at h2
   ·rename_i ks ek
    obtain⟨b,rfl,hb2⟩:=Bp ek g2.sub (ry.mono g2.fz)
    have r2:=(e7.mono g1.fz).mono g2.fz
    refine⟨_,DGet.t (g2.sub _ _ (g2.fz _ _ (g1.fz _ _ e6))) hb2,?_⟩
    cases eg:Xm q ks with
    |some d'=>
     obtain⟨v,ev,rv⟩:=r2.get ks eg
     rw[ev]
     rw[eg] at h2
     exact Po.ret (R:=rV X.K) g2.sub h2 rv
    |none=>
     rw[r2.none ks eg]
     rw[eg] at h2
     exact Po.ret (R:=rV X.K) g2.sub h2 rz
   ·exact h2.elim
  ·exact h2.elim
 ·exact h.elim
def Tc (i:Nat)(F:List S->M S)(fs:Zl->M (List D))(sd:Zl):M D:=match sd[i]? with
 |some (some (.fl a g q))=>(fs sd).bind fun ds=>N4 (F (.fl a g q::ds.map S.im))
 |_=>.bad
def Zda (i:Nat){C:Addr}{fs:Zl->M (List D)}{pl:Sem Bool} (oc:ObC X.K "Floor" C) (hm:Meth X.K C "people_at" f) (G:FnOk X.prog X.w X.K X.mg X.base Xj k f fd ps (Rv X.K F)) (hr:Room k X.A) (hb:Binds X.K fd ps []) (ha:Aw X E (a::es) fs)
  (hN:X.N[i]?=some vn:=by rfl) (hv:Ld X.env.scope vn:=by trivial) (hd:(vn==("__debug__":Str))=false:=by decide) (hcd:(vn==("__classdict__":Str))=false:=by decide)
  (hst:starEach (a::es) X.env=(false,eval a X.env)::starEach es X.env:=by rfl) (hpl:(backTo pos (starEach es X.env)).any (·.1)=false:=by rfl)
  (ht:eval (.Call (.Attribute (.Name vn p) "people_at" apos) (a::es) [] pos) X.env=(do
   let ov <-eval (.Name vn p) X.env
   standAt apos.atName
   let (f,first) <-holding [ov] (getMethod ov "people_at" pl)
   callWith pos f first (backTo pos (starEach (a::es) X.env)) (backToKw pos (keywordEach [] X.env))):=by rfl):X4 X E (.Call (.Attribute (.Name vn p) "people_at" apos) (a::es) [] pos) (Tc i F fs):=by
 obtain⟨t,pt,qt⟩:=ha
 refine⟨_,Bc (dvs:=[]) (E:=E0) (pl:=pl) (Qm hN hv hd hcd) oc.cls hm G hr hb .nil Vv pt hst hpl ht,fun H0 B Hf sd σ H Q sr h=>?_⟩
 unfold Tc at h
 split at h
 ·rename_i a g q ei
  obtain⟨v,e1,rv⟩:=sr.imS i _ ei rfl
  obtain⟨C',dx,gs,d,kq,ys,rfl,e2,e3,e4,e6,e7⟩:=id rv
  rw[oc.at_] at e2
  cases e2
  refine⟨.ref a,e1,a,dx,gs,rfl,sr.sub _ _ e3,e4.m1,qt H0 B Hf sd σ H _ sr (Po.bind h fun ds vs Hf1 H1 _ g1 rs h1=>?_)⟩
  rw[List.append_nil]
  have ro:RepS X.K Hf1 (.fl a g q) (.ref a):=RepS.mono g1.fz rv
  exact Bv g1.sub (.cons ⟨rfl,ro⟩ (Bw rs)) h1
 ·exact h.elim
end
def Cy (n:Str)(d:D):List (Str×D)->List (Str×D)
 |[]=>[(n,d)]
 |(g,x)::r=>if g=n then(g,d)::r else(g,x)::Cy n d r
def Zdb {K:PySem.W.Frag}{H:Hp}{r:List (Str×D)}{gs:List (Str×V)}(h:RepKV K H r gs)(n:Str){d:D}{v:V}(rv:Rep K H d v):RepKV K H (Cy n d r) (Yz n v gs):=by
 induction h with
 |nil=>exact .cons ⟨rfl,rv⟩ .nil
 | @cons p q l l' hp ht ih=>
  obtain⟨p1,p2⟩:=p
  obtain⟨q1,q2⟩:=q
  obtain⟨e,rp⟩:=hp
  have e:p1=q1:=e
  subst e
  unfold Cy Yz
  by_cases z:p1=n
  ·rw[if_pos z,if_pos z];exact .cons ⟨rfl,rv⟩ ht
  ·rw[if_neg z,if_neg z];exact .cons ⟨rfl,rp⟩ ih
def Zgi (K:PySem.W.Frag)(C:Addr)(Hf H:Hp)(a:Addr)(r:List (Str×D)):Prop:=∃dx gs,H a=some (.ins C dx gs)/\RepKV K Hf r gs
def R6 (K:PySem.W.Frag)(C:Addr)(F:List (Str×D)->List D->Option (List (Str×D))):Sp:=fun vs H Q _=>∃Hf r ds a rest r',vs=.ref a::rest/\Same Hf H/\Hf a=none/\Zgi K C Hf H a r/\Reps K Hf ds rest/\F r ds=some r' /\
 ∀Hf' H',GrM a Hf H Hf' H'->Zgi K C Hf' H' a r'->Q .non H'
theorem GrM.refl {a:Addr}{Hf H:Hp}(e:Same Hf H):GrM a Hf H Hf H:=⟨Same.refl _,e,fun _ _ _ q=>q,fun _ _ q=>q⟩
theorem GrM.trans {a:Addr}{Hf H Hf1 H1 Hf2 H2:Hp}(x:GrM a Hf H Hf1 H1)(y:GrM a Hf1 H1 Hf2 H2)(hl:Lv H a->Lv H1 a):GrM a Hf H Hf2 H2:=
 ⟨x.fz.trans y.fz,y.sub,fun b u hb q=>y.all b u hb (x.all b u hb q),fun b hb hn=>y.ban b (by
  by_cases e:b=a
  ·subst e;exact hl hb
  ·obtain⟨o,ho,n⟩:=hb
   exact⟨o,x.all b o e ho,n⟩) (x.ban b hb hn)⟩
def Td {H:Hp}{a C dx:Addr}{gs:List (Str×V)}(h:H a=some (.ins C dx gs)):Lv H a:=⟨_,h,fun _ q=>by cases q⟩
def GrM.of_gr {a:Addr}{Hf H Hf' H':Hp}(g:Gr Hf H Hf' H'):GrM a Hf H Hf' H':=⟨g.fz,g.sub,fun b u _ q=>g.all b u q,g.ban⟩
structure TkC (K:PySem.W.Frag) (C:Addr):Prop where
 oc:ObC K "Track" C
 n1:NoAttr K C "begin"
 n2:NoAttr K C "square"
 n3:NoAttr K C "heading"
 n4:NoAttr K C "due"
 n5:NoAttr K C "lap"
def Zo2 (r:List (Str×D))(n:Str):Option Int:=match r.lookup n with
 |some (.int i)=>some i
 |_=>none
def Zke {K:PySem.W.Frag}{H:Hp}{r:List (Str×D)}{gs:List (Str×V)}(h:RepKV K H r gs){n:Str}{i:Int}(e:Zo2 r n=some i):gs.lookup n=some (.int i):=by
 unfold Zo2 at e
 split at e
 ·rename_i j ej
  cases e
  have k:=N5 h n
  rw[ej] at k
  obtain⟨v,e1,e2⟩:=k
  rw[rep_int] at e2
  rw[e1,e2]
 ·cases e
structure ISt (K:PySem.W.Frag) (C a:Addr) (H0:Hp) (B:Addr->Prop) (Hb Hf:Hp) (sd:Zl) (σ:L2.St) (H:Hp) (r:List (Str×D)):Prop where
 fb:Same Hb Hf
 sr:SR K H0 B Hf sd σ H
 s0:σ[0]?=some (some (.ref a))
 h0:H0 a=none
 hf:Hf a=none
 im:∀(i:Nat) (t:S),sd[i]?=some (some t)->t.own=false
 at_:Zgi K C Hf H a r
section
variable {K:PySem.W.Frag}{C a:Addr}{H0:Hp}{B:Addr->Prop}{Hb Hf H Hf' H':Hp}{sd:Zl}{σ:L2.St}{r:List (Str×D)}
theorem ISt.gr (x:ISt K C a H0 B Hb Hf sd σ H r)(g:Gr Hf H Hf' H'):ISt K C a H0 B Hb Hf' sd σ H' r:=by
 obtain⟨dx,gs,e1,e2⟩:=x.at_
 exact⟨x.fb.trans g.fz,x.sr.gr g,x.s0,x.h0,g.ban a (Td e1) x.hf,x.im,dx,gs,g.all _ _ e1,e2.mono g.fz⟩
theorem ISt.upd (x:ISt K C a H0 B Hb Hf sd σ H r){dx:Addr}{gs:List (Str×V)}{r':List (Str×D)}(h:RepKV K Hf r' gs):ISt K C a H0 B Hb Hf sd σ (L2.upd H a (.ins C dx gs)) r':=by
 have sr:=x.sr
 refine⟨x.fb,⟨fun b u q=>?_,fun b u q=>?_,sr.ban,sr.bt,sr.len,sr.imS,fun i t e o=>?_,fun i j t u p hij e1 o1 _ _ _ _=>?_⟩,x.s0,x.h0,x.hf,x.im,dx,gs,Z2,h⟩
 ·rw[Zp (Z9 q x.hf)];exact sr.sub b u q
 ·rw[Zp (Z9 q x.h0)];exact sr.all b u q
 ·rw[x.im i t e] at o;cases o
 ·rw[x.im i t e1] at o1;cases o1
theorem ISt.set (x:ISt K C a H0 B Hb Hf sd σ H r)(i:Nat)(hi:i≠0){d:D}{v:V}(h:Rep K Hf d v):ISt K C a H0 B Hb Hf (sd.set i (some (.im d))) (σ.set i (some v)) H r:=by
 refine⟨x.fb,x.sr.set_im i h,(Zo1 hi).trans x.s0,x.h0,x.hf,fun j t e=>?_,x.at_⟩
 by_cases hj:i=j
 ·subst hj
  have hl:i<sd.length:=by
   have:=(List.getElem?_eq_some_iff.mp e).1
   simpa using this
  rw[List.getElem?_set_self hl] at e
  cases e
  rfl
 ·rw[List.getElem?_set_ne hj] at e
  exact x.im j t e
end
def Mn {K:PySem.W.Frag}{N:List Str}{C:Addr}{Hf H:Hp}{r:List (Str×D)}{ds:List D}{a:Addr}{vs:List V}{m:Nat}(e:Same Hf H)(ea:Hf a=none)(ta:Zgi K C Hf H a r)(rs:Reps K Hf ds vs)(hN:N.length=ds.length+1+m):
  ISt K C a (Np H a) (fun b=>Lv (Np H a) b/\Hf b=none) Hf Hf (none::(ds.map (fun d=>some (S.im d))++List.replicate m none)) (L2.Jk N (.ref a::vs)) H r:=by
 have hlen:=rs.length
 have es:L2.Jk N (V.ref a::vs)=some (V.ref a)::(vs.map some++List.replicate m none):=by
  unfold L2.Jk
  rw[List.map_cons,List.cons_append,show N.length-(V.ref a::vs).length=m by rw[List.length_cons];lia]
 rw[es]
 have tl:∀(i:Nat) (t:S),(none::(ds.map (fun d=>some (S.im d))++List.replicate m none))[i]?=some (some t)->t.own=false/\∃v,(some (V.ref a)::(vs.map some++List.replicate m none))[i]?=some (some v)/\RepS K Hf t v:=fun i t h=>by
  cases i with
  |zero=>rw[List.getElem?_cons_zero] at h;cases h
  |succ i=>
   rw[List.getElem?_cons_succ] at h ⊢
   by_cases hl:i<ds.length
   ·rw[List.getElem?_append_left (by simpa using hl),List.getElem?_map] at h
    cases q:ds[i]? with
    |none=>rw[q] at h;cases h
    |some d=>
     rw[q] at h
     cases h
     obtain⟨y,e1,e2⟩:=rs.get q
     have:i<vs.length:=(List.getElem?_eq_some_iff.mp e1).1
     exact⟨rfl,y,by rw[List.getElem?_append_left (by simpa using this),List.getElem?_map,e1];rfl,e2⟩
   ·rw[List.getElem?_append_right (by simpa using hl),List.getElem?_replicate] at h
    split at h<;>cases h
 refine⟨Same.refl _,⟨e,Vy H a,fun _ h=>h.2,fun _ h=>h.1,by simp[hlen],fun i t h _=>(tl i t h).2,fun i t h ho=>?_,fun i j t u p hij h ho h' ho' _ _=>?_⟩,rfl,Vz H a,ea,fun i t h=>(tl i t h).1,ta⟩
 ·rw[(tl i t h).1] at ho;cases ho
 ·rw[(tl i t h).1] at ho;cases ho
def ISt.back {K:PySem.W.Frag}{C a:Addr}{Hf H Hf' H':Hp}{sd:Zl}{σ:L2.St}{r:List (Str×D)}(x:ISt K C a (Np H a) (fun b=>Lv (Np H a) b/\Hf b=none) Hf Hf' sd σ H' r):GrM a Hf H Hf' H':=by
 refine⟨x.fb,x.sr.sub,fun b u hb hu=>x.sr.all b u ((Kk hb).trans hu),fun b hb hn=>?_⟩
 by_cases hba:b=a
 ·subst hba;exact x.hf
 ·obtain⟨o,ho,hno⟩:=hb
  exact x.sr.ban b ⟨⟨o,(Kk hba).trans ho,hno⟩,hn⟩
abbrev Yg:=List (Str×D)
def E1 (X:Cx)(C:Addr)(e:Expr)(g:Zl->Yg->M D):Prop:=
 ∃t:TE,PE X e t/\∀(a:Addr) (H0:Hp) (B:Addr->Prop) (Hb Hf:Hp) (sd:Zl) (σ:L2.St) (H:Hp) (r:Yg) (Q:VK),ISt X.K C a H0 B Hb Hf sd σ H r->Po X.K E0 (rV X.K) Hf H (g sd r) Q->t σ H Q
def Zn7 (X:Cx)(C:Addr)(e:Expr)(g:Zl->Yg->M Bool):Prop:=
 ∃t:TT,PT X e t/\∀(a:Addr) (H0:Hp) (B:Addr->Prop) (Hb Hf:Hp) (sd:Zl) (σ:L2.St) (H:Hp) (r:Yg) (Q:Bool->Hp->Prop),ISt X.K C a H0 B Hb Hf sd σ H r->Po X.K E0 rQ Hf H (g sd r) Q->t σ H Q
def Zo3 (K:PySem.W.Frag)(C a:Addr)(H0:Hp)(B:Addr->Prop)(Hb:Hp)(o:Option (Zl×Yg))(D':Ends):Prop:=match o with
 |some x=>∀σ' Hf' H',ISt K C a H0 B Hb Hf' x.1 σ' H' x.2->D'.nx σ' H'
 |none=>False
def Zkf (X:Cx)(C:Addr)(st:Stmt)(g:Zl->Yg->Option (Zl×Yg)):Prop:=
 ∃t:TS,PS X st t/\∀(a:Addr) (H0:Hp) (B:Addr->Prop) (Hb Hf:Hp) (sd:Zl) (σ:L2.St) (H:Hp) (r:Yg) (D':Ends),ISt X.K C a H0 B Hb Hf sd σ H r->Zo3 X.K C a H0 B Hb (g sd r) D'->t D' σ H
def E2 (X:Cx)(C:Addr)(st:List Stmt)(g:Zl->Yg->Option (Zl×Yg)):Prop:=
 ∃t:TS,PSs X st t/\∀(a:Addr) (H0:Hp) (B:Addr->Prop) (Hb Hf:Hp) (sd:Zl) (σ:L2.St) (H:Hp) (r:Yg) (D':Ends),ISt X.K C a H0 B Hb Hf sd σ H r->Zo3 X.K C a H0 B Hb (g sd r) D'->t D' σ H
def Zo4 {α:Type}:M α->Option α
 |.ok a=>some a
 |_=>none
def Zkg (sd:Zl)(r:Yg):Option (Zl×Yg):=some (sd,r)
def V0 (f g:Zl->Yg->Option (Zl×Yg))(sd:Zl)(r:Yg):Option (Zl×Yg):=(f sd r).bind fun x=>g x.1 x.2
def Zfc (c:Zl->Yg->M Bool)(f g:Zl->Yg->Option (Zl×Yg))(sd:Zl)(r:Yg):Option (Zl×Yg):=(Zo4 (c sd r)).bind fun b=>if b then f sd r else g sd r
def P5 (n:Str)(e:Zl->Yg->M D)(sd:Zl)(r:Yg):Option (Zl×Yg):=(Zo4 (e sd r)).bind fun d=>if r.length<=900 then some (sd,Cy n d r) else none
def Zat (i:Nat)(e:Zl->Yg->M D)(sd:Zl)(r:Yg):Option (Zl×Yg):=(Zo4 (e sd r)).bind fun d=>some (sd.set i (some (.im d)),r)
def Zdc (n:Str)(e:Zl->Yg->M D)(sd:Zl)(r:Yg):Option (Zl×Yg):=match Zo2 r n,e sd r with
 |some i,.ok (.int j)=>if r.length<=900 then some (sd,Cy n (.int (i+j)) r) else none
 |_,_=>none
def Hv (m:Str)(F:Yg->List D->Option Yg)(sd:Zl)(r:Yg):Option (Zl×Yg):=if r.lookup m=none then(F r []).map fun r'=>(sd,r') else none
def Vi (f:Zl->M D)(sd:Zl)(_:Yg):M D:=f sd
def Wq (n:Str)(_:Zl)(r:Yg):M D:=match r.lookup n with
 |some d=>.ok d
 |none=>.bad
def D9 (g:D->D->M D)(fa fb:Zl->Yg->M D)(sd:Zl)(r:Yg):M D:=(fa sd r).bind fun x=>(fb sd r).bind fun y=>g x y
def Zgj (c:Zl->Yg->M Bool)(fa fb:Zl->Yg->M D)(sd:Zl)(r:Yg):M D:=(c sd r).bind fun b=>if b then fa sd r else fb sd r
def gB (f:Zl->Yg->M D)(sd:Zl)(r:Yg):M Bool:=(f sd r).bind asB
section
variable {X:Cx}{C:Addr}{pos pos' p p1 apos tpos:Pos}{e e1 e2:Expr}{x vn n m:Str}
def X0 {f:Zl->M D}(h:X4 X E0 e f):E1 X C e (Vi f):=by
 obtain⟨t,pt,q⟩:=h
 exact⟨t,pt,fun a H0 B Hb Hf sd σ H r Q x h=>q H0 B Hf sd σ H Q x.sr h⟩
def U6 (cl:Cls X.K C)(na:NoAttr X.K C n)(hN:X.N[0]?=some vn:=by rfl)(hv:Ld X.env.scope vn:=by trivial) (hd:(vn==("__debug__":Str))=false:=by decide)
  (hcd:(vn==("__classdict__":Str))=false:=by decide) (hb:attributeBase (.Name vn p) n X.env (eval (.Name vn p) X.env)=eval (.Name vn p) X.env:=by rfl):E1 X C (.Attribute (.Name vn p) n pos) (Wq n):=by
 refine⟨_,Ws (Qm hN hv hd hcd) hb,fun a H0 B Hb Hf sd σ H r Q x h=>?_⟩
 obtain⟨dx,gs,e1,e2⟩:=x.at_
 have k:=N5 e2 n
 unfold Wq at h
 split at h
 ·rename_i d ed
  rw[ed] at k
  obtain⟨v,l,rv⟩:=k
  exact⟨.ref a,x.s0,a,C,dx,gs,v,rfl,e1,cl,na,l,Po.ret (R:=rV X.K) x.sr.sub h rv⟩
 ·exact h.elim
def Zm7 {fa fb:Zl->Yg->M D}{g:D->D->M D}{ta tb:TE}{rr:R2}{a:Addr}{H0:Hp}{B:Addr->Prop}{Hb Hf:Hp}{sd:Zl}{σ:L2.St}{H:Hp}{r:Yg}{Q:VK}(qa:∀(a:Addr) (H0:Hp) (B:Addr->Prop) (Hb Hf:Hp) (sd:Zl) (σ:L2.St) (H:Hp) (r:Yg) (Q:VK),ISt X.K C a H0 B Hb Hf sd σ H r->Po X.K E0 (rV X.K) Hf H (fa sd r) Q->ta σ H Q)(qb:∀(a:Addr) (H0:Hp) (B:Addr->Prop) (Hb Hf:Hp) (sd:Zl) (σ:L2.St) (H:Hp) (r:Yg) (Q:VK),ISt X.K C a H0 B Hb Hf sd σ H r->Po X.K E0 (rV X.K) Hf H (fb sd r) Q->tb σ H Q)(hr:∀(Hf H:Hp) (x y:V) (dx dy:D) (Q:VK),Same Hf H->Rep X.K Hf dx x->Rep X.K Hf dy y->Po X.K E0 (rV X.K) Hf H (g dx dy) Q->rr x y H Q)(x:ISt X.K C a H0 B Hb Hf sd σ H r)(h:Po X.K E0 (rV X.K) Hf H (D9 g fa fb sd r) Q):Zlw rr ta tb σ H Q:=by
 refine qa a H0 B Hb Hf sd σ H r _ x (Po.bind h fun d1 v1 Hf1 H1 _ g1 r1 h1=>?_)
 refine qb a H0 B Hb Hf1 sd σ H1 r _ (x.gr g1) (Po.bind h1 fun d2 v2 Hf2 H2 _ g2 r2 h2=>?_)
 exact hr Hf2 H2 v1 v2 d1 d2 Q g2.sub (Rep.mono g2.fz r1) r2 h2
def Zdd {op:Operator}{g:D->D->M D}{fa fb:Zl->Yg->M D}(ho:Se X E0 (binaryOp op) g)(ha:E1 X C e1 fa)(hb:E1 X C e2 fb):E1 X C (.BinOp e1 op e2 pos) (D9 g fa fb):=by
 obtain⟨r,hr,qr⟩:=ho
 obtain⟨ta,pa,qa⟩:=ha
 obtain⟨tb,pb,qb⟩:=hb
 exact⟨_,Zhx hr pa pb,fun a H0 B Hb Hf sd σ H r Q x h=>Zm7 qa qb qr x h⟩
def Zpg (g:D->M D)(fa:Zl->Yg->M D)(sd:Zl)(r:Yg):M D:=(fa sd r).bind g
def Zkh {op:UnaryOp}{g:D->M D}{fa:Zl->Yg->M D}(ho:Zoy X E0 (unaryOp op) g)(ha:E1 X C e1 fa):E1 X C (.UnaryOp op e1 pos) (Zpg g fa):=by
 obtain⟨r,hr,qr⟩:=ho
 obtain⟨ta,pa,qa⟩:=ha
 refine⟨_,Zhy hr pa,fun a H0 B Hb Hf sd σ H r Q x h=>?_⟩
 refine qa a H0 B Hb Hf sd σ H r _ x (Po.bind h fun d v Hf1 H1 _ g1 rv h1=>?_)
 exact qr Hf1 H1 v d Q g1.sub rv h1
def Hw {op:CmpOp}{g:D->D->M D}{fa fb:Zl->Yg->M D}(ho:Se X E0 (compareOp op) g)(ha:E1 X C e1 fa)(hb:E1 X C e2 fb)(hm:behindInMarks op e2=false):Zn7 X C (.Compare e1 [op] [e2] pos) (gB (D9 g fa fb)):=by
 obtain⟨r,hr,qr⟩:=ho
 obtain⟨ta,pa,qa⟩:=ha
 obtain⟨tb,pb,qb⟩:=hb
 refine⟨_,F4 hr pa pb hm,fun a H0 B Hb Hf sd σ H r Q x h=>?_⟩
 refine Zm7 qa qb qr x (Po.bind h fun d v Hf1 H1 _ g1 rv h1=>?_)
 unfold asB at h1
 split at h1
 ·exact⟨_,rep_bl.mp rv,Po.ret (R:=rQ) g1.sub h1 rfl⟩
 ·exact h1.elim
def Hy {f:Zl->M Bool}(h:Ca X E0 e f):Zn7 X C e (fun sd _=>f sd):=by
 obtain⟨t,pt,q⟩:=h
 exact⟨t,pt,fun a H0 B Hb Hf sd σ H r Q x h=>q H0 B Hf sd σ H Q x.sr h⟩
def Zki {c:Zl->Yg->M Bool}{fa fb:Zl->Yg->M D}{ce:Expr}(hc:Zn7 X C ce c)(ha:E1 X C e1 fa)(hb:E1 X C e2 fb):E1 X C (.IfExp ce e1 e2 pos) (Zgj c fa fb):=by
 obtain⟨tc,pc,qc⟩:=hc
 obtain⟨ta,pa,qa⟩:=ha
 obtain⟨tb,pb,qb⟩:=hb
 refine⟨_,A1 pc pa pb,fun a H0 B Hb Hf sd σ H r Q x h=>?_⟩
 refine qc a H0 B Hb Hf sd σ H r _ x (Po.bind (R:=rQ) h fun b v Hf1 H1 _ g1 rv h1=>?_)
 have e:b=v:=rv
 subst e
 cases b with
 |true=>rw[if_pos rfl] at h1 ⊢;exact qa a H0 B Hb Hf1 sd σ H1 r Q (x.gr g1) h1
 |false=>rw[if_neg Bool.false_ne_true] at h1 ⊢;exact qb a H0 B Hb Hf1 sd σ H1 r Q (x.gr g1) h1
def Hz:E2 X C [] Zkg:=⟨_,Sb,fun _ _ _ _ Hf _ _ _ _ _ x h=>h _ Hf _ x⟩
def Ui {st:Stmt}{g:Zl->Yg->Option (Zl×Yg)}(h:Zkf X C st g):E2 X C [st] g:=by
 obtain⟨t,pt,q⟩:=h
 exact⟨t,Kd pt,q⟩
def X8 {st:Stmt}{rest:List Stmt}{f g:Zl->Yg->Option (Zl×Yg)}(h:Zkf X C st f)(h2:E2 X C rest g):E2 X C (st::rest) (V0 f g):=by
 obtain⟨t,pt,q⟩:=h
 obtain⟨t2,pt2,q2⟩:=h2
 refine⟨_,Yc pt pt2,fun a H0 B Hb Hf sd σ H r D' x h=>?_⟩
 refine q a H0 B Hb Hf sd σ H r _ x ?_
 unfold V0 at h
 cases e:f sd r with
 |none=>rw[e] at h;exact h.elim
 |some y=>
  rw[e] at h
  exact fun σ' Hf' H' x'=>q2 a H0 B Hb Hf' y.1 σ' H' y.2 D' x' h
def E3 {c:Expr}{xs ys:List Stmt}{k:Zl->Yg->M Bool}{f g:Zl->Yg->Option (Zl×Yg)}(hc:Zn7 X C c k)(h:E2 X C xs f)(h2:E2 X C ys g):Zkf X C (.If c xs ys pos) (Zfc k f g):=by
 obtain⟨t,pt,q⟩:=hc
 obtain⟨t1,pt1,q1⟩:=h
 obtain⟨t2,pt2,q2⟩:=h2
 refine⟨_,F1 pt pt1 pt2,fun a H0 B Hb Hf sd σ H r D' x h=>?_⟩
 refine q a H0 B Hb Hf sd σ H r _ x ?_
 unfold Zfc at h
 cases ek:k sd r with
 |ok b=>
  rw[ek] at h
  intro v Hf1 H1 g1 rv
  have e:b=v:=rv
  subst e
  cases b with
  |true=>exact q1 a H0 B Hb Hf1 sd σ H1 r D' (x.gr g1) h
  |false=>exact q2 a H0 B Hb Hf1 sd σ H1 r D' (x.gr g1) h
 |ex z=>rw[ek] at h;exact h.elim
 |bad=>rw[ek] at h;exact h.elim
def Vj {g:Zl->Yg->M D}(cl:Cls X.K C)(na:NoAttr X.K C n)(he:E1 X C e g)(hN:X.N[0]?=some vn:=by rfl)(hv:Ld X.env.scope vn:=by trivial) (hd:(vn==("__debug__":Str))=false:=by decide)
  (hcd:(vn==("__classdict__":Str))=false:=by decide) (hs:swapsWith e (some (.Attribute (.Name vn p) n pos')) pos.line X.env=pure false:=by rfl):Zkf X C (.Assign [.Attribute (.Name vn p) n pos'] e pos) (P5 n g):=by
 obtain⟨t,pt,q⟩:=he
 refine⟨_,Ba (Qm hN hv hd hcd) pt hs,fun a H0 B Hb Hf sd σ H r D' x h=>?_⟩
 refine q a H0 B Hb Hf sd σ H r _ x ?_
 unfold P5 at h
 cases ek:g sd r with
 |ok d=>
  rw[ek] at h
  intro v Hf1 H1 g1 rv
  have y:=x.gr g1
  obtain⟨dx,gs,e1,e2⟩:=y.at_
  have hl:=RepKV.length e2
  have h:Zo3 X.K C a H0 B Hb (if r.length<=900 then some (sd,Cy n d r) else none) D':=h
  split at h
  ·exact⟨.ref a,x.s0,a,C,dx,gs,rfl,e1,cl,na,by lia,h σ Hf1 _ (y.upd (Zdb e2 n rv))⟩
  ·exact h.elim
 |ex z=>rw[ek] at h;exact h.elim
 |bad=>rw[ek] at h;exact h.elim
def Ia (i:Nat){g:Zl->Yg->M D}(hN:X.N.Nodup)(he:E1 X C e g)(h0:i≠0:=by decide)(hi:X.N[i]?=some x:=by rfl)(hx:Zbw X.env.scope x:=by trivial)(hs:swapsWith e (some (.Name x pos')) pos.line X.env=pure false:=by rfl)(hf:X.fn x=true\/X.env.scope.names.lookup x=some .local:=by first|exact .inl rfl|exact .inr rfl|assumption):Zkf X C (.Assign [.Name x pos'] e pos) (Zat i g):=by
 obtain⟨t,pt,q⟩:=he
 refine⟨_,Nd hN hi hx pt hs hf,fun a H0 B Hb Hf sd σ H r D' x h=>?_⟩
 refine q a H0 B Hb Hf sd σ H r _ x ?_
 unfold Zat at h
 cases ek:g sd r with
 |ok d=>
  rw[ek] at h
  intro v Hf1 H1 g1 rv
  exact h _ Hf1 H1 ((x.gr g1).set i h0 rv)
 |ex z=>rw[ek] at h;exact h.elim
 |bad=>rw[ek] at h;exact h.elim
def Bx {g:Zl->Yg->M D}(cl:Cls X.K C)(na:NoAttr X.K C n)(he:E1 X C e g)(hN:X.N[0]?=some vn:=by rfl)(hv:Ld X.env.scope vn:=by trivial) (hd:(vn==("__debug__":Str))=false:=by decide)
  (hcd:(vn==("__classdict__":Str))=false:=by decide):Zkf X C (.AugAssign (.Attribute (.Name vn p) n tpos) .Add e pos) (Zdc n g):=by
 obtain⟨t,pt,q⟩:=he
 refine⟨_,Zaa (Qm hN hv hd hcd) pt Zjg,fun a H0 B Hb Hf sd σ H r D' x h=>?_⟩
 unfold Zdc at h
 split at h
 ·rename_i i j ei ej
  obtain⟨dx,gs,e1,e2⟩:=x.at_
  refine⟨.ref a,x.s0,a,C,dx,gs,.int i,rfl,e1,cl,na,Zke e2 ei,q a H0 B Hb Hf sd σ H r _ x ?_⟩
  rw[ej]
  intro v Hf1 H1 g1 rv
  have y:=x.gr g1
  obtain⟨dx',gs',e1',e2'⟩:=y.at_
  have hl:=RepKV.length e2'
  split at h
  ·exact⟨i,j,rfl,rep_int.mp rv,dx',gs',e1',by lia,h σ Hf1 _ (y.upd (Zdb e2' n (rep_int.mpr rfl)))⟩
  ·exact h.elim
 ·exact h.elim
end
def Zfd (n m:Nat)(g:Zl->Yg->Option (Zl×Yg))(r:Yg)(ds:List D):Option Yg:=if ds.length=n then(g (none::(ds.map (fun d=>some (S.im d))++List.replicate m none)) r).map (·.2) else none
def Zgk {P:Program}{w:World}{K:PySem.W.Frag}{mg:Str->Option Value}{base:Heap}{x qual:Str}{st:Stmt}{f C:Addr}{fd:FuncData}{N ps:List Str}{k m n:Nat}{fb:Zl->Yg->Option (Zl×Yg)}(F:Fun K x qual st f fd)(sc:FnScope N ps (Zk st))(hn:ps.length=n+1)(hN:N.length=n+1+m)(hbody:∀(cdv:Value) (A:Around) (outer:List Env) (s:Shared) (H:Hp) (E:XK),Room k (A.deeper (envOfC qual (Zk st) s.heap.objs.size f cdv)) ->
   E2 (Vd Xj P w K mg base N qual (Zk st) f cdv A outer s H E).nox C (Xy st) fb):FnOk P w K mg base Xj (k+1) f fd ps (R6 K C (Zfd n m fb)):=by
 refine F.ok sc (fun vs H Q E h=>?_) (fun cdv A outer s H vs Q E hr h=>?_)
 ·obtain⟨Hf,r,ds,a,rest,r',rfl,e,ea,ta,rs,hF,q⟩:=h
  unfold Zfd at hF
  split at hF
  ·rename_i hl
   rw[List.length_cons,<-rs.length,hl,hn]
  ·cases hF
 ·obtain⟨Hf,r,ds,a,rest,r',rfl,e,ea,ta,rs,hF,q⟩:=h
  obtain⟨t,p,qt⟩:=hbody cdv A outer s H E hr
  unfold Zfd at hF
  split at hF
  ·rename_i hl
   obtain⟨y,ey,er⟩:=Option.map_eq_some_iff.mp hF
   refine⟨t,p,qt a _ _ Hf Hf _ (L2.Jk N (.ref a::rest)) H r _ (Mn (N:=N) (m:=m) e ea ta rs (by lia)) ?_⟩
   rw[ey]
   intro σ' Hf' H' x'
   rw[er] at x'
   exact q Hf' H' x'.back x'.at_
  ·cases hF
section
variable {X:Cx}{C:Addr}{pos p apos spos:Pos}{vn m:Str}{k:Nat}{f:Addr}{fd:FuncData}{ps:List Str}{F:Yg->List D->Option Yg}
def Cz {pl:Sem Bool}(cl:Cls X.K C)(hm:Meth X.K C m f)(G:FnOk X.prog X.w X.K X.mg X.base Xj k f fd ps (R6 X.K C F))(hr:Room k X.A)(hb:Binds X.K fd ps [])(hN:X.N[0]?=some vn:=by rfl)(hv:Ld X.env.scope vn:=by trivial) (hd:(vn==("__debug__":Str))=false:=by decide) (hcd:(vn==("__classdict__":Str))=false:=by decide)
  (ht:eval (.Call (.Attribute (.Name vn p) m apos) [] [] pos) X.env=(do
   let ov <-eval (.Name vn p) X.env
   standAt apos.atName
   let (f,first) <-holding [ov] (getMethod ov m pl)
   callWith pos f first (backTo pos (starEach [] X.env)) (backToKw pos (keywordEach [] X.env))):=by rfl)
  (hs:swapsWith (.Call (.Attribute (.Name vn p) m apos) [] [] pos) none spos.line X.env=pure false:=by rfl):Zkf X C (.Expr (.Call (.Attribute (.Name vn p) m apos) [] [] pos) spos) (Hv m F):=by
 refine⟨_,Gh (A3 (dvs:=[]) (E:=E0) (pl:=pl) (Qm hN hv hd hcd) cl hm G hr hb .nil Vv ht) hs,fun a H0 B Hb Hf sd σ H r D' x h=>?_⟩
 unfold Hv at h
 split at h
 ·rename_i hl
  obtain⟨dx,gs,e1,e2⟩:=x.at_
  have kl:=N5 e2 m
  rw[hl] at kl
  cases eF:F r [] with
  |none=>rw[eF] at h;exact h.elim
  |some r'=>
   rw[eF] at h
   refine⟨.ref a,x.s0,a,dx,gs,rfl,e1,kl,Hf,r,[],a,[],r',rfl,x.sr.sub,x.hf,⟨dx,gs,e1,e2⟩,Reps.nil,eF,fun Hf' H' g ta=>?_⟩
   have sr:=x.sr
   refine h σ Hf' H' ⟨x.fb.trans g.fz,⟨g.sub,fun b u q=>g.all b u (Z9 q x.h0) (sr.all b u q),fun b hb=>g.ban b (sr.all.lv (sr.bt b hb)) (sr.ban b hb),sr.bt,sr.len,fun i t e z=>?_,fun i t e o=>?_,fun i j t u p hij e1 o1 _ _ _ _=>?_⟩,x.s0,x.h0,g.ban a (Td e1) x.hf,x.im,ta⟩
   ·obtain⟨v,z1,z2⟩:=sr.imS i t e z
    exact⟨v,z1,z2.mono g.fz⟩
   ·rw[x.im i t e] at o;cases o
   ·rw[x.im i t e1] at o1;cases o1
 ·exact h.elim
end
section
variable {K:PySem.W.Frag}{H:Hp}{a:Addr}{o:HO}
def Zgl (o:HO):Prop:=(∀xs:List V,o≠HO.tup xs)/\(∀xs:List V,o≠HO.lst xs)/\∀(u:Obj) (v:HO),o≠HO.frz u v
def Kl {C dx:Addr}{gs:List (Str×V)}:Zgl (.ins C dx gs):=⟨fun _ z=>HO.noConfusion z,fun _ z=>HO.noConfusion z,fun _ _ z=>HO.noConfusion z⟩
def Ib {b:Addr}{u:HO}(h:H a=some o)(e:H b=some u)(ne:u≠o):Np H a b=some u:=by
 rw[Kk fun z=>by subst z;rw[h] at e;cases e;exact ne rfl]
 exact e
mutual
theorem Rep.rm (h:H a=some o)(n:Zgl o):∀{d:D}{v:V},Rep K H d v->Rep K (Np H a) d v
 |.non,_,q=>by unfold Rep at q ⊢;exact q
 |.bl _,_,q=>by unfold Rep at q ⊢;exact q
 |.int _,_,q=>by unfold Rep at q ⊢;exact q
 |.str _,_,q=>by unfold Rep at q ⊢;exact q
 |.tup ds,_,q=>by
  unfold Rep at q ⊢
  obtain⟨b,xs,e1,e2,e3⟩:=q
  exact⟨b,xs,e1,Ib h e2 (Ne.symm (n.1 xs)),Reps.rm h n e3⟩
 |.lst ds,_,q=>by
  unfold Rep at q ⊢
  obtain⟨b,xs,e1,e2,e3⟩:=q
  refine⟨b,xs,e1,?_,Reps.rm h n e3⟩
  rcases e2 with(z|⟨u,z⟩)|z
  ·exact .inl (.inl (Ib h z (Ne.symm (n.2.1 xs))))
  ·exact .inl (.inr ⟨u,Ib h z (Ne.symm (n.2.2 _ _))⟩)
  ·exact .inr z
theorem Reps.rm (h:H a=some o)(n:Zgl o):∀{ds:List D}{xs:List V},Reps K H ds xs->Reps K (Np H a) ds xs
 |[],_,q=>by unfold Reps at q ⊢;exact q
 |d::ds,_,q=>by
  unfold Reps at q ⊢
  obtain⟨x,r,e1,e2,e3⟩:=q
  exact⟨x,r,e1,Rep.rm h n e2,Reps.rm h n e3⟩
end
theorem RepKV.rm {κ:Type}{l:List (κ×D)}{m:List (κ×V)}(h:H a=some o)(n:Zgl o)(r:RepKV K H l m):RepKV K (Np H a) l m:=Paired.mapP r fun _ _ q=>⟨q.1,q.2.rm h n⟩
end
def S.adr:S->Option Addr
 |.ob a _ _=>some a
 |.fl a _ _=>some a
 |_=>none
section
variable {K:PySem.W.Frag}{H0 Hf H:Hp}{B:Addr->Prop}{sd:Zl}{σ:L2.St}{a C dx:Addr}{gs:List (Str×V)}
theorem RepS.rm (h:Hf a=some (.ins C dx gs)){t:S}{v:V}(ht:t.adr≠some a)(hx:∀x,t≠.xc x)(q:RepS K Hf t v):RepS K (Np Hf a) t v:=by
 cases t with
 |im d=>exact Rep.rm h Kl q
 |xc x=>exact absurd rfl (hx x)
 |fn x=>exact q
 |ob b c r=>
  obtain⟨C',dx',gs',e1,e2,e3,e4⟩:=q
  have:b≠a:=fun z=>ht (by rw[z];rfl)
  exact⟨C',dx',gs',e1,e2,(Kk this).trans e3,e4.rm h Kl⟩
 |fl b g q'=>
  obtain⟨C',dx',gs',d,k,ys,e1,e2,e3,e4,e5,e6⟩:=q
  have:b≠a:=fun z=>ht (by rw[z];rfl)
  exact⟨C',dx',gs',d,k,ys,e1,e2,(Kk this).trans e3,⟨let ⟨v,z1,z2⟩:=e4.hall;⟨v,z1,z2.rm h Kl⟩,e4.sq,e4.kn,e4.m1,e4.m2⟩,Ib h e5 (by intro z;cases z),e6.rm h Kl⟩
 |ow ds=>trivial
 |od kvs=>trivial
 |dk kvs=>trivial
def Zm8 (h:Hf a=some (.ins C dx gs)){p:Addr}{t:S}(q:S.at K Hf H p t):S.at K (Np Hf a) H p t:=by
 cases t with
 |im d=>exact q.elim
 |xc x=>exact q.elim
 |fn x=>exact q.elim
 |ob b c r=>exact q.elim
 |fl b g q'=>exact q.elim
 |ow ds=>obtain⟨xs,e1,e2⟩:=q;exact⟨xs,e1,e2.rm h Kl⟩
 |od kvs=>obtain⟨ys,e1,e2⟩:=q;exact⟨ys,e1,e2.rm h Kl⟩
 |dk kvs=>obtain⟨ys,e1,e2⟩:=q;exact⟨ys,e1,e2.rm h Kl⟩
def C0 {p:Addr}{t:S}(q:S.at K Hf H p t)(h:H a=some (.ins C dx gs)):p≠a:=by
 rintro rfl
 cases t with
 |im d=>exact q.elim
 |xc x=>exact q.elim
 |fn x=>exact q.elim
 |ob b c r=>exact q.elim
 |fl b g q'=>exact q.elim
 |ow ds=>obtain⟨xs,e1,_⟩:=q;rw[h] at e1;cases e1
 |od kvs=>obtain⟨ys,e1,_⟩:=q;rw[h] at e1;cases e1
 |dk kvs=>obtain⟨ys,e1,_⟩:=q;rw[h] at e1;cases e1
def SR.fzO (r:SR K H0 B Hf sd σ H){i:Nat}{c:Str}{rr:Yg}(hs:sd[i]?=some none)(hσ:σ[i]?=some (some (.ref a)))(hC:PySem.W.nsIn K mainGlobals c=some (some (.ref C)))(h:H a=some (.ins C dx gs))(rk:RepKV K Hf rr gs)(h0:H0 a=none)(hf:Hf a=none):
  SR K H0 B (upd Hf a (.ins C dx gs)) (sd.set i (some (.ob a c rr))) σ H:=by
 have sm:=Qw hf (.ins C dx gs)
 have hl:i<sd.length:=(List.getElem?_eq_some_iff.mp hs).1
 have back:∀{j:Nat}{w:S},i≠j->(sd.set i (some (S.ob a c rr)))[j]?=some (some w)->sd[j]?=some (some w):=fun {j w} n e=>by rwa[List.getElem?_set_ne n] at e
 have own:∀{j:Nat}{w:S},(sd.set i (some (S.ob a c rr)))[j]?=some (some w)->w.own=true->i≠j:=fun {j w} e o z=>by
  subst z
  rw[List.getElem?_set_self hl] at e
  cases e
  cases o
 refine⟨fun b u q=>?_,r.all,fun b hb=>?_,r.bt,by rw[List.length_set];exact r.len,fun j t e z=>?_,fun j t e o=>?_,fun j k t u p hjk e1 o1 e2 o2 e3 e4=>r.sep j k t u p hjk (back (own e1 o1) e1) o1 (back (own e2 o2) e2) o2 e3 e4⟩
 ·by_cases hb:b=a
  ·subst hb;rw[Z2] at q;rw[h];exact q
  ·rw[Zp hb] at q;exact r.sub b u q
 ·have:b≠a:=fun z=>(r.bt b hb).nn (z▸h0)
  rw[Zp this];exact r.ban b hb
 ·by_cases n:i=j
  ·subst n
   rw[List.getElem?_set_self hl] at e
   cases e
   exact⟨_,hσ,(⟨C,dx,gs,rfl,hC,Z2,rk.mono sm⟩:RepO K _ a c rr (.ref a))⟩
  ·obtain⟨v,e1,e2⟩:=r.imS j t (back n e) z
   exact⟨v,e1,e2.mono sm⟩
 ·obtain⟨p,e1,e2,e3,e4⟩:=r.ow j t (back (own e o) e) o
  exact⟨p,e1,e2,by rw[Zp (C0 e4 h)];exact e3,Gj e4 sm fun _ z=>z⟩
def SR.thO (r:SR K H0 B Hf sd σ H){i:Nat}{c:Str}{rr:Yg}(hs:sd[i]?=some (some (.ob a c rr)))(hu:∀(j:Nat) (t:S),j≠i->sd[j]?=some (some t)->t.adr≠some a/\∀x,t≠.xc x):
  σ[i]?=some (some (.ref a))/\∃C dx gs,PySem.W.nsIn K mainGlobals c=some (some (.ref C))/\H a=some (.ins C dx gs)/\RepKV K (Np Hf a) rr gs/\SR K H0 B (Np Hf a) (sd.set i none) σ H:=by
 obtain⟨v,e1,C,dx,gs,rfl,e2,e3,e4⟩:=r.imS i _ hs rfl
 have hl:i<sd.length:=(List.getElem?_eq_some_iff.mp hs).1
 have ne:∀{j:Nat}{w:S},(sd.set i none)[j]?=some (some w)->i≠j:=fun {j w} e z=>by
  subst z
  rw[List.getElem?_set_self hl] at e
  cases e
 have back:∀{j:Nat}{w:S},(sd.set i none)[j]?=some (some w)->sd[j]?=some (some w):=fun {j w} e=>by
  have n:=ne e
  rwa[List.getElem?_set_ne n] at e
 refine⟨e1,C,dx,gs,e2,r.sub _ _ e3,e4.rm e3 Kl,?_⟩
 refine⟨fun b u q=>r.sub b u (Vy Hf a b u q),r.all,fun b hb=>?_,r.bt,by rw[List.length_set];exact r.len,fun j t e z=>?_,fun j t e o=>?_,fun j k t u p hjk e1 o1 e2 o2 e3 e4=>r.sep j k t u p hjk (back e1) o1 (back e2) o2 e3 e4⟩
 ·by_cases z:b=a
  ·subst z;exact Vz Hf b
  ·rw[Kk z];exact r.ban b hb
 ·obtain⟨v,z1,z2⟩:=r.imS j t (back e) z
  obtain⟨u1,u2⟩:=hu j t (Ne.symm (ne e)) (back e)
  exact⟨v,z1,z2.rm e3 u1 u2⟩
 ·obtain⟨p,z1,z2,z3,z4⟩:=r.ow j t (back e) o
  refine⟨p,z1,z2,?_,Zm8 e3 z4⟩
  by_cases z:p=a
  ·subst z;exact Vz Hf p
  ·rw[Kk z];exact z3
end
def C1:List D->M D
 |[.int a,.int b]=>.ok (.int (if b > a then b else a))
 |_=>.bad
def Zde:List D->M D
 |[.int a,.int b,.int c]=>.ok (.int (min (min a b) c))
 |_=>.bad
section
variable {X:Cx}{E:XK}
def Zgm (hc:X.calm=true):Wj X E (.builtin "max") C1:=by
 refine⟨_,O6 hc,fun Hf H xs ds Q e r q=>?_⟩
 unfold C1 at q
 split at q
 ·rename_i a b
  obtain⟨x,r1,rfl,h1,h2⟩:=reps_cons.mp r
  obtain⟨y,r2,rfl,h3,h4⟩:=reps_cons.mp h2
  rw[reps_nil.mp h4,rep_int.mp h1,rep_int.mp h3]
  exact⟨a,b,rfl,Po.ret (R:=rV X.K) e q (rep_int.mpr rfl)⟩
 ·exact q.elim
def Zau (hc:X.calm=true):CallR X (.builtin "min") (fun xs H Q=>∃a b c,xs=[.int a,.int b,.int c]/\Q (.int (min (min a b) c)) H):=by
 intro pins s σ H xs us Q I r h
 obtain⟨a,b,c,rfl,q⟩:=h
 cases r with
 |cons r1 r=>
  cases r with
  |cons r2 r=>
   cases r with
   |cons r3 r=>
    cases r
    obtain⟨t,rfl⟩:=r1
    obtain⟨u,rfl⟩:=r2
    obtain⟨v,rfl⟩:=r3
    refine min_three_ints (I.ok.hd hc) fun h' tk keep=>?_
    refine⟨.int (min (min a b) c),H,I.kept keep,?_,q⟩
    by_cases h1:b<a
    ·by_cases h2:c<b
     ·simp only[h1,h2,if_true]
      exact⟨_,by rw[show min (min a b) c=c by omega]⟩
     ·simp only[h1,h2,if_true,if_false]
      exact⟨_,by rw[show min (min a b) c=b by omega]⟩
    ·by_cases h2:c<a
     ·simp only[h1,h2,if_true,if_false]
      exact⟨_,by rw[show min (min a b) c=c by omega]⟩
     ·simp only[h1,h2,if_false]
      exact⟨_,by rw[show min (min a b) c=a by omega]⟩
def Zgn (hc:X.calm=true):Wj X E (.builtin "min") Zde:=by
 refine⟨_,Zau hc,fun Hf H xs ds Q e r q=>?_⟩
 unfold Zde at q
 split at q
 ·rename_i a b c
  obtain⟨x,r1,rfl,h1,h2⟩:=reps_cons.mp r
  obtain⟨y,r2,rfl,h3,h4⟩:=reps_cons.mp h2
  obtain⟨z,r3,rfl,h5,h6⟩:=reps_cons.mp h4
  rw[reps_nil.mp h6,rep_int.mp h1,rep_int.mp h3,rep_int.mp h5]
  exact⟨a,b,c,rfl,Po.ret (R:=rV X.K) e q (rep_int.mpr rfl)⟩
 ·exact q.elim
end
def FlK (K:PySem.W.Frag)(Hf:Hp)(a:Addr)(g:D)(q:List (List Y3×D))(k:Addr):Prop:=∃C dx gs d ys,PySem.W.nsIn K mainGlobals "Floor"=some (some (.ref C))/\Hf a=some (.ins C dx gs)/\FlG K Hf g d k gs/\Hf d=some (.dT ys)/\RepKV K Hf q ys
theorem FlK.fl {K:PySem.W.Frag}{Hf:Hp}{a k:Addr}{g:D}{q:List (List Y3×D)}(h:FlK K Hf a g q k):RepS K Hf (.fl a g q) (.ref a):=by
 obtain⟨C,dx,gs,d,ys,e1,e2,e3,e4,e5⟩:=h
 exact⟨C,dx,gs,d,k,ys,rfl,e1,e2,e3,e4,e5⟩
theorem FlK.mono {K:PySem.W.Frag}{Hf Hf':Hp}(e:Same Hf Hf'){a k:Addr}{g:D}{q:List (List Y3×D)}(h:FlK K Hf a g q k):FlK K Hf' a g q k:=by
 obtain⟨C,dx,gs,d,ys,e1,e2,e3,e4,e5⟩:=h
 exact⟨C,dx,gs,d,ys,e1,e _ _ e2,e3.mono e,e _ _ e4,e5.mono e⟩
def CaAt (K:PySem.W.Frag)(Fc:List D->M D)(n:Nat)(Hf H:Hp)(k:Addr):Prop:=∃c ys,H k=some (.dT ys)/\RepKV K Hf c ys/\ys.length<=n/\∀ds ks d,Vx ds=some ks->Xm c ks=some d->Fc ds=.ok d
theorem CaAt.mono {K:PySem.W.Frag}{Fc:List D->M D}{n:Nat}{Hf H Hf' H':Hp}{k:Addr}(e:Same Hf Hf')(he:∀o,H k=some o->H' k=some o)(h:CaAt K Fc n Hf H k):CaAt K Fc n Hf' H' k:=by
 obtain⟨c,ys,e1,e2,e3,e4⟩:=h
 exact⟨c,ys,he _ e1,e2.mono e,e3,e4⟩
def CaAt.le {K:PySem.W.Frag}{Fc:List D->M D}{n m:Nat}{Hf H:Hp}{k:Addr}(hl:n<=m)(h:CaAt K Fc n Hf H k):CaAt K Fc m Hf H k:=by
 obtain⟨c,ys,e1,e2,e3,e4⟩:=h
 exact⟨c,ys,e1,e2,by lia,e4⟩
def Zdf {d d':D}{k:Y3}(h:Zgb d=some k)(h':Zgb d'=some k):d=d':=by
 cases d<;>cases h<;>cases d'<;>cases h'<;>rfl
theorem Mo:∀{ds ds':List D}{ks:List Y3},Vx ds=some ks->Vx ds'=some ks->ds=ds'
 |[],[],_,_,_=>rfl
 |[],d'::r',ks,h,h'=>by
  cases h
  unfold Vx at h'
  split at h'<;>cases h'
 |d::r,[],ks,h,h'=>by
  cases h'
  unfold Vx at h
  split at h<;>cases h
 |d::r,d'::r',ks,h,h'=>by
  unfold Vx at h h'
  split at h
  ·rename_i k1 k2 e1 e2
   cases h
   split at h'
   ·rename_i k3 k4 e3 e4
    cases h'
    rw[Zdf e1 e3,Mo e2 e4]
   ·cases h'
  ·cases h
def Zdg {κ:Type}[DecidableEq κ]{c:List (κ×D)}{k k':κ}{d:D}(hn:Xm c k=none):Xm (Zcu c k d) k'=if k'=k then some d else Xm c k':=by
 have hany:(c.any fun kv=>decide (kv.1=k))=false:=by
  cases h:(c.any fun kv=>decide (kv.1=k)) with
  |false=>rfl
  |true=>
   obtain⟨kv,h1,h2⟩:=List.any_eq_true.mp h
   have hf:(c.find? fun kv=>decide (kv.1=k))=none:=Option.map_eq_none_iff.mp hn
   exact absurd h2 (List.find?_eq_none.mp hf kv h1)
 unfold Zcu
 rw[hany]
 show((c++[(k,d)]).find? fun kv=>decide (kv.1=k')).map (·.2)=_
 rw[List.find?_append]
 by_cases e:k'=k
 ·subst e
  rw[if_pos rfl,Option.map_eq_none_iff.mp hn]
  simp
 ·rw[if_neg e]
  have:([(k,d)].find? fun kv=>decide (kv.1=k'))=none:=by
   rw[List.find?_cons]
   simp[Ne.symm e]
  rw[this]
  simp[Xm]
def Sg (i:Nat)(sd:Zl):M D:=match sd[i]? with
 |some (some (.fl _ g _))=>.ok g
 |_=>.bad
section
variable {X:Cx}{E:XK}{p pos:Pos}{vn:Str}
def Mp (i:Nat){C:Addr} (oc:ObC X.K "Floor" C) (na:NoAttr X.K C "hall") (hN:X.N[i]?=some vn:=by rfl) (hv:Ld X.env.scope vn:=by trivial) (hd:(vn==("__debug__":Str))=false:=by decide)
  (hcd:(vn==("__classdict__":Str))=false:=by decide) (hb:attributeBase (.Name vn p) "hall" X.env (eval (.Name vn p) X.env)=eval (.Name vn p) X.env:=by rfl):X4 X E (.Attribute (.Name vn p) "hall" pos) (Sg i):=by
 refine⟨_,Ws (Qm hN hv hd hcd) hb,fun H0 B Hf sd σ H Q sr h=>?_⟩
 unfold Sg at h
 split at h
 ·rename_i a g q ei
  obtain⟨v,e1,C',dx,gs,d,k,ys,rfl,e2,e3,e4,e5,e6⟩:=sr.imS i _ ei rfl
  rw[oc.at_] at e2
  cases e2
  obtain⟨v,l,rv⟩:=e4.hall
  exact⟨.ref a,e1,a,C,dx,gs,v,rfl,sr.sub _ _ e3,oc.cls,na,l,Po.ret (R:=rV X.K) sr.sub h rv⟩
 ·exact h.elim
end
def P6 (F:List D->M S)(g:D)(ds:List D):M D:=N4 (F (g::ds))
def Zkj (K:PySem.W.Frag)(F:List D->M S):Sp:=fun vs H Q _=>∃Hf a g q k n ds ks d v,vs=[.ref a,v]/\Same Hf H/\FlK K Hf a g q k/\Hf k=none/\CaAt K (P6 F g) n Hf H k/\n<sizeLine/\Rep K Hf (.tup ds) v/\Vx ds=some ks/\ds.length=3/\P6 F g ds=.ok d /\
 ∀v' Hf' H',GrM k Hf H Hf' H'->CaAt K (P6 F g) (n+1) Hf' H' k->Rep K Hf' d v'->Q v' H'
def Zkk {m:M S}{d:D}(h:N4 m=.ok d):(match m with | .ok s=>s.toD|_=>M.bad)=.ok d:=by
 cases m with
 |ok s=>cases s<;>first|exact h|cases h
 |ex x=>cases h
 |bad=>cases h
structure HSt (K:PySem.W.Frag) (Ff:List D->M S) (a:Addr) (g:D) (q:List (List Y3×D)) (k:Addr) (n:Nat) (H0:Hp) (B:Addr->Prop) (Hf:Hp) (sd:Zl) (σ:L2.St) (H:Hp):Prop where
 sr:SR K H0 B Hf sd σ H
 s0:sd[0]?=some (some (.fl a g q))
 fl:FlK K Hf a g q k
 hk:Hf k=none
 ca:CaAt K (P6 Ff g) n Hf H k
 hn:n<sizeLine
section
variable {K:PySem.W.Frag}{Ff:List D->M S}{a k:Addr}{g:D}{q:List (List Y3×D)}{n:Nat}{H0:Hp}{B:Addr->Prop}{Hf H Hf1 H1:Hp}{sd:Zl}{σ:L2.St}{Fc:List D->M D}
def CaAt.lv (h:CaAt K Fc n Hf H k):Lv H k:=by
 obtain⟨c,ys,e1,_⟩:=h
 exact⟨_,e1,fun _ q=>by cases q⟩
theorem HSt.gr (x:HSt K Ff a g q k n H0 B Hf sd σ H)(y:Gr Hf H Hf1 H1):HSt K Ff a g q k n H0 B Hf1 sd σ H1:=
 ⟨x.sr.gr y,x.s0,x.fl.mono y.fz,y.ban k x.ca.lv x.hk,x.ca.mono y.fz fun o z=>y.all _ _ z,x.hn⟩
def Kon (K:PySem.W.Frag)(Fc:List D->M D)(k:Addr)(n:Nat)(Hf H:Hp)(d:D)(Q:VK):Prop:=∀v' Hf' H',GrM k Hf H Hf' H'->CaAt K Fc (n+1) Hf' H' k->Rep K Hf' d v'->Q v' H'
def Kon.gr {d:D}{Q:VK}(h:Kon K Fc k n Hf H d Q)(y:Gr Hf H Hf1 H1):Kon K Fc k n Hf1 H1 d Q:=fun v' Hf' H' gm ca rv=>
 h v' Hf' H' ((GrM.of_gr y).trans gm fun⟨o,e1,e2⟩=>⟨o,y.all _ _ e1,e2⟩) ca rv
end
def Zlz (X:Cx)(Ff:List D->M S)(st:List Stmt)(f:Zl->M D):Prop:=
 ∃t:TS,PSs X st t/\∀(a k:Addr) (g:D) (q:List (List Y3×D)) (n:Nat) (H0:Hp) (B:Addr->Prop) (Hf:Hp) (sd:Zl) (σ:L2.St) (H:Hp) (D':Ends) (d:D),HSt X.K Ff a g q k n H0 B Hf sd σ H->f sd=.ok d->Kon X.K (P6 Ff g) k n Hf H d D'.rt->t D' σ H
def Go (Ff:List D->M S)(Fa:List S->M S)(i:Nat)(fk:Zl->M D)(sd:Zl):M D:=match (sd[0]?:Option (Option S)),(sd[i]?:Option (Option S)) with
 |some (some (S.fl _ g _)),some (some o)=>if Ni o then(fk sd).bind fun kd=>(match kd with
  |.tup ds=>if ds.length=3/\(Vx ds).isSome=true then(P6 Ff g ds).bind fun pr=>N4 (Fa [o,.im pr]) else .bad
  |_=>.bad) else .bad
 |_,_=>.bad
def Zh8 (c:Zl->M Bool)(f g:Zl->M D)(sd:Zl):M D:=(c sd).bind fun b=>if b then f sd else g sd
def bind_ok {α β:Type}{m:M α}{f:α->M β}{b:β}(h:m.bind f=.ok b):∃a,m=.ok a/\f a=.ok b:=by
 cases m with
 |ok a=>exact⟨a,rfl,h⟩
 |ex x=>cases h
 |bad=>cases h
section
variable {X:Cx}{Ff:List D->M S}{pos p p1 p2 apos cpos:Pos}{e key:Expr}{x vn fl fn:Str}
def Ic {f:Zl->M D}(h:X4 X E0 e f):Zlz X Ff [.Return (some e) pos] f:=by
 obtain⟨t,pt,qt⟩:=h
 refine⟨_,Kd (Pn pt),fun a k g q n H0 B Hf sd σ H D' d x ed kk=>?_⟩
 refine qt H0 B Hf sd σ H _ x.sr ?_
 rw[ed]
 intro v Hf1 H1 g1 rv
 exact kk v Hf1 H1 (.of_gr g1) ((x.gr g1).ca.le (by lia)) rv
def E4 {c:Expr}{xs rest:List Stmt}{kc:Zl->M Bool}{f g:Zl->M D}(hc:Ca X E0 c kc)(h:Zlz X Ff xs f)(h2:Zlz X Ff rest g):Zlz X Ff (.If c xs [] pos::rest) (Zh8 kc f g):=by
 obtain⟨tc,pc,qc⟩:=hc
 obtain⟨t1,p1,q1⟩:=h
 obtain⟨t2,p2,q2⟩:=h2
 refine⟨_,Yc (F1 pc p1 Sb) p2,fun a k g' q n H0 B Hf sd σ H D' d x ed kk=>?_⟩
 obtain⟨b,eb,ed⟩:=bind_ok ed
 refine qc H0 B Hf sd σ H _ x.sr ?_
 rw[eb]
 intro v Hf1 H1 gr rv
 have e:b=v:=rv
 subst e
 cases b with
 |true=>
  rw[if_pos rfl] at ed ⊢
  exact q1 a k g' q n H0 B Hf1 sd σ H1 _ d (x.gr gr) ed (kk.gr gr)
 |false=>
  rw[if_neg Bool.false_ne_true] at ed ⊢
  exact q2 a k g' q n H0 B Hf1 sd σ H1 D' d (x.gr gr) ed (kk.gr gr)
def C2 (i:Nat){Fa:List S->M S}{fk:Zl->M D}{CF fA fB:Addr}{fdA fdB:FuncData}{psA psB:List Str}{kA kB:Nat}{pl:Sem Bool} (oc:ObC X.K "Floor" CF) (hm:Meth X.K CF "faces_at" fB) (GB:FnOk X.prog X.w X.K X.mg X.base Xj kB fB fdB psB (Zkj X.K Ff)) (hrB:Room kB X.A) (bB:Binds X.K fdB psB [])
  (GA:FnOk X.prog X.w X.K X.mg X.base Xj kA fA fdA psA (Rv X.K Fa)) (hrA:Room kA X.A) (mA:X.mg fn=some (.ref fA)) (keA:PySem.W.keepIn X.K (.ref fA)=true) (bA:Binds X.K fdA psA []) (hk:X4 X E0 key fk)
  (n0:X.N[0]?=some fl:=by rfl) (v0:Ld X.env.scope fl:=by trivial) (d0:(fl==("__debug__":Str))=false:=by decide) (c0:(fl==("__classdict__":Str))=false:=by decide)
  (ni:X.N[i]?=some vn:=by rfl) (vi:Ld X.env.scope vn:=by trivial) (di:(vn==("__debug__":Str))=false:=by decide) (ci:(vn==("__classdict__":Str))=false:=by decide)
  (hgA:Gl X fn:=by rfl) (hdA:(fn==("__debug__":Str))=false:=by decide)
  (s1:starEach [.Name vn p,.Call (.Attribute (.Name fl p1) "faces_at" apos) [key] [] cpos] X.env=(false,eval (.Name vn p) X.env)::starEach [.Call (.Attribute (.Name fl p1) "faces_at" apos) [key] [] cpos] X.env:=by rfl)
  (s2:starEach [.Call (.Attribute (.Name fl p1) "faces_at" apos) [key] [] cpos] X.env=(false,eval (.Call (.Attribute (.Name fl p1) "faces_at" apos) [key] [] cpos) X.env)::starEach [] X.env:=by rfl)
  (s3:starEach [key] X.env=(false,eval key X.env)::starEach [] X.env:=by rfl) (hpl:(backTo cpos (starEach [] X.env)).any (·.1)=false:=by rfl) (hplA:(backTo pos (starEach [.Call (.Attribute (.Name fl p1) "faces_at" apos) [key] [] cpos] X.env)).any (·.1)=false:=by rfl)
  (ht:eval (.Call (.Attribute (.Name fl p1) "faces_at" apos) [key] [] cpos) X.env=(do
   let ov <-eval (.Name fl p1) X.env
   standAt apos.atName
   let (f,first) <-holding [ov] (getMethod ov "faces_at" pl)
   callWith cpos f first (backTo cpos (starEach [key] X.env)) (backToKw cpos (keywordEach [] X.env))):=by rfl) {rpos:Pos}:
  Zlz X Ff [.Return (some (.Call (.Name fn p2) [.Name vn p,.Call (.Attribute (.Name fl p1) "faces_at" apos) [key] [] cpos] [] pos)) rpos] (Go Ff Fa i fk):=by
 obtain⟨tk,pk,qk⟩:=hk
 refine⟨_,Kd (Pn (U3 (dvs:=[]) (E:=E0) GA hrA hgA mA keA bA .nil Vv (Qz (Qm ni vi di ci) (Qz (Bc (dvs:=[]) (E:=E0) (pl:=pl) (Qm n0 v0 d0 c0) oc.cls hm GB hrB bB .nil Vv (Qz pk Jm s3) s3 hpl ht) Jm s2) s1) hdA s1 hplA)),fun a k g q n H0 B Hf sd σ H D' d x ed kk=>?_⟩
 unfold Go at ed
 rw[x.s0] at ed
 split at ed
 ·rename_i a' g' q' o h0 hi
  cases h0
  split at ed
  ·rename_i ho
   obtain⟨kd,ek,ed⟩:=bind_ok ed
   split at ed
   ·rename_i ds
    split at ed
    ·rename_i hd
     obtain⟨pr,e1,e2⟩:=bind_ok ed
     obtain⟨ks,eks⟩:=Option.isSome_iff_exists.mp hd.2
     obtain⟨vi',si,ri⟩:=x.sr.imS i o hi (K8 ho)
     obtain⟨v0',s0',r0⟩:=x.sr.imS 0 _ x.s0 rfl
     obtain⟨C',dx,gs,dd,k',ys,rfl,c1,c2,c3,c4,c5⟩:=id r0
     rw[oc.at_] at c1
     cases c1
     refine⟨vi',si,.ref a,s0',a,dx,gs,rfl,x.sr.sub _ _ c2,c3.m2,?_⟩
     refine qk H0 B Hf sd σ H _ x.sr ?_
     rw[ek]
     intro v Hf1 H1 g1 rv
     have y:=x.gr g1
     refine⟨Hf1,a,g,q,k,n,ds,ks,pr,v,rfl,g1.sub,y.fl,y.hk,y.ca,y.hn,rv,eks,hd.1,e1,fun v' Hf' H' gm ca' rv'=>?_⟩
     have ro:RepS X.K Hf' o vi':=(ri.mono g1.fz).mono gm.fz
     show Rv X.K Fa ([vi',v']++[]) H' D'.rt E0
     rw[List.append_nil]
     refine Bv (E:=E0) (ss:=[o,.im pr]) (vs:=[vi',v']) gm.sub (.cons ⟨K8 ho,ro⟩ (.cons ⟨rfl,rv'⟩ .nil)) ?_
     rw[e2]
     intro v2 Hf2 H2 g2 rv2
     have kg:=kk.gr g1
     refine kg v2 Hf2 H2 (gm.trans (.of_gr g2) fun _=>ca'.lv) (ca'.mono g2.fz fun o z=>g2.all _ _ z) rv2
    ·cases ed
   ·cases ed
  ·cases ed
 ·cases ed
end
def Zgo (K:PySem.W.Frag)(Ff:List D->M S)(F:List S->M D):Sp:=fun vs H Q _=>∃Hf ss a g q k n d,ss[0]?=some (.fl a g q)/\Same Hf H/\Zly K Hf ss vs/\FlK K Hf a g q k/\Hf k=none/\CaAt K (P6 Ff g) n Hf H k/\n<sizeLine/\F ss=.ok d/\Kon K (P6 Ff g) k n Hf H d Q
def Zm9 (n:Nat)(f:Zl->M D)(ss:List S):M D:=if ss.length=n then f (ss.map some) else .bad
def Zo5 {P:Program}{w:World}{K:PySem.W.Frag}{mg:Str->Option Value}{base:Heap}{x qual:Str}{st:Stmt}{f:Addr}{fd:FuncData}{N:List Str}{k n:Nat}{Ff:List D->M S}{fb:Zl->M D}(F:Fun K x qual st f fd)(sc:FnScope N N (Zk st))(hn:N.length=n)(hbody:∀(cdv:Value) (A:Around) (outer:List Env) (s:Shared) (H:Hp) (E:XK),Room k (A.deeper (envOfC qual (Zk st) s.heap.objs.size f cdv)) ->
   Zlz (Vd Xj P w K mg base N qual (Zk st) f cdv A outer s H E).nox Ff (Xy st) fb):FnOk P w K mg base Xj (k+1) f fd N (Zgo K Ff (Zm9 n fb)):=by
 refine F.ok sc (fun vs H Q E h=>?_) (fun cdv A outer s H vs Q E hr h=>?_)
 ·obtain⟨Hf,ss,a,g,q,k,n',d,h0,e,r,fl,hk,ca,hn',hF,_⟩:=h
  unfold Zm9 at hF
  split at hF
  ·rename_i hl
   rw[<-Paired.length r,hl,hn]
  ·cases hF
 ·obtain⟨Hf,ss,a,g,q,k,n',d,h0,e,r,fl,hk,ca,hn',hF,kk⟩:=h
  obtain⟨t,p,qt⟩:=hbody cdv A outer s H E hr
  unfold Zm9 at hF
  split at hF
  ·rename_i hl
   have sr:=Gn (N:=N) (m:=0) e r (by rw[hn,hl];rfl)
   rw[List.replicate_zero,List.append_nil] at sr
   refine⟨t,p,qt a k g q n' H _ Hf _ (L2.Jk N vs) H _ d ⟨sr,?_,fl,hk,ca,hn'⟩ hF kk⟩
   rw[List.getElem?_map,h0]
   rfl
  ·cases hF
section
variable {K:PySem.W.Frag}{H0 H0' Hf Hf' H H':Hp}{B B':Addr->Prop}{sd:Zl}{σ:L2.St}{x k:Addr}
def Zl0 (sd:Zl)(σ:L2.St)(x:Addr):Prop:=∀(i:Nat) (t:S),sd[i]?=some (some t)->t.own=true->σ[i]?≠some (some (.ref x))
def SR.less (r:SR K H0 B Hf sd σ H)(s:Same H0' H0)(hb:∀b,B' b->B b/\Lv H0' b):SR K H0' B' Hf sd σ H:=
 ⟨r.sub,s.trans r.all,fun b h=>r.ban b (hb b h).1,fun b h=>(hb b h).2,r.len,r.imS,fun i t e o=>by
  obtain⟨p,e1,e2,e3,e4⟩:=r.ow i t e o
  refine⟨p,e1,?_,e3,e4⟩
  cases q:H0' p with
  |none=>rfl
  |some u=>exact absurd e2 (by rw[s _ _ q];exact fun z=>nomatch z),r.sep⟩
def SR.keep (r:SR K H0 B Hf sd σ H){o:HO}(hk:H k=some o)(hl:Lv H k)(hf:Hf k=none)(off:Zl0 sd σ k):SR K (upd H0 k o) (fun b=>B b\/b=k) Hf sd σ H:=by
 refine⟨r.sub,fun b u q=>?_,fun b h=>?_,fun b h=>?_,r.len,r.imS,fun i t e ow=>?_,r.sep⟩
 ·by_cases e:b=k
  ·subst e;rw[Z2] at q;rw[hk];exact q
  ·rw[Zp e] at q;exact r.all b u q
 ·rcases h with h|rfl
  ·exact r.ban b h
  ·exact hf
 ·by_cases e:b=k
  ·subst e
   obtain⟨u,e1,e2⟩:=hl
   rw[hk] at e1
   cases e1
   exact⟨o,Z2,e2⟩
  ·rcases h with h|h
   ·obtain⟨u,e1,e2⟩:=r.bt b h
    exact⟨u,(Zp e).trans e1,e2⟩
   ·exact absurd h e
 ·obtain⟨p,e1,e2,e3,e4⟩:=r.ow i t e ow
  exact⟨p,e1,(Zp fun z=>off i t e ow (by rw[e1,z])).trans e2,e3,e4⟩
def SR.back {o:HO}(r:SR K (upd H0 k o) (fun b=>B b\/b=k) Hf sd σ H)(h0:H0 k=none)(bt:∀b,B b->Lv H0 b):H k=some o/\Hf k=none/\SR K H0 B Hf sd σ H:=
 ⟨r.all _ _ Z2,r.ban k (.inr rfl),r.less (fun b u q=>by rw[Zp (Z9 q h0)];exact q) fun b h=>⟨.inl h,bt b h⟩⟩
def SR.grM (r:SR K H0 B Hf sd σ H)(g:GrM x Hf H Hf' H')(h0:H0 x=none)(off:Zl0 sd σ x):SR K H0 B Hf' sd σ H':=
 ⟨g.sub,fun b u q=>g.all b u (Z9 q h0) (r.all b u q),fun b hb=>g.ban b (r.all.lv (r.bt b hb)) (r.ban b hb),r.bt,r.len,fun i t e z=>by
  obtain⟨v,z1,z2⟩:=r.imS i t e z
  exact⟨v,z1,z2.mono g.fz⟩,fun i t e o=>by
  obtain⟨p,e1,e2,e3,e4⟩:=r.ow i t e o
  exact⟨p,e1,e2,g.ban p (Zh3 e4) e3,Gj e4 g.fz fun u h=>g.all _ _ (fun z=>off i t e o (by rw[e1,z])) h⟩,r.sep⟩
def SR.set_none (r:SR K H0 B Hf sd σ H)(i:Nat)(v:V)(hi:sd[i]?=some none):SR K H0 B Hf sd (σ.set i (some v)) H:=by
 have ne:∀{j:Nat}{t:S},sd[j]?=some (some t)->i≠j:=fun {j t} e z=>by subst z;rw[hi] at e;cases e
 refine⟨r.sub,r.all,r.ban,r.bt,by rw[List.length_set];exact r.len,fun j t e z=>?_,fun j t e o=>?_,fun j l t u p h e1 o1 e2 o2 e3 e4=>?_⟩
 ·rw[List.getElem?_set_ne (ne e)];exact r.imS j t e z
 ·rw[List.getElem?_set_ne (ne e)];exact r.ow j t e o
 ·rw[List.getElem?_set_ne (ne e1)] at e3
  rw[List.getElem?_set_ne (ne e2)] at e4
  exact r.sep j l t u p h e1 o1 e2 o2 e3 e4
def SR.offI (r:SR K H0 B Hf sd σ H){C dx:Addr}{gs:List (Str×V)}(hx:H x=some (.ins C dx gs)):Zl0 sd σ x:=by
 intro i t e ow z
 obtain⟨p,e1,_,_,e4⟩:=r.ow i t e ow
 rw[z] at e1
 cases e1
 exact C0 e4 hx rfl
def SR.offD (r:SR K H0 B Hf sd σ H){ys:List (List Y3×V)}(hx:H x=some (.dT ys))(ho:∀(i:Nat) (t:S),sd[i]?=some (some t)->t.own=true->∃ds,t=.ow ds):Zl0 sd σ x:=by
 intro i t e ow z
 obtain⟨p,e1,_,_,e4⟩:=r.ow i t e ow
 rw[z] at e1
 cases e1
 obtain⟨ds,rfl⟩:=ho i t e ow
 obtain⟨xs,h,_⟩:=e4
 rw[hx] at h
 cases h
end
section
variable {K:PySem.W.Frag}{E:XK}{H0 Hf H:Hp}{B:Addr->Prop}{sd:Zl}{σ:L2.St}{D':Ends}
def W1 {r:M O}{sd':Zl}(h:r=.ok (.nx sd'))(k:∀σ' Hf' H',Same Hf Hf'->SR K H0 B Hf' sd' σ' H'->D'.nx σ' H'):PoS K E H0 B Hf r D':=by rw[h];exact k
def Zdh {r:M O}{d:D}(h:r=.ok (.rt (.im d)))(k:∀v Hf' H',Same Hf Hf'->Fin' H0 B Hf' H'->Rep K Hf' d v->D'.rt v H'):PoS K E H0 B Hf r D':=by rw[h];exact k
def Sh {f:Zl->M D}{d:D}{i:Nat}(h:f sd=.ok d):Z4 i f sd=.ok (.nx (sd.set i (some (.im d)))):=by
 unfold Z4
 rw[h]
 rfl
def Zdi {k:Addr}{o:HO}{Hf' H':Hp}(s:Same Hf Hf')(fin:Fin' (upd (Np H k) k o) (fun b=>(Lv (Np H k) b/\Hf b=none)\/b=k) Hf' H'):GrM k Hf H Hf' H':=
 ⟨s,fin.sub,fun b u hb hu=>fin.all b u (by rw[Zp hb,Kk hb];exact hu),fun b hb hn=>by
  by_cases e:b=k
  ·subst e;exact fin.ban b (.inr rfl)
  ·obtain⟨o',h1,h2⟩:=hb
   exact fin.ban b (.inl ⟨⟨o',(Kk e).trans h1,h2⟩,hn⟩)⟩
def none_of {H H':Hp}(s:Same H H'){x:Addr}(h:H' x=none):H x=none:=by
 cases q:H x with
 |none=>rfl
 |some u=>rw[s _ _ q] at h;cases h
def Zdj {C:Addr}{t:TA}{f:Zl->M (List D)}{F:Yg->List D->Option Yg}{l:List D}{r:Yg}{i:Nat}{c:Str}{Dn:L2.St->Hp->Prop}(qt:∀(H0:Hp) (B:Addr->Prop) (Hf:Hp) (sd:Zl) (σ:L2.St) (H:Hp) (Q:List V->Hp->Prop),SR K H0 B Hf sd σ H->Po K E0 (rA K) Hf H (f sd) Q->t σ H Q)(sr:SR K H0 B Hf sd σ H)(ef:f sd=.ok l)(hi:sd[i]?=some none)(eF:F [] l=some r)(hC:PySem.W.nsIn K mainGlobals c=some (some (.ref C)))(k:∀x σ' Hf' H',Same Hf Hf'->H x=none->SR K H0 B Hf' (sd.set i (some (.ob x c r))) σ' H'->Dn σ' H'):Zh0 C (R6 K C F) [] E0 t σ H fun v H1=>Dn (σ.set i (some v)) H1:=by
 refine qt H0 B Hf sd σ H _ sr ?_
 rw[ef]
 intro vs Hf1 H1 g1 rs x dx hx hdx hne
 have hf1:Hf1 x=none:=none_of g1.sub hx
 have sm:Same H1 (upd (upd H1 dx (.own x)) x (.ins C dx [])):=(Qw hdx _).trans (Qw ((Zp hne.symm).trans hx) _)
 have g2:Gr Hf1 H1 Hf1 (upd (upd H1 dx (.own x)) x (.ins C dx [])):=⟨Same.refl _,g1.sub.trans sm,sm,fun _ _ h=>h⟩
 have h0:H0 x=none:=none_of (sr.all.trans g1.all) hx
 refine⟨Hf1,[],l,x,vs++[],r,rfl,g2.sub,hf1,⟨dx,[],Z2,.nil⟩,by rw[List.append_nil];exact rs,eF,fun Hf3 H3 gm ta=>⟨rfl,?_⟩⟩
 have hf3:Hf3 x=none:=gm.ban x (Td Z2) hf1
 have sr2:=(sr.gr g1).gr g2
 have sr3:=sr2.grM gm h0 (sr2.offI Z2)
 obtain⟨dx',gs,e1,e2⟩:=ta
 have sr4:=sr3.set_none i (.ref x) hi
 have hl:i<σ.length:=by
  rw[<-sr.len]
  exact(List.getElem?_eq_some_iff.mp hi).1
 exact k x _ _ _ (g1.fz.trans (gm.fz.trans (Qw hf3 _))) (none_of g1.all hx) (sr4.fzO hi (List.getElem?_set_self hl) hC e1 e2 h0 hf3)
def Zh9 {C x k:Addr}{F:Yg->List D->Option Yg}{Fc:List D->M D}{m i i1 i2:Nat}{r r':Yg}{now th:D}{c:Str}{Dn:L2.St->Hp->Prop}(sr:SR K H0 B Hf sd σ H)(hs:sd[i]?=some (some (.ob x c r)))(hu:∀(j:Nat) (t:S),j≠i->sd[j]?=some (some t)->t.adr≠some x/\∀z,t≠.xc z)(hC:PySem.W.nsIn K mainGlobals c=some (some (.ref C)))(h0:H0 x=none)(eF:F r [now,th]=some r')(n1:i≠i1)(n2:i≠i2)(s1:sd[i1]?=some (some (.im now)))(s2:sd[i2]?=some (some (.im th)))(hk:Hf k=none)(ca:CaAt K Fc m Hf H k)(kon:∀Hf' H',(∀Hs,Same Hs Hf->Hs x=none->Same Hs Hf')->SR K H0 B Hf' (sd.set i (some (.ob x c r'))) σ H'->Hf' k=none->CaAt K Fc m Hf' H' k->Dn σ H'):
  Zhv (Zhz (R6 K C F) [] E0 (F5 (Zbx i) (F5 (Zbx i1) (F5 (Zbx i2) Zjh)))) {nx:=Dn,rt:=fun _ _=>False} σ H:=by
 obtain⟨z1,C',dx,gs,zc,z2,z3,sr1⟩:=sr.thO hs hu
 rw[hC] at zc
 cases zc
 obtain⟨v1,a1,a2⟩:=sr1.im i1 now (by rw[List.getElem?_set_ne n1];exact s1)
 obtain⟨v2,b1,b2⟩:=sr1.im i2 th (by rw[List.getElem?_set_ne n2];exact s2)
 refine⟨_,z1,_,a1,_,b1,Np Hf x,r,[now,th],x,[v1,v2],r',rfl,sr1.sub,Vz Hf x,⟨dx,gs,z2,z3⟩,Reps.cons a2 (Reps.cons b2 Reps.nil),eF,fun Hf3 H3 gm ta=>?_⟩
 obtain⟨dx',gs',e1,e2⟩:=ta
 have hl:i<sd.length:=(List.getElem?_eq_some_iff.mp hs).1
 have hi:(sd.set i none)[i]?=some none:=List.getElem?_set_self hl
 have sr2:=sr1.grM gm h0 (sr1.offI z2)
 have hf3:Hf3 x=none:=gm.ban x (Td z2) (Vz Hf x)
 have sr3:=sr2.fzO hi z1 hC e1 e2 h0 hf3
 rw[List.set_set] at sr3
 obtain⟨cc,ys,c1,c2,c3,c4⟩:=ca
 have kx:k≠x:=fun z=>by rw[z,z2] at c1;cases c1
 have hkr:Np Hf x k=none:=(Kk kx).trans hk
 have hfx:Hf x=some (.ins C dx gs):=by
  obtain⟨v,y1,C'',dx'',gs'',rfl,y2,y3,y4⟩:=sr.imS i _ hs rfl
  rw[sr.sub _ _ y3] at z2
  cases z2
  exact y3
 refine kon _ H3 (fun Hs s n=>?_) sr3 ?_ ?_
 ·have:Same Hs (Np Hf x):=fun b u q=>by
   rw[Kk (Z9 q n)]
   exact s b u q
  exact this.trans (gm.fz.trans (Qw hf3 _))
 ·rw[Zp kx]
  exact gm.ban k ⟨_,c1,fun _ q=>by cases q⟩ hkr
 ·exact⟨cc,ys,gm.all _ _ kx c1,((c2.rm hfx Kl).mono gm.fz).mono (Qw hf3 _),c3,c4⟩
end
section
variable {prog:Program}{w:World}{K:Type} [DecidableEq K] {knd:HeapKind prog w K}{A:Around}{E:Value->Shared->Prop}{s:Shared}
def R7 {d a:Addr}{xs:List (K×Addr×Value)}{k:K}{dflt:Value}{Q:Value->Shared->Prop}(hu:knd.room A)(hkey:knd.is s.heap k a)(hm:s.heap.DictOfH knd d xs)(h1:∀v,(atKey xs k).map (·.2)=some v->Q v {s with toks:=s.toks+knd.draws k})(h2:(atKey xs k).map (·.2)=none->∀h',h'.DictOfH knd d (storedH xs k a dflt)->Heap.SameBut d s.heap h'->Q dflt {s with heap:=h',toks:=s.toks+knd.draws k})(hsz:xs.length<=sizeLine):wpAny (model prog w) A (dictSetDefault d (.ref a) dflt) Q E s:=by
 obtain⟨o,es,ep,ho,hc,hd,he,his,hn⟩:=hm
 unfold dictSetDefault
 try with_reducible refine wpAny_holding ?_
 refine wpAny_bind (knd.pyHash hu hkey (wpAny_bind (wpAny_dictFind_heap (s:={s with toks:=s.toks+knd.draws k}) hu hkey ho hd he his hn ?_ ?_)))
 ·intro hno
  have hnot:k ∉ xs.map (·.1):=not_mem_keys_of_get hno
  refine wpAny_bind (wpAny_rule (wpAny_bind (wpAny_updateDictKeys (hz:=by have e:=size_of_entries he;omega) (s:={s with toks:=s.toks+knd.draws k}) ho hd (wpAny_pure (h2 (by rw[atKey_none_of_get hno];rfl) _ ⟨_,_,ep+1,Heap.get?_update_self _ ho (Obj.isFreed_of_dict (Obj.data_mapDictKeys hd _)),
   hc.mapDictKeys _,Obj.data_mapDictKeys hd _,?_,?_,?_⟩ (Heap.SameBut.update ..))))))
  ·rw[storedH_new (atKey_none_of_get hno)]
   simp[he,entryOfKey]
  ·rw[storedH_new (atKey_none_of_get hno)]
   intro x hx
   rcases List.mem_append.mp hx with hx|hx
   ·exact knd.keeps (his x hx) ho hd (Heap.SameBut.update ..)
   ·simp only[List.mem_singleton] at hx
    subst hx
    exact knd.keeps hkey ho hd (Heap.SameBut.update ..)
  ·rw[storedH_new (atKey_none_of_get hno)]
   rw[List.map_append,List.nodup_append]
   refine⟨hn,by simp,?_⟩
   intro x hx y hy
   simp only[List.map_cons,List.map_nil,List.mem_singleton] at hy
   subst hy
   exact fun e=>hnot (e▸hx)
 ·intro j p hj
  refine wpAny_bind (wpAny_dictEntries (s:={s with toks:=s.toks+knd.draws k}) ho hd ?_)
  rw[PySem.entry_at he j,hj]
  exact wpAny_bind (wpAny_rule (wpAny_pure (h1 _ (by rw[atKey_of_get hn hj];rfl))))
def N7 {d a:Addr}{k:K}(hd:(d==sysModules)=false)(dflt:Value):
  MeetsIn prog w (Builtin.«dict.setdefault» ⟨[.ref d,.ref a,dflt],[]⟩) (fun A R s=>knd.room A.in1/\∃xs,knd.is s.heap k a/\s.heap.DictOfH knd d xs/\xs.length<=sizeLine /\
   (∀v,(atKey xs k).map (·.2)=some v->R (.ok (.ret v)) {s with toks:=s.toks+knd.draws k}) /\
   ((atKey xs k).map (·.2)=none->∀h',h'.DictOfH knd d (storedH xs k a dflt)->Heap.SameBut d s.heap h'->R (.ok (.ret dflt)) {s with heap:=h',toks:=s.toks+knd.draws k})):=
 .of_wp fun A R s ⟨hu,xs,hkey,hm,hz,h1,h2⟩=>by
  unfold Builtin.«dict.setdefault»
  refine wpAny_bind ?_
  unfold Builtin.Dict.keyAndDefault
  refine wpAny_bind (wpAny_notOrdered_dict hm.typeIs ?_)
  show wpAny _ _ (pure (d,Value.ref a,some dflt)) _ _ s
  refine wpAny_pure ?_
  show wpAny _ _ (if(d==sysModules)=true then _ else(dictSetDefault d (.ref a) dflt>>=_)) _ _ s
  rw[if_neg (by rw[hd];exact Bool.false_ne_true)]
  exact wpAny_bind (R7 hu hkey hm (fun v hv=>wpAny_pure ⟨v,rfl,h1 v hv⟩) (fun hn h' hm' hs'=>wpAny_pure ⟨dflt,rfl,h2 hn h' hm' hs'⟩) hz)
end
section
variable {X:Cx}{pins:List (Addr×Obj)}{σ:L2.St}{H:Hp}{s:Shared}{a b:Addr}{d:V}{r:Value}{A:Around}{E:Value->Shared->Prop}{kvs:List (List Y3×V)}{k:List Y3}
def Zdk {Q:Value->Shared->Prop}(hu:A.units+1<cLine)(I:Inv X pins σ H s)(e:H a=some (.dT kvs))(eb:H b=some (.tup (k.map kV)))(l:kvs.length<sizeLine)(rd:RelV d r)(h1:∀v w' s',Jd kvs k=some v->Inv X pins σ H s'->RelV v w'->Q w' s')(h2:Jd kvs k=none->∀s',Inv X pins σ (upd H a (.dT (Kt kvs k d))) s'->Q r s'):
  wpAny (model X.prog X.w) A (call (.builtin "dict.setdefault") [.ref a,.ref b,r]) Q E s:=by
 obtain⟨z,hd,xs,rel,dd⟩:=Zh2 I.hok e
 have hz:xs.length<=sizeLine:=by rw[<-Paired.length rel];exact z
 have rv:=rel.val k
 refine call_meetsIn PySem.F.slot_dict_setdefault dd.typeIs PySem.F.entry_dict_setdefault (PySem.F.args_dict_setdefault_3 _ _ _) (N7 (k:=k) hd r) ⟨tupleKind_room_in1 hu,xs,Pr I.hok eb,dd,hz,fun v hv=>?_,fun hn h' dd' hs=>?_⟩
 ·rw[hv] at rv
  cases q:Jd kvs k with
  |none=>rw[q] at rv;exact rv.elim
  |some v0=>rw[q] at rv;exact h1 v0 v _ q (I.tok _) rv
 ·rw[hn] at rv
  cases q:Jd kvs k with
  |some v0=>rw[q] at rv;exact rv.elim
  |none=>
   refine h2 q _ ?_
   have hl:(Kt kvs k d).length<=sizeLine:=by have:=Ua kvs k d;omega
   obtain⟨o,es,ep,hq,g2,g3,g4,_,g5⟩:=dd'
   refine Bi I (by rw[e];exact True.intro) hs ⟨o,hq⟩ ⟨hl,hd,_,(rel.put k eb rd).keeps fun c ys ec=>?_,o,es,ep,hq,g2,g3,g4,g5⟩
   rw[Zp (Zhu ec e (fun z=>nomatch z))]
   exact ec
end
def Zkl (td ty tx:TE):TE:=fun σ H Q=>td σ H fun x H1=>∃a,x=.ref a/\Zov H1 a/\ty σ H1 fun y H2=>tx σ H2 fun z H3=>∃kvs k b,y=.ref b/\H3 a=some (.dT kvs)/\H3 b=some (.tup (k.map kV))/\kvs.length<sizeLine /\
 (∀v,Jd kvs k=some v->Q v H3)/\(Jd kvs k=none->Q z (upd H3 a (.dT (Kt kvs k z))))
def Zdl {X:Cx}{o e f:Expr}{apos cpos:Pos}{td ty tx:TE}(hu:X.A.units+1<cLine)(ho:PE X o td)(he:PE X e ty)(hf:PE X f tx) (m:M2 X o "setdefault" apos e f cpos):PE X (.Call (.Attribute o "setdefault" apos) [e,f] [] cpos) (Zkl td ty tx):=by
 intro pins s σ H Q I h
 refine wpAny_Call_method m.base m.few m.line PySem.F.plainAttrs_dict PySem.F.slot_dict_setdefault PySem.F.type_dict_setdefault (Xi (ho pins s σ H _ I h) fun u s1 ⟨x,H1,I1,rx,a,ex,d,q1⟩=>?_)
 subst ex
 obtain rfl:u=Value.ref a:=rx
 obtain⟨t1,t2,_⟩:=Zce I1 d
 refine⟨t1,t2,?_⟩
 rw[m.trees]
 refine Calls.callWith_builtin rfl (Calls.evalArgs_plain (Calls.spliced_cons (Xi (he pins s1 σ H1 _ I1 q1) fun iv s2 ⟨y,H2,I2,ry,q2⟩=>
  Calls.spliced_cons (Xi (hf pins s2 σ H2 _ I2 q2) fun fv s3 ⟨z,H3,I3,rz,kvs,k,b,ey,ea,eb,hl,h1,h2⟩=>Calls.spliced_nil ?_))))
 subst ey
 cases (show iv=Value.ref b from ry)
 exact Zdk hu I3 ea eb hl rz (fun v w' s4 ev I4 rw'=>⟨v,H3,I4,rw',h1 v ev⟩) fun ev s4 I4=>⟨z,_,I4,rz,h2 ev⟩
abbrev By:=List (List Y3×List D)
def Wr (ks:List Y3)(p:D):By->By
 |[]=>[(ks,[p])]
 |(k,l)::r=>if k=ks then(k,l++[p])::r else(k,l)::Wr ks p r
def OwnP (K:PySem.W.Frag)(H0 Hf H:Hp)(p:List Y3×List D)(q:List Y3×V):Prop:=p.1=q.1/\∃a xs,q.2=.ref a/\H a=some (.lst xs)/\Hf a=none/\H0 a=none/\Reps K Hf p.2 xs
def OwnL (K:PySem.W.Frag)(H0 Hf H:Hp)(acc:By)(ys:List (List Y3×V)):Prop:=Paired (OwnP K H0 Hf H) acc ys/\(ys.map (·.2)).Nodup
section
variable {K:PySem.W.Frag}{H0 Hf H Hf' H':Hp}{acc:By}{ys:List (List Y3×V)}{ks:List Y3}
theorem Te {α β:Type}{F G:α->β->Prop}:∀{l₁:List α}{l₂:List β},Paired F l₁ l₂->(∀a b,F a b->b∈l₂->G a b)->Paired G l₁ l₂
 |_,_,.nil,_=>.nil
 |_,_,.cons h t,f=>.cons (f _ _ h (List.mem_cons_self ..)) (Te t fun a b x y=>f a b x (List.mem_cons_of_mem _ y))
theorem Vk {α β:Type}{F:α->β->Prop}:∀{l₁:List α}{l₂:List β},Paired F l₁ l₂->∀{b},b∈l₂->∃a,F a b
 |_,_,.nil,b,h=>by cases h
 |_,_,.cons h t,b,hb=>by
  rcases List.mem_cons.mp hb with rfl|hb
  ·exact⟨_,h⟩
  ·exact Vk t hb
def OwnP.move {p:List Y3×List D}{q:List Y3×V}(h:OwnP K H0 Hf H p q)(e:Same Hf Hf')(he:∀a xs,q.2=.ref a->H a=some (.lst xs)->H' a=some (.lst xs))(hb:∀a,Lv H a->Hf a=none->Hf' a=none):OwnP K H0 Hf' H' p q:=by
 obtain⟨e1,a,xs,e2,e3,e4,e5,e6⟩:=h
 exact⟨e1,a,xs,e2,he a xs e2 e3,hb a (Lv.lst e3) e4,e5,e6.mono e⟩
def OwnL.gr (h:OwnL K H0 Hf H acc ys)(g:Gr Hf H Hf' H'):OwnL K H0 Hf' H' acc ys:=
 ⟨Paired.mapP h.1 fun _ _ q=>q.move g.fz (fun a xs _ z=>g.all _ _ z) g.ban,h.2⟩
def Zdm {v:V}(h:Jd ys ks=some v):v∈ys.map (·.2):=by
 obtain⟨kv,h1,h2⟩:=Option.map_eq_some_iff.mp h
 rw[<-h2]
 exact List.mem_map_of_mem (List.mem_of_find?_eq_some h1)
def Mq {p:List Y3×V}:Jd (p::ys) ks=if p.1=ks then some p.2 else Jd ys ks:=by
 unfold Jd
 rw[List.find?_cons]
 by_cases e:p.1=ks
 ·simp[e]
 ·simp[e]
def OwnL.there (h:OwnL K H0 Hf H acc ys){v:V}(hv:Jd ys ks=some v):∃a xs,v=.ref a/\H a=some (.lst xs)/\Hf a=none/\H0 a=none/\(∃p∈acc,xs.length=p.2.length)/\∀(p:D) (y:V),Rep K Hf p y->Paired (OwnP K H0 Hf (upd H a (.lst (xs++[y])))) (Wr ks p acc) ys:=by
 obtain⟨h,n⟩:=h
 induction h with
 |nil=>cases hv
 | @cons x q l l' hp ht ih=>
  rw[List.map_cons,List.nodup_cons] at n
  rw[Mq] at hv
  obtain⟨x1,x2⟩:=x
  obtain⟨e1,a,xs,e2,e3,e4,e5,e6⟩:=id hp
  have e1:x1=q.1:=e1
  by_cases e:q.1=ks
  ·rw[if_pos e] at hv
   cases hv
   refine⟨a,xs,e2,e3,e4,e5,⟨_,List.mem_cons_self ..,e6.length.symm⟩,fun p y ry=>?_⟩
   unfold Wr
   rw[if_pos (e1.trans e)]
   refine .cons ⟨e1,a,xs++[y],e2,Z2,e4,e5,e6.append (Reps.cons ry Reps.nil)⟩ ?_
   refine Te ht fun z z' hz hm=>?_
   refine hz.move (Same.refl _) (fun b zs e7 e8=>?_) fun _ _ z=>z
   rw[Zp]
   ·exact e8
   ·rintro rfl
    exact n.1 (by rw[e2,<-e7];exact List.mem_map_of_mem hm)
  ·rw[if_neg e] at hv
   obtain⟨a',xs',f1,f2,f3,f4,⟨pp,g1,g2⟩,f5⟩:=ih hv n.2
   refine⟨a',xs',f1,f2,f3,f4,⟨pp,List.mem_cons_of_mem _ g1,g2⟩,fun p y ry=>?_⟩
   unfold Wr
   rw[if_neg (fun z=>e (e1.symm.trans z))]
   refine .cons (hp.move (Same.refl _) (fun b zs e7 e8=>?_) fun _ _ z=>z) (f5 p y ry)
   rw[Zp]
   ·exact e8
   ·rintro rfl
    exact n.1 (by rw[e7,<-f1];exact Zdm hv)
def OwnL.new (h:OwnL K H0 Hf H acc ys)(hv:Jd ys ks=none){p:D}{y:V}{a d:Addr}{u:List (List Y3×V)}{o:HO}(hd:H d=some (.dT u))(ha:H a=none)(h0:H0 a=none)(hf:Hf a=none)(ry:Rep K Hf p y):
  OwnL K H0 Hf (upd (upd H d o) a (.lst [y])) (Wr ks p acc) (Kt ys ks (.ref a)):=by
 have ep:Kt ys ks (V.ref a)=ys++[(ks,.ref a)]:=by
  unfold Kt
  rw[if_neg]
  intro hany
  obtain⟨kv,h1,h2⟩:=List.any_eq_true.mp hany
  exact absurd h2 (List.find?_eq_none.mp (Option.map_eq_none_iff.mp hv) kv h1)
 have ne:∀{x:List Y3×List D}{q:List Y3×V},OwnP K H0 Hf H x q->OwnP K H0 Hf (upd (upd H d o) a (.lst [y])) x q:=fun {x q} hp=>hp.move (Same.refl _) (fun b zs e7 e8=>by
  have n1:b≠a:=fun z=>by rw[z,ha] at e8;cases e8
  have n2:b≠d:=fun z=>by rw[z,hd] at e8;cases e8
  rw[Zp n1,Zp n2];exact e8) fun _ _ z=>z
 rw[ep]
 obtain⟨h,n⟩:=h
 refine⟨?_,?_⟩
 ·clear n ep
  induction h with
  |nil=>exact .cons ⟨rfl,a,[y],rfl,Z2,hf,h0,Reps.cons ry Reps.nil⟩ .nil
  | @cons x q l l' hp ht ih=>
   rw[Mq] at hv
   obtain⟨x1,x2⟩:=x
   have e1:x1=q.1:=hp.1
   by_cases e:q.1=ks
   ·rw[if_pos e] at hv;cases hv
   ·rw[if_neg e] at hv
    unfold Wr
    rw[if_neg (fun z=>e (e1.symm.trans z))]
    exact .cons (ne hp) (ih hv)
 ·rw[List.map_append,List.nodup_append]
  refine⟨n,by simp,fun v hv' w hw=>?_⟩
  simp only[List.map_cons,List.map_nil,List.mem_singleton] at hw
  subst hw
  rintro rfl
  obtain⟨q,hq,eq⟩:=List.mem_map.mp hv'
  obtain⟨x,hx⟩:=Vk h hq
  obtain⟨_,b,xs,e2,e3,_⟩:=hx
  rw[eq] at e2
  cases e2
  rw[ha] at e3
  cases e3
theorem P7 {p:D}{n:Nat}:∀{acc:By},(∀x∈acc,x.2.length<=n)->∀x∈Wr ks p acc,x.2.length<=n+1
 |[],_,x,hx=>by
  unfold Wr at hx
  rw[List.mem_singleton] at hx
  rw[hx]
  simp
 |(k,l)::r,h,x,hx=>by
  unfold Wr at hx
  split at hx
  ·rcases List.mem_cons.mp hx with rfl|hx
   ·have:=h _ (List.mem_cons_self ..)
    simp only[List.length_append,List.length_cons,List.length_nil] at this ⊢
    lia
   ·exact Nat.le_succ_of_le (h x (List.mem_cons_of_mem _ hx))
  ·rcases List.mem_cons.mp hx with rfl|hx
   ·exact Nat.le_succ_of_le (h _ (List.mem_cons_self ..))
   ·exact P7 (fun y hy=>h y (List.mem_cons_of_mem _ hy)) x hx
theorem Tf {p:D}:∀{acc:By},(Wr ks p acc).length<=acc.length+1
 |[]=>Nat.le_refl _
 |(k,l)::r=>by
  unfold Wr
  split
  ·simp
  ·have:=Tf (p:=p) (acc:=r)
   simp only[List.length_cons]
   lia
open Classical in
noncomputable def Zfe (Hf H:Hp)(S:Addr->Prop):Hp:=fun b=>match Hf b with
 |some u=>some u
 |none=>if S b then H b else none
def Tg {S:Addr->Prop}:Same Hf (Zfe Hf H S):=fun b u q=>by unfold Zfe;rw[q]
def Zgp {S:Addr->Prop}(e:Same Hf H):Same (Zfe Hf H S) H:=fun b u q=>by
 unfold Zfe at q
 split at q
 ·rename_i u' eu;cases q;exact e _ _ eu
 ·split at q
  ·exact q
  ·cases q
def E5 {S:Addr->Prop}(e:Same Hf H){b:Addr}(h:S b){o:HO}(ho:H b=some o):Zfe Hf H S b=some o:=by
 unfold Zfe
 split
 ·rename_i u' eu;rw[<-ho];exact(e _ _ eu).symm
 ·rw[if_pos h];exact ho
def C3 {S:Addr->Prop}{b:Addr}(h:¬S b)(hf:Hf b=none):Zfe Hf H S b=none:=by
 unfold Zfe
 rw[hf]
 exact if_neg h
variable {sd:Zl}{σ:L2.St}{B:Addr->Prop}
def SR.mut (r:SR K H0 B Hf sd σ H){b:Addr}{o:HO}(h0:H0 b=none)(hf:Hf b=none)(off:Zl0 sd σ b):SR K H0 B Hf sd σ (upd H b o):=
 ⟨fun c u q=>by rw[Zp (Z9 q hf)];exact r.sub c u q,fun c u q=>by rw[Zp (Z9 q h0)];exact r.all c u q,r.ban,r.bt,r.len,r.imS,fun i t e ow=>by
  obtain⟨p,e1,e2,e3,e4⟩:=r.ow i t e ow
  refine⟨p,e1,e2,e3,Gj e4 (Same.refl _) fun u h=>?_⟩
  rw[Zp]
  ·exact h
  ·rintro rfl
   exact off i t e ow e1,r.sep⟩
def Gr.new (e:Same Hf H){b:Addr}(h:H b=none)(o:HO):Gr Hf H Hf (upd H b o):=⟨Same.refl _,e.trans (Qw h o),Qw h o,fun _ _ z=>z⟩
end
def qD (q:By):List (List Y3×D):=q.map fun p=>(p.1,D.lst p.2)
def Zna (K:PySem.W.Frag)(CF:Addr)(Fb:List D->Option By):Sp:=fun vs H Q _=>∃Hf x dx hall ppl q vh vp,vs=[.ref x,vh,vp]/\Same Hf H/\Hf x=none/\H x=some (.ins CF dx [])/\Rep K Hf hall vh/\Rep K Hf (.lst ppl) vp/\ppl.length<=1000000/\Fb ppl=some q /\
 ∀Hf' H' k,Same Hf Hf'->Same Hf' H'->(∀b u,b≠x->H b=some u->H' b=some u)->(∀b,Lv H b->Hf b=none->b≠x->Hf' b=none)->FlK K Hf' x hall (qD q) k->Hf' k=none->H' k=some (.dT [])->H k=none->Q .non H'
end DL
namespace RV
open PySem PyProof.Rows
def Ti:Manifest.owners.lookup (String.ofList ['d','e','s','r','e','v','e','r'].reverse)=some Manifest.sig_reversed:=by kernel_rfl
def slot_next:Slot "reversed" "__next__" "reversed.__next__":=
 .of (owner:="reversed") (n:="__next__") (by rw[typeLookup_type,builtinLookup_eq_fast];kernel_rfl) (by decide +kernel) (by decide +kernel) (by decide +kernel)
  (by first|exact .inl (by decide +kernel)|exact .inr (by decide +kernel)) (by rw[isSubtype_type];kernel_rfl)
def Tj:entryFor table "reversed.__next__"=some Builtin.«reversed.__next__»:=entryFor_of_tree (by kernel_rfl)
def Mr (a:Value):argsOk "reversed.__next__" ⟨[a],[]⟩:=by
 unfold argsOk;rw[signature?_of (id:="reversed.__next__") (n:=['_','_','t','x','e','n','_','_']) (o:=['d','e','s','r','e','v','e','r']) (by kernel_rfl) Ti];kernel_rfl
def Ms:Slot "reversed" "__iter__" "reversed.__iter__":=
 .of (owner:="reversed") (n:="__iter__") (by rw[typeLookup_type,builtinLookup_eq_fast];kernel_rfl) (by decide +kernel) (by decide +kernel) (by decide +kernel)
  (by first|exact .inl (by decide +kernel)|exact .inr (by decide +kernel)) (by rw[isSubtype_type];kernel_rfl)
def Zav (a:Value):argsOk "reversed.__iter__" ⟨[a],[]⟩:=by
 unfold argsOk;rw[signature?_of (id:="reversed.__iter__") (n:=['_','_','r','e','t','i','_','_']) (o:=['d','e','s','r','e','v','e','r']) (by kernel_rfl) Ti];kernel_rfl
def E6:entryFor table "reversed.__iter__"=some Builtin.«dict_keyiterator.__iter__»:=
 entryFor_alias (id':="dict_keyiterator.__iter__") (by kernel_rfl) (by first|rfl|decide +kernel|(unfold String.splitOn;simp +decide [String.splitOnAux])) (by decide +kernel) (by kernel_rfl)
def slot_hint:Slot "reversed" "__length_hint__" "reversed.__length_hint__":=
 .of (owner:="reversed") (n:="__length_hint__") (by rw[typeLookup_type,builtinLookup_eq_fast];kernel_rfl) (by decide +kernel) (by decide +kernel) (by decide +kernel)
  (by first|exact .inl (by decide +kernel)|exact .inr (by decide +kernel)) (by rw[isSubtype_type];kernel_rfl)
def E7:entryFor table "reversed.__length_hint__"=some Builtin.«reversed.__length_hint__»:=entryFor_of_tree (by kernel_rfl)
def Zaw (a:Value):argsOk "reversed.__length_hint__" ⟨[a],[]⟩:=by
 unfold argsOk;rw[signature?_of (id:="reversed.__length_hint__") (n:="__length_hint__".toList.reverse) (o:=['d','e','s','r','e','v','e','r']) (by kernel_rfl) Ti];kernel_rfl
def Zkm:typeLookup (.type "reversed") "__len__"=pure none:=by rw[typeLookup_type,builtinLookup_eq_fast];kernel_rfl
def Zkn:typeLookup (.type "tuple") "__reversed__"=pure none:=by rw[typeLookup_type,builtinLookup_eq_fast];kernel_rfl
def C4:typeLookup (.type "tuple") "__getitem__"=pure (some (.builtin "tuple.__getitem__")):=by rw[typeLookup_type,builtinLookup_eq_fast];kernel_rfl
def rvObj (t:Addr)(i:Int):Obj:={cls:=.type "reversed", data:=.fields #[.ref t,rawInt i]}
def Zax:Slot "reversed" "__init__" "object.__init__":=
 .of (owner:="object") (n:="__init__") (by rw[typeLookup_type,builtinLookup_eq_fast];kernel_rfl) (by decide +kernel) (by decide +kernel) (by decide +kernel)
  (by first|exact .inl (by decide +kernel)|exact .inr (by decide +kernel)) (by rw[isSubtype_type];kernel_rfl)
def E8:TypeCalled "reversed" "reversed.__new__" "object.__init__":=
 ⟨by decide +kernel,by decide +kernel,⟨_,_,F.mro_reversed⟩,F.made_reversed,by decide +kernel,by rw[isSubtype_type];kernel_rfl,Zax⟩
def Zay (t:Addr)(items:Array Value)(hz:items.size<=1000000):Meets (Builtin.«reversed.__new__» ⟨[.type "reversed", .ref t],[]⟩)
  (fun _ R s=>IsTup s.heap t items/\∀tk,R (.ok (.ret (.ref s.heap.objs.size))) {s with heap:=s.heap.push (rvObj t ((items.size:Int)-1)),toks:=tk}):=
 .of_wp fun prog w A R s h=>by
  obtain⟨ht,h⟩:=h
  unfold Builtin.«reversed.__new__»
  refine wpAny_bind (wpAny_of_eq (newClass_reversed _) ?_)
  try dsimp only
  refine wpAny_bind (wpAny_of_eq (a:=()) (by first|rfl|kernel_rfl) ?_)
  refine wpAny_bind (wpAny_of_eq (a:=()) (by first|rfl|kernel_rfl) ?_)
  try dsimp only
  refine wpAny_bind (wpAny_specialOf ht.typeIs Zkn ?_)
  try dsimp only
  refine wpAny_bind ?_
  refine wpAny_bind (m:=isInstance (.ref t) (.type "dict")) (wpAny_isInstance (b:=false) ht.typeIs (by rw[isSubtype_type];kernel_rfl) ?_)
  refine wpAny_bind (m:=specialOf (.ref t) (Str.ofString "__getitem__")) (wpAny_specialOf ht.typeIs C4 ?_)
  try dsimp only
  show wpAny _ _ (if(["tuple.__getitem__","str.__getitem__","bytes.__getitem__","bytearray.__getitem__","memoryview.__getitem__","numpy.ndarray.__getitem__","sqlite3.Row.__getitem__"]:List String).contains "tuple.__getitem__"=true then _ else _) _ _ _
  rw[if_pos (by decide +kernel)]
  refine wpAny_pure ?_
  rw[if_neg (by decide)]
  refine wpAny_bind (len_tuple ht (by lia) ?_)
  refine wpAny_bind (m:=asInt? (.int (items.size:Int) _)) (wpAny_pure ?_)
  try dsimp only
  refine wpAny_bind (m:=Builtin.SmallTypes.newRecord (Value.type "reversed") [Value.ref t,rawInt ((items.size:Int)-1)]) ?_
  show wpAny _ _ (newObj (.type "reversed") (.fields #[.ref t,rawInt ((items.size:Int)-1)])) _ _ _
  exact wpAny_newObj_type (wpAny_pure ⟨_,rfl,h _⟩)
section
variable {prog:Program}{w:World}{A:Around}{E:Value->Shared->Prop}{s:Shared}
def call_rev {t:Addr}{items:Array Value}{Q:Value->Shared->Prop}(ht:IsTup s.heap t items)(hz:items.size<=1000000)(h:∀tk,Q (.ref s.heap.objs.size) {s with heap:=s.heap.push (rvObj t ((items.size:Int)-1)),toks:=tk}):wpAny (model prog w) A (call (.type "reversed") [.ref t]) Q E s:=
 callType_new E8 (by decide) (F.typeCall_reversed_1 _) (F.newCall_reversed_1 _) (fun obj=>F.args_object_init_2 obj _) F.entry_reversed_new
  (Zay t items hz) ⟨ht,fun tk=>⟨⟨_,Heap.get?_push_size _ rfl,rfl⟩,h tk⟩⟩
def IsRv (h:Heap)(a t:Addr)(i:Int):Prop:=∃o,h.get? a=some o/\o.cls=.type "reversed"/\o.data=.fields #[.ref t,rawInt i]
def IsRv.typeIs {a t:Addr}{i:Int}(x:IsRv s.heap a t i):s.TypeIs (.ref a) "reversed":=let ⟨o,ho,hc,_⟩:=x;⟨o,ho,hc⟩
def IsRv.at {h h':Heap}{a t:Addr}{i:Int}(x:IsRv h a t i)(e:∀o,h.get? a=some o->h'.get? a=some o):IsRv h' a t i:=let ⟨o,ho,r⟩:=x;⟨o,e _ ho,r⟩
def Zaz {it t:Addr}{i:Nat}{items:Array Value}{x:Value}{Q:Option Value->Shared->Prop}(hit:IsRv s.heap it t (i:Int))(ht:IsTup s.heap t items)(hz:items.size<=1000000)(hx:items[i]?=some x)(hQ:∀h' tk,IsRv h' it t ((i:Int)-1)->Heap.SameBut it s.heap h'->Q (some x) {s with heap:=h',toks:=tk}):wpAny (model prog w) A (pyNext (.ref it)) Q E s:=by
 obtain⟨o,ho,hc,hd⟩:=id hit
 have hi:i<items.size:=(Array.getElem?_eq_some_iff.mp hx).1
 unfold pyNext
 refine wpAny_bind (wpAny_attempt (wpAny_callSpecial?_slot (name:=Str.ofString "__next__") hit.typeIs slot_next
  (wpAny_call_entry slot_next hit.typeIs Tj ?_ (Mr _))))
 unfold Builtin.«reversed.__next__»
 refine wpAny_bind (wpAny_of_eq (a:=(Value.ref it,[])) rfl ?_)
 try dsimp only
 refine wpAny_bind (wpAny_field ho hd (x:=.ref t) rfl ?_)
 refine wpAny_bind (wpAny_field ho hd (x:=rawInt (i:Int)) rfl ?_)
 show wpAny _ _ (if(i:Int)<0 then _ else _) _ _ s
 rw[if_neg (by lia)]
 refine wpAny_bind (m:=specialOf (.ref t) (Str.ofString "__getitem__")) (wpAny_specialOf ht.typeIs C4 ?_)
 show wpAny _ _ (if(Option.isNone (some (Value.builtin "tuple.__getitem__")))=true then _ else _) _ _ s
 rw[if_neg (by decide)]
 refine wpAny_bind (wpAny_mkInt ?_)
 refine wpAny_bind (wpAny_attempt (getItem_tuple (j:=i) ht (by lia) (by lia) (by simp[seqIndex?];lia) hx ?_))
 refine wpAny_bind (wpAny_field (s:={s with toks:=s.toks+1}) ho hd (x:=rawInt (i:Int)) rfl ?_)
 show wpAny _ _ (setField (.ref it) 1 (rawInt ((i:Int)-1))>>=_) _ _ _
 refine wpAny_bind (wpAny_setField (s:={s with toks:=s.toks+1}) ho hd (by simp) ?_)
 exact wpAny_pure ⟨x,rfl,wpAny_pure (hQ _ _ ⟨_,Heap.get?_update_self _ ho (Obj.isFreed_of_fields (Obj.data_mapFields hd _)),(Obj.cls_mapFields ..).trans hc,by rw[Obj.data_mapFields hd];simp⟩ (Heap.SameBut.update ..))⟩
def Zdn {it t:Addr}{Q:Option Value->Shared->Prop}(hh:A.handled=none)(hit:IsRv s.heap it t (-1))(hQ:∀h',Heap.ExtBut it s.heap h'->Q none {s with heap:=h'}):wpAny (model prog w) A (pyNext (.ref it)) Q E s:=by
 obtain⟨o,ho,hc,hd⟩:=id hit
 unfold pyNext
 refine wpAny_bind (wpAny_attempt (wpAny_callSpecial?_slot (name:=Str.ofString "__next__") hit.typeIs slot_next
  (wpAny_call_entry slot_next hit.typeIs Tj ?_ (Mr _))))
 unfold Builtin.«reversed.__next__»
 refine wpAny_bind (wpAny_of_eq (a:=(Value.ref it,[])) rfl ?_)
 try dsimp only
 refine wpAny_bind (wpAny_field ho hd (x:=.ref t) rfl ?_)
 refine wpAny_bind (wpAny_field ho hd (x:=rawInt (-1)) rfl ?_)
 show wpAny _ _ (if(-1:Int)<0 then _ else _) _ _ s
 rw[if_pos (by decide)]
 refine wpAny_bind (wpAny_rule ?_)
 refine wpAny_bind ?_
 refine wpAny_bind (m:=setField (.ref it) 1 (rawInt (-1))) (wpAny_setField ho hd (by simp) ?_)
 have ho1:=Heap.get?_update_self (Obj.mapFields fun x=>x.setIfInBounds 1 (rawInt (-1))) ho (Obj.isFreed_of_fields (Obj.data_mapFields hd _))
 refine wpAny_setField (s:={s with heap:=_}) ho1 (Obj.data_mapFields hd _) (by simp) ?_
 refine wpAny_bind ?_
 show wpAny _ _ (newExc (.type "StopIteration") []>>=_) _ _ _
 refine wpAny_bind ?_
 simp only[newExc,newTuple]
 refine wpAny_bind (wpAny_newObj_type ?_ (by size_fits))
 refine wpAny_bind (m:=firstArgMember _ _) (wpAny_of_eq (a:=Value.none) (by first|rfl|(simp only[firstArgMember];rfl)) ?_)
 refine wpAny_newObj_type ?_ (by size_fits)
 simp only[raiseNew]
 refine wpAny_bind (wpAny_handled ?_)
 first|rw[show A.in1.handled=none from hh]|rw[hh]
 refine wpAny_bind (wpAny_pure (wpAny_throw ?_))
 refine wpAny_bind (wpAny_isInstance (T:="StopIteration") (b:=true) ⟨_,Heap.get?_push_size _ rfl,rfl⟩ isSubtype_stop ?_)
 exact wpAny_pure (hQ _ fun b o nb e=>Heap.get?_push_of_some _ (Heap.get?_push_of_some _ ((Heap.get?_update_other _ _ (Ne.symm nb)).trans ((Heap.get?_update_other _ _ (Ne.symm nb)).trans e))))
def Id {it t:Addr}{i:Int}{Q:Value->Shared->Prop}(hit:IsRv s.heap it t i)(h:Q (.ref it) s):wpAny (model prog w) A (pyIter (.ref it)) Q E s:=by
 refine wpAny_pyIter_slot hit.typeIs Ms (wpAny_call_entry Ms hit.typeIs E6 ?_ (Zav _))
 show wpAny _ _ (ret (.ref it)) _ _ s
 exact wpAny_pure ⟨_,rfl,"reversed", _,hit.typeIs,slot_next.lookup,h⟩
end
def Znb {prog:Program}{w:World}{A:Around}(hh:A.handled=none)(I t:Addr)(hne:t≠I)(items:Array Value)(hz:items.size<=1000000):
  Walks prog w A I [I,t] [I] items.size (fun i v=>items[items.size-1-i]?=some v) (fun i h=>i<=items.size/\IsRv h I t ((items.size:Int)-1-(i:Int))/\IsTup h t items) where
 sub:=fun b hb=>by simp at hb;simp[hb]
 frame:=fun _ _ _ x hk=>⟨x.1,x.2.1.at fun o e=>hk I (by simp) o e,let ⟨o,e,r⟩:=x.2.2;⟨o,hk t (by simp) o e,r⟩⟩
 item:=fun i s Q E hi x hQ=>by
  have e:(items.size:Int)-1-(i:Int)=((items.size-1-i:Nat):Int):=by lia
  have hit:=x.2.1
  rw[e] at hit
  have hx:items[items.size-1-i]?=some (items[items.size-1-i]'(by lia)):=Array.getElem?_eq_getElem (by lia)
  refine Zaz hit x.2.2 hz hx fun h' tk hit' hs'=>?_
  have e2:((items.size-1-i:Nat):Int)-1=(items.size:Int)-1-((i+1:Nat):Int):=by lia
  rw[e2] at hit'
  exact hQ _ h' tk hx ⟨hi,hit',let ⟨o,eo,r⟩:=x.2.2;⟨o,(hs'.2 t hne).trans eo,r⟩⟩ fun b o hb eo=>hs'.extBut b o (fun h=>hb (by simp[h])) eo
 done:=fun s Q E x hQ=>by
  have e:(items.size:Int)-1-(items.size:Int) = -1:=by lia
  have hit:=x.2.1
  rw[e] at hit
  exact Zdn hh hit fun h' he'=>hQ h' s.toks fun b o hb eo=>he' b o (fun h=>hb (by simp[h])) eo
 self:=fun _ _ _ _ x hQ=>Id x.2.1 hQ
section
variable {prog:Program}{w:World}{A:Around}{E:Value->Shared->Prop}{s:Shared}
def Za0 {I t:Addr}{i:Int}{items:Array Value}{Q:Value->Shared->Prop}(hit:IsRv s.heap I t i)(ht:IsTup s.heap t items)(hz:items.size<=1000000)(hi:i<items.size)(h:∀u tk,s.toks<=tk->Q (.int (i+1) u) {s with toks:=tk}):wpAny (model prog w) A (call (.builtin "reversed.__length_hint__") [.ref I]) Q E s:=by
 obtain⟨o,ho,hc,hd⟩:=id hit
 refine wpAny_call_entry slot_hint hit.typeIs E7 ?_ (Zaw _)
 unfold Builtin.«reversed.__length_hint__»
 refine wpAny_bind (wpAny_of_eq (a:=Value.ref I) rfl ?_)
 refine wpAny_bind (wpAny_field ho hd (x:=.ref t) rfl ?_)
 show wpAny _ _ (if(Value.ref t==Value.none)=true then _ else _) _ _ s
 rw[if_neg (show ¬((Value.ref t==Value.none)=true) from Bool.false_ne_true)]
 refine wpAny_bind (len_tuple ht (by lia) ?_)
 refine wpAny_bind (m:=asInt? (.int (items.size:Int) _)) (wpAny_pure ?_)
 refine wpAny_bind (wpAny_field (s:={s with toks:=s.toks+1+1}) ho hd (x:=rawInt i) rfl ?_)
 show wpAny _ _ (if(items.size:Int)<i+1 then _ else _) _ _ _
 rw[if_neg (by lia)]
 refine wpAny_bind (wpAny_mkInt (wpAny_pure ⟨_,rfl,h _ _ ?_⟩))
 show s.toks<=s.toks+1+1+1
 lia
def E9 {I t:Addr}{items:Array Value}{Q:List Value->Shared->Prop}(hh:A.handled=none)(hit:IsRv s.heap I t ((items.size:Int)-1))(ht:IsTup s.heap t items)(hne:t≠I)(hz:items.size<=1000000)(hQ:∀s',(∀b o,b≠I->s.heap.get? b=some o->s'.heap.get? b=some o)->s'.gens=s.gens->s'.drawn=s.drawn->s'.os=s.os->s.heap.objs.size<s'.heap.objs.size->Q items.toList.reverse s'):
  wpAny (model prog w) A (collect (.ref I)) Q E s:=by
 have hlI:I<s.heap.objs.size:=let ⟨_,ho,_⟩:=hit;Heap.lt_size ho
 have hlt:t<s.heap.objs.size:=let ⟨_,ho,_⟩:=ht;Heap.lt_size ho
 unfold collect
 refine wpAny_bind (wpAny_runValue (codeAny_builtin F.entry_proto_collect ?_))
 rw[Around.under_plainId F.plain_proto_collect _]
 show wpAny _ A.in1 (newList []>>=fun l=>again (.builtin "list.__iadd__" ⟨[l,.ref I],[]⟩)) _ _ s
 refine wpAny_bind (wpAny_newObj_type ?_)
 refine wpAny_pure ⟨plainId_quiet F.plain_list_iadd _,codeAny_builtin F.entry_list_iadd ?_⟩
 rw[Around.under_plainId F.plain_list_iadd _]
 have hS1:(s.heap.push {cls:=.type "list", data:=.seq ([]:List Value).toArray}).get? s.heap.objs.size=some {cls:=.type "list", data:=.seq ([]:List Value).toArray}:=Heap.get?_push_size _ rfl
 have keep1:∀b o,s.heap.get? b=some o->(s.heap.push {cls:=.type "list", data:=.seq ([]:List Value).toArray}).get? b=some o:=fun b o e=>Heap.get?_push_of_some _ e
 generalize (s.heap.push {cls:=.type "list", data:=.seq ([]:List Value).toArray})=h1 at hS1 keep1 ⊢
 have hit1:IsRv h1 I t ((items.size:Int)-1):=hit.at fun o e=>keep1 I o e
 have ht1:IsTup h1 t items:=ht.keeps keep1
 have hs:Builtin.List.listSameRef (.ref s.heap.objs.size) (.ref I)=false:=by simp[Builtin.List.listSameRef];exact Nat.ne_of_gt hlI
 show wpAny _ A.in1 (Builtin.List.listExtendWith (.ref s.heap.objs.size) (.ref I) (.ref s.heap.objs.size)) _ _ _
 unfold Builtin.List.listExtendWith
 refine wpAny_bind (wpAny_typeOf (s:={s with heap:=h1}) (IsRv.typeIs (s:={s with heap:=h1}) hit1) ?_)
 rw[if_neg (by rw[hs];decide)]
 refine wpAny_bind (Id (s:={s with heap:=h1}) hit1 ?_)
 refine wpAny_bind (wpAny_holding ?_)
 unfold Builtin.List.listLengthHint
 refine wpAny_bind (wpAny_specialOf (s:={s with heap:=h1}) (IsRv.typeIs (s:={s with heap:=h1}) hit1) Zkm ?_)
 show wpAny _ A.in1 (specialOf (Value.ref I) (Str.ofString "__length_hint__")>>=_) _ _ _
 refine wpAny_bind (wpAny_specialOf (s:={s with heap:=h1}) (IsRv.typeIs (s:={s with heap:=h1}) hit1) slot_hint.lookup ?_)
 (generalize hid:("reversed.__length_hint__":String)=id0;(fail_if_success (clear hid id0));wp_delta;rw[show splitId id0=some ("reversed","__length_hint__") from by subst hid;decide +kernel];subst hid)
 refine wpAny_bind (wpAny_isInstance (s:={s with heap:=h1}) (b:=true) (IsRv.typeIs (s:={s with heap:=h1}) hit1) (by rw[isSubtype_type];kernel_rfl) ?_)
 rw[if_neg (show ¬((!true)=true) by decide)]
 dsimp only
 rw[if_neg (by decide +kernel)]
 refine wpAny_bind (wpAny_rule ?_)
 refine wpAny_bind (wpAny_of_eq (slot_hint.bind _) ?_)
 dsimp only
 refine wpAny_bind (wpAny_attempt (Za0 (s:={s with heap:=h1}) hit1 ht1 hz (by lia) fun u tk htk=>?_))
 dsimp only
 refine wpAny_bind (m:=asInt? _) (wpAny_pure ?_)
 dsimp only
 have en:(items.size:Int)-1+1=(items.size:Int):=by lia
 rw[en]
 have f1:Builtin.List.listFitsIndex (items.size:Int)=true:=by unfold Builtin.List.listFitsIndex;simp;lia
 have f2:Builtin.List.listTooLong ((items.size:Int).toNat)=false:=by
  have:(1000000:Nat)<=sizeLine:=by decide
  unfold Builtin.List.listTooLong;simp;lia
 rw[if_neg (by rw[f1];decide),if_neg (by lia),if_neg (by rw[f2];decide)]
 refine wpAny_pure ?_
 have W:=(Znb (prog:=prog) (w:=w) (A:=A.in1) (by simp[hh]) I t hne items hz).toS
 have hsz:items.size<=sizeLine:=Nat.le_trans hz (by decide)
 have ea:∀acc':Array Value,ItemsOf (fun i v=>items[items.size-1-i]?=some v) acc' items.size->acc'.toList=items.toList.reverse:=fun acc' hacc=>by
  apply List.ext_getElem?
  intro j
  rw[Array.getElem?_toList]
  by_cases hj:j<items.size
  ·rw[List.getElem?_reverse (by rw[Array.length_toList];exact hj),Array.length_toList,Array.getElem?_toList]
   cases q:acc'[j]? with
   |some v=>exact(hacc.2 j v q).symm
   |none=>
    have h1:=Array.getElem?_eq_none_iff.mp q
    rw[hacc.1] at h1
    lia
  ·rw[Array.getElem?_eq_none (by rw[hacc.1];lia),List.getElem?_eq_none (by rw[List.length_reverse,Array.length_toList];lia)]
 by_cases h0:items.size=0
 ·rw[if_neg (by rw[h0];decide +kernel)]
  have HS:=hS1
  have HI:=hit1
  have HT:=ht1
  have KP:=keep1
  refine wpAny_pure ⟨plainId_quiet F.plain_extend_loop _,codeAny_extend_loopS W hsz s.heap.objs.size (by simp;exact⟨Nat.ne_of_gt hlI,Nat.ne_of_gt hlt⟩) _ items.size 0 _ #[] _ rfl (Nat.zero_le _) ?_ HS (ItemsOf.nil _) fun s' acc' c' hm hS' hacc=>?_⟩
  ·exact⟨Nat.zero_le _,by show IsRv _ I t ((items.size:Int)-1-((0:Nat):Int));rw[show(items.size:Int)-1-((0:Nat):Int)=(items.size:Int)-1 by lia];exact HI,HT⟩
  ·show wpAny _ A (load s.heap.objs.size>>=_) _ _ s'
   refine wpAny_bind (wpAny_load hS' ?_)
   refine wpAny_pure ?_
   rw[ea _ hacc]
   exact hQ s' (fun b o nb e=>hm.heap b o (by
    have:=Heap.lt_size e
    simp only[List.mem_cons,List.not_mem_nil,or_false,not_or]
    exact⟨Nat.ne_of_lt this,nb⟩) (KP b o e)) hm.gens hm.drawn hm.os (Heap.lt_size hS')
 ·rw[if_pos (by rw[show((items.size:Int) != 0)=true from bne_iff_ne.mpr (by lia)];rfl)]
  refine wpAny_bind (wpAny_rule ?_)
  unfold Builtin.List.listTouch
  refine wpAny_bind (wpAny_bind (m:=Builtin.List.listUpdate (.ref s.heap.objs.size) (·.push .none)) (listUpdate_at (s:={s with heap:=h1,toks:=tk}) (o:={cls:=.type "list", data:=.seq ([]:List Value).toArray}) (xs:=#[]) (n:=0) (f:=(·.push .none)) hS1 rfl ?_ (by decide) (by decide)))
  obtain⟨e1,hS3⟩:∃e1,(h1.update s.heap.objs.size (Obj.mapSeq (·.push .none))).get? s.heap.objs.size=some {cls:=.type "list", data:=.seq (#[].push Value.none) e1}:=⟨_,Heap.get?_update_self _ hS1 rfl⟩
  refine listUpdate_at (s:={s with heap:=h1.update s.heap.objs.size (Obj.mapSeq (·.push .none)),toks:=tk}) (o:={cls:=.type "list", data:=.seq (#[].push Value.none) e1}) (xs:=#[].push Value.none) (n:=e1) (f:=(·.pop)) hS3 rfl ?_ (by decide) (by decide)
  obtain⟨e2,HS⟩:∃e2,((h1.update s.heap.objs.size (Obj.mapSeq (·.push .none))).update s.heap.objs.size (Obj.mapSeq (·.pop))).get? s.heap.objs.size=some {cls:=.type "list", data:=.seq #[] e2}:=⟨_,Heap.get?_update_self _ hS3 rfl⟩
  have oth:∀b o,b≠s.heap.objs.size->h1.get? b=some o->((h1.update s.heap.objs.size (Obj.mapSeq (·.push .none))).update s.heap.objs.size (Obj.mapSeq (·.pop))).get? b=some o:=fun b o nb e=>(Heap.get?_update_other _ _ (Ne.symm nb)).trans ((Heap.get?_update_other _ _ (Ne.symm nb)).trans e)
  generalize ((h1.update s.heap.objs.size (Obj.mapSeq (·.push .none))).update s.heap.objs.size (Obj.mapSeq (·.pop)))=h4 at HS oth ⊢
  have HI:IsRv h4 I t ((items.size:Int)-1):=hit1.at fun o e=>oth I o (Nat.ne_of_lt hlI) e
  have HT:IsTup h4 t items:=let ⟨o,e,r⟩:=ht1;⟨o,oth t o (Nat.ne_of_lt hlt) e,r⟩
  have KP:∀b o,s.heap.get? b=some o->h4.get? b=some o:=fun b o e=>oth b o (Nat.ne_of_lt (Heap.lt_size e)) (keep1 b o e)
  refine wpAny_pure ⟨plainId_quiet F.plain_extend_loop _,codeAny_extend_loopS W hsz s.heap.objs.size (by simp;exact⟨Nat.ne_of_gt hlI,Nat.ne_of_gt hlt⟩) _ items.size 0 _ #[] _ rfl (Nat.zero_le _) ?_ HS (ItemsOf.nil _) fun s' acc' c' hm hS' hacc=>?_⟩
  ·exact⟨Nat.zero_le _,by show IsRv _ I t ((items.size:Int)-1-((0:Nat):Int));rw[show(items.size:Int)-1-((0:Nat):Int)=(items.size:Int)-1 by lia];exact HI,HT⟩
  ·show wpAny _ A (load s.heap.objs.size>>=_) _ _ s'
   refine wpAny_bind (wpAny_load hS' ?_)
   refine wpAny_pure ?_
   rw[ea _ hacc]
   exact hQ s' (fun b o nb e=>hm.heap b o (by
    have:=Heap.lt_size e
    simp only[List.mem_cons,List.not_mem_nil,or_false,not_or]
    exact⟨Nat.ne_of_lt this,nb⟩) (KP b o e)) hm.gens hm.drawn hm.os (Heap.lt_size hS')
end
end RV
namespace RV
open PySem PyProof.Rows
open AutoSeq1 (wpAny_loadPart')
def Za1 (I t:Addr)(items:Array Value)(hz:items.size<=1000000)(hne:t≠I):
  Meets (Builtin.«tuple.__new__» ⟨[.type "tuple", .ref I],[]⟩)
   (fun A R s=>A.handled=none/\IsRv s.heap I t ((items.size:Int)-1)/\IsTup s.heap t items/\∀s':Shared,(∀b o,b≠I->s.heap.get? b=some o->s'.heap.get? b=some o)->s'.gens=s.gens->s'.drawn=s.drawn->s'.os=s.os->s.heap.objs.size<s'.heap.objs.size->R (.ok (.ret (.ref s'.heap.objs.size))) {s' with heap:=s'.heap.push {cls:=.type "tuple", data:=.seq items.toList.reverse.toArray}}):=
 .of_wp fun prog w A R s h=>by
  obtain⟨hp,g,d,tk,os⟩:=s;obtain⟨hh,hit,ht,h⟩:=h
  obtain⟨o,ho,hc,hd⟩:=id hit
  have hsub:=sub_tuple_self
  have hinit:=init_tuple_lookup
  have hmh:=madeHere_tuple
  have hT:Shared.TypeIs ⟨hp,g,d,tk,os⟩ (.ref I) "reversed":=⟨o,ho,hc⟩
  wp_walk using wpAny_loadPart' ho,wpAny_typeOf hT,E9 (s:=⟨hp,g,d,tk,os⟩) (by simp[hh]) hit ht hne hz
  intro s' k1 k2 k3 k4 k5
  show wpAny _ _ (Builtin.Tuple.tupleExact items.toList.reverse.toArray>>=fun v=>ret v) _ _ _
  unfold Builtin.Tuple.tupleExact
  refine wpAny_bind (wpAny_newObj_type ?_ (by show items.toList.reverse.toArray.size<=sizeLine;simp;exact Nat.le_trans hz (by decide)))
  exact wpAny_pure ⟨_,rfl,h s' k1 k2 k3 k4 k5⟩
section
variable {prog:Program}{w:World}{A:Around}{E:Value->Shared->Prop}{s:Shared}
def call_tup {I t:Addr}{items:Array Value}{Q:Value->Shared->Prop}(hh:A.handled=none)(hit:IsRv s.heap I t ((items.size:Int)-1))(ht:IsTup s.heap t items)(hne:t≠I)(hz:items.size<=1000000)
  (h:∀s':Shared,(∀b o,b≠I->s.heap.get? b=some o->s'.heap.get? b=some o)->s'.gens=s.gens->s'.drawn=s.drawn->s'.os=s.os->s.heap.objs.size<s'.heap.objs.size->Q (.ref s'.heap.objs.size) {s' with heap:=s'.heap.push {cls:=.type "tuple", data:=.seq items.toList.reverse.toArray}}):
  wpAny (model prog w) A (call (.type "tuple") [.ref I]) Q E s:=
 callType_new F.called_tuple (by decide) (F.typeCall_tuple_1 _) (F.newCall_tuple_1 _) (fun obj=>F.args_object_init_2 obj _) F.entry_tuple_new
  (Za1 I t items hz hne) ⟨by simp[hh],hit,ht,fun s' k1 k2 k3 k4 k5=>⟨⟨_,Heap.get?_push_size _ rfl,rfl⟩,h s' k1 k2 k3 k4 k5⟩⟩
end
end RV
namespace DL
open PySem PySem.Spec PyProof.Rows L2 PySem.W
def C5 (f:Zl->M D)(sd:Zl):M D:=(f sd).bind fun d=>match d with
 |.tup ds=>if few ds then .ok (.tup ds.reverse) else .bad
 |_=>.bad
section
variable {X:Cx}{E:XK}{pos pos' p p':Pos}{e:Expr}
def Zo6 (K:Frag)(xs:List V)(H:Hp)(Q:VK):Prop:=∃(p:Addr) (ys:List V),xs=[.ref p]/\SqT K H p ys/\ys.length<=1000000/\∀l,H l=none->Q (.ref l) (upd H l (.tup ys.reverse))
def Zdo:∀{xs:List V}{us:List Value},Vals xs us->Vals xs.reverse us.reverse:=by
 intro xs us h
 induction h with
 |nil=>exact .nil
 |cons h t ih=>
  rw[List.reverse_cons,List.reverse_cons]
  exact ih.append (.cons h .nil)
def Zko {t:TA}(hc:X.calm=true) (hg:Gl X "tuple") (hm:X.mg "tuple"=none) (hv:bootBuiltins "tuple"=some (.type "tuple")) (hg2:Gl X "reversed") (hm2:X.mg "reversed"=none) (hv2:bootBuiltins "reversed"=some (.type "reversed")) (ha:PA X [e] t)
  (he:starEach [Expr.Call (.Name "reversed" p') [e] [] pos'] X.env=(false,eval (Expr.Call (.Name "reversed" p') [e] [] pos') X.env)::starEach [] X.env:=by rfl) (hpl:(backTo pos (starEach [] X.env)).any (·.1)=false:=by rfl)
  (he2:starEach [e] X.env=(false,eval e X.env)::starEach [] X.env:=by rfl) (hpl2:(backTo pos' (starEach [] X.env)).any (·.1)=false:=by rfl):
  PE X (.Call (.Name "tuple" p) [.Call (.Name "reversed" p') [e] [] pos'] [] pos) (Zos (Zo6 X.K) t):=by
 intro pins s σ H Q I h
 refine wpAny_Call_Name_kw (Nb I hg hm hv ?_ (by decide) (by decide))
 refine PyProof.Rows.callWith_type1 ?_ he hpl
 rw[he]
 show wpAny _ _ (spliced ((false,eval (Expr.Call (.Name "reversed" p') [e] [] pos') X.env)::backTo pos (starEach [] X.env))) _ _ s
 refine Calls.spliced_cons ?_
 refine wpAny_Call_Name_kw (Nb I hg2 hm2 hv2 ?_ (by decide) (by decide))
 refine PyProof.Rows.callWith_type1 (Xi (ha pos' pins s σ H _ I h) fun us s1 ⟨vs,H1,I1,r1,q1⟩=>?_) he2 hpl2
 obtain⟨a,ys,rfl,hp,hl,q⟩:=q1
 obtain⟨u,rfl,rx⟩:=Wh r1
 cases rx
 obtain⟨its,rv,pl,hz⟩:=I1.tuple hp
 have hlen:its.length=ys.length:=rv.length.symm
 have hsz:its.toArray.size<=1000000:=by rw[List.size_toArray];lia
 refine RV.call_rev pl hsz fun tk=>?_
 refine Calls.spliced_nil ?_
 have hpa:=let ⟨_,ho,_⟩:=pl;Heap.lt_size ho
 refine RV.call_tup (s:={s1 with heap:=s1.heap.push (RV.rvObj a ((its.toArray.size:Int)-1)),toks:=tk}) (t:=a) (items:=its.toArray) (I1.ok.hd hc) ⟨_,Heap.get?_push_size _ rfl,rfl,rfl⟩ (pl.keeps fun b o e=>Heap.get?_push_of_some _ e) (Nat.ne_of_lt hpa) hsz fun s' k1 k2 k3 k4 k5=>?_
 obtain⟨h2,g2,d2,tk2,os2⟩:=s'
 dsimp only at k1 k2 k3 k4 k5
 subst k2;subst k3;subst k4
 have kk:∀b o,s1.heap.get? b=some o->h2.get? b=some o:=fun b o e=>k1 b o (Nat.ne_of_lt (Heap.lt_size e)) (Heap.get?_push_of_some _ e)
 have k6:s1.heap.objs.size<=h2.objs.size:=by
  have:(s1.heap.push (RV.rvObj a ((its.toArray.size:Int)-1))).objs.size=s1.heap.objs.size+1:=Heap.size_push ..
  lia
 refine⟨.ref h2.objs.size,_,I1.laid (t':=tk2) (o:=.tup ys.reverse) (fun b o e=>Heap.get?_push_of_some _ (kk b o e)) k6 ⟨by rw[List.length_reverse];exact hz,its.reverse,Zdo rv,?_⟩,rfl,q _ (I1.hok.fresh k6)⟩
 have:its.toArray.toList.reverse.toArray=its.reverse.toArray:=by simp
 rw[<-this]
 exact IsTup.new _ _
def Zgq {f:Zl->M D}(hc:X.calm=true) (z1:X.mg "tuple"=none) (z2:X.mg "reversed"=none) (h:X4 X E e f) (hg:Gl X "tuple":=by rfl) (hg2:Gl X "reversed":=by rfl)
  (he:starEach [Expr.Call (.Name "reversed" p') [e] [] pos'] X.env=(false,eval (Expr.Call (.Name "reversed" p') [e] [] pos') X.env)::starEach [] X.env:=by rfl) (hpl:(backTo pos (starEach [] X.env)).any (·.1)=false:=by rfl)
  (he2:starEach [e] X.env=(false,eval e X.env)::starEach [] X.env:=by rfl) (hpl2:(backTo pos' (starEach [] X.env)).any (·.1)=false:=by rfl):
  X4 X E (.Call (.Name "tuple" p) [.Call (.Name "reversed" p') [e] [] pos'] [] pos) (C5 f):=by
 obtain⟨t,pt,qt⟩:=Za h Ze he2
 refine⟨_,Zko hc hg z1 (by rfl) hg2 z2 (by rfl) pt he hpl he2 hpl2,fun H0 B Hf sd σ H Q sr h=>?_⟩
 have h':Po X.K E (rV X.K) Hf H ((Zb f Zh sd).bind fun ds=>match ds with | [.tup ds]=>if few ds then M.ok (D.tup ds.reverse) else .bad|_=>.bad) Q:=by
  unfold C5 at h
  unfold Zb Zh
  cases q:f sd with
  |ok d=>rw[q] at h;cases d<;>exact h
  |ex x=>rw[q] at h;exact h
  |bad=>rw[q] at h;exact h
 refine qt H0 B Hf sd σ H _ sr (Po.bind h' fun ds vs Hf1 H1 _ g1 rs h1=>?_)
 split at h1
 ·split at h1
  ·rename_i ds hf
   obtain⟨x,rfl,hx⟩:=K4 rs
   obtain⟨a,ys,rfl,hp,hr⟩:=Qu hx
   refine⟨a,ys,rfl,g1.sub.seqT hp,by rw[<-hr.length];exact of_decide_eq_true hf,fun l hl=>h1 _ _ _ (Gr.alloc g1.sub hl _) (Gr.tup g1.sub hl hr.rev)⟩
  ·exact h1.elim
 ·exact h1.elim
end
end DL
namespace DL
open PySem PySem.Spec PyProof.Rows L2
section
variable {X:Cx}{E:XK}{p p2 pos:Pos}{es:List Expr}{k:Nat}
def Fd (fs:Zl->M (List D))(sd:Zl):M (List D):=(fs sd).bind fun ds=>match ds with
 |[.tup xs,.tup ys]=>.ok (Co xs ys)
 |_=>.bad
def Za2 {l m:Expr}{fs:Zl->M (List D)} (hg:Gl X "zip") (hm:X.mg "zip"=none) (h:Aw X E [l,m] fs) (hs:starEach [l,m] X.env=[(false,eval l X.env),(false,eval m X.env)]:=by rfl) (hs2:starEach [m] X.env=[(false,eval m X.env)]:=by rfl):
  Zj1 X E (.Tuple es k p2) (.Call (.Name "zip" p) [l,m] [] pos) (Fd fs):=by
 obtain⟨t,pt,q⟩:=h
 refine⟨_,Ho true true hg hm pt hs hs2,fun H0 B Hf sd σ H R sr h=>?_⟩
 refine q H0 B Hf sd σ H _ sr (Po.bind h fun ds vs Hf1 H1 _ g1 rs h1=>?_)
 split at h1
 ·rename_i xs ys
  obtain⟨v,w',rfl,rv,rw'⟩:=Zcj rs
  obtain⟨a,us,rfl,ha,hr⟩:=Qu rv
  obtain⟨b,ws,rfl,hb,hr'⟩:=Qu rw'
  exact⟨a,b,rfl,⟨us,Jr (t:=true) g1.sub ha⟩,⟨ws,Jr (t:=true) g1.sub hb⟩,Po.ret (R:=R5 X.K) g1.sub h1 (Zc1 (t1:=true) (t2:=true) ha hr hb hr')⟩
 ·exact h1.elim
def Za3 {l m:Expr}{fs:Zl->M (List D)} (hg:Gl X "zip") (hm:X.mg "zip"=none) (h:Aw X E [l,m] fs) (hs:starEach [l,m] X.env=[(false,eval l X.env),(false,eval m X.env)]:=by rfl) (hs2:starEach [m] X.env=[(false,eval m X.env)]:=by rfl):
  Zj1 X E (.Tuple es k p2) (.Call (.Name "zip" p) [l,m] [] pos) (Zga fs):=by
 obtain⟨t,pt,q⟩:=h
 refine⟨_,Ho false false hg hm pt hs hs2,fun H0 B Hf sd σ H R sr h=>?_⟩
 refine q H0 B Hf sd σ H _ sr (Po.bind h fun ds vs Hf1 H1 _ g1 rs h1=>?_)
 split at h1
 ·rename_i xs ys
  obtain⟨v,w',rfl,rv,rw'⟩:=Zcj rs
  obtain⟨a,us,rfl,ha,hr⟩:=rep_lst.mp rv
  obtain⟨b,ws,rfl,hb,hr'⟩:=rep_lst.mp rw'
  exact⟨a,b,rfl,⟨us,Jr (t:=false) g1.sub ha⟩,⟨ws,Jr (t:=false) g1.sub hb⟩,Po.ret (R:=R5 X.K) g1.sub h1 (Zc1 (t1:=false) (t2:=false) ha hr hb hr')⟩
 ·exact h1.elim
end
structure Dm (K:PySem.W.Frag) (mg:Str->Option Value) (x:Str) (st:Stmt):Prop where
 ex:∃f fd,Fun K x x st f fd/\mg x=some (.ref f)
structure Mm (K:PySem.W.Frag) (C:Addr) (m q:Str) (st:Stmt):Prop where
 ex:∃f fd,Meth K C m f/\Fun K m q st f fd
structure Cl (P:Program) (w:World) (K:PySem.W.Frag) (mg:Str->Option Value) (base:Heap) (n:Nat) (x:Str) (ps:List Str) (F:List D->M S):Prop where
 ex:∃f fd,FnOk P w K mg base Xj n f fd ps (Ax K F)/\Binds K fd ps []/\PySem.W.keepIn K (.ref f)=true/\mg x=some (.ref f)
section
variable {P:Program}{w:World}{K:PySem.W.Frag}{mg:Str->Option Value}{base:Heap}
def dm_mk {h:Heap}{x:Str}{st:Stmt}{f:Addr}{oc:Value}{od an:Option Addr}{sl:Array (Option Value)}{kV dc pm cd ct:Value}(X:K.In h)(G:h.Ns mainGlobals mg)(a:PySem.W.nsIn K mainGlobals x=some (some (.ref f)))(l:K.lookup f=some ⟨oc,od,.func (PySem.W.fnOf x x (Ub st) (Xy st) (Zk st) .none kV dc pm an cd ct),sl⟩)(c:PySem.W.codeIn K cd x=true)(k:PySem.W.keepIn K (.ref f)=true):Dm K mg x st:=⟨_,_,Zch l c k,PySem.W.mg_of X G a⟩
def mm_mk {C:Addr}{m q:Str}{st:Stmt}{f:Addr}{oc:Value}{od an:Option Addr}{sl:Array (Option Value)}{kV dc pm cd ct:Value}(a:PySem.W.findIn K (.ref C) m=some (some (.ref f)))(n:PySem.W.isFn K (.ref f)=true)(l:K.lookup f=some ⟨oc,od,.func (PySem.W.fnOf m q (Ub st) (Xy st) (Zk st) .none kV dc pm an cd ct),sl⟩)(c:PySem.W.codeIn K cd q=true)(k:PySem.W.keepIn K (.ref f)=true):Mm K C m q st:=⟨_,_,⟨a,n,k⟩,Zch l c k⟩
def Dm.cl {x:Str}{st:Stmt}{n:Nat}{ps:List Str}{F:List D->M S}(d:Dm K mg x st)(hb:∀(kV doc pm:Value) (an:Option Addr) (cdv ct:Value) (us:List Value),us.length=ps.length->bindArgs (PySem.W.fnOf x x (Ub st) (Xy st) (Zk st) .none kV doc pm an cdv ct) ⟨us,[]⟩=pure (ps.zip us))(h:∀f fd,Fun K x x st f fd->FnOk P w K mg base Xj n f fd ps (Ax K F)):Cl P w K mg base n x ps F:=
 let ⟨f,fd,F,m⟩:=d.ex
 ⟨f,fd,h f fd F,F.binds hb,F.kp,m⟩
end
def Zw {X:Cx}{E:XK}{pos:Pos}{k:Nat}{ps:List Str}{F:List D->M S}{x:Str}{p:Pos}{a:Expr}{es:List Expr}{fs:Zl->M (List D)}(c:Cl X.prog X.w X.K X.mg X.base k x ps F)(hr:Room k X.A)(ha:Aw X E (a::es) fs)(hg:Gl X x:=by rfl) (hdb:(x==("__debug__":Str))=false:=by decide) (he:starEach (a::es) X.env=(false,eval a X.env)::starEach es X.env:=by rfl) (hpl:(backTo pos (starEach es X.env)).any (·.1)=false:=by rfl):
  X4 X E (.Call (.Name x p) (a::es) [] pos) (Zt F fs):=
 let ⟨_,_,G,b,k,m⟩:=c.ex
 Jw G hr m k b ha hg hdb he hpl
end DL
namespace Law
open PySem L2 DL
def top (i:Nat):Stmt:=PySem.Challenge.pw_selfsight_k17_walks_gone_along.main.body.getD i (.Pass ⟨0,0,0,0⟩)
abbrev Ky:Stmt:=top 1
abbrev Tl:Stmt:=top 2
abbrev Bz:Stmt:=top 3
abbrev Nj:Stmt:=top 5
abbrev U7:Stmt:=top 6
abbrev V1:Stmt:=top 7
abbrev B0:Stmt:=top 8
abbrev Ka:Stmt:=top 9
abbrev W2:Stmt:=top 13
abbrev Vc:Stmt:=top 14
abbrev P8:Stmt:=top 15
abbrev V2:Stmt:=top 16
abbrev U8:Stmt:=top 17
abbrev Nk:Stmt:=top 18
abbrev Up:Stmt:=top 19
abbrev W3:Stmt:=top 20
abbrev Yi:Stmt:=top 21
abbrev Fe:Stmt:=top 22
abbrev Tm:Stmt:=top 24
abbrev W4:Stmt:=top 25
abbrev Nl:Stmt:=top 26
abbrev Jg:Stmt:=top 27
abbrev B1:Stmt:=top 28
abbrev Tn:Stmt:=top 29
abbrev To:Stmt:=top 30
abbrev Tp:Stmt:=top 31
abbrev P9:Stmt:=top 32
abbrev Nm:Stmt:=top 33
abbrev Tq:Stmt:=top 34
abbrev Tr:Stmt:=top 35
abbrev Ra:Stmt:=top 36
abbrev Ts:Stmt:=top 37
abbrev Tt:Stmt:=top 38
abbrev B2:Stmt:=top 39
abbrev Uq:Stmt:=top 40
abbrev U9:Stmt:=top 41
abbrev W5:Stmt:=top 42
abbrev Rb:Stmt:=top 43
abbrev Nn:Stmt:=top 44
abbrev Ur:Stmt:=top 45
abbrev Uw:Stmt:=top 46
abbrev B3:Stmt:=top 47
abbrev B4:Stmt:=top 48
abbrev Vt:Stmt:=top 49
abbrev Ux:Stmt:=top 50
abbrev Rc:Stmt:=top 51
abbrev Mt:Stmt:=top 52
abbrev Vl:Stmt:=N0 (top 11) 0
abbrev W6:Stmt:=N0 (top 11) 1
abbrev Wa:Stmt:=N0 (top 11) 2
abbrev Wb:Stmt:=N0 (top 12) 0
abbrev Wc:Stmt:=N0 (top 12) 1
abbrev No:Stmt:=N0 (top 12) 2
abbrev Re:Stmt:=N0 (top 12) 3
abbrev B5:Stmt:=N0 (top 12) 4
abbrev W7:Stmt:=N0 (top 12) 5
section
variable {P:Program}{w:World}{K:PySem.W.Frag}{mg:Str->Option Value}{base:Heap}
noncomputable def Jh:List D->M S:=Vr 2 3
  (Zy (Z4 2 (Kv G0 (Zb (Zd 0) Zh)))
   (Zy (Z4 3 (Kv G0 (Zb (Zd 1) Zh)))
   (Zy (Wu (tB (Zn Wm (Zd 3) ↑0)) (Zy (Z4 4 (Zn Qn (Zd 2) (Zd 3)))
   (Zy (Z4 2 (Zd 3))
   (Z4 3 (Zd 4)))))
   (Qj (Zd 2)))))
def sc_common_divisor:FnScope ["one","other","greater","lesser","rest"] ["one","other"] (Zk Ky):=⟨rfl,rfl,rfl,by decide +kernel,rfl,by decide +kernel,by decide +kernel⟩
def N8 (d:Dm K mg "common_divisor" Ky) (z_abs:mg "abs"=none):Cl P w K mg base 1 "common_divisor" ["one","other"] Jh:=
 d.cl (by trivial) fun _ _ F=>Xk F sc_common_divisor rfl rfl fun cdv A outer s H E hr=>
  (Zf (Zv 2 sc_common_divisor.nd (Yd Pu (by rfl) z_abs (by rfl) (Za (Zc 0) Ze)))
   (Zf (Zv 3 sc_common_divisor.nd (Yd Pu (by rfl) z_abs (by rfl) (Za (Zc 1) Ze)))
   (Zf (Px PassesOwn.never (Zr (Ue hr.units) (Zc 3) Zi (Zz _)) (Zf (Zv 4 sc_common_divisor.nd (Zs Q2 (Zc 2) (Zc 3)))
   (Zf (Zv 2 sc_common_divisor.nd (Zc 3))
   (Zm (Zv 3 sc_common_divisor.nd (Zc 4))))))
   (Zm (Zu (Zc 2))))))
noncomputable def Uy:List D->M S:=Vr 2 1
  (Zy (Z4 2 (Zt Jh (Zb (Zd 0) (Zb (Zd 1) Zh))))
   (Qj (Qf (Zb (Zn Q6 (Zd 0) (Zd 2)) (Zb (Zn Q6 (Zd 1) (Zd 2)) Zh)))))
def sc_amount:FnScope ["top","bottom","divisor"] ["top","bottom"] (Zk Tl):=⟨rfl,rfl,rfl,by decide +kernel,rfl,by decide +kernel,by decide +kernel⟩
def Za4 (d:Dm K mg "amount" Tl) (c_common_divisor:Cl P w K mg base 1 "common_divisor" ["one","other"] Jh):Cl P w K mg base 2 "amount" ["top","bottom"] Uy:=
 d.cl (by trivial) fun _ _ F=>Xk F sc_amount rfl rfl fun cdv A outer s H E hr=>
  (Zf (Zv 2 sc_amount.nd (Zw c_common_divisor (hr.mono (by decide)) (Za (Zc 0) (Za (Zc 1) Ze))))
   (Zm (Zu (Qb (Za (Zs Yn (Zc 0) (Zc 2)) (Za (Zs Yn (Zc 1) (Zc 2)) Ze))))))
noncomputable def Vm:List D->M S:=Vr 2 0
  (Qj (Zn Bj (Zn Qc 0[0]! 1[1]!) (Zn Qc 1[0]! 0[1]!)))
def Zdp:FnScope ["one","other"] ["one","other"] (Zk Bz):=⟨rfl,rfl,rfl,by decide +kernel,rfl,by decide +kernel,by decide +kernel⟩
def Zdq (d:Dm K mg "below" Bz)  : Cl P w K mg base 1 "below" ["one","other"] Vm:=
 d.cl (by trivial) fun _ _ F=>Xk F Zdp rfl rfl fun cdv A outer s H E hr=>
  (Zm (Zu (Jn Rs (Zs Qh (Zo (Zc 0)) (Zo (Zc 1))) (Zs Qh (Zo (Zc 1)) (Zo (Zc 0))) (Zz _))))
noncomputable def Wd:List D->M S:=Vr 1 0
  (Qj (R1 (Zbs "int" (Zd 0)) (Ek (Zbs "bool" (Zd 0)))))
def C6:FnScope ["value"] ["value"] (Zk Nj):=⟨rfl,rfl,rfl,by decide +kernel,rfl,by decide +kernel,by decide +kernel⟩
def C7 (d:Dm K mg "is_whole" Nj) (z_isinstance:mg "isinstance"=none) (z_int:mg "int"=none) (z_bool:mg "bool"=none):Cl P w K mg base 1 "is_whole" ["value"] Wd:=
 d.cl (by trivial) fun _ _ F=>Xk F C6 rfl rfl fun cdv A outer s H E hr=>
  (Zm (Zu (Pv (Jf "int" (by rfl) z_isinstance z_int (by rfl) (by rfl) (Zc 0)) (Bl (Zcl (Jf "bool" (by rfl) z_isinstance z_bool (by rfl) (by rfl) (Zc 0)))))))
noncomputable def Xq:List D->M S:=Vr 3 0
  (Qj (R1 (Zt Wd (Zb (Zd 0) Zh)) (R1 (Zn Zow (Zd 1) (Zd 0)) (Zn Zow (Zd 0) (Zd 2)))))
def Li:FnScope ["value","least","greatest"] ["value","least","greatest"] (Zk U7):=⟨rfl,rfl,rfl,by decide +kernel,rfl,by decide +kernel,by decide +kernel⟩
def Lj (d:Dm K mg "is_from_to" U7) (c_is_whole:Cl P w K mg base 1 "is_whole" ["value"] Wd):Cl P w K mg base 2 "is_from_to" ["value","least","greatest"] Xq:=
 d.cl (by trivial) fun _ _ F=>Xk F Li rfl rfl fun cdv A outer s H E hr=>
  (Zm (Zu (Pv (Zw c_is_whole (hr.mono (by decide)) (Za (Zc 0) Ze)) (Pv (Jn Zh4 (Zc 1) (Zc 0) (Zz _)) (Bl (Jn Zh4 (Zc 0) (Zc 2) (Zz _)))))))
noncomputable def X9:List D->M S:=Vr 5 2
  (Zy (Z4 5 (Uo (tB (Zn Ys (Zd 2) ↑"up")) (Zd 3) (Zd 4)))
   (Zy (Z4 6 (Uo (tB (Zn Ys (Zd 2) ↑"up")) (Zd 0) (Zd 1)))
   (Zy (Yy (tB (Zn Ys (Zd 5) ↑0)) (Qj ↑3) Qs)
   (Zy (Yy (tB (Zn Ys (Zd 5) (Zd 6))) (Qj ↑4) Qs)
   (Qj (eC .non))))))
def sc_outward_face:FnScope ["width","height","kind","x","y","line","last"] ["width","height","kind","x","y"] (Zk V1):=⟨rfl,rfl,rfl,by decide +kernel,rfl,by decide +kernel,by decide +kernel⟩
def R8 (d:Dm K mg "outward_face" V1)  : Cl P w K mg base 1 "outward_face" ["width","height","kind","x","y"] X9:=
 d.cl (by trivial) fun _ _ F=>Xk F sc_outward_face rfl rfl fun cdv A outer s H E hr=>
  (Zf (Zv 5 sc_outward_face.nd (Q9 (Zr (Ya hr.units) (Zc 2) Ql (Zz _)) (Zc 3) (Zc 4)))
   (Zf (Zv 6 sc_outward_face.nd (Q9 (Zr (Ya hr.units) (Zc 2) Ql (Zz _)) (Zc 0) (Zc 1)))
   (Zf (Qe (Zr (Ya hr.units) (Zc 5) Zi (Zz _)) (Zm (Zu Zi)) Z8)
   (Zf (Qe (Zr (Ya hr.units) (Zc 5) (Zc 6) (Zz _)) (Zm (Zu Zi)) Z8)
   (Zm (Zu Qr))))))
noncomputable def Y7:List D->M S:=Vr 4 1
  (Zy (V7 (V6 0[2]!) (Y1 4) (Yy (tB (Zn Ys (Ma (Zd 4) Wk (Xa ↑3)) (Qf (Zb (Zd 1) (Zb (Zd 2) (Zb (Zd 3) Zh)))))) (Qj (Ma (Zd 4) (Xa ↑3) Wk)) Qs))
   (Zy (Yy (tB (Zn Ng (Zt X9 (Zb 0[0]! (Zb 0[1]! (Zb (Zd 1) (Zb (Zd 2) (Zb (Zd 3) Zh)))))) (eC .non))) (Qj (eC .non)) Qs)
   (Qj (Qf (Zb ↑"p" (Zb ↑"p" Zh))))))
def sc_faces:FnScope ["hall","kind","x","y","side"] ["hall","kind","x","y"] (Zk B0):=⟨rfl,rfl,rfl,by decide +kernel,rfl,by decide +kernel,by decide +kernel⟩
def Zdr (d:Dm K mg "faces" B0) (c_outward_face:Cl P w K mg base 1 "outward_face" ["width","height","kind","x","y"] X9):Cl P w K mg base 2 "faces" ["hall","kind","x","y"] Y7:=
 d.cl (by trivial) fun _ _ F=>Xk F sc_faces rfl rfl fun cdv A outer s H E hr=>
  (Zf (Xz PassesOwn.never rfl (Ki (Zo (Zc 0))) (Qa 4 sc_faces.nd) (Zm (Qe (Zr (Ya hr.units) (K7 (Zc 4) Wv (X5 Zi)) (Qb (Za (Zc 1) (Za (Zc 2) (Za (Zc 3) Ze)))) (Zz _)) (Zm (Zu (K7 (Zc 4) (X5 Zi) Wv))) Z8)))
   (Zf (Qe (Zr U5 (Zw c_outward_face (hr.mono (by decide)) (Za (Zo (Zc 0)) (Za (Zo (Zc 0)) (Za (Zc 1) (Za (Zc 2) (Za (Zc 3) Ze)))))) Qr (Zz _)) (Zm (Zu Qr)) Z8)
   (Zm (Zu (Qb (Za Ql (Za Ql Ze)))))))
noncomputable def Uj:List D->M S:=Vr 3 3
  (Zy (Z4 3 0[0]!)
   (Zy (Z4 4 0[1]!)
   (Zy (Yy (tO (tN (tB (Zt Xq (Zb (Zd 1) (Zb ↑0 (Zb (Zd 3) Zh)))))) (tN (tB (Zt Xq (Zb (Zd 2) (Zb ↑0 (Zb (Zd 4) Zh))))))) (Qj (eC (.bl false))) Qs)
   (Zy (Yy (tO (tB (Zn Er (Zd 1) (Qf (Zb ↑0 (Zb (Zd 3) Zh))))) (tB (Zn Er (Zd 2) (Qf (Zb ↑0 (Zb (Zd 4) Zh)))))) (Qj (eC (.bl true))) Qs)
   (Zy (Z4 5 (Jq (Zb (Qf (Zb ↑"up" (Zb (Zd 1) (Zb (Zn Xf (Zd 2) ↑1) Zh)))) (Zb (Qf (Zb ↑"up" (Zb (Zd 1) (Zb (Zd 2) Zh)))) (Zb (Qf (Zb ↑"flat" (Zb (Zn Xf (Zd 1) ↑1) (Zb (Zd 2) Zh)))) (Zb (Qf (Zb ↑"flat" (Zb (Zd 1) (Zb (Zd 2) Zh)))) Zh))))))
   (Qj (Kv Zf9 (Zb (G8 (X6 (V6 0[2]!) 1 [5] (Y1 0) (Zn Er (Ma (Zd 0) Wk (Xa ↑3)) (Zd 1)))) Zh))))))))
def sc_is_corner:FnScope ["hall","x","y","width","height","edges"] ["hall","x","y"] (Zk Ka):=⟨rfl,rfl,rfl,by decide +kernel,rfl,by decide +kernel,by decide +kernel⟩
def B6 (d:Dm K mg "is_corner" Ka) (c_is_from_to:Cl P w K mg base 2 "is_from_to" ["value","least","greatest"] Xq) (z_any:mg "any"=none):Cl P w K mg base 3 "is_corner" ["hall","x","y"] Uj:=
 d.cl (by trivial) fun _ _ F=>Xk F sc_is_corner rfl rfl fun cdv A outer s H E hr=>
  (Zf (Zv 3 sc_is_corner.nd (Zo (Zc 0)))
   (Zf (Zv 4 sc_is_corner.nd (Zo (Zc 0)))
   (Zf (Qe ((Kg (Ju (Q7 (Zw c_is_from_to (hr.mono (by decide)) (Za (Zc 1) (Za Zi (Za (Zc 3) Ze)))))) (Je (Ju (Q7 (Zw c_is_from_to (hr.mono (by decide)) (Za (Zc 2) (Za Zi (Za (Zc 4) Ze))))))))).pt (Zm (Zu Wi)) Z8)
   (Zf (Qe ((Kg (Zr (Me (by exact hr.units)) (Zc 1) (Qb (Za Zi (Za (Zc 3) Ze))) (by with_unfolding_all rfl)) (Je (Zr (Me (by exact hr.units)) (Zc 2) (Qb (Za Zi (Za (Zc 4) Ze))) (by with_unfolding_all rfl))))).pt (Zm (Zu Wi)) Z8)
   (Zf (Zv 5 sc_is_corner.nd (Ku (Za (Qb (Za Ql (Za (Zc 1) (Za (Zs Y0 (Zc 2) Zi) Ze)))) (Za (Qb (Za Ql (Za (Zc 1) (Za (Zc 2) Ze)))) (Za (Qb (Za Ql (Za (Zs Y0 (Zc 1) Zi) (Za (Zc 2) Ze)))) (Za (Qb (Za Ql (Za (Zc 1) (Za (Zc 2) Ze)))) Ze))))))
   (Zm (Zu (Yd (Zj0 rfl) (by rfl) z_any (by rfl) (Za (Bo (Uv (Nc:=["side","edges"]) rfl (Kx (fun y hy hf=>Y5 (Wo (sc:=Zk Ka) (by decide +kernel) y hy hf))) (Zan (sc:=Zk Ka) rfl rfl (by decide +kernel) (Wo (by decide +kernel)) (fun y hy hf=>Y5 (Wo (sc:=Zk Ka) (by decide +kernel) y hy hf)) rfl (Gm (N:=["hall","x","y","width","height","edges"]) rfl (by decide +kernel))) rfl (by decide +kernel) (by decide +kernel) (J9 (by decide)) (Ki (Zo (Zc 0))) (fun s3 H3 C ex=>Qa 0 (show(["side","edges"]:List Str).Nodup by decide +kernel)) (fun s3 H3 C ex=>(Jn (Me (by exact hr.units)) (K7 (Zc 0) Wv (X5 Zi)) (Zc 1) (by with_unfolding_all rfl))))) Ze)))))))))
noncomputable def Xn:List D->M S:=Vr 1 0
  (Qj (Zn Q6 0[0]! 0[1]!))
def B7:FnScope ["place"] ["place"] (Zk W2):=⟨rfl,rfl,rfl,by decide +kernel,rfl,by decide +kernel,by decide +kernel⟩
def B8 (d:Dm K mg "square_of" W2)  : Cl P w K mg base 1 "square_of" ["place"] Xn:=
 d.cl (by trivial) fun _ _ F=>Xk F B7 rfl rfl fun cdv A outer s H E hr=>
  (Zm (Zu (Zs Yn (Zo (Zc 0)) (Zo (Zc 0)))))
noncomputable def Xu:List D->M S:=Vr 2 3
  (Zy (Z4 2 ↑1)
   (Zy (V7 (Fd (Zb (Zd 0) (Zb (Zd 1) Zh))) (Kr 2 (Qp (Y1 3) (Qp (Y1 4) K5))) (Z4 2 (Zn Qc (Zn Qc (Zd 2) 3[1]!) (Kv C1 (Zb ↑1 (Zb (Kv G0 (Zb 4[0]! Zh)) Zh))))))
   (Qj (Zd 2))))
def sc_whole_time_of:FnScope ["point","step","time","begin","part"] ["point","step"] (Zk Vc):=⟨rfl,rfl,rfl,by decide +kernel,rfl,by decide +kernel,by decide +kernel⟩
def Rf (d:Dm K mg "whole_time_of" Vc) (z_zip:mg "zip"=none) (z_abs:mg "abs"=none) (z_max:mg "max"=none):Cl P w K mg base 1 "whole_time_of" ["point","step"] Xu:=
 d.cl (by trivial) fun _ _ F=>Xk F sc_whole_time_of rfl rfl fun cdv A outer s H E hr=>
  (Zf (Zv 2 sc_whole_time_of.nd Zi)
   (Zf (Xz PassesOwn.never rfl (Za2 (by rfl) z_zip (Za (Zc 0) (Za (Zc 1) Ze))) (Ud rfl (Qx (Qa 3 sc_whole_time_of.nd) (Qx (Qa 4 sc_whole_time_of.nd) K6))) (Zm (Zv 2 sc_whole_time_of.nd (Zs Qh (Zs Qh (Zc 2) (Zo (Zc 3))) (Yd (Zgm rfl) (by rfl) z_max (by rfl) (Za Zi (Za (Yd Pu (by rfl) z_abs (by rfl) (Za (Zo (Zc 4)) Ze)) Ze)))))))
   (Zm (Zu (Zc 2)))))
noncomputable def Js:List D->M S:=Vr 3 0
  (Zy (Yy (tB (Zn Ys (Zd 0) ↑"corner")) (Qj ↑"corner") Qs)
   (Zy (Yy (tB (Zd 1)) (Qj ↑"end") Qs)
   (Zy (Yy (tB (Zn Ys (Zd 0) ↑"p")) (Qj ↑"plain") Qs)
   (Zy (Yy (tA (tB (Zn Ys (Zd 0) ↑"m")) (tN (tB (Zd 2)))) (Qj ↑"many") Qs)
   (Qj (eC .non))))))
def Tu:FnScope ["thing","is_over","may_turn"] ["thing","is_over","may_turn"] (Zk Up):=⟨rfl,rfl,rfl,by decide +kernel,rfl,by decide +kernel,by decide +kernel⟩
def Tv (d:Dm K mg "how_it_ends" Up)  : Cl P w K mg base 1 "how_it_ends" ["thing","is_over","may_turn"] Js:=
 d.cl (by trivial) fun _ _ F=>Xk F Tu rfl rfl fun cdv A outer s H E hr=>
  (Zf (Qe (Zr (Ya hr.units) (Zc 0) Ql (Zz _)) (Zm (Zu Ql)) Z8)
   (Zf (Qe (Q7 (Zc 1)) (Zm (Zu Ql)) Z8)
   (Zf (Qe (Zr (Ya hr.units) (Zc 0) Ql (Zz _)) (Zm (Zu Ql)) Z8)
   (Zf (Qe ((Jv (Zr (Ya hr.units) (Zc 0) Ql (Zz _)) (Kf (Ju (Q7 (Zc 2)))))).pt (Zm (Zu Ql)) Z8)
   (Zm (Zu Qr))))))
end
section
variable {P:Program}{w:World}{K:PySem.W.Frag}{mg:Str->Option Value}{base:Heap}
def B9:FnScope ["self"] ["self"] (Zk W7):=⟨rfl,rfl,rfl,by decide +kernel,rfl,by decide +kernel,by decide +kernel⟩
noncomputable def W8:Yg->List D->Option Yg:=Zfd 0 0 (V0 (P5 "heading" (Zpg Lg (Wq "heading"))) (Zdc "due" (Wq "lap")))
def Aa {f:Addr}{fd:FuncData}{C:Addr} (F:Fun K "turn_back" "Track.turn_back" W7 f fd) (tc:TkC K C):FnOk P w K mg base Xj 1 f fd ["self"] (R6 K C W8):=
 Zgk F B9 rfl rfl fun cdv A outer s H E hr=>(X8 (Vj tc.oc.cls tc.n3 (Zkh Bq (U6 tc.oc.cls tc.n3))) (Ui (Bx tc.oc.cls tc.n4 (U6 tc.oc.cls tc.n5))))
def Zds:FnScope ["self"] ["self"] (Zk B5):=⟨rfl,rfl,rfl,by decide +kernel,rfl,by decide +kernel,by decide +kernel⟩
noncomputable def Ab:Yg->List D->Option Yg:=Zfd 0 0 (V0 (Zdc "square" (Wq "heading")) (Zdc "due" (Wq "lap")))
def Zdt {f:Addr}{fd:FuncData}{C:Addr} (F:Fun K "go_on" "Track.go_on" B5 f fd) (tc:TkC K C):FnOk P w K mg base Xj 1 f fd ["self"] (R6 K C Ab):=
 Zgk F Zds rfl rfl fun cdv A outer s H E hr=>(X8 (Bx tc.oc.cls tc.n2 (U6 tc.oc.cls tc.n3)) (Ui (Bx tc.oc.cls tc.n4 (U6 tc.oc.cls tc.n5))))
def Ac:FnScope ["track","now","thing"] ["track","now","thing"] (Zk W3):=⟨rfl,rfl,rfl,by decide +kernel,rfl,by decide +kernel,by decide +kernel⟩
noncomputable def F_pass_line:Yg->List D->Option Yg:=Zfd 2 0 (Zfc (gB (D9 Ys (Wq "due") (Vi (Zd 1)))) (Zfc (fun sd _=>DL.tB (Zn Ys (Zd 2) ↑"m") sd) (Hv "turn_back" W8) (Hv "go_on" Ab)) Zkg)
def Ae {f:Addr}{fd:FuncData}{C f1 f2:Addr}{fd1 fd2:FuncData} (F:Fun K "pass_line" "pass_line" W3 f fd) (tc:TkC K C) (m1:Meth K C "turn_back" f1) (G1:FnOk P w K mg base Xj 1 f1 fd1 ["self"] (R6 K C W8)) (b1:Binds K fd1 ["self"] []) (m2:Meth K C "go_on" f2) (G2:FnOk P w K mg base Xj 1 f2 fd2 ["self"] (R6 K C Ab)) (b2:Binds K fd2 ["self"] []):
  FnOk P w K mg base Xj 2 f fd ["track","now","thing"] (R6 K C F_pass_line):=
 Zgk F Ac rfl rfl fun cdv A outer s H E hr=>(Ui (E3 (Hw (Ya hr.units) (U6 tc.oc.cls tc.n4) (X0 (Zc 1)) (Zz _)) (Ui (E3 (Hy (Zr (Ya hr.units) (Zc 2) Ql (Zz _))) (Ui (Cz tc.oc.cls m1 G1 (hr.mono (by decide)) b1)) (Ui (Cz tc.oc.cls m2 G2 (hr.mono (by decide)) b2)))) Hz))
def sc_Track_init:FnScope ["self","begin","part","whole_time","behind","left"] ["self","begin","part","whole_time"] (Zk Wb):=⟨rfl,rfl,rfl,by decide +kernel,rfl,by decide +kernel,by decide +kernel⟩
noncomputable def Km:Yg->List D->Option Yg:=Zfd 3 2
 (V0 (P5 "begin" (Vi (Zd 1)))
 (V0 (P5 "square" (Vi (Zt Xn (Zb (Zd 1) Zh))))
 (V0 (P5 "heading" (Vi ↑0))
 (V0 (P5 "due" (Vi (Zn Qi (Zd 3) ↑1)))
 (V0 (P5 "lap" (Vi ↑0))
 (Zfc (fun sd _=>DL.tB (Zn Wm 2[0]! ↑0) sd)
  (V0 (P5 "heading" (Vi (Uo (DL.tB (Zn Pt 2[0]! ↑0)) ↑1 (Zh6 Lg ↑1))))
  (V0 (P5 "lap" (Vi (Zn Qc 2[1]! (Zn Q6 (Zd 3) (Kv G0 (Zb 2[0]! Zh))))))
  (V0 (Zat 4 (Vi (Zn Qn 1[0]! 1[1]!)))
  (V0 (Zat 5 (Zgj (gB (D9 Pt (Wq "heading") (Vi ↑0))) (Vi (Zn Xf 1[1]! (Zd 4))) (Vi (Zd 4))))
   (P5 "due" (D9 Qc (Vi (Zd 5)) (D9 Q6 (Wq "lap") (Vi 1[1]!)))))))) Zkg))))))
def Lk {f:Addr}{fd:FuncData}{C:Addr} (F:Fun K "__init__" "Track.__init__" Wb f fd) (tc:TkC K C) {f1:Addr}{fd1:FuncData} (G1:FnOk P w K mg base Xj 1 f1 fd1 ["place"] (Ax K Xn)) (b1:Binds K fd1 ["place"] []) (k1:PySem.W.keepIn K (.ref f1)=true) (m1:mg "square_of"=some (.ref f1)) (z_abs:mg "abs"=none):
  FnOk P w K mg base Xj 2 f fd ["self","begin","part","whole_time"] (R6 K C Km):=
 Zgk F sc_Track_init rfl rfl fun cdv A outer s H E hr=>
  (X8 (Vj tc.oc.cls tc.n1 (X0 (Zc 1)))
  (X8 (Vj tc.oc.cls tc.n2 (X0 (Jw G1 (hr.mono (by decide)) m1 k1 b1 (Za (Zc 1) Ze))))
  (X8 (Vj tc.oc.cls tc.n3 (X0 Zi))
  (X8 (Vj tc.oc.cls tc.n4 (X0 (Zs Q0 (Zc 3) Zi)))
  (X8 (Vj tc.oc.cls tc.n5 (X0 Zi))
  (Ui (E3 (Hy (Zr (Ue hr.units) (Zo (Zc 2)) Zi (Zz _)))
   (X8 (Vj tc.oc.cls tc.n3 (X0 (Q9 (Zr Nt (Zo (Zc 2)) Zi (Zz _)) Zi (Zcy Bq Zi))))
   (X8 (Vj tc.oc.cls tc.n5 (X0 (Zs Qh (Zo (Zc 2)) (Zs Yn (Zc 3) (Yd Pu (by rfl) z_abs (by rfl) (Za (Zo (Zc 2)) Ze))))))
   (X8 (Ia 4 sc_Track_init.nd (X0 (Zs Q2 (Zo (Zc 1)) (Zo (Zc 1)))))
   (X8 (Ia 5 sc_Track_init.nd (Zki (Hw Nt (U6 tc.oc.cls tc.n3) (X0 Zi) (Zz _)) (X0 (Zs Y0 (Zo (Zc 1)) (Zc 4))) (X0 (Zc 4))))
   (Ui (Vj tc.oc.cls tc.n4 (Zdd Qh (X0 (Zc 5)) (Zdd Yn (U6 tc.oc.cls tc.n5) (X0 (Zo (Zc 1))))))))))) Hz)))))))
def Ll:FnScope ["self"] ["self"] (Zk Wc):=⟨rfl,rfl,rfl,by decide +kernel,rfl,by decide +kernel,by decide +kernel⟩
noncomputable def Q3:List S->M S:=Hu 1 0 (Qj (Uo (DL.tB (Zn Pt (Yo 0 "Track" "heading") ↑0)) (Zn Qi (Yo 0 "Track" "square") ↑1) (Yo 0 "Track" "square")))
def Lm {f:Addr}{fd:FuncData}{C:Addr} (F:Fun K "line_ahead" "Track.line_ahead" Wc f fd) (tc:TkC K C):FnOk P w K mg base Xj 1 f fd ["self"] (Rv K Q3):=
 Ey F Ll rfl rfl fun cdv A outer s H E hr=>
  (Zm (Zu (Q9 (Zr Nt (Yb 0 tc.oc tc.n3) Zi (Zz _)) (Zs Q0 (Yb 0 tc.oc tc.n2) Zi) (Yb 0 tc.oc tc.n2))))
end
section
variable {P:Program}{w:World}{K:PySem.W.Frag}{mg:Str->Option Value}{base:Heap}
def C8:FnScope ["self","time"] ["self","time"] (Zk No):=⟨rfl,rfl,rfl,by decide +kernel,rfl,by decide +kernel,by decide +kernel⟩
noncomputable def Yv:List S->M S:=Hu 2 0
 (Zy (Yy (DL.tB (Zn Ys (Yo 0 "Track" "heading") ↑0)) (Qj (Yo 0 "Track" "begin")) Qs)
  (Qj (Zt Uy (Zb (Zn Xf (Zn Qc (X7 0 "Track" "line_ahead" Q3 Zh) (Yo 0 "Track" "lap")) (Zn Qc (Yo 0 "Track" "heading") (Zn Xf (Yo 0 "Track" "due") (Zd 1)))) (Zb (Yo 0 "Track" "lap") Zh)))))
def C9 {f:Addr}{fd:FuncData}{C:Addr} (F:Fun K "place_at" "Track.place_at" No f fd) (tc:TkC K C) {f1 f2:Addr}{fd1 fd2:FuncData}
  (m1:Meth K C "line_ahead" f1) (G1:FnOk P w K mg base Xj 1 f1 fd1 ["self"] (Rv K Q3)) (b1:Binds K fd1 ["self"] [])
  (G2:FnOk P w K mg base Xj 2 f2 fd2 ["top","bottom"] (Ax K Uy)) (b2:Binds K fd2 ["top","bottom"] []) (k2:PySem.W.keepIn K (.ref f2)=true) (m2:mg "amount"=some (.ref f2)):FnOk P w K mg base Xj 3 f fd ["self","time"] (Rv K Yv):=
 Ey F C8 rfl rfl fun cdv A outer s H E hr=>
  (Zf (Qe (Zr (Ya hr.units) (Yb 0 tc.oc tc.n3) Zi (Zz _)) (Zm (Zu (Yb 0 tc.oc tc.n1))) Z8)
   (Zm (Zu (Jw G2 (hr.mono (by decide)) m2 k2 b2 (Za (Zs Y0 (Zs Qh (Vs 0 tc.oc m1 G1 (hr.mono (by decide)) b1) (Yb 0 tc.oc tc.n5)) (Zs Qh (Yb 0 tc.oc tc.n3) (Zs Y0 (Yb 0 tc.oc tc.n4) (Zc 1)))) (Za (Yb 0 tc.oc tc.n5) Ze))))))
def sc_time_at:FnScope ["self","place","left"] ["self","place"] (Zk Re):=⟨rfl,rfl,rfl,by decide +kernel,rfl,by decide +kernel,by decide +kernel⟩
noncomputable def Vu:List S->M S:=Hu 2 1
 (Zy (Z4 2 (Zn Qc (Yo 0 "Track" "heading") (Zn Xf (Zn Qc (X7 0 "Track" "line_ahead" Q3 Zh) 1[1]!) 1[0]!)))
  (Qj (Zt Uy (Zb (Zn Xf (Zn Qc (Yo 0 "Track" "due") 1[1]!) (Zn Qc (Zd 2) (Yo 0 "Track" "lap"))) (Zb 1[1]! Zh)))))
def Fg {f:Addr}{fd:FuncData}{C:Addr} (F:Fun K "time_at" "Track.time_at" Re f fd) (tc:TkC K C) {f1 f2:Addr}{fd1 fd2:FuncData}
  (m1:Meth K C "line_ahead" f1) (G1:FnOk P w K mg base Xj 1 f1 fd1 ["self"] (Rv K Q3)) (b1:Binds K fd1 ["self"] [])
  (G2:FnOk P w K mg base Xj 2 f2 fd2 ["top","bottom"] (Ax K Uy)) (b2:Binds K fd2 ["top","bottom"] []) (k2:PySem.W.keepIn K (.ref f2)=true) (m2:mg "amount"=some (.ref f2)):FnOk P w K mg base Xj 3 f fd ["self","place"] (Rv K Vu):=
 Ey F sc_time_at rfl rfl fun cdv A outer s H E hr=>
  (Zf (Zv 2 sc_time_at.nd (Zs Qh (Yb 0 tc.oc tc.n3) (Zs Y0 (Zs Qh (Vs 0 tc.oc m1 G1 (hr.mono (by decide)) b1) (Zo (Zc 1))) (Zo (Zc 1)))))
   (Zm (Zu (Jw G2 (hr.mono (by decide)) m2 k2 b2 (Za (Zs Y0 (Zs Qh (Yb 0 tc.oc tc.n4) (Zo (Zc 1))) (Zs Qh (Zc 2) (Yb 0 tc.oc tc.n5))) (Za (Zo (Zc 1)) Ze))))))
def Ln:FnScope ["track","pair"] ["track","pair"] (Zk U8):=⟨rfl,rfl,rfl,by decide +kernel,rfl,by decide +kernel,by decide +kernel⟩
noncomputable def F_face_ahead:List S->M S:=Hu 2 0
 (Zy (Yy (DL.tB (Zn Ng (Zd 1) (eC .non))) (Qj (eC .non)) Qs)
  (Qj (Uo (DL.tB (Zn Pt (Yo 0 "Track" "heading") ↑0)) 1[0]! 1[1]!)))
def Lo {f:Addr}{fd:FuncData}{C:Addr} (F:Fun K "face_ahead" "face_ahead" U8 f fd) (tc:TkC K C):FnOk P w K mg base Xj 1 f fd ["track","pair"] (Rv K F_face_ahead):=
 Ey F Ln rfl rfl fun cdv A outer s H E hr=>
  (Zf (Qe (Zr U5 (Zc 1) Qr (Zz _)) (Zm (Zu Qr)) Z8)
   (Zm (Zu (Q9 (Zr Nt (Yb 0 tc.oc tc.n3) Zi (Zz _)) (Zo (Zc 1)) (Zo (Zc 1))))))
def sc_time_to:FnScope ["across","upward","person","times","track","place"] ["across","upward","person"] (Zk P8):=⟨rfl,rfl,rfl,by decide +kernel,rfl,by decide +kernel,by decide +kernel⟩
noncomputable def F_time_to:List S->M S:=Hu 3 3
 (Zy (Sz 3 (Sy Zh))
 (Zy (N6 4 5 0 1 2[0]! 2[1]!
  (Yy (DL.tB (Zn Wm (Yo 4 "Track" "heading") ↑0)) (Vg 3 (X7 4 "Track" "time_at" Vu (Zb (Zd 5) Zh)))
   (Yy (DL.tB (Zn Wm (Zd 5) (Yo 4 "Track" "begin"))) (Qj (eC .non)) Qs)))
 (V9 3 (Qj (Uo (DL.tB (Zn Ys 3[0]! (Zn Yj (Zd 3) (Zh6 Lg ↑1)))) 3[0]! (eC .non))))))
def Fh {f:Addr}{fd:FuncData}{C:Addr} (F:Fun K "time_to" "time_to" P8 f fd) (tc:TkC K C) {f1:Addr}{fd1:FuncData}
  (m1:Meth K C "time_at" f1) (G1:FnOk P w K mg base Xj 3 f1 fd1 ["self","place"] (Rv K Vu)) (b1:Binds K fd1 ["self","place"] []):FnOk P w K mg base Xj 4 f fd ["across","upward","person"] (Rv K F_time_to):=
 Ey F sc_time_to rfl rfl fun cdv A outer s H E hr=>
  (Zf (Vf 3 sc_time_to.nd (Ve Ze))
  (Zf (Zc8 4 5 0 1 PassesOwn.never rfl sc_time_to.nd (Zo (Zc 2)) (Zo (Zc 2))
   (Zm (Qe (Zr (Ue hr.units) (Yb 4 tc.oc tc.n3) Zi (Zz _)) (Zm (Vh 3 (W0 4 tc.oc m1 G1 (hr.mono (by decide)) b1 (Za (Zc 5) Ze))))
    (Zm (Qe (Zr (Ue hr.units) (Zc 5) (Yb 4 tc.oc tc.n1) (Zz _)) (Zm (Zu Qr)) Z8)))))
  (Kj 3 (Zm (Zu (Q9 (Zr (Ya hr.units) (Zo (Zc 3)) (Xl (Zc 3) (Zcy Bq Zi) (fun _ _=>rfl)) (Zz _)) (Zo (Zc 3)) Qr))))))
def Af:FnScope ["self","square"] ["self","square"] (Zk W6):=⟨rfl,rfl,rfl,by decide +kernel,rfl,by decide +kernel,by decide +kernel⟩
noncomputable def Kb:List S->M S:=Hu 2 0 (Qj (Ez 0 (Zd 1) (Qf Zh)))
def Ag {f:Addr}{fd:FuncData}{C:Addr} (F:Fun K "people_at" "Floor.people_at" W6 f fd) (oc:ObC K "Floor" C) (na:NoAttr K C "by_square"):FnOk P w K mg base Xj 1 f fd ["self","square"] (Rv K Kb):=
 Ey F Af rfl rfl fun cdv A outer s H E hr=>
  (Zm (Zu (Zc9 0 hr.units oc na (Zc 1) (Qb Ze))))
def sc_person_ahead:FnScope ["floor","across","upward","whole_time","first","soonest","person","time"] ["floor","across","upward","whole_time"] (Zk V2):=⟨rfl,rfl,rfl,by decide +kernel,rfl,by decide +kernel,by decide +kernel⟩
noncomputable def F_person_ahead:List S->M S:=Hu 4 4
 (Zy (Z4 4 (eC .non))
 (Zy (Z4 5 (Qf (Zb (Zd 3) (Zb ↑1 Zh))))
 (Zy (V7 (V6 (Tc 0 Kb (Zb (Qf (Zb (Yo 1 "Track" "square") (Zb (Yo 2 "Track" "square") Zh))) Zh))) (Y1 6)
  (Zy (Z4 7 (Tb F_time_to (Wz 1 (Wz 2 (Cv (Zd 6) Cu)))))
   (Yy (tA (DL.tB (Zn Xd (Zd 7) (eC .non))) (tA (DL.tB (Zt Vm (Zb (Qf (Zb ↑0 (Zb ↑1 Zh))) (Zb (Zd 7) Zh)))) (DL.tB (Zt Vm (Zb (Zd 7) (Zb (Zd 5) Zh))))))
    (Zy (Z4 4 (Zd 6)) (Z4 5 (Zd 7))) Qs)))
 (Qj (Zd 4)))))
def R9 {f:Addr}{fd:FuncData}{C CF:Addr} (F:Fun K "person_ahead" "person_ahead" V2 f fd) (tc:TkC K C) (oc:ObC K "Floor" CF) {f1 f2 f3:Addr}{fd1 fd2 fd3:FuncData}
  (m1:Meth K CF "people_at" f1) (G1:FnOk P w K mg base Xj 1 f1 fd1 ["self","square"] (Rv K Kb)) (b1:Binds K fd1 ["self","square"] [])
  (G2:FnOk P w K mg base Xj 4 f2 fd2 ["across","upward","person"] (Rv K F_time_to)) (b2:Binds K fd2 ["across","upward","person"] []) (k2:PySem.W.keepIn K (.ref f2)=true) (m2:mg "time_to"=some (.ref f2))
  (G3:FnOk P w K mg base Xj 1 f3 fd3 ["one","other"] (Ax K Vm)) (b3:Binds K fd3 ["one","other"] []) (k3:PySem.W.keepIn K (.ref f3)=true) (m3:mg "below"=some (.ref f3)):
  FnOk P w K mg base Xj 5 f fd ["floor","across","upward","whole_time"] (Rv K F_person_ahead):=
 Ey F sc_person_ahead rfl rfl fun cdv A outer s H E hr=>
  (Zf (Zv 4 sc_person_ahead.nd Qr)
  (Zf (Zv 5 sc_person_ahead.nd (Qb (Za (Zc 3) (Za Zi Ze))))
  (Zf (Xz PassesOwn.never rfl (Ki (Zda 0 oc m1 G1 (hr.mono (by decide)) b1 (Za (Qb (Za (Yb 1 tc.oc tc.n2) (Za (Yb 2 tc.oc tc.n2) Ze))) Ze))) (Qa 6 sc_person_ahead.nd)
   (Zf (Zv 7 sc_person_ahead.nd (Cw G2 (hr.mono (by decide)) m2 k2 b2 (Ug 1 (Ug 2 (Bu (Zc 6) Bt)))))
    (Zm (Qe ((Jv (Zr Kw (Zc 7) Qr (Zz _)) (Jv (Q7 (Jw G3 (hr.mono (by decide)) m3 k3 b3 (Za (Qb (Za Zi (Za Zi Ze))) (Za (Zc 7) Ze)))) (Kf (Q7 (Jw G3 (hr.mono (by decide)) m3 k3 b3 (Za (Zc 7) (Za (Zc 5) Ze)))))))).pt
     (Zf (Zv 4 sc_person_ahead.nd (Zc 6)) (Zm (Zv 5 sc_person_ahead.nd (Zc 7)))) Z8))))
  (Zm (Zu (Zc 4))))))
end
section
variable {P:Program}{w:World}{K:PySem.W.Frag}{mg:Str->Option Value}{base:Heap}
def Zgr {n c:Nat}(h:n+64<c):n+1<c:=by omega
def Da:FnScope ["self","edge"] ["self","edge"] (Zk Wa):=⟨rfl,rfl,rfl,by decide +kernel,rfl,by decide +kernel,by decide +kernel⟩
def Db {f:Addr}{fd:FuncData}{C:Addr} (F:Fun K "faces_at" "Floor.faces_at" Wa f fd) (oc:ObC K "Floor" C) (na1:NoAttr K C "hall") (na2:NoAttr K C "known_faces") {f1:Addr}{fd1:FuncData}
  (G1:FnOk P w K mg base Xj 2 f1 fd1 ["hall","kind","x","y"] (Ax K Y7)) (b1:Binds K fd1 ["hall","kind","x","y"] []) (k1:PySem.W.keepIn K (.ref f1)=true) (m1:mg "faces"=some (.ref f1)):
  FnOk P w K mg base Xj 3 f fd ["self","edge"] (Zkj K Y7):=by
 refine F.ok Da (fun vs H Q E h=>?_) (fun cdv A outer s H vs Q E hr h=>?_)
 ·obtain⟨Hf,a,g,q,k,n,ds,ks,d,v,rfl,_⟩:=h
  rfl
 ·obtain⟨Hf,a,g,q,k,n,ds,ks,d,v,rfl,e,fl,hk,ca,hn,rv,ek,el,ed,q'⟩:=h
  obtain⟨tF,pF,qF⟩:X4 (Vd Xj P w K mg base ["self","edge"] "Floor.faces_at" (Zk Wa) f cdv A outer s H E).nox E0 _ _:=Jw G1 (hr.mono (by decide)) m1 k1 b1 (Za (Mp 0 oc na1) (Za (Zo (Zc 1)) (Za (Zo (Zc 1)) (Za (Zo (Zc 1)) Ze))))
  refine⟨_,Yc (F1 (Ziz (Zag (Zgr hr.units) (Qm (i:=1) rfl (.inl rfl) (by decide) (by decide)) (Ws (Qm (i:=0) rfl (.inl rfl) (by decide) (by decide)) rfl)) (by rfl)) (Kd (Zf2 (Zgr hr.units) (Ws (Qm (i:=0) rfl (.inl rfl) (by decide) (by decide)) rfl) (Qm (i:=1) rfl (.inl rfl) (by decide) (by decide)) pF rfl)) Sb) (Kd (Pn (Zf1 (Zgr hr.units) (Ws (Qm (i:=0) rfl (.inl rfl) (by decide) (by decide)) rfl) (Qm (i:=1) rfl (.inl rfl) (by decide) (by decide)) (fun _ _=>rfl)))),?_⟩
  obtain⟨C',dx,gs,dq,ys,c1,c2,c3,c4,c5⟩:=id fl
  rw[oc.at_] at c1
  cases c1
  obtain⟨cc,zs,h1,h2,h3,h4⟩:=ca
  obtain⟨b,rfl,hb⟩:=Bp ek e rv
  match ds,el with
  |[d0,d1,d2],_=>
  refine⟨_,rfl,_,rfl,a,C,dx,gs,.ref k,rfl,e _ _ c2,oc.cls,na2,c3.kn,k,_,rfl,DGet.t h1 hb,_,rfl,?_⟩
  cases eg:Xm cc ks with
  |some d'=>
   obtain⟨v',ev,rv'⟩:=h2.get ks eg
   have:=h4 _ _ _ ek eg
   rw[ed] at this
   cases this
   rw[ev]
   rw[if_neg (by simp)]
   refine⟨_,rfl,a,C,dx,gs,.ref k,rfl,e _ _ c2,oc.cls,na2,c3.kn,_,rfl,k,v',rfl,by rw[<-ev];exact DGet.t h1 hb,?_⟩
   exact q' v' Hf H (GrM.refl e) ⟨cc,zs,h1,h2,by lia,h4⟩ rv'
  |none=>
   rw[h2.none ks eg,if_pos (by rfl)]
   have sr:=Gn (K:=K) (N:=["self","edge"]) (ss:=[.fl a g q,.im (.tup [d0,d1,d2])]) (vs:=[.ref a,.ref b]) (m:=0) e (.cons ⟨rfl,fl.fl⟩ (.cons ⟨rfl,rv⟩ .nil)) rfl
   refine qF H _ Hf _ _ H _ sr ?_
   have ef:(Zt Y7 (Zb (Sg 0) (Zb 1[0]! (Zb 1[1]! (Zb 1[2]! Zh))))) [some (.fl a g q),some (.im (.tup [d0,d1,d2]))]=.ok d:=by
    show(match Y7 [g,d0,d1,d2] with | .ok s=>s.toD|_=>M.bad)=.ok d
    exact Zkk ed
   rw[show([DL.S.fl a g q,DL.S.im (.tup [d0,d1,d2])].map some++List.replicate 0 none)=[some (.fl a g q),some (.im (.tup [d0,d1,d2]))] from rfl,ef]
   intro v1 Hf1 H1 g1 rv1
   have hs1:H1 k=some (.dT zs):=g1.all _ _ h1
   have hz:zs.length<sizeLine:=by lia
   refine⟨_,rfl,a,C,dx,gs,.ref k,rfl,g1.all _ _ (e _ _ c2),oc.cls,na2,c3.kn,_,rfl,k,_,rfl,DPut.t hs1 (g1.all _ _ hb) hz,?_⟩
   have hk1:Hf1 k=none:=g1.ban k ⟨_,h1,fun _ q=>by cases q⟩ hk
   have nka:a≠k:=fun z=>by rw[z,hk] at c2;cases c2
   have nkb:b≠k:=fun z=>by rw[z,h1] at hb;cases hb
   refine⟨_,rfl,a,C,dx,gs,.ref k,rfl,(Zp nka).trans (g1.all _ _ (e _ _ c2)),oc.cls,na2,c3.kn,_,rfl,k,v1,rfl,?_,?_⟩
   ·have:=DGet.t (H:=upd H1 k (.dT (Kt zs ks v1))) (a:=k) (k:=ks) Z2 ((Zp nkb).trans (g1.all _ _ hb))
    rw[L2.Zcc,if_pos rfl] at this
    exact this
   ·refine q' v1 Hf1 _ ⟨g1.fz,fun x u hx=>?_,fun x u hx hu=>(Zp hx).trans (g1.all _ _ hu),g1.ban⟩ ⟨Zcu cc ks d,_,Z2,(h2.mono g1.fz).put ks rv1,?_,fun ds' ks' d' e1 e2=>?_⟩ rv1
    ·rw[Zp (Z9 hx hk1)];exact g1.sub _ _ hx
    ·have:=Ua zs ks v1
     lia
    ·rw[Zdg eg] at e2
     split at e2
     ·rename_i ee
      subst ee
      cases e2
      rw[Mo e1 ek]
      exact ed
     ·exact h4 _ _ _ e1 e2
end
section
variable {P:Program}{w:World}{K:PySem.W.Frag}{mg:Str->Option Value}{base:Heap}
def Dc:FnScope ["floor","across","upward","now"] ["floor","across","upward","now"] (Zk Nk):=⟨rfl,rfl,rfl,by decide +kernel,rfl,by decide +kernel,by decide +kernel⟩
noncomputable def F_thing_at:List S->M D:=Zm9 4
 (Zh8 (tA (DL.tB (Zn Ys (Yo 1 "Track" "due") (Zd 3))) (DL.tB (Zn Ys (Yo 2 "Track" "due") (Zd 3))))
  (Uo (DL.tB (Zt Uj (Zb (Sg 0) (Zb (X7 1 "Track" "line_ahead" Q3 Zh) (Zb (X7 2 "Track" "line_ahead" Q3 Zh) Zh))))) ↑"corner" (eC .non))
 (Zh8 (DL.tB (Zn Ys (Yo 1 "Track" "due") (Zd 3)))
  (Go Y7 F_face_ahead 1 (Qf (Zb ↑"up" (Zb (X7 1 "Track" "line_ahead" Q3 Zh) (Zb (Yo 2 "Track" "square") Zh)))))
 (Zh8 (DL.tB (Zn Ys (Yo 2 "Track" "due") (Zd 3)))
  (Go Y7 F_face_ahead 2 (Qf (Zb ↑"flat" (Zb (Yo 1 "Track" "square") (Zb (X7 2 "Track" "line_ahead" Q3 Zh) Zh)))))
 (eC .non))))
def Dd {f:Addr}{fd:FuncData}{C CF:Addr} (F:Fun K "thing_at" "thing_at" Nk f fd) (tc:TkC K C) (oc:ObC K "Floor" CF) (na1:NoAttr K CF "hall") {f1 f2 f3 f4:Addr}{fd1 fd2 fd3 fd4:FuncData}
  (m1:Meth K C "line_ahead" f1) (G1:FnOk P w K mg base Xj 1 f1 fd1 ["self"] (Rv K Q3)) (b1:Binds K fd1 ["self"] [])
  (G2:FnOk P w K mg base Xj 3 f2 fd2 ["hall","x","y"] (Ax K Uj)) (b2:Binds K fd2 ["hall","x","y"] []) (k2:PySem.W.keepIn K (.ref f2)=true) (m2:mg "is_corner"=some (.ref f2))
  (m3:Meth K CF "faces_at" f3) (G3:FnOk P w K mg base Xj 3 f3 fd3 ["self","edge"] (Zkj K Y7)) (b3:Binds K fd3 ["self","edge"] [])
  (G4:FnOk P w K mg base Xj 1 f4 fd4 ["track","pair"] (Rv K F_face_ahead)) (b4:Binds K fd4 ["track","pair"] []) (k4:PySem.W.keepIn K (.ref f4)=true) (m4:mg "face_ahead"=some (.ref f4)):
  FnOk P w K mg base Xj 4 f fd ["floor","across","upward","now"] (Zgo K Y7 F_thing_at):=
 Zo5 F Dc rfl fun cdv A outer s H E hr=>
  (E4 ((Jv (Zr (Ya hr.units) (Yb 1 tc.oc tc.n4) (Zc 3) (Zz _)) (Kf (Zr (Ya hr.units) (Yb 2 tc.oc tc.n4) (Zc 3) (Zz _))))).pt
   (Ic (Q9 (Q7 (Jw G2 (hr.mono (by decide)) m2 k2 b2 (Za (Mp 0 oc na1) (Za (Vs 1 tc.oc m1 G1 (hr.mono (by decide)) b1) (Za (Vs 2 tc.oc m1 G1 (hr.mono (by decide)) b1) Ze))))) Ql Qr))
  (E4 (Zr (Ya hr.units) (Yb 1 tc.oc tc.n4) (Zc 3) (Zz _))
   (C2 1 oc m3 G3 (hr.mono (by decide)) b3 G4 (hr.mono (by decide)) m4 k4 b4 (Qb (Za Ql (Za (Vs 1 tc.oc m1 G1 (hr.mono (by decide)) b1) (Za (Yb 2 tc.oc tc.n2) Ze)))))
  (E4 (Zr (Ya hr.units) (Yb 2 tc.oc tc.n4) (Zc 3) (Zz _))
   (C2 2 oc m3 G3 (hr.mono (by decide)) b3 G4 (hr.mono (by decide)) m4 k4 b4 (Qb (Za Ql (Za (Yb 1 tc.oc tc.n2) (Za (Vs 2 tc.oc m1 G1 (hr.mono (by decide)) b1) Ze)))))
  (Ic Qr))))
end
abbrev Zkp:=List (List Y3×D)
def Rg (a a1 a2:Addr)(g:D)(q:Zkp)(pt st mo wt:D)(r1 r2:Yg)(tn:List D)(t8 t9 t10 t11:Option S):Zl:=
 [some (.fl a g q),some (.im pt),some (.im st),some (.im mo),some (.im wt),some (.ob a1 "Track" r1),some (.ob a2 "Track" r2),some (.ow tn),t8,t9,t10,t11]
noncomputable def Fi:Zl->M D:=Tb F_person_ahead (Wz 0 (Wz 5 (Wz 6 (Cv (Zd 4) Cu))))
noncomputable def Zkq:Zl->M D:=Kv Zde (Zb (Yo 5 "Track" "due") (Zb (Yo 6 "Track" "due") (Zb (Zd 4) Zh)))
noncomputable def Ie:Zl->M D:=Hm 7 (Zt Js (Zb (Zd 10) (Zb (Zn Ys (Zd 9) (Zd 4)) (Zb (Zn Bj (Kv Wl (Zb (Zd 7) Zh)) (Zd 3)) Zh))))
noncomputable def Uk:Zl->M D:=Qf (Zb (X7 5 "Track" "place_at" Yv (Zb (Zd 9) Zh)) (Zb (X7 6 "Track" "place_at" Yv (Zb (Zd 9) Zh)) Zh))
noncomputable def Zgs:Zl->M Bool:=DL.tB (Zn Ys (Zd 10) ↑"m")
noncomputable def Tw (a a1 a2:Addr)(g:D)(q:Zkp)(pt st mo wt:D):Nat->Yg->Yg->List D->M D
 |0,_,_,_=>.bad
 |n+1,r1,r2,tn=>
  (Fi (Rg a a1 a2 g q pt st mo wt r1 r2 tn none none none none)).bind fun p=>if p.isN=true then
   (Zkq (Rg a a1 a2 g q pt st mo wt r1 r2 tn none none none none)).bind fun now=>
   (F_thing_at [.fl a g q,.ob a1 "Track" r1,.ob a2 "Track" r2,.im now]).bind fun th=>
   (Ie (Rg a a1 a2 g q pt st mo wt r1 r2 tn none (some (.im now)) (some (.im th)) none)).bind fun wd=>if wd.isN=true then
    (Zgs (Rg a a1 a2 g q pt st mo wt r1 r2 tn none none (some (.im th)) none)).bind fun b=>
    (if b=true then(Uk (Rg a a1 a2 g q pt st mo wt r1 r2 tn none (some (.im now)) none none)).bind fun pl=>if few tn=true then .ok (tn++[pl]) else .bad else .ok tn).bind fun tn'=>
    (match F_pass_line r1 [now,th],F_pass_line r2 [now,th] with
    |some r1',some r2'=>Tw a a1 a2 g q pt st mo wt n r1' r2' tn'
    |_,_=>.bad)
   else(Uk (Rg a a1 a2 g q pt st mo wt r1 r2 tn none (some (.im now)) none none)).bind fun pl=>.ok (.tup [wd,pl,.lst tn])
  else .ok (.tup [.str (Str.ofString "person"),p,.lst tn])
noncomputable def fW (a a1 a2:Addr)(g:D)(q:Zkp)(pt st mo:D):M D:=
 (Zt Xu (Zb (Zd 0) (Zb (Zd 1) Zh)) [some (.im pt),some (.im st)]).bind fun wt=>
 (Zb 0[0]! (Zb 1[0]! (Zb (Zd 2) Zh)) [some (.im pt),some (.im st),some (.im wt)]).bind fun l1=>
 (Zb 0[1]! (Zb 1[1]! (Zb (Zd 2) Zh)) [some (.im pt),some (.im st),some (.im wt)]).bind fun l2=>
 match Km [] l1,Km [] l2 with
 |some r1,some r2=>Tw a a1 a2 g q pt st mo wt 1000000 r1 r2 []
 |_,_=>.bad
def Zph (K:PySem.W.Frag)(F:Addr->Addr->Addr->D->Zkp->D->D->D->M D):Sp:=fun vs H Q _=>∃Hf a g q k pt st mo d rest,vs=.ref a::rest/\Same Hf H/\FlK K Hf a g q k/\Hf k=none/\H k=some (.dT [])/\Reps K Hf [pt,st,mo] rest/\(∀a1 a2,F a a1 a2 g q pt st mo=.ok d) /\
 ∀v' Hf' H',GrM k Hf H Hf' H'->Rep K Hf' d v'->Q v' H'
def Zgt:Stmt->List Stmt
 |.While _ b _ _=>b
 |_=>[]
abbrev wA (i:Nat):Stmt:=(Xy Yi).getD i (.Pass ⟨0,0,0,0⟩)
abbrev wB (i:Nat):Stmt:=(Zgt (wA 4)).getD i (.Pass ⟨0,0,0,0⟩)
def N9 {i:Nat}{f:Zl->M O}{sd:Zl}{p:D}(h:sd[i]?=some (some (.im p))):Yy (DL.tB (Zn Xd (Zd i) (eC .non))) f Qs sd=if p.isN=true then .ok (.nx sd) else f sd:=by
 have e:DL.tB (Zn Xd (Zd i) (eC .non)) sd=.ok (!p.isN):=by
  unfold DL.tB Zn Zd eC
  rw[h]
  cases p<;>rfl
 unfold Yy
 rw[e]
 cases p.isN<;>rfl
def Tx {f:Zl->M D}{g:Zl->M (List D)}{sd:Zl}{d:D}{l:List D}(h1:f sd=.ok d)(h2:g sd=.ok l):Zb f g sd=.ok (d::l):=by
 unfold Zb
 rw[h1]
 show M.bind (g sd) _=_
 rw[h2]
 rfl
def Pl (t:Option S):Prop:=∀s,t=some s->∃d,s=.im d
def Jx:Pl none:=fun _ h=>by cases h
def Xg {d:D}:Pl (some (.im d)):=fun _ h=>by cases h;exact⟨d,rfl⟩
def Rh {a a1 a2:Addr}{g:D}{q:Zkp}{pt st mo wt:D}{r1 r2:Yg}{tn:List D}{t8 t9 t10 t11:Option S}(h8:Pl t8)(h9:Pl t9)(h10:Pl t10)(h11:Pl t11){i:Nat}{t:S}(h:(Rg a a1 a2 g q pt st mo wt r1 r2 tn t8 t9 t10 t11)[i]?=some (some t)):
  (i=0/\t=.fl a g q)\/(i=5/\t=.ob a1 "Track" r1)\/(i=6/\t=.ob a2 "Track" r2)\/t=.ow tn\/∃d,t=.im d:=by
 match i,h with
 |0,h=>cases h;exact .inl ⟨rfl,rfl⟩
 |1,h=>cases h;exact .inr (.inr (.inr (.inr ⟨_,rfl⟩)))
 |2,h=>cases h;exact .inr (.inr (.inr (.inr ⟨_,rfl⟩)))
 |3,h=>cases h;exact .inr (.inr (.inr (.inr ⟨_,rfl⟩)))
 |4,h=>cases h;exact .inr (.inr (.inr (.inr ⟨_,rfl⟩)))
 |5,h=>cases h;exact .inr (.inl ⟨rfl,rfl⟩)
 |6,h=>cases h;exact .inr (.inr (.inl ⟨rfl,rfl⟩))
 |7,h=>cases h;exact .inr (.inr (.inr (.inl rfl)))
 |8,h=>exact .inr (.inr (.inr (.inr (h8 t (Option.some.inj h)))))
 |9,h=>exact .inr (.inr (.inr (.inr (h9 t (Option.some.inj h)))))
 |10,h=>exact .inr (.inr (.inr (.inr (h10 t (Option.some.inj h)))))
 |11,h=>exact .inr (.inr (.inr (.inr (h11 t (Option.some.inj h)))))
 |i+12,h=>cases h
section
variable {a a1 a2:Addr}{g:D}{q:Zkp}{pt st mo wt:D}{r1 r2:Yg}{tn:List D}{t8 t9 t10 t11:Option S}
def Ah (h8:Pl t8)(h9:Pl t9)(h10:Pl t10)(h11:Pl t11)(i:Nat)(t:S)(h:(Rg a a1 a2 g q pt st mo wt r1 r2 tn t8 t9 t10 t11)[i]?=some (some t))(o:t.own=true):∃ds,t=.ow ds:=by
 rcases Rh h8 h9 h10 h11 h with⟨_,rfl⟩|⟨_,rfl⟩|⟨_,rfl⟩|rfl|⟨d,rfl⟩
 ·cases o
 ·cases o
 ·cases o
 ·exact⟨_,rfl⟩
 ·cases o
def Znc (h8:Pl t8)(h9:Pl t9)(h10:Pl t10)(h11:Pl t11)(n1:a≠a1)(n2:a2≠a1)(i:Nat)(t:S)(hi:i≠5)(h:(Rg a a1 a2 g q pt st mo wt r1 r2 tn t8 t9 t10 t11)[i]?=some (some t)):t.adr≠some a1/\∀z,t≠.xc z:=by
 rcases Rh h8 h9 h10 h11 h with⟨_,rfl⟩|⟨e,rfl⟩|⟨_,rfl⟩|rfl|⟨d,rfl⟩
 ·exact⟨fun z=>n1 (Option.some.inj z),fun _ z=>by cases z⟩
 ·exact absurd e hi
 ·exact⟨fun z=>n2 (Option.some.inj z),fun _ z=>by cases z⟩
 ·exact⟨(fun z=>by cases z),(fun _ z=>by cases z)⟩
 ·exact⟨(fun z=>by cases z),(fun _ z=>by cases z)⟩
def Znd (h8:Pl t8)(h9:Pl t9)(h10:Pl t10)(h11:Pl t11)(n1:a≠a2)(n2:a1≠a2)(i:Nat)(t:S)(hi:i≠6)(h:(Rg a a1 a2 g q pt st mo wt r1 r2 tn t8 t9 t10 t11)[i]?=some (some t)):t.adr≠some a2/\∀z,t≠.xc z:=by
 rcases Rh h8 h9 h10 h11 h with⟨_,rfl⟩|⟨_,rfl⟩|⟨e,rfl⟩|rfl|⟨d,rfl⟩
 ·exact⟨fun z=>n1 (Option.some.inj z),fun _ z=>by cases z⟩
 ·exact⟨fun z=>n2 (Option.some.inj z),fun _ z=>by cases z⟩
 ·exact absurd e hi
 ·exact⟨(fun z=>by cases z),(fun _ z=>by cases z)⟩
 ·exact⟨(fun z=>by cases z),(fun _ z=>by cases z)⟩
end
def WI (K:PySem.W.Frag)(H Hf:Hp)(a a1 a2 k:Addr)(g:D)(q:Zkp)(pt st mo wt d:D)(n:Nat)(σ':L2.St)(H':Hp):Prop:=
 ∃Hf' r1 r2 tn t8 t9 t10 t11 m,Same Hf Hf'/\SR K (Np H k) (fun b=>Lv (Np H k) b/\Hf b=none) Hf' (Rg a a1 a2 g q pt st mo wt r1 r2 tn t8 t9 t10 t11) σ' H'/\Hf' k=none/\CaAt K (P6 Y7 g) m Hf' H' k/\m+n<=1000000/\Pl t8/\Pl t9/\Pl t10/\Pl t11/\Tw a a1 a2 g q pt st mo wt n r1 r2 tn=.ok d
section
variable {P:Program}{w:World}{K:PySem.W.Frag}{mg:Str->Option Value}{base:Heap}
abbrev X1:List Str:=["floor","point","step","most","whole_time","across","upward","turns","person","now","thing","word"]
def sc_walk_on:FnScope X1 ["floor","point","step","most"] (Zk Yi):=⟨rfl,rfl,rfl,by decide +kernel,rfl,by decide +kernel,by decide +kernel⟩
def Fj {f:Addr}{fd:FuncData}{C CF:Addr} (F:Fun K "walk_on" "walk_on" Yi f fd) (tc:TkC K C) (oc:ObC K "Floor" CF) {f1 f2 f3 f4 f5 f6 f7:Addr}{fd1 fd2 fd3 fd4 fd5 fd6 fd7:FuncData}
  (G1:FnOk P w K mg base Xj 1 f1 fd1 ["point","step"] (Ax K Xu)) (b1:Binds K fd1 ["point","step"] []) (k1:PySem.W.keepIn K (.ref f1)=true) (m1:mg "whole_time_of"=some (.ref f1))
  (Mk2:Mk K C f2) (G2:FnOk P w K mg base Xj 2 f2 fd2 ["self","begin","part","whole_time"] (R6 K C Km)) (b2:Binds K fd2 ["self","begin","part","whole_time"] []) (m2:mg "Track"=some (.ref C))
  (G3:FnOk P w K mg base Xj 5 f3 fd3 ["floor","across","upward","whole_time"] (Rv K F_person_ahead)) (b3:Binds K fd3 ["floor","across","upward","whole_time"] []) (k3:PySem.W.keepIn K (.ref f3)=true) (m3:mg "person_ahead"=some (.ref f3))
  (G4:FnOk P w K mg base Xj 4 f4 fd4 ["floor","across","upward","now"] (Zgo K Y7 F_thing_at)) (b4:Binds K fd4 ["floor","across","upward","now"] []) (k4:PySem.W.keepIn K (.ref f4)=true) (m4:mg "thing_at"=some (.ref f4))
  (G5:FnOk P w K mg base Xj 1 f5 fd5 ["thing","is_over","may_turn"] (Ax K Js)) (b5:Binds K fd5 ["thing","is_over","may_turn"] []) (k5:PySem.W.keepIn K (.ref f5)=true) (m5:mg "how_it_ends"=some (.ref f5))
  (m6:Meth K C "place_at" f6) (G6:FnOk P w K mg base Xj 3 f6 fd6 ["self","time"] (Rv K Yv)) (b6:Binds K fd6 ["self","time"] [])
  (G7:FnOk P w K mg base Xj 2 f7 fd7 ["track","now","thing"] (R6 K C F_pass_line)) (b7:Binds K fd7 ["track","now","thing"] []) (k7:PySem.W.keepIn K (.ref f7)=true) (m7:mg "pass_line"=some (.ref f7))
  (z_min:mg "min"=none) (z_len:mg "len"=none):
  FnOk P w K mg base Xj 6 f fd ["floor","point","step","most"] (Zph K fW):=by
 refine F.ok sc_walk_on (fun vs H Q E h=>?_) (fun cdv A outer s H vs Q E hr h=>?_)
 ·obtain⟨Hf,a,g,q,k,pt,st,mo,d,rest,rfl,_,_,_,_,rs,_⟩:=h
  have:=rs.length
  rw[List.length_cons,<-this]
  rfl
 ·obtain⟨Hf,a,g,q,k,pt,st,mo,d,rest,rfl,e,fl,hk,ck,rs,hF,kk⟩:=h
  obtain⟨tT,pT,qT⟩:Ca (Vd Xj P w K mg base X1 "walk_on" (Zk Yi) f cdv A outer s H E).nox E0 _ (DL.tB (eC (.bl true))):=Q7 Wi
  obtain⟨t1,p1,q1⟩:Ss (Vd Xj P w K mg base X1 "walk_on" (Zk Yi) f cdv A outer s H E).nox E0 (wA 0) _:=Zv 4 sc_walk_on.nd (Jw G1 (hr.mono (by decide)) m1 k1 b1 (Za (Zc 1) (Za (Zc 2) Ze)))
  obtain⟨t2,p2,q2⟩:Aw (Vd Xj P w K mg base X1 "walk_on" (Zk Yi) f cdv A outer s H E).nox E0 _ _:=Za (Zo (Zc 1)) (Za (Zo (Zc 2)) (Za (Zc 4) Ze))
  obtain⟨t3,p3,q3⟩:Aw (Vd Xj P w K mg base X1 "walk_on" (Zk Yi) f cdv A outer s H E).nox E0 _ _:=Za (Zo (Zc 1)) (Za (Zo (Zc 2)) (Za (Zc 4) Ze))
  obtain⟨t4,p4,q4⟩:Ss (Vd Xj P w K mg base X1 "walk_on" (Zk Yi) f cdv A outer s H E).nox E0 (wA 3) _:=Vf 7 sc_walk_on.nd (Ve Ze)
  obtain⟨t5,p5,q5⟩:Ss (Vd Xj P w K mg base X1 "walk_on" (Zk Yi) f cdv A outer s H E).nox E0 (wB 0) (Z4 8 Fi):=Zv 8 sc_walk_on.nd (Cw G3 (hr.mono (by decide)) m3 k3 b3 (Ug 0 (Ug 5 (Ug 6 (Bu (Zc 4) Bt)))))
  obtain⟨t6,p6,q6⟩:Ss (Vd Xj P w K mg base X1 "walk_on" (Zk Yi) f cdv A outer s H E).nox E0 (wB 1) _:=Qe (Zr Kw (Zc 8) Qr (Zz _)) (Kj 7 (Zm (Zu (Qb (Za Ql (Za (Zc 8) (Za (Zc 7) Ze))))))) Z8
  obtain⟨t7,p7,q7⟩:Ss (Vd Xj P w K mg base X1 "walk_on" (Zk Yi) f cdv A outer s H E).nox E0 (wB 2) (Z4 9 Zkq):=Zv 9 sc_walk_on.nd (Yd (Zgn rfl) (by rfl) z_min (by rfl) (Za (Yb 5 tc.oc tc.n4) (Za (Yb 6 tc.oc tc.n4) (Za (Zc 4) Ze))))
  obtain⟨t8,p8,q8⟩:Zkd (Vd Xj P w K mg base X1 "walk_on" (Zk Yi) f cdv A outer s H E).nox E0 _ _:=Ug 0 (Ug 5 (Ug 6 (Bu (Zc 9) Bt)))
  obtain⟨t9,p9,q9⟩:Ss (Vd Xj P w K mg base X1 "walk_on" (Zk Yi) f cdv A outer s H E).nox E0 (wB 4) (Z4 11 Ie):=Zv 11 sc_walk_on.nd (Zgc 7 (Jw G5 (hr.mono (by decide)) m5 k5 b5 (Za (Zc 10) (Za (Jn (Ya hr.units) (Zc 9) (Zc 4) (Zz _)) (Za (Jn Rs (Yd Wt (by rfl) z_len (by rfl) (Za (Zc 7) Ze)) (Zc 3) (Zz _)) Ze)))))
  obtain⟨t10,p10,q10⟩:Ss (Vd Xj P w K mg base X1 "walk_on" (Zk Yi) f cdv A outer s H E).nox E0 (wB 5) (Yy _ (V9 7 (Qj (Qf (Zb (Zd 11) (Zb Uk (Zb (Zd 7) Zh)))))) Qs):=Qe (Zr Kw (Zc 11) Qr (Zz _)) (Kj 7 (Zm (Zu (Qb (Za (Zc 11) (Za (Qb (Za (W0 5 tc.oc m6 G6 (hr.mono (by decide)) b6 (Za (Zc 9) Ze)) (Za (W0 6 tc.oc m6 G6 (hr.mono (by decide)) b6 (Za (Zc 9) Ze)) Ze))) (Za (Zc 7) Ze))))))) Z8
  obtain⟨t11,p11,q11⟩:Ss (Vd Xj P w K mg base X1 "walk_on" (Zk Yi) f cdv A outer s H E).nox E0 (wB 6) (Yy Zgs (Vg 7 Uk) Qs):=Qe (Zr (Ya hr.units) (Zc 10) Ql (Zz _)) (Zm (Vh 7 (Qb (Za (W0 5 tc.oc m6 G6 (hr.mono (by decide)) b6 (Za (Zc 9) Ze)) (Za (W0 6 tc.oc m6 G6 (hr.mono (by decide)) b6 (Za (Zc 9) Ze)) Ze))))) Z8
  refine⟨_,Yc p1 (Yc (Nd sc_walk_on.nd (i:=5) rfl (.inl rfl) (Bd (dvs:=[]) (E:=E0) Mk2 G2 (hr.mono (by decide)) (by rfl) m2 b2 .nil Vv p2) rfl (.inl rfl))
   (Yc (Nd sc_walk_on.nd (i:=6) rfl (.inl rfl) (Bd (dvs:=[]) (E:=E0) Mk2 G2 (hr.mono (by decide)) (by rfl) m2 b2 .nil Vv p3) rfl (.inl rfl))
   (Yc p4 (Kd (A2 PassesOwn.never pT
    (Yc p5 (Yc p6 (Yc p7
    (Yc (Nd sc_walk_on.nd (i:=10) rfl (.inl rfl) (U3 (dvs:=[]) (E:=E0) G4 (hr.mono (by decide)) (by rfl) m4 k4 b4 .nil Vv p8) rfl (.inl rfl))
    (Yc p9 (Yc p10 (Yc p11
    (Yc (Gh (U3 (dvs:=[]) (E:=E0) G7 (hr.mono (by decide)) (by rfl) m7 k7 b7 .nil Vv (Qz (Qm (i:=5) rfl (.inl rfl) (by decide) (by decide)) (Qz (Qm (i:=9) rfl (.inl rfl) (by decide) (by decide)) (Qz (Qm (i:=10) rfl (.inl rfl) (by decide) (by decide)) Jm rfl) rfl) rfl)) rfl)
    (Kd (Gh (U3 (dvs:=[]) (E:=E0) G7 (hr.mono (by decide)) (by rfl) m7 k7 b7 .nil Vv (Qz (Qm (i:=6) rfl (.inl rfl) (by decide) (by decide)) (Qz (Qm (i:=9) rfl (.inl rfl) (by decide) (by decide)) (Qz (Qm (i:=10) rfl (.inl rfl) (by decide) (by decide)) Jm rfl) rfl) rfl)) rfl))))))))))))))),?_⟩
  have hF0:=hF 0 0
  unfold fW at hF0
  obtain⟨wt,ew,hF0⟩:=bind_ok hF0
  obtain⟨l1,el1,hF0⟩:=bind_ok hF0
  obtain⟨l2,el2,hF0⟩:=bind_ok hF0
  split at hF0
  case h_2=>cases hF0
  rename_i r1 r2 er1 er2
  have hL:∀a1 a2,Tw a a1 a2 g q pt st mo wt 1000000 r1 r2 []=.ok d:=fun a1 a2=>by
   have h:=hF a1 a2
   unfold fW at h
   rw[ew] at h
   simp only[M.bind] at h
   rw[el1] at h
   simp only[M.bind] at h
   rw[el2] at h
   simp only[M.bind] at h
   rw[er1,er2] at h
   exact h
  clear hF0 hF
  have hlen:=rs.length
  have sr0:=Gn (K:=K) (N:=X1) (ss:=[.fl a g q,.im pt,.im st,.im mo]) (vs:=.ref a::rest) (m:=8) e (.cons ⟨rfl,fl.fl⟩ (Bw rs)) rfl
  refine q1 _ _ _ _ _ _ _ sr0 (W1 (Sh ew) fun σ1 Hf1 H1 s1 sr1=>?_)
  refine Zdj (i:=5) q2 sr1 el1 rfl er1 tc.oc.at_ fun a1 σ2 Hf2 H2 s2 n1 sr2=>?_
  refine Zdj (i:=6) q3 sr2 el2 rfl er2 tc.oc.at_ fun a2 σ3 Hf3 H3 s3 n2 sr3=>?_
  refine q4 _ _ _ _ _ _ _ sr3 (W1 (show _=M.ok (O.nx _) from rfl) fun σ4 Hf4 H4 s4 sr4=>?_)
  have na1:H a1=none:=none_of sr1.all n1
  have na2:H a2=none:=none_of sr2.all n2
  have fa1:Hf a1=none:=none_of e na1
  have fa2:Hf a2=none:=none_of e na2
  have n12:a1≠a2:=fun z=>by
   obtain⟨v,y1,C'',dx'',gs'',rfl,y2,y3,y4⟩:=sr2.imS 5 (.ob a1 "Track" r1) rfl rfl
   rw[z] at y3
   rw[sr2.sub _ _ y3] at n2
   cases n2
  obtain⟨x0,x1,x2,x3,x4,x5,x6,x7⟩:=id fl
  have nA1:a≠a1:=fun z=>by rw[z,fa1] at x6;cases x6
  have nA2:a≠a2:=fun z=>by rw[z,fa2] at x6;cases x6
  have lk:Lv H k:=⟨_,ck,fun _ q=>by cases q⟩
  have w0:WI K H Hf a a1 a2 k g q pt st mo wt d 1000000 σ4 H4:=⟨Hf4,r1,r2,[],none,none,none,none,0,s1.trans (s2.trans (s3.trans s4)),sr4.less (Vy H k) fun b hb=>⟨⟨(Vy H k).lv hb.1,hb.2⟩,hb.1⟩,sr4.ban k ⟨lk,hk⟩,
   ⟨[],[],sr4.all _ _ ck,.nil,Nat.le_refl _,fun _ _ _ _ h=>by cases h⟩,Nat.le_refl _,Jx,Jx,Jx,Jx,hL a1 a2⟩
  refine⟨WI K H Hf a a1 a2 k g q pt st mo wt d,⟨_,w0⟩,fun n σ5 H5 hW=>?_⟩
  clear w0 sr0 sr1 sr2 sr3 sr4 s1 s2 s3 s4 hL er1 er2 n1 n2
  obtain⟨Hf5,r1,r2,tn,t8,t9,t10,t11,m,s5,sr5,hk5,ca5,hm,h8,h9,h10,h11,hl⟩:=hW
  cases n with
  |zero=>cases hl
  |succ n=>
  refine qT _ _ _ _ _ _ _ sr5 ?_
  show Po K E0 rQ Hf5 H5 (M.ok true) _
  intro v Hf6 H6 g6 rv
  have ev:true=v:=rv
  subst ev
  rw[if_pos rfl]
  refine⟨WI K H Hf a a1 a2 k g q pt st mo wt d n,fun σ' H' w=>⟨n,Nat.lt_succ_self n,w⟩,?_⟩
  have sr6:=sr5.gr g6
  have hk6:Hf6 k=none:=g6.ban k ca5.lv hk5
  have ca6:=ca5.mono g6.fz (fun o z=>g6.all _ _ z)
  have s6:=s5.trans g6.fz
  clear sr5 ca5 hk5 s5 g6
  unfold Tw at hl
  obtain⟨p,ep,hl⟩:=bind_ok hl
  obtain⟨c6,y6,hc6,rc6,lc6,gc6⟩:=id ca6
  have srk:=sr6.keep hc6 ca6.lv hk6 (sr6.offD hc6 (Ah h8 h9 h10 h11))
  refine q5 _ _ _ _ _ _ _ srk (W1 (Sh ep) fun σ7 Hf7 H7 s7 sr7=>?_)
  have sr7:SR K _ _ Hf7 (Rg a a1 a2 g q pt st mo wt r1 r2 tn (some (.im p)) t9 t10 t11) σ7 H7:=sr7
  refine q6 _ _ _ _ _ _ _ sr7 ?_
  by_cases hp:p.isN=true
  case neg=>
   rw[if_neg hp] at hl
   cases hl
   refine Zdh (d:=.tup [.str (Str.ofString "person"),p,.lst tn]) ?_ fun v Hf' H' s fin rv=>kk v Hf' H' (Zdi (s6.trans (s7.trans s)) fin) rv
   rw[N9 (p:=p) rfl,if_neg hp]
   rfl
  rw[if_pos hp] at hl
  obtain⟨now,en,hl⟩:=bind_ok hl
  obtain⟨th,eth,hl⟩:=bind_ok hl
  obtain⟨wd,ewd,hl⟩:=bind_ok hl
  refine W1 (by rw[N9 (p:=p) rfl,if_pos hp]) fun σ8 Hf8 H8 s8 sr8=>?_
  refine q7 _ _ _ _ _ _ _ sr8 (W1 (Sh en) fun σ9 Hf9 H9 s9 sr9=>?_)
  have sr9:SR K _ _ Hf9 (Rg a a1 a2 g q pt st mo wt r1 r2 tn (some (.im p)) (some (.im now)) t10 t11) σ9 H9:=sr9
  obtain⟨hc9,hk9,sr9⟩:=sr9.back (Vz H k) fun b hb=>hb.1
  have s69:=s6.trans (s7.trans (s8.trans s9))
  have ca9:CaAt K (P6 Y7 g) m Hf9 H9 k:=⟨c6,y6,hc9,rc6.mono (s7.trans (s8.trans s9)),lc6,gc6⟩
  clear srk sr6 sr7 sr8 ca6 hk6 hc6 rc6
  refine q8 _ _ _ _ _ _ _ sr9 ?_
  show Po K E0 (Zm6 K) Hf9 H9 (M.ok [.fl a g q,.ob a1 "Track" r1,.ob a2 "Track" r2,.im now]) _
  intro vs Hf10 H10 g10 rs10
  show Zgo K Y7 F_thing_at (vs++[]) H10 _ E0
  rw[List.append_nil]
  have ca10:=ca9.mono g10.fz (fun o z=>g10.all _ _ z)
  have hk10:Hf10 k=none:=g10.ban k ca9.lv hk9
  have sr10:=sr9.gr g10
  have s10:=s69.trans g10.fz
  refine⟨Hf10,_,a,g,q,k,m,th,rfl,g10.sub,rs10,fl.mono s10,hk10,ca10,by rw[sizeLine_eq];lia,eth,fun v' Hf11 H11 gm ca11 rv'=>?_⟩
  have hk11:Hf11 k=none:=gm.ban k ca10.lv hk10
  obtain⟨c10,y10,hc10,_⟩:=id ca10
  have sr11:SR K _ _ Hf11 (Rg a a1 a2 g q pt st mo wt r1 r2 tn (some (.im p)) (some (.im now)) (some (.im th)) t11) _ H11:=(sr10.grM gm (Vz H k) (sr10.offD hc10 (Ah Xg Xg h10 h11))).set_im 10 rv'
  have s11:=s10.trans gm.fz
  clear sr9 sr10 ca9 ca10 hk9 hk10 s69 s10 rs10 gm hc9 g10 hc10 rv'
  obtain⟨c6,y6,hc6,rc6,lc6,gc6⟩:=id ca11
  have srk:=sr11.keep hc6 ca11.lv hk11 (sr11.offD hc6 (Ah Xg Xg Xg h11))
  refine q9 _ _ _ _ _ _ _ srk (W1 (Sh ewd) fun σ12 Hf12 H12 s12 sr12=>?_)
  have sr12:SR K _ _ Hf12 (Rg a a1 a2 g q pt st mo wt r1 r2 tn (some (.im p)) (some (.im now)) (some (.im th)) (some (.im wd))) σ12 H12:=sr12
  refine q10 _ _ _ _ _ _ _ sr12 ?_
  by_cases hw:wd.isN=true
  case neg=>
   rw[if_neg hw] at hl
   obtain⟨pl,epl,hl⟩:=bind_ok hl
   cases hl
   refine Zdh (d:=.tup [wd,pl,.lst tn]) ?_ fun v Hf' H' s fin rv=>kk v Hf' H' (Zdi (s11.trans (s12.trans s)) fin) rv
   rw[N9 (p:=wd) rfl,if_neg hw]
   have e3:=Tx (f:=Zd 11) (g:=Zb Uk (Zb (Zd 7) Zh)) (sd:=frz 7 (Rg a a1 a2 g q pt st mo wt r1 r2 tn (some (.im p)) (some (.im now)) (some (.im th)) (some (.im wd)))) (d:=wd) rfl (Tx (d:=pl) epl (Tx (d:=.lst tn) (l:=[]) rfl rfl))
   unfold V9 Qj Qf
   rw[e3]
   rfl
  rw[if_pos hw] at hl
  obtain⟨b,eb,hl⟩:=bind_ok hl
  obtain⟨tn',etn,hl⟩:=bind_ok hl
  split at hl
  case h_2=>cases hl
  rename_i r1' r2' er1 er2
  refine W1 (by rw[N9 (p:=wd) rfl,if_pos hw]) fun σ13 Hf13 H13 s13 sr13=>?_
  refine q11 _ _ _ _ _ _ _ sr13 (W1 (sd':=Rg a a1 a2 g q pt st mo wt r1 r2 tn' (some (.im p)) (some (.im now)) (some (.im th)) (some (.im wd))) ?_ fun σ14 Hf14 H14 s14 sr14=>?_)
  ·have eb':Zgs (Rg a a1 a2 g q pt st mo wt r1 r2 tn (some (.im p)) (some (.im now)) (some (.im th)) (some (.im wd)))=.ok b:=eb
   unfold Yy
   rw[eb']
   cases b with
   |false=>cases etn;rfl
   |true=>
    rw[if_pos rfl] at etn
    obtain⟨pl,epl,etn⟩:=bind_ok etn
    split at etn
    ·rename_i hfew
     cases etn
     have e2:Uk (Rg a a1 a2 g q pt st mo wt r1 r2 tn (some (.im p)) (some (.im now)) (some (.im th)) (some (.im wd)))=.ok pl:=epl
     show(Uk (Rg a a1 a2 g q pt st mo wt r1 r2 tn (some (.im p)) (some (.im now)) (some (.im th)) (some (.im wd)))).bind (fun d=>if few tn=true then _ else _)=_
     rw[e2]
     show(if few tn=true then _ else _)=_
     rw[if_pos hfew]
     rfl
    ·cases etn
  obtain⟨hc14,hk14,sr14⟩:=sr14.back (Vz H k) fun b hb=>hb.1
  have s6_14:=s11.trans (s12.trans (s13.trans s14))
  have ca14:CaAt K (P6 Y7 g) (m+1) Hf14 H14 k:=⟨c6,y6,hc14,rc6.mono (s12.trans (s13.trans s14)),lc6,gc6⟩
  clear srk sr11 sr12 sr13 ca11 hk11 hc6 rc6
  refine Zh9 (i:=5) (i1:=9) (i2:=10) sr14 rfl (Znc Xg Xg Xg Xg nA1 n12.symm) tc.oc.at_ (none_of (Vy H k) na1) er1 (by decide) (by decide) rfl rfl hk14 ca14 fun Hf15 H15 s15 sr15 hk15 ca15=>?_
  have sr15:SR K _ _ Hf15 (Rg a a1 a2 g q pt st mo wt r1' r2 tn' (some (.im p)) (some (.im now)) (some (.im th)) (some (.im wd))) _ H15:=sr15
  refine Zh9 (i:=6) (i1:=9) (i2:=10) sr15 rfl (Znd Xg Xg Xg Xg nA2 n12) tc.oc.at_ (none_of (Vy H k) na2) er2 (by decide) (by decide) rfl rfl hk15 ca15 fun Hf16 H16 s16 sr16 hk16 ca16=>?_
  exact⟨Hf16,r1',r2',tn',_,_,_,_,m+1,s16 Hf (s15 Hf s6_14 fa1) fa2,sr16,hk16,ca16,by lia,Xg,Xg,Xg,Xg,hl⟩
end
noncomputable def Zn8:Zl->M D:=Qf (Zb (Zt Xn (Zb 3[0]! Zh)) (Zb (Zt Xn (Zb 3[1]! Zh)) Zh))
noncomputable def Ig (p:D):Option (List Y3):=match Zn8 [none,none,none,some (.im p),none] with
 |.ok (.tup ds)=>Vx ds
 |_=>none
noncomputable def Zdu:By->List D->Option By
 |acc,[]=>some acc
 |acc,p::r=>match Ig p with
  |some ks=>Zdu (Wr ks p acc) r
  |none=>none
theorem Pa (f:Str)(v:V):∀fs:List (Str×V),(Yz f v fs).length<=fs.length+1
 |[]=>Nat.le_refl _
 |(g,x)::r=>by
  unfold Yz
  split
  ·simp
  ·have:=Pa f v r
   simp only[List.length_cons]
   lia
section
variable {P:Program}{w:World}{K:PySem.W.Frag}{mg:Str->Option Value}{base:Heap}
abbrev Zn9:List Str:=["self","hall","people","person","square"]
def sc_Floor_init:FnScope Zn9 ["self","hall","people"] (Zk Vl):=⟨rfl,rfl,rfl,by decide +kernel,rfl,by decide +kernel,by decide +kernel⟩
def Zl1 (hall:D)(ppl:List D)(t3 t4:Option S):Zl:=[none,some (.im hall),some (.im (.lst ppl)),t3,t4]
def Ri {hall:D}{ppl:List D}{t3 t4:Option S}(h3:Pl t3)(h4:Pl t4){σ:L2.St}{b:Addr}:Zl0 (Zl1 hall ppl t3 t4) σ b:=by
 intro i t h o
 have:∃d,t=.im d:=by
  match i,h with
  |0,h=>cases h
  |1,h=>cases h;exact⟨_,rfl⟩
  |2,h=>cases h;exact⟨_,rfl⟩
  |3,h=>exact h3 t (Option.some.inj h)
  |4,h=>exact h4 t (Option.some.inj h)
  |i+5,h=>cases h
 obtain⟨d,rfl⟩:=this
 cases o
def FI (K:PySem.W.Frag)(CF dx x k d:Addr)(gs:List (Str×V))(H Hf:Hp)(hall:D)(ppl:List D)(q:By)(i m:Nat)(σ':L2.St)(H':Hp):Prop:=
 m=ppl.length-i/\i<=ppl.length/\∃Hf' t3 t4 ys acc,Same Hf Hf'/\SR K (Np H x) (fun b=>Lv (Np H x) b/\Hf b=none) Hf' (Zl1 hall ppl t3 t4) σ' H'/\Pl t3/\Pl t4/\σ'[0]?=some (some (.ref x))/\Hf' x=none/\H' x=some (.ins CF dx gs)/\H' k=some (.dT [])/\Hf' k=none /\
  H' d=some (.dT ys)/\Hf' d=none/\OwnL K (Np H x) Hf' H' acc ys/\acc.length<=i/\(∀p∈acc,p.2.length<=i)/\Zdu acc (ppl.drop i)=some q
def Lp {f:Addr}{fd:FuncData}{CF:Addr} (F:Fun K "__init__" "Floor.__init__" Vl f fd) (oc:ObC K "Floor" CF) (na1:NoAttr K CF "hall") (na2:NoAttr K CF "known_faces") (na3:NoAttr K CF "by_square") {f1:Addr}{fd1:FuncData}
  (G1:FnOk P w K mg base Xj 1 f1 fd1 ["place"] (Ax K Xn)) (b1:Binds K fd1 ["place"] []) (k1:PySem.W.keepIn K (.ref f1)=true) (m1:mg "square_of"=some (.ref f1)):
  FnOk P w K mg base Xj 2 f fd ["self","hall","people"] (Zna K CF (Zdu [])):=by
 refine F.ok sc_Floor_init (fun vs H Q E h=>?_) (fun cdv A outer s H vs Q E hr h=>?_)
 ·obtain⟨Hf,x,dx,hall,ppl,q,vh,vp,rfl,_⟩:=h
  rfl
 ·obtain⟨Hf,x,dx,hall,ppl,q,vh,vp,rfl,e,hfx,hx,rh,rp,hlen,hq,kk⟩:=h
  obtain⟨tk,pk,qk⟩:X4 (Vd Xj P w K mg base Zn9 "Floor.__init__" (Zk Vl) f cdv A outer s H E).nox E0 _ Zn8:=Qb (Za (Jw G1 (hr.mono (by decide)) m1 k1 b1 (Za (Zo (Zc 3)) Ze)) (Za (Jw G1 (hr.mono (by decide)) m1 k1 b1 (Za (Zo (Zc 3)) Ze)) Ze))
  refine⟨_,Yc (Ba (Qm (i:=0) rfl (.inl rfl) (by decide) (by decide)) (Qm (i:=1) rfl (.inl rfl) (by decide) (by decide)) rfl)
   (Yc (Ba (Qm (i:=0) rfl (.inl rfl) (by decide) (by decide)) A9 rfl)
   (Yc (Ba (Qm (i:=0) rfl (.inl rfl) (by decide) (by decide)) A9 rfl)
   (Kd (Ec PassesOwn.never rfl (Zfi (Qm (i:=2) rfl (.inl rfl) (by decide) (by decide))) (Sc (i:=3) sc_Floor_init.nd rfl (.inl rfl) (.inl rfl))
    (Yc (Nd sc_Floor_init.nd (i:=4) rfl (.inl rfl) pk rfl (.inl rfl))
    (Kd (Gh (Zca PySem.F.plainAttrs_list PySem.F.slot_list_append PySem.F.type_list_append Gi (Zdl (Zgr hr.units) (Ws (Qm (i:=0) rfl (.inl rfl) (by decide) (by decide)) rfl) (Qm (i:=4) rfl (.inl rfl) (by decide) (by decide)) (Eg Jm) ⟨rfl,rfl,rfl,rfl⟩) (Qz (Qm (i:=3) rfl (.inl rfl) (by decide) (by decide)) Jm rfl)) rfl))))))),?_⟩
  obtain⟨ap,xs,rfl,hap,rxs⟩:=rep_lst.mp rp
  have st:=Mn (K:=K) (N:=Zn9) (C:=CF) (Hf:=Hf) (H:=H) (r:=[]) (ds:=[hall,.lst ppl]) (a:=x) (vs:=[vh,.ref ap]) (m:=2) e hfx ⟨dx,[],hx,.nil⟩ (Reps.cons rh (Reps.cons rp Reps.nil)) rfl
  have sr0:SR K (Np H x) (fun b=>Lv (Np H x) b/\Hf b=none) Hf (Zl1 hall ppl none none) (Jk Zn9 [.ref x,vh,.ref ap]) H:=st.sr
  refine⟨vh,rfl,.ref x,rfl,x,CF,dx,[],rfl,hx,oc.cls,na1,by decide,?_⟩
  have sr1:=sr0.mut (b:=x) (o:=.ins CF dx (Yz "hall" vh [])) (Vz H x) hfx (Ri Jx Jx)
  intro k hk
  have xk:x≠k:=by rintro rfl;rw[Z2] at hk;cases hk
  have hk0:H k=none:=by rw[Zp xk.symm] at hk;exact hk
  refine⟨.ref x,rfl,x,CF,dx,_,rfl,(Zp xk).trans Z2,oc.cls,na2,by have:=Pa "hall" vh [];simp only[List.length_nil] at this;lia,?_⟩
  have sr2:=sr1.gr (Gr.new sr1.sub hk (.dT []))
  have sr3:=sr2.mut (b:=x) (o:=.ins CF dx (Yz "known_faces" (.ref k) (Yz "hall" vh []))) (Vz H x) hfx (Ri Jx Jx)
  intro d hd
  have xd:x≠d:=by rintro rfl;rw[Z2] at hd;cases hd
  have kd:k≠d:=by rintro rfl;rw[Zp xk.symm,Z2] at hd;cases hd
  have hd0:H d=none:=by rw[Zp xd.symm,Zp kd.symm,Zp xd.symm] at hd;exact hd
  refine⟨.ref x,rfl,x,CF,dx,_,rfl,(Zp xd).trans Z2,oc.cls,na3,by have:=Pa "hall" vh [];have:=Pa "known_faces" (.ref k) (Yz "hall" vh []);simp only[List.length_nil] at *;lia,?_⟩
  have sr4:=sr3.gr (Gr.new sr3.sub hd (.dT []))
  have sr5:=sr4.mut (b:=x) (o:=.ins CF dx (Yz "by_square" (.ref d) (Yz "known_faces" (.ref k) (Yz "hall" vh [])))) (Vz H x) hfx (Ri Jx Jx)
  have g1:(Yz "by_square" (.ref d) (Yz "known_faces" (.ref k) (Yz "hall" vh []))).lookup ("hall":Str)=some vh:=by
   rw[Q5,if_neg (by decide),Q5,if_neg (by decide),Q5,if_pos rfl]
  have g2:(Yz "by_square" (.ref d) (Yz "known_faces" (.ref k) (Yz "hall" vh []))).lookup ("by_square":Str)=some (.ref d):=by rw[Q5,if_pos rfl]
  have g3:(Yz "by_square" (.ref d) (Yz "known_faces" (.ref k) (Yz "hall" vh []))).lookup ("known_faces":Str)=some (.ref k):=by rw[Q5,if_neg (by decide),Q5,if_pos rfl]
  have g4:(Yz "by_square" (.ref d) (Yz "known_faces" (.ref k) (Yz "hall" vh []))).lookup ("people_at":Str)=none:=by
   rw[Q5,if_neg (by decide),Q5,if_neg (by decide),Q5,if_neg (by decide)];rfl
  have g5:(Yz "by_square" (.ref d) (Yz "known_faces" (.ref k) (Yz "hall" vh []))).lookup ("faces_at":Str)=none:=by
   rw[Q5,if_neg (by decide),Q5,if_neg (by decide),Q5,if_neg (by decide)];rfl
  generalize Yz "by_square" (.ref d) (Yz "known_faces" (.ref k) (Yz "hall" vh []))=gs at *
  refine⟨.ref ap,rfl,ap,rfl,⟨xs,sr5.sub.seq hap⟩,FI K CF dx x k d gs H Hf hall ppl q,⟨_,rfl,Nat.zero_le _,Hf,none,none,[],[],Same.refl _,sr5,Jx,Jx,rfl,hfx,Z2,?_,none_of e hk0,?_,none_of e hd0,⟨.nil,by simp⟩,Nat.le_refl _,(fun _ h=>by cases h),hq⟩,fun i m σ' H' hI=>?_⟩
  ·rw[Zp xk.symm,Zp kd,Zp xk.symm,Z2]
  ·rw[Zp xd.symm,Z2]
  clear sr0 sr1 sr2 sr3 sr4 sr5 st hk hd
  obtain⟨rfl,hi,Hf',t3,t4,ys,acc,s',sr,h3,h4,σ0,fx,Hx,Hk,fk,Hd,fdd,own,la,ll,hb⟩:=hI
  have sq:SqL K H' ap xs:=sr.sub.seq (s'.seq hap)
  have lx:=rxs.length
  by_cases hlt:i<ppl.length
  case neg=>
   have ei:i=ppl.length:=by lia
   left
   refine⟨⟨xs,sq,by lia⟩,?_⟩
   rw[ei,List.drop_length] at hb
   cases hb
   have nS:∀b,Lv H b->b≠x->¬(b=x\/b=d\/∃p∈ys,p.2=V.ref b):=fun b hb hx' z=>by
    rcases z with z|z|⟨p,z1,z2⟩
    ·exact hx' z
    ·rw[z] at hb;exact hb.nn hd0
    ·obtain⟨y,_,a',xs',e2,_,_,e5,_⟩:=Vk own.1 z1
     rw[z2] at e2
     cases e2
     rw[Kk hx'] at e5
     exact hb.nn e5
   refine kk (Zfe Hf' H' fun b=>b=x\/b=d\/∃p∈ys,p.2=V.ref b) H' k (s'.trans Tg) (Zgp sr.sub) (fun b u hb hu=>sr.all b u ((Kk hb).trans hu)) (fun b hl hf hne=>?_) ?_ ?_ Hk hk0
   ·obtain⟨o,o1,o2⟩:=id hl
    exact C3 (nS b hl hne) (sr.ban b ⟨⟨o,(Kk hne).trans o1,o2⟩,hf⟩)
   ·have sm:=s'.trans (Tg (Hf:=Hf') (H:=H') (S:=fun b=>b=x\/b=d\/∃p∈ys,p.2=V.ref b))
    refine⟨CF,dx,gs,d,ys,oc.at_,E5 sr.sub (.inl rfl) Hx,⟨⟨vh,g1,rh.mono sm⟩,g2,g3,g4,g5⟩,E5 sr.sub (.inr (.inl rfl)) Hd,?_⟩
    have:∀{l:By}{l':List (List Y3×V)},Paired (OwnP K (Np H x) Hf' H') l l'->(∀p∈l',p∈ys)->RepKV K (Zfe Hf' H' fun b=>b=x\/b=d\/∃p∈ys,p.2=V.ref b) (qD l) l':=by
     intro l l' hl hm
     induction hl with
     |nil=>exact .nil
     | @cons y z r r' hp ht ih=>
      obtain⟨e1,a',xs',e2,e3,e4,e5,e6⟩:=hp
      refine .cons ⟨e1,?_⟩ (ih fun p hp=>hm p (List.mem_cons_of_mem _ hp))
      show Rep K _ (.lst y.2) z.2
      rw[e2]
      exact rep_lst.mpr ⟨a',xs',rfl,SqL.of (E5 sr.sub (.inr (.inr ⟨z,hm z (List.mem_cons_self ..),e2⟩)) e3),e6.mono Tg⟩
    exact this own.1 fun _ h=>h
   ·refine C3 (fun z=>?_) fk
    rcases z with z|z|⟨p,z1,z2⟩
    ·exact xk z.symm
    ·exact kd z
    ·obtain⟨y,_,a',xs',e2,e3,_⟩:=Vk own.1 z1
     rw[z2] at e2
     cases e2
     rw[Hk] at e3
     cases e3
  right
  have hb':Zdu acc (ppl[i]::ppl.drop (i+1))=some q:=by rw[<-List.drop_eq_getElem_cons hlt];exact hb
  unfold Zdu at hb'
  split at hb'
  case h_2=>cases hb'
  rename_i ks eks
  unfold Ig at eks
  split at eks
  case h_2=>cases eks
  rename_i ds eds
  obtain⟨y,ey,ry⟩:=rxs.get (List.getElem?_eq_getElem hlt)
  refine⟨⟨xs,y,sq,ey⟩,FI K CF dx x k d gs H Hf hall ppl q (i+1) (ppl.length-(i+1)),fun σ' H' w=>⟨_,by lia,w⟩,fun v H'' hy=>?_⟩
  obtain⟨rfl,hy⟩:=hy
  have ev:=hy _ sq
  rw[ey] at ev
  cases ev
  have ry':=ry.mono s'
  have sr1:SR K _ _ Hf' (Zl1 hall ppl (some (.im ppl[i])) t4) _ H'':=sr.set_im 3 ry'
  refine qk _ _ _ _ _ _ _ sr1 ?_
  rw[show Zn8 (Zl1 hall ppl (some (.im ppl[i])) t4)=.ok (.tup ds) from eds]
  intro v4 Hf2 H2 g6 rv4
  have sr2:SR K _ _ Hf2 (Zl1 hall ppl (some (.im ppl[i])) (some (.im (.tup ds)))) _ H2:=(sr1.gr g6).set_im 4 rv4
  obtain⟨b,rfl,hb4⟩:=Bp eks g6.sub rv4
  have own2:=own.gr g6
  have hsz:=sizeLine_eq
  have lk:Lv H'' k:=⟨_,Hk,fun _ q=>by cases q⟩
  have ldd:Lv H'' d:=⟨_,Hd,fun _ q=>by cases q⟩
  have lys:=Paired.length own.1
  obtain⟨w3,sw3,rw3⟩:=sr2.im 3 ppl[i] rfl
  obtain⟨w4,sw4,rw4⟩:=sr2.im 4 (.tup ds) rfl
  obtain⟨b',rfl,hb4⟩:=Bp eks sr2.sub rw4
  have σ0':(List.set (List.set σ' 3 (some y)) 4 (some (V.ref b)))[0]?=some (some (.ref x)):=by rw[List.getElem?_set_ne (by decide),List.getElem?_set_ne (by decide)];exact σ0
  refine⟨.ref x,σ0',x,CF,dx,gs,.ref d,rfl,g6.all _ _ Hx,oc.cls,na3,g2,d,rfl,.inr ⟨ys,.inl (g6.all _ _ Hd)⟩,_,sw4,?_⟩
  refine⟨Nat.zero_le _,fun pl hpl=>?_⟩
  have own3:=own2.gr (Gr.new sr2.sub hpl (.lst []))
  have sr3:=sr2.gr (Gr.new sr2.sub hpl (.lst []))
  have nx:x≠pl:=fun z=>by rw[<-z,g6.all _ _ Hx] at hpl;cases hpl
  have nk:k≠pl:=fun z=>by rw[<-z,g6.all _ _ Hk] at hpl;cases hpl
  have nd:d≠pl:=fun z=>by rw[<-z,g6.all _ _ Hd] at hpl;cases hpl
  have nb:b'≠pl:=fun z=>by rw[<-z,hb4] at hpl;cases hpl
  have Hx3:upd H2 pl (.lst []) x=some (.ins CF dx gs):=(Zp nx).trans (g6.all _ _ Hx)
  have Hk3:upd H2 pl (.lst []) k=some (.dT []):=(Zp nk).trans (g6.all _ _ Hk)
  have Hd3:upd H2 pl (.lst []) d=some (.dT ys):=(Zp nd).trans (g6.all _ _ Hd)
  have s2:=s'.trans g6.fz
  have fx2:Hf2 x=none:=g6.ban x (Td Hx) fx
  have fk2:Hf2 k=none:=g6.ban k lk fk
  have fd2:Hf2 d=none:=g6.ban d ldd fdd
  refine⟨ys,ks,b',rfl,Hd3,(Zp nb).trans hb4,by lia,fun v ev=>?_,fun en=>?_⟩
  ·obtain⟨a',xs1,rfl,e3,e4,e5,⟨pp,g1',g2'⟩,fut⟩:=own3.there ev
   have l1:=ll pp g1'
   refine⟨.inl ⟨rfl,xs1,SqL.of e3⟩,w3,sw3,a',xs1,w3,rfl,rfl,e3,by lia,?_⟩
   have n1:x≠a':=fun z=>by rw[<-z,Hx3] at e3;cases e3
   have n2:k≠a':=fun z=>by rw[<-z,Hk3] at e3;cases e3
   have n3:d≠a':=fun z=>by rw[<-z,Hd3] at e3;cases e3
   exact⟨rfl,hlt,Hf2,_,_,ys,Wr ks ppl[i] acc,s2,sr3.mut e5 e4 (Ri Xg Xg),Xg,Xg,σ0',fx2,(Zp n1).trans Hx3,(Zp n2).trans Hk3,fk2,(Zp n3).trans Hd3,fd2,⟨fut _ _ rw3,own3.2⟩,by have:=Tf (ks:=ks) (p:=ppl[i]) (acc:=acc);lia,P7 ll,hb'⟩
  ·have epl:upd (upd H2 pl (.lst [])) d (.dT (Kt ys ks (.ref pl))) pl=some (.lst []):=(Zp nd.symm).trans Z2
   refine⟨.inl ⟨rfl,[],SqL.of epl⟩,w3,sw3,pl,[],w3,rfl,rfl,epl,by rw[sizeLine_eq];decide,?_⟩
   have h0:Np H x pl=none:=none_of sr2.all hpl
   have hfp:Hf2 pl=none:=none_of sr2.sub hpl
   have eH:upd (upd (upd H2 pl (.lst [])) d (.dT (Kt ys ks (.ref pl)))) pl (.lst ([]++[w3]))=upd (upd H2 d (.dT (Kt ys ks (.ref pl)))) pl (.lst [w3]):=by
    funext c
    by_cases c1:c=pl
    ·subst c1;rw[Z2,Z2];rfl
    ·rw[Zp c1,Zp c1]
     by_cases c2:c=d
     ·subst c2;rw[Z2,Z2]
     ·rw[Zp c2,Zp c2,Zp c1]
   have sr4:=(sr3.mut (b:=d) (o:=.dT (Kt ys ks (.ref pl))) (none_of (Vy H x) hd0) fd2 (Ri Xg Xg)).mut (b:=pl) (o:=.lst ([]++[w3])) h0 hfp (Ri Xg Xg)
   refine⟨rfl,hlt,Hf2,_,_,Kt ys ks (.ref pl),Wr ks ppl[i] acc,s2,sr4,Xg,Xg,σ0',fx2,?_,?_,fk2,?_,fd2,?_,by have:=Tf (ks:=ks) (p:=ppl[i]) (acc:=acc);lia,P7 ll,hb'⟩
   ·rw[Zp nx,Zp xd];exact Hx3
   ·rw[Zp nk,Zp kd];exact Hk3
   ·rw[Zp nd,Z2]
   ·rw[eH]
    exact own2.new en (g6.all _ _ Hd) hpl h0 hfp rw3
end
open Classical in
noncomputable def F_walk:List D->M S
 |[hall,.lst ppl,pt,st,mo]=>(match Zdu [] ppl with
  |some q=>if h:ppl.length<=1000000/\∃d,∀a a1 a2,fW a a1 a2 hall (qD q) pt st mo=.ok d then .ok (.im h.2.choose) else .bad
  |none=>.bad)
 |_=>.bad
def Za5 {hall pt st mo d:D}{ppl:List D}{q:By}(hq:Zdu [] ppl=some q)(hl:ppl.length<=1000000)(h:∀a a1 a2,fW a a1 a2 hall (qD q) pt st mo=.ok d):F_walk [hall,.lst ppl,pt,st,mo]=.ok (.im d):=by
 have hh:ppl.length<=1000000/\∃d,∀a a1 a2,fW a a1 a2 hall (qD q) pt st mo=.ok d:=⟨hl,d,h⟩
 simp only[F_walk,hq]
 rw[dif_pos hh]
 have:=hh.2.choose_spec 0 0 0
 rw[h 0 0 0] at this
 cases this
 rfl
def Mu {ds:List D}{s:S}(h:F_walk ds=.ok s):∃hall ppl pt st mo q d,ds=[hall,.lst ppl,pt,st,mo]/\Zdu [] ppl=some q/\ppl.length<=1000000/\(∀a a1 a2,fW a a1 a2 hall (qD q) pt st mo=.ok d)/\s=.im d:=by
 unfold F_walk at h
 split at h
 ·rename_i hall ppl pt st mo
  split at h
  ·rename_i q hq
   split at h
   ·rename_i hh
    cases h
    exact⟨hall,ppl,pt,st,mo,q,_,rfl,hq,hh.1,hh.2.choose_spec,rfl⟩
   ·cases h
  ·cases h
 ·cases h
section
variable {P:Program}{w:World}{K:PySem.W.Frag}{mg:Str->Option Value}{base:Heap}
abbrev Zdv:List Str:=["hall","people","point","step","most"]
def Zgu:FnScope Zdv Zdv (Zk Fe):=⟨rfl,rfl,rfl,by decide +kernel,rfl,by decide +kernel,by decide +kernel⟩
def Zdw {f:Addr}{fd:FuncData}{CF:Addr} (F:Fun K "walk" "walk" Fe f fd) {f1 f2:Addr}{fd1 fd2:FuncData}
  (Mk1:Mk K CF f1) (G1:FnOk P w K mg base Xj 2 f1 fd1 ["self","hall","people"] (Zna K CF (Zdu []))) (b1:Binds K fd1 ["self","hall","people"] []) (m1:mg "Floor"=some (.ref CF))
  (G2:FnOk P w K mg base Xj 6 f2 fd2 ["floor","point","step","most"] (Zph K fW)) (b2:Binds K fd2 ["floor","point","step","most"] []) (k2:PySem.W.keepIn K (.ref f2)=true) (m2:mg "walk_on"=some (.ref f2)):
  FnOk P w K mg base Xj 7 f fd Zdv (Ax K F_walk):=by
 refine F.ok Zgu (fun vs H Q E h=>?_) (fun cdv A outer s H vs Q E hr h=>?_)
 ·obtain⟨Hf,ds,s,e,rs,hF,_⟩:=h
  obtain⟨hall,ppl,pt,st,mo,q,d,rfl,_⟩:=Mu hF
  rw[<-rs.length]
  rfl
 ·obtain⟨Hf,ds,s',e,rs,hF,kk⟩:=h
  obtain⟨hall,ppl,pt,st,mo,q,d,rfl,hq,hl,hw,rfl⟩:=Mu hF
  refine⟨_,Kd (Pn (U3 (dvs:=[]) (E:=E0) G2 (hr.mono (by decide)) (by rfl) m2 k2 b2 .nil Vv
   (Qz (Bd (dvs:=[]) (E:=E0) Mk1 G1 (hr.mono (by decide)) (by rfl) m1 b1 .nil Vv (Qz (Qm (i:=0) rfl (.inl rfl) (by decide) (by decide)) (Qz (Qm (i:=1) rfl (.inl rfl) (by decide) (by decide)) Jm rfl) rfl))
   (Qz (Qm (i:=2) rfl (.inl rfl) (by decide) (by decide)) (Qz (Qm (i:=3) rfl (.inl rfl) (by decide) (by decide)) (Qz (Qm (i:=4) rfl (.inl rfl) (by decide) (by decide)) Jm rfl) rfl) rfl) rfl))),?_⟩
  obtain⟨v0,_,rfl,r0,rs⟩:=reps_cons.mp rs
  obtain⟨v1,_,rfl,r1,rs⟩:=reps_cons.mp rs
  obtain⟨v2,_,rfl,r2,rs⟩:=reps_cons.mp rs
  obtain⟨v3,_,rfl,r3,rs⟩:=reps_cons.mp rs
  obtain⟨v4,_,rfl,r4,rs⟩:=reps_cons.mp rs
  cases reps_nil.mp rs
  refine⟨v0,rfl,v1,rfl,fun x dx hx hdx hne=>?_⟩
  have sm:Same H (upd (upd H dx (.own x)) x (.ins CF dx [])):=(Qw hdx _).trans (Qw ((Zp hne.symm).trans hx) _)
  refine⟨Hf,x,dx,hall,ppl,q,v0,v1,rfl,e.trans sm,none_of e hx,Z2,r0,r1,hl,hq,fun Hf' H' k s1 s2 al ba fl hk ck nk=>⟨rfl,v2,rfl,v3,rfl,v4,rfl,?_⟩⟩
  have nk0:H k=none:=none_of sm nk
  refine⟨Hf',x,hall,qD q,k,pt,st,mo,d,[v2,v3,v4],rfl,s2,fl,hk,ck,Reps.cons (r2.mono s1) (Reps.cons (r3.mono s1) (Reps.cons (r4.mono s1) Reps.nil)),fun a1 a2=>hw x a1 a2,fun v' Hf2 H2 gm rv=>kk v' Hf2 H2 ⟨s1.trans gm.fz,gm.sub,fun b u hb=>?_,fun b hb hn=>?_⟩ rv⟩
  ·have bx:b≠x:=fun z=>by rw[z,hx] at hb;cases hb
   have bk:b≠k:=fun z=>by rw[z,nk0] at hb;cases hb
   exact gm.all b u bk (al b u bx (sm _ _ hb))
  ·obtain⟨o,ho,no⟩:=id hb
   have bx:b≠x:=fun z=>by rw[z,hx] at ho;cases ho
   exact gm.ban b ⟨o,al b o bx (sm _ _ ho),no⟩ (ba b (sm.lv hb) hn bx)
end
section
variable {P:Program}{w:World}{K:PySem.W.Frag}{mg:Str->Option Value}{base:Heap}
noncomputable def Xh:List D->M S:=Vr 2 0
  (Qj (Zn Yj (Zn Qi (Ma (Zd 0) (Xa (Zd 1)) (Xa (Zn Qi (Zd 1) ↑1))) (Jq (Zb ↑0 Zh))) ↑0))
def Za6:FnScope ["_law_script","_law_k"] ["_law_script","_law_k"] (Zk Tm):=⟨rfl,rfl,rfl,by decide +kernel,rfl,by decide +kernel,by decide +kernel⟩
def Za7 (d:Dm K mg "_law_cell" Tm)  : Cl P w K mg base 1 "_law_cell" ["_law_script","_law_k"] Xh:=
 d.cl (by trivial) fun _ _ F=>Xk F Za6 rfl rfl fun cdv A outer s H E hr=>
  (Zm (Zu (Zo (Zs Q0 (K7 (Zc 0) (X5 (Zc 1)) (X5 (Zs Q0 (Zc 1) Zi))) (Ku (Za Zi Ze))))))
noncomputable def Ye:List D->M S:=Vr 2 4
  (Zy (Sz 2 (Sy Zh))
   (Zy (Z4 3 (Zn Qn (Zn Qc (Zn Qi (Zn Qn (Zd 0) ↑1999999973) ↑31) ↑765432101) ↑1999999973))
   (Zy (Z4 4 ↑0)
   (Zy (Yy (tO (tB (Zn Bj (Zd 0) ↑0)) (tB (Zn Zmv (Zd 0) (Zn Zf6 ↑10 ↑18)))) (Z4 4 (Kv G0 (Zb (Zd 0) Zh))) Qs)
   (Zy (V7 (Yf (Zb (Zd 1) Zh)) (Y1 5) (Zy (Z4 3 (Zn Qn (Zn Qi (Zn Qi (Zn Qc (Zd 3) (Zn Qi (Zn Qn (Zd 3) ↑65521) ↑40487)) (Zn Qc ↑7 (Zd 5))) ↑5) ↑1999999973))
   (Zy (Vg 2 (Zn Yj (Jq (Zb (Zd 3) (Zb (Zn Qn (Zd 4) ↑1000000) Zh))) (Kv R0 (Zb (Zn Pt (Zd 4) ↑0) Zh))))
   (Z4 4 (Zn Q6 (Zd 4) ↑1000000)))))
   (Ck 2))))))
def sc_l_numbers:FnScope ["_law_cell_here","_law_many","_law_found","_law_number","_law_digits","_law_k"] ["_law_cell_here","_law_many"] (Zk W4):=⟨rfl,rfl,rfl,by decide +kernel,rfl,by decide +kernel,by decide +kernel⟩
def Ai (d:Dm K mg "_law_numbers" W4) (z_abs:mg "abs"=none) (z_range:mg "range"=none) (z_int:mg "int"=none):Cl P w K mg base 1 "_law_numbers" ["_law_cell_here","_law_many"] Ye:=
 d.cl (by trivial) fun _ _ F=>Xk F sc_l_numbers rfl rfl fun cdv A outer s H E hr=>
  (Zf (Vf 2 sc_l_numbers.nd (Ve Ze))
   (Zf (Zv 3 sc_l_numbers.nd (Zs Q2 (Zs Qh (Zs Q0 (Zs Q2 (Zc 0) Zi) Zi) Zi) Zi))
   (Zf (Zv 4 sc_l_numbers.nd Zi)
   (Zf (Qe ((Kg (Zr Rs (Zc 0) Zi (Zz _)) (Je (Zr Zmw (Zc 0) (Zs Zjw Zi Zi) (Zz _))))).pt (Zm (Zv 4 sc_l_numbers.nd (Yd Pu (by rfl) z_abs (by rfl) (Za (Zc 0) Ze)))) Z8)
   (Zf (Xz PassesOwn.never rfl (Xp (by rfl) z_range (Za (Zc 1) Ze)) (Qa 5 sc_l_numbers.nd) (Zf (Zv 3 sc_l_numbers.nd (Zs Q2 (Zs Q0 (Zs Q0 (Zs Qh (Zc 3) (Zs Q0 (Zs Q2 (Zc 3) Zi) Zi)) (Zs Qh Zi (Zc 5))) Zi) Zi))
   (Zf (Vh 2 (Xl (Ku (Za (Zc 3) (Za (Zs Q2 (Zc 4) Zi) Ze))) (Vw Bk (by rfl) z_int (by rfl) (Za (Jn Nt (Zc 4) Zi (Zz _)) Ze)) (fun _ _=>rfl)))
   (Zm (Zv 4 sc_l_numbers.nd (Zs Yn (Zc 4) Zi))))))
   (Zm (S0 2)))))))
noncomputable def Qk:List D->M S:=Vr 2 2
  (Zy (Bm 2 3 (Zb (Kv G0 (Zb (Zd 0) Zh)) (Zb (Zd 1) Zh)))
   (Zy (Wu (tB (Zn Pt (Zd 3) ↑0)) (Bm 2 3 (Zb (Zd 3) (Zb (Zn Qn (Zd 2) (Zd 3)) Zh))))
   (Qj (Qf (Zb (Zn Q6 (Zd 0) (Zd 2)) (Zb (Zn Q6 (Zd 1) (Zd 2)) Zh))))))
def sc_l_lowest:FnScope ["_law_top","_law_bottom","_law_high","_law_low"] ["_law_top","_law_bottom"] (Zk Nl):=⟨rfl,rfl,rfl,by decide +kernel,rfl,by decide +kernel,by decide +kernel⟩
def De (d:Dm K mg "_law_lowest" Nl) (z_abs:mg "abs"=none):Cl P w K mg base 1 "_law_lowest" ["_law_top","_law_bottom"] Qk:=
 d.cl (by trivial) fun _ _ F=>Xk F sc_l_lowest rfl rfl fun cdv A outer s H E hr=>
  (Zf (Hg 2 3 rfl sc_l_lowest.nd (Za (Yd Pu (by rfl) z_abs (by rfl) (Za (Zc 0) Ze)) (Za (Zc 1) Ze)) (by rfl))
   (Zf (Px PassesOwn.never (Zr Nt (Zc 3) Zi (Zz _)) (Zm (Hg 2 3 rfl sc_l_lowest.nd (Za (Zc 3) (Za (Zs Q2 (Zc 2) (Zc 3)) Ze)) (by rfl))))
   (Zm (Zu (Qb (Za (Zs Yn (Zc 0) (Zc 2)) (Za (Zs Yn (Zc 1) (Zc 2)) Ze)))))))
noncomputable def Gq:List D->M S:=Vr 2 3
  (Zy (Sz 2 (Sy Zh))
   (Zy (V7 (Yf (Zb (Zn Qi (Zd 0) ↑1) Zh)) (Y1 3) (Cj 2 (X6 (Yf (Zb (Zd 1) Zh)) 1 [3] (Y1 0) (Qf (Zb ↑"up" (Zb (Zd 1) (Zb (Zd 0) Zh)))))))
   (Zy (V7 (Yf (Zb (Zn Qi (Zd 1) ↑1) Zh)) (Y1 4) (Cj 2 (X6 (Yf (Zb (Zd 0) Zh)) 1 [4] (Y1 0) (Qf (Zb ↑"flat" (Zb (Zd 0) (Zb (Zd 1) Zh)))))))
   (Ck 2))))
def sc_l_edges:FnScope ["_law_width","_law_height","_law_found","_law_x","_law_y"] ["_law_width","_law_height"] (Zk Jg):=⟨rfl,rfl,rfl,by decide +kernel,rfl,by decide +kernel,by decide +kernel⟩
def Fk (d:Dm K mg "_law_edges" Jg) (z_range:mg "range"=none):Cl P w K mg base 1 "_law_edges" ["_law_width","_law_height"] Gq:=
 d.cl (by trivial) fun _ _ F=>Xk F sc_l_edges rfl rfl fun cdv A outer s H E hr=>
  (Zf (Vf 2 sc_l_edges.nd (Ve Ze))
   (Zf (Xz PassesOwn.never rfl (Xp (by rfl) z_range (Za (Zs Q0 (Zc 0) Zi) Ze)) (Qa 3 sc_l_edges.nd) (Zm (Hj 2 (Uv (Nc:=["_law_y","_law_x"]) rfl (Kx (fun y hy hf=>Y5 (Wo (sc:=Zk Jg) (by decide +kernel) y hy hf))) (Zan (sc:=Zk Jg) rfl rfl (by decide +kernel) (Wo (by decide +kernel)) (fun y hy hf=>Y5 (Wo (sc:=Zk Jg) (by decide +kernel) y hy hf)) rfl (Gm (N:=["_law_width","_law_height","_law_found","_law_x","_law_y"]) rfl (by decide +kernel))) rfl (by decide +kernel) (by decide +kernel) (J9 (by decide)) (Xp (by rfl) z_range (Za (Zc 1) Ze)) (fun s3 H3 C ex=>Qa 0 (show(["_law_y","_law_x"]:List Str).Nodup by decide +kernel)) (fun s3 H3 C ex=>(Qb (Za Ql (Za (Zc 1) (Za (Zc 0) Ze)))))))))
   (Zf (Xz PassesOwn.never rfl (Xp (by rfl) z_range (Za (Zs Q0 (Zc 1) Zi) Ze)) (Qa 4 sc_l_edges.nd) (Zm (Hj 2 (Uv (Nc:=["_law_x","_law_y"]) rfl (Kx (fun y hy hf=>Y5 (Wo (sc:=Zk Jg) (by decide +kernel) y hy hf))) (Zan (sc:=Zk Jg) rfl rfl (by decide +kernel) (Wo (by decide +kernel)) (fun y hy hf=>Y5 (Wo (sc:=Zk Jg) (by decide +kernel) y hy hf)) rfl (Gm (N:=["_law_width","_law_height","_law_found","_law_x","_law_y"]) rfl (by decide +kernel))) rfl (by decide +kernel) (by decide +kernel) (J9 (by decide)) (Xp (by rfl) z_range (Za (Zc 0) Ze)) (fun s3 H3 C ex=>Qa 0 (show(["_law_x","_law_y"]:List Str).Nodup by decide +kernel)) (fun s3 H3 C ex=>(Qb (Za Ql (Za (Zc 0) (Za (Zc 1) Ze)))))))))
   (Zm (S0 2)))))
noncomputable def Vn:List D->M S:=Vr 3 2
  (Zy (P0 (Uo (tB (Zn Ys 2[0]! ↑"up")) (Qf (Zb 2[1]! (Zb (Zd 0) Zh))) (Qf (Zb 2[2]! (Zb (Zd 1) Zh)))) (Kr 2 (Qp (Y1 3) (Qp (Y1 4) K5))))
   (Zy (Yy (tB (Zn Ys (Zd 3) ↑0)) (Qj ↑0) Qs)
   (Qj (Uo (tB (Zn Ys (Zd 3) (Zd 4))) ↑1 (eC .non)))))
def sc_l_out:FnScope ["_law_width","_law_height","_law_edge","_law_at","_law_end"] ["_law_width","_law_height","_law_edge"] (Zk B1):=⟨rfl,rfl,rfl,by decide +kernel,rfl,by decide +kernel,by decide +kernel⟩
def Zdx (d:Dm K mg "_law_out" B1)  : Cl P w K mg base 1 "_law_out" ["_law_width","_law_height","_law_edge"] Vn:=
 d.cl (by trivial) fun _ _ F=>Xk F sc_l_out rfl rfl fun cdv A outer s H E hr=>
  (Zf (Nv (Q9 (Zr (Ya hr.units) (Zo (Zc 2)) Ql (Zz _)) (Qb (Za (Zo (Zc 2)) (Za (Zc 0) Ze))) (Qb (Za (Zo (Zc 2)) (Za (Zc 1) Ze)))) (Ud rfl (Qx (Qa 3 sc_l_out.nd) (Qx (Qa 4 sc_l_out.nd) K6))))
   (Zf (Qe (Zr (Ya hr.units) (Zc 3) Zi (Zz _)) (Zm (Zu Zi)) Z8)
   (Zm (Zu (Q9 (Zr (Ya hr.units) (Zc 3) (Zc 4) (Zz _)) Zi Qr)))))
noncomputable def Uz:List D->M S:=Vr 4 3
  (Zy (Z4 4 (Zt Vn (Zb (Zd 0) (Zb (Zd 1) (Zb (Zd 2) Zh)))))
   (Zy (Yy (tB (Zn Ng (Zd 4) (eC .non))) (Zy (Z4 5 (Zn Yj (Jq (Zb (eC .non) (Zb (eC .non) (Zb (eC .non) (Zb (eC .non) (Zb (eC .non) (Zb ↑"mm" (Zb ↑"mp" (Zb ↑"pm" (Zb ↑"pp" (Zb ↑"mm" (Zb (eC .non) (Zb (eC .non) Zh))))))))))))) (Zn Qn (Zd 3) ↑12)))
   (Qj (Uo (tB (Zn Ng (Zd 5) (eC .non))) (eC .non) (Zn Qi (Zd 2) (Qf (Zb 5[0]! (Zb 5[1]! Zh))))))) Qs)
   (Zy (Yy (tB (Zn Ys (Zn Qn (Zd 3) ↑9) ↑7)) (Qj (eC .non)) Qs)
   (Zy (Z4 6 (Uo (tB (Zn Ys (Zn Qn (Zd 3) ↑9) ↑8)) ↑"p" ↑"m"))
   (Qj (Zn Qi (Zd 2) (Uo (tB (Zn Ys (Zd 4) ↑0)) (Qf (Zb ↑"p" (Zb (Zd 6) Zh))) (Qf (Zb (Zd 6) (Zb ↑"p" Zh))))))))))
def sc_l_side:FnScope ["_law_width","_law_height","_law_edge","_law_number","_law_out_here","_law_both","_law_face"] ["_law_width","_law_height","_law_edge","_law_number"] (Zk Tn):=⟨rfl,rfl,rfl,by decide +kernel,rfl,by decide +kernel,by decide +kernel⟩
def Za8 (d:Dm K mg "_law_side" Tn) (c_l_out:Cl P w K mg base 1 "_law_out" ["_law_width","_law_height","_law_edge"] Vn):Cl P w K mg base 2 "_law_side" ["_law_width","_law_height","_law_edge","_law_number"] Uz:=
 d.cl (by trivial) fun _ _ F=>Xk F sc_l_side rfl rfl fun cdv A outer s H E hr=>
  (Zf (Zv 4 sc_l_side.nd (Zw c_l_out (hr.mono (by decide)) (Za (Zc 0) (Za (Zc 1) (Za (Zc 2) Ze)))))
   (Zf (Qe (Zr U5 (Zc 4) Qr (Zz _)) (Zf (Zv 5 sc_l_side.nd (Xl (Ku (Za Qr (Za Qr (Za Qr (Za Qr (Za Qr (Za Ql (Za Ql (Za Ql (Za Ql (Za Ql (Za Qr (Za Qr Ze))))))))))))) (Zs Q2 (Zc 3) Zi) (fun _ _=>rfl)))
   (Zm (Zu (Q9 (Zr U5 (Zc 5) Qr (Zz _)) Qr (Zs Q0 (Zc 2) (Qb (Za (Zo (Zc 5)) (Za (Zo (Zc 5)) Ze)))))))) Z8)
   (Zf (Qe (Zr (Ya hr.units) (Zs Q2 (Zc 3) Zi) Zi (Zz _)) (Zm (Zu Qr)) Z8)
   (Zf (Zv 6 sc_l_side.nd (Q9 (Zr (Ya hr.units) (Zs Q2 (Zc 3) Zi) Zi (Zz _)) Ql Ql))
   (Zm (Zu (Zs Q0 (Zc 2) (Q9 (Zr (Ya hr.units) (Zc 4) Zi (Zz _)) (Qb (Za Ql (Za (Zc 6) Ze))) (Qb (Za (Zc 6) (Za Ql Ze)))))))))))
noncomputable def Pb:List D->M S:=Vr 3 5
  (Zy (Z4 3 (Zt Gq (Zb (Zd 1) (Zb (Zd 2) Zh))))
   (Zy (Sz 4 (Sy Zh))
   (Zy (V7 (Zga (Zb (Zd 3) (Zb (Zt Ye (Zb (Zd 0) (Zb (Kv Wl (Zb (Zd 3) Zh)) Zh))) Zh))) (Kr 2 (Qp (Y1 5) (Qp (Y1 6) K5))) (Zy (Z4 7 (Zt Uz (Zb (Zd 1) (Zb (Zd 2) (Zb (Zd 5) (Zb (Zd 6) Zh))))))
   (Yy (tB (Zn Xd (Zd 7) (eC .non))) (Vg 4 (Zd 7)) Qs)))
   (V9 4 (Qj (Qf (Zb (Zd 1) (Zb (Zd 2) (Zb (Kv Su (Zb (Kv S8 (Zb (Zd 4) Zh)) Zh)) Zh)))))))))
def sc_l_hall:FnScope ["_law_cell_here","_law_width","_law_height","_law_edges_here","_law_sides","_law_edge","_law_number","_law_side_here"] ["_law_cell_here","_law_width","_law_height"] (Zk To):=⟨rfl,rfl,rfl,by decide +kernel,rfl,by decide +kernel,by decide +kernel⟩
def Za9 (d:Dm K mg "_law_hall" To) (c_l_edges:Cl P w K mg base 1 "_law_edges" ["_law_width","_law_height"] Gq) (c_l_numbers:Cl P w K mg base 1 "_law_numbers" ["_law_cell_here","_law_many"] Ye) (c_l_side:Cl P w K mg base 2 "_law_side" ["_law_width","_law_height","_law_edge","_law_number"] Uz) (z_len:mg "len"=none) (z_zip:mg "zip"=none) (z_sorted:mg "sorted"=none) (z_tuple:mg "tuple"=none):Cl P w K mg base 3 "_law_hall" ["_law_cell_here","_law_width","_law_height"] Pb:=
 d.cl (by trivial) fun _ _ F=>Xk F sc_l_hall rfl rfl fun cdv A outer s H E hr=>
  (Zf (Zv 3 sc_l_hall.nd (Zw c_l_edges (hr.mono (by decide)) (Za (Zc 1) (Za (Zc 2) Ze))))
   (Zf (Vf 4 sc_l_hall.nd (Ve Ze))
   (Zf (Xz PassesOwn.never rfl (Za3 (by rfl) z_zip (Za (Zc 3) (Za (Zw c_l_numbers (hr.mono (by decide)) (Za (Zc 0) (Za (Yd Wt (by rfl) z_len (by rfl) (Za (Zc 3) Ze)) Ze))) Ze))) (Ud rfl (Qx (Qa 5 sc_l_hall.nd) (Qx (Qa 6 sc_l_hall.nd) K6))) (Zf (Zv 7 sc_l_hall.nd (Zw c_l_side (hr.mono (by decide)) (Za (Zc 1) (Za (Zc 2) (Za (Zc 5) (Za (Zc 6) Ze))))))
   (Zm (Qe (Zr Kw (Zc 7) Qr (Zz _)) (Zm (Vh 4 (Zc 7))) Z8))))
   (Kj 4 (Zm (Zu (Qb (Za (Zc 1) (Za (Zc 2) (Za (Vw Cc (by rfl) z_tuple (by rfl) (Za (Yd Zc5 (by rfl) z_sorted (by rfl) (Za (Zc 4) Ze)) Ze)) Ze))))))))))
noncomputable def W9:List D->M S:=Vr 4 1
  (Zy (Z4 4 (Zn Qi ↑2 (Zn Qn (Zd 1) (Zn Xf (Zd 3) ↑1))))
   (Qj (Zt Qk (Zb (Zn Qi (Zn Qi (Zn Qc (Zn Qn (Zn Q6 (Zd 1) ↑1000) (Zd 0)) (Zd 4)) ↑1) (Zn Qn (Zd 2) (Zn Xf (Zd 4) ↑1))) (Zb (Zd 4) Zh)))))
def sc_l_part:FnScope ["_law_size","_law_one","_law_other","_law_most","_law_bottom"] ["_law_size","_law_one","_law_other","_law_most"] (Zk Tp):=⟨rfl,rfl,rfl,by decide +kernel,rfl,by decide +kernel,by decide +kernel⟩
def Zba (d:Dm K mg "_law_part" Tp) (c_l_lowest:Cl P w K mg base 1 "_law_lowest" ["_law_top","_law_bottom"] Qk):Cl P w K mg base 2 "_law_part" ["_law_size","_law_one","_law_other","_law_most"] W9:=
 d.cl (by trivial) fun _ _ F=>Xk F sc_l_part rfl rfl fun cdv A outer s H E hr=>
  (Zf (Zv 4 sc_l_part.nd (Zs Q0 Zi (Zs Q2 (Zc 1) (Zs Y0 (Zc 3) Zi))))
   (Zm (Zu (Zw c_l_lowest (hr.mono (by decide)) (Za (Zs Q0 (Zs Q0 (Zs Qh (Zs Q2 (Zs Yn (Zc 1) Zi) (Zc 0)) (Zc 4)) Zi) (Zs Q2 (Zc 2) (Zs Y0 (Zc 4) Zi))) (Za (Zc 4) Ze))))))
noncomputable def Kz:List D->M S:=Vr 4 1
  (Zy (Z4 4 (Zt Ye (Zb (Zd 0) (Zb ↑4 Zh))))
   (Qj (Qf (Zb (Zt W9 (Zb (Zd 1) (Zb 4[0]! (Zb 4[1]! (Zb (Zd 3) Zh))))) (Zb (Zt W9 (Zb (Zd 2) (Zb 4[2]! (Zb 4[3]! (Zb (Zd 3) Zh))))) Zh)))))
def sc_l_point:FnScope ["_law_cell_here","_law_width","_law_height","_law_most","_law_xs"] ["_law_cell_here","_law_width","_law_height","_law_most"] (Zk P9):=⟨rfl,rfl,rfl,by decide +kernel,rfl,by decide +kernel,by decide +kernel⟩
def Fl (d:Dm K mg "_law_point" P9) (c_l_numbers:Cl P w K mg base 1 "_law_numbers" ["_law_cell_here","_law_many"] Ye) (c_l_part:Cl P w K mg base 2 "_law_part" ["_law_size","_law_one","_law_other","_law_most"] W9):Cl P w K mg base 3 "_law_point" ["_law_cell_here","_law_width","_law_height","_law_most"] Kz:=
 d.cl (by trivial) fun _ _ F=>Xk F sc_l_point rfl rfl fun cdv A outer s H E hr=>
  (Zf (Zv 4 sc_l_point.nd (Zw c_l_numbers (hr.mono (by decide)) (Za (Zc 0) (Za Zi Ze))))
   (Zm (Zu (Qb (Za (Zw c_l_part (hr.mono (by decide)) (Za (Zc 1) (Za (Zo (Zc 4)) (Za (Zo (Zc 4)) (Za (Zc 3) Ze))))) (Za (Zw c_l_part (hr.mono (by decide)) (Za (Zc 2) (Za (Zo (Zc 4)) (Za (Zo (Zc 4)) (Za (Zc 3) Ze))))) Ze))))))
noncomputable def We:List D->M S:=Vr 4 3
  (Zy (Sz 4 (Sy Zh))
   (Zy (V7 (V6 (Zd 0)) (Y1 5) (Zy (Z4 6 (Zt Kz (Zb (Zd 5) (Zb (Zd 1) (Zb (Zd 2) (Zb (Zd 3) Zh))))))
   (Yy (Wy 4 (tB (Zn S2 (Zd 6) (Zd 4)))) (Vg 4 (Zd 6)) Qs)))
   (Ck 4)))
def sc_l_people:FnScope ["_law_some","_law_width","_law_height","_law_most","_law_found","_law_cell_here","_law_point_here"] ["_law_some","_law_width","_law_height","_law_most"] (Zk Nm):=⟨rfl,rfl,rfl,by decide +kernel,rfl,by decide +kernel,by decide +kernel⟩
def Df (d:Dm K mg "_law_people" Nm) (c_l_point:Cl P w K mg base 3 "_law_point" ["_law_cell_here","_law_width","_law_height","_law_most"] Kz):Cl P w K mg base 4 "_law_people" ["_law_some","_law_width","_law_height","_law_most"] We:=
 d.cl (by trivial) fun _ _ F=>Xk F sc_l_people rfl rfl fun cdv A outer s H E hr=>
  (Zf (Vf 4 sc_l_people.nd (Ve Ze))
   (Zf (Xz PassesOwn.never rfl (Ki (Zc 0)) (Qa 5 sc_l_people.nd) (Zf (Zv 6 sc_l_people.nd (Zw c_l_point (hr.mono (by decide)) (Za (Zc 5) (Za (Zc 1) (Za (Zc 2) (Za (Zc 3) Ze))))))
   (Zm (Qe (Cp 4 (Zr (Zcr (by exact hr.units)) (Zc 6) (Zc 4) (by with_unfolding_all rfl))) (Zm (Vh 4 (Zc 6))) Z8))))
   (Zm (S0 4))))
noncomputable def Ga:List D->M S:=Vr 5 11
  (Zy (Z4 5 (Zt Ye (Zb (Zd 0) (Zb ↑7 Zh))))
   (Zy (Yy (tA (tB (Zn Bj (Zn Qn 5[0]! ↑4) ↑2)) (tB (Zn Wm (Zd 4) (Jq Zh)))) (Zy (Z4 6 (Zn Yj (Zd 4) (Zn Qn 5[1]! (Kv Wl (Zb (Zd 4) Zh)))))
   (Zy (Sz 7 (Sy Zh))
   (Zy (V7 (Yf (Zb ↑2 Zh)) (Y1 8) (Zy (Z4 9 (Zn Qc ↑2 (Zn Xf (Zn Qn (Zn Yj (Zd 5) (Zn Qi ↑2 (Zd 8))) ↑13) ↑6)))
   (Zy (P0 (Zn Yj (Zd 6) (Zd 8)) (Kr 2 (Qp (Y1 10) (Qp (Y1 11) K5))))
   (Zy (Yy (tB (Zn Ys (Zn Qn (Zn Yj (Zd 5) (Zn Qi ↑4 (Zd 8))) ↑2) ↑1)) (Z4 10 (Zn Xf ↑0 (Zd 10))) Qs)
   (Zy (Z4 10 (Zn Qi (Zd 10) (Zn Qc (Zd 9) (Zd 11))))
   (Zy (P0 (Zn Yj (Zd 3) (Zd 8)) (Kr 2 (Qp (Y1 12) (Qp (Y1 13) K5))))
   (Vg 7 (Zt Qk (Zb (Zn Xf (Zn Qc (Zd 10) (Zd 13)) (Zn Qc (Zd 12) (Zd 11))) (Zb (Zn Qc (Zd 11) (Zd 13)) Zh))))))))))
   (V9 7 (Yy (tO (tB (Zn Wm (Zn Yj 7[0]! ↑0) ↑0)) (tB (Zn Wm (Zn Yj 7[1]! ↑0) ↑0))) (Qj (Qf (Zb 7[0]! (Zb 7[1]! Zh)))) Qs))))) Qs)
   (Zy (Z4 14 (Zt Qk (Zb (Zn Xf (Zn Qn 5[2]! ↑41) ↑20) (Zb (Zn Qi ↑1 (Zn Qn 5[4]! (Zn Yj (Jq (Zb ↑1 (Zb ↑6 (Zb ↑6 (Zb ↑30 Zh))))) (Zn Qn 5[6]! ↑4)))) Zh))))
   (Zy (Z4 15 (Zt Qk (Zb (Zn Xf (Zn Qn 5[3]! ↑41) ↑20) (Zb (Zn Qi ↑1 (Zn Qn 5[5]! (Zn Yj (Jq (Zb ↑1 (Zb ↑6 (Zb ↑6 (Zb ↑30 Zh))))) (Zn Qn (Zn Q6 5[6]! ↑4) ↑4)))) Zh))))
   (Zy (Yy (tB (Zn Ys (Zn Qn 5[0]! ↑4) ↑3)) (Z4 15 (Zt Qk (Zb (Zn Qc 14[0]! (Zn Yj (Jq (Zb ↑1 (Zb (Zh6 Lg ↑1) Zh))) (Zn Qn 5[3]! ↑2))) (Zb 14[1]! Zh)))) Qs)
   (Zy (Yy (tA (tB (Zn Ys 14[0]! ↑0)) (tB (Zn Ys 15[0]! ↑0))) (Qj (Qf (Zb (Qf (Zb ↑1 (Zb ↑1 Zh))) (Zb (Qf (Zb ↑0 (Zb ↑1 Zh))) Zh)))) Qs)
   (Qj (Qf (Zb (Zd 14) (Zb (Zd 15) Zh))))))))))
def sc_l_step:FnScope ["_law_cell_here","_law_width","_law_height","_law_point_here","_law_people_here","_law_xs","_law_spot","_law_found","_law_k","_law_far","_law_top","_law_bottom","_law_mine","_law_part_here","_law_one","_law_other"] ["_law_cell_here","_law_width","_law_height","_law_point_here","_law_people_here"] (Zk Tq):=⟨rfl,rfl,rfl,by decide +kernel,rfl,by decide +kernel,by decide +kernel⟩
def Zbb (d:Dm K mg "_law_step" Tq) (c_l_numbers:Cl P w K mg base 1 "_law_numbers" ["_law_cell_here","_law_many"] Ye) (c_l_lowest:Cl P w K mg base 1 "_law_lowest" ["_law_top","_law_bottom"] Qk) (z_len:mg "len"=none) (z_range:mg "range"=none):Cl P w K mg base 2 "_law_step" ["_law_cell_here","_law_width","_law_height","_law_point_here","_law_people_here"] Ga:=
 d.cl (by trivial) fun _ _ F=>Xk F sc_l_step rfl rfl fun cdv A outer s H E hr=>
  (Zf (Zv 5 sc_l_step.nd (Zw c_l_numbers (hr.mono (by decide)) (Za (Zc 0) (Za Zi Ze))))
   (Zf (Qe ((Jv (Zr Rs (Zs Q2 (Zo (Zc 5)) Zi) Zi (Zz _)) (Kf (Zr (Ue hr.units) (Zc 4) (Ku Ze) (Zz _))))).pt (Zf (Zv 6 sc_l_step.nd (Xl (Zc 4) (Zs Q2 (Zo (Zc 5)) (Yd Wt (by rfl) z_len (by rfl) (Za (Zc 4) Ze))) (fun _ _=>rfl)))
   (Zf (Vf 7 sc_l_step.nd (Ve Ze))
   (Zf (Xz PassesOwn.never rfl (Xp (by rfl) z_range (Za Zi Ze)) (Qa 8 sc_l_step.nd) (Zf (Zv 9 sc_l_step.nd (Zs Qh Zi (Zs Y0 (Zs Q2 (Xl (Zc 5) (Zs Q0 Zi (Zc 8)) (fun _ _=>rfl)) Zi) Zi)))
   (Zf (Nv (Xl (Zc 6) (Zc 8) (fun _ _=>rfl)) (Ud rfl (Qx (Qa 10 sc_l_step.nd) (Qx (Qa 11 sc_l_step.nd) K6))))
   (Zf (Qe (Zr (Ya hr.units) (Zs Q2 (Xl (Zc 5) (Zs Q0 Zi (Zc 8)) (fun _ _=>rfl)) Zi) Zi (Zz _)) (Zm (Zv 10 sc_l_step.nd (Zs Y0 Zi (Zc 10)))) Z8)
   (Zf (Zv 10 sc_l_step.nd (Zs Q0 (Zc 10) (Zs Qh (Zc 9) (Zc 11))))
   (Zf (Nv (Xl (Zc 3) (Zc 8) (fun _ _=>rfl)) (Ud rfl (Qx (Qa 12 sc_l_step.nd) (Qx (Qa 13 sc_l_step.nd) K6))))
   (Zm (Vh 7 (Zw c_l_lowest (hr.mono (by decide)) (Za (Zs Y0 (Zs Qh (Zc 10) (Zc 13)) (Zs Qh (Zc 12) (Zc 11))) (Za (Zs Qh (Zc 11) (Zc 13)) Ze)))))))))))
   (Kj 7 (Zm (Qe ((Kg (Zr (Ue hr.units) (Zo (Zo (Zc 7))) Zi (Zz _)) (Je (Zr (Ue hr.units) (Zo (Zo (Zc 7))) Zi (Zz _))))).pt (Zm (Zu (Qb (Za (Zo (Zc 7)) (Za (Zo (Zc 7)) Ze))))) Z8)))))) Z8)
   (Zf (Zv 14 sc_l_step.nd (Zw c_l_lowest (hr.mono (by decide)) (Za (Zs Y0 (Zs Q2 (Zo (Zc 5)) Zi) Zi) (Za (Zs Q0 Zi (Zs Q2 (Zo (Zc 5)) (Xl (Ku (Za Zi (Za Zi (Za Zi (Za Zi Ze))))) (Zs Q2 (Zo (Zc 5)) Zi) (fun _ _=>rfl)))) Ze))))
   (Zf (Zv 15 sc_l_step.nd (Zw c_l_lowest (hr.mono (by decide)) (Za (Zs Y0 (Zs Q2 (Zo (Zc 5)) Zi) Zi) (Za (Zs Q0 Zi (Zs Q2 (Zo (Zc 5)) (Xl (Ku (Za Zi (Za Zi (Za Zi (Za Zi Ze))))) (Zs Q2 (Zs Yn (Zo (Zc 5)) Zi) Zi) (fun _ _=>rfl)))) Ze))))
   (Zf (Qe (Zr (Ya hr.units) (Zs Q2 (Zo (Zc 5)) Zi) Zi (Zz _)) (Zm (Zv 15 sc_l_step.nd (Zw c_l_lowest (hr.mono (by decide)) (Za (Zs Qh (Zo (Zc 14)) (Xl (Ku (Za Zi (Za (Zcy Bq Zi) Ze))) (Zs Q2 (Zo (Zc 5)) Zi) (fun _ _=>rfl))) (Za (Zo (Zc 14)) Ze))))) Z8)
   (Zf (Qe ((Jv (Zr (Ya hr.units) (Zo (Zc 14)) Zi (Zz _)) (Kf (Zr (Ya hr.units) (Zo (Zc 15)) Zi (Zz _))))).pt (Zm (Zu (Qb (Za (Qb (Za Zi (Za Zi Ze))) (Za (Qb (Za Zi (Za Zi Ze))) Ze))))) Z8)
   (Zm (Zu (Qb (Za (Zc 14) (Za (Zc 15) Ze)))))))))))
noncomputable def Kn:List D->M S:=Vr 2 0
  (Qj (Zt Qk (Zb (Zn Qi (Zn Qc 0[0]! 1[1]!) (Zn Qc 1[0]! 0[1]!)) (Zb (Zn Qc 0[1]! 1[1]!) Zh))))
def Zbc:FnScope ["_law_one","_law_other"] ["_law_one","_law_other"] (Zk Tr):=⟨rfl,rfl,rfl,by decide +kernel,rfl,by decide +kernel,by decide +kernel⟩
def Zbd (d:Dm K mg "_law_plus" Tr) (c_l_lowest:Cl P w K mg base 1 "_law_lowest" ["_law_top","_law_bottom"] Qk):Cl P w K mg base 2 "_law_plus" ["_law_one","_law_other"] Kn:=
 d.cl (by trivial) fun _ _ F=>Xk F Zbc rfl rfl fun cdv A outer s H E hr=>
  (Zm (Zu (Zw c_l_lowest (hr.mono (by decide)) (Za (Zs Q0 (Zs Qh (Zo (Zc 0)) (Zo (Zc 1))) (Zs Qh (Zo (Zc 1)) (Zo (Zc 0)))) (Za (Zs Qh (Zo (Zc 0)) (Zo (Zc 1))) Ze)))))
noncomputable def Y2:List D->M S:=Vr 2 0
  (Qj (Zt Qk (Zb (Zn Qc 0[0]! 1[0]!) (Zb (Zn Qc 0[1]! 1[1]!) Zh))))
def Fm:FnScope ["_law_one","_law_other"] ["_law_one","_law_other"] (Zk Ra):=⟨rfl,rfl,rfl,by decide +kernel,rfl,by decide +kernel,by decide +kernel⟩
def Fn (d:Dm K mg "_law_times" Ra) (c_l_lowest:Cl P w K mg base 1 "_law_lowest" ["_law_top","_law_bottom"] Qk):Cl P w K mg base 2 "_law_times" ["_law_one","_law_other"] Y2:=
 d.cl (by trivial) fun _ _ F=>Xk F Fm rfl rfl fun cdv A outer s H E hr=>
  (Zm (Zu (Zw c_l_lowest (hr.mono (by decide)) (Za (Zs Qh (Zo (Zc 0)) (Zo (Zc 1))) (Za (Zs Qh (Zo (Zc 0)) (Zo (Zc 1))) Ze)))))
noncomputable def Yw:List D->M S:=Vr 2 0
  (Qj (Zn Bj (Zn Qc 0[0]! 1[1]!) (Zn Qc 1[0]! 0[1]!)))
def Zbe:FnScope ["_law_one","_law_other"] ["_law_one","_law_other"] (Zk Ts):=⟨rfl,rfl,rfl,by decide +kernel,rfl,by decide +kernel,by decide +kernel⟩
def Zbf (d:Dm K mg "_law_less" Ts)  : Cl P w K mg base 1 "_law_less" ["_law_one","_law_other"] Yw:=
 d.cl (by trivial) fun _ _ F=>Xk F Zbe rfl rfl fun cdv A outer s H E hr=>
  (Zm (Zu (Jn Rs (Zs Qh (Zo (Zc 0)) (Zo (Zc 1))) (Zs Qh (Zo (Zc 1)) (Zo (Zc 0))) (Zz _))))
noncomputable def Ja:List D->M S:=Vr 2 0
  (Zy (Yy (tB (Zn Bj 1[0]! ↑0)) (Qj (Zt Qk (Zb (Zn Xf ↑0 (Zn Qc 0[0]! 1[1]!)) (Zb (Zn Xf ↑0 (Zn Qc 0[1]! 1[0]!)) Zh)))) Qs)
   (Qj (Zt Qk (Zb (Zn Qc 0[0]! 1[1]!) (Zb (Zn Qc 0[1]! 1[0]!) Zh)))))
def Zbg:FnScope ["_law_one","_law_other"] ["_law_one","_law_other"] (Zk Tt):=⟨rfl,rfl,rfl,by decide +kernel,rfl,by decide +kernel,by decide +kernel⟩
def Zbh (d:Dm K mg "_law_over" Tt) (c_l_lowest:Cl P w K mg base 1 "_law_lowest" ["_law_top","_law_bottom"] Qk):Cl P w K mg base 2 "_law_over" ["_law_one","_law_other"] Ja:=
 d.cl (by trivial) fun _ _ F=>Xk F Zbg rfl rfl fun cdv A outer s H E hr=>
  (Zf (Qe (Zr Rs (Zo (Zc 1)) Zi (Zz _)) (Zm (Zu (Zw c_l_lowest (hr.mono (by decide)) (Za (Zs Y0 Zi (Zs Qh (Zo (Zc 0)) (Zo (Zc 1)))) (Za (Zs Y0 Zi (Zs Qh (Zo (Zc 0)) (Zo (Zc 1)))) Ze))))) Z8)
   (Zm (Zu (Zw c_l_lowest (hr.mono (by decide)) (Za (Zs Qh (Zo (Zc 0)) (Zo (Zc 1))) (Za (Zs Qh (Zo (Zc 0)) (Zo (Zc 1))) Ze))))))
noncomputable def X2:List D->M S:=Vr 2 0
  (Qj (Zt Kn (Zb (Zd 1) (Zb (Qf (Zb (Zn Xf ↑0 0[0]!) (Zb 0[1]! Zh))) Zh))))
def Zdy:FnScope ["_law_one","_law_other"] ["_law_one","_law_other"] (Zk B2):=⟨rfl,rfl,rfl,by decide +kernel,rfl,by decide +kernel,by decide +kernel⟩
def Zdz (d:Dm K mg "_law_gap" B2) (c_l_plus:Cl P w K mg base 2 "_law_plus" ["_law_one","_law_other"] Kn):Cl P w K mg base 3 "_law_gap" ["_law_one","_law_other"] X2:=
 d.cl (by trivial) fun _ _ F=>Xk F Zdy rfl rfl fun cdv A outer s H E hr=>
  (Zm (Zu (Zw c_l_plus (hr.mono (by decide)) (Za (Zc 1) (Za (Qb (Za (Zs Y0 Zi (Zo (Zc 0))) (Za (Zo (Zc 0)) Ze))) Ze)))))
noncomputable def K1:List D->M S:=Vr 1 1
  (Zy (Yy (tO (tN (tB (Zbs "tuple" (Zd 0)))) (tB (Zn Wm (Kv Wl (Zb (Zd 0) Zh)) ↑2))) (Qj (eC (.bl false))) Qs)
   (Zy (V7 (V6 (Zd 0)) (Y1 1) (Yy (tO (tN (tB (Zbs "int" (Zd 1)))) (tB (Zbs "bool" (Zd 1)))) (Qj (eC (.bl false))) Qs))
   (Qj (R1 (Zn Pt 0[1]! ↑0) (Zn Ys (Zt Qk (Zb 0[0]! (Zb 0[1]! Zh))) (Zd 0))))))
def sc_l_is_number:FnScope ["_law_found","_law_part_here"] ["_law_found"] (Zk Uq):=⟨rfl,rfl,rfl,by decide +kernel,rfl,by decide +kernel,by decide +kernel⟩
def Ty (d:Dm K mg "_law_is_number" Uq) (c_l_lowest:Cl P w K mg base 1 "_law_lowest" ["_law_top","_law_bottom"] Qk) (z_isinstance:mg "isinstance"=none) (z_tuple:mg "tuple"=none) (z_len:mg "len"=none) (z_int:mg "int"=none) (z_bool:mg "bool"=none):Cl P w K mg base 2 "_law_is_number" ["_law_found"] K1:=
 d.cl (by trivial) fun _ _ F=>Xk F sc_l_is_number rfl rfl fun cdv A outer s H E hr=>
  (Zf (Qe ((Kg (Ju (Q7 (Jf "tuple" (by rfl) z_isinstance z_tuple (by rfl) (by rfl) (Zc 0)))) (Je (Zr (Ue hr.units) (Yd Wt (by rfl) z_len (by rfl) (Za (Zc 0) Ze)) Zi (Zz _))))).pt (Zm (Zu Wi)) Z8)
   (Zf (Xz PassesOwn.never rfl (Ki (Zc 0)) (Qa 1 sc_l_is_number.nd) (Zm (Qe ((Kg (Ju (Q7 (Jf "int" (by rfl) z_isinstance z_int (by rfl) (by rfl) (Zc 1)))) (Je (Q7 (Jf "bool" (by rfl) z_isinstance z_bool (by rfl) (by rfl) (Zc 1)))))).pt (Zm (Zu Wi)) Z8)))
   (Zm (Zu (Pv (Jn Nt (Zo (Zc 0)) Zi (Zz _)) (Bl (Jn (Ya hr.units) (Zw c_l_lowest (hr.mono (by decide)) (Za (Zo (Zc 0)) (Za (Zo (Zc 0)) Ze))) (Zc 0) (Zz _))))))))
noncomputable def Xr:List D->M S:=Vr 1 0
  (Qj (R1 (Zbs "tuple" (Zd 0)) (R1 (Zn Ys (Kv Wl (Zb (Zd 0) Zh)) ↑2) (Kv Zal (Zb (G8 (X6 (V6 (Zd 0)) 1 [] (Y1 0) (Zt K1 (Zb (Zd 0) Zh)))) Zh)))))
def Lq:FnScope ["_law_found"] ["_law_found"] (Zk U9):=⟨rfl,rfl,rfl,by decide +kernel,rfl,by decide +kernel,by decide +kernel⟩
def Lr (d:Dm K mg "_law_is_point" U9) (c_l_is_number:Cl P w K mg base 2 "_law_is_number" ["_law_found"] K1) (z_isinstance:mg "isinstance"=none) (z_tuple:mg "tuple"=none) (z_len:mg "len"=none) (z_all:mg "all"=none):Cl P w K mg base 3 "_law_is_point" ["_law_found"] Xr:=
 d.cl (by trivial) fun _ _ F=>Xk F Lq rfl rfl fun cdv A outer s H E hr=>
  (Zm (Zu (Pv (Jf "tuple" (by rfl) z_isinstance z_tuple (by rfl) (by rfl) (Zc 0)) (Pv (Jn (Ya hr.units) (Yd Wt (by rfl) z_len (by rfl) (Za (Zc 0) Ze)) Zi (Zz _)) (Bl (Yd (Zcp rfl) (by rfl) z_all (by rfl) (Za (Bo (Uv (Nc:=["_law_part_here"]) rfl (closureFor_none (by decide +kernel)) (Zm1 rfl (by decide +kernel)) rfl (by decide +kernel) (by decide +kernel) (J9 (by decide)) (Ki (Zc 0)) (fun s3 H3 C ex=>Qa 0 (show(["_law_part_here"]:List Str).Nodup by decide +kernel)) (fun s3 H3 C ex=>(Zw c_l_is_number (hr.mono (by decide)) (Za (Zc 0) Ze))))) Ze)))))))
noncomputable def Kc:List D->M S:=Vr 1 0
  (Zy (Yy (tO (tN (tB (Zbs "tuple" (Zd 0)))) (tO (tB (Zn Wm (Kv Wl (Zb (Zd 0) Zh)) ↑3)) (tN (tB (Zbs "str" 0[0]!))))) (Qj (eC (.bl false))) Qs)
   (Zy (Yy (tO (tN (tB (Zt Xr (Zb 0[1]! Zh)))) (tN (tB (Zbs "list" 0[2]!)))) (Qj (eC (.bl false))) Qs)
   (Qj (Kv Zal (Zb (G8 (X6 (V6 0[2]!) 1 [] (Y1 0) (Zt Xr (Zb (Zd 0) Zh)))) Zh)))))
def Aj:FnScope ["_law_found"] ["_law_found"] (Zk W5):=⟨rfl,rfl,rfl,by decide +kernel,rfl,by decide +kernel,by decide +kernel⟩
def Ak (d:Dm K mg "_law_is_walk" W5) (c_l_is_point:Cl P w K mg base 3 "_law_is_point" ["_law_found"] Xr) (z_isinstance:mg "isinstance"=none) (z_tuple:mg "tuple"=none) (z_len:mg "len"=none) (z_str:mg "str"=none) (z_list:mg "list"=none) (z_all:mg "all"=none):Cl P w K mg base 4 "_law_is_walk" ["_law_found"] Kc:=
 d.cl (by trivial) fun _ _ F=>Xk F Aj rfl rfl fun cdv A outer s H E hr=>
  (Zf (Qe ((Kg (Ju (Q7 (Jf "tuple" (by rfl) z_isinstance z_tuple (by rfl) (by rfl) (Zc 0)))) (Kg (Zr (Ue hr.units) (Yd Wt (by rfl) z_len (by rfl) (Za (Zc 0) Ze)) Zi (Zz _)) (Je (Ju (Q7 (Jf "str" (by rfl) z_isinstance z_str (by rfl) (by rfl) (Zo (Zc 0))))))))).pt (Zm (Zu Wi)) Z8)
   (Zf (Qe ((Kg (Ju (Q7 (Zw c_l_is_point (hr.mono (by decide)) (Za (Zo (Zc 0)) Ze)))) (Je (Ju (Q7 (Jf "list" (by rfl) z_isinstance z_list (by rfl) (by rfl) (Zo (Zc 0)))))))).pt (Zm (Zu Wi)) Z8)
   (Zm (Zu (Yd (Zcp rfl) (by rfl) z_all (by rfl) (Za (Bo (Uv (Nc:=["_law_point_here"]) rfl (closureFor_none (by decide +kernel)) (Zm1 rfl (by decide +kernel)) rfl (by decide +kernel) (by decide +kernel) (J9 (by decide)) (Ki (Zo (Zc 0))) (fun s3 H3 C ex=>Qa 0 (show(["_law_point_here"]:List Str).Nodup by decide +kernel)) (fun s3 H3 C ex=>(Zw c_l_is_point (hr.mono (by decide)) (Za (Zc 0) Ze))))) Ze))))))
noncomputable def U0:List D->M S:=Vr 2 1
  (Zy (V7 (V6 0[2]!) (Y1 2) (Yy (tB (Zn Ys (Ma (Zd 2) Wk (Xa ↑3)) (Zd 1))) (Qj (Ma (Zd 2) (Xa ↑3) Wk)) Qs))
   (Qj (Uo (tB (Zn Ng (Zt Vn (Zb 0[0]! (Zb 0[1]! (Zb (Zd 1) Zh)))) (eC .non))) (eC .non) (Qf (Zb ↑"p" (Zb ↑"p" Zh))))))
def sc_l_faces:FnScope ["_law_hall_here","_law_edge","_law_side_here"] ["_law_hall_here","_law_edge"] (Zk Rb):=⟨rfl,rfl,rfl,by decide +kernel,rfl,by decide +kernel,by decide +kernel⟩
def Fo (d:Dm K mg "_law_faces" Rb) (c_l_out:Cl P w K mg base 1 "_law_out" ["_law_width","_law_height","_law_edge"] Vn):Cl P w K mg base 2 "_law_faces" ["_law_hall_here","_law_edge"] U0:=
 d.cl (by trivial) fun _ _ F=>Xk F sc_l_faces rfl rfl fun cdv A outer s H E hr=>
  (Zf (Xz PassesOwn.never rfl (Ki (Zo (Zc 0))) (Qa 2 sc_l_faces.nd) (Zm (Qe (Zr (Ya hr.units) (K7 (Zc 2) Wv (X5 Zi)) (Zc 1) (Zz _)) (Zm (Zu (K7 (Zc 2) (X5 Zi) Wv))) Z8)))
   (Zm (Zu (Q9 (Zr U5 (Zw c_l_out (hr.mono (by decide)) (Za (Zo (Zc 0)) (Za (Zo (Zc 0)) (Za (Zc 1) Ze)))) Qr (Zz _)) Qr (Qb (Za Ql (Za Ql Ze)))))))
noncomputable def J2:List D->M S:=Vr 3 6
  (Zy (Yy (tO (tB (Zn Er (Zd 1) (Jq (Zb ↑0 (Zb 0[0]! Zh))))) (tB (Zn Er (Zd 2) (Jq (Zb ↑0 (Zb 0[1]! Zh)))))) (Qj (eC (.bl true))) Qs)
   (Zy (Sz 3 (Sy Zh))
   (Zy (V7 (V6 0[2]!) (Kr 5 (Qp (Y1 4) (Qp (Y1 5) (Qp (Y1 6) (Qp (Y1 7) (Qp (Y1 8) K5)))))) (Zy (Vg 3 (Qf (Zb (Zd 5) (Zb (Zd 6) Zh))))
   (Vg 3 (Uo (tB (Zn Ys (Zd 4) ↑"up")) (Qf (Zb (Zd 5) (Zb (Zn Qi (Zd 6) ↑1) Zh))) (Qf (Zb (Zn Qi (Zd 5) ↑1) (Zb (Zd 6) Zh)))))))
   (V9 3 (Qj (Zn Er (Qf (Zb (Zd 1) (Zb (Zd 2) Zh))) (Zd 3)))))))
def sc_l_corner:FnScope ["_law_hall_here","_law_x","_law_y","_law_ends","_law_kind","_law_right","_law_high","_law_one","_law_other"] ["_law_hall_here","_law_x","_law_y"] (Zk Nn):=⟨rfl,rfl,rfl,by decide +kernel,rfl,by decide +kernel,by decide +kernel⟩
def Dg (d:Dm K mg "_law_corner" Nn)  : Cl P w K mg base 1 "_law_corner" ["_law_hall_here","_law_x","_law_y"] J2:=
 d.cl (by trivial) fun _ _ F=>Xk F sc_l_corner rfl rfl fun cdv A outer s H E hr=>
  (Zf (Qe ((Kg (Zr (Me (by exact hr.units)) (Zc 1) (Ku (Za Zi (Za (Zo (Zc 0)) Ze))) (by with_unfolding_all rfl)) (Je (Zr (Me (by exact hr.units)) (Zc 2) (Ku (Za Zi (Za (Zo (Zc 0)) Ze))) (by with_unfolding_all rfl))))).pt (Zm (Zu Wi)) Z8)
   (Zf (Vf 3 sc_l_corner.nd (Ve Ze))
   (Zf (Xz PassesOwn.never rfl (Ki (Zo (Zc 0))) (Ud rfl (Qx (Qa 4 sc_l_corner.nd) (Qx (Qa 5 sc_l_corner.nd) (Qx (Qa 6 sc_l_corner.nd) (Qx (Qa 7 sc_l_corner.nd) (Qx (Qa 8 sc_l_corner.nd) K6)))))) (Zf (Vh 3 (Qb (Za (Zc 5) (Za (Zc 6) Ze))))
   (Zm (Vh 3 (Q9 (Zr (Ya hr.units) (Zc 4) Ql (Zz _)) (Qb (Za (Zc 5) (Za (Zs Q0 (Zc 6) Zi) Ze))) (Qb (Za (Zs Q0 (Zc 5) Zi) (Za (Zc 6) Ze))))))))
   (Kj 3 (Zm (Zu (Jn (Me (by exact hr.units)) (Qb (Za (Zc 1) (Za (Zc 2) Ze))) (Zc 3) (by with_unfolding_all rfl))))))))
noncomputable def Jt:List D->M S:=Vr 2 1
  (Zy (Yy (tB (Zn Ys 1[0]! ↑0)) (Qj (eC .non)) Qs)
   (Zy (Z4 2 (Uo (tB (Zn Pt 1[0]! ↑0)) (Zn Qi (Zn Q6 0[0]! 0[1]!) ↑1) (Zn Xf (Zn Xf ↑0 (Zn Q6 (Zn Xf ↑0 0[0]!) 0[1]!)) ↑1)))
   (Qj (Zt Ja (Zb (Zt X2 (Zb (Zd 0) (Zb (Qf (Zb (Zd 2) (Zb ↑1 Zh))) Zh))) (Zb (Zd 1) Zh))))))
def sc_l_till_line:FnScope ["_law_at","_law_go","_law_line"] ["_law_at","_law_go"] (Zk Ur):=⟨rfl,rfl,rfl,by decide +kernel,rfl,by decide +kernel,by decide +kernel⟩
def Tz (d:Dm K mg "_law_till_line" Ur) (c_l_over:Cl P w K mg base 2 "_law_over" ["_law_one","_law_other"] Ja) (c_l_gap:Cl P w K mg base 3 "_law_gap" ["_law_one","_law_other"] X2):Cl P w K mg base 4 "_law_till_line" ["_law_at","_law_go"] Jt:=
 d.cl (by trivial) fun _ _ F=>Xk F sc_l_till_line rfl rfl fun cdv A outer s H E hr=>
  (Zf (Qe (Zr (Ya hr.units) (Zo (Zc 1)) Zi (Zz _)) (Zm (Zu Qr)) Z8)
   (Zf (Zv 2 sc_l_till_line.nd (Q9 (Zr Nt (Zo (Zc 1)) Zi (Zz _)) (Zs Q0 (Zs Yn (Zo (Zc 0)) (Zo (Zc 0))) Zi) (Zs Y0 (Zs Y0 Zi (Zs Yn (Zs Y0 Zi (Zo (Zc 0))) (Zo (Zc 0)))) Zi)))
   (Zm (Zu (Zw c_l_over (hr.mono (by decide)) (Za (Zw c_l_gap (hr.mono (by decide)) (Za (Zc 0) (Za (Qb (Za (Zc 2) (Za Zi Ze))) Ze))) (Za (Zc 1) Ze)))))))
noncomputable def Gb:List D->M S:=Vr 3 3
  (Zy (Z4 3 (G8 (X6 (Yf (Zb ↑2 Zh)) 1 [0,2] (Y1 0) (Zt X2 (Zb (Zn Yj (Zd 1) (Zd 0)) (Zb (Zn Yj (Zd 2) (Zd 0)) Zh))))))
   (Zy (Yy (tB (Zn Wm (Zt Y2 (Zb 3[0]! (Zb 1[1]! Zh))) (Zt Y2 (Zb 3[1]! (Zb 1[0]! Zh))))) (Qj (eC .non)) Qs)
   (Zy (Z4 4 (Uo (tB (Zn Wm (Zn Yj 1[0]! ↑0) ↑0)) ↑0 ↑1))
   (Zy (Z4 5 (Zt Ja (Zb (Zn Yj (Zd 3) (Zd 4)) (Zb (Zn Yj (Zd 1) (Zd 4)) Zh))))
   (Qj (Uo (tB (Zn Pt 5[0]! ↑0)) (Zd 5) (eC .non)))))))
def sc_l_till:FnScope ["_law_at","_law_go","_law_spot","_law_gaps","_law_k","_law_share"] ["_law_at","_law_go","_law_spot"] (Zk Uw):=⟨rfl,rfl,rfl,by decide +kernel,rfl,by decide +kernel,by decide +kernel⟩
def Zbi (d:Dm K mg "_law_till" Uw) (c_l_gap:Cl P w K mg base 3 "_law_gap" ["_law_one","_law_other"] X2) (c_l_times:Cl P w K mg base 2 "_law_times" ["_law_one","_law_other"] Y2) (c_l_over:Cl P w K mg base 2 "_law_over" ["_law_one","_law_other"] Ja) (z_range:mg "range"=none):Cl P w K mg base 4 "_law_till" ["_law_at","_law_go","_law_spot"] Gb:=
 d.cl (by trivial) fun _ _ F=>Xk F sc_l_till rfl rfl fun cdv A outer s H E hr=>
  (Zf (Ct 3 sc_l_till.nd (Nc:=["_law_k","_law_at","_law_spot"]) rfl (Kx (fun y hy hf=>Y5 (Wo (sc:=Zk Uw) (by decide +kernel) y hy hf))) (Zan (sc:=Zk Uw) rfl rfl (by decide +kernel) (Wo (by decide +kernel)) (fun y hy hf=>Y5 (Wo (sc:=Zk Uw) (by decide +kernel) y hy hf)) rfl (Gm (N:=["_law_at","_law_go","_law_spot","_law_gaps","_law_k","_law_share"]) rfl (by decide +kernel))) rfl (by decide +kernel) (by decide +kernel) (J9 (by decide)) (Xp (by rfl) z_range (Za Zi Ze)) (fun s3 H3 C ex=>Qa 0 (show(["_law_k","_law_at","_law_spot"]:List Str).Nodup by decide +kernel)) (fun s3 H3 C ex=>(Zw c_l_gap (hr.mono (by decide)) (Za (Xl (Zc 1) (Zc 0) (fun _ _=>rfl)) (Za (Xl (Zc 2) (Zc 0) (fun _ _=>rfl)) Ze)))))
   (Zf (Qe (Zr (Ue hr.units) (Zw c_l_times (hr.mono (by decide)) (Za (Zo (Zc 3)) (Za (Zo (Zc 1)) Ze))) (Zw c_l_times (hr.mono (by decide)) (Za (Zo (Zc 3)) (Za (Zo (Zc 1)) Ze))) (Zz _)) (Zm (Zu Qr)) Z8)
   (Zf (Zv 4 sc_l_till.nd (Q9 (Zr (Ue hr.units) (Zo (Zo (Zc 1))) Zi (Zz _)) Zi Zi))
   (Zf (Zv 5 sc_l_till.nd (Zw c_l_over (hr.mono (by decide)) (Za (Xl (Zc 3) (Zc 4) (fun _ _=>rfl)) (Za (Xl (Zc 1) (Zc 4) (fun _ _=>rfl)) Ze))))
   (Zm (Zu (Q9 (Zr Nt (Zo (Zc 5)) Zi (Zz _)) (Zc 5) Qr)))))))
noncomputable def Pc:List D->M S:=Vr 4 3
  (Zy (Z4 4 (eC .non))
   (Zy (V7 (V6 (Zd 3)) (Y1 5) (Zy (Z4 6 (Zt Gb (Zb (Zd 0) (Zb (Zd 1) (Zb (Zd 5) Zh)))))
   (Yy (tA (tB (Zn Xd (Zd 6) (eC .non))) (tA (tB (Zt Yw (Zb (Zd 6) (Zb (Zd 2) Zh)))) (tO (tB (Zn Ng (Zd 4) (eC .non))) (tB (Zt Yw (Zb (Zd 6) (Zb 4[0]! Zh))))))) (Z4 4 (Qf (Zb (Zd 6) (Zb (Zd 5) Zh)))) Qs)))
   (Qj (Zd 4))))
def sc_l_met:FnScope ["_law_at","_law_go","_law_share","_law_people_here","_law_best","_law_spot","_law_found"] ["_law_at","_law_go","_law_share","_law_people_here"] (Zk B3):=⟨rfl,rfl,rfl,by decide +kernel,rfl,by decide +kernel,by decide +kernel⟩
def Zd0 (d:Dm K mg "_law_met" B3) (c_l_till:Cl P w K mg base 4 "_law_till" ["_law_at","_law_go","_law_spot"] Gb) (c_l_less:Cl P w K mg base 1 "_law_less" ["_law_one","_law_other"] Yw):Cl P w K mg base 5 "_law_met" ["_law_at","_law_go","_law_share","_law_people_here"] Pc:=
 d.cl (by trivial) fun _ _ F=>Xk F sc_l_met rfl rfl fun cdv A outer s H E hr=>
  (Zf (Zv 4 sc_l_met.nd Qr)
   (Zf (Xz PassesOwn.never rfl (Ki (Zc 3)) (Qa 5 sc_l_met.nd) (Zf (Zv 6 sc_l_met.nd (Zw c_l_till (hr.mono (by decide)) (Za (Zc 0) (Za (Zc 1) (Za (Zc 5) Ze)))))
   (Zm (Qe ((Jv (Zr Kw (Zc 6) Qr (Zz _)) (Jv (Q7 (Zw c_l_less (hr.mono (by decide)) (Za (Zc 6) (Za (Zc 2) Ze)))) (Kf ((Kg (Zr U5 (Zc 4) Qr (Zz _)) (Je (Q7 (Zw c_l_less (hr.mono (by decide)) (Za (Zc 6) (Za (Zo (Zc 4)) Ze))))))).pt)))).pt (Zm (Zv 4 sc_l_met.nd (Qb (Za (Zc 6) (Za (Zc 5) Ze))))) Z8))))
   (Zm (Zu (Zc 4)))))
noncomputable def Vo:List D->M S:=Vr 4 1
  (Zy (Yy (tB (Zd 3)) (Zy (Z4 4 (Zt U0 (Zb (Zd 0) (Zb (Qf (Zb ↑"up" (Zb (Zn Yj 1[0]! ↑0) (Zb (Zn Q6 (Zn Yj 1[1]! ↑0) (Zn Yj 1[1]! ↑1)) Zh)))) Zh))))
   (Qj (Uo (tB (Zn Ng (Zd 4) (eC .non))) (eC .non) (Zn Yj (Zd 4) (Kv R0 (Zb (Zn Bj (Zn Yj 2[0]! ↑0) ↑0) Zh)))))) Qs)
   (Zy (Z4 4 (Zt U0 (Zb (Zd 0) (Zb (Qf (Zb ↑"flat" (Zb (Zn Q6 (Zn Yj 1[0]! ↑0) (Zn Yj 1[0]! ↑1)) (Zb (Zn Yj 1[1]! ↑0) Zh)))) Zh))))
   (Qj (Uo (tB (Zn Ng (Zd 4) (eC .non))) (eC .non) (Zn Yj (Zd 4) (Kv R0 (Zb (Zn Bj (Zn Yj 2[1]! ↑0) ↑0) Zh)))))))
def sc_l_hit:FnScope ["_law_hall_here","_law_at","_law_go","_law_across","_law_both"] ["_law_hall_here","_law_at","_law_go","_law_across"] (Zk B4):=⟨rfl,rfl,rfl,by decide +kernel,rfl,by decide +kernel,by decide +kernel⟩
def Zd1 (d:Dm K mg "_law_hit" B4) (c_l_faces:Cl P w K mg base 2 "_law_faces" ["_law_hall_here","_law_edge"] U0) (z_int:mg "int"=none):Cl P w K mg base 3 "_law_hit" ["_law_hall_here","_law_at","_law_go","_law_across"] Vo:=
 d.cl (by trivial) fun _ _ F=>Xk F sc_l_hit rfl rfl fun cdv A outer s H E hr=>
  (Zf (Qe (Q7 (Zc 3)) (Zf (Zv 4 sc_l_hit.nd (Zw c_l_faces (hr.mono (by decide)) (Za (Zc 0) (Za (Qb (Za Ql (Za (Zo (Zo (Zc 1))) (Za (Zs Yn (Zo (Zo (Zc 1))) (Zo (Zo (Zc 1)))) Ze)))) Ze))))
   (Zm (Zu (Q9 (Zr U5 (Zc 4) Qr (Zz _)) Qr (Xl (Zc 4) (Vw Bk (by rfl) z_int (by rfl) (Za (Jn Rs (Zo (Zo (Zc 2))) Zi (Zz _)) Ze)) (fun _ _=>rfl)))))) Z8)
   (Zf (Zv 4 sc_l_hit.nd (Zw c_l_faces (hr.mono (by decide)) (Za (Zc 0) (Za (Qb (Za Ql (Za (Zs Yn (Zo (Zo (Zc 1))) (Zo (Zo (Zc 1)))) (Za (Zo (Zo (Zc 1))) Ze)))) Ze))))
   (Zm (Zu (Q9 (Zr U5 (Zc 4) Qr (Zz _)) Qr (Xl (Zc 4) (Vw Bk (by rfl) z_int (by rfl) (Za (Jn Rs (Zo (Zo (Zc 2))) Zi (Zz _)) Ze)) (fun _ _=>rfl)))))))
noncomputable def U1:List D->M S:=Vr 2 2
  (Zy (Z4 2 (G8 (X6 (Yf (Zb ↑2 Zh)) 1 [0,1] (Y1 0) (Zt Jt (Zb (Zn Yj (Zd 1) (Zd 0)) (Zb (Zn Yj (Zd 2) (Zd 0)) Zh))))))
   (Zy (Z4 3 2[0]!)
   (Zy (Yy (tO (tB (Zn Ng (Zd 3) (eC .non))) (tA (tB (Zn Xd 2[1]! (eC .non))) (tB (Zt Yw (Zb 2[1]! (Zb (Zd 3) Zh)))))) (Z4 3 2[1]!) Qs)
   (Qj (Qf (Zb (Zd 3) (Zb (Zn Ys 2[0]! (Zd 3)) (Zb (Zn Ys 2[1]! (Zd 3)) Zh))))))))
def sc_l_lines:FnScope ["_law_at","_law_go","_law_found","_law_share"] ["_law_at","_law_go"] (Zk Vt):=⟨rfl,rfl,rfl,by decide +kernel,rfl,by decide +kernel,by decide +kernel⟩
def Fp (d:Dm K mg "_law_lines" Vt) (c_l_till_line:Cl P w K mg base 4 "_law_till_line" ["_law_at","_law_go"] Jt) (c_l_less:Cl P w K mg base 1 "_law_less" ["_law_one","_law_other"] Yw) (z_range:mg "range"=none):Cl P w K mg base 5 "_law_lines" ["_law_at","_law_go"] U1:=
 d.cl (by trivial) fun _ _ F=>Xk F sc_l_lines rfl rfl fun cdv A outer s H E hr=>
  (Zf (Ct 2 sc_l_lines.nd (Nc:=["_law_k","_law_at","_law_go"]) rfl (Kx (fun y hy hf=>Y5 (Wo (sc:=Zk Vt) (by decide +kernel) y hy hf))) (Zan (sc:=Zk Vt) rfl rfl (by decide +kernel) (Wo (by decide +kernel)) (fun y hy hf=>Y5 (Wo (sc:=Zk Vt) (by decide +kernel) y hy hf)) rfl (Gm (N:=["_law_at","_law_go","_law_found","_law_share"]) rfl (by decide +kernel))) rfl (by decide +kernel) (by decide +kernel) (J9 (by decide)) (Xp (by rfl) z_range (Za Zi Ze)) (fun s3 H3 C ex=>Qa 0 (show(["_law_k","_law_at","_law_go"]:List Str).Nodup by decide +kernel)) (fun s3 H3 C ex=>(Zw c_l_till_line (hr.mono (by decide)) (Za (Xl (Zc 1) (Zc 0) (fun _ _=>rfl)) (Za (Xl (Zc 2) (Zc 0) (fun _ _=>rfl)) Ze)))))
   (Zf (Zv 3 sc_l_lines.nd (Zo (Zc 2)))
   (Zf (Qe ((Kg (Zr U5 (Zc 3) Qr (Zz _)) (Je ((Jv (Zr Kw (Zo (Zc 2)) Qr (Zz _)) (Kf (Q7 (Zw c_l_less (hr.mono (by decide)) (Za (Zo (Zc 2)) (Za (Zc 3) Ze))))))).pt))).pt (Zm (Zv 3 sc_l_lines.nd (Zo (Zc 2)))) Z8)
   (Zm (Zu (Qb (Za (Zc 3) (Za (Jn (Ya hr.units) (Zo (Zc 2)) (Zc 3) (Zz _)) (Za (Jn (Ya hr.units) (Zo (Zc 2)) (Zc 3) (Zz _)) Ze)))))))))
noncomputable def Gc:List D->M S:=Vr 5 11
  (Zy (Sz 5 (Sy Zh))
   (Zy (Z4 6 (Qf (Zb ↑1 (Zb ↑1 Zh))))
   (Wu (tB (eC (.bl true))) (Zy (P0 (Zt U1 (Zb (Zd 2) (Zb (Zd 3) Zh))) (Kr 3 (Qp (Y1 7) (Qp (Y1 8) (Qp (Y1 9) K5)))))
   (Zy (Z4 10 (Ek (Zt Yw (Zb (Zd 7) (Zb (Zd 6) Zh)))))
   (Zy (Z4 11 (Uo (tB (Zd 10)) (Zd 6) (Zd 7)))
   (Zy (Z4 12 (Zt Pc (Zb (Zd 2) (Zb (Zd 3) (Zb (Zd 11) (Zb (Zd 1) Zh))))))
   (Zy (Yy (tB (Zn Xd (Zd 12) (eC .non))) (V9 5 (Qj (Qf (Zb ↑"person" (Zb 12[1]! (Zb (Zd 5) Zh)))))) Qs)
   (Zy (Z4 2 (Kv Su (Zb (G8 (X6 (Yf (Zb ↑2 Zh)) 1 [2,11,3] (Y1 0) (Zt Kn (Zb (Zn Yj (Zd 1) (Zd 0)) (Zb (Zt Y2 (Zb (Zn Yj (Zd 3) (Zd 0)) (Zb (Zd 2) Zh))) Zh))))) Zh)))
   (Zy (Yy (tA (tB (Zn Ys (Zn Yj 2[0]! ↑1) ↑1)) (tA (tB (Zn Ys (Zn Yj 2[1]! ↑1) ↑1)) (tB (Zt J2 (Zb (Zd 0) (Zb (Zn Yj 2[0]! ↑0) (Zb (Zn Yj 2[1]! ↑0) Zh))))))) (V9 5 (Qj (Qf (Zb ↑"corner" (Zb (Zd 2) (Zb (Zd 5) Zh)))))) Qs)
   (Zy (Yy (tB (Zd 10)) (V9 5 (Qj (Qf (Zb ↑"end" (Zb (Zd 2) (Zb (Zd 5) Zh)))))) Qs)
   (Zy (Z4 6 (Zt X2 (Zb (Zd 7) (Zb (Zd 6) Zh))))
   (Yy (tO (tN (tB (Zd 8))) (tN (tB (Zd 9)))) (Zy (Z4 13 (Zt Vo (Zb (Zd 0) (Zb (Zd 2) (Zb (Zd 3) (Zb (Zd 8) Zh))))))
   (Zy (Yy (tB (Zn Ys (Zd 13) ↑"p")) (V9 5 (Qj (Qf (Zb ↑"plain" (Zb (Zd 2) (Zb (Zd 5) Zh)))))) Qs)
   (Yy (tB (Zn Ys (Zd 13) ↑"m")) (Zy (Yy (Wy 5 (tB (Zn Ys (Kv Wl (Zb (Zd 5) Zh)) (Zd 4)))) (V9 5 (Qj (Qf (Zb ↑"many" (Zb (Zd 2) (Zb (Zd 5) Zh)))))) Qs)
   (Zy (Vg 5 (Zd 2))
   (Zy (Z4 14 (Zn Xf ↑1 (Kv R0 (Zb (Zd 8) Zh))))
   (Zy (Z4 15 (Qf (Zb (Zn Xf ↑0 (Zn Yj (Zn Yj (Zd 3) (Zd 14)) ↑0)) (Zb (Zn Yj (Zn Yj (Zd 3) (Zd 14)) ↑1) Zh))))
   (Z4 3 (Uo (tB (Zn Ys (Zd 14) ↑0)) (Qf (Zb (Zd 15) (Zb 3[1]! Zh))) (Qf (Zb 3[0]! (Zb (Zd 15) Zh))))))))) Qs))) Qs)))))))))))))
def sc_l_walk:FnScope ["_law_hall_here","_law_people_here","_law_at","_law_go","_law_most","_law_turns","_law_left","_law_share","_law_across","_law_upward","_law_ends","_law_long","_law_met_here","_law_face","_law_k","_law_back"] ["_law_hall_here","_law_people_here","_law_at","_law_go","_law_most"] (Zk Ux):=⟨rfl,rfl,rfl,by decide +kernel,rfl,by decide +kernel,by decide +kernel⟩
def Zbj (d:Dm K mg "_law_walk" Ux) (c_l_lines:Cl P w K mg base 5 "_law_lines" ["_law_at","_law_go"] U1) (c_l_less:Cl P w K mg base 1 "_law_less" ["_law_one","_law_other"] Yw) (c_l_met:Cl P w K mg base 5 "_law_met" ["_law_at","_law_go","_law_share","_law_people_here"] Pc) (c_l_plus:Cl P w K mg base 2 "_law_plus" ["_law_one","_law_other"] Kn) (c_l_times:Cl P w K mg base 2 "_law_times" ["_law_one","_law_other"] Y2) (c_l_corner:Cl P w K mg base 1 "_law_corner" ["_law_hall_here","_law_x","_law_y"] J2) (c_l_gap:Cl P w K mg base 3 "_law_gap" ["_law_one","_law_other"] X2) (c_l_hit:Cl P w K mg base 3 "_law_hit" ["_law_hall_here","_law_at","_law_go","_law_across"] Vo) (z_range:mg "range"=none) (z_tuple:mg "tuple"=none) (z_len:mg "len"=none) (z_int:mg "int"=none):Cl P w K mg base 6 "_law_walk" ["_law_hall_here","_law_people_here","_law_at","_law_go","_law_most"] Gc:=
 d.cl (by trivial) fun _ _ F=>Xk F sc_l_walk rfl rfl fun cdv A outer s H E hr=>
  (Zf (Vf 5 sc_l_walk.nd (Ve Ze))
   (Zf (Zv 6 sc_l_walk.nd (Qb (Za Zi (Za Zi Ze))))
   (Zm (Px PassesOwn.never (Q7 Wi) (Zf (Nv (Zw c_l_lines (hr.mono (by decide)) (Za (Zc 2) (Za (Zc 3) Ze))) (Ud rfl (Qx (Qa 7 sc_l_walk.nd) (Qx (Qa 8 sc_l_walk.nd) (Qx (Qa 9 sc_l_walk.nd) K6)))))
   (Zf (Zv 10 sc_l_walk.nd (Zcl (Zw c_l_less (hr.mono (by decide)) (Za (Zc 7) (Za (Zc 6) Ze)))))
   (Zf (Zv 11 sc_l_walk.nd (Q9 (Q7 (Zc 10)) (Zc 6) (Zc 7)))
   (Zf (Zv 12 sc_l_walk.nd (Zw c_l_met (hr.mono (by decide)) (Za (Zc 2) (Za (Zc 3) (Za (Zc 11) (Za (Zc 1) Ze))))))
   (Zf (Qe (Zr Kw (Zc 12) Qr (Zz _)) (Kj 5 (Zm (Zu (Qb (Za Ql (Za (Zo (Zc 12)) (Za (Zc 5) Ze))))))) Z8)
   (Zf (Zv 2 sc_l_walk.nd (Vw Cc (by rfl) z_tuple (by rfl) (Za (Bo (Uv (Nc:=["_law_k","_law_at","_law_long","_law_go"]) rfl (Kx (fun y hy hf=>Y5 (Wo (sc:=Zk Ux) (by decide +kernel) y hy hf))) (Zan (sc:=Zk Ux) rfl rfl (by decide +kernel) (Wo (by decide +kernel)) (fun y hy hf=>Y5 (Wo (sc:=Zk Ux) (by decide +kernel) y hy hf)) rfl (Gm (N:=["_law_hall_here","_law_people_here","_law_at","_law_go","_law_most","_law_turns","_law_left","_law_share","_law_across","_law_upward","_law_ends","_law_long","_law_met_here","_law_face","_law_k","_law_back"]) rfl (by decide +kernel))) rfl (by decide +kernel) (by decide +kernel) (J9 (by decide)) (Xp (by rfl) z_range (Za Zi Ze)) (fun s3 H3 C ex=>Qa 0 (show(["_law_k","_law_at","_law_long","_law_go"]:List Str).Nodup by decide +kernel)) (fun s3 H3 C ex=>(Zw c_l_plus (hr.mono (by decide)) (Za (Xl (Zc 1) (Zc 0) (fun _ _=>rfl)) (Za (Zw c_l_times (hr.mono (by decide)) (Za (Xl (Zc 3) (Zc 0) (fun _ _=>rfl)) (Za (Zc 2) Ze))) Ze)))))) Ze)))
   (Zf (Qe ((Jv (Zr (Ya hr.units) (Zo (Zo (Zc 2))) Zi (Zz _)) (Jv (Zr (Ya hr.units) (Zo (Zo (Zc 2))) Zi (Zz _)) (Kf (Q7 (Zw c_l_corner (hr.mono (by decide)) (Za (Zc 0) (Za (Zo (Zo (Zc 2))) (Za (Zo (Zo (Zc 2))) Ze))))))))).pt (Kj 5 (Zm (Zu (Qb (Za Ql (Za (Zc 2) (Za (Zc 5) Ze))))))) Z8)
   (Zf (Qe (Q7 (Zc 10)) (Kj 5 (Zm (Zu (Qb (Za Ql (Za (Zc 2) (Za (Zc 5) Ze))))))) Z8)
   (Zf (Zv 6 sc_l_walk.nd (Zw c_l_gap (hr.mono (by decide)) (Za (Zc 7) (Za (Zc 6) Ze))))
   (Zm (Qe ((Kg (Ju (Q7 (Zc 8))) (Je (Ju (Q7 (Zc 9)))))).pt (Zf (Zv 13 sc_l_walk.nd (Zw c_l_hit (hr.mono (by decide)) (Za (Zc 0) (Za (Zc 2) (Za (Zc 3) (Za (Zc 8) Ze))))))
   (Zf (Qe (Zr (Ya hr.units) (Zc 13) Ql (Zz _)) (Kj 5 (Zm (Zu (Qb (Za Ql (Za (Zc 2) (Za (Zc 5) Ze))))))) Z8)
   (Zm (Qe (Zr (Ya hr.units) (Zc 13) Ql (Zz _)) (Zf (Qe (Cp 5 (Zr (Ya hr.units) (Yd Wt (by rfl) z_len (by rfl) (Za (Zc 5) Ze)) (Zc 4) (Zz _))) (Kj 5 (Zm (Zu (Qb (Za Ql (Za (Zc 2) (Za (Zc 5) Ze))))))) Z8)
   (Zf (Vh 5 (Zc 2))
   (Zf (Zv 14 sc_l_walk.nd (Zs Y0 Zi (Vw Bk (by rfl) z_int (by rfl) (Za (Zc 8) Ze))))
   (Zf (Zv 15 sc_l_walk.nd (Qb (Za (Zs Y0 Zi (Zo (Xl (Zc 3) (Zc 14) (fun _ _=>rfl)))) (Za (Zo (Xl (Zc 3) (Zc 14) (fun _ _=>rfl))) Ze))))
   (Zm (Zv 3 sc_l_walk.nd (Q9 (Zr (Ya hr.units) (Zc 14) Zi (Zz _)) (Qb (Za (Zc 15) (Za (Zo (Zc 3)) Ze))) (Qb (Za (Zo (Zc 3)) (Za (Zc 15) Ze)))))))))) Z8)))) Z8)))))))))))))))
noncomputable def Gs:List D->M S:=Vr 1 7
  (Zy (Z4 1 (Zn Yj (Zt Ye (Zb (Zt Xh (Zb (Zd 0) (Zb ↑0 Zh))) (Zb ↑1 Zh))) ↑0))
   (Zy (Z4 2 (Zn Qi ↑1 (Zn Qn (Zd 1) ↑5)))
   (Zy (Z4 3 (Zn Qi ↑1 (Zn Qn (Zn Q6 (Zd 1) ↑5) ↑5)))
   (Zy (Z4 4 (Zt Pb (Zb (Zt Xh (Zb (Zd 0) (Zb ↑1 Zh))) (Zb (Zd 2) (Zb (Zd 3) Zh)))))
   (Zy (Z4 5 (Zn Yj (Jq (Zb ↑9 (Zb ↑9 (Zb ↑9 (Zb ↑1000 Zh))))) (Zn Qn (Zn Q6 (Zd 1) ↑25) ↑4)))
   (Zy (Z4 6 (Zt We (Zb (Ma (Zd 0) (Xa ↑2) (Xa (Zn Qi ↑2 (Zn Qn (Zn Q6 (Zd 1) ↑100) ↑6)))) (Zb (Zd 2) (Zb (Zd 3) (Zb (Zd 5) Zh))))))
   (Zy (Z4 7 (Zt Kz (Zb (Zt Xh (Zb (Zd 0) (Zb ↑8 Zh))) (Zb (Zd 2) (Zb (Zd 3) (Zb (Zd 5) Zh))))))
   (Zy (Yy (tA (tB (Zn Ys (Zn Qn (Zn Q6 (Zd 1) ↑600) ↑2) ↑0)) (tB (Zn Wm (Zd 6) (Jq Zh)))) (Z4 7 (Zn Yj (Zd 6) (Zn Qn (Zn Q6 (Zd 1) ↑1200) (Kv Wl (Zb (Zd 6) Zh))))) Qs)
   (Qj (Qf (Zb (Zd 4) (Zb (Zd 6) (Zb (Zd 7) Zh)))))))))))))
def sc_l_drawn:FnScope ["_law_script","_law_first","_law_width","_law_height","_law_hall_here","_law_bottom","_law_people_here","_law_point_here"] ["_law_script"] (Zk Rc):=⟨rfl,rfl,rfl,by decide +kernel,rfl,by decide +kernel,by decide +kernel⟩
def Fq (d:Dm K mg "_law_drawn" Rc) (c_l_numbers:Cl P w K mg base 1 "_law_numbers" ["_law_cell_here","_law_many"] Ye) (c_l_cell:Cl P w K mg base 1 "_law_cell" ["_law_script","_law_k"] Xh) (c_l_hall:Cl P w K mg base 3 "_law_hall" ["_law_cell_here","_law_width","_law_height"] Pb) (c_l_people:Cl P w K mg base 4 "_law_people" ["_law_some","_law_width","_law_height","_law_most"] We) (c_l_point:Cl P w K mg base 3 "_law_point" ["_law_cell_here","_law_width","_law_height","_law_most"] Kz) (z_len:mg "len"=none):Cl P w K mg base 5 "_law_drawn" ["_law_script"] Gs:=
 d.cl (by trivial) fun _ _ F=>Xk F sc_l_drawn rfl rfl fun cdv A outer s H E hr=>
  (Zf (Zv 1 sc_l_drawn.nd (Zo (Zw c_l_numbers (hr.mono (by decide)) (Za (Zw c_l_cell (hr.mono (by decide)) (Za (Zc 0) (Za Zi Ze))) (Za Zi Ze)))))
   (Zf (Zv 2 sc_l_drawn.nd (Zs Q0 Zi (Zs Q2 (Zc 1) Zi)))
   (Zf (Zv 3 sc_l_drawn.nd (Zs Q0 Zi (Zs Q2 (Zs Yn (Zc 1) Zi) Zi)))
   (Zf (Zv 4 sc_l_drawn.nd (Zw c_l_hall (hr.mono (by decide)) (Za (Zw c_l_cell (hr.mono (by decide)) (Za (Zc 0) (Za Zi Ze))) (Za (Zc 2) (Za (Zc 3) Ze)))))
   (Zf (Zv 5 sc_l_drawn.nd (Xl (Ku (Za Zi (Za Zi (Za Zi (Za Zi Ze))))) (Zs Q2 (Zs Yn (Zc 1) Zi) Zi) (fun _ _=>rfl)))
   (Zf (Zv 6 sc_l_drawn.nd (Zw c_l_people (hr.mono (by decide)) (Za (K7 (Zc 0) (X5 Zi) (X5 (Zs Q0 Zi (Zs Q2 (Zs Yn (Zc 1) Zi) Zi)))) (Za (Zc 2) (Za (Zc 3) (Za (Zc 5) Ze))))))
   (Zf (Zv 7 sc_l_drawn.nd (Zw c_l_point (hr.mono (by decide)) (Za (Zw c_l_cell (hr.mono (by decide)) (Za (Zc 0) (Za Zi Ze))) (Za (Zc 2) (Za (Zc 3) (Za (Zc 5) Ze))))))
   (Zf (Qe ((Jv (Zr (Ya hr.units) (Zs Q2 (Zs Yn (Zc 1) Zi) Zi) Zi (Zz _)) (Kf (Zr (Ue hr.units) (Zc 6) (Ku Ze) (Zz _))))).pt (Zm (Zv 7 sc_l_drawn.nd (Xl (Zc 6) (Zs Q2 (Zs Yn (Zc 1) Zi) (Yd Wt (by rfl) z_len (by rfl) (Za (Zc 6) Ze))) (fun _ _=>rfl)))) Z8)
   (Zm (Zu (Qb (Za (Zc 4) (Za (Zc 6) (Za (Zc 7) Ze))))))))))))))
noncomputable def Mv:List D->M S:=Vr 1 8
  (Zy (P0 (Zt Gs (Zb (Zd 0) Zh)) (Kr 3 (Qp (Y1 1) (Qp (Y1 2) (Qp (Y1 3) K5)))))
   (Zy (Yy (tB (Zn Ys (Zn Qn (Zn Q6 (Zt Xh (Zb (Zd 0) (Zb ↑0 Zh))) ↑7) ↑2) ↑1)) (Z4 1 (Qf (Zb 1[0]! (Zb 1[1]! (Zb (C5 1[2]!) Zh))))) Qs)
   (Zy (V7 (V6 (Zn Qi (Jq (Zb (Zt Xh (Zb (Zd 0) (Zb ↑9 Zh))) Zh)) (Ma (Zd 0) (Xa ↑10) (Xa ↑21)))) (Y1 4) (Zy (Z4 5 (Zt Ga (Zb (Zd 4) (Zb 1[0]! (Zb 1[1]! (Zb (Zd 3) (Zb (Zd 2) Zh)))))))
   (Zy (Z4 6 (Zn Qn (Zn Q6 (Zd 4) ↑7) ↑13))
   (Zy (Z4 7 (Kv He (Zb (Zd 2) Zh)))
   (Zy (Z4 8 (Zt F_walk (Zb (Zd 1) (Zb (Zd 7) (Zb (Zd 3) (Zb (Zd 5) (Zb (Zd 6) Zh)))))))
   (Zy (Yy (tO (tN (tB (Zt Kc (Zb (Zd 8) Zh)))) (tB (Zn Wm (Zd 7) (Zd 2)))) (Qj (eC (.bl false))) Qs)
   (Yy (tB (Zn Wm (Zd 8) (Zt Gc (Zb (Zd 1) (Zb (Zd 2) (Zb (Zd 3) (Zb (Zd 5) (Zb (Zd 6) Zh)))))))) (Qj (eC (.bl false))) Qs)))))))
   (Qj (eC (.bl true))))))
def sc_law:FnScope ["_law_script","_law_hall_here","_law_people_here","_law_point_here","_law_cell_here","_law_step_here","_law_most","_law_handed","_law_found"] ["_law_script"] (Zk Mt):=⟨rfl,rfl,rfl,by decide +kernel,rfl,by decide +kernel,by decide +kernel⟩
def Zkr {f:Addr}{fd:FuncData} (F:Fun K "law" "law" Mt f fd) (c_l_drawn:Cl P w K mg base 5 "_law_drawn" ["_law_script"] Gs) (c_l_cell:Cl P w K mg base 1 "_law_cell" ["_law_script","_law_k"] Xh) (c_l_step:Cl P w K mg base 2 "_law_step" ["_law_cell_here","_law_width","_law_height","_law_point_here","_law_people_here"] Ga) (c_walk:Cl P w K mg base 7 "walk" ["hall","people","point","step","most"] F_walk) (c_l_is_walk:Cl P w K mg base 4 "_law_is_walk" ["_law_found"] Kc) (c_l_walk:Cl P w K mg base 6 "_law_walk" ["_law_hall_here","_law_people_here","_law_at","_law_go","_law_most"] Gc) (z_tuple:mg "tuple"=none) (z_reversed:mg "reversed"=none) (z_list:mg "list"=none):FnOk P w K mg base Xj 8 f fd ["_law_script"] (Ax K Mv):=
 Xk F sc_law rfl rfl fun cdv A outer s H E hr=>
  (Zf (Nv (Zw c_l_drawn (hr.mono (by decide)) (Za (Zc 0) Ze)) (Ud rfl (Qx (Qa 1 sc_law.nd) (Qx (Qa 2 sc_law.nd) (Qx (Qa 3 sc_law.nd) K6)))))
   (Zf (Qe (Zr (Ya hr.units) (Zs Q2 (Zs Yn (Zw c_l_cell (hr.mono (by decide)) (Za (Zc 0) (Za Zi Ze))) Zi) Zi) Zi (Zz _)) (Zm (Zv 1 sc_law.nd (Qb (Za (Zo (Zc 1)) (Za (Zo (Zc 1)) (Za (Zgq rfl z_tuple z_reversed (Zo (Zc 1))) Ze)))))) Z8)
   (Zf (Xz PassesOwn.never rfl (Ki (Zs Q0 (Ku (Za (Zw c_l_cell (hr.mono (by decide)) (Za (Zc 0) (Za Zi Ze))) Ze)) (K7 (Zc 0) (X5 Zi) (X5 Zi)))) (Qa 4 sc_law.nd) (Zf (Zv 5 sc_law.nd (Zw c_l_step (hr.mono (by decide)) (Za (Zc 4) (Za (Zo (Zc 1)) (Za (Zo (Zc 1)) (Za (Zc 3) (Za (Zc 2) Ze)))))))
   (Zf (Zv 6 sc_law.nd (Zs Q2 (Zs Yn (Zc 4) Zi) Zi))
   (Zf (Zv 7 sc_law.nd (Vw Zf7 (by rfl) z_list (by rfl) (Za (Zc 2) Ze)))
   (Zf (Zv 8 sc_law.nd (Zw c_walk (hr.mono (by decide)) (Za (Zc 1) (Za (Zc 7) (Za (Zc 3) (Za (Zc 5) (Za (Zc 6) Ze)))))))
   (Zf (Qe ((Kg (Ju (Q7 (Zw c_l_is_walk (hr.mono (by decide)) (Za (Zc 8) Ze)))) (Je (Zr (Ue hr.units) (Zc 7) (Zc 2) (Zz _))))).pt (Zm (Zu Wi)) Z8)
   (Zm (Qe (Zr (Ue hr.units) (Zc 8) (Zw c_l_walk (hr.mono (by decide)) (Za (Zc 1) (Za (Zc 2) (Za (Zc 3) (Za (Zc 5) (Za (Zc 6) Ze)))))) (Zz _)) (Zm (Zu Wi)) Z8))))))))
   (Zm (Zu Wi)))))
end
def all_mk {l:PySem.W.OpenLaw}{w:World}{K:PySem.W.Frag}{h:Heap}{mg:Str->Option Value}{fa:Addr}(X:K.In h)(G:h.Ns mainGlobals mg) (hfa:mg "law"=some (.ref fa))
  (d_common_divisor:Dm K mg "common_divisor" Ky)
  (d_amount:Dm K mg "amount" Tl)
  (d_below:Dm K mg "below" Bz)
  (d_is_whole:Dm K mg "is_whole" Nj)
  (d_is_from_to:Dm K mg "is_from_to" U7)
  (d_outward_face:Dm K mg "outward_face" V1)
  (d_faces:Dm K mg "faces" B0)
  (d_is_corner:Dm K mg "is_corner" Ka)
  (d_square_of:Dm K mg "square_of" W2)
  (d_whole_time_of:Dm K mg "whole_time_of" Vc)
  (d_time_to:Dm K mg "time_to" P8)
  (d_person_ahead:Dm K mg "person_ahead" V2)
  (d_face_ahead:Dm K mg "face_ahead" U8)
  (d_thing_at:Dm K mg "thing_at" Nk)
  (d_how_it_ends:Dm K mg "how_it_ends" Up)
  (d_pass_line:Dm K mg "pass_line" W3)
  (d_walk_on:Dm K mg "walk_on" Yi)
  (d_walk:Dm K mg "walk" Fe)
  (d_l_cell:Dm K mg "_law_cell" Tm)
  (d_l_numbers:Dm K mg "_law_numbers" W4)
  (d_l_lowest:Dm K mg "_law_lowest" Nl)
  (d_l_edges:Dm K mg "_law_edges" Jg)
  (d_l_out:Dm K mg "_law_out" B1)
  (d_l_side:Dm K mg "_law_side" Tn)
  (d_l_hall:Dm K mg "_law_hall" To)
  (d_l_part:Dm K mg "_law_part" Tp)
  (d_l_point:Dm K mg "_law_point" P9)
  (d_l_people:Dm K mg "_law_people" Nm)
  (d_l_step:Dm K mg "_law_step" Tq)
  (d_l_plus:Dm K mg "_law_plus" Tr)
  (d_l_times:Dm K mg "_law_times" Ra)
  (d_l_less:Dm K mg "_law_less" Ts)
  (d_l_over:Dm K mg "_law_over" Tt)
  (d_l_gap:Dm K mg "_law_gap" B2)
  (d_l_is_number:Dm K mg "_law_is_number" Uq)
  (d_l_is_point:Dm K mg "_law_is_point" U9)
  (d_l_is_walk:Dm K mg "_law_is_walk" W5)
  (d_l_faces:Dm K mg "_law_faces" Rb)
  (d_l_corner:Dm K mg "_law_corner" Nn)
  (d_l_till_line:Dm K mg "_law_till_line" Ur)
  (d_l_till:Dm K mg "_law_till" Uw)
  (d_l_met:Dm K mg "_law_met" B3)
  (d_l_hit:Dm K mg "_law_hit" B4)
  (d_l_lines:Dm K mg "_law_lines" Vt)
  (d_l_walk:Dm K mg "_law_walk" Ux)
  (d_l_drawn:Dm K mg "_law_drawn" Rc)
  (d_law:Dm K mg "law" Mt)
  {C_Floor C_Track:Addr}
  (ya_Floor:PySem.W.nsIn K mainGlobals "Floor"=some (some (.ref C_Floor)))
  (ya_Track:PySem.W.nsIn K mainGlobals "Track"=some (some (.ref C_Track)))
  (e_Floor_init:Mm K C_Floor "__init__" "Floor.__init__" Vl)
  (e_people_at:Mm K C_Floor "people_at" "Floor.people_at" W6)
  (e_faces_at:Mm K C_Floor "faces_at" "Floor.faces_at" Wa)
  (e_Track_init:Mm K C_Track "__init__" "Track.__init__" Wb)
  (e_line_ahead:Mm K C_Track "line_ahead" "Track.line_ahead" Wc)
  (e_place_at:Mm K C_Track "place_at" "Track.place_at" No)
  (e_time_at:Mm K C_Track "time_at" "Track.time_at" Re)
  (e_go_on:Mm K C_Track "go_on" "Track.go_on" B5)
  (e_turn_back:Mm K C_Track "turn_back" "Track.turn_back" W7)
  (og_Floor:PySem.W.plainGet K C_Floor Str.empty=true) (oh_Floor:PySem.W.hasDictIn K C_Floor=true) (oo_Floor:PySem.W.plainOver K C_Floor=true) (os_Floor:PySem.W.findIn K (.ref C_Floor) "__setattr__"=some (some (.builtin "object.__setattr__"))) (om_Floor:PySem.W.makesIn K C_Floor=true) (op_Floor:PySem.W.keepIn K (.ref C_Floor)=true)
  (on_Floor_hall:PySem.W.findIn K (.ref C_Floor) "hall"=some none)
  (on_Floor_known_faces:PySem.W.findIn K (.ref C_Floor) "known_faces"=some none)
  (on_Floor_by_square:PySem.W.findIn K (.ref C_Floor) "by_square"=some none)
  (og_Track:PySem.W.plainGet K C_Track Str.empty=true) (oh_Track:PySem.W.hasDictIn K C_Track=true) (oo_Track:PySem.W.plainOver K C_Track=true) (os_Track:PySem.W.findIn K (.ref C_Track) "__setattr__"=some (some (.builtin "object.__setattr__"))) (om_Track:PySem.W.makesIn K C_Track=true) (op_Track:PySem.W.keepIn K (.ref C_Track)=true)
  (on_Track_begin:PySem.W.findIn K (.ref C_Track) "begin"=some none)
  (on_Track_square:PySem.W.findIn K (.ref C_Track) "square"=some none)
  (on_Track_heading:PySem.W.findIn K (.ref C_Track) "heading"=some none)
  (on_Track_due:PySem.W.findIn K (.ref C_Track) "due"=some none)
  (on_Track_lap:PySem.W.findIn K (.ref C_Track) "lap"=some none)
  (z_abs:PySem.W.nsIn K mainGlobals "abs"=some none)
  (z_isinstance:PySem.W.nsIn K mainGlobals "isinstance"=some none)
  (z_int:PySem.W.nsIn K mainGlobals "int"=some none)
  (z_bool:PySem.W.nsIn K mainGlobals "bool"=some none)
  (z_any:PySem.W.nsIn K mainGlobals "any"=some none)
  (z_zip:PySem.W.nsIn K mainGlobals "zip"=some none)
  (z_max:PySem.W.nsIn K mainGlobals "max"=some none)
  (z_min:PySem.W.nsIn K mainGlobals "min"=some none)
  (z_len:PySem.W.nsIn K mainGlobals "len"=some none)
  (z_range:PySem.W.nsIn K mainGlobals "range"=some none)
  (z_sorted:PySem.W.nsIn K mainGlobals "sorted"=some none)
  (z_tuple:PySem.W.nsIn K mainGlobals "tuple"=some none)
  (z_all:PySem.W.nsIn K mainGlobals "all"=some none)
  (z_str:PySem.W.nsIn K mainGlobals "str"=some none)
  (z_list:PySem.W.nsIn K mainGlobals "list"=some none)
  (z_reversed:PySem.W.nsIn K mainGlobals "reversed"=some none)
  : ∃fd:FuncData,(∀(s:Shared) (v:Value),BindsTo s fd ⟨[v],[]⟩ [("_law_script", v)])/\∀base:Heap,K.In base->base.Ns mainGlobals mg->FnOk l.prog w K mg base Xj 8 fa fd ["_law_script"] (Ax K Mv):=by
 obtain⟨_,fdL,FL,mL⟩:=d_law.ex
 obtain⟨oc,od,kV,dc,pm,an,cd,ct,sl,rfl,lk,hcd⟩:=FL.ex
 cases hfa.symm.trans mL
 refine⟨PySem.W.fnOf "law" "law" (Ub Mt) (Xy Mt) (Zk Mt) .none kV dc pm an cd ct,fun s v=>.of_eq rfl,fun base _ _=>?_⟩
 have z_abs:=PySem.W.mg_none_of X G z_abs
 have z_isinstance:=PySem.W.mg_none_of X G z_isinstance
 have z_int:=PySem.W.mg_none_of X G z_int
 have z_bool:=PySem.W.mg_none_of X G z_bool
 have z_any:=PySem.W.mg_none_of X G z_any
 have z_zip:=PySem.W.mg_none_of X G z_zip
 have z_max:=PySem.W.mg_none_of X G z_max
 have z_min:=PySem.W.mg_none_of X G z_min
 have z_len:=PySem.W.mg_none_of X G z_len
 have z_range:=PySem.W.mg_none_of X G z_range
 have z_sorted:=PySem.W.mg_none_of X G z_sorted
 have z_tuple:=PySem.W.mg_none_of X G z_tuple
 have z_all:=PySem.W.mg_none_of X G z_all
 have z_str:=PySem.W.mg_none_of X G z_str
 have z_list:=PySem.W.mg_none_of X G z_list
 have z_reversed:=PySem.W.mg_none_of X G z_reversed
 have c_common_divisor:=N8 (P:=l.prog) (w:=w) (base:=base) d_common_divisor z_abs
 have c_amount:=Za4 d_amount c_common_divisor
 have c_below:=Zdq (P:=l.prog) (w:=w) (base:=base) d_below
 have c_is_whole:=C7 (P:=l.prog) (w:=w) (base:=base) d_is_whole z_isinstance z_int z_bool
 have c_is_from_to:=Lj d_is_from_to c_is_whole
 have c_outward_face:=R8 (P:=l.prog) (w:=w) (base:=base) d_outward_face
 have c_faces:=Zdr d_faces c_outward_face
 have c_is_corner:=B6 d_is_corner c_is_from_to z_any
 have c_square_of:=B8 (P:=l.prog) (w:=w) (base:=base) d_square_of
 have c_whole_time_of:=Rf (P:=l.prog) (w:=w) (base:=base) d_whole_time_of z_zip z_abs z_max
 have tcT:TkC K C_Track:=⟨⟨ya_Track,⟨og_Track,oh_Track,oo_Track,os_Track⟩⟩,on_Track_begin,on_Track_square,on_Track_heading,on_Track_due,on_Track_lap⟩
 have ocF:ObC K "Floor" C_Floor:=⟨ya_Floor,⟨og_Floor,oh_Floor,oo_Floor,os_Floor⟩⟩
 obtain⟨_,_,mM_Floor_init,FM_Floor_init⟩:=e_Floor_init.ex
 have bM_Floor_init:=FM_Floor_init.binds (ps:=["self","hall","people"]) fun _ _ _ _ _ _ us hl=>match us,hl with | [_,_,_],_=>rfl
 obtain⟨_,_,mM_people_at,FM_people_at⟩:=e_people_at.ex
 have bM_people_at:=FM_people_at.binds (ps:=["self","square"]) fun _ _ _ _ _ _ us hl=>match us,hl with | [_,_],_=>rfl
 obtain⟨_,_,mM_faces_at,FM_faces_at⟩:=e_faces_at.ex
 have bM_faces_at:=FM_faces_at.binds (ps:=["self","edge"]) fun _ _ _ _ _ _ us hl=>match us,hl with | [_,_],_=>rfl
 obtain⟨_,_,mM_Track_init,FM_Track_init⟩:=e_Track_init.ex
 have bM_Track_init:=FM_Track_init.binds (ps:=["self","begin","part","whole_time"]) fun _ _ _ _ _ _ us hl=>match us,hl with | [_,_,_,_],_=>rfl
 obtain⟨_,_,mM_line_ahead,FM_line_ahead⟩:=e_line_ahead.ex
 have bM_line_ahead:=FM_line_ahead.binds (ps:=["self"]) fun _ _ _ _ _ _ us hl=>match us,hl with | [_],_=>rfl
 obtain⟨_,_,mM_place_at,FM_place_at⟩:=e_place_at.ex
 have bM_place_at:=FM_place_at.binds (ps:=["self","time"]) fun _ _ _ _ _ _ us hl=>match us,hl with | [_,_],_=>rfl
 obtain⟨_,_,mM_time_at,FM_time_at⟩:=e_time_at.ex
 have bM_time_at:=FM_time_at.binds (ps:=["self","place"]) fun _ _ _ _ _ _ us hl=>match us,hl with | [_,_],_=>rfl
 obtain⟨_,_,mM_go_on,FM_go_on⟩:=e_go_on.ex
 have bM_go_on:=FM_go_on.binds (ps:=["self"]) fun _ _ _ _ _ _ us hl=>match us,hl with | [_],_=>rfl
 obtain⟨_,_,mM_turn_back,FM_turn_back⟩:=e_turn_back.ex
 have bM_turn_back:=FM_turn_back.binds (ps:=["self"]) fun _ _ _ _ _ _ us hl=>match us,hl with | [_],_=>rfl
 obtain⟨f_square_of,fd_square_of,g_square_of,b_square_of,k_square_of,m_square_of⟩:=c_square_of.ex
 obtain⟨T5,fd_amount,g_amount,b_amount,k_amount,m_amount⟩:=c_amount.ex
 obtain⟨Iw,fd_faces,g_faces,b_faces,k_faces,m_faces⟩:=c_faces.ex
 have gM_turn_back:=Aa (P:=l.prog) (w:=w) (mg:=mg) (base:=base) FM_turn_back tcT
 have gM_go_on:=Zdt (P:=l.prog) (w:=w) (mg:=mg) (base:=base) FM_go_on tcT
 have gM_Track_init:=Lk (P:=l.prog) (w:=w) (mg:=mg) (base:=base) FM_Track_init tcT g_square_of b_square_of k_square_of m_square_of z_abs
 have gM_line_ahead:=Lm (P:=l.prog) (w:=w) (mg:=mg) (base:=base) FM_line_ahead tcT
 have gM_place_at:=C9 (P:=l.prog) (w:=w) (mg:=mg) (base:=base) FM_place_at tcT mM_line_ahead gM_line_ahead bM_line_ahead g_amount b_amount k_amount m_amount
 have gM_time_at:=Fg (P:=l.prog) (w:=w) (mg:=mg) (base:=base) FM_time_at tcT mM_line_ahead gM_line_ahead bM_line_ahead g_amount b_amount k_amount m_amount
 have gM_people_at:=Ag (P:=l.prog) (w:=w) (mg:=mg) (base:=base) FM_people_at ocF on_Floor_by_square
 have gM_faces_at:=Db (P:=l.prog) (w:=w) (mg:=mg) (base:=base) FM_faces_at ocF on_Floor_hall on_Floor_known_faces g_faces b_faces k_faces m_faces
 have gM_Floor_init:=Lp (P:=l.prog) (w:=w) (mg:=mg) (base:=base) FM_Floor_init ocF on_Floor_hall on_Floor_known_faces on_Floor_by_square g_square_of b_square_of k_square_of m_square_of
 obtain⟨Mz,fd_time_to,F_time_to,m_time_to⟩:=d_time_to.ex
 have k_time_to:=F_time_to.kp
 have b_time_to:=F_time_to.binds (ps:=["across","upward","person"]) fun _ _ _ _ _ _ us hl=>match us,hl with | [_,_,_],_=>rfl
 have g_time_to:=Fh (P:=l.prog) (w:=w) (mg:=mg) (base:=base) F_time_to tcT mM_time_at gM_time_at bM_time_at
 obtain⟨Si,fd_below,g_below,b_below,k_below,m_below⟩:=c_below.ex
 obtain⟨f_person_ahead,fd_person_ahead,F_person_ahead,m_person_ahead⟩:=d_person_ahead.ex
 have k_person_ahead:=F_person_ahead.kp
 have b_person_ahead:=F_person_ahead.binds (ps:=["floor","across","upward","whole_time"]) fun _ _ _ _ _ _ us hl=>match us,hl with | [_,_,_,_],_=>rfl
 have g_person_ahead:=R9 (P:=l.prog) (w:=w) (mg:=mg) (base:=base) F_person_ahead tcT ocF mM_people_at gM_people_at bM_people_at g_time_to b_time_to k_time_to m_time_to g_below b_below k_below m_below
 obtain⟨f_face_ahead,fd_face_ahead,F_face_ahead,m_face_ahead⟩:=d_face_ahead.ex
 have k_face_ahead:=F_face_ahead.kp
 have b_face_ahead:=F_face_ahead.binds (ps:=["track","pair"]) fun _ _ _ _ _ _ us hl=>match us,hl with | [_,_],_=>rfl
 have g_face_ahead:=Lo (P:=l.prog) (w:=w) (mg:=mg) (base:=base) F_face_ahead tcT
 obtain⟨f_is_corner,fd_is_corner,g_is_corner,b_is_corner,k_is_corner,m_is_corner⟩:=c_is_corner.ex
 obtain⟨f_thing_at,fd_thing_at,F_thing_at,m_thing_at⟩:=d_thing_at.ex
 have k_thing_at:=F_thing_at.kp
 have b_thing_at:=F_thing_at.binds (ps:=["floor","across","upward","now"]) fun _ _ _ _ _ _ us hl=>match us,hl with | [_,_,_,_],_=>rfl
 have g_thing_at:=Dd (P:=l.prog) (w:=w) (mg:=mg) (base:=base) F_thing_at tcT ocF on_Floor_hall mM_line_ahead gM_line_ahead bM_line_ahead g_is_corner b_is_corner k_is_corner m_is_corner mM_faces_at gM_faces_at bM_faces_at g_face_ahead b_face_ahead k_face_ahead m_face_ahead
 have c_how_it_ends:=Tv (P:=l.prog) (w:=w) (base:=base) d_how_it_ends
 obtain⟨f_pass_line,fd_pass_line,F_pass_line,m_pass_line⟩:=d_pass_line.ex
 have k_pass_line:=F_pass_line.kp
 have b_pass_line:=F_pass_line.binds (ps:=["track","now","thing"]) fun _ _ _ _ _ _ us hl=>match us,hl with | [_,_,_],_=>rfl
 have g_pass_line:=Ae (P:=l.prog) (w:=w) (mg:=mg) (base:=base) F_pass_line tcT mM_turn_back gM_turn_back bM_turn_back mM_go_on gM_go_on bM_go_on
 obtain⟨f_whole_time_of,fd_whole_time_of,g_whole_time_of,b_whole_time_of,k_whole_time_of,m_whole_time_of⟩:=c_whole_time_of.ex
 obtain⟨f_how_it_ends,fd_how_it_ends,g_how_it_ends,b_how_it_ends,k_how_it_ends,m_how_it_ends⟩:=c_how_it_ends.ex
 obtain⟨f_walk_on,fd_walk_on,F_walk_on,m_walk_on⟩:=d_walk_on.ex
 have k_walk_on:=F_walk_on.kp
 have b_walk_on:=F_walk_on.binds (ps:=["floor","point","step","most"]) fun _ _ _ _ _ _ us hl=>match us,hl with | [_,_,_,_],_=>rfl
 have g_walk_on:=Fj (P:=l.prog) (w:=w) (mg:=mg) (base:=base) F_walk_on tcT ocF g_whole_time_of b_whole_time_of k_whole_time_of m_whole_time_of ⟨om_Track,mM_Track_init.at_,mM_Track_init.fn,op_Track⟩ gM_Track_init bM_Track_init (PySem.W.mg_of X G ya_Track) g_person_ahead b_person_ahead k_person_ahead m_person_ahead g_thing_at b_thing_at k_thing_at m_thing_at g_how_it_ends b_how_it_ends k_how_it_ends m_how_it_ends mM_place_at gM_place_at bM_place_at g_pass_line b_pass_line k_pass_line m_pass_line z_min z_len
 obtain⟨f_walk,fd_walk,F_walk,m_walk⟩:=d_walk.ex
 have k_walk:=F_walk.kp
 have b_walk:=F_walk.binds (ps:=["hall","people","point","step","most"]) fun _ _ _ _ _ _ us hl=>match us,hl with | [_,_,_,_,_],_=>rfl
 have g_walk:=Zdw (P:=l.prog) (w:=w) (mg:=mg) (base:=base) F_walk ⟨om_Floor,mM_Floor_init.at_,mM_Floor_init.fn,op_Floor⟩ gM_Floor_init bM_Floor_init (PySem.W.mg_of X G ya_Floor) g_walk_on b_walk_on k_walk_on m_walk_on
 have c_walk:Cl l.prog w K mg base 7 "walk" ["hall","people","point","step","most"] Law.F_walk:=⟨_,_,g_walk,b_walk,k_walk,m_walk⟩
 have c_l_cell:=Za7 (P:=l.prog) (w:=w) (base:=base) d_l_cell
 have c_l_numbers:=Ai (P:=l.prog) (w:=w) (base:=base) d_l_numbers z_abs z_range z_int
 have c_l_lowest:=De (P:=l.prog) (w:=w) (base:=base) d_l_lowest z_abs
 have c_l_edges:=Fk (P:=l.prog) (w:=w) (base:=base) d_l_edges z_range
 have c_l_out:=Zdx (P:=l.prog) (w:=w) (base:=base) d_l_out
 have c_l_side:=Za8 d_l_side c_l_out
 have c_l_hall:=Za9 d_l_hall c_l_edges c_l_numbers c_l_side z_len z_zip z_sorted z_tuple
 have c_l_part:=Zba d_l_part c_l_lowest
 have c_l_point:=Fl d_l_point c_l_numbers c_l_part
 have c_l_people:=Df d_l_people c_l_point
 have c_l_step:=Zbb d_l_step c_l_numbers c_l_lowest z_len z_range
 have c_l_plus:=Zbd d_l_plus c_l_lowest
 have c_l_times:=Fn d_l_times c_l_lowest
 have c_l_less:=Zbf (P:=l.prog) (w:=w) (base:=base) d_l_less
 have c_l_over:=Zbh d_l_over c_l_lowest
 have c_l_gap:=Zdz d_l_gap c_l_plus
 have c_l_is_number:=Ty d_l_is_number c_l_lowest z_isinstance z_tuple z_len z_int z_bool
 have c_l_is_point:=Lr d_l_is_point c_l_is_number z_isinstance z_tuple z_len z_all
 have c_l_is_walk:=Ak d_l_is_walk c_l_is_point z_isinstance z_tuple z_len z_str z_list z_all
 have c_l_faces:=Fo d_l_faces c_l_out
 have c_l_corner:=Dg (P:=l.prog) (w:=w) (base:=base) d_l_corner
 have c_l_till_line:=Tz d_l_till_line c_l_over c_l_gap
 have c_l_till:=Zbi d_l_till c_l_gap c_l_times c_l_over z_range
 have c_l_met:=Zd0 d_l_met c_l_till c_l_less
 have c_l_hit:=Zd1 d_l_hit c_l_faces z_int
 have c_l_lines:=Fp d_l_lines c_l_till_line c_l_less z_range
 have c_l_walk:=Zbj d_l_walk c_l_lines c_l_less c_l_met c_l_plus c_l_times c_l_corner c_l_gap c_l_hit z_range z_tuple z_len z_int
 have c_l_drawn:=Fq d_l_drawn c_l_numbers c_l_cell c_l_hall c_l_people c_l_point z_len
 exact Zkr FL c_l_drawn c_l_cell c_l_step c_walk c_l_is_walk c_l_walk z_tuple z_reversed z_list
theorem Mw {K:PySem.W.Frag}{H:Hp}:∀ns:List Int,Reps K H (ns.map D.int) (ns.map V.int)
 |[]=>Reps.nil
 |_::ns=>Reps.cons (rep_int.mpr rfl) (Mw ns)
def walk {l:PySem.W.OpenLaw}{q:Program}{loose:List Str}{XP:(Str->Option Value)->Heap->Prop}{YP:World->Heap->Prop}{d:DefRec}{K:Params->PySem.W.Frag}(hn:l.most=some 63)(hdf:d.params.defaults=[])(hT:∀ns:List Int,ns.length<=63->Mv [.lst (ns.map D.int)]=.ok (.im (.bl true)))(hY:∀(w:World) (h:Heap),YP w h->(K w.params).In h)
  (F:∀(w:World) (mg:Str->Option Value) (fa:Addr) (h:Heap),(K w.params).In h->h.Ns mainGlobals mg->mg d.name=some (.ref fa) ->
   ∃fd:FuncData,(∀(s:Shared) (u:Value),BindsTo s fd ⟨[u],[]⟩ [("_law_script", u)])/\∀base:Heap,(K w.params).In base->base.Ns mainGlobals mg->FnOk l.prog w (K w.params) mg base Xj 8 fa fd ["_law_script"] (Ax (K w.params) Mv)):
  PySem.W.WalkO q loose XP YP l.row.toRowW d [] (fun f vs=>PySem.call f vs):=
 L2.Zf3 (n:=63) (k:=8) (x:="_law_script") (CX:=fun w=>Xj) (sp:=fun w=>Ax (K w.params) Mv) hn (by decide) hdf ⟨rfl,by decide,by decide⟩ hY F
  (fun w H a ns hl _ hS=>⟨H,[.lst (ns.map D.int)],.im (.bl true),Same.refl _,Reps.cons (rep_lst.mpr ⟨a,ns.map V.int,rfl,hS,Mw ns⟩) Reps.nil,hT ns hl,fun v Hf' H' _ r=>(rep_bl (K:=K w.params) (H:=Hf')).mp r⟩) fun _ _ _ _ _ z=>z
def Zgv {k:Nat}(h:k<=900):10 ^ k<2 ^ 4000:=by
 have h1:(10:Nat) ^ k<=16 ^ k:=Nat.pow_le_pow_left (by decide) k
 have h2:(16:Nat) ^ k=2 ^ (4*k):=by rw[show(16:Nat)=2 ^ 4 from rfl,<-Nat.pow_mul]
 have h3:(2:Nat) ^ (4*k)<2 ^ 4000:=Nat.pow_lt_pow_right (by decide) (by lia)
 lia
def Qv {x:Int}{k:Nat}(h:x.natAbs<=10 ^ k)(hk:k<=900):sm x=true:=sm_iff.mpr (Nat.lt_of_le_of_lt h (Zgv hk))
def Qg {x y:Int}{j k:Nat}(hx:x.natAbs<=10 ^ j)(hy:y.natAbs<=10 ^ k):(x*y).natAbs<=10 ^ (j+k):=by
 rw[Int.natAbs_mul,Nat.pow_add]
 exact Nat.mul_le_mul hx hy
def Zgw {x y:Int}{k:Nat}(hx:x.natAbs<=10 ^ k)(hy:y.natAbs<=10 ^ k):(x+y).natAbs<=10 ^ (k+1):=by
 have:=Int.natAbs_add_le x y
 rw[Nat.pow_succ]
 lia
def Vp {x y:Int}{k:Nat}(hx:x.natAbs<=10 ^ k)(hy:y.natAbs<=10 ^ k):(x-y).natAbs<=10 ^ (k+1):=by
 have:=Int.natAbs_sub_le x y
 rw[Nat.pow_succ]
 lia
def Zks (n:Nat):Sx 0 n=(List.range n).map fun(k:Nat)=>D.int (k:Int):=by
 unfold Sx;simp
def Zkt {fs:Zl->M (List D)}{sd:Zl}{n:Nat}(h:fs sd=.ok [.int (n:Int)])(hn:n<=1000):Yf fs sd=.ok ((List.range n).map fun(k:Nat)=>D.int (k:Int)):=by
 simp[Yf,h,Zks]
 lia
def Jp {ds:List D}(h:ds.length<=1000000):few ds=true:=decide_eq_true h
def Zku (m:Nat)(f:Zl->M O)(a0:D):Vr 1 m f [a0]=R4 (f ([some (S.im a0)]++List.replicate m none)):=rfl
def Mx (m:Nat)(f:Zl->M O)(a0 a1:D):Vr 2 m f [a0,a1]=R4 (f ([some (S.im a0),some (S.im a1)]++List.replicate m none)):=rfl
def Zbu (m:Nat)(f:Zl->M O)(a0 a1 a2:D):Vr 3 m f [a0,a1,a2]=R4 (f ([some (S.im a0),some (S.im a1),some (S.im a2)]++List.replicate m none)):=rfl
def Zbk (m:Nat)(f:Zl->M O)(a0 a1 a2 a3:D):Vr 4 m f [a0,a1,a2,a3]=R4 (f ([some (S.im a0),some (S.im a1),some (S.im a2),some (S.im a3)]++List.replicate m none)):=rfl
def Zkv (m:Nat)(f:Zl->M O)(a0 a1 a2 a3 a4:D):Vr 5 m f [a0,a1,a2,a3,a4]=R4 (f ([some (S.im a0),some (S.im a1),some (S.im a2),some (S.im a3),some (S.im a4)]++List.replicate m none)):=rfl
def Zgx {f g:Zl->M O}{sd sd':Zl}(h:f sd=.ok (.nx sd')):Zy f g sd=g sd':=by unfold Zy;rw[h];rfl
def Qt {f g:Zl->M O}{sd:Zl}{s:S}(h:f sd=.ok (.rt s)):Zy f g sd=.ok (.rt s):=by unfold Zy;rw[h];rfl
def Yt {fi:Zl->M (List D)}{g:D->Zl->M Zl}{f:Zl->M O}{sd:Zl}{ds:List D}(h:fi sd=.ok ds):V7 fi g f sd=Y6 g f ds sd:=by unfold V7;rw[h];rfl
def go {f g:Zl->M O}{sd sd':Zl}{r:M O}(h:f sd=.ok (.nx sd'))(k:g sd'=r):Zy f g sd=r:=(Zgx h).trans k
def Z3 {r:M O}{s:S}(h:r=.ok (.rt s)):R4 r=.ok s:=by rw[h];rfl
def Ji (i:Nat)(sd:Zl):Sz i (Sy Zh) sd=.ok (.nx (sd.set i (some (.ow [])))):=by
 unfold Sz Sy Zh
 rw[M.bind_ok,Jp (Nat.zero_le _),if_pos rfl,M.bind_ok]
def Zne {n:Nat}(h:n<=10 ^ 30):n<2 ^ 4000:=by
 have h1:(10:Nat) ^ 30<=16 ^ 30:=Nat.pow_le_pow_left (by decide) 30
 have h2:(16:Nat) ^ 30=2 ^ 120:=by rw[show(16:Nat)=2 ^ 4 from rfl,<-Nat.pow_mul]
 have h3:(2:Nat) ^ 120<2 ^ 4000:=Nat.pow_lt_pow_right (by decide) (by decide)
 lia
def Dh {x:Int}(h:-1000000000000000000000000000000<=x)(h':x<=1000000000000000000000000000000):sm x=true:=sm_iff.mpr (Zne (by have:(10:Nat) ^ 30=1000000000000000000000000000000:=rfl;lia))
def gT {i j:Int}(hi:sm i=true)(hj:sm j=true):Qc (.int i) (.int j)=.ok (.int (i*j)):=by
 show(if(sm i&&sm j)=true then _ else _)=_
 rw[hi,hj];rfl
def Lc {i j:Int}(hj:0<j)(hs:sm j=true):Q6 (.int i) (.int j)=.ok (.int (i/j)):=by
 show(if(j != 0&&sm j)=true then M.ok (D.int (i.fdiv j)) else _)=_
 have:(j != 0)=true:=by simp;lia
 rw[this,hs,Int.fdiv_eq_ediv_of_nonneg i (by lia)];rfl
def gM {i j:Int}(hj:0<j):Qn (.int i) (.int j)=.ok (.int (i%j)):=by
 show(if(j != 0)=true then M.ok (D.int (i.fmod j)) else _)=_
 have:(j != 0)=true:=by simp;lia
 rw[this,Int.fmod_eq_emod_of_nonneg i (by lia)];rfl
def Zkw {a b:Int}{A B:Int}(ha:0<=a)(ha':a<=A)(hb:0<=b)(hb':b<=B):0<=a*b/\a*b<=A*B:=⟨Int.mul_nonneg ha hb,Int.mul_le_mul ha' hb' hb (by lia)⟩
def Zx {i:Nat}{f:Zl->M D}{sd:Zl}{d:D}(h:f sd=.ok d):Z4 i f sd=.ok (.nx (sd.set i (some (.im d)))):=by unfold Z4;rw[h];rfl
def Zq {F:List D->M S}{fs:Zl->M (List D)}{sd:Zl}{ds:List D}{s:S}{d:D}(h1:fs sd=.ok ds)(h2:F ds=.ok s)(h3:s.toD=.ok d):Zt F fs sd=.ok d:=by
 unfold Zt;rw[h1,M.bind_ok,h2];exact h3
def a1 {fa:Zl->M D}{sd:Zl}{d:D}(h:fa sd=.ok d):Zb fa Zh sd=.ok [d]:=by unfold Zb Zh;rw[h];rfl
def aC {fa:Zl->M D}{fr:Zl->M (List D)}{sd:Zl}{d:D}{ds:List D}(h:fa sd=.ok d)(h2:fr sd=.ok ds):Zb fa fr sd=.ok (d::ds):=by unfold Zb;rw[h,M.bind_ok,h2];rfl
def Z1 {f:Zl->M D}{sd:Zl}{d:D}(h:f sd=.ok d):Qj f sd=.ok (.rt (.im d)):=by unfold Qj;rw[h];rfl
def Xv {g:List D->M D}{fs:Zl->M (List D)}{sd:Zl}{ds:List D}{r:M D}(h1:fs sd=.ok ds)(h2:g ds=r):Kv g fs sd=r:=by unfold Kv;rw[h1];exact h2
def Yu {g:D->Zl->M Zl}{f:Zl->M O}{d:D}{r:List D}{sd sd1 sd2:Zl}(h1:g d sd=.ok sd1)(h2:f sd1=.ok (.nx sd2)):Y6 g f (d::r) sd=Y6 g f r sd2:=by
 simp only[Y6,h1,h2,M.bind_ok]
def Qd {α:Type}(x:α)(r:List α):Sr (x::r) 0=some x:=by
 have:=Ke (xs:=x::r) (j:=0) (v:=x) rfl
 exact this
def Qq {α:Type}(x y:α)(r:List α):Sr (x::y::r) 1=some y:=by
 have:=Ke (xs:=x::y::r) (j:=1) (v:=y) rfl
 exact this
def Fs {x:Int}(h:-1000000000<=x)(h':x<=1000000000):sm x=true:=Dh (by lia) (by lia)
def Z0 {c:Zl->M Bool}{f:Zl->M O}{sd:Zl}(h:c sd=.ok false):Yy c f Qs sd=.ok (.nx sd):=by unfold Yy;rw[h];rfl
def Na {f g:Zl->M Bool}{sd:Zl}(h1:f sd=.ok false)(h2:g sd=.ok false):DL.tO f g sd=.ok false:=by unfold DL.tO;rw[h1];exact h2
def Rj {f:Zl->M Bool}{sd:Zl}(h:f sd=.ok true):DL.tN f sd=.ok false:=by unfold DL.tN;rw[h];rfl
def Z7 {f:Zl->M D}{sd:Zl}{b:Bool}(h:f sd=.ok (.bl b)):DL.tB f sd=.ok b:=by unfold DL.tB;rw[h];rfl
def Zg {g:D->D->M D}{fa fb:Zl->M D}{sd:Zl}{x y:D}{r:M D}(h1:fa sd=.ok x)(h2:fb sd=.ok y)(h3:g x y=r):Zn g fa fb sd=r:=by unfold Zn;rw[h1,M.bind_ok,h2,M.bind_ok,h3]
def Al {f g:Zl->M D}{sd:Zl}{r:M D}(h1:f sd=.ok (.bl true))(h2:g sd=r):R1 f g sd=r:=by unfold R1;rw[h1,M.bind_ok];exact h2
def Z6 {c:Zl->M Bool}{f g:Zl->M O}{sd:Zl}{r:M O}(h:c sd=.ok true)(k:f sd=r):Yy c f g sd=r:=by unfold Yy;rw[h];exact k
def Ih {c:Zl->M Bool}{f g:Zl->M O}{sd:Zl}{r:M O}(h:c sd=.ok false)(k:g sd=r):Yy c f g sd=r:=by unfold Yy;rw[h];exact k
def Zgy {f g:Zl->M Bool}{sd:Zl}(h1:f sd=.ok true):DL.tO f g sd=.ok true:=by unfold DL.tO;rw[h1];rfl
def Zd2 {f g:Zl->M Bool}{sd:Zl}{r:M Bool}(h1:f sd=.ok false)(h2:g sd=r):DL.tO f g sd=r:=by unfold DL.tO;rw[h1];exact h2
def Zkx {f:Zl->M Bool}{sd:Zl}{b:Bool}(h:f sd=.ok b):DL.tN f sd=.ok (!b):=by unfold DL.tN;rw[h];rfl
def Sa {f g:Zl->M Bool}{sd:Zl}(h1:f sd=.ok false):DL.tA f g sd=.ok false:=by unfold DL.tA;rw[h1];rfl
def V3 {f g:Zl->M Bool}{sd:Zl}{r:M Bool}(h1:f sd=.ok true)(h2:g sd=r):DL.tA f g sd=r:=by unfold DL.tA;rw[h1];exact h2
def Znf {f g:Zl->M D}{sd:Zl}(h1:f sd=.ok (.bl false)):R1 f g sd=.ok (.bl false):=by unfold R1;rw[h1];rfl
def Jb {c:Zl->M Bool}{f g:Zl->M D}{sd:Zl}{r:M D}(h:c sd=.ok true)(k:f sd=r):Uo c f g sd=r:=by unfold Uo;rw[h];exact k
def Jl {c:Zl->M Bool}{f g:Zl->M D}{sd:Zl}{r:M D}(h:c sd=.ok false)(k:g sd=r):Uo c f g sd=r:=by unfold Uo;rw[h];exact k
def Ls {α:Type}(x y z:α)(r:List α):Sr (x::y::z::r) 2=some z:=Ke (xs:=x::y::z::r) (j:=2) (v:=z) rfl
def Zo7 {α:Type}(x y z u:α)(r:List α):Sr (x::y::z::u::r) 3=some u:=Ke (xs:=x::y::z::u::r) (j:=3) (v:=u) rfl
def Zd3:Zl->M O:=(Zy (Z4 3 (Zn Qn (Zn Qi (Zn Qi (Zn Qc (Zd 3) (Zn Qi (Zn Qn (Zd 3) ↑65521) ↑40487)) (Zn Qc ↑7 (Zd 5))) ↑5) ↑1999999973))
   (Zy (Vg 2 (Zn Yj (Jq (Zb (Zd 3) (Zb (Zn Qn (Zd 4) ↑1000000) Zh))) (Kv R0 (Zb (Zn Pt (Zd 4) ↑0) Zh))))
   (Z4 4 (Zn Q6 (Zd 4) ↑1000000))))
def Zgz (d:Int):Prop:=0<=d/\d<1999999973
def Zg0 (s0 s1:Option S)(ds:List D)(hd:ds.length<=1000)(N R K:Int)(hN:0<=N)(hN':N<1999999973)(hK:0<=K)(hK':K<=1000):
  ∃d N':Int,0<=N'/\N'<1999999973/\Zgz d/\Zd3 [s0,s1,some (.ow ds),some (.im (.int N)),some (.im (.int R)),some (.im (.int K))] =
   .ok (.nx [s0,s1,some (.ow (ds++[.int d])),some (.im (.int N')),some (.im (.int (R/1000000))),some (.im (.int K))]):=by
 have q1:0<=N%65521:=Int.emod_nonneg _ (by decide)
 have q2:N%65521<65521:=Int.emod_lt_of_pos _ (by decide)
 have g1:=gM (i:=N) (j:=65521) (by decide)
 have g2:=gT (i:=N) (j:=N%65521+40487) (Dh (by lia) (by lia)) (Dh (by lia) (by lia))
 have g3:=gT (i:=7) (j:=K) (Dh (by lia) (by lia)) (Dh (by lia) (by lia))
 have g4:=gM (i:=N*(N%65521+40487)+7*K+5) (j:=1999999973) (by decide)
 have e1:Z4 3 (Zn Qn (Zn Qi (Zn Qi (Zn Qc (Zd 3) (Zn Qi (Zn Qn (Zd 3) ↑65521) ↑40487)) (Zn Qc ↑7 (Zd 5))) ↑5) ↑1999999973)
   [s0,s1,some (.ow ds),some (.im (.int N)),some (.im (.int R)),some (.im (.int K))] =
   .ok (.nx [s0,s1,some (.ow ds),some (.im (.int ((N*(N%65521+40487)+7*K+5)%1999999973))),some (.im (.int R)),some (.im (.int K))]):=by
  simp[Z4,Zn,Zd,eC,g1,Qi,g2,g3,g4]
 have b1:0<=(N*(N%65521+40487)+7*K+5)%1999999973:=Int.emod_nonneg _ (by decide)
 have b2:(N*(N%65521+40487)+7*K+5)%1999999973<1999999973:=Int.emod_lt_of_pos _ (by decide)
 generalize (N*(N%65521+40487)+7*K+5)%1999999973=N' at e1 b1 b2
 have f1:few ds=true:=Jp (by lia)
 have g5:=gM (i:=R) (j:=1000000) (by decide)
 have g8:=Lc (i:=R) (j:=1000000) (by decide) (Dh (by decide) (by decide))
 have f2:few [D.int N',D.int (R%1000000)]=true:=Jp (by simp)
 by_cases hR:R > 0
 ·have p1:0<=R%1000000:=Int.emod_nonneg _ (by decide)
  have p2:R%1000000<1000000:=Int.emod_lt_of_pos _ (by decide)
  refine⟨R%1000000,N',b1,b2,⟨p1,by lia⟩,go e1 ?_⟩
  simp[Zy,Vg,Zn,Jq,Zb,Zh,Zd,eC,g5,f2,Kv,Pt,F9,hR,R0,Yj,Qq,f1,Z4,g8]
 ·refine⟨N',N',b1,b2,⟨b1,b2⟩,go e1 ?_⟩
  simp[Zy,Vg,Zn,Jq,Zb,Zh,Zd,eC,g5,f2,Kv,Pt,F9,hR,R0,Yj,Qd,f1,Z4,g8]
theorem Ii (s0 s1:Option S):∀(ks:List Nat) (ds:List Int) (N R:Int) (v:Option S),ds.length+ks.length<=1000->(∀k∈ks,k<=1000)->0<=N->N<1999999973->(∀d∈ds,Zgz d) ->
  ∃(es:List Int) (N' R':Int) (v':Option S),es.length=ds.length+ks.length/\(∀d∈es,Zgz d)/\Y6 (Y1 5) Zd3 (ks.map fun(k:Nat)=>D.int (k:Int)) [s0,s1,some (.ow (ds.map D.int)),some (.im (.int N)),some (.im (.int R)),v] =
   .ok (.nx [s0,s1,some (.ow (es.map D.int)),some (.im (.int N')),some (.im (.int R')),v'])
 |[],ds,N,R,v,_,_,_,_,hd=>⟨ds,N,R,v,by simp,hd,by simp[Y6]⟩
 |k::ks,ds,N,R,v,h,hk,hN,hN',hd=>by
  rw[List.length_cons] at h
  have hk0:=hk k List.mem_cons_self
  obtain⟨d,N1,h1,h2,h3,e⟩:=Zg0 s0 s1 (ds.map D.int) (by simp;lia) N R (k:Int) hN hN' (by lia) (by lia)
  obtain⟨es,N',R',v',hl,ho,ih⟩:=Ii s0 s1 ks (ds++[d]) N1 (R/1000000) (some (.im (.int (k:Int)))) (by simp;lia) (fun k hk'=>hk k (List.mem_cons_of_mem _ hk')) h1 h2 (fun d' hd'=>by
   rcases List.mem_append.mp hd' with q|q
   ·exact hd d' q
   ·have:d'=d:=by simpa using q
    rw[this];exact h3)
  refine⟨es,N',R',v',by rw[hl];simp;lia,ho,?_⟩
  rw[List.map_append,List.map_cons,List.map_nil] at ih
  rw[<-ih]
  simp[Y6,Y1,e]
def Gu (c:Int)(n:Nat)(hn:n<=1000):∃es:List Int,es.length=n/\(∀d∈es,Zgz d)/\Ye [.int c,.int (n:Int)]=.ok (.ow (es.map D.int)):=by
 have g1:=gM (i:=c) (j:=1999999973) (by decide)
 have q1:0<=c%1999999973:=Int.emod_nonneg _ (by decide)
 have q2:c%1999999973<1999999973:=Int.emod_lt_of_pos _ (by decide)
 have g2:=gT (i:=c%1999999973+31) (j:=765432101) (Dh (by lia) (by lia)) (Dh (by lia) (by lia))
 have g3:=gM (i:=(c%1999999973+31)*765432101) (j:=1999999973) (by decide)
 have g4:Zf6 (.int 10) (.int 18)=.ok (.int 1000000000000000000):=rfl
 have b1:0<=(c%1999999973+31)*765432101%1999999973:=Int.emod_nonneg _ (by decide)
 have b2:(c%1999999973+31)*765432101%1999999973<1999999973:=Int.emod_lt_of_pos _ (by decide)
 have e2:Z4 3 (Zn Qn (Zn Qc (Zn Qi (Zn Qn (Zd 0) ↑1999999973) ↑31) ↑765432101) ↑1999999973) [some (.im (.int c)),some (.im (.int (n:Int))),some (.ow []),none,none,none] =
   .ok (.nx [some (.im (.int c)),some (.im (.int (n:Int))),some (.ow []),some (.im (.int ((c%1999999973+31)*765432101%1999999973))),none,none]):=by
  simp[Z4,Zn,Zd,eC,g1,Qi,g2,g3]
 generalize (c%1999999973+31)*765432101%1999999973=N at e2 b1 b2
 obtain⟨R,e4⟩:∃R:Int,(Yy (DL.tO (DL.tB (Zn Bj (Zd 0) ↑0)) (DL.tB (Zn Zmv (Zd 0) (Zn Zf6 ↑10 ↑18)))) (Z4 4 (Kv G0 (Zb (Zd 0) Zh))) Qs) [some (.im (.int c)),some (.im (.int (n:Int))),some (.ow []),some (.im (.int N)),some (.im (.int 0)),none] =
   .ok (.nx [some (.im (.int c)),some (.im (.int (n:Int))),some (.ow []),some (.im (.int N)),some (.im (.int R)),none]):=by
  by_cases h1:c<0
  ·exact⟨-c,by simp[Yy,DL.tO,DL.tB,Zn,Zd,eC,Bj,F9,h1,asB,Z4,Kv,G0,Zb,Zh]⟩
  ·by_cases h2:1000000000000000000<=c
   ·exact⟨c,by simp[Yy,DL.tO,DL.tB,Zn,Zd,eC,Bj,Zmv,F9,h1,h2,g4,asB,Z4,Kv,G0,Zb,Zh]⟩
   ·exact⟨0,by simp[Yy,DL.tO,DL.tB,Zn,Zd,eC,Bj,Zmv,F9,h1,h2,g4,asB,Z4,Kv,G0,Zb,Zh,Qs]⟩
 obtain⟨es,N',R',v',hl,ho,e5⟩:=Ii (some (.im (.int c))) (some (.im (.int (n:Int)))) (List.range n) [] N R none (by simp;lia) (fun k hk=>by have:=List.mem_range.mp hk;lia) b1 b2 (fun d hd=>by simp at hd)
 refine⟨es,by simpa using hl,ho,?_⟩
 have r1:∀s0 s,Yf (Zb (Zd 1) Zh) (s0::some (.im (.int (n:Int)))::s)=.ok ((List.range n).map fun(k:Nat)=>D.int (k:Int)):=fun s0 s=>Zkt (by simp[Zb,Zh,Zd]) hn
 exact(Mx _ _ _ _).trans (Z3 (go (Ji 2 _) (go e2 (go rfl (go e4 (go ((Yt (r1 _ _)).trans e5) rfl))))))
def X3 {fa fb:Zl->M D}{sd:Zl}{a b:D}(h1:fa sd=.ok a)(h2:fb sd=.ok b):Qf (Zb fa (Zb fb Zh)) sd=.ok (.tup [a,b]):=by
 unfold Qf;rw[aC h1 (a1 h2)];rfl
def Wf {fs:Zl->M (List D)}{sd:Zl}{ds:List D}(h:fs sd=.ok ds)(hf:few ds=true):Jq fs sd=.ok (.lst ds):=by
 unfold Jq
 rw[h,M.bind_ok,if_pos hf]
def Y8 {x y:D}(h:x.dep<=60):Ys x y=.ok (.bl (D.eq x y)):=if_pos h
def K9 {x y:D}(h:x.dep<=60):Wm x y=.ok (.bl (!D.eq x y)):=if_pos h
def Qy (a b:Int):Ys (.int a) (.int b)=.ok (.bl (a==b)):=by rw[Y8 (by simp[D.dep])];simp only[D.eq]
def Zky {f g:Zl->M Bool}{sd:Zl}{a b:Bool}(h1:f sd=.ok a)(h2:g sd=.ok b):DL.tO f g sd=.ok (a||b):=by
 cases a
 ·exact Zd2 h1 h2
 ·exact Zgy h1
def Zkz {f g:Zl->M Bool}{sd:Zl}{a b:Bool}(h1:f sd=.ok a)(h2:g sd=.ok b):DL.tA f g sd=.ok (a&&b):=by
 cases a
 ·exact Sa h1
 ·exact V3 h1 h2
def Zd4 {f g:Zl->M D}{sd:Zl}{a b:Bool}(h1:f sd=.ok (.bl a))(h2:g sd=.ok (.bl b)):R1 f g sd=.ok (.bl (a&&b)):=by
 cases a
 ·exact Znf h1
 ·exact Al h1 h2
theorem Ul {n:Nat}:∀{l:List D},(∀d∈l,d.dep<=n)->D.deps l<=n
 |[],_=>by simp[D.deps]
 |a::r,h=>by
  simp only[D.deps]
  have:=h a (by simp)
  have:=Ul (l:=r) fun d hd=>h d (by simp[hd])
  lia
def Gd {i:Nat}{f:Zl->M D}{sd:Zl}{ds:List D}{d:D}(h:sd[i]?=some (some (.ow ds)))(hf:f sd=.ok d)(hl:ds.length<=1000):Vg i f sd=.ok (.nx (sd.set i (some (.ow (ds++[d]))))):=by
 unfold Vg
 rw[h]
 dsimp only
 rw[hf,M.bind_ok,Jp (by lia),if_pos rfl]
def T1 {f:Zl->M D}{sd:Zl}{ds:List D}(h:f sd=.ok (.tup ds)):V6 f sd=.ok ds:=by
 unfold V6
 rw[h]
 rfl
def Di {f:Zl->M D}{sd:Zl}{ds:List D}(h:f sd=.ok (.lst ds)):V6 f sd=.ok ds:=by
 unfold V6
 rw[h]
 rfl
theorem Zd5 {α:Type}{gt:D->Zl->M Zl}{fe:Zl->M D}{sd0:Zl}(e g:α->D):∀l:List α,(∀a∈l,∃sd1,gt (e a) sd0=.ok sd1/\fe sd1=.ok (g a))->V8 gt fe sd0 (l.map e)=.ok (l.map g)
 |[],_=>rfl
 |a::l,h=>by
  obtain⟨sd1,h1,h2⟩:=h a (by simp)
  rw[List.map_cons,List.map_cons]
  simp only[V8,h1,h2,Zd5 e g l fun b hb=>h b (by simp[hb])]
def Zd6 {xs ys:List D}(h:xs.length+ys.length<=1000):Qi (.lst xs) (.lst ys)=.ok (.lst (xs++ys)):=by
 show(if few (xs++ys) then M.ok (D.lst (xs++ys)) else .bad)=_
 rw[Jp (by rw[List.length_append];lia),if_pos rfl]
def Dj {g l:Int}(hg:0<=g)(hl:0<l):Int.gcd l (g%l)=Int.gcd g l:=by
 obtain⟨g',rfl⟩:=Int.eq_ofNat_of_zero_le hg
 obtain⟨l',rfl⟩:=Int.eq_ofNat_of_zero_le (Int.le_of_lt hl)
 rw[<-Int.natCast_emod]
 simp only[Int.gcd,Int.natAbs_natCast]
 rw[Nat.gcd_comm l',<-Nat.gcd_rec,Nat.gcd_comm]
def Zbl {g:Int}(hg:0<=g):((Int.gcd g 0:Nat):Int)=g:=by
 rw[Int.gcd_zero_right];lia
theorem Ij (x y:Option S):∀(n:Nat) (g l:Int) (r:Option S),0<=g->0<=l->l.toNat<n ->
  ∃r',Yr (DL.tB (Zn Wm (Zd 3) ↑0)) (Zy (Z4 4 (Zn Qn (Zd 2) (Zd 3))) (Zy (Z4 2 (Zd 3)) (Z4 3 (Zd 4)))) n [x,y,some (.im (.int g)),some (.im (.int l)),r] =
   .ok (.nx [x,y,some (.im (.int (Int.gcd g l:Nat))),some (.im (.int 0)),r'])
 |0,_,_,_,_,_,h=>by lia
 |n+1,g,l,r,hg,hl,h=>by
  by_cases hz:l=0
  ·subst hz
   refine⟨r,?_⟩
   simp[Yr,DL.tB,Zn,Zd,eC,Wm,D.dep,D.eq,asB,Zbl hg]
   lia
  ·have hp:0<l:=by lia
   have hm0:0<=g%l:=Int.emod_nonneg g (by lia)
   have hm1:g%l<l:=Int.emod_lt_of_pos g hp
   obtain⟨r',e⟩:=Ij x y n l (g%l) (some (.im (.int (g%l)))) hl hm0 (by lia)
   refine⟨r',?_⟩
   rw[Dj hg hp] at e
   rw[<-e]
   simp[Yr,DL.tB,Zn,Zd,eC,Wm,D.dep,D.eq,asB,Zy,Z4,gM hp,hz]
def ab (a:Int):(if a<0 then -a else a)=(a.natAbs:Int):=by split<;>lia
def T2 (a:Int):G0 [.int a]=.ok (.int (a.natAbs:Int)):=by
 show M.ok (D.int (if a<0 then -a else a))=_
 rw[ab]
def Zo8 (a b:Int):Jh [.int a,.int b]=.ok (.im (.int (Int.gcd a b:Nat))):=by
 obtain⟨r',e⟩:=Ij (some (.im (.int a))) (some (.im (.int b))) (b.natAbs+1) a.natAbs b.natAbs none (by lia) (by lia) (by lia)
 have e2:=Pw (c:=DL.tB (Zn Wm (Zd 3) ↑0)) (f:=Zy (Z4 4 (Zn Qn (Zd 2) (Zd 3))) (Zy (Z4 2 (Zd 3)) (Z4 3 (Zd 4)))) (n:=b.natAbs+1) (sd:=[some (.im (.int a)),some (.im (.int b)),some (.im (.int a.natAbs)),some (.im (.int b.natAbs)),none]) (by rw[e];simp)
 rw[e] at e2
 refine(Mx _ _ _ _).trans (Z3 (go (Zx (Xv (a1 rfl) (T2 a))) (go (Zx (Xv (a1 rfl) (T2 b))) (go e2 (Z1 ?_)))))
 show M.ok (D.int ((Int.gcd (a.natAbs:Int) (b.natAbs:Int):Nat):Int))=_
 simp[Int.gcd]
def Dk {f:Zl->M D}{i j:Nat}{sd:Zl}{a b:D}(h:f sd=.ok (.tup [a,b])):P0 f (Kr 2 (Qp (Y1 i) (Qp (Y1 j) K5))) sd=.ok (.nx ((sd.set i (some (.im a))).set j (some (.im b)))):=by
 unfold P0
 rw[h]
 rfl
def nD (p q:Int):D:=.tup [.int p,.int q]
def Yk (t b:Int):D:=nD (t/(Int.gcd t b:Nat)) (b/(Int.gcd t b:Nat))
def Am {t b:Int}(hb:b≠0\/t≠0):(0:Int)<(Int.gcd t b:Nat):=by
 have:0<Int.gcd t b:=Nat.pos_of_ne_zero fun z=>by
  have:=Int.gcd_eq_zero_iff.mp z
  lia
 lia
def Q8 {fa fb:Zl->M D}{sd:Zl}{ds:List D}{i:Int}{d:D}(h:fa sd=.ok (.lst ds))(h2:fb sd=.ok (.int i))(e:Sr ds i=some d):Zn Yj fa fb sd=.ok d:=by
 refine Zg h h2 ?_
 show(match Sr ds i with|some d=>M.ok d|none=>.bad)=_
 rw[e]
def Zj {fa fb:Zl->M D}{sd:Zl}{ds:List D}{i:Int}{d:D}(h:fa sd=.ok (.tup ds))(h2:fb sd=.ok (.int i))(e:Sr ds i=some d):Zn Yj fa fb sd=.ok d:=by
 refine Zg h h2 ?_
 show(match Sr ds i with|some d=>M.ok d|none=>.bad)=_
 rw[e]
theorem T3 {α:Type}:∀l:List α,Kh (l.map fun _=>D.bl true)=some (l.map fun _=>true)
 |[]=>rfl
 |a::l=>by
  rw[List.map_cons,List.map_cons]
  simp only[Kh,T3 l]
  rfl
def Zd7 {α:Type}(l:List α):Zal [.lst (l.map fun _=>.bl true)]=.ok (.bl true):=by
 simp only[Zal,T3]
 congr 2
 rw[List.all_eq_true]
 intro b hb
 obtain⟨_,_,rfl⟩:=List.mem_map.mp hb
 rfl
def Rk {f:Zl->M (List D)}{sd:Zl}{ds:List D}(h:f sd=.ok ds):G8 f sd=.ok (.lst ds):=by
 unfold G8;rw[h];rfl
def Gv {fi:Zl->M (List D)}{n0:Nat}{caps:List Nat}{gt:D->Zl->M Zl}{fe:Zl->M D}{sd:Zl}{ds:List D}{r:M (List D)}(h:fi sd=.ok ds)(hf:ds.length<=1000)(hr:V8 gt fe (Wn n0 caps sd) ds=r):X6 fi n0 caps gt fe sd=r:=by
 unfold X6
 rw[h,M.bind_ok,Jp (by lia),if_pos rfl,hr]
def Ik {i:Nat}{f:Zl->M Bool}{sd:Zl}{b:Bool}(h:f (frz i sd)=.ok b):Wy i f sd=.ok b:=by
 unfold Wy
 rw[h]
def Jy {i:Nat}{f:Zl->M O}{sd:Zl}{r:M O}(h:f (frz i sd)=r):V9 i f sd=r:=h
def T4 {ds:List D}:Wl [.lst ds]=.ok (.int (ds.length:Int)):=rfl
def m4 (a b c d:Int):a*b*(c*d)=a*c*(b*d):=by rw[Int.mul_assoc,Int.mul_assoc,Int.mul_left_comm b]
def V4 {t b:Int}(hb:0<b):∃p q,Yk t b=nD p q/\0<q/\p*b=t*q/\Int.gcd p q=1/\p.natAbs<=t.natAbs/\q<=b:=by
 obtain⟨u,eu⟩:((Int.gcd t b:Nat):Int) ∣ t:=Int.gcd_dvd_left t b
 obtain⟨v,ev⟩:((Int.gcd t b:Nat):Int) ∣ b:=Int.gcd_dvd_right t b
 have gp:=Am (t:=t) (b:=b) (by lia)
 have hg:Int.gcd u v=1:=by
  have h1:Int.gcd ((Int.gcd t b:Nat)*u) ((Int.gcd t b:Nat)*v)=Int.gcd t b:=by rw[<-eu,<-ev]
  rw[Int.gcd_mul_left,Int.natAbs_natCast] at h1
  have h0:0<Int.gcd t b:=by lia
  exact Nat.eq_of_mul_eq_mul_left h0 (by rw[h1,Nat.mul_one])
 refine⟨t/(Int.gcd t b:Nat),b/(Int.gcd t b:Nat),rfl,?_⟩
 generalize ((Int.gcd t b:Nat):Int)=g at eu ev gp ⊢
 rw[eu,ev,Int.mul_ediv_cancel_left _ (by lia),Int.mul_ediv_cancel_left _ (by lia)]
 have v1:0<v:=by
  rcases Int.lt_or_le 0 v with h|h
  ·exact h
  ·have:=Int.mul_nonpos_of_nonneg_of_nonpos (Int.le_of_lt gp) h;lia
 refine⟨v1,by rw[Int.mul_left_comm,Int.mul_assoc],hg,?_,?_⟩
 ·rw[Int.natAbs_mul]
  exact Nat.le_mul_of_pos_left _ (by lia)
 ·have:=Int.mul_le_mul_of_nonneg_right (show(1:Int)<=g by lia) (Int.le_of_lt v1)
  lia
def My {p q p' q':Int}(hq:0<q)(hq':0<q')(c:Int.gcd p q=1)(c':Int.gcd p' q'=1)(e:p*q'=p'*q):p=p'/\q=q':=by
 have half:∀{p q p' q':Int},Int.gcd p q=1->p*q'=p'*q->q ∣ q':=fun {p q p' q'} c e=>by
  have:q ∣ p*q':=by rw[e];exact Int.dvd_mul_left _ _
  have c2:Int.gcd q p=1:=by rw[Int.gcd_comm];exact c
  have h1:q.natAbs ∣ p.natAbs*q'.natAbs:=by rw[<-Int.natAbs_mul];exact Int.natAbs_dvd_natAbs.mpr this
  have h2:q.natAbs ∣ q'.natAbs:=Nat.Coprime.dvd_of_dvd_mul_left (show Nat.Coprime q.natAbs p.natAbs from c2) h1
  exact Int.natAbs_dvd_natAbs.mp h2
 have d1:=half c e
 have d2:=half c' e.symm
 have eq:q=q':=by
  have h1:=Int.le_of_dvd hq' d1
  have h2:=Int.le_of_dvd hq d2
  lia
 subst eq
 exact⟨Int.eq_of_mul_eq_mul_right (by lia) e,rfl⟩
def Ym {t b t' b':Int}(hb:0<b)(hb':0<b')(e:t*b'=t'*b):Yk t b=Yk t' b':=by
 obtain⟨p,q,e1,q1,r1,c1,_⟩:=V4 (t:=t) hb
 obtain⟨p',q',e2,q2,r2,c2,_⟩:=V4 (t:=t') hb'
 have:p=p'/\q=q':=by
  refine My q1 q2 c1 c2 ?_
  have h:(p*q')*(b*b')=(p'*q)*(b*b'):=by
   have a1:(p*q')*(b*b')=(p*b)*(q'*b'):=by rw[m4]
   have a2:(p'*q)*(b*b')=(p'*b')*(q*b):=by rw[Int.mul_comm b b',m4]
   have a3:(t*q)*(q'*b')=(t*b')*(q*q'):=by rw[Int.mul_comm q' b',m4]
   have a4:(t'*q')*(q*b)=(t'*b)*(q*q'):=by rw[Int.mul_comm q b,m4,Int.mul_comm q' q]
   rw[a1,a2,r1,r2,a3,a4,e]
  exact Int.eq_of_mul_eq_mul_right (Int.mul_ne_zero (by lia) (by lia)) h
 rw[e1,e2,this.1,this.2]
structure Fr (k:Nat) (p q:Int):Prop where
 pos:0<q
 top:p.natAbs<=10 ^ k
 bot:q.natAbs<=10 ^ k
def Fr.mono {j k:Nat}{p q:Int}(h:Fr j p q)(hk:j<=k):Fr k p q:=
 have:=Nat.pow_le_pow_right (show 0<10 by decide) hk
 ⟨h.pos,by have:=h.top;lia,by have:=h.bot;lia⟩
def Xx {k:Nat}{t b:Int}(h:Fr k t b):∃p q,Yk t b=nD p q/\Fr k p q/\p*b=t*q/\Int.gcd p q=1:=by
 obtain⟨p,q,e,q1,r,c,h1,h2⟩:=V4 (t:=t) h.pos
 have:=h.top
 have:=h.bot
 exact⟨p,q,e,⟨q1,by lia,by lia⟩,r,c⟩
def Zd8 {k:Nat}{t b:Int}(h:t.natAbs<=10 ^ k)(h2:b.natAbs<=10 ^ k):(((Int.gcd t b:Nat):Int)).natAbs<=10 ^ k:=by
 rw[Int.natAbs_natCast]
 by_cases hz:b=0
 ·subst hz;simpa using h
 ·have h1:((Int.gcd t b:Nat):Int) ∣ b:=Int.gcd_dvd_right t b
  have h2:=Nat.le_of_dvd (by lia) (Int.natAbs_dvd_natAbs.mpr h1)
  rw[Int.natAbs_natCast] at h2
  lia
def T5 {k:Nat}{t b:Int}(h:Fr k t b)(hk:k<=900):Uy [.int t,.int b]=.ok (.im (Yk t b)):=by
 have gp:=Am (t:=t) (b:=b) (by have:=h.pos;lia)
 have gs:sm ((Int.gcd t b:Nat):Int)=true:=Qv (Zd8 h.top h.bot) hk
 exact(Mx _ _ _ _).trans (Z3 (go (Zx (Zq (aC rfl (a1 rfl)) (Zo8 t b) rfl)) (Z1 (X3 (Zg rfl rfl (Lc gp gs)) (Zg rfl rfl (Lc gp gs))))))
def Xs {j k:Nat}(h:j<=k):(10:Nat) ^ j<=10 ^ k:=Nat.pow_le_pow_right (by decide) h
def Zk0 {k:Nat}{a b c d:Int}(h1:Fr k a b)(h2:Fr k c d):Fr (k+k+1) (a*d+c*b) (b*d):=
 ⟨Int.mul_pos h1.pos h2.pos,Zgw (Qg h1.top h2.bot) (Qg h2.top h1.bot),Nat.le_trans (Qg h1.bot h2.bot) (Xs (by lia))⟩
def Si {k:Nat}{a b c d:Int}(h1:Fr k a b)(h2:Fr k c d)(hk:k<=400):Vm [nD a b,nD c d]=.ok (.im (.bl (decide (a*d<c*b)))):=by
 have sa:=Qv h1.top (by lia)
 have sb:=Qv h1.bot (by lia)
 have sc:=Qv h2.top (by lia)
 have sd:=Qv h2.bot (by lia)
 exact(Mx _ _ _ _).trans (Z3 (Z1 (Zg (Zg (Zj rfl rfl (Qd _ _)) (Zj rfl rfl (Qq _ _ _)) (gT sa sd)) (Zg (Zj rfl rfl (Qd _ _)) (Zj rfl rfl (Qq _ _ _)) (gT sc sb)) rfl)))
theorem Il (x y:Option S):∀(n:Nat) (hi lo:Int),0<=hi->0<=lo->lo.toNat<n ->
  Yr (DL.tB (Zn Pt (Zd 3) ↑0)) (Bm 2 3 (Zb (Zd 3) (Zb (Zn Qn (Zd 2) (Zd 3)) Zh))) n [x,y,some (.im (.int hi)),some (.im (.int lo))] =
   .ok (.nx [x,y,some (.im (.int (Int.gcd hi lo:Nat))),some (.im (.int 0))])
 |0,_,_,_,_,h=>by lia
 |n+1,hi,lo,hg,hl,h=>by
  by_cases hz:lo=0
  ·subst hz
   simp[Yr,DL.tB,Zn,Zd,eC,Pt,F9,asB]
   lia
  ·have hp:0<lo:=by lia
   have hm0:0<=hi%lo:=Int.emod_nonneg hi (by lia)
   have hm1:hi%lo<lo:=Int.emod_lt_of_pos hi hp
   have e:=Il x y n lo (hi%lo) hl hm0 (by lia)
   rw[Dj hg hp] at e
   rw[<-e]
   simp[Yr,DL.tB,Zn,Zd,eC,Pt,F9,asB,Bm,Zb,Zh,gM hp,hp]
def Zk1 {i j:Nat}{fs:Zl->M (List D)}{sd:Zl}{a b:D}(h:fs sd=.ok [a,b]):Bm i j fs sd=.ok (.nx ((sd.set i (some (.im a))).set j (some (.im b)))):=by
 unfold Bm
 rw[h]
 rfl
def Zd9 (x y:Option S){hi lo:Int}(h1:0<=hi)(h2:0<=lo):Wu (DL.tB (Zn Pt (Zd 3) ↑0)) (Bm 2 3 (Zb (Zd 3) (Zb (Zn Qn (Zd 2) (Zd 3)) Zh))) [x,y,some (.im (.int hi)),some (.im (.int lo))]=.ok (.nx [x,y,some (.im (.int (Int.gcd hi lo:Nat))),some (.im (.int 0))]):=by
 have e:=Il x y (lo.toNat+1) hi lo h1 h2 (by lia)
 have e2:=Pw (c:=DL.tB (Zn Pt (Zd 3) ↑0)) (f:=Bm 2 3 (Zb (Zd 3) (Zb (Zn Qn (Zd 2) (Zd 3)) Zh))) (n:=lo.toNat+1) (sd:=[x,y,some (.im (.int hi)),some (.im (.int lo))]) (by rw[e];simp)
 exact e2.trans e
def Pd {k:Nat}{t b:Int}(h:Fr k t b)(hk:k<=900):Qk [.int t,.int b]=.ok (.im (Yk t b)):=by
 have gp:=Am (t:=t) (b:=b) (by have:=h.pos;lia)
 have gs:sm ((Int.gcd t b:Nat):Int)=true:=Qv (Zd8 h.top h.bot) hk
 have eg:((Int.gcd (t.natAbs:Int) b:Nat):Int)=(Int.gcd t b:Nat):=by simp[Int.gcd]
 have w:=Zd9 (some (.im (.int t))) (some (.im (.int b))) (hi:=(t.natAbs:Int)) (lo:=b) (by lia) (by have:=h.pos;lia)
 rw[eg] at w
 exact(Mx _ _ _ _).trans (Z3 (go (Zk1 (aC (Xv (a1 rfl) (T2 t)) (a1 rfl))) (go w (Z1 (X3 (Zg rfl rfl (Lc gp gs)) (Zg rfl rfl (Lc gp gs)))))))
abbrev Io (d:D):Option S:=some (.im d)
abbrev Jo (i:Int):Option S:=some (.im (.int i))
def Zea {k:Nat}{a b c d:Int}(h1:Fr k a b)(h2:Fr k c d):Fr (k+k) (a*c) (b*d):=⟨Int.mul_pos h1.pos h2.pos,Qg h1.top h2.top,Qg h1.bot h2.bot⟩
def Im {k:Nat}{a b c d:Int}(h1:Fr k a b)(h2:Fr k c d)(hk:k<=400):Kn [nD a b,nD c d]=.ok (.im (Yk (a*d+c*b) (b*d))):=by
 have sa:=Qv h1.top (by lia)
 have sb:=Qv h1.bot (by lia)
 have sc:=Qv h2.top (by lia)
 have sd:=Qv h2.bot (by lia)
 refine(Mx _ _ _ _).trans (Z3 (Z1 (Zq (aC (d:=.int (a*d+c*b)) (Zg (Zg (Zj rfl rfl (Qd _ _)) (Zj rfl rfl (Qq _ _ _)) (gT sa sd)) (Zg (Zj rfl rfl (Qd _ _)) (Zj rfl rfl (Qq _ _ _)) (gT sc sb)) rfl) (a1 (d:=.int (b*d)) (Zg (Zj rfl rfl (Qq _ _ _)) (Zj rfl rfl (Qq _ _ _)) (gT sb sd)))) (Pd (Zk0 h1 h2) (by lia)) rfl)))
def Zeb {k:Nat}{a b c d:Int}(h1:Fr k a b)(h2:Fr k c d)(hk:k<=400):Y2 [nD a b,nD c d]=.ok (.im (Yk (a*c) (b*d))):=by
 have sa:=Qv h1.top (by lia)
 have sb:=Qv h1.bot (by lia)
 have sc:=Qv h2.top (by lia)
 have sd:=Qv h2.bot (by lia)
 refine(Mx _ _ _ _).trans (Z3 (Z1 (Zq (aC (d:=.int (a*c)) (Zg (Zj rfl rfl (Qd _ _)) (Zj rfl rfl (Qd _ _)) (gT sa sc)) (a1 (d:=.int (b*d)) (Zg (Zj rfl rfl (Qq _ _ _)) (Zj rfl rfl (Qq _ _ _)) (gT sb sd)))) (Pd (Zea h1 h2) (by lia)) rfl)))
def Zg1 {k:Nat}{a b c d:Int}(h1:Fr k a b)(h2:Fr k c d)(hk:k<=400):Yw [nD a b,nD c d]=.ok (.im (.bl (decide (a*d<c*b)))):=by
 have sa:=Qv h1.top (by lia)
 have sb:=Qv h1.bot (by lia)
 have sc:=Qv h2.top (by lia)
 have sd:=Qv h2.bot (by lia)
 exact(Mx _ _ _ _).trans (Z3 (Z1 (Zg (Zg (Zj rfl rfl (Qd _ _)) (Zj rfl rfl (Qq _ _ _)) (gT sa sd)) (Zg (Zj rfl rfl (Qd _ _)) (Zj rfl rfl (Qq _ _ _)) (gT sc sb)) rfl)))
def Zg2 {k:Nat}{a b c d:Int}(h1:Fr k a b)(h2:Fr k c d)(hk:k<=400)(hc:0<c):Ja [nD a b,nD c d]=.ok (.im (Yk (a*d) (b*c))):=by
 have sa:=Qv h1.top (by lia)
 have sb:=Qv h1.bot (by lia)
 have sc:=Qv h2.top (by lia)
 have sd:=Qv h2.bot (by lia)
 have hf:Fr (k+k) (a*d) (b*c):=⟨Int.mul_pos h1.pos hc,Qg h1.top h2.bot,Qg h1.bot h2.top⟩
 refine(Mx _ _ _ _).trans (Z3 (go (Z0 (Z7 (Zg (Zj rfl rfl (Qd _ _)) rfl (show Bj (.int c) (.int 0)=.ok (.bl false) by show M.ok (D.bl (decide (c<0)))=_;rw[decide_eq_false (by lia)])))) (Z1 (Zq (aC (d:=.int (a*d)) (Zg (Zj rfl rfl (Qd _ _)) (Zj rfl rfl (Qq _ _ _)) (gT sa sd)) (a1 (d:=.int (b*c)) (Zg (Zj rfl rfl (Qq _ _ _)) (Zj rfl rfl (Qd _ _)) (gT sb sc)))) (Pd hf (by lia)) rfl))))
def Zec {k:Nat}{a b c d:Int}(h1:Fr k a b)(h2:Fr k c d)(hk:k<=400)(hc:c<0):Ja [nD a b,nD c d]=.ok (.im (Yk (0-a*d) (0-b*c))):=by
 have sa:=Qv h1.top (by lia)
 have sb:=Qv h1.bot (by lia)
 have sc:=Qv h2.top (by lia)
 have sd:=Qv h2.bot (by lia)
 have hp:0<b*(-c):=Int.mul_pos h1.pos (by lia)
 have hn:(a*d).natAbs<=10 ^ (k+k):=Qg h1.top h2.bot
 have hb:(b*c).natAbs<=10 ^ (k+k):=Qg h1.bot h2.top
 rw[Int.mul_neg] at hp
 have hf:Fr (k+k) (0-a*d) (0-b*c):=⟨by lia,by lia,by lia⟩
 refine(Mx _ _ _ _).trans (Z3 (Qt (Z6 (Z7 (Zg (Zj rfl rfl (Qd _ _)) rfl (show Bj (.int c) (.int 0)=.ok (.bl true) by show M.ok (D.bl (decide (c<0)))=_;rw[decide_eq_true hc]))) (Z1 (Zq (aC (d:=.int (0-a*d)) (Zg rfl (Zg (Zj rfl rfl (Qd _ _)) (Zj rfl rfl (Qq _ _ _)) (gT sa sd)) rfl) (a1 (d:=.int (0-b*c)) (Zg rfl (Zg (Zj rfl rfl (Qq _ _ _)) (Zj rfl rfl (Qd _ _)) (gT sb sc)) rfl))) (Pd hf (by lia)) rfl)))))
def Zk2 {k:Nat}{a b c d:Int}(h1:Fr k a b)(h2:Fr k c d)(hk:k<=400):X2 [nD a b,nD c d]=.ok (.im (Yk (c*b-a*d) (d*b))):=by
 have h3:Fr k (0-a) b:=⟨h1.pos,by have:=h1.top;lia,h1.bot⟩
 have:=Im h2 h3 hk
 rw[show c*b+(0-a)*d=c*b-a*d by rw[Int.sub_mul];lia] at this
 exact(Mx _ _ _ _).trans (Z3 (Z1 (Zq (aC rfl (a1 (d:=nD (0-a) b) (X3 (Zg rfl (Zj rfl rfl (Qd _ _)) rfl) (Zj rfl rfl (Qq _ _ _))))) this rfl)))
section
variable {k:Nat}{a b c d:Int}
def Zk3 (h1:Fr k a b)(h2:Fr k c d)(hk:k<=400):Kn [Yk a b,Yk c d]=.ok (.im (Yk (a*d+c*b) (b*d))):=by
 obtain⟨p,q,e1,f1,m1,_⟩:=Xx h1
 obtain⟨p',q',e2,f2,m2,_⟩:=Xx h2
 rw[e1,e2,Im f1 f2 hk,Ym (t':=a*d+c*b) (b':=b*d) (Int.mul_pos f1.pos f2.pos) (Int.mul_pos h1.pos h2.pos) (by grind)]
def An (h1:Fr k a b)(h2:Fr k c d)(hk:k<=400):Y2 [Yk a b,Yk c d]=.ok (.im (Yk (a*c) (b*d))):=by
 obtain⟨p,q,e1,f1,m1,_⟩:=Xx h1
 obtain⟨p',q',e2,f2,m2,_⟩:=Xx h2
 rw[e1,e2,Zeb f1 f2 hk,Ym (t':=a*c) (b':=b*d) (Int.mul_pos f1.pos f2.pos) (Int.mul_pos h1.pos h2.pos) (by grind)]
def Pe {p q p' q':Int}(hb:0<b)(hd:0<d)(hq:0<q)(hq':0<q')(m1:p*b=a*q)(m2:p'*d=c*q'):p*q'<p'*q↔a*d<c*b:=by
 have e1:p*q'*(b*d)=a*d*(q*q'):=by grind
 have e2:p'*q*(b*d)=c*b*(q*q'):=by grind
 have h1:=Int.mul_pos hb hd
 have h2:=Int.mul_pos hq hq'
 constructor
 ·intro h
  have:=Int.mul_lt_mul_of_pos_right h h1
  rw[e1,e2] at this
  exact Int.lt_of_mul_lt_mul_right this (Int.le_of_lt h2)
 ·intro h
  have:=Int.mul_lt_mul_of_pos_right h h2
  rw[<-e1,<-e2] at this
  exact Int.lt_of_mul_lt_mul_right this (Int.le_of_lt h1)
def Ao (h1:Fr k a b)(h2:Fr k c d)(hk:k<=400):Yw [Yk a b,Yk c d]=.ok (.im (.bl (decide (a*d<c*b)))):=by
 obtain⟨p,q,e1,f1,m1,_⟩:=Xx h1
 obtain⟨p',q',e2,f2,m2,_⟩:=Xx h2
 rw[e1,e2,Zg1 f1 f2 hk]
 congr 4
 exact propext (Pe h1.pos h2.pos f1.pos f2.pos m1 m2)
def Zed (h1:Fr k a b)(h2:Fr k c d)(hk:k<=400):X2 [Yk a b,Yk c d]=.ok (.im (Yk (c*b-a*d) (d*b))):=by
 obtain⟨p,q,e1,f1,m1,_⟩:=Xx h1
 obtain⟨p',q',e2,f2,m2,_⟩:=Xx h2
 rw[e1,e2,Zk2 f1 f2 hk,Ym (t':=c*b-a*d) (b':=d*b) (Int.mul_pos f2.pos f1.pos) (Int.mul_pos h2.pos h1.pos) (by grind)]
def Zee (h1:Fr k a b)(h2:Fr k c d)(hk:k<=400)(hc:0<c):Ja [Yk a b,nD c d]=.ok (.im (Yk (a*d) (b*c))):=by
 obtain⟨p,q,e1,f1,m1,_⟩:=Xx h1
 rw[e1,Zg2 f1 h2 hk hc,Ym (t':=a*d) (b':=b*c) (Int.mul_pos f1.pos hc) (Int.mul_pos h1.pos hc) (by grind)]
def Ip (h1:Fr k a b)(h2:Fr k c d)(hk:k<=400)(hc:c<0):Ja [Yk a b,nD c d]=.ok (.im (Yk (0-a*d) (0-b*c))):=by
 obtain⟨p,q,e1,f1,m1,_⟩:=Xx h1
 have p1:0<q*(-c):=Int.mul_pos f1.pos (by lia)
 have p2:0<b*(-c):=Int.mul_pos h1.pos (by lia)
 rw[Int.mul_neg] at p1 p2
 rw[e1,Zec f1 h2 hk hc,Ym (t':=0-a*d) (b':=0-b*c) (by lia) (by lia) (by grind)]
end
def Zg3 {t b t' b':Int}(hb:0<b)(hb':0<b'):Yk t b=Yk t' b'↔t*b'=t'*b:=by
 constructor
 ·intro h
  obtain⟨p,q,e1,f1,m1,_⟩:=V4 (t:=t) hb
  obtain⟨p',q',e2,f2,m2,_⟩:=V4 (t:=t') hb'
  rw[e1,e2] at h
  unfold nD at h
  injection h with h
  injection h with h1 h
  injection h with h2 _
  injection h1 with h1
  injection h2 with h2
  subst h1
  subst h2
  have:t*b'*q=t'*b*q:=by grind
  exact Int.eq_of_mul_eq_mul_right (by lia) this
 ·exact Ym hb hb'
def Va {p q:Int}(hq:0<q)(g:Int.gcd p q=1):Yk p q=nD p q:=by
 unfold Yk
 rw[g]
 simp
def Rl {t b p q:Int}(hb:0<b)(hq:0<q)(m:p*b=t*q):p/q=t/b:=by
 have h1:=Int.mul_ediv_add_emod p q
 have r0:=Int.emod_nonneg p (show q≠0 by lia)
 have r1:=Int.emod_lt_of_pos p hq
 obtain⟨f,ef⟩:∃f,f=p/q:=⟨_,rfl⟩
 obtain⟨r,er⟩:∃r,r=p%q:=⟨_,rfl⟩
 rw[<-ef,<-er] at h1
 rw[<-er] at r0 r1
 rw[<-ef]
 symm
 have e1:(t-f*b)*q=r*b:=by grind
 have h2:0<=t-f*b:=by
  have:0<=(t-f*b)*q:=by rw[e1];exact Int.mul_nonneg r0 (Int.le_of_lt hb)
  exact Int.nonneg_of_mul_nonneg_left this hq
 have h3:t-f*b<b:=by
  have:(t-f*b)*q<b*q:=by
   rw[e1,Int.mul_comm b q]
   exact Int.mul_lt_mul_of_pos_right r1 hb
  exact Int.lt_of_mul_lt_mul_right this (Int.le_of_lt hq)
 rw[show t=(t-f*b)+f*b by lia,Int.add_mul_ediv_right _ _ (by lia),Int.ediv_eq_zero_of_lt h2 h3]
 lia
def Zp2 (m:Nat)(f:Zl->M O)(a0:S):Hu 1 m f [a0]=R4 (f ([some a0]++List.replicate m none)):=rfl
def Zoa (m:Nat)(f:Zl->M O)(a0 a1:S):Hu 2 m f [a0,a1]=R4 (f ([some a0,some a1]++List.replicate m none)):=rfl
def Zng (m:Nat)(f:Zl->M O)(a0 a1 a2:S):Hu 3 m f [a0,a1,a2]=R4 (f ([some a0,some a1,some a2]++List.replicate m none)):=rfl
def Zp3 (m:Nat)(f:Zl->M O)(a0 a1 a2 a3:S):Hu 4 m f [a0,a1,a2,a3]=R4 (f ([some a0,some a1,some a2,some a3]++List.replicate m none)):=rfl
def trk (b:D)(sq h due lap:Int):Yg:=[("begin", b),("square", .int sq),("heading", .int h),("due", .int due),("lap", .int lap)]
def Zk4 (b th:D)(sq h due lap now:Int)(ht:th.dep<=60):F_pass_line (trk b sq h due lap) [.int now,th]=some (if due=now then(if D.eq th (.str (Str.ofString "m"))=true then trk b sq (-h) (due+lap) lap else trk b (sq+h) h (due+lap) lap) else trk b sq h due lap):=by
 unfold F_pass_line Zfd
 rw[if_pos (by rfl)]
 have e1:gB (D9 Ys (Wq "due") (Vi (Zd 1))) (none::([D.int now,th].map (fun d=>Io d)++List.replicate 0 none)) (trk b sq h due lap)=.ok (due==now):=by
  show(Ys (.int due) (.int now)).bind asB=_
  rw[Qy]
  rfl
 have e2:(DL.tB (Zn Ys (Zd 2) ↑"m") (none::([D.int now,th].map (fun d=>Io d)++List.replicate 0 none)))=.ok (D.eq th (.str (Str.ofString "m"))):=by
  show(Ys th (.str (Str.ofString "m"))).bind asB=_
  rw[Y8 ht]
  rfl
 unfold Zfc
 rw[e1]
 by_cases hd:due=now
 ·rw[if_pos hd,show(due==now)=true by simp[hd]]
  dsimp only[]
  rw[e2]
  cases D.eq th (.str (Str.ofString "m")) with
  |true=>rfl
  |false=>rfl
 ·rw[if_neg hd,show(due==now)=false by simp[hd]]
  rfl
def Xw (sq h:Int):Int:=if 0<h then sq+1 else sq
def Zk5 (a:Addr)(b:D)(sq h due lap:Int):Q3 [.ob a "Track" (trk b sq h due lap)]=.ok (.im (.int (Xw sq h))):=by
 unfold Xw
 refine(Zp2 _ _ _).trans (Z3 (Z1 ?_))
 by_cases hh:0<h
 ·rw[if_pos hh]
  exact Jb (Z7 (Zg rfl rfl (show Pt (.int h) (.int 0)=.ok (.bl true) by show M.ok (D.bl (decide (h > 0)))=_;rw[decide_eq_true hh]))) rfl
 ·rw[if_neg hh]
  exact Jl (Z7 (Zg rfl rfl (show Pt (.int h) (.int 0)=.ok (.bl false) by show M.ok (D.bl (decide (h > 0)))=_;rw[decide_eq_false hh]))) rfl
def Ge (i:Nat){sd:Zl}{a:Addr}{b:D}{sq h due lap:Int} (e:sd[i]?=some (some (.ob a "Track" (trk b sq h due lap)))):X7 i "Track" "line_ahead" Q3 Zh sd=.ok (.int (Xw sq h)):=by
 unfold X7
 rw[e]
 show(if _/\_ then _ else _)=_
 rw[if_pos ⟨rfl,rfl⟩]
 show N4 (Q3 [.ob a "Track" (trk b sq h due lap)])=_
 rw[Zk5]
 rfl
def Zef (a:Addr)(b:D)(sq due lap now:Int):Yv [.ob a "Track" (trk b sq 0 due lap),.im (.int now)]=.ok (.im b):=by
 refine(Zoa _ _ _ _).trans ?_
 exact Z3 (Qt (Z6 (Z7 (Zg rfl rfl (show Ys (.int 0) (.int 0)=.ok (.bl true) by rw[Qy];rfl))) (Z1 rfl)))
def Zg4 {k:Nat}(a:Addr)(b:D){sq h due lap now:Int}(hh:h≠0)(hl:0<lap)(bl:lap.natAbs<=10 ^ k)(b1:(Xw sq h).natAbs<=10 ^ k)(b2:h.natAbs<=10 ^ k)(b3:(due-now).natAbs<=10 ^ k)(hk:k<=300):
  Yv [.ob a "Track" (trk b sq h due lap),.im (.int now)]=.ok (.im (Yk (Xw sq h*lap-h*(due-now)) lap)):=by
 have hf:Fr (k+k+1) (Xw sq h*lap-h*(due-now)) lap:=⟨hl,Vp (Qg b1 bl) (Qg b2 b3),Nat.le_trans bl (Xs (by lia))⟩
 refine(Zoa _ _ _ _).trans ?_
 refine Z3 (go (Z0 (Z7 (Zg rfl rfl (show Ys (.int h) (.int 0)=.ok (.bl false) by rw[Qy];simp[hh])))) (Z1 (Zq (aC (d:=.int (Xw sq h*lap-h*(due-now))) ?_ (a1 (d:=.int lap) rfl)) (T5 hf (by lia)) rfl)))
 exact Zg (Zg (Ge 0 rfl) rfl (gT (Qv b1 (by lia)) (Qv bl (by lia)))) (Zg rfl (Zg rfl rfl rfl) (gT (Qv b2 (by lia)) (Qv b3 (by lia)))) rfl
def Zbm {k:Nat}(a:Addr)(b:D){sq h due lap n d:Int}(hd:Fr k n d)(bl:lap.natAbs<=10 ^ k)(b1:(Xw sq h).natAbs<=10 ^ k)(b2:h.natAbs<=10 ^ k)(b3:due.natAbs<=10 ^ k)(hk:k<=100):
  Vu [.ob a "Track" (trk b sq h due lap),.im (nD n d)]=.ok (.im (Yk (due*d-h*(Xw sq h*d-n)*lap) d)):=by
 have s1:=Qv hd.top (by lia)
 have s2:=Qv hd.bot (by lia)
 have s3:=Qv bl (by lia)
 have s4:=Qv b1 (by lia)
 have s5:=Qv b2 (by lia)
 have s6:=Qv b3 (by lia)
 have h1:(Xw sq h*d-n).natAbs<=10 ^ (k+k+1):=Vp (Qg b1 hd.bot) (Nat.le_trans hd.top (Xs (by lia)))
 have h2:(h*(Xw sq h*d-n)).natAbs<=10 ^ (k+(k+k+1)):=Qg b2 h1
 have h3:(h*(Xw sq h*d-n)*lap).natAbs<=10 ^ (k+(k+k+1)+k):=Qg h2 bl
 have hf:Fr (k+(k+k+1)+k+1) (due*d-h*(Xw sq h*d-n)*lap) d:=⟨hd.pos,Vp (Nat.le_trans (Qg b3 hd.bot) (Xs (by lia))) h3,Nat.le_trans hd.bot (Xs (by lia))⟩
 refine(Zoa _ _ _ _).trans ?_
 refine Z3 (go (Zx (d:=.int (h*(Xw sq h*d-n))) (Zg rfl (Zg (Zg (Ge 0 rfl) (Zj rfl rfl (Qq _ _ _)) (gT s4 s2)) (Zj rfl rfl (Qd _ _)) rfl) (gT s5 (Qv h1 (by lia))))) (Z1 (Zq (aC (d:=.int (due*d-h*(Xw sq h*d-n)*lap)) ?_ (a1 (d:=.int d) (Zj rfl rfl (Qq _ _ _)))) (T5 hf (by lia)) rfl)))
 exact Zg (Zg rfl (Zj rfl rfl (Qq _ _ _)) (gT s6 s2)) (Zg rfl rfl (gT (Qv h2 (by lia)) s3)) rfl
structure Po4 where
 a:Int
 b:Int
 c:Int
 d:Int
def Po4.D (p:Po4):D:=.tup [nD p.a p.b,nD p.c p.d]
structure PoOk (k:Nat) (p:Po4):Prop where
 x:Fr k p.a p.b
 y:Fr k p.c p.d
structure PIn (z:Nat) (p q:Int):Prop where
 fr:Fr 4 p q
 p0:0<p
 p1:p<(z:Int)*q
 g:Int.gcd p q=1
 nw:∀k:Int,k*q≠p
 q3:q<=1000
def Zeg {z:Nat}(z0:1<=z)(z1:z<=8){B:Int}(b0:3<=B)(b1:B<=1000)(x y:Int):∃p q,PIn z p q/\W9 [.int (z:Int),.int x,.int y,.int B]=.ok (.im (nD p q)):=by
 have m0:=Int.emod_nonneg x (show B-1≠0 by lia)
 have m1:=Int.emod_lt_of_pos x (show 0<B-1 by lia)
 obtain⟨bot,eb⟩:∃b,b=2+x%(B-1):=⟨_,rfl⟩
 have r0:=Int.emod_nonneg y (show bot-1≠0 by lia)
 have r1:=Int.emod_lt_of_pos y (show 0<bot-1 by lia)
 have s0:=Int.emod_nonneg (x/1000) (show(z:Int)≠0 by lia)
 have s1:=Int.emod_lt_of_pos (x/1000) (show 0<(z:Int) by lia)
 obtain⟨s,es⟩:∃s,s=x/1000%(z:Int):=⟨_,rfl⟩
 obtain⟨r,er⟩:∃r,r=y%(bot-1):=⟨_,rfl⟩
 rw[<-es] at s0 s1
 rw[<-er] at r0 r1
 have bb:2<=bot/\bot<=1000:=by lia
 have mb:=Zkw (a:=s) (b:=bot) (A:=7) (B:=1000) s0 (by lia) (by lia) bb.2
 have p4:(10:Nat) ^ 4=10000:=rfl
 have hf:Fr 4 (s*bot+1+r) bot:=⟨by lia,by rw[p4];lia,by rw[p4];lia⟩
 obtain⟨p,q,el,hq,m,g⟩:=Xx hf
 have hb:0<bot:=by lia
 have nm:∀k:Int,k*bot≠s*bot+1+r:=fun k e=>by
  have:1+r-0=(k-s)*bot:=by rw[Int.sub_mul];lia
  have h1:1<=k-s\/k-s<=0:=by lia
  rcases h1 with h1|h1
  ·have:=Int.mul_le_mul_of_nonneg_right h1 (Int.le_of_lt hb);lia
  ·have:=Int.mul_le_mul_of_nonneg_right h1 (Int.le_of_lt hb);lia
 have q3:q<=1000:=by
  obtain⟨p',q',e',_,_,_,_,hle⟩:=V4 (t:=s*bot+1+r) hb
  rw[el] at e'
  unfold nD at e'
  injection e' with e'
  injection e' with _ e'
  injection e' with e' _
  injection e' with e'
  lia
 refine⟨p,q,⟨hq,?_,?_,g,fun k e=>?_,q3⟩,?_⟩
 ·have h1:0<(s*bot+1+r)*q:=Int.mul_pos (by lia) hq.pos
  rw[<-m] at h1
  exact Int.pos_of_mul_pos_left h1 hb
 ·have h2:s*bot+1+r<(z:Int)*bot:=by
   have:=Int.mul_le_mul_of_nonneg_right (show s+1<=(z:Int) by lia) (Int.le_of_lt hb)
   rw[Int.add_mul] at this
   lia
  have h3:=Int.mul_lt_mul_of_pos_right h2 hq.pos
  rw[<-m,Int.mul_right_comm] at h3
  exact Int.lt_of_mul_lt_mul_right h3 (Int.le_of_lt hb)
 ·refine nm k (Int.eq_of_mul_eq_mul_right (a:=q) (by have:=hq.pos;lia) ?_)
  rw[<-m,<-e,Int.mul_right_comm]
 ·have e3:Zn Qi (Zn Qi (Zn Qc (Zn Qn (Zn Q6 (Zd 1) ↑1000) (Zd 0)) (Zd 4)) ↑1) (Zn Qn (Zd 2) (Zn DL.Xf (Zd 4) ↑1)) [Jo (z:Int),Jo x,Jo y,Jo B,Jo bot]=.ok (.int (s*bot+1+r)):=by
   rw[es,er]
   refine Zg (Zg (Zg (Zg (Zg rfl rfl (Lc (by decide) (Fs (by decide) (by decide)))) rfl (gM (by lia))) rfl (gT (Fs (by lia) (by lia)) (Fs (by lia) (by lia)))) rfl rfl) (Zg rfl (Zg rfl rfl rfl) (gM (by lia))) rfl
  refine(Zbk _ _ _ _ _ _).trans (Z3 (go (Zx (d:=.int bot) (by rw[eb];exact Zg rfl (Zg rfl (Zg rfl rfl rfl) (gM (by lia))) rfl)) (Z1 (Zq (aC e3 (a1 rfl)) (Pd hf (by decide)) (by rw[el];rfl)))))
structure PtOk (W H:Nat) (p:Po4):Prop where
 x:PIn W p.a p.b
 y:PIn H p.c p.d
def PtOk.ok {W H:Nat}{p:Po4}(h:PtOk W H p):PoOk 4 p:=⟨h.x.fr,h.y.fr⟩
def Iq {W H:Nat}(w0:1<=W)(w1:W<=8)(h0:1<=H)(h1:H<=8){B:Int}(b0:3<=B)(b1:B<=1000)(c:Int):∃p:Po4,PtOk W H p/\Kz [.int c,.int (W:Int),.int (H:Int),.int B]=.ok (.im p.D):=by
 obtain⟨es,hes,_,en⟩:=Gu c 4 (by lia)
 obtain⟨x0,x1,x2,x3,rfl⟩:∃x0 x1 x2 x3,es=[x0,x1,x2,x3]:=by
  match es,hes with
  |[x0,x1,x2,x3],_=>exact⟨x0,x1,x2,x3,rfl⟩
 obtain⟨a,b,na,fa⟩:=Zeg w0 w1 b0 b1 x0 x1
 obtain⟨p,d,nc,fc⟩:=Zeg h0 h1 b0 b1 x2 x3
 refine⟨⟨a,b,p,d⟩,⟨na,nc⟩,(Zbk _ _ _ _ _ _).trans (Z3 (go (Zx (Zq (aC rfl (a1 rfl)) en rfl)) (Z1 (X3 (Zq (aC rfl (aC (Q8 (ds:=[x0,x1,x2,x3].map D.int) rfl rfl (Qd _ _)) (aC (Q8 (ds:=[x0,x1,x2,x3].map D.int) rfl rfl (Qq _ _ _)) (a1 rfl)))) fa rfl) (Zq (aC rfl (aC (Q8 (ds:=[x0,x1,x2,x3].map D.int) rfl rfl (Ls _ _ _ _)) (aC (Q8 (ds:=[x0,x1,x2,x3].map D.int) rfl rfl (Zo7 _ _ _ _ _)) (a1 rfl)))) fc rfl)))))⟩
def Zeh (p q:Po4):D.eq p.D q.D=true↔p=q:=by
 cases p;cases q
 simp[Po4.D,nD,D.eq,D.eqs]
 constructor
 ·rintro⟨⟨a,b⟩,c,d⟩;exact⟨a,b,c,d⟩
 ·rintro⟨a,b,c,d⟩;exact⟨⟨a,b⟩,c,d⟩
def Zk6 (p:Po4):p.D.dep<=60:=by simp[Po4.D,nD,D.dep,D.deps]
def Zei (p:Po4)(ps:List Po4):Md p.D (ps.map Po4.D)=true↔p∈ps:=by
 unfold Md
 rw[List.any_map,List.any_eq_true]
 constructor
 ·rintro⟨q,hq,e⟩
  rw[<-(Zeh q p).mp e];exact hq
 ·intro h
  exact⟨p,h,(Zeh p p).mpr rfl⟩
noncomputable def Zo9:Zl->M O:=(Zy (Z4 6 (Zt Kz (Zb (Zd 5) (Zb (Zd 1) (Zb (Zd 2) (Zb (Zd 3) Zh))))))
   (Yy (Wy 4 (DL.tB (Zn S2 (Zd 6) (Zd 4)))) (Vg 4 (Zd 6)) Qs))
def Zg5 (v0:Option S){W H:Nat}(w0:1<=W)(w1:W<=8)(h0:1<=H)(h1:H<=8){B:Int}(b0:3<=B)(b1:B<=1000)(c:Int)(ps:List Po4)(hp:∀p∈ps,PtOk W H p)(nd:ps.Nodup)(hl:ps.length<=900)(v6:Option S):
  ∃(ps':List Po4) (w6:Option S),(∀p∈ps',PtOk W H p)/\ps'.Nodup/\ps'.length<=ps.length+1/\0<ps'.length/\Zo9 [v0,Jo (W:Int),Jo (H:Int),Jo B,some (.ow (ps.map Po4.D)),Jo c,v6] =
   .ok (.nx [v0,Jo (W:Int),Jo (H:Int),Jo B,some (.ow (ps'.map Po4.D)),Jo c,w6]):=by
 obtain⟨p,ok,e⟩:=Iq w0 w1 h0 h1 b0 b1 c
 have dp:D.deps (ps.map Po4.D)<=60:=Ul fun d hd=>by
  obtain⟨q,_,rfl⟩:=List.mem_map.mp hd
  exact Zk6 q
 have st:Wy 4 (DL.tB (Zn S2 (Zd 6) (Zd 4))) [v0,Jo (W:Int),Jo (H:Int),Jo B,some (.ow (ps.map Po4.D)),Jo c,Io p.D]=.ok (!Md p.D (ps.map Po4.D)):=Ik (Z7 (Zg (x:=p.D) (y:=.lst (ps.map Po4.D)) rfl rfl (if_pos dp)))
 by_cases hm:p∈ps
 ·refine⟨ps,_,hp,nd,by lia,List.length_pos_of_mem hm,go (Zx (Zq (aC rfl (aC rfl (aC rfl (a1 rfl)))) e rfl)) (Z0 (st.trans (by rw[(Zei p ps).mpr hm];rfl)))⟩
 ·refine⟨ps++[p],Io p.D,fun q hq=>?_,?_,by rw[List.length_append];exact Nat.le_refl _,by rw[List.length_append,List.length_singleton];lia,go (Zx (Zq (aC rfl (aC rfl (aC rfl (a1 rfl)))) e rfl)) (Z6 (st.trans (by rw[show Md p.D (ps.map Po4.D)=false from Bool.eq_false_iff.mpr fun z=>hm ((Zei p ps).mp z)];rfl)) ((Gd (ds:=ps.map Po4.D) (d:=p.D) rfl rfl (by rw[List.length_map];lia)).trans ?_))⟩
  ·rcases List.mem_append.mp hq with z|z
   ·exact hp q z
   ·rw[List.mem_singleton.mp z];exact ok
  ·refine List.nodup_append.mpr ⟨nd,by simp,fun a ha b hb=>?_⟩
   rw[List.mem_singleton.mp hb]
   rintro rfl
   exact hm ha
  ·rw[List.map_append];rfl
theorem Ir (v0:Option S){W H:Nat}(w0:1<=W)(w1:W<=8)(h0:1<=H)(h1:H<=8){B:Int}(b0:3<=B)(b1:B<=1000):∀(cs:List Int) (ps:List Po4) (v5 v6:Option S),(∀p∈ps,PtOk W H p)->ps.Nodup->ps.length+cs.length<=900 ->
  ∃(ps':List Po4) (w5 w6:Option S),(∀p∈ps',PtOk W H p)/\ps'.Nodup/\ps'.length<=ps.length+cs.length/\(0<ps.length\/cs≠[]->0<ps'.length)/\Y6 (Y1 5) Zo9 (cs.map D.int) [v0,Jo (W:Int),Jo (H:Int),Jo B,some (.ow (ps.map Po4.D)),v5,v6] =
   .ok (.nx [v0,Jo (W:Int),Jo (H:Int),Jo B,some (.ow (ps'.map Po4.D)),w5,w6])
 |[],ps,v5,v6,hp,nd,_=>⟨ps,v5,v6,hp,nd,by simp,fun h=>h.elim id fun z=>absurd rfl z,rfl⟩
 |c::cs,ps,v5,v6,hp,nd,hl=>by
  rw[List.length_cons] at hl
  obtain⟨p1,a6,o1,n1,l1,z1,e1⟩:=Zg5 v0 w0 w1 h0 h1 b0 b1 c ps hp nd (by lia) v6
  obtain⟨p2,w5,w6,o2,n2,l2,z2,e2⟩:=Ir v0 w0 w1 h0 h1 b0 b1 cs p1 (Jo c) a6 o1 n1 (by lia)
  refine⟨p2,w5,w6,o2,n2,by rw[List.length_cons];lia,fun _=>z2 (.inl z1),?_⟩
  rw[List.map_cons]
  exact(Yu (sd1:=[v0,Jo (W:Int),Jo (H:Int),Jo B,some (.ow (ps.map Po4.D)),Jo c,v6]) rfl e1).trans e2
def cz (ns:List Int)(k:Nat):Int:=(ns[k]?).getD 0
def T6 (ns:List Int)(k:Nat)(hl:ns.length<=63):Xh [.lst (ns.map D.int),.int (k:Int)]=.ok (.im (.int (cz ns k))):=by
 have e1:(k:Int)+1=((k+1:Nat):Int):=by lia
 have hcut:Nx (ns.map D.int) (some (k:Int)) (some ((k:Int)+1))++[D.int 0]=D.int (cz ns k)::(if k<ns.length then [D.int 0] else []):=by
  unfold Nx
  rw[e1,HT.sIx_nat,HT.sIx_nat,List.length_map]
  by_cases hk:k<ns.length
  ·rw[Nat.min_eq_left (by lia),Nat.min_eq_left (by lia),if_pos hk,<-List.map_drop,<-List.map_take,List.drop_eq_getElem_cons hk]
   have:k+1-k=1:=by lia
   rw[this,List.take_succ_cons,List.take_zero]
   simp[cz,hk]
  ·rw[Nat.min_eq_right (by lia),Nat.min_eq_right (by lia),if_neg hk,Nat.sub_self,List.take_zero]
   have:cz ns k=0:=by unfold cz;rw[List.getElem?_eq_none (by lia)];rfl
   rw[this];rfl
 have sl:∀r:List (Option S),Ma (Zd 0) (Xa (Zd 1)) (Xa (Zn Qi (Zd 1) ↑1)) (Io (.lst (ns.map D.int))::Jo (k:Int)::r)=.ok (.lst (Nx (ns.map D.int) (some (k:Int)) (some ((k:Int)+1)))):=fun r=>rfl
 have lc:(Nx (ns.map D.int) (some (k:Int)) (some ((k:Int)+1))).length<=63:=by
  unfold Nx
  rw[List.length_take,List.length_drop,List.length_map]
  lia
 have pl:=Zd6 (xs:=Nx (ns.map D.int) (some (k:Int)) (some ((k:Int)+1))) (ys:=[D.int 0]) (by rw[List.length_singleton];lia)
 rw[hcut] at pl
 generalize ns.map D.int=N at sl pl
 refine(Mx _ _ _ _).trans (Z3 (Z1 (Zg (Zg (sl _) (Wf (a1 rfl) rfl) pl) rfl ?_)))
 simp[Yj,Qd]
structure Tk where
 n:Int
 m:Int
 sq:Int
 h:Int
 due:Int
 lap:Int
def Tk.r (t:Tk):Yg:=trk (nD t.n t.m) t.sq t.h t.due t.lap
def Tk.line (t:Tk):Int:=Xw t.sq t.h
structure TB (k:Nat) (t:Tk):Prop where
 fr:Fr k t.n t.m
 li:t.line.natAbs<=10 ^ k
 h:t.h.natAbs<=10 ^ k
 due:t.due.natAbs<=10 ^ k
 lap:t.lap.natAbs<=10 ^ k
def Tk.tm (t:Tk)(n d:Int):Int:=t.due*d-t.h*(t.line*d-n)*t.lap
def Rm (a b:Int):(nD a b).dep<=60:=by simp[nD,D.dep,D.deps]
def K2 (a b:Int):(Yk a b).dep<=60:=Rm _ _
def Dl (a b c d:Int):D.eq (nD a b) (nD c d)=decide (a=c/\b=d):=by
 simp only[nD,D.eq,D.eqs]
 by_cases h1:a=c<;>by_cases h2:b=d<;>simp[h1,h2]
def T7 {t b t' b':Int}(hb:0<b)(hb':0<b'):D.eq (Yk t b) (Yk t' b')=decide (t*b'=t'*b):=by
 have:=Zg3 (t:=t) (t':=t') hb hb'
 unfold Yk at this ⊢
 rw[Dl]
 refine decide_eq_decide.mpr ?_
 rw[<-this]
 unfold nD
 constructor
 ·rintro⟨h1,h2⟩;rw[h1,h2]
 ·intro h
  injection h with h
  injection h with h1 h
  injection h with h2 _
  injection h1 with h1
  injection h2 with h2
  exact⟨h1,h2⟩
noncomputable def Zia:Zl->M O:=Yy (DL.tB (Zn Wm (Yo 4 "Track" "heading") ↑0)) (Vg 3 (X7 4 "Track" "time_at" Vu (Zb (Zd 5) Zh)))
   (Yy (DL.tB (Zn Wm (Zd 5) (Yo 4 "Track" "begin"))) (Qj (eC .non)) Qs)
def Zib {k:Nat}{a:Addr}{t:Tk}(o0 o1 o2:Option S)(ts:List D){n d:Int}(hb:TB k t)(hd:Fr k n d)(hk:k<=100)(hh:t.h≠0)(hl:ts.length<=10):
  Zia [o0,o1,o2,some (.ow ts),some (.ob a "Track" t.r),Io (nD n d)]=.ok (.nx [o0,o1,o2,some (.ow (ts++[Yk (t.tm n d) d])),some (.ob a "Track" t.r),Io (nD n d)]):=by
 refine Z6 (Z7 (Zg rfl rfl (show Wm (.int t.h) (.int 0)=.ok (.bl true) by rw[K9 (by simp[D.dep])];simp[D.eq,hh]))) (Gd rfl ?_ (by lia))
 unfold X7
 simp only[List.getElem?_cons_succ,List.getElem?_cons_zero]
 rw[if_pos ⟨trivial,rfl⟩]
 show N4 (Vu [.ob a "Track" (trk (nD t.n t.m) t.sq t.h t.due t.lap),.im (nD n d)])=_
 rw[Zbm a (nD t.n t.m) hd hb.lap hb.li hb.h hb.due hk]
 rfl
def Do {a:Addr}{t:Tk}(o0 o1 o2:Option S)(ts:List D){n d:Int}(hh:t.h=0)(he:n=t.n/\d=t.m):
  Zia [o0,o1,o2,some (.ow ts),some (.ob a "Track" t.r),Io (nD n d)]=.ok (.nx [o0,o1,o2,some (.ow ts),some (.ob a "Track" t.r),Io (nD n d)]):=by
 refine Ih (Z7 (Zg rfl rfl (show Wm (.int t.h) (.int 0)=.ok (.bl false) by rw[K9 (by simp[D.dep])];simp[D.eq,hh]))) (Z0 (Z7 (Zg rfl rfl (show Wm (nD n d) (nD t.n t.m)=.ok (.bl false) by rw[K9 (Rm _ _),Dl,decide_eq_true he];rfl))))
def Zej {a:Addr}{t:Tk}(o0 o1 o2:Option S)(ts:List D){n d:Int}(hh:t.h=0)(he:¬(n=t.n/\d=t.m)):
  Zia [o0,o1,o2,some (.ow ts),some (.ob a "Track" t.r),Io (nD n d)]=.ok (.rt (.im .non)):=by
 refine Ih (Z7 (Zg rfl rfl (show Wm (.int t.h) (.int 0)=.ok (.bl false) by rw[K9 (by simp[D.dep])];simp[D.eq,hh]))) (Z6 (Z7 (Zg rfl rfl (show Wm (nD n d) (nD t.n t.m)=.ok (.bl true) by rw[K9 (Rm _ _),Dl,decide_eq_false he];rfl))) (Z1 rfl))
inductive At (t u:Tk) (p:Po4):Int->Int->Prop
 |two:t.h≠0->u.h≠0->t.tm p.a p.b*p.d=u.tm p.c p.d*p.b->At t u p (t.tm p.a p.b) p.b
 |one:t.h≠0->u.h=0->p.c=u.n/\p.d=u.m->At t u p (t.tm p.a p.b) p.b
 |oth:t.h=0->p.a=t.n/\p.b=t.m->u.h≠0->At t u p (u.tm p.c p.d) p.d
def Vb (a b:Int):D.eq (Yk a b) (Yk a b)=true:=by
 unfold Yk
 rw[Dl,decide_eq_true ⟨rfl,rfl⟩]
def Znh (x:D):Sr [x] (-1)=some x:=rfl
def Zic (x y:D):Sr [x,y] (-1)=some y:=rfl
noncomputable def Zpi:Zl->M O:=V9 3 (Qj (Uo (DL.tB (Zn Ys 3[0]! (Zn Yj (Zd 3) (Zh6 Lg ↑1)))) 3[0]! (eC .non)))
def Zni (o0 o1 o2 o4 o5:Option S)(a b:Int):Zpi [o0,o1,o2,some (.ow [Yk a b]),o4,o5]=.ok (.rt (.im (Yk a b))):=by
 refine Jy (Z1 (Jb (Z7 (Zg (Q8 rfl rfl (Qd _ _)) (Q8 rfl rfl (Znh _)) (by rw[Y8 (K2 _ _),Vb]))) (Q8 rfl rfl (Qd _ _))))
def Zpa (o0 o1 o2 o4 o5:Option S){a b c d:Int}(hb:0<b)(hd:0<d):Zpi [o0,o1,o2,some (.ow [Yk a b,Yk c d]),o4,o5]=.ok (.rt (.im (if a*d=c*b then Yk a b else .non))):=by
 by_cases h:a*d=c*b
 ·rw[if_pos h]
  exact Jy (Z1 (Jb (Z7 (Zg (Q8 rfl rfl (Qd _ _)) (Q8 rfl rfl (Zic _ _)) (by rw[Y8 (K2 _ _),T7 hb hd,decide_eq_true h]))) (Q8 rfl rfl (Qd _ _))))
 ·rw[if_neg h]
  exact Jy (Z1 (Jl (Z7 (Zg (Q8 rfl rfl (Qd _ _)) (Q8 rfl rfl (Zic _ _)) (by rw[Y8 (K2 _ _),T7 hb hd,decide_eq_false h]))) rfl))
def Zg6 {it ip i1 i2:Nat}{f1 f2:Zl->M D}{f:Zl->M O}{sd s1 s2:Zl}{o1 o2:S}{d1 d2:D}(e1:sd[i1]?=some (some o1))(e2:sd[i2]?=some (some o2))(h1:Ni o1=true)(h2:Ni o2=true)(g1:f1 sd=.ok d1)(g2:f2 sd=.ok d2)(k1:f ((sd.set it (some o1)).set ip (Io d1))=.ok (.nx s1)){r:M O}(k2:f ((s1.set it (some o2)).set ip (Io d2))=r)(hr:(∃s2,r=.ok (.nx s2))\/∃s,r=.ok (.rt s)):N6 it ip i1 i2 f1 f2 f sd=r:=by
 unfold N6
 rw[e1,e2]
 show(if(Ni o1&&Ni o2)=true then _ else _)=_
 rw[h1,h2,if_pos (show(true&&true)=true from rfl),g1]
 show(f2 sd).bind _=_
 rw[g2]
 show Uh it ip f [(o1,d1),(o2,d2)] sd=_
 unfold Uh
 rw[k1]
 show Uh it ip f [(o2,d2)] s1=_
 unfold Uh
 rw[k2]
 rcases hr with⟨s2,rfl⟩|⟨s,rfl⟩
 ·rfl
 ·rfl
def Zg7 {it ip i1 i2:Nat}{f1 f2:Zl->M D}{f:Zl->M O}{sd:Zl}{o1 o2:S}{d1 d2:D}{s:S}(e1:sd[i1]?=some (some o1))(e2:sd[i2]?=some (some o2))(h1:Ni o1=true)(h2:Ni o2=true)(g1:f1 sd=.ok d1)(g2:f2 sd=.ok d2)(k1:f ((sd.set it (some o1)).set ip (Io d1))=.ok (.rt s)):N6 it ip i1 i2 f1 f2 f sd=.ok (.rt s):=by
 unfold N6
 rw[e1,e2]
 show(if(Ni o1&&Ni o2)=true then _ else _)=_
 rw[h1,h2,if_pos (show(true&&true)=true from rfl),g1]
 show(f2 sd).bind _=_
 rw[g2]
 show Uh it ip f [(o1,d1),(o2,d2)] sd=_
 unfold Uh
 rw[k1]
 rfl
section
variable {k:Nat}{a1 a2:Addr}{t u:Tk}{p:Po4}
def Ap {s1:Zl}{r:M O} (k1:Zia [some (.ob a1 "Track" t.r),some (.ob a2 "Track" u.r),Io p.D,some (.ow []),some (.ob a1 "Track" t.r),Io (nD p.a p.b)]=.ok (.nx s1)) (k2:Zia ((s1.set 4 (some (.ob a2 "Track" u.r))).set 5 (Io (nD p.c p.d)))=r) (hr:(∃s2,r=.ok (.nx s2))\/∃s,r=.ok (.rt s)):
  N6 4 5 0 1 2[0]! 2[1]! Zia [some (.ob a1 "Track" t.r),some (.ob a2 "Track" u.r),Io p.D,some (.ow []),none,none]=r:=
 Zg6 (s2:=[]) (sd:=[some (.ob a1 "Track" t.r),some (.ob a2 "Track" u.r),Io p.D,some (.ow []),none,none]) (o1:=.ob a1 "Track" t.r) (o2:=.ob a2 "Track" u.r) (d1:=nD p.a p.b) (d2:=nD p.c p.d) rfl rfl rfl rfl (Zj rfl rfl (Qd _ _)) (Zj rfl rfl (Qq _ _ _)) k1 k2 hr
def Zg8 {s:S} (k1:Zia [some (.ob a1 "Track" t.r),some (.ob a2 "Track" u.r),Io p.D,some (.ow []),some (.ob a1 "Track" t.r),Io (nD p.a p.b)]=.ok (.rt s)):
  N6 4 5 0 1 2[0]! 2[1]! Zia [some (.ob a1 "Track" t.r),some (.ob a2 "Track" u.r),Io p.D,some (.ow []),none,none]=.ok (.rt s):=
 Zg7 (sd:=[some (.ob a1 "Track" t.r),some (.ob a2 "Track" u.r),Io p.D,some (.ow []),none,none]) (o1:=.ob a1 "Track" t.r) (o2:=.ob a2 "Track" u.r) (d1:=nD p.a p.b) (d2:=nD p.c p.d) rfl rfl rfl rfl (Zj rfl rfl (Qd _ _)) (Zj rfl rfl (Qq _ _ _)) k1
def Mz (ht:TB k t)(hu:TB k u)(hp:PoOk k p)(hk:k<=100)(hm:t.h≠0\/u.h≠0):∃d,F_time_to [.ob a1 "Track" t.r,.ob a2 "Track" u.r,.im p.D]=.ok (.im d)/\((d=.non/\∀x y,¬At t u p x y)\/∃x y,At t u p x y/\d=Yk x y):=by
 have tA:=@Zib k a1 t (some (.ob a1 "Track" t.r)) (some (.ob a2 "Track" u.r)) (Io p.D) [] p.a p.b ht hp.x hk
 have tB:=@Zib k a2 u (some (.ob a1 "Track" t.r)) (some (.ob a2 "Track" u.r)) (Io p.D)
 by_cases h1:t.h=0
 ·have h2:u.h≠0:=hm.resolve_left (fun z=>z h1)
  by_cases he:p.a=t.n/\p.b=t.m
  ·refine⟨Yk (u.tm p.c p.d) p.d,(Zng _ _ _ _ _).trans (Z3 (go (Ji 3 _) (go (Ap (Do _ _ _ [] h1 he) (tB [] hu hp.y hk h2 (by decide)) (.inl ⟨_,rfl⟩)) (Zni _ _ _ _ _ _ _)))),.inr ⟨_,_,.oth h1 he h2,rfl⟩⟩
  ·refine⟨.non,(Zng _ _ _ _ _).trans (Z3 (go (Ji 3 _) (Qt (Zg8 (Zej _ _ _ [] h1 he))))),.inl ⟨rfl,fun x y h=>?_⟩⟩
   cases h with
   |two a b c=>exact a h1
   |one a b c=>exact a h1
   |oth a b c=>exact he b
 ·by_cases h2:u.h=0
  ·by_cases he:p.c=u.n/\p.d=u.m
   ·refine⟨Yk (t.tm p.a p.b) p.b,(Zng _ _ _ _ _).trans (Z3 (go (Ji 3 _) (go (Ap (tA h1 (by decide)) (Do _ _ _ _ h2 he) (.inl ⟨_,rfl⟩)) (Zni _ _ _ _ _ _ _)))),.inr ⟨_,_,.one h1 h2 he,rfl⟩⟩
   ·refine⟨.non,(Zng _ _ _ _ _).trans (Z3 (go (Ji 3 _) (Qt (Ap (tA h1 (by decide)) (Zej _ _ _ _ h2 he) (.inr ⟨_,rfl⟩))))),.inl ⟨rfl,fun x y h=>?_⟩⟩
    cases h with
    |two a b c=>exact b h2
    |one a b c=>exact he c
    |oth a b c=>exact h1 a
  ·refine⟨_,(Zng _ _ _ _ _).trans (Z3 (go (Ji 3 _) (go (Ap (tA h1 (by decide)) (tB _ hu hp.y hk h2 (by simp)) (.inl ⟨_,rfl⟩)) (Zpa _ _ _ _ _ hp.x.pos hp.y.pos)))),?_⟩
   by_cases he:t.tm p.a p.b*p.d=u.tm p.c p.d*p.b
   ·rw[if_pos he]
    exact .inr ⟨_,_,.two h1 h2 he,rfl⟩
   ·rw[if_neg he]
    refine .inl ⟨rfl,fun x y h=>?_⟩
    cases h with
    |two a b c=>exact he c
    |one a b c=>exact h2 b
    |oth a b c=>exact h1 a
end
def Xb (t u:Tk)(p:Po4):Option (Int×Int):=
 if t.h≠0 then(if u.h≠0 then(if t.tm p.a p.b*p.d=u.tm p.c p.d*p.b then some (t.tm p.a p.b,p.b) else none) else if p.c=u.n/\p.d=u.m then some (t.tm p.a p.b,p.b) else none)
 else if p.a=t.n/\p.b=t.m then some (u.tm p.c p.d,p.d) else none
def tD:Option (Int×Int)->D
 |some xy=>Yk xy.1 xy.2
 |none=>.non
def Zg9 {k:Nat}{a1 a2:Addr}{t u:Tk}{p:Po4}(ht:TB k t)(hu:TB k u)(hp:PoOk k p)(hk:k<=100)(hm:t.h≠0\/u.h≠0):F_time_to [.ob a1 "Track" t.r,.ob a2 "Track" u.r,.im p.D]=.ok (.im (tD (Xb t u p))):=by
 obtain⟨d,e,h⟩:=Mz (a1:=a1) (a2:=a2) ht hu hp hk hm
 rw[e]
 congr 2
 unfold Xb
 rcases h with⟨rfl,h⟩|⟨x,y,h,rfl⟩
 ·by_cases h1:t.h=0
  ·have h2:=hm.resolve_left (fun z=>z h1)
   rw[if_neg (fun z=>z h1)]
   by_cases he:p.a=t.n/\p.b=t.m
   ·exact absurd (.oth h1 he h2) (h _ _)
   ·rw[if_neg he];rfl
  ·rw[if_pos h1]
   by_cases h2:u.h=0
   ·rw[if_neg (fun z=>z h2)]
    by_cases he:p.c=u.n/\p.d=u.m
    ·exact absurd (.one h1 h2 he) (h _ _)
    ·rw[if_neg he];rfl
   ·rw[if_pos h2]
    by_cases he:t.tm p.a p.b*p.d=u.tm p.c p.d*p.b
    ·exact absurd (.two h1 h2 he) (h _ _)
    ·rw[if_neg he];rfl
 ·cases h with
  |two a b c=>rw[if_pos a,if_pos b,if_pos c];rfl
  |one a b c=>rw[if_pos a,if_neg (fun z=>z b),if_pos c];rfl
  |oth a b c=>rw[if_neg (fun z=>z a),if_pos b];rfl
def Zek {k:Nat}{t:Tk}{n d:Int}(ht:TB k t)(h:Fr k n d):Fr (k+(k+k+1)+k+1) (t.tm n d) d:=by
 have h1:(t.line*d-n).natAbs<=10 ^ (k+k+1):=Vp (Qg ht.li h.bot) (Nat.le_trans h.top (Xs (by lia)))
 have h3:(t.h*(t.line*d-n)*t.lap).natAbs<=10 ^ (k+(k+k+1)+k):=Qg (Qg ht.h h1) ht.lap
 exact⟨h.pos,Vp (Nat.le_trans (Qg ht.due h.bot) (Xs (by lia))) h3,Nat.le_trans h.bot (Xs (by lia))⟩
def Gw {k:Nat}{t u:Tk}{p:Po4}{xy:Int×Int}(ht:TB k t)(hu:TB k u)(hp:PoOk k p)(h:Xb t u p=some xy):Fr (k+(k+k+1)+k+1) xy.1 xy.2:=by
 unfold Xb at h
 split at h
 ·split at h
  ·split at h
   ·cases h;exact Zek ht hp.x
   ·cases h
  ·split at h
   ·cases h;exact Zek ht hp.x
   ·cases h
 ·split at h
  ·cases h;exact Zek hu hp.y
  ·cases h
abbrev Ea:=Option (Po4×Int×Int)
def Y9 (c:Po4->Option (Int×Int))(s:Ea)(p:Po4):Ea:=match c p with
 |none=>s
 |some (x,y)=>match s with
  |none=>some (p,x,y)
  |some (q,x',y')=>if x*y'<x'*y then some (p,x,y) else some (q,x',y')
def Yp (c:Option (Int×Int))(lo hi:Int):Option (Int×Int):=match c with
 |some (x,y)=>if lo*y<x/\x<hi*y then some (x,y) else none
 |none=>none
def Wg {c:Option (Int×Int)}{lo hi x y:Int}(h:c=some (x,y))(a:lo*y<x/\x<hi*y):Yp c lo hi=some (x,y):=by rw[h];exact if_pos a
def J3 {c:Option (Int×Int)}{lo hi x y:Int}(h:c=some (x,y))(a:¬(lo*y<x/\x<hi*y)):Yp c lo hi=none:=by rw[h];exact if_neg a
def Yx {c:Po4->Option (Int×Int)}{s:Ea}{p:Po4}(h:c p=none):Y9 c s p=s:=by unfold Y9;rw[h]
def Gx {c:Po4->Option (Int×Int)}{p:Po4}{x y:Int}(h:c p=some (x,y)):Y9 c none p=some (p,x,y):=by unfold Y9;rw[h]
def Pf {c:Po4->Option (Int×Int)}{p q:Po4}{x y x' y':Int}(h:c p=some (x,y))(hl:x*y'<x'*y):Y9 c (some (q,x',y')) p=some (p,x,y):=by unfold Y9;rw[h];exact if_pos hl
def Pg {c:Po4->Option (Int×Int)}{p q:Po4}{x y x' y':Int}(h:c p=some (x,y))(hl:¬x*y'<x'*y):Y9 c (some (q,x',y')) p=some (q,x',y'):=by unfold Y9;rw[h];exact if_neg hl
def Lu:Ea->D
 |none=>.non
 |some (p,_,_)=>p.D
def Dp (wt:Int):Ea->D
 |none=>nD wt 1
 |some (_,x,y)=>Yk x y
noncomputable def Zpj:Zl->M O:=Zy (Z4 7 (Tb F_time_to (Wz 1 (Wz 2 (Cv (Zd 6) Cu)))))
   (Yy (tA (DL.tB (Zn Xd (Zd 7) (eC .non))) (tA (DL.tB (Zt Vm (Zb (Qf (Zb ↑0 (Zb ↑1 Zh))) (Zb (Zd 7) Zh)))) (DL.tB (Zt Vm (Zb (Zd 7) (Zb (Zd 5) Zh))))))
    (Zy (Z4 4 (Zd 6)) (Z4 5 (Zd 7))) Qs)
def Zha (k:Nat):Ea->Prop
 |none=>True
 |some (_,x,y)=>Fr k x y
section
variable {k:Nat}{ad1 ad2:Addr}{t u:Tk}{wt:Int}
def Zel (sd:Zl)(x y:Int)(e:sd[7]?=some (Io (Yk x y))):DL.tB (Zn Xd (Zd 7) (eC .non)) sd=.ok true:=by
 refine Z7 (Zg (x:=Yk x y) (y:=.non) ?_ rfl rfl)
 unfold Zd;rw[e]
def Zhb (fl:S)(ht:TB k t)(hu:TB k u)(hk:k<=60)(hm:t.h≠0\/u.h≠0)(hw:Fr k wt 1){p:Po4}(hp:PoOk k p){s:Ea}(hs:Zha (k+(k+k+1)+k+1) s)(hs':∀q x y,s=some (q,x,y)->x<wt*y)(v7:Option S):
  ∃w7,Zpj [some fl,some (.ob ad1 "Track" t.r),some (.ob ad2 "Track" u.r),Jo wt,Io (Lu s),Io (Dp wt s),Io p.D,v7] =
   .ok (.nx [some fl,some (.ob ad1 "Track" t.r),some (.ob ad2 "Track" u.r),Jo wt,Io (Lu (Y9 (fun p=>Yp (Xb t u p) 0 wt) s p)),Io (Dp wt (Y9 (fun p=>Yp (Xb t u p) 0 wt) s p)),Io p.D,w7]):=by
 have e1:Tb F_time_to (Wz 1 (Wz 2 (Cv (Zd 6) Cu))) [some fl,some (.ob ad1 "Track" t.r),some (.ob ad2 "Track" u.r),Jo wt,Io (Lu s),Io (Dp wt s),Io p.D,v7]=.ok (tD (Xb t u p)):=by
  show N4 (F_time_to [.ob ad1 "Track" t.r,.ob ad2 "Track" u.r,.im p.D])=_
  rw[Zg9 ht hu hp (by lia) hm]
  rfl
 refine⟨Io (tD (Xb t u p)),go (Zx e1) ?_⟩
 cases ev:Xb t u p with
 |none=>
  rw[Yx (show Yp (Xb t u p) 0 wt=none by rw[ev];rfl)]
  exact Z0 (Sa (Z7 (Zg (g:=Xd) (x:=.non) (y:=.non) rfl rfl rfl)))
 |some xy=>
  obtain⟨x,y⟩:=xy
  have hf:=Gw ht hu hp ev
  obtain⟨n,d,el,hnd,em,_⟩:=Xx hf
  have b0:DL.tB (Zt Vm (Zb (Qf (Zb ↑0 (Zb ↑1 Zh))) (Zb (Zd 7) Zh))) [some fl,some (.ob ad1 "Track" t.r),some (.ob ad2 "Track" u.r),Jo wt,Io (Lu s),Io (Dp wt s),Io p.D,Io (Yk x y)]=.ok (decide (0<x)):=by
   refine Z7 (Zq (aC (X3 rfl rfl) (a1 (d:=nD n d) ?_)) (Si (k:=k+(k+k+1)+k+1) ⟨by decide,by simp,Nat.pow_pos (by decide)⟩ hnd (by lia)) ?_)
   ·show M.ok (Yk x y)=_
    rw[el]
   ·show M.ok (D.bl (decide (0*d<n*1)))=_
    congr 3
    have:=Pe (a:=0) (b:=1) (c:=x) (d:=y) (p:=0) (q:=1) (p':=n) (q':=d) (by decide) hf.pos (by decide) hnd.pos rfl em
    simp only[Int.zero_mul,Int.mul_one] at this ⊢
    exact propext this
  have b1:∃sx sy,0<sy/\(s=none->sx=wt/\sy=1)/\(∀q x' y',s=some (q,x',y')->sx=x'/\sy=y')/\DL.tB (Zt Vm (Zb (Zd 7) (Zb (Zd 5) Zh))) [some fl,some (.ob ad1 "Track" t.r),some (.ob ad2 "Track" u.r),Jo wt,Io (Lu s),Io (Dp wt s),Io p.D,Io (Yk x y)]=.ok (decide (x*sy<sx*y)):=by
   cases s with
   |none=>
    refine⟨wt,1,by decide,fun _=>⟨rfl,rfl⟩,(fun _ _ _ h=>by cases h),Z7 (Zq (aC (d:=nD n d) ?_ (a1 (d:=nD wt 1) rfl)) (Si hnd (hw.mono (by lia)) (by lia)) ?_)⟩
    ·show M.ok (Yk x y)=_
     rw[el]
    ·show M.ok (D.bl (decide (n*1<wt*d)))=_
     congr 3
     exact propext (Pe (a:=x) (b:=y) (c:=wt) (d:=1) hf.pos (by decide) hnd.pos (by decide) em rfl)
   |some z=>
    obtain⟨q,x',y'⟩:=z
    have hs:Fr _ x' y':=hs
    obtain⟨n',d',el',hnd',em',_⟩:=Xx hs
    refine⟨x',y',hs.pos,(fun h=>by cases h),(fun _ _ _ h=>by cases h;exact⟨rfl,rfl⟩),Z7 (Zq (aC (d:=nD n d) ?_ (a1 (d:=nD n' d') ?_)) (Si hnd hnd' (by lia)) ?_)⟩
    ·show M.ok (Yk x y)=_
     rw[el]
    ·show M.ok (Yk x' y')=_
     rw[el']
    ·show M.ok (D.bl (decide (n*d'<n'*d)))=_
     congr 3
     exact propext (Pe hf.pos hs.pos hnd.pos hnd'.pos em em')
  obtain⟨sx,sy,psy,n1,n2,b1⟩:=b1
  have nn:DL.tB (Zn Xd (Zd 7) (eC .non)) [some fl,some (.ob ad1 "Track" t.r),some (.ob ad2 "Track" u.r),Jo wt,Io (Lu s),Io (Dp wt s),Io p.D,Io (Yk x y)]=.ok true:=Zel _ x y rfl
  by_cases h0:0<x
  ·by_cases h1:x*sy<sx*y
   ·have acc:0*y<x/\x<wt*y:=by
     refine⟨by lia,?_⟩
     cases hs0:s with
     |none=>obtain⟨rfl,rfl⟩:=n1 hs0;lia
     |some z=>
      obtain⟨q,x',y'⟩:=z
      obtain⟨rfl,rfl⟩:=n2 _ _ _ hs0
      have h2:=hs' _ _ _ hs0
      have h3:=Int.mul_lt_mul_of_pos_right h2 hf.pos
      have h4:x*sy<wt*y*sy:=by
       refine Int.lt_trans h1 ?_
       rw[Int.mul_right_comm]
       exact h3
      exact Int.lt_of_mul_lt_mul_right h4 (Int.le_of_lt psy)
    refine(Z6 (V3 nn (V3 (b0.trans (by rw[decide_eq_true h0])) (b1.trans (by rw[decide_eq_true h1])))) (go (Zx rfl) (Zx rfl))).trans ?_
    have hw':=Wg ev acc
    cases s with
    |none=>rw[Gx (c:=fun p=>Yp (Xb t u p) 0 wt) hw'];rfl
    |some z=>
     obtain⟨q,x',y'⟩:=z
     obtain⟨rfl,rfl⟩:=n2 _ _ _ rfl
     rw[Pf (c:=fun p=>Yp (Xb t u p) 0 wt) hw' h1]
     rfl
   ·refine(Z0 (V3 nn (V3 (b0.trans (by rw[decide_eq_true h0])) (b1.trans (by rw[decide_eq_false h1]))))).trans ?_
    cases s with
    |none=>
     obtain⟨rfl,rfl⟩:=n1 rfl
     rw[Yx (c:=fun p=>Yp (Xb t u p) 0 sx) (J3 ev (by lia))]
     rfl
    |some z=>
     obtain⟨q,x',y'⟩:=z
     obtain⟨rfl,rfl⟩:=n2 _ _ _ rfl
     by_cases acc:0*y<x/\x<wt*y
     ·rw[Pg (c:=fun p=>Yp (Xb t u p) 0 wt) (Wg ev acc) h1];rfl
     ·rw[Yx (c:=fun p=>Yp (Xb t u p) 0 wt) (J3 ev acc)];rfl
  ·refine(Z0 (V3 nn (Sa (b0.trans (by rw[decide_eq_false h0]))))).trans ?_
   rw[Yx (c:=fun p=>Yp (Xb t u p) 0 wt) (J3 ev (by lia))]
   rfl
def Zem (ht:TB k t)(hu:TB k u){p:Po4}(hp:PoOk k p){s:Ea}(hs:Zha (k+(k+k+1)+k+1) s/\∀q x y,s=some (q,x,y)->x<wt*y):
  Zha (k+(k+k+1)+k+1) (Y9 (fun p=>Yp (Xb t u p) 0 wt) s p)/\∀q x y,Y9 (fun p=>Yp (Xb t u p) 0 wt) s p=some (q,x,y)->x<wt*y:=by
 cases ev:Xb t u p with
 |none=>
  rw[Yx (show Yp (Xb t u p) 0 wt=none by rw[ev];rfl)]
  exact hs
 |some xy=>
  obtain⟨x,y⟩:=xy
  have hf:=Gw ht hu hp ev
  by_cases acc:0*y<x/\x<wt*y
  ·have hw':=Wg ev acc
   have new:Zha (k+(k+k+1)+k+1) (some (p,x,y))/\∀q x' y',some (p,x,y)=some (q,x',y')->x'<wt*y':=⟨hf,fun q x' y' h=>by cases h;exact acc.2⟩
   cases s with
   |none=>rw[Gx (c:=fun p=>Yp (Xb t u p) 0 wt) hw'];exact new
   |some z=>
    obtain⟨q,x',y'⟩:=z
    by_cases hl:x*y'<x'*y
    ·rw[Pf (c:=fun p=>Yp (Xb t u p) 0 wt) hw' hl];exact new
    ·rw[Pg (c:=fun p=>Yp (Xb t u p) 0 wt) hw' hl];exact hs
  ·rw[Yx (c:=fun p=>Yp (Xb t u p) 0 wt) (J3 ev acc)]
   exact hs
theorem Iu (fl:S)(ht:TB k t)(hu:TB k u)(hk:k<=60)(hm:t.h≠0\/u.h≠0)(hw:Fr k wt 1):∀(ps:List Po4) (s:Ea) (v6 v7:Option S),(∀p∈ps,PoOk k p)->(Zha (k+(k+k+1)+k+1) s/\∀q x y,s=some (q,x,y)->x<wt*y) ->
  ∃w6 w7,Y6 (Y1 6) Zpj (ps.map Po4.D) [some fl,some (.ob ad1 "Track" t.r),some (.ob ad2 "Track" u.r),Jo wt,Io (Lu s),Io (Dp wt s),v6,v7] =
   .ok (.nx [some fl,some (.ob ad1 "Track" t.r),some (.ob ad2 "Track" u.r),Jo wt,Io (Lu (ps.foldl (Y9 (fun p=>Yp (Xb t u p) 0 wt)) s)),Io (Dp wt (ps.foldl (Y9 (fun p=>Yp (Xb t u p) 0 wt)) s)),w6,w7])
 |[],s,v6,v7,_,_=>⟨v6,v7,rfl⟩
 |p::ps,s,v6,v7,hp,hs=>by
  obtain⟨w7,e⟩:=Zhb (ad1:=ad1) (ad2:=ad2) fl ht hu hk hm hw (hp p (List.mem_cons_self ..)) hs.1 hs.2 v7
  obtain⟨x6,x7,e2⟩:=Iu fl ht hu hk hm hw ps (Y9 (fun p=>Yp (Xb t u p) 0 wt) s p) (Io p.D) w7 (fun q hq=>hp q (List.mem_cons_of_mem _ hq)) (Zem ht hu (hp p (List.mem_cons_self ..)) hs)
  exact⟨x6,x7,(Yu rfl e).trans e2⟩
def Zen (q:List (List Y3×D))(x y:Int)(ps:List Po4):Prop:=(Xm q [.inl x,.inl y]=some (.lst (ps.map Po4.D)))\/(Xm q [.inl x,.inl y]=none/\ps=[])
def Zhc (a:Addr)(g:D){q:List (List Y3×D)}{ps:List Po4}(hh:Zen q t.sq u.sq ps)(ht:TB k t)(hu:TB k u)(hk:k<=60)(hm:t.h≠0\/u.h≠0)(hw:Fr k wt 1)(hp:∀p∈ps,PoOk k p):
  F_person_ahead [.fl a g q,.ob ad1 "Track" t.r,.ob ad2 "Track" u.r,.im (.int wt)]=.ok (.im (Lu (ps.foldl (Y9 (fun p=>Yp (Xb t u p) 0 wt)) none))):=by
 obtain⟨w6,w7,e⟩:=Iu (ad1:=ad1) (ad2:=ad2) (.fl a g q) ht hu hk hm hw ps none none none hp ⟨trivial,fun _ _ _ h=>by cases h⟩
 have e1:V6 (Tc 0 Kb (Zb (Qf (Zb (Yo 1 "Track" "square") (Zb (Yo 2 "Track" "square") Zh))) Zh)) [some (.fl a g q),some (.ob ad1 "Track" t.r),some (.ob ad2 "Track" u.r),Jo wt,Io .non,Io (nD wt 1),none,none]=.ok (ps.map Po4.D):=by
  have e2:Tc 0 Kb (Zb (Qf (Zb (Yo 1 "Track" "square") (Zb (Yo 2 "Track" "square") Zh))) Zh) [some (.fl a g q),some (.ob ad1 "Track" t.r),some (.ob ad2 "Track" u.r),Jo wt,Io .non,Io (nD wt 1),none,none]=.ok ((Xm q [.inl t.sq,.inl u.sq]).getD (.tup [])):=by
   show N4 (Kb [.fl a g q,.im (.tup [.int t.sq,.int u.sq])])=_
   rfl
  rcases hh with h|⟨h,rfl⟩
  ·rw[h] at e2
   exact Di e2
  ·rw[h] at e2
   exact T1 e2
 exact(Zp3 _ _ _ _ _ _).trans (Z3 (go (Zx rfl) (go (Zx (X3 rfl rfl)) (go ((Yt e1).trans e) (Z1 rfl)))))
end
structure Sd where
 up:Bool
 x:Int
 y:Int
 f:Bool
 g:Bool
def fc (b:Bool):D:=.str (if b=true then Str.ofString "m" else Str.ofString "p")
def kd (b:Bool):D:=.str (if b=true then Str.ofString "up" else Str.ofString "flat")
def Sd.D (s:Sd):D:=.tup [kd s.up,.int s.x,.int s.y,fc s.f,fc s.g]
def Qo (W H:Int)(ss:List Sd):D:=.tup [.int W,.int H,.tup (ss.map Sd.D)]
def Sd.at (s:Sd)(u:Bool)(x y:Int):Bool:=decide (s.up=u/\s.x=x/\s.y=y)
def Jz (W H:Int)(ss:List Sd)(u:Bool)(x y:Int):Option (Bool×Bool):=match ss.find? (fun s=>s.at u x y) with
 |some s=>some (s.f,s.g)
 |none=>if(if u=true then x else y)=0\/(if u=true then x else y)=(if u=true then W else H) then some (false,false) else none
def M0:Option (Bool×Bool)->D
 |some (f,g)=>.tup [fc f,fc g]
 |none=>.non
def Zid (a b:Bool):D.eq (kd a) (kd b)=decide (a=b):=by cases a<;>cases b<;>rfl
def Iv (s:Sd)(u:Bool)(x y:Int):D.eq (.tup [kd s.up,.int s.x,.int s.y]) (.tup [kd u,.int x,.int y])=s.at u x y:=by
 unfold Sd.at
 simp only[D.eq,D.eqs,Zid]
 by_cases h1:s.up=u<;>by_cases h2:s.x=x<;>by_cases h3:s.y=y<;>simp[h1,h2,h3]
def T9 (b:Bool)(x y:Int):(D.tup [kd b,.int x,.int y]).dep<=60:=by cases b<;>simp[kd,D.dep,D.deps]
def fB:Zl->M O:=Yy (DL.tB (Zn Ys (Ma (Zd 4) Wk (Xa ↑3)) (Qf (Zb (Zd 1) (Zb (Zd 2) (Zb (Zd 3) Zh)))))) (Qj (Ma (Zd 4) (Xa ↑3) Wk)) Qs
def V5 {fa fb fc:Zl->M D}{sd:Zl}{a b c:D}(h1:fa sd=.ok a)(h2:fb sd=.ok b)(h3:fc sd=.ok c):Qf (Zb fa (Zb fb (Zb fc Zh))) sd=.ok (.tup [a,b,c]):=by
 unfold Qf
 rw[aC h1 (aC h2 (Law.a1 h3))]
 rfl
theorem Zeo (h0:Option S)(u:Bool)(x y:Int):∀(ss:List Sd) (v:Option S),(∃s,ss.find? (fun s=>s.at u x y)=some s/\Y6 (Y1 4) fB (ss.map Sd.D) [h0,Io (kd u),Jo x,Jo y,v]=.ok (.rt (.im (.tup [fc s.f,fc s.g])))) \/
  (ss.find? (fun s=>s.at u x y)=none/\∃w,Y6 (Y1 4) fB (ss.map Sd.D) [h0,Io (kd u),Jo x,Jo y,v]=.ok (.nx [h0,Io (kd u),Jo x,Jo y,w]))
 |[],v=>.inr ⟨rfl,v,rfl⟩
 |s::ss,v=>by
  have e1:DL.tB (Zn Ys (Ma (Zd 4) Wk (Xa ↑3)) (Qf (Zb (Zd 1) (Zb (Zd 2) (Zb (Zd 3) Zh))))) [h0,Io (kd u),Jo x,Jo y,Io s.D]=.ok (s.at u x y):=by
   refine Z7 (Zg (x:=.tup [kd s.up,.int s.x,.int s.y]) rfl (V5 rfl rfl rfl) ?_)
   rw[Y8 (T9 _ _ _),Iv]
  by_cases h:s.at u x y=true
  ·refine .inl ⟨s,by rw[List.find?_cons,h],?_⟩
   rw[h] at e1
   have e2:fB [h0,Io (kd u),Jo x,Jo y,Io s.D]=.ok (.rt (.im (.tup [fc s.f,fc s.g]))):=Z6 e1 (Z1 rfl)
   unfold List.map Y6
   show(fB [h0,Io (kd u),Jo x,Jo y,Io s.D]).bind _=_
   rw[e2]
   rfl
  ·have hf:s.at u x y=false:=by cases hh:s.at u x y;rfl;exact absurd hh h
   rw[hf] at e1
   have e2:fB [h0,Io (kd u),Jo x,Jo y,Io s.D]=.ok (.nx [h0,Io (kd u),Jo x,Jo y,Io s.D]):=Z0 e1
   rcases Zeo h0 u x y ss (Io s.D) with⟨s',g1,g2⟩|⟨g1,w,g2⟩
   ·exact .inl ⟨s',by rw[List.find?_cons,hf];exact g1,(Yu rfl e2).trans g2⟩
   ·exact .inr ⟨by rw[List.find?_cons,hf];exact g1,w,(Yu rfl e2).trans g2⟩
def Zk7 (W H:Int)(u:Bool)(x y:Int):∃d,X9 [.int W,.int H,kd u,.int x,.int y]=.ok (.im d)/\(d=.non↔¬((if u=true then x else y)=0\/(if u=true then x else y)=(if u=true then W else H))):=by
 have e5:Uo (DL.tB (Zn Ys (Zd 2) ↑"up")) (Zd 3) (Zd 4) [Jo W,Jo H,Io (kd u),Jo x,Jo y,none,none]=.ok (.int (if u=true then x else y)):=by
  cases u
  ·exact Jl (Z7 (Zg rfl rfl (by rw[Y8 (by simp[kd,D.dep])];rfl))) rfl
  ·exact Jb (Z7 (Zg rfl rfl (by rw[Y8 (by simp[kd,D.dep])];rfl))) rfl
 have e6:∀z,Uo (DL.tB (Zn Ys (Zd 2) ↑"up")) (Zd 0) (Zd 1) [Jo W,Jo H,Io (kd u),Jo x,Jo y,z,none]=.ok (.int (if u=true then W else H)):=fun z=>by
  cases u
  ·exact Jl (Z7 (Zg rfl rfl (by rw[Y8 (by simp[kd,D.dep])];rfl))) rfl
  ·exact Jb (Z7 (Zg rfl rfl (by rw[Y8 (by simp[kd,D.dep])];rfl))) rfl
 generalize (if u=true then x else y)=l at *
 generalize (if u=true then W else H)=m at *
 by_cases h0:l=0
 ·exact⟨.int 3,(Zkv _ _ _ _ _ _ _).trans (Z3 (go (Zx e5) (go (Zx (e6 _)) (Qt (Z6 (Z7 (Zg rfl rfl (by rw[Qy,h0];rfl))) (Z1 rfl)))))),by simp[h0]⟩
 ·by_cases h1:l=m
  ·exact⟨.int 4,(Zkv _ _ _ _ _ _ _).trans (Z3 (go (Zx e5) (go (Zx (e6 _)) (go (Z0 (Z7 (Zg rfl rfl (by rw[Qy];simp[h0])))) (Qt (Z6 (Z7 (Zg rfl rfl (by rw[Qy];simp[h1]))) (Z1 rfl))))))),by simp[h1]⟩
  ·exact⟨.non,(Zkv _ _ _ _ _ _ _).trans (Z3 (go (Zx e5) (go (Zx (e6 _)) (go (Z0 (Z7 (Zg rfl rfl (by rw[Qy];simp[h0])))) (go (Z0 (Z7 (Zg rfl rfl (by rw[Qy];simp[h1])))) (Z1 rfl)))))),by simp[h0,h1]⟩
def Iw (W H:Int)(ss:List Sd)(u:Bool)(x y:Int):Y7 [Qo W H ss,kd u,.int x,.int y]=.ok (.im (M0 (Jz W H ss u x y))):=by
 have e0:V6 0[2]! [Io (Qo W H ss),Io (kd u),Jo x,Jo y,none]=.ok (ss.map Sd.D):=T1 (Zj rfl rfl (Ls _ _ _ _))
 unfold Jz
 rcases Zeo (Io (Qo W H ss)) u x y ss none with⟨s,g1,g2⟩|⟨g1,w,g2⟩
 ·rw[g1]
  exact(Zbk _ _ _ _ _ _).trans (Z3 (Qt ((Yt e0).trans g2)))
 ·rw[g1]
  obtain⟨d,ed,hd⟩:=Zk7 W H u x y
  have ec:Zt X9 (Zb 0[0]! (Zb 0[1]! (Zb (Zd 1) (Zb (Zd 2) (Zb (Zd 3) Zh))))) [Io (Qo W H ss),Io (kd u),Jo x,Jo y,w]=.ok d:=
   Zq (aC (Zj rfl rfl (Qd _ _)) (aC (Zj rfl rfl (Qq _ _ _)) (aC rfl (aC rfl (Law.a1 rfl))))) ed rfl
  by_cases hn:d=.non
  ·have hr:=hd.mp hn
   simp only[if_neg hr]
   subst hn
   exact(Zbk _ _ _ _ _ _).trans (Z3 (go ((Yt e0).trans g2) (Qt (Z6 (Z7 (Zg ec rfl rfl)) (Z1 rfl)))))
  ·have hr:_:=Classical.not_not.mp (fun z=>hn (hd.mpr z))
   simp only[if_pos hr]
   refine(Zbk _ _ _ _ _ _).trans (Z3 (go ((Yt e0).trans g2) (go (Z0 (Z7 (Zg ec rfl ?_))) (Z1 (X3 rfl rfl)))))
   cases d<;>first|rfl|exact absurd rfl hn
def fL:Zl->M O:=Yy (DL.tB (Zn Ys (Ma (Zd 2) Wk (Xa ↑3)) (Zd 1))) (Qj (Ma (Zd 2) (Xa ↑3) Wk)) Qs
theorem Zep (h0:Option S)(u:Bool)(x y:Int):∀(ss:List Sd) (v:Option S),(∃s,ss.find? (fun s=>s.at u x y)=some s/\Y6 (Y1 2) fL (ss.map Sd.D) [h0,Io (.tup [kd u,.int x,.int y]),v]=.ok (.rt (.im (.tup [fc s.f,fc s.g])))) \/
  (ss.find? (fun s=>s.at u x y)=none/\∃w,Y6 (Y1 2) fL (ss.map Sd.D) [h0,Io (.tup [kd u,.int x,.int y]),v]=.ok (.nx [h0,Io (.tup [kd u,.int x,.int y]),w]))
 |[],v=>.inr ⟨rfl,v,rfl⟩
 |s::ss,v=>by
  have e1:DL.tB (Zn Ys (Ma (Zd 2) Wk (Xa ↑3)) (Zd 1)) [h0,Io (.tup [kd u,.int x,.int y]),Io s.D]=.ok (s.at u x y):=by
   refine Z7 (Zg (x:=.tup [kd s.up,.int s.x,.int s.y]) (y:=.tup [kd u,.int x,.int y]) rfl rfl ?_)
   rw[Y8 (T9 _ _ _),Iv]
  by_cases h:s.at u x y=true
  ·refine .inl ⟨s,by rw[List.find?_cons,h],?_⟩
   rw[h] at e1
   have e2:fL [h0,Io (.tup [kd u,.int x,.int y]),Io s.D]=.ok (.rt (.im (.tup [fc s.f,fc s.g]))):=Z6 e1 (Z1 rfl)
   unfold List.map Y6
   show(fL [h0,Io (.tup [kd u,.int x,.int y]),Io s.D]).bind _=_
   rw[e2]
   rfl
  ·have hf:s.at u x y=false:=by cases hh:s.at u x y;rfl;exact absurd hh h
   rw[hf] at e1
   have e2:fL [h0,Io (.tup [kd u,.int x,.int y]),Io s.D]=.ok (.nx [h0,Io (.tup [kd u,.int x,.int y]),Io s.D]):=Z0 e1
   rcases Zep h0 u x y ss (Io s.D) with⟨s',g1,g2⟩|⟨g1,w,g2⟩
   ·exact .inl ⟨s',by rw[List.find?_cons,hf];exact g1,(Yu rfl e2).trans g2⟩
   ·exact .inr ⟨by rw[List.find?_cons,hf];exact g1,w,(Yu rfl e2).trans g2⟩
def Znj (W H:Int)(u:Bool)(x y:Int):∃d,Vn [.int W,.int H,.tup [kd u,.int x,.int y]]=.ok (.im d)/\(d=.non↔¬((if u=true then x else y)=0\/(if u=true then x else y)=(if u=true then W else H))):=by
 have e5:Uo (DL.tB (Zn Ys 2[0]! ↑"up")) (Qf (Zb 2[1]! (Zb (Zd 0) Zh))) (Qf (Zb 2[2]! (Zb (Zd 1) Zh))) [Jo W,Jo H,Io (.tup [kd u,.int x,.int y]),none,none]=.ok (.tup [.int (if u=true then x else y),.int (if u=true then W else H)]):=by
  cases u
  ·exact Jl (Z7 (Zg (Zj rfl rfl (Qd _ _)) rfl (by rw[Y8 (by simp[kd,D.dep])];rfl))) (X3 (Zj rfl rfl (Ls _ _ _ _)) rfl)
  ·exact Jb (Z7 (Zg (Zj rfl rfl (Qd _ _)) rfl (by rw[Y8 (by simp[kd,D.dep])];rfl))) (X3 (Zj rfl rfl (Qq _ _ _)) rfl)
 generalize (if u=true then x else y)=l at *
 generalize (if u=true then W else H)=m at *
 by_cases h0:l=0
 ·exact⟨.int 0,(Zbu _ _ _ _ _).trans (Z3 (go (Dk e5) (Qt (Z6 (Z7 (Zg rfl rfl (by rw[Qy,h0];rfl))) (Z1 rfl))))),by simp[h0]⟩
 ·by_cases h1:l=m
  ·exact⟨.int 1,(Zbu _ _ _ _ _).trans (Z3 (go (Dk e5) (go (Z0 (Z7 (Zg rfl rfl (by rw[Qy];simp[h0])))) (Z1 (Jb (Z7 (Zg rfl rfl (by rw[Qy];simp[h1]))) rfl))))),by simp[h1]⟩
  ·exact⟨.non,(Zbu _ _ _ _ _).trans (Z3 (go (Dk e5) (go (Z0 (Z7 (Zg rfl rfl (by rw[Qy];simp[h0])))) (Z1 (Jl (Z7 (Zg rfl rfl (by rw[Qy];simp[h1]))) rfl))))),by simp[h0,h1]⟩
def Ix (W H:Int)(ss:List Sd)(u:Bool)(x y:Int):U0 [Qo W H ss,.tup [kd u,.int x,.int y]]=.ok (.im (M0 (Jz W H ss u x y))):=by
 have e0:V6 0[2]! [Io (Qo W H ss),Io (.tup [kd u,.int x,.int y]),none]=.ok (ss.map Sd.D):=T1 (Zj rfl rfl (Ls _ _ _ _))
 unfold Jz
 rcases Zep (Io (Qo W H ss)) u x y ss none with⟨s,g1,g2⟩|⟨g1,w,g2⟩
 ·rw[g1]
  exact(Mx _ _ _ _).trans (Z3 (Qt ((Yt e0).trans g2)))
 ·rw[g1]
  obtain⟨d,ed,hd⟩:=Znj W H u x y
  have ec:Zt Vn (Zb 0[0]! (Zb 0[1]! (Zb (Zd 1) Zh))) [Io (Qo W H ss),Io (.tup [kd u,.int x,.int y]),w]=.ok d:=
   Zq (aC (Zj rfl rfl (Qd _ _)) (aC (Zj rfl rfl (Qq _ _ _)) (Law.a1 rfl))) ed rfl
  by_cases hn:d=.non
  ·have hr:=hd.mp hn
   simp only[if_neg hr]
   subst hn
   exact(Mx _ _ _ _).trans (Z3 (go ((Yt e0).trans g2) (Z1 (Jb (Z7 (Zg ec rfl rfl)) rfl))))
  ·have hr:_:=Classical.not_not.mp (fun z=>hn (hd.mpr z))
   simp only[if_pos hr]
   refine(Mx _ _ _ _).trans (Z3 (go ((Yt e0).trans g2) (Z1 (Jl (Z7 (Zg ec rfl ?_)) (X3 rfl rfl)))))
   cases d<;>first|rfl|exact absurd rfl hn
def Sd.tch (s:Sd)(x y:Int):Bool:=s.at true x (y-1)||(s.at true x y||(s.at false (x-1) y||s.at false x y))
def Ko (W H:Int)(ss:List Sd)(x y:Int):Bool:=(decide (x=0\/x=W)||decide (y=0\/y=H))||ss.any (fun s=>s.tch x y)
theorem M1 {α:Type}(b:α->Bool):∀l:List α,Kh (l.map fun a=>D.bl (b a))=some (l.map b)
 |[]=>rfl
 |a::l=>by
  rw[List.map_cons,List.map_cons]
  simp only[Kh,M1 b l]
  rfl
def any_map {α:Type}(b:α->Bool)(l:List α):Zf9 [.lst (l.map fun a=>.bl (b a))]=.ok (.bl (l.any b)):=by
 show(match Kh (l.map fun a=>D.bl (b a)) with|some bs=>M.ok (D.bl (bs.any id))|none=>.bad)=_
 rw[M1]
 simp
def Dq (x a b:Int):Xq [.int x,.int a,.int b]=.ok (.im (.bl (decide (a<=x)&&decide (x<=b)))):=by
 have e:Wd [.int x]=.ok (.im (.bl true)):=rfl
 refine(Zbu _ _ _ _ _).trans (Z3 (Z1 (Al (Zq (Law.a1 rfl) e rfl) (Zd4 rfl rfl))))
def Zpk (x a b:Int):Md (.int x) [.int a,.int b]=decide (x=a\/x=b):=by
 have e:Md (.int x) [.int a,.int b]=((a==x)||((b==x)||false)):=by simp only[Md,List.any_cons,List.any_nil,D.eq]
 rw[e,Bool.eq_iff_iff]
 simp only[Bool.or_false,Bool.or_eq_true,beq_iff_eq,decide_eq_true_eq]
 exact⟨fun h=>h.imp Eq.symm Eq.symm,fun h=>h.imp Eq.symm Eq.symm⟩
def Iy (l:List Int):D.deps (l.map D.int)<=60:=Ul fun d hd=>by
 obtain⟨i,_,rfl⟩:=List.mem_map.mp hd
 simp[D.dep]
def Zie (x a b:Int):Er (.int x) (.tup [.int a,.int b])=.ok (.bl (decide (x=a\/x=b))):=by
 show(if D.deps [.int a,.int b]<=60 then M.ok (D.bl (Md (.int x) [.int a,.int b])) else .bad)=_
 rw[if_pos (show D.deps [D.int a,D.int b]<=60 from Iy [a,b]),Zpk]
def Zif (x a b:Int):Er (.int x) (.lst [.int a,.int b])=.ok (.bl (decide (x=a\/x=b))):=by
 show(if D.deps [.int a,.int b]<=60 then M.ok (D.bl (Md (.int x) [.int a,.int b])) else .bad)=_
 rw[if_pos (show D.deps [D.int a,D.int b]<=60 from Iy [a,b]),Zpk]
def Yh (u:Bool)(x y:Int):D:=.tup [kd u,.int x,.int y]
def Zp4 (s:Sd)(x y:Int):Er (.tup [kd s.up,.int s.x,.int s.y]) (.lst [Yh true x (y-1),Yh true x y,Yh false (x-1) y,Yh false x y])=.ok (.bl (s.tch x y)):=by
 have hd:D.deps [Yh true x (y-1),Yh true x y,Yh false (x-1) y,Yh false x y]<=60:=Ul fun d hd=>by
  simp only[List.mem_cons,List.not_mem_nil,or_false] at hd
  rcases hd with rfl|rfl|rfl|rfl<;>exact T9 _ _ _
 show(if D.deps [Yh true x (y-1),Yh true x y,Yh false (x-1) y,Yh false x y]<=60 then M.ok (D.bl (Md (.tup [kd s.up,.int s.x,.int s.y]) [Yh true x (y-1),Yh true x y,Yh false (x-1) y,Yh false x y])) else .bad)=_
 rw[if_pos hd]
 have sy:∀u a b,D.eq (Yh u a b) (.tup [kd s.up,.int s.x,.int s.y])=s.at u a b:=fun u a b=>by
  unfold Yh Sd.at
  simp only[D.eq,D.eqs,Zid]
  rw[Bool.eq_iff_iff]
  simp only[Bool.and_true,Bool.and_eq_true,beq_iff_eq,decide_eq_true_eq]
  exact⟨fun⟨h1,h2,h3⟩=>⟨h1.symm,h2.symm,h3.symm⟩,fun⟨h1,h2,h3⟩=>⟨h1.symm,h2.symm,h3.symm⟩⟩
 unfold Sd.tch Md
 simp only[List.any_cons,List.any_nil,sy,Bool.or_false]
def Zeq {W H:Int}{ss:List Sd}(hl:ss.length<=1000){x y:Int}(x0:0<=x)(x1:x<=W)(y0:0<=y)(y1:y<=H):Uj [Qo W H ss,.int x,.int y]=.ok (.im (.bl (Ko W H ss x y))):=by
 have c1:Zt Xq (Zb (Zd 1) (Zb ↑0 (Zb (Zd 3) Zh))) [Io (Qo W H ss),Jo x,Jo y,Jo W,Jo H,none]=.ok (.bl true):=
  Zq (aC rfl (aC rfl (Law.a1 rfl))) (Dq x 0 W) (by show M.ok (D.bl _)=_;rw[decide_eq_true x0,decide_eq_true x1];rfl)
 have c2:Zt Xq (Zb (Zd 2) (Zb ↑0 (Zb (Zd 4) Zh))) [Io (Qo W H ss),Jo x,Jo y,Jo W,Jo H,none]=.ok (.bl true):=
  Zq (aC rfl (aC rfl (Law.a1 rfl))) (Dq y 0 H) (by show M.ok (D.bl _)=_;rw[decide_eq_true y0,decide_eq_true y1];rfl)
 have c3:DL.tO (DL.tB (Zn Er (Zd 1) (Qf (Zb ↑0 (Zb (Zd 3) Zh))))) (DL.tB (Zn Er (Zd 2) (Qf (Zb ↑0 (Zb (Zd 4) Zh))))) [Io (Qo W H ss),Jo x,Jo y,Jo W,Jo H,none]=.ok (decide (x=0\/x=W)||decide (y=0\/y=H)):=
  Zky (Z7 (Zg rfl (X3 rfl rfl) (Zie x 0 W))) (Z7 (Zg rfl (X3 rfl rfl) (Zie y 0 H)))
 unfold Ko
 refine(Zbu _ _ _ _ _).trans (Z3 (go (Zx (Zj rfl rfl (Qd _ _))) (go (Zx (Zj rfl rfl (Qq _ _ _))) (go (Z0 (Na (Rj (Z7 c1)) (Rj (Z7 c2)))) ?_))))
 cases hb:(decide (x=0\/x=W)||decide (y=0\/y=H)) with
 |true=>
  rw[hb] at c3
  exact Qt (Z6 c3 (Z1 rfl))
 |false=>
  rw[hb] at c3
  refine go (Z0 c3) (go (Zx (d:=.lst [Yh true x (y-1),Yh true x y,Yh false (x-1) y,Yh false x y]) (Wf (aC (V5 rfl rfl rfl) (aC (V5 rfl rfl rfl) (aC (V5 rfl rfl rfl) (Law.a1 (V5 rfl rfl rfl))))) (Jp (by show(4:Nat)<=1000000;decide)))) (Z1 (Xv (Law.a1 (Rk (Gv (T1 (Zj rfl rfl (Ls _ _ _ _))) (by rw[List.length_map];exact hl) (Zd5 Sd.D (fun s=>.bl (s.tch x y)) ss fun s _=>⟨_,rfl,Zg (x:=.tup [kd s.up,.int s.x,.int s.y]) rfl rfl (Zp4 s x y)⟩)))) (any_map _ ss))))
inductive Th where
 |no|co|fa (b:Bool)
 deriving DecidableEq
def Th.D:Th->D
 |.no=>.non
 |.co=>.str (Str.ofString "corner")
 |.fa b=>fc b
def Th.mir:Th->Bool
 |.fa true=>true
 |_=>false
def Ph (h:Int):Option (Bool×Bool)->Th
 |none=>.no
 |some (f,g)=>.fa (if 0<h then f else g)
def thing (W H:Int)(ss:List Sd)(t u:Tk)(now:Int):Th:=
 if t.due=now/\u.due=now then(if Ko W H ss t.line u.line=true then .co else .no)
 else if t.due=now then Ph t.h (Jz W H ss true t.line u.sq)
 else if u.due=now then Ph u.h (Jz W H ss false t.sq u.line)
 else .no
def Aq (th:Th):th.D.dep<=60:=by cases th<;>simp[Th.D,fc,D.dep]
def Zhd (th:Th):D.eq th.D (.str (Str.ofString "m"))=th.mir:=by
 cases th with
 |no=>rfl
 |co=>rfl
 |fa b=>cases b<;>rfl
def Znk (th:Th):D.eq th.D (.str (Str.ofString "p"))=decide (th=.fa false):=by
 cases th with
 |no=>rfl
 |co=>rfl
 |fa b=>cases b<;>rfl
def Zpb (th:Th):D.eq th.D (.str (Str.ofString "corner"))=decide (th=.co):=by
 cases th with
 |no=>rfl
 |co=>rfl
 |fa b=>cases b<;>rfl
def Dr {x y:Int}(h:y<x):Pt (.int x) (.int y)=.ok (.bl true):=by
 show M.ok (D.bl (decide (y<x)))=_
 rw[decide_eq_true h]
def Iz {x y:Int}(h:¬y<x):Pt (.int x) (.int y)=.ok (.bl false):=by
 show M.ok (D.bl (decide (y<x)))=_
 rw[decide_eq_false h]
def Zk8 (a:Addr)(t:Tk)(o:Option (Bool×Bool)):F_face_ahead [.ob a "Track" t.r,.im (M0 o)]=.ok (.im (Ph t.h o).D):=by
 refine(Zoa _ _ _ _).trans (Z3 ?_)
 cases o with
 |none=>exact Qt (Z6 (Z7 (Zg rfl rfl rfl)) (Z1 rfl))
 |some fg=>
  obtain⟨f,g⟩:=fg
  refine go (Z0 (Z7 (Zg rfl rfl rfl))) (Z1 ?_)
  show _=M.ok (fc (if 0<t.h then f else g))
  by_cases h:0<t.h
  ·rw[if_pos h]
   exact Jb (Z7 (Zg rfl rfl (Dr h))) (Zj rfl rfl (Qd _ _))
  ·rw[if_neg h]
   exact Jl (Z7 (Zg rfl rfl (Iz h))) (Zj rfl rfl (Qq _ _ _))
def Zp5 (f:Zl->M D)(a0 a1 a2 a3:S):Zm9 4 f [a0,a1,a2,a3]=f [some a0,some a1,some a2,some a3]:=rfl
def Zer {c:Zl->M Bool}{f g:Zl->M D}{sd:Zl}{r:M D}(h:c sd=.ok true)(k:f sd=r):Zh8 c f g sd=r:=by unfold Zh8;rw[h];exact k
def M3 {c:Zl->M Bool}{f g:Zl->M D}{sd:Zl}{r:M D}(h:c sd=.ok false)(k:g sd=r):Zh8 c f g sd=r:=by unfold Zh8;rw[h];exact k
def I0 (i:Nat){sd:Zl}{a b:Addr}{g:D}{q:List (List Y3×D)}{t:Tk}{W H:Int}{ss:List Sd}{up:Bool}{x y:Int}(e0:sd[0]?=some (some (.fl a (Qo W H ss) q))) (ei:sd[i]?=some (some (.ob b "Track" t.r))) {fk:Zl->M D} (hk:fk sd=.ok (.tup [kd up,.int x,.int y])):
  Go Y7 F_face_ahead i fk sd=.ok (Ph t.h (Jz W H ss up x y)).D:=by
 unfold Go
 rw[e0,ei]
 show(if Ni (S.ob b "Track" t.r)=true then _ else _)=_
 rw[if_pos (show Ni (S.ob b "Track" t.r)=true from rfl),hk]
 have hs:(Vx [kd up,D.int x,D.int y]).isSome=true:=by cases up<;>rfl
 rw[M.bind_ok]
 dsimp only
 rw[if_pos ⟨rfl,hs⟩]
 have e1:P6 Y7 (Qo W H ss) [kd up,.int x,.int y]=.ok (M0 (Jz W H ss up x y)):=by
  unfold P6
  rw[Iw]
  rfl
 rw[e1,M.bind_ok,Zk8]
 rfl
def Zes (i:Nat){sd:Zl}{b:Addr}{t:Tk}{now:Int} (ei:sd[i]?=some (some (.ob b "Track" t.r))) (e3:sd[3]?=some (Jo now)):DL.tB (Zn Ys (Yo i "Track" "due") (Zd 3)) sd=.ok (decide (t.due=now)):=by
 refine Z7 (Zg (x:=.int t.due) (y:=.int now) ?_ ?_ (by rw[Qy];rfl))
 ·unfold Yo;rw[ei];rfl
 ·unfold Zd;rw[e3]
def Zhe (a a1 a2:Addr)(q:List (List Y3×D)){W H:Int}{ss:List Sd}{t u:Tk}{now:Int}(hl:ss.length<=1000)(hc:t.due=now->u.due=now->0<=t.line/\t.line<=W/\0<=u.line/\u.line<=H):
  F_thing_at [.fl a (Qo W H ss) q,.ob a1 "Track" t.r,.ob a2 "Track" u.r,.im (.int now)]=.ok (thing W H ss t u now).D:=by
 refine(Zp5 _ _ _ _ _).trans ?_
 have d1:=Zes 1 (sd:=[some (.fl a (Qo W H ss) q),some (.ob a1 "Track" t.r),some (.ob a2 "Track" u.r),Jo now]) rfl rfl
 have d2:=Zes 2 (sd:=[some (.fl a (Qo W H ss) q),some (.ob a1 "Track" t.r),some (.ob a2 "Track" u.r),Jo now]) rfl rfl
 unfold thing
 by_cases h1:t.due=now
 ·rw[decide_eq_true h1] at d1
  by_cases h2:u.due=now
  ·rw[decide_eq_true h2] at d2
   rw[if_pos ⟨h1,h2⟩]
   obtain⟨x0,x1,y0,y1⟩:=hc h1 h2
   refine Zer (V3 d1 d2) ?_
   have ec:=Zeq (W:=W) (H:=H) (ss:=ss) hl x0 x1 y0 y1
   cases hb:Ko W H ss t.line u.line with
   |true=>
    rw[hb] at ec
    exact Jb (Z7 (Zq (aC rfl (aC (Ge 1 rfl) (Law.a1 (Ge 2 rfl)))) ec rfl)) rfl
   |false=>
    rw[hb] at ec
    exact Jl (Z7 (Zq (aC rfl (aC (Ge 1 rfl) (Law.a1 (Ge 2 rfl)))) ec rfl)) rfl
  ·rw[decide_eq_false h2] at d2
   rw[if_neg (fun z=>h2 z.2),if_pos h1]
   refine M3 (V3 d1 d2) (Zer d1 (I0 1 (g:=.non) (up:=true) rfl rfl (V5 rfl (Ge 1 rfl) rfl)))
 ·rw[decide_eq_false h1] at d1
  rw[if_neg (fun z=>h1 z.1),if_neg h1]
  by_cases h2:u.due=now
  ·rw[decide_eq_true h2] at d2
   rw[if_pos h2]
   exact M3 (Sa d1) (M3 d1 (Zer d2 (I0 2 (g:=.non) (up:=false) rfl rfl (V5 rfl rfl (Ge 2 rfl)))))
  ·rw[decide_eq_false h2] at d2
   rw[if_neg h2]
   exact M3 (Sa d1) (M3 d1 (M3 d2 rfl))
def Kp (th:Th)(over may:Bool):Option Str:=match th with
 |.co=>some (Str.ofString "corner")
 |.no=>if over=true then some (Str.ofString "end") else none
 |.fa false=>if over=true then some (Str.ofString "end") else some (Str.ofString "plain")
 |.fa true=>if over=true then some (Str.ofString "end") else if may=true then none else some (Str.ofString "many")
def I8:Option Str->D
 |some s=>.str s
 |none=>.non
def Zk9 (th:Th)(over may:Bool):Js [th.D,.bl over,.bl may]=.ok (.im (I8 (Kp th over may))):=by
 refine(Zbu _ _ _ _ _).trans (Z3 ?_)
 have c1:∀s:String,DL.tB (Zn Ys (Zd 0) (eC (.str (Str.ofString s)))) [Io th.D,Io (.bl over),Io (.bl may)]=.ok (D.eq th.D (.str (Str.ofString s))):=fun s=>Z7 (Zg (x:=th.D) rfl rfl (Y8 (Aq th)))
 have cc:=c1 "corner"
 have cp:=c1 "p"
 have cm:=c1 "m"
 rw[Zpb] at cc
 rw[Znk] at cp
 rw[Zhd] at cm
 cases th with
 |co=>exact Qt (Z6 cc (Z1 rfl))
 |no=>
  cases over with
  |true=>exact go (Z0 cc) (Qt (Z6 rfl (Z1 rfl)))
  |false=>exact go (Z0 cc) (go (Z0 rfl) (go (Z0 cp) (go (Z0 (Sa cm)) (Z1 rfl))))
 |fa b=>
  cases over with
  |true=>cases b<;>exact go (Z0 cc) (Qt (Z6 rfl (Z1 rfl)))
  |false=>
   cases b with
   |false=>exact go (Z0 cc) (go (Z0 rfl) (Qt (Z6 cp (Z1 rfl))))
   |true=>
    cases may with
    |true=>exact go (Z0 cc) (go (Z0 rfl) (go (Z0 cp) (go (Z0 (V3 cm (Rj rfl))) (Z1 rfl))))
    |false=>exact go (Z0 cc) (go (Z0 rfl) (go (Z0 cp) (Qt (Z6 (V3 cm (Zkx (b:=false) rfl)) (Z1 rfl)))))
def place (t:Tk)(now:Int):D:=if t.h=0 then nD t.n t.m else Yk (t.line*t.lap-t.h*(t.due-now)) t.lap
def Q4 (t u:Tk)(now:Int):D:=.tup [place t now,place u now]
def Yq (t:Tk)(now:Int)(th:Th):Tk:=if t.due=now then(if th.mir=true then {t with h:=-t.h,due:=t.due+t.lap} else {t with sq:=t.sq+t.h,due:=t.due+t.lap}) else t
def I9 (t:Tk)(now:Int)(th:Th):F_pass_line t.r [.int now,th.D]=some (Yq t now th).r:=by
 unfold Tk.r
 rw[Zk4 _ _ _ _ _ _ _ (Aq th),Zhd]
 unfold Yq
 by_cases h:t.due=now
 ·rw[if_pos h,if_pos h]
  cases th.mir<;>rfl
 ·rw[if_neg h,if_neg h]
def Kq:Nat:=10 ^ 44
def K0:(10:Nat) ^ 46=100*Kq:=rfl
def Us:10 ^ 10<=Kq:=by decide
structure TI (z:Nat) (T now:Int) (t:Tk):Prop where
 pn:PIn z t.n t.m
 z8:z<=8
 s0:0<=t.sq
 s1:t.sq<z
 l0:0<=t.lap
 l1:t.lap<=Kq
 mv:(t.h=0/\t.due=T+1/\t.sq=t.n/t.m)\/((t.h=1\/t.h = -1)/\0<t.lap/\now<t.due/\t.due<=now+t.lap)
structure WS (W H:Nat) (T now:Int) (t u:Tk):Prop where
 x:TI W T now t
 y:TI H T now u
 mv:t.h≠0\/u.h≠0
 n0:0<=now
 n1:now<T
 t1:T<=Kq
 at0:now=0\/(t.h≠0/\t.due=now+t.lap)\/(u.h≠0/\u.due=now+u.lap)
section
variable {z W H:Nat}{T now:Int}{t u:Tk}
theorem TI.line (h:TI z T now t):0<=t.line/\t.line<=z:=by
 have:=h.s0
 have:=h.s1
 unfold Tk.line Xw
 split<;>lia
def TI.tb (h:TI z T now t)(n0:0<=now)(n1:now<T)(t1:T<=Kq):TB 46 t:=by
 have hl:=h.line
 have:=h.z8
 have:=h.l0
 have:=h.l1
 have bg:=Us
 refine⟨h.pn.fr.mono (by decide),?_,?_,?_,?_⟩<;>rw[K0]
 ·lia
 ·rcases h.mv with⟨a,_⟩|⟨a,_⟩<;>lia
 ·rcases h.mv with⟨_,a,_⟩|⟨_,_,_,a⟩<;>lia
 ·lia
def Z5 (t u:Tk)(T:Int):Int:=min (min t.due u.due) T
def WS.nxt (h:WS W H T now t u):now<Z5 t u T/\Z5 t u T<=T/\Z5 t u T<=t.due/\Z5 t u T<=u.due:=by
 have:=h.n1
 have a:now<t.due:=by rcases h.x.mv with⟨_,a,_⟩|⟨_,_,a,_⟩<;>lia
 have b:now<u.due:=by rcases h.y.mv with⟨_,a,_⟩|⟨_,_,a,_⟩<;>lia
 unfold Z5
 lia
def Ds (a:Addr)(h:TI z T now t){w:Int}(n0:0<=now)(n1:now<T)(t1:T<=Kq)(w0:0<=w)(w1:w<=T):Yv [.ob a "Track" t.r,.im (.int w)]=.ok (.im (place t w)):=by
 unfold place
 have tb:=h.tb n0 n1 t1
 have bg:=Us
 have:=h.l1
 by_cases hh:t.h=0
 ·rw[if_pos hh]
  have:=Zef a (nD t.n t.m) t.sq t.due t.lap w
  unfold Tk.r
  rw[hh]
  exact this
 ·rw[if_neg hh]
  have hl:0<t.lap:=by rcases h.mv with⟨z,_⟩|⟨_,z,_⟩;exact absurd z hh;exact z
  refine Zg4 (k:=46) a (nD t.n t.m) hh hl tb.lap tb.li tb.h ?_ (by decide)
  rw[K0]
  rcases h.mv with⟨z,_⟩|⟨_,_,z1,z2⟩
  ·exact absurd z hh
  ·lia
def Dt (x y:Int)(p:Po4):Bool:=decide (p.a/p.b=x/\p.c/p.d=y)
def Gf (ps:List Po4)(T:Int)(t u:Tk):Ea:=(ps.filter (Dt t.sq u.sq)).foldl (Y9 (fun p=>Yp (Xb t u p) 0 T)) none
def wk (W H:Int)(ss:List Sd)(ps:List Po4)(T:Int)(most:Nat):Nat->Tk->Tk->List D->Option D
 |0,_,_,_=>none
 |n+1,t,u,tn=>match Gf ps T t u with
  |some (p,_)=>some (.tup [.str (Str.ofString "person"),p.D,.lst tn])
  |none=>match Kp (thing W H ss t u (Z5 t u T)) (decide (Z5 t u T=T)) (decide (tn.length<most)) with
   |some w=>some (.tup [.str w,Q4 t u (Z5 t u T),.lst tn])
   |none=>wk W H ss ps T most n (Yq t (Z5 t u T) (thing W H ss t u (Z5 t u T))) (Yq u (Z5 t u T) (thing W H ss t u (Z5 t u T))) (if(thing W H ss t u (Z5 t u T)).mir=true then tn++[Q4 t u (Z5 t u T)] else tn)
def Oa {th:Th}{n':Int}(h:TI z T now t)(a:now<n')(b:n'<=t.due)(c:n'<T)(hm:t.due=n'->th.mir=false->t.line≠0/\t.line≠z):TI z T n' (Yq t n' th):=by
 have h0:=h.s0
 have h1:=h.s1
 unfold Yq
 by_cases hd:t.due=n'
 ·rw[if_pos hd]
  rcases h.mv with⟨_,z1,_⟩|⟨z1,z2,z3,z4⟩
  ·lia
  ·cases hq:th.mir with
   |true=>exact⟨h.pn,h.z8,h.s0,h.s1,h.l0,h.l1,.inr ⟨by show -t.h=1 \/ -t.h = -1;lia,z2,by show n'<t.due+t.lap;lia,by show t.due+t.lap<=n'+t.lap;lia⟩⟩
   |false=>
    have hl:=hm hd hq
    unfold Tk.line Xw at hl
    refine⟨h.pn,h.z8,?_,?_,h.l0,h.l1,.inr ⟨z1,z2,by show n'<t.due+t.lap;lia,by show t.due+t.lap<=n'+t.lap;lia⟩⟩
    ·show 0<=t.sq+t.h
     rcases z1 with z1|z1<;>rw[z1] at hl ⊢<;>simp at hl<;>lia
    ·show t.sq+t.h<z
     rcases z1 with z1|z1<;>rw[z1] at hl ⊢<;>simp at hl<;>lia
 ·rw[if_neg hd]
  refine⟨h.pn,h.z8,h.s0,h.s1,h.l0,h.l1,?_⟩
  rcases h.mv with z1|⟨z1,z2,z3,z4⟩
  ·exact .inl z1
  ·exact .inr ⟨z1,z2,by lia,by lia⟩
def pass_h {th:Th}{n':Int}:(Yq t n' th).h≠0↔t.h≠0:=by
 unfold Yq
 split
 ·split
  ·show -t.h≠0↔_
   lia
  ·exact Iff.rfl
 ·exact Iff.rfl
def La {th:Th}{n':Int}(h:t.due=n'):(Yq t n' th).due=n'+(Yq t n' th).lap:=by
 unfold Yq
 rw[if_pos h]
 split
 ·show t.due+t.lap=n'+t.lap
  rw[h]
 ·show t.due+t.lap=n'+t.lap
  rw[h]
def Du {ss:List Sd}{up:Bool}{x y:Int}{W H:Int}(h:Jz W H ss up x y=none):(if up=true then x else y)≠0/\(if up=true then x else y)≠(if up=true then W else H):=by
 unfold Jz at h
 cases hf:ss.find? (fun s=>s.at up x y) with
 |some s=>rw[hf] at h;cases h
 |none=>
  rw[hf] at h
  dsimp only at h
  by_cases q:(if up=true then x else y)=0\/(if up=true then x else y)=(if up=true then W else H)
  ·rw[if_pos q] at h;cases h
  ·exact⟨fun z=>q (.inl z),fun z=>q (.inr z)⟩
def Zbn {ss:List Sd}{x y:Int}{W H:Int}(h:Ko W H ss x y=false):x≠0/\x≠W/\y≠0/\y≠H:=by
 unfold Ko at h
 simp only[Bool.or_eq_false_iff,decide_eq_false_iff_not] at h
 lia
def Dv {h:Int}{o:Option (Bool×Bool)}(e:Ph h o=.no):o=none:=by
 cases o with
 |none=>rfl
 |some p=>cases e
def Dw {h:Int}{o:Option (Bool×Bool)}:Ph h o≠.co:=by
 cases o with
 |none=>intro e;cases e
 |some p=>intro e;cases e
def Zbo {ss:List Sd}{n':Int}{th:Th}(e:thing W H ss t u n'=th)(hno:th=.no):(t.due=n'->t.line≠0/\t.line≠W)/\(u.due=n'->u.line≠0/\u.line≠H):=by
 subst e
 unfold thing at hno
 split at hno
 ·rename_i hd
  split at hno
  ·cases hno
  ·rename_i hc
   have:=Zbn (Bool.eq_false_iff.mpr hc)
   exact⟨fun _=>⟨this.1,this.2.1⟩,fun _=>this.2.2⟩
 ·rename_i hd
  split at hno
  ·rename_i h1
   have:=Du (Dv hno)
   exact⟨fun _=>this,fun z=>absurd ⟨h1,z⟩ hd⟩
  ·rename_i h1
   split at hno
   ·have:=Du (Dv hno)
    exact⟨fun z=>absurd z h1,fun _=>this⟩
   ·rename_i h2
    exact⟨fun z=>absurd z h1,fun z=>absurd z h2⟩
def Gy {th:Th}{over may:Bool}(h:Kp th over may=none):over=false/\(th=.no\/(th=.fa true/\may=true)):=by
 cases th with
 |co=>cases h
 |no=>cases over;exact⟨rfl,.inl rfl⟩;cases h
 |fa b=>
  cases over
  ·cases b
   ·cases h
   ·cases may
    ·cases h
    ·exact⟨rfl,.inr ⟨rfl,rfl⟩⟩
  ·cases b<;>cases h
def WS.step {ss:List Sd}{may:Bool}(h:WS W H T now t u)(hw:Kp (thing W H ss t u (Z5 t u T)) (decide (Z5 t u T=T)) may=none):
  WS W H T (Z5 t u T) (Yq t (Z5 t u T) (thing W H ss t u (Z5 t u T))) (Yq u (Z5 t u T) (thing W H ss t u (Z5 t u T))):=by
 obtain⟨a1,a2,a3,a4⟩:=h.nxt
 obtain⟨w1,w2⟩:=Gy hw
 have w1:=of_decide_eq_false w1
 have lt:Z5 t u T<T:=by lia
 have hrim:(thing W H ss t u (Z5 t u T)).mir=false->(t.due=Z5 t u T->t.line≠0/\t.line≠W)/\(u.due=Z5 t u T->u.line≠0/\u.line≠H):=fun hm=>by
  rcases w2 with w2|⟨w2,_⟩
  ·exact Zbo rfl w2
  ·rw[w2] at hm;cases hm
 have du:t.due=Z5 t u T\/u.due=Z5 t u T:=by unfold Z5 at lt ⊢;lia
 refine⟨Oa h.x a1 a3 lt fun z1 z2=>(hrim z2).1 z1,Oa h.y a1 a4 lt fun z1 z2=>(hrim z2).2 z1,?_,by have:=h.n0;lia,lt,h.t1,.inr ?_⟩
 ·rw[pass_h,pass_h];exact h.mv
 ·rcases du with d|d
  ·refine .inl ⟨?_,La d⟩
   rw[pass_h]
   rcases h.x.mv with⟨_,z,_⟩|⟨z,_⟩<;>lia
  ·refine .inr ⟨?_,La d⟩
   rw[pass_h]
   rcases h.y.mv with⟨_,z,_⟩|⟨z,_⟩<;>lia
end
theorem PoOk.mono {j k:Nat}{p:Po4}(h:PoOk j p)(hk:j<=k):PoOk k p:=⟨h.x.mono hk,h.y.mono hk⟩
section
variable {W H:Nat}{T:Int}{ss:List Sd}{ps:List Po4}{most:Nat} (a a1 a2:Addr) (q:By) (g pt st:D)
def Zhf (mo:Nat)(r1 r2:Yg)(tn:List D)(now:Int)(th:Th):
  Ie (Rg a a1 a2 g (qD q) pt st (.int mo) (.int T) r1 r2 tn none (Jo now) (Io th.D) none)=.ok (I8 (Kp th (decide (now=T)) (decide (tn.length<mo)))):=by
 unfold Ie Hm
 have e:Zt Js (Zb (Zd 10) (Zb (Zn Ys (Zd 9) (Zd 4)) (Zb (Zn Bj (Kv Wl (Zb (Zd 7) Zh)) (Zd 3)) Zh))) (frz 7 (Rg a a1 a2 g (qD q) pt st (.int mo) (.int T) r1 r2 tn none (Jo now) (Io th.D) none))=.ok (I8 (Kp th (decide (now=T)) (decide (tn.length<mo)))):=by
  refine Zq (aC rfl (aC (Zg (x:=.int now) (y:=.int T) rfl rfl (by rw[Qy])) (Law.a1 (d:=.bl (decide (tn.length<mo))) (Zg (x:=.int tn.length) (y:=.int mo) (Xv (Law.a1 rfl) T4) rfl ?_)))) (s:=.im (I8 (Kp th (decide (now=T)) (decide (tn.length<mo))))) ?_ rfl
  ·show M.ok (D.bl (decide ((tn.length:Int)<(mo:Int))))=_
   congr 2
   rw[Bool.eq_iff_iff]
   simp
  ·have:=Zk9 th (now==T) (decide (tn.length<mo))
   exact this
 rw[e]
 cases Kp th (decide (now=T)) (decide (tn.length<mo))<;>rfl
def Zla (mo wt:D)(r1 r2:Yg)(tn:List D)(th:Th):Zgs (Rg a a1 a2 g (qD q) pt st mo wt r1 r2 tn none none (Io th.D) none)=.ok th.mir:=
 Z7 (Zg (x:=th.D) rfl rfl ((Y8 (Aq th)).trans (by rw[Zhd])))
def Zbp (mo wt:D){t u:Tk}(tn:List D){w:Int}{p1 p2:D} (h1:Yv [.ob a1 "Track" t.r,.im (.int w)]=.ok (.im p1)) (h2:Yv [.ob a2 "Track" u.r,.im (.int w)]=.ok (.im p2)):
  Uk (Rg a a1 a2 g (qD q) pt st mo wt t.r u.r tn none (Jo w) none none)=.ok (.tup [p1,p2]):=by
 refine X3 ?_ ?_
 ·show N4 (Yv [.ob a1 "Track" t.r,.im (.int w)])=_
  rw[h1];rfl
 ·show N4 (Yv [.ob a2 "Track" u.r,.im (.int w)])=_
  rw[h2];rfl
theorem lw (hl:ss.length<=1000)(hp:∀p∈ps,PtOk W H p)(hq:∀x y,Zen (qD q) x y (ps.filter (Dt x y)))(hm:most<=1000):∀(n:Nat) (t u:Tk) (tn:List D) (now:Int) (d:D),WS W H T now t u->tn.length<=most->wk W H ss ps T most n t u tn=some d ->
  Tw a a1 a2 (Qo W H ss) (qD q) pt st (.int most) (.int T) n t.r u.r tn=.ok d
 |0,_,_,_,_,_,_,_,h=>by cases h
 |n+1,t,u,tn,now,d,wi,htn,h=>by
  have tx:=wi.x.tb wi.n0 wi.n1 wi.t1
  have ty:=wi.y.tb wi.n0 wi.n1 wi.t1
  have hw:Fr 46 T 1:=by
   have:=wi.n0
   have:=wi.n1
   have:=wi.t1
   have:=Us
   refine⟨by decide,?_,?_⟩<;>rw[K0]<;>lia
  have ea:Fi (Rg a a1 a2 (Qo W H ss) (qD q) pt st (.int most) (.int T) t.r u.r tn none none none none)=.ok (Lu (Gf ps T t u)):=by
   show N4 (F_person_ahead [.fl a (Qo W H ss) (qD q),.ob a1 "Track" t.r,.ob a2 "Track" u.r,.im (.int T)])=_
   rw[Zhc a (Qo W H ss) (hq t.sq u.sq) tx ty (by decide) wi.mv hw (fun p hp'=>(hp p (List.mem_filter.mp hp').1).ok.mono (by decide))]
   rfl
  unfold Tw
  rw[ea,M.bind_ok]
  unfold wk at h
  cases ha:Gf ps T t u with
  |some x=>
   rw[ha] at h
   obtain⟨p,xy⟩:=x
   cases h
   rfl
  |none=>
   rw[ha] at h
   dsimp only at h
   have en:Zkq (Rg a a1 a2 (Qo W H ss) (qD q) pt st (.int most) (.int T) t.r u.r tn none none none none)=.ok (.int (Z5 t u T)):=rfl
   obtain⟨n1,n2,n3,n4⟩:=wi.nxt
   have n0:=wi.n0
   have et:=Zhe a a1 a2 (qD q) (t:=t) (u:=u) (now:=Z5 t u T) (W:=W) (H:=H) hl fun _ _=>⟨wi.x.line.1,wi.x.line.2,wi.y.line.1,wi.y.line.2⟩
   have ep:=Zbp a a1 a2 q (Qo W H ss) pt st (.int most) (.int T) tn (Ds a1 wi.x n0 wi.n1 wi.t1 (show 0<=Z5 t u T by lia) n2) (Ds a2 wi.y n0 wi.n1 wi.t1 (show 0<=Z5 t u T by lia) n2)
   have st':=fun may h=>WS.step (ss:=ss) (may:=may) wi h
   have ew:=Zhf (T:=T) a a1 a2 q (Qo W H ss) pt st most t.r u.r tn (Z5 t u T) (thing W H ss t u (Z5 t u T))
   have em:=Zla a a1 a2 q (Qo W H ss) pt st (.int most) (.int T) t.r u.r tn (thing W H ss t u (Z5 t u T))
   have e1:=I9 t (Z5 t u T) (thing W H ss t u (Z5 t u T))
   have e2:=I9 u (Z5 t u T) (thing W H ss t u (Z5 t u T))
   show(if D.isN .non=true then _ else _)=_
   rw[if_pos (show D.isN .non=true from rfl),en,M.bind_ok,et,M.bind_ok,ew,M.bind_ok]
   generalize hth:thing W H ss t u (Z5 t u T)=th at *
   cases hw:Kp th (decide (Z5 t u T=T)) (decide (tn.length<most)) with
   |some w=>
    rw[hw] at h
    cases h
    show(if D.isN (.str w)=true then _ else _)=_
    rw[if_neg (by intro z;cases z),ep,M.bind_ok]
    rfl
   |none=>
    rw[hw] at h
    dsimp only at h
    show(if D.isN .non=true then _ else _)=_
    rw[if_pos (show D.isN .non=true from rfl),em,M.bind_ok,ep,e1,e2]
    have wi':=st' _ hw
    obtain⟨_,w2⟩:=Gy hw
    cases hb:th.mir with
    |true=>
     rw[hb] at h
     have hlt:tn.length<most:=by
      rcases w2 with rfl|⟨_,w2⟩
      ·cases hb
      ·exact of_decide_eq_true w2
     show(M.bind (if few tn=true then M.ok (tn++[D.tup [place t (Z5 t u T),place u (Z5 t u T)]]) else M.bad) _)=_
     rw[if_pos (Jp (by lia)),M.bind_ok]
     exact lw hl hp hq hm n _ _ _ _ d wi' (by rw[List.length_append,List.length_singleton];lia) h
    |false=>
     rw[hb] at h
     exact lw hl hp hq hm n _ _ _ _ d wi' htn h
end
theorem Ob {W H:Int}{ss:List Sd}{ps:List Po4}{T:Int}{most:Nat}:∀(n m:Nat) (t u:Tk) (tn:List D) (d:D),n<=m->wk W H ss ps T most n t u tn=some d->wk W H ss ps T most m t u tn=some d
 |0,_,_,_,_,_,_,h=>by cases h
 |n+1,0,_,_,_,_,hm,_=>by lia
 |n+1,m+1,t,u,tn,d,hm,h=>by
  unfold wk at h ⊢
  cases ha:Gf ps T t u with
  |some x=>rw[ha] at h;exact h
  |none=>
   rw[ha] at h
   dsimp only at h ⊢
   cases hw:Kp (thing W H ss t u (Z5 t u T)) (decide (Z5 t u T=T)) (decide (tn.length<most)) with
   |some w=>rw[hw] at h;exact h
   |none=>
    rw[hw] at h
    exact Ob n m _ _ _ d (by lia) h
theorem Oc {W H:Nat}{ss:List Sd}{ps:List Po4}{T:Int}{most:Nat}:∀(n kx ky:Nat) (t u:Tk) (tn:List D) (now:Int),WS W H T now t u->T<t.due+kx*t.lap->T<u.due+ky*u.lap->kx+ky<n->∃d,wk W H ss ps T most n t u tn=some d
 |0,_,_,_,_,_,_,_,_,_,h=>by lia
 |n+1,kx,ky,t,u,tn,now,wi,hx,hy,hn=>by
  unfold wk
  cases ha:Gf ps T t u with
  |some x=>exact⟨_,rfl⟩
  |none=>
   dsimp only
   cases hw:Kp (thing W H ss t u (Z5 t u T)) (decide (Z5 t u T=T)) (decide (tn.length<most)) with
   |some w=>exact⟨_,rfl⟩
   |none=>
    have wi':=wi.step hw
    have lt:=wi'.n1
    obtain⟨n1,n2,n3,n4⟩:=wi.nxt
    have hlap:∀(v:Tk) (th:Th),(Yq v (Z5 t u T) th).lap=v.lap:=fun v th=>by
     unfold Yq;split
     ·split<;>rfl
     ·rfl
    have same:∀(v:Tk) (th:Th),v.due≠Z5 t u T->(Yq v (Z5 t u T) th).due=v.due:=fun v th h=>by unfold Yq;rw[if_neg h]
    have one:∀(v:Tk) (th:Th) (k:Nat),v.due=Z5 t u T->T<v.due+k*v.lap->0<=v.lap->∃j,k=j+1/\T<(Yq v (Z5 t u T) th).due+j*(Yq v (Z5 t u T) th).lap:=fun v th k h hk h0=>by
     cases k with
     |zero=>simp at hk;lia
     |succ j=>
      refine⟨j,rfl,?_⟩
      have e:=La (th:=th) h
      rw[hlap] at e
      rw[hlap,e]
      have:((j+1:Nat):Int)*v.lap=j*v.lap+v.lap:=by rw[Int.natCast_add,Int.add_mul];simp
      lia
    have cases2:∀(v:Tk) (th:Th) (k:Nat),T<v.due+k*v.lap->0<=v.lap->∃j,j<=k/\(v.due=Z5 t u T->j<k)/\T<(Yq v (Z5 t u T) th).due+j*(Yq v (Z5 t u T) th).lap:=fun v th k hk h0=>by
     by_cases h:v.due=Z5 t u T
     ·obtain⟨j,e1,e2⟩:=one v th k h hk h0
      exact⟨j,by lia,fun _=>by lia,e2⟩
     ·refine⟨k,Nat.le_refl _,fun z=>absurd z h,?_⟩
      rw[same v th h,hlap];exact hk
    obtain⟨jx,x1,x2,x3⟩:=cases2 t (thing W H ss t u (Z5 t u T)) kx hx wi.x.l0
    obtain⟨jy,y1,y2,y3⟩:=cases2 u (thing W H ss t u (Z5 t u T)) ky hy wi.y.l0
    have du:t.due=Z5 t u T\/u.due=Z5 t u T:=by unfold Z5 at lt ⊢;lia
    exact Oc n jx jy _ _ _ _ wi' x3 y3 (by rcases du with z|z;have:=x2 z;lia;have:=y2 z;lia)
def Pi {X L f:Int}(hL:0<L)(h1:f*L<=X)(h2:X<f*L+L):X/L=f:=by
 have a:f<=X/L:=(Int.le_ediv_iff_mul_le hL).mpr h1
 have b:X/L<f+1:=(Int.ediv_lt_iff_lt_mul hL).mpr (by rw[Int.add_mul];lia)
 lia
structure GI (T:Int) (t:Tk) (A B:Int):Prop where
 a0:0<A
 b0:0<B
 hm:t.h≠0->t.lap*A=B*T
 a1:A<=Kq
 b1:B<=Kq
 gc:Int.gcd (t.h*A) B=1
def gv (t:Tk)(A B:Int):D:=nD (t.h*A) B
section
variable {z W H:Nat}{T now:Int}{t u:Tk}{A B A' B':Int}
def Tk.top (t:Tk)(now:Int):Int:=t.line*t.lap-t.h*(t.due-now)
def TI.h1 (h:TI z T now t)(hh:t.h≠0):(t.h=1\/t.h = -1)/\0<t.lap/\now<t.due/\t.due<=now+t.lap:=by
 rcases h.mv with⟨a,_⟩|a
 ·exact absurd a hh
 ·exact a
def TI.fr (h:TI z T now t)(n0:0<=now)(n1:now<T)(t1:T<=Kq)(hh:t.h≠0){w:Int}(w0:0<=w)(w1:w<=T):Fr 93 (t.top w) t.lap:=by
 obtain⟨a,b,c,d⟩:=h.h1 hh
 have tb:=h.tb n0 n1 t1
 have bg:=Us
 have:=h.l1
 refine⟨b,?_,Nat.le_trans tb.lap (Xs (by decide))⟩
 refine Vp (k:=92) (Qg (j:=46) (k:=46) tb.li tb.lap) (Qg (j:=46) (k:=46) tb.h ?_)
 rw[K0]
 lia
def GI.fr (g:GI T t A B)(h:TI z T now t):Fr 46 (t.h*A) B:=by
 have:=g.a0
 have:=g.a1
 have:=g.b0
 have:=g.b1
 have bg:=Us
 refine⟨g.b0,?_,?_⟩<;>rw[K0]
 ·rcases h.mv with⟨a,_⟩|⟨a|a,_⟩<;>rw[a]<;>lia
 ·lia
def Zpl (A B:Int)(hh:t.h≠0)(ha:0<A):t.h*A≠0:=Int.mul_ne_zero hh (by lia)
def M4 (t:Tk)(now T:Int):D:=if t.h=0 then .non else Yk (t.due-now) T
def Rw (h:TI z T now t)(g:GI T t A B)(n0:0<=now)(n1:now<T)(t1:T<=Kq):Jt [place t now,gv t A B]=.ok (.im (M4 t now T)):=by
 unfold M4
 by_cases hh:t.h=0
 ·rw[if_pos hh]
  refine(Mx _ _ _ _).trans (Z3 (Qt (Z6 (Z7 (Zg (Zj rfl rfl (Qd _ _)) rfl ?_)) (Z1 rfl))))
  rw[Qy,hh];simp
 ·rw[if_neg hh]
  have ha:=g.a0
  have hb:=g.b0
  obtain⟨h1,h2,h3,h4⟩:=h.h1 hh
  have hf:Fr 93 (t.top now) t.lap:=h.fr n0 n1 t1 hh n0 (by lia)
  obtain⟨p,q,el,hpq,em,_⟩:=Xx hf
  have ep:place t now=nD p q:=by unfold place;rw[if_neg hh];exact el
  have sq:sm q=true:=Qv hpq.bot (by decide)
  have tb:=h.tb n0 n1 t1
  have hq:=hpq.pos
  have fl:∀X Y:Option S,Uo (DL.tB (Zn Pt 1[0]! ↑0)) (Zn Qi (Zn Q6 0[0]! 0[1]!) ↑1) (Zn DL.Xf (Zn DL.Xf ↑0 (Zn Q6 (Zn DL.Xf ↑0 0[0]!) 0[1]!)) ↑1) [Io (nD p q),Io (gv t A B),X]=.ok (.int t.line):=fun X Y=>by
   have top:t.top now=t.line*t.lap-t.h*(t.due-now):=rfl
   rcases h1 with e|e
   ·have f1:p/q=t.line-1:=by
     rw[Rl h2 hq em]
     rw[e,Int.one_mul] at top
     refine Pi h2 ?_ ?_<;>rw[Int.sub_mul]<;>lia
    refine Jb (Z7 (Zg (Zj rfl rfl (Qd _ _)) rfl (Dr ?_))) ((Zg (Zg (Zj rfl rfl (Qd _ _)) (Zj rfl rfl (Qq _ _ _)) (Lc hq sq)) rfl rfl).trans ?_)
    ·rw[e];lia
    ·show M.ok (D.int (p/q+1))=_
     rw[f1];congr 2;lia
   ·have f1:(0-p)/q = - t.line-1:=by
     rw[Rl (t:=0-t.top now) h2 hq (by rw[Int.sub_mul,Int.sub_mul,em];simp)]
     rw[e] at top
     refine Pi h2 ?_ ?_<;>rw[Int.sub_mul,Int.neg_mul]<;>lia
    refine Jl (Z7 (Zg (Zj rfl rfl (Qd _ _)) rfl (Iz ?_))) ((Zg (Zg rfl (Zg (Zg rfl (Zj rfl rfl (Qd _ _)) rfl) (Zj rfl rfl (Qq _ _ _)) (Lc hq sq)) rfl) rfl rfl).trans ?_)
    ·rw[e];lia
    ·show M.ok (D.int (0-(0-p)/q-1))=_
     rw[f1];congr 2;lia
  have lf:Fr 93 t.line 1:=⟨by decide,Nat.le_trans tb.li (Xs (by decide)),Nat.pow_pos (by decide)⟩
  have e1:=Zed hf lf (by decide)
  rw[Va (p:=t.line) (q:=1) (by decide) (by simp),el] at e1
  have gf:Fr 187 (t.line*t.lap-t.top now*1) (1*t.lap):=by
   refine⟨by lia,Vp (k:=186) (Nat.le_trans (Qg lf.top hf.bot) (Xs (by decide))) (Nat.le_trans (Qg hf.top lf.bot) (Xs (by decide))),?_⟩
   rw[Int.one_mul]
   exact Nat.le_trans hf.bot (Xs (by decide))
  have e2:Ja [Yk (t.line*t.lap-t.top now*1) (1*t.lap),gv t A B]=.ok (.im (Yk (t.due-now) T)):=by
   have hm:=g.hm hh
   have tp:0<T:=by lia
   have top:t.top now=t.line*t.lap-t.h*(t.due-now):=rfl
   have go:=(g.fr h).mono (show 46<=187 by decide)
   unfold gv
   rcases h1 with e|e
   ·have hp:0<t.h*A:=by rw[e];lia
    rw[Zee gf go (by decide) hp]
    rw[Ym (t':=t.due-now) (b':=T) (Int.mul_pos gf.pos hp) tp ?_]
    rw[top,e]
    grind
   ·have hp:t.h*A<0:=by rw[e];lia
    have hp':0<0-1*t.lap*(t.h*A):=by
     rw[e,show 0-1*t.lap*(-1*A)=t.lap*A by grind]
     exact Int.mul_pos h2 ha
    rw[Ip gf go (by decide) hp]
    rw[Ym (t':=t.due-now) (b':=T) hp' tp ?_]
    rw[top,e]
    grind
  rw[ep]
  refine(Mx _ _ _ _).trans (Z3 (go (Z0 (Z7 (Zg (Zj rfl rfl (Qd _ _)) rfl ?_))) (go (Zx (fl none none)) (Z1 (Zq (aC (Zq (aC rfl (Law.a1 (X3 rfl rfl))) e1 rfl) (Law.a1 rfl)) e2 rfl)))))
  rw[Qy]
  have:=Zpl (t:=t) A B hh ha
  simp[this]
def Znl {gt:D->Zl->M Zl}{fe:Zl->M D}{sd0 s0 s1:Zl}{d0 d1 r0 r1:D}(h1:gt d0 sd0=.ok s0)(h2:fe s0=.ok r0)(h3:gt d1 sd0=.ok s1)(h4:fe s1=.ok r1):V8 gt fe sd0 [d0,d1]=.ok [r0,r1]:=by
 simp only[V8,h1,h2,h3,h4]
def Zet {n0:Nat}{caps:List Nat}{fe:Zl->M D}{sd:Zl}{r0 r1:D}(h0:fe ((Wn n0 caps sd).set 0 (Jo 0))=.ok r0)(h1:fe ((Wn n0 caps sd).set 0 (Jo 1))=.ok r1):
  X6 (Yf (Zb ↑2 Zh)) n0 caps (Y1 0) fe sd=.ok [r0,r1]:=
 Gv (Zkt (n:=2) (Law.a1 rfl) (by decide)) (by simp) (Znl (d0:=.int 0) (d1:=.int 1) rfl h0 rfl h1)
def md (t u:Tk):Int:=if t.h=0 then u.due else if u.h=0 then t.due else min t.due u.due
def Od (h:t.h=0):M4 t now T=.non:=if_pos h
def Ar (h:t.h≠0):M4 t now T=Yk (t.due-now) T:=if_neg h
def Ro (h:TI z T now t)(n0:0<=now)(n1:now<T)(t1:T<=Kq):Fr 46 (t.due-now) T:=by
 have bg:=Us
 have:=h.l1
 refine⟨by lia,?_,?_⟩<;>rw[K0]
 ·rcases h.mv with⟨_,a,_⟩|⟨_,_,a,b⟩<;>lia
 ·lia
def K3 {a b c:Int}(hc:0<c):a*c<b*c↔a<b:=⟨fun h=>Int.lt_of_mul_lt_mul_right h (Int.le_of_lt hc),fun h=>Int.mul_lt_mul_of_pos_right h hc⟩
def Dx {a b c:Int}(hc:0<c):a*c=b*c↔a=b:=⟨fun h=>Int.eq_of_mul_eq_mul_right (by lia) h,fun h=>by rw[h]⟩
def Oe (a b:Int):D.eq .non (Yk a b)=false:=rfl
def Zhg (wi:WS W H T now t u)(gx:GI T t A B)(gy:GI T u A' B'):U1 [Q4 t u now,.tup [gv t A B,gv u A' B']]=.ok (.im (.tup [Yk (md t u-now) T,.bl (decide (t.h≠0/\t.due=md t u)),.bl (decide (u.h≠0/\u.due=md t u))])):=by
 have n0:=wi.n0
 have n1:=wi.n1
 have t1:=wi.t1
 have tp:0<T:=by lia
 have ex:=Rw wi.x gx n0 n1 t1
 have ey:=Rw wi.y gy n0 n1 t1
 have fx:=Ro wi.x n0 n1 t1
 have fy:=Ro wi.y n0 n1 t1
 have c:G8 (X6 (Yf (Zb ↑2 Zh)) 1 [0,1] (Y1 0) (Zt Jt (Zb (Zn Yj (Zd 1) (Zd 0)) (Zb (Zn Yj (Zd 2) (Zd 0)) Zh)))) [Io (Q4 t u now),Io (.tup [gv t A B,gv u A' B']),none,none]=.ok (.lst [M4 t now T,M4 u now T]):=
  Rk (Zet (Zq (aC (Zj rfl rfl (Qd _ _)) (Law.a1 (Zj rfl rfl (Qd _ _)))) ex rfl) (Zq (aC (Zj rfl rfl (Qq _ _ _)) (Law.a1 (Zj rfl rfl (Qq _ _ _)))) ey rfl))
 refine(Mx _ _ _ _).trans (Z3 (go (Zx c) (go (Zx (Q8 rfl rfl (Qd _ _))) ?_)))
 unfold md
 by_cases h1:t.h=0
 ·have h2:u.h≠0:=wi.mv.resolve_left (fun z=>z h1)
  rw[Od h1,Ar h2,if_pos h1]
  refine go (Z6 (Zgy (Z7 (Zg rfl rfl rfl))) (Zx (Q8 rfl rfl (Qq _ _ _)))) (Z1 (V5 rfl (Zg (Q8 rfl rfl (Qd _ _)) rfl ?_) (Zg (Q8 rfl rfl (Qq _ _ _)) rfl ?_)))
  ·rw[Y8 (by simp[D.dep]),Oe,decide_eq_false (fun z=>z.1 h1)]
  ·rw[Y8 (K2 _ _),Vb,decide_eq_true ⟨h2,rfl⟩]
 ·rw[Ar h1,if_neg h1]
  by_cases h2:u.h=0
  ·rw[Od h2,if_pos h2]
   refine go (Z0 (Na (Z7 (Zg rfl rfl rfl)) (Sa (Z7 (Zg (Q8 rfl rfl (Qq _ _ _)) rfl rfl))))) (Z1 (V5 rfl (Zg (Q8 rfl rfl (Qd _ _)) rfl ?_) (Zg (Q8 rfl rfl (Qq _ _ _)) rfl ?_)))
   ·rw[Y8 (K2 _ _),Vb,decide_eq_true ⟨h1,rfl⟩]
   ·rw[Y8 (by simp[D.dep]),Oe,decide_eq_false (fun z=>z.1 h2)]
  ·rw[Ar h2,if_neg h2]
   have el:=Ao fy fx (by decide)
   by_cases hl:u.due<t.due
   ·rw[decide_eq_true (show(u.due-now)*T<(t.due-now)*T from(K3 tp).mpr (by lia))] at el
    rw[show min t.due u.due=u.due by lia]
    refine go (Z6 (Zd2 (Z7 (Zg rfl rfl rfl)) (V3 (Z7 (Zg (Q8 rfl rfl (Qq _ _ _)) rfl rfl)) (Z7 (Zq (aC (Q8 rfl rfl (Qq _ _ _)) (Law.a1 rfl)) el rfl)))) (Zx (Q8 rfl rfl (Qq _ _ _)))) (Z1 (V5 rfl (Zg (Q8 rfl rfl (Qd _ _)) rfl ?_) (Zg (Q8 rfl rfl (Qq _ _ _)) rfl ?_)))
    ·rw[Y8 (K2 _ _),T7 tp tp,decide_eq_false (by rw[Dx tp];lia),decide_eq_false (fun z=>by lia)]
    ·rw[Y8 (K2 _ _),Vb,decide_eq_true ⟨h2,rfl⟩]
   ·rw[decide_eq_false (show ¬(u.due-now)*T<(t.due-now)*T from fun z=>hl (by have:=(K3 tp).mp z;lia))] at el
    rw[show min t.due u.due=t.due by lia]
    refine go (Z0 (Na (Z7 (Zg rfl rfl rfl)) (V3 (Z7 (Zg (Q8 rfl rfl (Qq _ _ _)) rfl rfl)) (Z7 (Zq (aC (Q8 rfl rfl (Qq _ _ _)) (Law.a1 rfl)) el rfl))))) (Z1 (V5 rfl (Zg (Q8 rfl rfl (Qd _ _)) rfl ?_) (Zg (Q8 rfl rfl (Qq _ _ _)) rfl ?_)))
    ·rw[Y8 (K2 _ _),Vb,decide_eq_true ⟨h1,rfl⟩]
    ·rw[Y8 (K2 _ _),T7 tp tp]
     congr 3
     rw[Dx tp]
     refine propext ⟨fun z=>⟨h2,by lia⟩,fun z=>by lia⟩
end
def Tk.pn (t:Tk)(now:Int):Int:=if t.h=0 then t.n else t.top now
def Tk.pd (t:Tk):Int:=if t.h=0 then t.m else t.lap
def Zhh {x y p q:Int}(hy:0<y)(hq:0<q)(m:p*y=x*q):0<p↔0<x:=by
 constructor
 ·intro h
  have:=Int.mul_pos h hy
  rw[m] at this
  exact Int.pos_of_mul_pos_left this hq
 ·intro h
  have:=Int.mul_pos h hq
  rw[<-m] at this
  exact Int.pos_of_mul_pos_left this hy
section
variable {z W H:Nat}{T now:Int}{t u:Tk}{A B A' B':Int}
def Ft (g:GI T t A B):gv t A B=Yk (t.h*A) B:=(Va g.b0 g.gc).symm
def Rp (h:TI z T now t)(n0:0<=now)(n1:now<T)(t1:T<=Kq){w:Int}(w0:0<=w)(w1:w<=T):Fr 93 (t.pn w) t.pd:=by
 unfold Tk.pn Tk.pd
 by_cases hh:t.h=0
 ·rw[if_pos hh,if_pos hh];exact h.pn.fr.mono (by decide)
 ·rw[if_neg hh,if_neg hh];exact h.fr n0 n1 t1 hh w0 w1
def U2 (h:TI z T now t)(w:Int):place t w=Yk (t.pn w) t.pd:=by
 unfold place Tk.pn Tk.pd
 by_cases hh:t.h=0
 ·rw[if_pos hh,if_pos hh,if_pos hh];exact(Va h.pn.fr.pos h.pn.g).symm
 ·rw[if_neg hh,if_neg hh,if_neg hh];rfl
def Zeu (h:TI z T now t)(n0:0<=now)(n1:now<T)(t1:T<=Kq){a b:Int}(hp:PIn z a b):X2 [place t now,nD a b]=.ok (.im (Yk (a*t.pd-t.pn now*b) (b*t.pd))):=by
 have hf:=Rp h n0 n1 t1 n0 (Int.le_of_lt n1)
 have:=Zed hf (hp.fr.mono (show 4<=93 by decide)) (by decide)
 rw[Va hp.fr.pos hp.g,<-U2 h] at this
 exact this
def Fu (h:TI z T now t)(n0:0<=now)(n1:now<T)(t1:T<=Kq){a b:Int}(hp:PIn z a b):Fr 187 (a*t.pd-t.pn now*b) (b*t.pd):=by
 have hf:=Rp h n0 n1 t1 n0 (Int.le_of_lt n1)
 have hp:=hp.fr.mono (show 4<=93 by decide)
 exact⟨Int.mul_pos hp.pos hf.pos,Vp (k:=186) (Qg hp.top hf.bot) (Qg hf.top hp.bot),Nat.le_trans (Qg hp.bot hf.bot) (Xs (by decide))⟩
def Fv (hh:t.h=1\/t.h = -1)(a b:Int):a*t.pd-t.pn now*b=t.h*(t.tm a b-now*b):=by
 have h0:t.h≠0:=by lia
 unfold Tk.pn Tk.pd Tk.tm Tk.top
 rw[if_neg h0,if_neg h0]
 rcases hh with e|e<;>rw[e]<;>grind
def Of (h:TI z T now t)(g:GI T t A B)(n0:0<=now)(n1:now<T)(t1:T<=Kq)(hh:t.h≠0){a b:Int}(hp:PIn z a b):Ja [Yk (a*t.pd-t.pn now*b) (b*t.pd),gv t A B]=.ok (.im (Yk (t.tm a b-now*b) (b*T))):=by
 have hf:=Fu h n0 n1 t1 hp
 have go:=(g.fr h).mono (show 46<=187 by decide)
 obtain⟨h1,h2,h3,h4⟩:=h.h1 hh
 have ha:=g.a0
 have hm:=g.hm hh
 have bp:=hp.fr.pos
 have tp:0<b*T:=Int.mul_pos bp (by lia)
 have pd:t.pd=t.lap:=if_neg hh
 have gt:=Fv (t:=t) (now:=now) h1 a b
 unfold gv
 rcases h1 with e|e
 ·have hp:0<t.h*A:=by rw[e];lia
  rw[Zee hf go (by decide) hp,Ym (t':=t.tm a b-now*b) (b':=b*T) (Int.mul_pos hf.pos hp) tp ?_]
  rw[gt,pd,e]
  grind
 ·have hp:t.h*A<0:=by rw[e];lia
  have hp':0<0-b*t.pd*(t.h*A):=by
   rw[e,pd,show 0-b*t.lap*(-1*A)=b*t.lap*A by grind]
   exact Int.mul_pos (Int.mul_pos bp h2) ha
  rw[Ip hf go (by decide) hp,Ym (t':=t.tm a b-now*b) (b':=b*T) hp' tp ?_]
  rw[gt,pd,e]
  grind
def Og (t u:Tk)(now T:Int)(p:Po4):D:=match Xb t u p with
 |some (x,y)=>if now*y<x then Yk (x-now*y) (y*T) else .non
 |none=>.non
def Fw {x y:Int}(h:Fr 186 x y)(n0:0<=now)(n1:now<T)(t1:T<=Kq):Fr 233 (x-now*y) (y*T):=by
 have bg:=Us
 have e1:now.natAbs<=10 ^ 46:=by rw[K0];lia
 have e2:T.natAbs<=10 ^ 46:=by rw[K0];lia
 exact⟨Int.mul_pos h.pos (by lia),Vp (k:=232) (Nat.le_trans h.top (Xs (by decide))) (Qg (j:=46) (k:=186) e1 h.bot),Nat.le_trans (Qg h.bot e2) (Xs (by decide))⟩
def Dy (sd:Zl){x y:Int}(hf:Fr 233 x y)(e:sd[5]?=some (Io (Yk x y))):Uo (DL.tB (Zn Pt 5[0]! ↑0)) (Zd 5) (eC .non) sd=.ok (if 0<x then Yk x y else .non):=by
 obtain⟨p,q,el,hpq,em,_⟩:=Xx hf
 have sg:=Zhh hf.pos hpq.pos em
 have v5:Zd 5 sd=.ok (Yk x y):=by unfold Zd;rw[e]
 have v5':Zd 5 sd=.ok (nD p q):=by rw[v5,el]
 by_cases h:0<x
 ·rw[if_pos h]
  exact Jb (Z7 (Zg (Zj v5' rfl (Qd _ _)) rfl (Dr (sg.mpr h)))) v5
 ·rw[if_neg h]
  exact Jl (Z7 (Zg (Zj v5' rfl (Qd _ _)) rfl (Iz (fun z=>h (sg.mp z))))) rfl
def Dz {a b n m:Int}(hb:0<b)(hm:0<m)(g1:Int.gcd a b=1)(g2:Int.gcd n m=1):a*m-n*b=0↔a=n/\b=m:=by
 constructor
 ·intro h
  exact My hb hm g1 g2 (by lia)
 ·rintro⟨rfl,rfl⟩;lia
def Zlb (wi:WS W H T now t u)(gx:GI T t A B)(gy:GI T u A' B'){p:Po4}(hp:PtOk W H p):Gb [Q4 t u now,.tup [gv t A B,gv u A' B'],p.D]=.ok (.im (Og t u now T p)):=by
 have n0:=wi.n0
 have n1:=wi.n1
 have t1:=wi.t1
 have tp:0<T:=by lia
 have ex:=Zeu wi.x n0 n1 t1 hp.x
 have ey:=Zeu wi.y n0 n1 t1 hp.y
 have fx:=Fu wi.x n0 n1 t1 hp.x
 have fy:=Fu wi.y n0 n1 t1 hp.y
 have g1:=(gx.fr wi.x).mono (show 46<=187 by decide)
 have g2:=(gy.fr wi.y).mono (show 46<=187 by decide)
 have tx:=An fx g2 (by decide)
 have ty:=An fy g1 (by decide)
 rw[<-Ft gy] at tx
 rw[<-Ft gx] at ty
 have tbx:=wi.x.tb n0 n1 t1
 have tby:=wi.y.tb n0 n1 t1
 have bx:=hp.x.fr.pos
 have by':=hp.y.fr.pos
 have c:G8 (X6 (Yf (Zb ↑2 Zh)) 1 [0,2] (Y1 0) (Zt X2 (Zb (Zn Yj (Zd 1) (Zd 0)) (Zb (Zn Yj (Zd 2) (Zd 0)) Zh)))) [Io (Q4 t u now),Io (.tup [gv t A B,gv u A' B']),Io p.D,none,none,none]=.ok (.lst [Yk (p.a*t.pd-t.pn now*p.b) (p.b*t.pd),Yk (p.c*u.pd-u.pn now*p.d) (p.d*u.pd)]):=
  Rk (Zet (Zq (aC (Zj rfl rfl (Qd _ _)) (Law.a1 (Zj rfl rfl (Qd _ _)))) ex rfl) (Zq (aC (Zj rfl rfl (Qq _ _ _)) (Law.a1 (Zj rfl rfl (Qq _ _ _)))) ey rfl))
 have ne:∀o4 o5:Option S,DL.tB (Zn Wm (Zt Y2 (Zb 3[0]! (Zb 1[1]! Zh))) (Zt Y2 (Zb 3[1]! (Zb 1[0]! Zh)))) [Io (Q4 t u now),Io (.tup [gv t A B,gv u A' B']),Io p.D,Io (.lst [Yk (p.a*t.pd-t.pn now*p.b) (p.b*t.pd),Yk (p.c*u.pd-u.pn now*p.d) (p.d*u.pd)]),o4,o5]=.ok (!decide ((p.a*t.pd-t.pn now*p.b)*(u.h*A')*(p.d*u.pd*B)=(p.c*u.pd-u.pn now*p.d)*(t.h*A)*(p.b*t.pd*B'))):=fun o4 o5=>by
  refine Z7 (Zg (Zq (aC (Q8 rfl rfl (Qd _ _)) (Law.a1 (Zj rfl rfl (Qq _ _ _)))) tx rfl) (Zq (aC (Q8 rfl rfl (Qq _ _ _)) (Law.a1 (Zj rfl rfl (Qd _ _)))) ty rfl) ?_)
  rw[K9 (K2 _ _),T7 (Int.mul_pos fx.pos gy.b0) (Int.mul_pos fy.pos gx.b0)]
 have cond:decide ((p.a*t.pd-t.pn now*p.b)*(u.h*A')*(p.d*u.pd*B)=(p.c*u.pd-u.pn now*p.d)*(t.h*A)*(p.b*t.pd*B'))=(Xb t u p).isSome:=by
  rw[Bool.eq_iff_iff,decide_eq_true_iff]
  unfold Xb
  have a0:=gx.a0
  have b0:=gx.b0
  have a0':=gy.a0
  have b0':=gy.b0
  by_cases h1:t.h=0
  ·have h2:=wi.mv.resolve_left (fun z=>z h1)
   rw[if_neg (fun z=>z h1),h1]
   have pd:t.pd=t.m:=if_pos h1
   have pn:t.pn now=t.n:=if_pos h1
   have gz:=Dz (a:=p.a) (b:=p.b) (n:=t.n) (m:=t.m) bx wi.x.pn.fr.pos hp.x.g wi.x.pn.g
   rw[pd,pn]
   have k1:u.h*A'*(p.d*u.pd*B)≠0:=Int.mul_ne_zero (Int.mul_ne_zero h2 (by lia)) (Int.mul_ne_zero (by have:=fy.pos;lia) (by lia))
   by_cases he:p.a=t.n/\p.b=t.m
   ·rw[if_pos he,gz.mpr he]
    simp
   ·rw[if_neg he]
    simp only[Option.isSome_none,Bool.false_eq_true,iff_false]
    intro z
    rw[Int.zero_mul,Int.mul_zero,Int.zero_mul,Int.mul_assoc] at z
    rcases Int.mul_eq_zero.mp z with z|z
    ·exact he (gz.mp z)
    ·exact k1 z
  ·rw[if_pos h1]
   by_cases h2:u.h=0
   ·rw[if_neg (fun z=>z h2),h2]
    have pd:u.pd=u.m:=if_pos h2
    have pn:u.pn now=u.n:=if_pos h2
    have gz:=Dz (a:=p.c) (b:=p.d) (n:=u.n) (m:=u.m) by' wi.y.pn.fr.pos hp.y.g wi.y.pn.g
    rw[pd,pn]
    have k1:t.h*A*(p.b*t.pd*B')≠0:=Int.mul_ne_zero (Int.mul_ne_zero h1 (by lia)) (Int.mul_ne_zero (by have:=fx.pos;lia) (by lia))
    by_cases he:p.c=u.n/\p.d=u.m
    ·rw[if_pos he,gz.mpr he]
     simp
    ·rw[if_neg he]
     simp only[Option.isSome_none,Bool.false_eq_true,iff_false]
     intro z
     rw[Int.zero_mul,Int.mul_zero,Int.zero_mul] at z
     have z:=z.symm
     rw[Int.mul_assoc] at z
     rcases Int.mul_eq_zero.mp z with z|z
     ·exact he (gz.mp z)
     ·exact k1 z
   ·rw[if_pos h2]
    obtain⟨hx,lx,_⟩:=wi.x.h1 h1
    obtain⟨hy,ly,_⟩:=wi.y.h1 h2
    have pdx:t.pd=t.lap:=if_neg h1
    have pdy:u.pd=u.lap:=if_neg h2
    have m1:=gx.hm h1
    have m2:=gy.hm h2
    rw[Fv hx,Fv hy,pdx,pdy]
    have hK:t.h*u.h*B*B'*T≠0:=Int.mul_ne_zero (Int.mul_ne_zero (Int.mul_ne_zero (Int.mul_ne_zero h1 h2) (by lia)) (by lia)) (by lia)
    have e1:t.h*(t.tm p.a p.b-now*p.b)*(u.h*A')*(p.d*u.lap*B)=(t.tm p.a p.b*p.d-now*p.b*p.d)*(t.h*u.h*B*B'*T):=by grind
    have e2:u.h*(u.tm p.c p.d-now*p.d)*(t.h*A)*(p.b*t.lap*B')=(u.tm p.c p.d*p.b-now*p.b*p.d)*(t.h*u.h*B*B'*T):=by grind
    rw[e1,e2]
    by_cases he:t.tm p.a p.b*p.d=u.tm p.c p.d*p.b
    ·rw[if_pos he,he];simp
    ·rw[if_neg he]
     simp only[Option.isSome_none,Bool.false_eq_true,iff_false]
     intro z
     have:=Int.eq_of_mul_eq_mul_right hK z
     lia
 refine(Zbu _ _ _ _ _).trans (Z3 (go (Zx c) ?_))
 have ne:=ne none none
 rw[cond] at ne
 unfold Og
 cases hv:Xb t u p with
 |none=>
  rw[hv] at ne
  exact Qt (Z6 ne (Z1 rfl))
 |some xy=>
  obtain⟨x,y⟩:=xy
  rw[hv] at ne
  have hfr:Fr 233 (x-now*y) (y*T):=Fw (Gw tbx tby (hp.ok.mono (by decide)) hv) n0 n1 t1
  have pos:(0<x-now*y)=(now*y<x):=propext ⟨fun _=>by lia,fun _=>by lia⟩
  refine go (Z0 ne) ?_
  by_cases h1:t.h=0
  ·have h2:=wi.mv.resolve_left (fun z=>z h1)
   have exy:x=u.tm p.c p.d/\y=p.d:=by
    unfold Xb at hv
    rw[if_neg (fun z=>z h1)] at hv
    split at hv
    ·cases hv;exact⟨rfl,rfl⟩
    ·cases hv
   obtain⟨rfl,rfl⟩:=exy
   have es:=Of wi.y gy n0 n1 t1 h2 hp.y
   refine go (Zx (d:=.int 1) (Jl (Z7 (Zg (Zj (Zj rfl rfl (Qd _ _)) rfl (Qd _ _)) rfl ?_)) rfl)) (go (Zx (Zq (aC (Q8 rfl rfl (Qq _ _ _)) (Law.a1 (Zj rfl rfl (Qq _ _ _)))) es rfl)) (Z1 ?_))
   ·rw[K9 (by simp[D.dep])];simp[D.eq,h1]
   ·refine(Dy _ hfr rfl).trans ?_
    simp only[pos]
  ·have exy:x=t.tm p.a p.b/\y=p.b:=by
    unfold Xb at hv
    rw[if_pos h1] at hv
    split at hv
    ·split at hv
     ·cases hv;exact⟨rfl,rfl⟩
     ·cases hv
    ·split at hv
     ·cases hv;exact⟨rfl,rfl⟩
     ·cases hv
   obtain⟨rfl,rfl⟩:=exy
   have es:=Of wi.x gx n0 n1 t1 h1 hp.x
   refine go (Zx (d:=.int 0) (Jb (Z7 (Zg (Zj (Zj rfl rfl (Qd _ _)) rfl (Qd _ _)) rfl ?_)) rfl)) (go (Zx (Zq (aC (Q8 rfl rfl (Qd _ _)) (Law.a1 (Zj rfl rfl (Qd _ _)))) es rfl)) (Z1 ?_))
   ·have:=Zpl (t:=t) A B h1 gx.a0
    rw[K9 (by simp[D.dep])];simp[D.eq,this]
   ·refine(Dy _ hfr rfl).trans ?_
    simp only[pos]
end
noncomputable def mB:Zl->M O:=(Zy (Z4 6 (Zt Gb (Zb (Zd 0) (Zb (Zd 1) (Zb (Zd 5) Zh)))))
   (Yy (tA (DL.tB (Zn Xd (Zd 6) (eC .non))) (tA (DL.tB (Zt Yw (Zb (Zd 6) (Zb (Zd 2) Zh)))) (DL.tO (DL.tB (Zn Ng (Zd 4) (eC .non))) (DL.tB (Zt Yw (Zb (Zd 6) (Zb 4[0]! Zh))))))) (Z4 4 (Qf (Zb (Zd 6) (Zb (Zd 5) Zh)))) Qs))
def D0 (now T:Int):Ea->D
 |none=>.non
 |some (p,x,y)=>.tup [Yk (x-now*y) (y*T),p.D]
section
variable {z W H:Nat}{T now w:Int}{t u:Tk}{A B A' B':Int}
def G9 (t u:Tk)(now w:Int)(p:Po4):Option (Int×Int):=Yp (Xb t u p) now w
def Zlc {x y:Int}(hy:0<y)(tp:0<T):(x-now*y)*T<(w-now)*(y*T)↔x<w*y:=by
 rw[show(w-now)*(y*T)=(w*y-now*y)*T by grind,K3 tp]
 lia
def Zld {x y x' y':Int}(hy:0<y)(hy':0<y')(tp:0<T):(x-now*y)*(y'*T)<(x'-now*y')*(y*T)↔x*y'<x'*y:=by
 rw[show(x-now*y)*(y'*T)=(x*y'-now*(y*y'))*T by grind,show(x'-now*y')*(y*T)=(x'*y-now*(y*y'))*T by grind,K3 tp]
 lia
def Zev (wi:WS W H T now t u)(gx:GI T t A B)(gy:GI T u A' B')(hw:now<w)(hw':w<=T){p:Po4}(hp:PtOk W H p)(o3:Option S){s:Ea}(hs:Zha 186 s)(v6:Option S):
  ∃w6,mB [Io (Q4 t u now),Io (.tup [gv t A B,gv u A' B']),Io (Yk (w-now) T),o3,Io (D0 now T s),Io p.D,v6] =
   .ok (.nx [Io (Q4 t u now),Io (.tup [gv t A B,gv u A' B']),Io (Yk (w-now) T),o3,Io (D0 now T (Y9 (G9 t u now w) s p)),Io p.D,w6]):=by
 have n0:=wi.n0
 have n1:=wi.n1
 have t1:=wi.t1
 have tp:0<T:=by lia
 have et:=Zlb wi gx gy hp
 have bg:=Us
 have fw:Fr 233 (w-now) T:=Fr.mono (j:=46) ⟨tp,by rw[K0];lia,by rw[K0];lia⟩ (by decide)
 refine⟨Io (Og t u now T p),go (Zx (Zq (aC rfl (aC rfl (Law.a1 rfl))) et rfl)) ?_⟩
 unfold Og
 cases hv:Xb t u p with
 |none=>
  rw[Yx (show G9 t u now w p=none by unfold G9;rw[hv];rfl)]
  exact Z0 (Sa (Z7 (Zg rfl rfl rfl)))
 |some xy=>
  obtain⟨x,y⟩:=xy
  have hf:=Gw (wi.x.tb n0 n1 t1) (wi.y.tb n0 n1 t1) (hp.ok.mono (show 4<=46 by decide)) hv
  have hfr:=Fw hf n0 n1 t1
  have yp:0<y:=hf.pos
  dsimp only
  by_cases h0:now*y<x
  ·rw[if_pos h0]
   have l1:=Ao hfr fw (by decide)
   rw[show decide ((x-now*y)*T<(w-now)*(y*T))=decide (x<w*y) from decide_eq_decide.mpr (Zlc yp tp)] at l1
   have c1:∀(b:D) (o3:Option S),DL.tB (Zt Yw (Zb (Zd 6) (Zb (Zd 2) Zh))) [Io (Q4 t u now),Io (.tup [gv t A B,gv u A' B']),Io (Yk (w-now) T),o3,Io b,Io p.D,Io (Yk (x-now*y) (y*T))]=.ok (decide (x<w*y)):=fun b o3=>Z7 (Zq (aC rfl (Law.a1 rfl)) l1 rfl)
   by_cases h1:x<w*y
   ·have acc:G9 t u now w p=some (x,y):=Wg hv ⟨h0,h1⟩
    rw[decide_eq_true h1] at c1
    cases s with
    |none=>
     rw[Gx acc]
     exact Z6 (V3 (Z7 (Zg rfl rfl rfl)) (V3 (c1 _ _) (Zgy (Z7 (Zg rfl rfl rfl))))) (Zx (X3 rfl rfl))
    |some b=>
     obtain⟨p',x',y'⟩:=b
     have hs:Fr 186 x' y':=hs
     have l2:=Ao hfr (Fw hs n0 n1 t1) (by decide)
     rw[show decide ((x-now*y)*(y'*T)<(x'-now*y')*(y*T))=decide (x*y'<x'*y) from decide_eq_decide.mpr (Zld yp hs.pos tp)] at l2
     by_cases h2:x*y'<x'*y
     ·rw[decide_eq_true h2] at l2
      rw[Pf acc h2]
      exact Z6 (V3 (Z7 (Zg rfl rfl rfl)) (V3 (c1 _ _) (Zd2 (Z7 (Zg rfl rfl rfl)) (Z7 (Zq (aC rfl (Law.a1 (Zj rfl rfl (Qd _ _)))) l2 rfl))))) (Zx (X3 rfl rfl))
     ·rw[decide_eq_false h2] at l2
      rw[Pg acc h2]
      exact Z0 (V3 (Z7 (Zg rfl rfl rfl)) (V3 (c1 _ _) (Zd2 (Z7 (Zg rfl rfl rfl)) (Z7 (Zq (aC rfl (Law.a1 (Zj rfl rfl (Qd _ _)))) l2 rfl)))))
   ·rw[decide_eq_false h1] at c1
    rw[Yx (show G9 t u now w p=none from J3 hv fun z=>h1 z.2)]
    exact Z0 (V3 (Z7 (Zg rfl rfl rfl)) (Sa (c1 _ _)))
  ·rw[if_neg h0,Yx (show G9 t u now w p=none from J3 hv fun z=>h0 z.1)]
   exact Z0 (Sa (Z7 (Zg rfl rfl rfl)))
def Zhi (wi:WS W H T now t u){p:Po4}(hp:PtOk W H p){s:Ea}(hs:Zha 186 s):Zha 186 (Y9 (G9 t u now w) s p):=by
 cases hv:G9 t u now w p with
 |none=>rw[Yx hv];exact hs
 |some xy=>
  obtain⟨x,y⟩:=xy
  have hv':Xb t u p=some (x,y):=by
   unfold G9 Yp at hv
   split at hv
   ·rename_i e
    split at hv
    ·cases hv;exact e
    ·cases hv
   ·cases hv
  have hf:Fr 186 x y:=Gw (wi.x.tb wi.n0 wi.n1 wi.t1) (wi.y.tb wi.n0 wi.n1 wi.t1) (hp.ok.mono (show 4<=46 by decide)) hv'
  cases s with
  |none=>rw[Gx hv];exact hf
  |some b=>
   obtain⟨p',x',y'⟩:=b
   by_cases h:x*y'<x'*y
   ·rw[Pf hv h];exact hf
   ·rw[Pg hv h];exact hs
theorem D1 (wi:WS W H T now t u)(gx:GI T t A B)(gy:GI T u A' B')(hw:now<w)(hw':w<=T)(o3:Option S):∀(ps:List Po4) (s:Ea) (v5 v6:Option S),(∀p∈ps,PtOk W H p)->Zha 186 s ->
  ∃w5 w6,Y6 (Y1 5) mB (ps.map Po4.D) [Io (Q4 t u now),Io (.tup [gv t A B,gv u A' B']),Io (Yk (w-now) T),o3,Io (D0 now T s),v5,v6] =
   .ok (.nx [Io (Q4 t u now),Io (.tup [gv t A B,gv u A' B']),Io (Yk (w-now) T),o3,Io (D0 now T (ps.foldl (Y9 (G9 t u now w)) s)),w5,w6])
 |[],s,v5,v6,_,_=>⟨v5,v6,rfl⟩
 |p::ps,s,v5,v6,hp,hs=>by
  obtain⟨w6,e⟩:=Zev wi gx gy hw hw' (hp p (List.mem_cons_self ..)) o3 hs v6
  obtain⟨x5,x6,e2⟩:=D1 wi gx gy hw hw' o3 ps (Y9 (G9 t u now w) s p) (Io p.D) w6 (fun q hq=>hp q (List.mem_cons_of_mem _ hq)) (Zhi wi (hp p (List.mem_cons_self ..)) hs)
  exact⟨x5,x6,(Yu rfl e).trans e2⟩
def Znm (wi:WS W H T now t u)(gx:GI T t A B)(gy:GI T u A' B')(hw:now<w)(hw':w<=T)(ps:List Po4)(hp:∀p∈ps,PtOk W H p):
  Pc [Q4 t u now,.tup [gv t A B,gv u A' B'],Yk (w-now) T,.lst (ps.map Po4.D)]=.ok (.im (D0 now T (ps.foldl (Y9 (G9 t u now w)) none))):=by
 obtain⟨w5,w6,e⟩:=D1 wi gx gy hw hw' (Io (.lst (ps.map Po4.D))) ps none none none hp trivial
 exact(Zbk _ _ _ _ _ _).trans (Z3 (go (Zx rfl) (go ((Yt (Di rfl)).trans e) (Z1 rfl))))
def Zig (h1:t.h=1\/t.h = -1)(hl:0<t.lap){a b:Int}(hb:0<b):(t.tm a b<t.due*b↔0<t.h*(t.line*b-a))/\(t.due*b-t.lap*b<t.tm a b↔t.h*(t.line*b-a)<b):=by
 unfold Tk.tm
 have e1:0<t.h*(t.line*b-a)*t.lap↔0<t.h*(t.line*b-a):=⟨fun h=>Int.pos_of_mul_pos_left h hl,fun h=>Int.mul_pos h hl⟩
 have e2:=K3 (a:=t.h*(t.line*b-a)) (b:=b) hl
 constructor
 ·rw[<-e1];lia
 ·rw[<-e2,Int.mul_comm b t.lap];lia
def Znn (h1:t.h=1\/t.h = -1){a b:Int}(hb:0<b)(nw:∀k:Int,k*b≠a):a/b=t.sq↔0<t.h*(t.line*b-a)/\t.h*(t.line*b-a)<b:=by
 have hne:=nw t.sq
 constructor
 ·intro e
  have m0:=Int.emod_nonneg a (show b≠0 by lia)
  have m1:=Int.emod_lt_of_pos a hb
  have e0:=Int.mul_ediv_add_emod a b
  rw[e,Int.mul_comm] at e0
  unfold Tk.line Xw
  rcases h1 with h|h
  ·rw[h];simp only[show(0:Int)<1 by decide,if_true,Int.add_mul];lia
  ·rw[h];simp only[show ¬(0:Int) < -1 by decide,if_false];lia
 ·rintro⟨x1,x2⟩
  unfold Tk.line Xw at x1 x2
  refine Pi hb ?_ ?_
  ·rcases h1 with h|h
   ·rw[h] at x1 x2;simp only[show(0:Int)<1 by decide,if_true,Int.add_mul] at x1 x2;lia
   ·rw[h] at x1 x2;simp only[show ¬(0:Int) < -1 by decide,if_false] at x1 x2;lia
  ·rcases h1 with h|h
   ·rw[h] at x1 x2;simp only[show(0:Int)<1 by decide,if_true,Int.add_mul] at x1 x2;lia
   ·rw[h] at x1 x2;simp only[show ¬(0:Int) < -1 by decide,if_false] at x1 x2;lia
end
theorem Rx {f:Po4->Bool}{c1 c2:Po4->Option (Int×Int)}:∀(ps:List Po4) (s:Ea),(∀p∈ps,f p=true->c1 p=c2 p)->(∀p∈ps,f p=false->c1 p=none)->ps.foldl (Y9 c1) s=(ps.filter f).foldl (Y9 c2) s
 |[],_,_,_=>rfl
 |p::ps,s,h1,h2=>by
  have i:=fun s=>Rx ps s (fun q hq=>h1 q (List.mem_cons_of_mem _ hq)) (fun q hq=>h2 q (List.mem_cons_of_mem _ hq))
  cases hf:f p with
  |true=>
   rw[List.filter_cons_of_pos hf,List.foldl_cons,List.foldl_cons,i]
   congr 1
   unfold Y9
   rw[h1 p (List.mem_cons_self ..) hf]
  |false=>
   rw[List.filter_cons_of_neg (by rw[hf];simp),List.foldl_cons,Yx (h2 p (List.mem_cons_self ..) hf),i]
section
variable {z W H:Nat}{T now w:Int}{t u:Tk}{A B A' B':Int}{p:Po4}{x y:Int}
def Fx (hm:t.h≠0\/u.h≠0)(hv:Xb t u p=some (x,y)):(t.h≠0->x*p.b=t.tm p.a p.b*y)/\(u.h≠0->x*p.d=u.tm p.c p.d*y)/\(t.h=0->p.a=t.n/\p.b=t.m)/\(u.h=0->p.c=u.n/\p.d=u.m):=by
 unfold Xb at hv
 split at hv
 ·rename_i h1
  split at hv
  ·rename_i h2
   split at hv
   ·rename_i he
    cases hv
    exact⟨fun _=>rfl,fun _=>he,fun z=>absurd z h1,fun z=>absurd z h2⟩
   ·cases hv
  ·rename_i h2
   have h2:u.h=0:=Classical.not_not.mp h2
   split at hv
   ·rename_i he
    cases hv
    exact⟨fun _=>rfl,fun z=>absurd h2 z,fun z=>absurd z h1,fun _=>he⟩
   ·cases hv
 ·rename_i h1
  have h1:t.h=0:=Classical.not_not.mp h1
  split at hv
  ·rename_i he
   cases hv
   exact⟨fun z=>absurd h1 z,fun _=>rfl,fun _=>he,fun z=>absurd h1 (hm.resolve_right (fun q=>q z))⟩
  ·cases hv
def Zhj {a b X:Int}(hb:0<b)(hy:0<y)(e:x*b=X*y)(c:Int):(x<c*y↔X<c*b)/\(c*y<x↔c*b<X):=by
 have e1:=K3 (a:=x) (b:=c*y) hb
 have e2:=K3 (a:=X) (b:=c*b) hy
 have e3:=K3 (a:=c*y) (b:=x) hb
 have e4:=K3 (a:=c*b) (b:=X) hy
 rw[<-e1,<-e2,<-e3,<-e4,e,show c*y*b=c*b*y by grind]
 exact⟨Iff.rfl,Iff.rfl⟩
def Oh (h:TI z T now t)(hh:t.h≠0){a b:Int}(hp:PIn z a b)(hy:0<y)(e:x*b=t.tm a b*y):a/b=t.sq↔x<t.due*y/\(t.due-t.lap)*y<x:=by
 obtain⟨h1,h2,_⟩:=h.h1 hh
 have hb:=hp.fr.pos
 have f:=Zhj (a:=a) hb hy e
 rw[Znn h1 hb hp.nw,<-(Zig h1 h2 hb).1,<-(Zig h1 h2 hb).2,(f t.due).1,(f (t.due-t.lap)).2,Int.sub_mul]
def Oi (wi:WS W H T now t u)(hp:PtOk W H p):(Dt t.sq u.sq p=true->G9 t u now (Z5 t u T) p=Yp (Xb t u p) 0 T)/\(Dt t.sq u.sq p=false->G9 t u now (Z5 t u T) p=none):=by
 unfold G9
 cases hv:Xb t u p with
 |none=>exact⟨fun _=>rfl,fun _=>rfl⟩
 |some xy=>
  obtain⟨x,y⟩:=xy
  have n0:=wi.n0
  have n1:=wi.n1
  have t1:=wi.t1
  have hf:=Gw (wi.x.tb n0 n1 t1) (wi.y.tb n0 n1 t1) (hp.ok.mono (show 4<=46 by decide)) hv
  have hy:0<y:=hf.pos
  obtain⟨f1,f2,f3,f4⟩:=Fx wi.mv hv
  obtain⟨w0,w1,w2,w3⟩:=wi.nxt
  have sx:t.h≠0->(p.a/p.b=t.sq↔x<t.due*y/\(t.due-t.lap)*y<x):=fun z=>Oh wi.x z hp.x hy (f1 z)
  have sy:u.h≠0->(p.c/p.d=u.sq↔x<u.due*y/\(u.due-u.lap)*y<x):=fun z=>Oh wi.y z hp.y hy (f2 z)
  have mono:∀{c d:Int},c<=d->c*y<=d*y:=fun h=>Int.mul_le_mul_of_nonneg_right h (Int.le_of_lt hy)
  constructor
  ·intro hs
   obtain⟨s1,s2⟩:=of_decide_eq_true hs
   show(if now*y<x/\x<Z5 t u T*y then some (x,y) else none)=(if 0*y<x/\x<T*y then some (x,y) else none)
   have key:(now*y<x/\x<Z5 t u T*y)↔(0*y<x/\x<T*y):=by
    constructor
    ·rintro⟨a,b⟩
     have:=mono n0
     have:=mono w1
     exact⟨by lia,by lia⟩
    ·rintro⟨a,b⟩
     constructor
     ·rcases wi.at0 with z|⟨z1,z2⟩|⟨z1,z2⟩
      ·rw[z];exact a
      ·have:=((sx z1).mp s1).2
       rw[z2,show now+t.lap-t.lap=now by lia] at this
       exact this
      ·have:=((sy z1).mp s2).2
       rw[z2,show now+u.lap-u.lap=now by lia] at this
       exact this
     ·have hw:Z5 t u T=T\/(t.h≠0/\Z5 t u T=t.due)\/(u.h≠0/\Z5 t u T=u.due):=by
       rcases wi.x.mv with⟨z1,z2,_⟩|⟨z1,_⟩
       ·rcases wi.y.mv with⟨z3,z4,_⟩|⟨z3,_⟩
        ·unfold Z5;left;lia
        ·unfold Z5;rw[z2];lia
       ·rcases wi.y.mv with⟨z3,z4,_⟩|⟨z3,_⟩
        ·unfold Z5;rw[z4];lia
        ·unfold Z5;lia
      rcases hw with e|⟨z1,e⟩|⟨z1,e⟩
      ·rw[e];exact b
      ·rw[e];exact((sx z1).mp s1).1
      ·rw[e];exact((sy z1).mp s2).1
   by_cases hk:now*y<x/\x<Z5 t u T*y
   ·rw[if_pos hk,if_pos (key.mp hk)]
   ·rw[if_neg hk,if_neg (fun z=>hk (key.mpr z))]
  ·intro hs
   refine J3 rfl fun⟨a,b⟩=>?_
   refine of_decide_eq_false hs ⟨?_,?_⟩
   ·by_cases z:t.h=0
    ·obtain⟨e1,e2⟩:=f3 z
     rw[e1,e2]
     rcases wi.x.mv with⟨_,_,q⟩|⟨q,_⟩
     ·exact q.symm
     ·lia
    ·refine(sx z).mpr ⟨?_,?_⟩
     ·have:=mono w2;lia
     ·obtain⟨_,_,_,q⟩:=wi.x.h1 z
      have:=mono (show t.due-t.lap<=now by lia);lia
   ·by_cases z:u.h=0
    ·obtain⟨e1,e2⟩:=f4 z
     rw[e1,e2]
     rcases wi.y.mv with⟨_,_,q⟩|⟨q,_⟩
     ·exact q.symm
     ·lia
    ·refine(sy z).mpr ⟨?_,?_⟩
     ·have:=mono w3;lia
     ·obtain⟨_,_,_,q⟩:=wi.y.h1 z
      have:=mono (show u.due-u.lap<=now by lia);lia
def Zew (wi:WS W H T now t u)(ps:List Po4)(hp:∀p∈ps,PtOk W H p):ps.foldl (Y9 (G9 t u now (Z5 t u T))) none=Gf ps T t u:=
 Rx ps none (fun p h=>(Oi wi (hp p h)).1) (fun p h=>(Oi wi (hp p h)).2)
end
section
variable {z W H:Nat}{T now w:Int}{t u:Tk}{A B A' B':Int}{ss:List Sd}
def Zno (h:TI z T now t)(g:GI T t A B)(n0:0<=now)(n1:now<T)(t1:T<=Kq)(hw:now<w)(hw':w<=T):∃d,Y2 [gv t A B,Yk (w-now) T]=.ok (.im d)/\Kn [place t now,d]=.ok (.im (place t w)):=by
 have bg:=Us
 have tp:0<T:=by lia
 have fw:Fr 46 (w-now) T:=⟨tp,by rw[K0];lia,by rw[K0];lia⟩
 have e1:=An (g.fr h) fw (by decide)
 rw[<-Ft g] at e1
 have f2:Fr 93 (t.h*A*(w-now)) (B*T):=(Zea (g.fr h) fw).mono (by decide)
 have pf:=Rp h n0 n1 t1 n0 (Int.le_of_lt n1)
 have pf':=Rp h n0 n1 t1 (show 0<=w by lia) hw'
 have e2:=Zk3 pf f2 (by decide)
 rw[<-U2 h] at e2
 refine⟨_,e1,e2.trans ?_⟩
 rw[U2 h,Ym (t':=t.pn w) (b':=t.pd) (Int.mul_pos pf.pos f2.pos) pf'.pos ?_]
 unfold Tk.pn Tk.pd Tk.top
 by_cases hh:t.h=0
 ·rw[if_pos hh,if_pos hh,if_pos hh,hh]
  grind
 ·rw[if_neg hh,if_neg hh,if_neg hh]
  have:=g.hm hh
  grind
def Pj (h:TI z T now t)(n0:0<=now)(n1:now<T)(t1:T<=Kq)(hw:now<w)(hw':w<=T)(hd:w<=t.due):∃p q,place t w=nD p q/\Fr 93 p q/\((t.h≠0/\t.due=w/\p=t.line/\q=1)\/(t.due≠w/\q≠1/\p/q=t.sq)):=by
 rcases h.mv with⟨h0,hd0,hs⟩|⟨h1,hl,h3,h4⟩
 ·refine⟨t.n,t.m,if_pos h0,h.pn.fr.mono (by decide),.inr ⟨by lia,fun e=>?_,hs.symm⟩⟩
  have:=h.pn.nw t.n
  rw[e] at this
  simp at this
 ·have hh:t.h≠0:=by lia
  have hf:=h.fr n0 n1 t1 hh (show 0<=w by lia) hw'
  have ep:place t w=Yk (t.top w) t.lap:=if_neg hh
  by_cases e:t.due=w
  ·refine⟨t.line,1,?_,?_,.inl ⟨hh,e,rfl,rfl⟩⟩
   ·rw[ep,<-Va (p:=t.line) (q:=1) (by decide) (by simp)]
    refine Ym hl (by decide) ?_
    unfold Tk.top
    rw[e]
    grind
   ·have tb:=h.tb n0 n1 t1
    exact⟨by decide,Nat.le_trans tb.li (Xs (by decide)),Nat.pow_pos (by decide)⟩
  ·obtain⟨p,q,el,hpq,em,_⟩:=Xx hf
   have top:t.top w=t.line*t.lap-t.h*(t.due-w):=rfl
   refine⟨p,q,by rw[ep,el],hpq,.inr ⟨e,fun e1=>?_,?_⟩⟩
   ·rw[e1,top] at em
    have:(t.line-p)*t.lap=t.h*(t.due-w):=by grind
    rcases h1 with e2|e2
    ·rw[e2,Int.one_mul] at this
     have h5:0<(t.line-p)*t.lap:=by lia
     have h6:=Int.pos_of_mul_pos_left h5 hl
     have:=Int.mul_le_mul_of_nonneg_right (show 1<=t.line-p by lia) (Int.le_of_lt hl)
     lia
    ·rw[e2] at this
     have h5:0<(p-t.line)*t.lap:=by
      have:(p-t.line)*t.lap = - ((t.line-p)*t.lap):=by grind
      lia
     have h6:=Int.pos_of_mul_pos_left h5 hl
     have:=Int.mul_le_mul_of_nonneg_right (show 1<=p-t.line by lia) (Int.le_of_lt hl)
     have:(p-t.line)*t.lap = - ((t.line-p)*t.lap):=by grind
     lia
   ·rw[Rl hl hpq.pos em]
    have li:t.line=Xw t.sq t.h:=rfl
    unfold Xw at li
    refine Pi hl ?_ ?_
    ·rcases h1 with e2|e2
     ·rw[e2] at li top;rw[if_pos (by decide)] at li;rw[top,li,Int.add_mul];lia
     ·rw[e2] at li top;rw[if_neg (by decide)] at li;rw[top,li];lia
    ·rcases h1 with e2|e2
     ·rw[e2] at li top;rw[if_pos (by decide)] at li;rw[top,li,Int.add_mul];lia
     ·rw[e2] at li top;rw[if_neg (by decide)] at li;rw[top,li];lia
def Pk (ss:List Sd):List D:=ss.flatMap fun s=>[.tup [.int s.x,.int s.y],if s.up=true then .tup [.int s.x,.int (s.y+1)] else .tup [.int (s.x+1),.int s.y]]
def cB:Zl->M O:=(Zy (Vg 3 (Qf (Zb (Zd 5) (Zb (Zd 6) Zh))))
   (Vg 3 (Uo (DL.tB (Zn Ys (Zd 4) ↑"up")) (Qf (Zb (Zd 5) (Zb (Zn Qi (Zd 6) ↑1) Zh))) (Qf (Zb (Zn Qi (Zd 5) ↑1) (Zb (Zd 6) Zh))))))
def cG:D->Zl->M Zl:=Kr 5 (Qp (Y1 4) (Qp (Y1 5) (Qp (Y1 6) (Qp (Y1 7) (Qp (Y1 8) K5)))))
def Zle (o0 o1 o2 v4 v5 v6 v7 v8:Option S)(l:List D)(hl:l.length<=900)(s:Sd):∃sd1,cG s.D [o0,o1,o2,some (.ow l),v4,v5,v6,v7,v8]=.ok sd1 /\
  cB sd1=.ok (.nx [o0,o1,o2,some (.ow (l++[.tup [.int s.x,.int s.y],if s.up=true then .tup [.int s.x,.int (s.y+1)] else .tup [.int (s.x+1),.int s.y]])),Io (kd s.up),Jo s.x,Jo s.y,Io (fc s.f),Io (fc s.g)]):=by
 refine⟨[o0,o1,o2,some (.ow l),Io (kd s.up),Jo s.x,Jo s.y,Io (fc s.f),Io (fc s.g)],rfl,?_⟩
 have e1:∀l:List D,Uo (DL.tB (Zn Ys (Zd 4) ↑"up")) (Qf (Zb (Zd 5) (Zb (Zn Qi (Zd 6) ↑1) Zh))) (Qf (Zb (Zn Qi (Zd 5) ↑1) (Zb (Zd 6) Zh))) [o0,o1,o2,some (.ow l),Io (kd s.up),Jo s.x,Jo s.y,Io (fc s.f),Io (fc s.g)]=.ok (if s.up=true then .tup [.int s.x,.int (s.y+1)] else .tup [.int (s.x+1),.int s.y]):=fun l=>by
  cases hu:s.up with
  |true=>exact Jb (Z7 (Zg rfl rfl (by rw[Y8 (by simp[kd,D.dep])];rfl))) (X3 rfl rfl)
  |false=>exact Jl (Z7 (Zg rfl rfl (by rw[Y8 (by simp[kd,D.dep])];rfl))) (X3 rfl rfl)
 refine go (Gd rfl (X3 rfl rfl) (by lia)) ((Gd (ds:=l++[.tup [.int s.x,.int s.y]]) rfl (e1 _) (by rw[List.length_append,List.length_singleton];lia)).trans ?_)
 rw[List.append_assoc]
 rfl
theorem Zex (o0 o1 o2:Option S):∀(ss:List Sd) (l:List D) (v4 v5 v6 v7 v8:Option S),l.length+2*ss.length<=900->∃w4 w5 w6 w7 w8,Y6 cG cB (ss.map Sd.D) [o0,o1,o2,some (.ow l),v4,v5,v6,v7,v8]=.ok (.nx [o0,o1,o2,some (.ow (l++Pk ss)),w4,w5,w6,w7,w8])
 |[],l,v4,v5,v6,v7,v8,_=>⟨v4,v5,v6,v7,v8,by simp[Pk,Y6]⟩
 |s::ss,l,v4,v5,v6,v7,v8,hl=>by
  rw[List.length_cons] at hl
  obtain⟨sd1,e1,e2⟩:=Zle o0 o1 o2 v4 v5 v6 v7 v8 l (by lia) s
  obtain⟨w4,w5,w6,w7,w8,e3⟩:=Zex o0 o1 o2 ss (l++[.tup [.int s.x,.int s.y],if s.up=true then .tup [.int s.x,.int (s.y+1)] else .tup [.int (s.x+1),.int s.y]]) _ _ _ _ _ (by rw[List.length_append];simp only[List.length_cons,List.length_nil];lia)
  refine⟨w4,w5,w6,w7,w8,(Yu e1 e2).trans (e3.trans ?_)⟩
  rw[List.append_assoc]
  rfl
def Zih (a b c d:Int):D.eq (.tup [.int a,.int b]) (.tup [.int c,.int d])=decide (a=c/\b=d):=Dl a b c d
def Zhk (ss:List Sd)(x y:Int):Md (.tup [.int x,.int y]) (Pk ss)=ss.any (fun s=>s.tch x y):=by
 unfold Md Pk
 rw[List.any_flatMap]
 congr 1
 funext s
 simp only[List.any_cons,List.any_nil,Bool.or_false]
 unfold Sd.tch Sd.at
 cases hu:s.up with
 |true=>
  rw[Bool.eq_iff_iff]
  simp only[if_true,Zih,Bool.or_eq_true,decide_eq_true_eq]
  constructor
  ·rintro(⟨a,b⟩|⟨a,b⟩)
   ·exact .inr (.inl ⟨trivial,a,b⟩)
   ·exact .inl ⟨trivial,a,by lia⟩
  ·rintro(⟨_,a,b⟩|⟨_,a,b⟩|⟨q,_⟩|⟨q,_⟩)
   ·exact .inr ⟨a,by lia⟩
   ·exact .inl ⟨a,b⟩
   ·cases q
   ·cases q
 |false=>
  rw[Bool.eq_iff_iff]
  simp only[Bool.false_eq_true,if_false,Zih,Bool.or_eq_true,decide_eq_true_eq]
  constructor
  ·rintro(⟨a,b⟩|⟨a,b⟩)
   ·exact .inr (.inr (.inr ⟨trivial,a,b⟩))
   ·exact .inr (.inr (.inl ⟨trivial,by lia,b⟩))
  ·rintro(⟨q,_⟩|⟨q,_⟩|⟨_,a,b⟩|⟨_,a,b⟩)
   ·exact q.elim
   ·exact q.elim
   ·exact .inr ⟨by lia,b⟩
   ·exact .inl ⟨a,b⟩
def Zey {W H:Int}{ss:List Sd}(hl:ss.length<=400)(x y:Int):J2 [Qo W H ss,.int x,.int y]=.ok (.im (.bl (Ko W H ss x y))):=by
 have c3:DL.tO (DL.tB (Zn Er (Zd 1) (Jq (Zb ↑0 (Zb 0[0]! Zh))))) (DL.tB (Zn Er (Zd 2) (Jq (Zb ↑0 (Zb 0[1]! Zh))))) [Io (Qo W H ss),Jo x,Jo y,none,none,none,none,none,none]=.ok (decide (x=0\/x=W)||decide (y=0\/y=H)):=
  Zky (Z7 (Zg rfl (Wf (aC rfl (Law.a1 (Zj rfl rfl (Qd _ _)))) (Jp (by show(2:Nat)<=1000000;decide))) (Zif x 0 W))) (Z7 (Zg rfl (Wf (aC rfl (Law.a1 (Zj rfl rfl (Qq _ _ _)))) (Jp (by show(2:Nat)<=1000000;decide))) (Zif y 0 H)))
 unfold Ko
 refine(Zbu _ _ _ _ _).trans (Z3 ?_)
 cases hb:(decide (x=0\/x=W)||decide (y=0\/y=H)) with
 |true=>
  rw[hb] at c3
  exact Qt (Z6 c3 (Z1 rfl))
 |false=>
  rw[hb] at c3
  obtain⟨w4,w5,w6,w7,w8,e⟩:=Zex (Io (Qo W H ss)) (Jo x) (Jo y) ss [] none none none none none (by simp;lia)
  have e0:V6 0[2]! [Io (Qo W H ss),Jo x,Jo y,some (.ow []),none,none,none,none,none]=.ok (ss.map Sd.D):=T1 (Zj rfl rfl (Ls _ _ _ _))
  refine go (Z0 c3) (go (Ji 3 _) (go ((Yt e0).trans e) (Jy (Z1 (Zg (x:=.tup [.int x,.int y]) (y:=.lst (Pk ss)) (X3 rfl rfl) rfl ?_)))))
  have hd:D.deps (Pk ss)<=60:=Ul fun d hd=>by
   unfold Pk at hd
   obtain⟨s,_,hs⟩:=List.mem_flatMap.mp hd
   simp only[List.mem_cons,List.not_mem_nil,or_false] at hs
   rcases hs with rfl|rfl
   ·exact Rm _ _
   ·split<;>exact Rm _ _
  show(if D.deps (Pk ss)<=60 then M.ok (D.bl (Md (.tup [.int x,.int y]) (Pk ss))) else .bad)=_
  rw[if_pos hd,Zhk]
  rfl
end
def Zii (x y:Int):Bj (.int x) (.int y)=.ok (.bl (decide (x<y))):=rfl
def Znp {sd:Zl}{h A:Int}(hh:h=1\/h = -1)(ha:0<A)(o:Option (Bool×Bool))(e4:sd[4]?=some (Io (M0 o))){fg:Zl->M D}(hg:fg sd=.ok (.int (h*A))):
  Uo (DL.tB (Zn Ng (Zd 4) (eC .non))) (eC .non) (Zn Yj (Zd 4) (Kv R0 (Zb (Zn Bj fg ↑0) Zh))) sd=.ok (Ph h o).D:=by
 have v4:Zd 4 sd=.ok (M0 o):=by unfold Zd;rw[e4]
 cases o with
 |none=>exact Jb (Z7 (Zg v4 rfl rfl)) rfl
 |some fg'=>
  obtain⟨f,g⟩:=fg'
  refine Jl (Z7 (Zg v4 rfl rfl)) ?_
  show _=M.ok (fc (if 0<h then f else g))
  rcases hh with e|e
  ·rw[if_pos (by lia)]
   refine Zj v4 (i:=0) (Xv (Law.a1 (Zg hg rfl (Zii _ _))) ?_) (Qd _ _)
   rw[decide_eq_false (by rw[e];lia)]
   rfl
  ·rw[if_neg (by lia)]
   refine Zj v4 (i:=1) (Xv (Law.a1 (Zg hg rfl (Zii _ _))) ?_) (Qq _ _ _)
   rw[decide_eq_true (by rw[e];lia)]
   rfl
def Zlf {W H:Int}{ss:List Sd}{h A B x p q y:Int}{g2:D}(hh:h=1\/h = -1)(ha:0<A)(hq:0<q)(sq:sm q=true)(hf:p/q=y):
  Vo [Qo W H ss,.tup [nD x 1,nD p q],.tup [nD (h*A) B,g2],.bl true]=.ok (.im (Ph h (Jz W H ss true x y)).D):=by
 refine(Zbk _ _ _ _ _ _).trans (Z3 (Qt (Z6 rfl (go (Zx (Zq (aC rfl (Law.a1 (V5 (c:=.int y) rfl (Zj (Zj rfl rfl (Qd _ _)) rfl (Qd _ _)) (Zg (Zj (Zj rfl rfl (Qq _ _ _)) rfl (Qd _ _)) (Zj (Zj rfl rfl (Qq _ _ _)) rfl (Qq _ _ _)) (by rw[Lc hq sq,hf]))))) (Ix W H ss true x y) rfl)) (Z1 (Znp hh ha _ rfl (Zj (Zj rfl rfl (Qd _ _)) rfl (Qd _ _))))))))
def Zlg {W H:Int}{ss:List Sd}{h A B x p q y:Int}{g1:D}(hh:h=1\/h = -1)(ha:0<A)(hq:0<q)(sq:sm q=true)(hf:p/q=x):
  Vo [Qo W H ss,.tup [nD p q,nD y 1],.tup [g1,nD (h*A) B],.bl false]=.ok (.im (Ph h (Jz W H ss false x y)).D):=by
 refine(Zbk _ _ _ _ _ _).trans (Z3 (go (Z0 rfl) (go (Zx (Zq (aC rfl (Law.a1 (V5 (b:=.int x) rfl (Zg (Zj (Zj rfl rfl (Qd _ _)) rfl (Qd _ _)) (Zj (Zj rfl rfl (Qd _ _)) rfl (Qq _ _ _)) (by rw[Lc hq sq,hf])) (Zj (Zj rfl rfl (Qq _ _ _)) rfl (Qd _ _))))) (Ix W H ss false x y) rfl)) (Z1 (Znp hh ha _ rfl (Zj (Zj rfl rfl (Qq _ _ _)) rfl (Qd _ _)))))))
section
variable {z W H:Nat}{T now:Int}{t u:Tk}{A B A' B':Int}{ss:List Sd}
def Znq (wi:WS W H T now t u)(gx:GI T t A B)(gy:GI T u A' B'){w:Int}(ew:w=Z5 t u T)(c:Bool)(hc:c=decide (t.h≠0/\t.due=w))(one:t.due=w\/u.due=w)(nb:¬(t.due=w/\u.due=w)):
  Vo [Qo W H ss,Q4 t u w,.tup [gv t A B,gv u A' B'],.bl c]=.ok (.im (thing W H ss t u w).D):=by
 obtain⟨w0,w1,w2,w3⟩:=wi.nxt
 rw[<-ew] at w0 w1 w2 w3
 obtain⟨p1,q1,e1,f1,k1⟩:=Pj wi.x wi.n0 wi.n1 wi.t1 w0 w1 w2
 obtain⟨p2,q2,e2,f2,k2⟩:=Pj wi.y wi.n0 wi.n1 wi.t1 w0 w1 w3
 have ep:Q4 t u w=.tup [nD p1 q1,nD p2 q2]:=by unfold Q4;rw[e1,e2]
 rw[ep]
 unfold thing
 rw[if_neg nb]
 by_cases hx:t.due=w
 ·rw[if_pos hx]
  rcases k1 with⟨h1,_,rfl,rfl⟩|⟨k,_⟩
  ·rcases k2 with⟨_,k,_⟩|⟨_,_,k2⟩
   ·exact absurd ⟨hx,k⟩ nb
   ·rw[decide_eq_true ⟨h1,hx⟩] at hc
    subst hc
    exact Zlf (wi.x.h1 h1).1 gx.a0 f2.pos (Qv f2.bot (by decide)) k2
  ·exact absurd hx k
 ·rw[if_neg hx]
  have hy:u.due=w:=one.resolve_left hx
  rw[if_pos hy]
  rcases k2 with⟨h1,_,rfl,rfl⟩|⟨k,_⟩
  ·rcases k1 with⟨_,k,_⟩|⟨_,_,k1⟩
   ·exact absurd k hx
   ·rw[decide_eq_false (fun z=>hx z.2)] at hc
    subst hc
    exact Zlg (wi.y.h1 h1).1 gy.a0 f1.pos (Qv f1.bot (by decide)) k1
  ·exact absurd hy k
end
noncomputable def D2:Zl->M O:=(Zy (Yy (tA (DL.tB (Zn Ys (Zn Yj 2[0]! ↑1) ↑1)) (tA (DL.tB (Zn Ys (Zn Yj 2[1]! ↑1) ↑1)) (DL.tB (Zt J2 (Zb (Zd 0) (Zb (Zn Yj 2[0]! ↑0) (Zb (Zn Yj 2[1]! ↑0) Zh))))))) (V9 5 (Qj (Qf (Zb ↑"corner" (Zb (Zd 2) (Zb (Zd 5) Zh)))))) Qs)
   (Zy (Yy (DL.tB (Zd 10)) (V9 5 (Qj (Qf (Zb ↑"end" (Zb (Zd 2) (Zb (Zd 5) Zh)))))) Qs)
   (Zy (Z4 6 (Zt X2 (Zb (Zd 7) (Zb (Zd 6) Zh))))
   (Yy (DL.tO (DL.tN (DL.tB (Zd 8))) (DL.tN (DL.tB (Zd 9)))) (Zy (Z4 13 (Zt Vo (Zb (Zd 0) (Zb (Zd 2) (Zb (Zd 3) (Zb (Zd 8) Zh))))))
   (Zy (Yy (DL.tB (Zn Ys (Zd 13) ↑"p")) (V9 5 (Qj (Qf (Zb ↑"plain" (Zb (Zd 2) (Zb (Zd 5) Zh)))))) Qs)
   (Yy (DL.tB (Zn Ys (Zd 13) ↑"m")) (Zy (Yy (Wy 5 (DL.tB (Zn Ys (Kv Wl (Zb (Zd 5) Zh)) (Zd 4)))) (V9 5 (Qj (Qf (Zb ↑"many" (Zb (Zd 2) (Zb (Zd 5) Zh)))))) Qs)
   (Zy (Vg 5 (Zd 2))
   (Zy (Z4 14 (Zn DL.Xf ↑1 (Kv R0 (Zb (Zd 8) Zh))))
   (Zy (Z4 15 (Qf (Zb (Zn DL.Xf ↑0 (Zn Yj (Zn Yj (Zd 3) (Zd 14)) ↑0)) (Zb (Zn Yj (Zn Yj (Zd 3) (Zd 14)) ↑1) Zh))))
   (Z4 3 (Uo (DL.tB (Zn Ys (Zd 14) ↑0)) (Qf (Zb (Zd 15) (Zb 3[1]! Zh))) (Qf (Zb 3[0]! (Zb (Zd 15) Zh))))))))) Qs))) Qs))))
noncomputable def Oj:Zl->M O:=(Zy (P0 (Zt U1 (Zb (Zd 2) (Zb (Zd 3) Zh))) (Kr 3 (Qp (Y1 7) (Qp (Y1 8) (Qp (Y1 9) K5)))))
 (Zy (Z4 10 (Ek (Zt Yw (Zb (Zd 7) (Zb (Zd 6) Zh)))))
 (Zy (Z4 11 (Uo (DL.tB (Zd 10)) (Zd 6) (Zd 7)))
 (Zy (Z4 12 (Zt Pc (Zb (Zd 2) (Zb (Zd 3) (Zb (Zd 11) (Zb (Zd 1) Zh))))))
 (Zy (Yy (DL.tB (Zn Xd (Zd 12) (eC .non))) (V9 5 (Qj (Qf (Zb ↑"person" (Zb 12[1]! (Zb (Zd 5) Zh)))))) Qs)
 (Zy (Z4 2 (Kv Su (Zb (G8 (X6 (Yf (Zb ↑2 Zh)) 1 [2,11,3] (Y1 0) (Zt Kn (Zb (Zn Yj (Zd 1) (Zd 0)) (Zb (Zt Y2 (Zb (Zn Yj (Zd 3) (Zd 0)) (Zb (Zd 2) Zh))) Zh))))) Zh)))
 D2))))))
noncomputable def Znr:Zl->M O:=(Yy (DL.tO (DL.tN (DL.tB (Zd 8))) (DL.tN (DL.tB (Zd 9)))) (Zy (Z4 13 (Zt Vo (Zb (Zd 0) (Zb (Zd 2) (Zb (Zd 3) (Zb (Zd 8) Zh))))))
   (Zy (Yy (DL.tB (Zn Ys (Zd 13) ↑"p")) (V9 5 (Qj (Qf (Zb ↑"plain" (Zb (Zd 2) (Zb (Zd 5) Zh)))))) Qs)
   (Yy (DL.tB (Zn Ys (Zd 13) ↑"m")) (Zy (Yy (Wy 5 (DL.tB (Zn Ys (Kv Wl (Zb (Zd 5) Zh)) (Zd 4)))) (V9 5 (Qj (Qf (Zb ↑"many" (Zb (Zd 2) (Zb (Zd 5) Zh)))))) Qs)
   (Zy (Vg 5 (Zd 2))
   (Zy (Z4 14 (Zn DL.Xf ↑1 (Kv R0 (Zb (Zd 8) Zh))))
   (Zy (Z4 15 (Qf (Zb (Zn DL.Xf ↑0 (Zn Yj (Zn Yj (Zd 3) (Zd 14)) ↑0)) (Zb (Zn Yj (Zn Yj (Zd 3) (Zd 14)) ↑1) Zh))))
   (Z4 3 (Uo (DL.tB (Zn Ys (Zd 14) ↑0)) (Qf (Zb (Zd 15) (Zb 3[1]! Zh))) (Qf (Zb 3[0]! (Zb (Zd 15) Zh))))))))) Qs))) Qs)
def Zlh {f:Zl->M D}{i j k:Nat}{sd:Zl}{a b c:D}(h:f sd=.ok (.tup [a,b,c])):P0 f (Kr 3 (Qp (Y1 i) (Qp (Y1 j) (Qp (Y1 k) K5)))) sd=.ok (.nx (((sd.set i (Io a)).set j (Io b)).set k (Io c))):=by
 unfold P0
 rw[h]
 rfl
section
variable {z W H:Nat}{T now:Int}{t u:Tk}{A B A' B':Int}{ss:List Sd}{ps:List Po4}{most:Nat}
def thing_co {w:Int}:thing W H ss t u w=.co↔(t.due=w/\u.due=w)/\Ko W H ss t.line u.line=true:=by
 unfold thing
 split
 ·rename_i h
  split
  ·rename_i c;exact⟨fun _=>⟨h,c⟩,fun _=>rfl⟩
  ·rename_i c;exact⟨fun z=>(by cases z),fun z=>absurd z.2 c⟩
 ·rename_i h
  refine⟨fun z=>?_,fun z=>absurd z.1 h⟩
  split at z
  ·exact absurd z Dw
  ·split at z
   ·exact absurd z Dw
   ·cases z
def Zli (wi:WS W H T now t u){w:Int}(ew:w=Z5 t u T)(hl:ss.length<=400){sd:Zl}(e0:sd[0]?=some (Io (Qo W H ss)))(e2:sd[2]?=some (Io (Q4 t u w))):
  (tA (DL.tB (Zn Ys (Zn Yj 2[0]! ↑1) ↑1)) (tA (DL.tB (Zn Ys (Zn Yj 2[1]! ↑1) ↑1)) (DL.tB (Zt J2 (Zb (Zd 0) (Zb (Zn Yj 2[0]! ↑0) (Zb (Zn Yj 2[1]! ↑0) Zh))))))) sd=.ok (decide (thing W H ss t u w=.co)):=by
 obtain⟨w0,w1,w2,w3⟩:=wi.nxt
 rw[<-ew] at w0 w1 w2 w3
 obtain⟨p1,q1,e1,f1,k1⟩:=Pj wi.x wi.n0 wi.n1 wi.t1 w0 w1 w2
 obtain⟨p2,q2,e2',f2,k2⟩:=Pj wi.y wi.n0 wi.n1 wi.t1 w0 w1 w3
 have ep:Q4 t u w=.tup [nD p1 q1,nD p2 q2]:=by unfold Q4;rw[e1,e2']
 have v0:Zd 0 sd=.ok (Qo W H ss):=by unfold Zd;rw[e0]
 have v2:Zd 2 sd=.ok (.tup [nD p1 q1,nD p2 q2]):=by unfold Zd;rw[e2,ep]
 have b1:DL.tB (Zn Ys (Zn Yj 2[0]! ↑1) ↑1) sd=.ok (q1==1):=Z7 (Zg (Zj (Zj v2 rfl (Qd _ _)) rfl (Qq _ _ _)) rfl (Qy _ _))
 have b2:DL.tB (Zn Ys (Zn Yj 2[1]! ↑1) ↑1) sd=.ok (q2==1):=Z7 (Zg (Zj (Zj v2 rfl (Qq _ _ _)) rfl (Qq _ _ _)) rfl (Qy _ _))
 have b3:DL.tB (Zt J2 (Zb (Zd 0) (Zb (Zn Yj 2[0]! ↑0) (Zb (Zn Yj 2[1]! ↑0) Zh)))) sd=.ok (Ko W H ss p1 p2):=Z7 (Zq (aC v0 (aC (Zj (Zj v2 rfl (Qd _ _)) rfl (Qd _ _)) (Law.a1 (Zj (Zj v2 rfl (Qq _ _ _)) rfl (Qd _ _))))) (Zey hl p1 p2) rfl)
 rcases k1 with⟨_,d1,rfl,rfl⟩|⟨d1,n1,_⟩
 ·rcases k2 with⟨_,d2,rfl,rfl⟩|⟨d2,n2,_⟩
  ·refine(V3 b1 (V3 b2 b3)).trans ?_
   congr 1
   rw[Bool.eq_iff_iff,decide_eq_true_iff,thing_co]
   exact⟨fun z=>⟨⟨d1,d2⟩,z⟩,fun z=>z.2⟩
  ·rw[show(q2==1)=false by simp[n2]] at b2
   rw[decide_eq_false (fun z=>d2 (thing_co.mp z).1.2)]
   exact V3 b1 (Sa b2)
 ·rw[show(q1==1)=false by simp[n1]] at b1
  rw[decide_eq_false (fun z=>d1 (thing_co.mp z).1.1)]
  exact Sa b1
def Zez (wi:WS W H T now t u):now<md t u/\(md t u<T->Z5 t u T=md t u)/\(¬md t u<T->Z5 t u T=T):=by
 have n1:=wi.n1
 unfold md Z5
 rcases wi.x.mv with⟨z1,z2,_⟩|⟨z1,_,z2,z3⟩
 ·rcases wi.y.mv with⟨z3,_⟩|⟨z3,_,z4,z5⟩
  ·have:=wi.mv;lia
  ·rw[if_pos z1,z2];lia
 ·rw[if_neg (by lia)]
  rcases wi.y.mv with⟨z4,z5,_⟩|⟨z4,_,z5,z6⟩
  ·rw[if_pos z4,z5];lia
  ·rw[if_neg (by lia)];lia
def Ol (n0:0<=now)(n1:now<T)(t1:T<=Kq):Fr 46 (T-now) T:=by
 have bg:=Us
 refine⟨by lia,?_,?_⟩<;>rw[K0]<;>lia
def Zij (wi:WS W H T now t u):Fr 46 (md t u-now) T:=by
 unfold md
 split
 ·exact Ro wi.y wi.n0 wi.n1 wi.t1
 ·split
  ·exact Ro wi.x wi.n0 wi.n1 wi.t1
  ·rcases Int.le_total t.due u.due with h|h
   ·rw[Int.min_eq_left h];exact Ro wi.x wi.n0 wi.n1 wi.t1
   ·rw[Int.min_eq_right h];exact Ro wi.y wi.n0 wi.n1 wi.t1
def Ze0 (wi:WS W H T now t u):X2 [Yk (md t u-now) T,Yk (T-now) T]=.ok (.im (Yk (T-md t u) T)):=by
 have tp:0<T:=by have:=wi.n0;have:=wi.n1;lia
 rw[Zed (Zij wi) (Ol wi.n0 wi.n1 wi.t1) (by decide),Ym (t':=T-md t u) (b':=T) (Int.mul_pos tp tp) tp (by grind)]
def Gz (th:Th)(w:Int)(hm:¬(t.due=w/\th.mir=true)):gv (Yq t w th) A B=gv t A B:=by
 unfold Yq gv
 split
 ·rename_i h
  split
  ·rename_i m;exact absurd ⟨h,m⟩ hm
  ·rfl
 ·rfl
def Om (th:Th)(w:Int)(h:t.due=w)(m:th.mir=true):gv (Yq t w th) A B=nD (0-t.h*A) B:=by
 unfold Yq gv
 rw[if_pos h,if_pos m]
 show nD (-t.h*A) B=_
 congr 1
 rw[Int.neg_mul]
 lia
def Zlj (wi:WS W H T now t u)(gx:GI T t A B)(gy:GI T u A' B'){w:Int}(ew:w=Z5 t u T)(hl:ss.length<=400)(hm:most<=900)(tn:List D)(htn:tn.length<=most){c8 c9 c10:Bool}(h8:c8=decide (t.h≠0/\t.due=md t u))(h9:c9=decide (u.h≠0/\u.due=md t u))(h10:c10=!decide (md t u<T))(pl:Option S)(v11 v12 v13 v14 v15:Option S):
  let s:=[Io (Qo W H ss),pl,Io (Q4 t u w),Io (.tup [gv t A B,gv u A' B']),Jo most,some (.ow tn),Io (Yk (T-now) T),Io (Yk (md t u-now) T),Io (.bl c8),Io (.bl c9),Io (.bl c10),v11,v12,v13,v14,v15]
  (∃wd,Kp (thing W H ss t u w) (decide (w=T)) (decide (tn.length<most))=some wd/\D2 s=.ok (.rt (.im (.tup [.str wd,Q4 t u w,.lst tn])))) \/
  (Kp (thing W H ss t u w) (decide (w=T)) (decide (tn.length<most))=none/\∃w13 w14 w15,D2 s=.ok (.nx [Io (Qo W H ss),pl,Io (Q4 t u w),Io (.tup [gv (Yq t w (thing W H ss t u w)) A B,gv (Yq u w (thing W H ss t u w)) A' B']),Jo most,some (.ow (if(thing W H ss t u w).mir=true then tn++[Q4 t u w] else tn)),Io (Yk (T-w) T),Io (Yk (md t u-now) T),Io (.bl c8),Io (.bl c9),Io (.bl c10),v11,v12,w13,w14,w15])):=by
 intro s
 have cc:=Zli wi ew hl (sd:=s) rfl rfl
 obtain⟨m0,m1,m2⟩:=Zez wi
 rw[<-ew] at m1 m2
 by_cases hco:thing W H ss t u w=.co
 ·rw[decide_eq_true hco] at cc
  refine .inl ⟨Str.ofString "corner", by rw[hco];rfl,Qt (Z6 cc (Jy (Z1 (V5 rfl rfl rfl))))⟩
 ·rw[decide_eq_false hco] at cc
  by_cases hT:md t u<T
  ·have ewm:=m1 hT
   have hnT:decide (w=T)=false:=decide_eq_false (by lia)
   have nn:DL.tB (Zd 10) s=.ok false:=by
    show M.ok c10=_
    rw[h10,decide_eq_true hT];rfl
   have eg:Zt X2 (Zb (Zd 7) (Zb (Zd 6) Zh)) s=.ok (Yk (T-w) T):=by
    rw[ewm];exact Zq (aC rfl (Law.a1 rfl)) (Ze0 wi) rfl
   have hd:t.due=w\/u.due=w:=by
    rw[ew]
    have:Z5 t u T<T:=by lia
    unfold Z5 at this ⊢
    lia
   have hx:(t.h≠0/\t.due=md t u)↔t.due=w:=⟨fun z=>by rw[ewm];exact z.2,fun z=>⟨fun z0=>by
    rcases wi.x.mv with⟨_,z2,_⟩|⟨z1,_⟩<;>lia,by rw[<-ewm];exact z⟩⟩
   have hy:(u.h≠0/\u.due=md t u)↔u.due=w:=⟨fun z=>by rw[ewm];exact z.2,fun z=>⟨fun z0=>by
    rcases wi.y.mv with⟨_,z2,_⟩|⟨z1,_⟩<;>lia,by rw[<-ewm];exact z⟩⟩
   have tail:D2 s=Znr (s.set 6 (Io (Yk (T-w) T))):=go (Z0 cc) (go (Z0 nn) (go (Zx eg) rfl))
   rw[tail,hnT]
   by_cases both:t.due=w/\u.due=w
   ·have th:thing W H ss t u w=.no:=by
     have:¬Ko W H ss t.line u.line=true:=fun z=>hco (thing_co.mpr ⟨both,z⟩)
     unfold thing
     rw[if_pos both,if_neg this]
    refine .inr ⟨by rw[th];rfl,v13,v14,v15,?_⟩
    rw[th,Gz .no w (fun z=>by cases z.2),Gz .no w (fun z=>by cases z.2)]
    refine Z0 (Na (Rj ?_) (Rj ?_))
    ·show M.ok c8=_
     rw[h8,decide_eq_true (hx.mpr both.1)]
    ·show M.ok c9=_
     rw[h9,decide_eq_true (hy.mpr both.2)]
   ·have c1:DL.tO (DL.tN (DL.tB (Zd 8))) (DL.tN (DL.tB (Zd 9))) (s.set 6 (Io (Yk (T-w) T)))=.ok true:=by
     by_cases k:t.due=w
     ·refine Zd2 (Rj ?_) (Zkx (b:=false) ?_)
      ·show M.ok c8=_
       rw[h8,decide_eq_true (hx.mpr k)]
      ·show M.ok c9=_
       rw[h9,decide_eq_false (fun z=>both ⟨k,hy.mp z⟩)]
     ·refine Zgy (Zkx (b:=false) ?_)
      show M.ok c8=_
      rw[h8,decide_eq_false (fun z=>k (hx.mp z))]
    have eh:=Znq (ss:=ss) wi gx gy ew c8 (by rw[h8,ewm]) hd both
    have e13:Zt Vo (Zb (Zd 0) (Zb (Zd 2) (Zb (Zd 3) (Zb (Zd 8) Zh)))) (s.set 6 (Io (Yk (T-w) T)))=.ok (thing W H ss t u w).D:=Zq (aC rfl (aC rfl (aC rfl (Law.a1 rfl)))) eh rfl
    generalize hth:thing W H ss t u w=th at *
    have p13:∀(sd:Zl),sd[13]?=some (Io th.D)->∀x:String,DL.tB (Zn Ys (Zd 13) (eC (.str (Str.ofString x)))) sd=.ok (D.eq th.D (.str (Str.ofString x))):=fun sd e x=>Z7 (Zg (x:=th.D) (by unfold Zd;rw[e]) rfl (Y8 (Aq th)))
    have pp:=p13 ((s.set 6 (Io (Yk (T-w) T))).set 13 (Io th.D)) rfl "p"
    have pm:=p13 ((s.set 6 (Io (Yk (T-w) T))).set 13 (Io th.D)) rfl "m"
    rw[Znk] at pp
    rw[Zhd] at pm
    cases th with
    |co=>exact absurd rfl hco
    |no=>
     refine .inr ⟨rfl,Io .non,v14,v15,?_⟩
     rw[Gz .no w (fun z=>by cases z.2),Gz .no w (fun z=>by cases z.2)]
     exact Z6 c1 (go (Zx e13) (go (Z0 pp) (Z0 pm)))
    |fa b=>
     cases b with
     |false=>exact .inl ⟨Str.ofString "plain", rfl,Z6 c1 (go (Zx e13) (Qt (Z6 pp (Jy (Z1 (V5 rfl rfl rfl))))))⟩
     |true=>
      have lm:Wy 5 (DL.tB (Zn Ys (Kv Wl (Zb (Zd 5) Zh)) (Zd 4))) ((s.set 6 (Io (Yk (T-w) T))).set 13 (Io (Th.fa true).D))=.ok (!decide (tn.length<most)):=by
       refine Ik (Z7 (Zg (x:=.int tn.length) (y:=.int most) (Xv (Law.a1 rfl) T4) rfl ?_))
       rw[Qy]
       congr 2
       by_cases q:tn.length<most
       ·rw[decide_eq_true q];simp;lia
       ·rw[decide_eq_false q];simp;lia
      by_cases q:tn.length<most
      ·rw[decide_eq_true q] at lm ⊢
       refine .inr ⟨rfl,Io (fc true),?_⟩
       by_cases k:t.due=w
       ·have ku:¬(u.due=w/\(Th.fa true).mir=true):=fun z=>both ⟨k,z.1⟩
        have b8:c8=true:=h8.trans (decide_eq_true (hx.mpr k))
        rw[Om (.fa true) w k rfl,Gz (.fa true) w ku]
        subst b8
        exact⟨_,_,Z6 c1 (go (Zx e13) (go (Z0 pp) (Z6 pm (go (Z0 lm) (go (Gd rfl rfl (by lia)) (go (Zx (d:=.int 0) (Zg rfl (Xv (Law.a1 rfl) rfl) rfl)) (go (Zx (d:=nD (0-t.h*A) B) (X3 (Zg rfl (Zj (Zj rfl rfl (Qd _ _)) rfl (Qd _ _)) rfl) (Zj (Zj rfl rfl (Qd _ _)) rfl (Qq _ _ _)))) (Zx (Jb (Z7 (Zg rfl rfl (by rw[Qy];rfl))) (X3 rfl (Zj rfl rfl (Qq _ _ _)))))))))))) ⟩
       ·have ku:u.due=w:=hd.resolve_left k
        have b8:c8=false:=h8.trans (decide_eq_false (fun z=>k (hx.mp z)))
        rw[Om (.fa true) w ku rfl,Gz (.fa true) w (fun z=>k z.1)]
        subst b8
        exact⟨_,_,Z6 c1 (go (Zx e13) (go (Z0 pp) (Z6 pm (go (Z0 lm) (go (Gd rfl rfl (by lia)) (go (Zx (d:=.int 1) (Zg rfl (Xv (Law.a1 rfl) rfl) rfl)) (go (Zx (d:=nD (0-u.h*A') B') (X3 (Zg rfl (Zj (Zj rfl rfl (Qq _ _ _)) rfl (Qd _ _)) rfl) (Zj (Zj rfl rfl (Qq _ _ _)) rfl (Qq _ _ _)))) (Zx (Jl (Z7 (Zg rfl rfl (by rw[Qy];rfl))) (X3 (Zj rfl rfl (Qd _ _)) rfl)))))))))) ⟩
      ·rw[decide_eq_false q] at lm ⊢
       exact .inl ⟨Str.ofString "many", rfl,Z6 c1 (go (Zx e13) (go (Z0 pp) (Z6 pm (Qt (Z6 lm (Jy (Z1 (V5 rfl rfl rfl))))))))⟩
  ·have ewT:=m2 hT
   have nn:DL.tB (Zd 10) s=.ok true:=by
    show M.ok c10=_
    rw[h10,decide_eq_false hT];rfl
   refine .inl ⟨Str.ofString "end", ?_,go (Z0 cc) (Qt (Z6 nn (Jy (Z1 (V5 rfl rfl rfl)))))⟩
   rw[decide_eq_true ewT]
   cases hth:thing W H ss t u w with
   |co=>exact absurd hth hco
   |no=>rfl
   |fa b=>cases b<;>rfl
end
def Zlk {f:Zl->M D}{sd:Zl}{b:Bool}(h:f sd=.ok (.bl b)):Ek f sd=.ok (.bl (!b)):=by
 unfold Ek
 rw[h]
 rfl
section
variable {z W H:Nat}{T now:Int}{t u:Tk}{A B A' B':Int}{ss:List Sd}{ps:List Po4}{most:Nat}
def Ze1 (w:Int)(th:Th):(Yq t w th).lap=t.lap:=by
 unfold Yq
 split
 ·split<;>rfl
 ·rfl
def GI.pass (g:GI T t A B)(w:Int)(th:Th):GI T (Yq t w th) A B:=by
 refine⟨g.a0,g.b0,fun h=>?_,g.a1,g.b1,?_⟩
 ·rw[Ze1]
  exact g.hm (pass_h.mp h)
 ·unfold Yq
  split
  ·split
   ·show Int.gcd (-t.h*A) B=1
    rw[Int.neg_mul,Int.neg_gcd]
    exact g.gc
   ·exact g.gc
  ·exact g.gc
def Lb (h:TI z T now t){w:Int}(hw:w<=T)(th:Th):place (Yq t w th) w=place t w:=by
 unfold Yq
 by_cases e:t.due=w
 ·rw[if_pos e]
  rcases h.mv with⟨_,z,_⟩|⟨h1,hl,_⟩
  ·lia
  ·have hh:t.h≠0:=by lia
   by_cases m:th.mir=true
   ·rw[if_pos m]
    unfold place Tk.line Xw
    rw[if_neg hh]
    dsimp only
    rw[if_neg (show ¬-t.h=0 by lia)]
    congr 1
    rcases h1 with q|q<;>rw[q,e]<;>simp<;>grind
   ·rw[if_neg m]
    unfold place Tk.line Xw
    rw[if_neg hh]
    dsimp only
    rw[if_neg hh]
    congr 1
    rcases h1 with q|q<;>rw[q,e]<;>simp<;>grind
 ·rw[if_neg e]
def D3 (wi:WS W H T now t u){w:Int}(hw:w<=T)(th:Th):Q4 (Yq t w th) (Yq u w th) w=Q4 t u w:=by
 unfold Q4
 rw[Lb wi.x hw,Lb wi.y hw]
def Zll (wi:WS W H T now t u)(gx:GI T t A B)(gy:GI T u A' B'){w:Int}(ew:w=Z5 t u T)(hp:∀p∈ps,PtOk W H p)(hall mo:D)(tn:List D){c8 c9 c10:Bool}(h8:c8=decide (t.h≠0/\t.due=md t u))(h9:c9=decide (u.h≠0/\u.due=md t u))(h10:c10=!decide (md t u<T))(v7 v8 v9 v10 v11 v12 v13 v14 v15:Option S):
  let s:=[Io hall,Io (.lst (ps.map Po4.D)),Io (Q4 t u now),Io (.tup [gv t A B,gv u A' B']),Io mo,some (.ow tn),Io (Yk (T-now) T),v7,v8,v9,v10,v11,v12,v13,v14,v15]
  (∃p x,Gf ps T t u=some (p,x)/\Oj s=.ok (.rt (.im (.tup [.str (Str.ofString "person"),p.D,.lst tn])))) \/
  (Gf ps T t u=none/\Oj s=D2 [Io hall,Io (.lst (ps.map Po4.D)),Io (Q4 t u w),Io (.tup [gv t A B,gv u A' B']),Io mo,some (.ow tn),Io (Yk (T-now) T),Io (Yk (md t u-now) T),Io (.bl c8),Io (.bl c9),Io (.bl c10),Io (Yk (w-now) T),Io .non,v13,v14,v15]):=by
 intro s
 obtain⟨w0,w1,w2,w3⟩:=wi.nxt
 rw[<-ew] at w0 w1 w2 w3
 obtain⟨m0,m1,m2⟩:=Zez wi
 rw[<-ew] at m1 m2
 have tp:0<T:=by have:=wi.n0;have:=wi.n1;lia
 have e1:=Zhg wi gx gy
 rw[<-h8,<-h9] at e1
 have e2:=Ao (Zij wi) (Ol wi.n0 wi.n1 wi.t1) (by decide)
 rw[show decide ((md t u-now)*T<(T-now)*T)=decide (md t u<T) from decide_eq_decide.mpr (by rw[K3 tp];lia)] at e2
 have e4:=Znm wi gx gy w0 w1 ps hp
 rw[ew,Zew wi ps hp,<-ew] at e4
 obtain⟨d1,x1,x2⟩:=Zno wi.x gx wi.n0 wi.n1 wi.t1 w0 w1
 obtain⟨d2,y1,y2⟩:=Zno wi.y gy wi.n0 wi.n1 wi.t1 w0 w1
 have k2:Ek (Zt Yw (Zb (Zd 7) (Zb (Zd 6) Zh))) (((s.set 7 (Io (Yk (md t u-now) T))).set 8 (Io (.bl c8))).set 9 (Io (.bl c9)))=.ok (.bl c10):=by
  rw[h10]
  exact Zlk (Zq (aC rfl (Law.a1 rfl)) e2 rfl)
 have k3:Uo (DL.tB (Zd 10)) (Zd 6) (Zd 7) ((((s.set 7 (Io (Yk (md t u-now) T))).set 8 (Io (.bl c8))).set 9 (Io (.bl c9))).set 10 (Io (.bl c10)))=.ok (Yk (w-now) T):=by
  by_cases hT:md t u<T
  ·rw[m1 hT]
   refine Jl ?_ rfl
   show M.ok c10=_
   rw[h10,decide_eq_true hT];rfl
  ·rw[m2 hT]
   refine Jb ?_ rfl
   show M.ok c10=_
   rw[h10,decide_eq_false hT];rfl
 cases ha:Gf ps T t u with
 |some px=>
  obtain⟨p,x,y⟩:=px
  rw[ha] at e4
  refine .inl ⟨p,_,rfl,go (Zlh (Zq (aC rfl (Law.a1 rfl)) e1 rfl)) (go (Zx k2) (go (Zx k3) (go (Zx (Zq (aC rfl (aC rfl (aC rfl (Law.a1 rfl)))) e4 rfl)) (Qt (Z6 (Z7 (Zg rfl rfl rfl)) (Jy (Z1 (V5 rfl (Zj rfl rfl (Qq _ _ _)) rfl))))))))⟩
 |none=>
  rw[ha] at e4
  refine .inr ⟨rfl,go (Zlh (Zq (aC rfl (Law.a1 rfl)) e1 rfl)) (go (Zx k2) (go (Zx k3) (go (Zx (Zq (aC rfl (aC rfl (aC rfl (Law.a1 rfl)))) e4 rfl)) (go (Z0 (Z7 (Zg rfl rfl rfl))) (go (Zx (d:=Q4 t u w) (Xv (Law.a1 (Rk (Zet (Zq (aC (Zj rfl rfl (Qd _ _)) (Law.a1 (Zq (aC (Zj rfl rfl (Qd _ _)) (Law.a1 rfl)) x1 rfl))) x2 rfl) (Zq (aC (Zj rfl rfl (Qq _ _ _)) (Law.a1 (Zq (aC (Zj rfl rfl (Qq _ _ _)) (Law.a1 rfl)) y1 rfl))) y2 rfl)))) rfl)) rfl)))))⟩
def Zik {f:Zl->M O}{n:Nat}{sd:Zl}{s:S}(h:f sd=.ok (.rt s)):Yr (DL.tB (eC (.bl true))) f (n+1) sd=.ok (.rt s):=by
 show(f sd).bind _=_
 rw[h]
 rfl
def Zns {f:Zl->M O}{n:Nat}{sd sd':Zl}(h:f sd=.ok (.nx sd')):Yr (DL.tB (eC (.bl true))) f (n+1) sd=Yr (DL.tB (eC (.bl true))) f n sd':=by
 show(f sd).bind _=_
 rw[h]
 rfl
theorem On (hl:ss.length<=400)(hp:∀p∈ps,PtOk W H p)(hm:most<=900):∀(n:Nat) (t u:Tk) (tn:List D) (now:Int) (d:D) (v7 v8 v9 v10 v11 v12 v13 v14 v15:Option S),WS W H T now t u->GI T t A B->GI T u A' B'->tn.length<=most->wk W H ss ps T most n t u tn=some d ->
  Yr (DL.tB (eC (.bl true))) Oj n [Io (Qo W H ss),Io (.lst (ps.map Po4.D)),Io (Q4 t u now),Io (.tup [gv t A B,gv u A' B']),Jo most,some (.ow tn),Io (Yk (T-now) T),v7,v8,v9,v10,v11,v12,v13,v14,v15]=.ok (.rt (.im d))
 |0,_,_,_,_,_,_,_,_,_,_,_,_,_,_,_,_,_,_,h=>by cases h
 |n+1,t,u,tn,now,d,v7,v8,v9,v10,v11,v12,v13,v14,v15,wi,gx,gy,htn,h=>by
  unfold wk at h
  rcases Zll wi gx gy rfl hp (Qo W H ss) (.int most) tn rfl rfl rfl v7 v8 v9 v10 v11 v12 v13 v14 v15 with⟨p,x,ha,e⟩|⟨ha,e⟩
  ·rw[ha] at h
   cases h
   exact Zik e
  ·rw[ha] at h
   dsimp only at h
   rcases Zlj wi gx gy (w:=Z5 t u T) rfl hl hm tn htn rfl rfl rfl (Io (.lst (ps.map Po4.D))) (Io (Yk (Z5 t u T-now) T)) (Io .non) v13 v14 v15 with⟨wd,hw,e2⟩|⟨hw,w13,w14,w15,e2⟩
   ·rw[hw] at h
    cases h
    exact Zik (e.trans e2)
   ·rw[hw] at h
    dsimp only at h
    have wi':=wi.step hw
    refine(Zns (e.trans e2)).trans ?_
    rw[<-D3 wi wi.nxt.2.1 (thing W H ss t u (Z5 t u T))] at h ⊢
    refine On hl hp hm n _ _ _ _ d _ _ _ _ _ _ _ _ _ wi' (gx.pass _ _) (gy.pass _ _) ?_ h
    split
    ·rename_i hmir
     obtain⟨_,w2⟩:=Gy hw
     rcases w2 with w2|⟨_,w2⟩
     ·rw[w2] at hmir;cases hmir
     ·have:=of_decide_eq_true w2
      rw[List.length_append,List.length_singleton]
      lia
    ·exact htn
end
def m1 (a:Int):Int:=if(a.natAbs:Int) > 1 then a.natAbs else 1
def Zil (a:Int):0<m1 a/\(a≠0->m1 a=a.natAbs):=by
 unfold m1
 split
 ·exact⟨by lia,fun _=>rfl⟩
 ·exact⟨by lia,fun _=>by lia⟩
def M5 {a:Int}{k:Nat}(h:a.natAbs<=10 ^ k):(m1 a).natAbs<=10 ^ k:=by
 have:=Nat.pow_pos (n:=k) (show 0<10 by decide)
 unfold m1
 split<;>lia
def wT (p s:Po4):Int:=1*p.b*m1 s.a*p.d*m1 s.c
structure StOk (s:Po4):Prop where
 x:Fr 12 s.a s.b
 y:Fr 12 s.c s.d
 gx:Int.gcd s.a s.b=1
 gy:Int.gcd s.c s.d=1
 n0:s.a≠0\/s.c≠0
 lx:(s.a.natAbs:Int)<=40*s.b
 ly:(s.c.natAbs:Int)<=40*s.d
def Zp6:Zl->M O:=Z4 2 (Zn Qc (Zn Qc (Zd 2) 3[1]!) (Kv C1 (Zb ↑1 (Zb (Kv G0 (Zb 4[0]! Zh)) Zh))))
def Ze2 (o0 o1 o3 o4:Option S){T0 n m a b:Int}(h0:T0.natAbs<=10 ^ 100)(hm:m.natAbs<=10 ^ 100)(ha:a.natAbs<=10 ^ 100):∃sd1,Kr 2 (Qp (Y1 3) (Qp (Y1 4) K5)) (.tup [nD n m,nD a b]) [o0,o1,Jo T0,o3,o4]=.ok sd1 /\
  Zp6 sd1=.ok (.nx [o0,o1,Jo (T0*m*m1 a),Io (nD n m),Io (nD a b)]):=by
 refine⟨[o0,o1,Jo T0,Io (nD n m),Io (nD a b)],rfl,?_⟩
 have em:Kv C1 (Zb ↑1 (Zb (Kv G0 (Zb 4[0]! Zh)) Zh)) [o0,o1,Jo T0,Io (nD n m),Io (nD a b)]=.ok (.int (m1 a)):=Xv (aC rfl (Law.a1 (Xv (Law.a1 (Zj rfl rfl (Qd _ _))) (T2 a)))) rfl
 exact Zx (Zg (Zg rfl (Zj rfl rfl (Qq _ _ _)) (gT (Qv h0 (by decide)) (Qv hm (by decide)))) em (gT (Qv (Qg h0 hm) (by decide)) (Qv (M5 ha) (by decide))))
def Zhl {p s:Po4}(hp:PoOk 4 p)(hs:StOk s):Xu [p.D,s.D]=.ok (.im (.int (wT p s))):=by
 have b1:=hp.x.bot
 have b2:=hp.y.bot
 have a1:=hs.x.top
 have a2:=hs.y.top
 have le:∀{j:Nat},j<=100->(10:Nat) ^ j<=10 ^ 100:=fun h=>Xs h
 obtain⟨s1,e1,e2⟩:=Ze2 (Io p.D) (Io s.D) none none (T0:=1) (n:=p.a) (m:=p.b) (a:=s.a) (b:=s.b) (Nat.pow_pos (by decide)) (Nat.le_trans b1 (le (by decide))) (Nat.le_trans a1 (le (by decide)))
 have h0:((1:Int)*p.b*m1 s.a).natAbs<=10 ^ 100:=Nat.le_trans (Qg (j:=4) (k:=12) (by rw[Int.one_mul];exact b1) (M5 a1)) (le (by decide))
 obtain⟨s2,e3,e4⟩:=Ze2 (Io p.D) (Io s.D) (Io (nD p.a p.b)) (Io (nD s.a s.b)) (T0:=1*p.b*m1 s.a) (n:=p.c) (m:=p.d) (a:=s.c) (b:=s.d) h0 (Nat.le_trans b2 (le (by decide))) (Nat.le_trans a2 (le (by decide)))
 have z:Fd (Zb (Zd 0) (Zb (Zd 1) Zh)) [Io p.D,Io s.D,Jo 1,none,none]=.ok [.tup [nD p.a p.b,nD s.a s.b],.tup [nD p.c p.d,nD s.c s.d]]:=rfl
 exact(Mx _ _ _ _).trans (Z3 (go (Zx rfl) (go ((Yt z).trans ((Yu e1 e2).trans ((Yu e3 e4).trans rfl))) (Z1 rfl))))
def Um {f g:Zl->Yg->Option (Zl×Yg)}{sd sd':Zl}{r r':Yg}{x:Option (Zl×Yg)}(h:f sd r=some (sd',r'))(k:g sd' r'=x):V0 f g sd r=x:=by
 unfold V0;rw[h];exact k
def Jj {n:Str}{e:Zl->Yg->M D}{sd:Zl}{r r':Yg}{d:D}(h:e sd r=.ok d)(hl:r.length<=900)(hr:Cy n d r=r'):P5 n e sd r=some (sd,r'):=by
 unfold P5;rw[h]
 show(if r.length<=900 then some (sd,Cy n d r) else none)=_
 rw[if_pos hl,hr]
def Oo {i:Nat}{e:Zl->Yg->M D}{sd:Zl}{r:Yg}{d:D}(h:e sd r=.ok d):Zat i e sd r=some (sd.set i (Io d),r):=by
 unfold Zat;rw[h];rfl
def Znt {c:Zl->Yg->M Bool}{f g:Zl->Yg->Option (Zl×Yg)}{sd:Zl}{r:Yg}{x:Option (Zl×Yg)}(h:c sd r=.ok true)(k:f sd r=x):Zfc c f g sd r=x:=by
 unfold Zfc;rw[h];exact k
def Znu {c:Zl->Yg->M Bool}{f g:Zl->Yg->Option (Zl×Yg)}{sd:Zl}{r:Yg}{x:Option (Zl×Yg)}(h:c sd r=.ok false)(k:g sd r=x):Zfc c f g sd r=x:=by
 unfold Zfc;rw[h];exact k
def sg (a:Int):Int:=if a > 0 then 1 else -1
def Gg (a b T:Int):Int:=b*(T/(a.natAbs:Int))
def Jc (n m a:Int):Int:=if a > 0 then m-n%m else n%m
def As (n m a b T:Int):Tk:=if a=0 then⟨n,m,n/m,0,T+1,0⟩ else⟨n,m,n/m,sg a,Jc n m a*(Gg a b T/m),Gg a b T⟩
def Ze3 {n m a b T:Int}(hm:Fr 4 n m)(ha:Fr 12 a b)(hT:T.natAbs<=10 ^ 44):Km [] [nD n m,nD a b,.int T]=some (As n m a b T).r:=by
 have sm':=Qv hm.bot (show 4<=900 by decide)
 have esq:Zt Xn (Zb (Zd 1) Zh) [none,Io (nD n m),Io (nD a b),Jo T,none,none]=.ok (.int (n/m)):=
  Zq (Law.a1 rfl) ((Zku _ _ _).trans (Z3 (Z1 (Zg (Zj rfl rfl (Qd _ _)) (Zj rfl rfl (Qq _ _ _)) (Lc hm.pos sm'))))) rfl
 have c0:DL.tB (Zn Wm 2[0]! ↑0) [none,Io (nD n m),Io (nD a b),Jo T,none,none]=.ok (!(a==0)):=by
  refine Z7 (Zg (Zj rfl rfl (Qd _ _)) rfl ?_)
  rw[K9 (by simp[D.dep])]
  rfl
 have fin:∀{g:Zl->Yg->Option (Zl×Yg)}{sd':Zl}{r':Yg},g [none,Io (nD n m),Io (nD a b),Jo T,none,none] []=some (sd',r')->Zfd 3 2 g [] [nD n m,nD a b,.int T]=some r':=fun {g sd' r'} h=>by
  unfold Zfd
  rw[if_pos (show [nD n m,nD a b,D.int T].length=3 from rfl)]
  show Option.map _ (g [none,Io (nD n m),Io (nD a b),Jo T,none,none] [])=_
  rw[h]
  rfl
 unfold As
 by_cases h0:a=0
 ·rw[if_pos h0]
  rw[show(!(a==0))=false by simp[h0]] at c0
  exact fin (Um (Jj rfl (Nat.le_of_ble_eq_true rfl) rfl) (Um (Jj esq (Nat.le_of_ble_eq_true rfl) rfl) (Um (Jj rfl (Nat.le_of_ble_eq_true rfl) rfl) (Um (Jj (d:=.int (T+1)) rfl (Nat.le_of_ble_eq_true rfl) rfl) (Um (Jj rfl (Nat.le_of_ble_eq_true rfl) rfl) (Znu c0 rfl))))))
 ·rw[if_neg h0]
  rw[show(!(a==0))=true by simp[h0]] at c0
  have hn:0<(a.natAbs:Int):=by lia
  have sa:sm (a.natAbs:Int)=true:=Qv (x:=(a.natAbs:Int)) (k:=12) (by rw[Int.natAbs_natCast];exact ha.top) (by decide)
  have hh:Uo (DL.tB (Zn Pt 2[0]! ↑0)) ↑1 (Zh6 Lg ↑1) [none,Io (nD n m),Io (nD a b),Jo T,none,none]=.ok (.int (sg a)):=by
   unfold sg
   by_cases hp:a > 0
   ·rw[if_pos hp];exact Jb (Z7 (Zg (Zj rfl rfl (Qd _ _)) rfl (Dr hp))) rfl
   ·rw[if_neg hp];exact Jl (Z7 (Zg (Zj rfl rfl (Qd _ _)) rfl (Iz hp))) rfl
  have dT:(T/(a.natAbs:Int)).natAbs<=10 ^ 44:=Nat.le_trans (Int.natAbs_ediv_le_natAbs _ _) hT
  have el:Zn Qc 2[1]! (Zn Q6 (Zd 3) (Kv G0 (Zb 2[0]! Zh))) [none,Io (nD n m),Io (nD a b),Jo T,none,none]=.ok (.int (Gg a b T)):=
   Zg (Zj rfl rfl (Qq _ _ _)) (Zg rfl (Xv (Law.a1 (Zj rfl rfl (Qd _ _))) (T2 a)) (Lc hn sa)) (gT (Qv ha.bot (by decide)) (Qv dT (by decide)))
  have lb:(Gg a b T).natAbs<=10 ^ 56:=Qg (j:=12) (k:=44) ha.bot dT
  have em:Zn Qn 1[0]! 1[1]! [none,Io (nD n m),Io (nD a b),Jo T,none,none]=.ok (.int (n%m)):=Zg (Zj rfl rfl (Qd _ _)) (Zj rfl rfl (Qq _ _ _)) (gM hm.pos)
  have dm:(Gg a b T/m).natAbs<=10 ^ 56:=Nat.le_trans (Int.natAbs_ediv_le_natAbs _ _) lb
  have e5:∀r:Yg,r.lookup ("heading":Str)=some (D.int (sg a))->Zgj (gB (D9 Pt (Wq "heading") (Vi ↑0))) (Vi (Zn DL.Xf 1[1]! (Zd 4))) (Vi (Zd 4)) [none,Io (nD n m),Io (nD a b),Jo T,Jo (n%m),none] r=.ok (.int (Jc n m a)):=fun r hr=>by
   have hg:Wq "heading" [none,Io (nD n m),Io (nD a b),Jo T,Jo (n%m),none] r=.ok (.int (sg a)):=by unfold Wq;rw[hr]
   have hc:gB (D9 Pt (Wq "heading") (Vi ↑0)) [none,Io (nD n m),Io (nD a b),Jo T,Jo (n%m),none] r=.ok (decide (0<sg a)):=by
    unfold gB D9
    rw[hg]
    rfl
   unfold Zgj Jc
   rw[hc]
   unfold sg
   by_cases hp:a > 0
   ·rw[if_pos hp,if_pos hp]
    show Zn DL.Xf 1[1]! (Zd 4) [none,Io (nD n m),Io (nD a b),Jo T,Jo (n%m),none]=_
    exact Zg (Zj rfl rfl (Qq _ _ _)) rfl rfl
   ·rw[if_neg hp,if_neg hp]
    rfl
  have lo:(Jc n m a).natAbs<=10 ^ 5:=by
   have h1:=Int.emod_nonneg n (show m≠0 by have:=hm.pos;lia)
   have h2:=Int.emod_lt_of_pos n hm.pos
   have h3:=hm.bot
   have h4:(10:Nat) ^ 5=10*10 ^ 4:=rfl
   unfold Jc
   split<;>lia
  have e6:∀r:Yg,r.lookup ("lap":Str)=some (D.int (Gg a b T))->D9 Qc (Vi (Zd 5)) (D9 Q6 (Wq "lap") (Vi 1[1]!)) [none,Io (nD n m),Io (nD a b),Jo T,Jo (n%m),Jo (Jc n m a)] r=.ok (.int (Jc n m a*(Gg a b T/m))):=fun r hr=>by
   have hg:Wq "lap" [none,Io (nD n m),Io (nD a b),Jo T,Jo (n%m),Jo (Jc n m a)] r=.ok (.int (Gg a b T)):=by unfold Wq;rw[hr]
   have h2:Vi 1[1]! [none,Io (nD n m),Io (nD a b),Jo T,Jo (n%m),Jo (Jc n m a)] r=.ok (.int m):=Zj rfl rfl (Qq _ _ _)
   have h3:D9 Q6 (Wq "lap") (Vi 1[1]!) [none,Io (nD n m),Io (nD a b),Jo T,Jo (n%m),Jo (Jc n m a)] r=.ok (.int (Gg a b T/m)):=by
    unfold D9
    rw[hg,M.bind_ok,h2,M.bind_ok]
    exact Lc hm.pos sm'
   unfold D9 at h3 ⊢
   rw[h3]
   exact gT (Qv lo (by decide)) (Qv dm (by decide))
  exact fin (Um (Jj rfl (Nat.le_of_ble_eq_true rfl) rfl) (Um (Jj esq (Nat.le_of_ble_eq_true rfl) rfl) (Um (Jj rfl (Nat.le_of_ble_eq_true rfl) rfl) (Um (Jj (d:=.int (T+1)) rfl (Nat.le_of_ble_eq_true rfl) rfl) (Um (Jj rfl (Nat.le_of_ble_eq_true rfl) rfl) (Znt c0 (Um (Jj hh (Nat.le_of_ble_eq_true rfl) rfl) (Um (Jj el (Nat.le_of_ble_eq_true rfl) rfl) (Um (Oo em) (Um (Oo (e5 _ rfl)) (Jj (e6 _ rfl) (Nat.le_of_ble_eq_true rfl) rfl)))))))))))
section
variable {z:Nat}{n m a b T:Int}
def Ze4 (h:a=0):As n m a b T=⟨n,m,n/m,0,T+1,0⟩:=if_pos h
def Zhm {k:Int}(h:a≠0)(hm:0<m)(hT:T=m*a.natAbs*k):As n m a b T=⟨n,m,n/m,sg a,Jc n m a*(b*k),b*(m*k)⟩:=by
 have e1:T/(a.natAbs:Int)=m*k:=by
  rw[hT,show m*(a.natAbs:Int)*k=m*k*a.natAbs by grind]
  exact Int.mul_ediv_cancel _ (by lia)
 have e2:Gg a b T=b*(m*k):=by unfold Gg;rw[e1]
 have e3:b*(m*k)/m=b*k:=by
  rw[show b*(m*k)=b*k*m by grind]
  exact Int.mul_ediv_cancel _ (by lia)
 unfold As
 rw[if_neg h,e2,e3]
def Op (hp:PIn z n m):0<Jc n m a/\Jc n m a<m:=by
 have hm:=hp.fr.pos
 have h1:=Int.emod_nonneg n (show m≠0 by lia)
 have h2:=Int.emod_lt_of_pos n hm
 have h3:=Int.mul_ediv_add_emod n m
 have h4:=hp.nw (n/m)
 rw[Int.mul_comm] at h4
 unfold Jc
 split<;>lia
def Oq (h:a≠0):(sg a=1/\0<a)\/(sg a = -1/\a<0):=by
 unfold sg
 split<;>lia
def Zim (hp:PIn z n m)(z8:z<=8)(hT:0<T)(hb:0<b)(hd:a≠0->∃k,0<k/\T=m*a.natAbs*k/\b*(m*k)<=Kq):TI z T 0 (As n m a b T):=by
 have hm:=hp.fr.pos
 have q0:0<=n/m:=Int.ediv_nonneg (Int.le_of_lt hp.p0) (Int.le_of_lt hm)
 have q1:n/m<z:=(Int.ediv_lt_iff_lt_mul hm).mpr hp.p1
 by_cases h:a=0
 ·rw[Ze4 h]
  exact⟨hp,z8,q0,q1,Int.le_refl _,by show(0:Int)<=Kq;lia,.inl ⟨rfl,rfl,rfl⟩⟩
 ·obtain⟨k,k0,e,lb⟩:=hd h
  rw[Zhm h hm e]
  obtain⟨l0,l1⟩:=Op (a:=a) hp
  have bk:0<b*k:=Int.mul_pos hb k0
  have lp:0<b*(m*k):=Int.mul_pos hb (Int.mul_pos hm k0)
  refine⟨hp,z8,q0,q1,Int.le_of_lt lp,lb,.inr ⟨?_,lp,Int.mul_pos l0 bk,?_⟩⟩
  ·show sg a=1\/sg a = -1
   rcases Oq h with⟨q,_⟩|⟨q,_⟩
   ·exact .inl q
   ·exact .inr q
  ·show Jc n m a*(b*k)<=0+b*(m*k)
   have:=Int.mul_le_mul_of_nonneg_right (Int.le_of_lt l1) (Int.le_of_lt bk)
   rw[show b*(m*k)=m*(b*k) by grind]
   lia
def Zlm (a:Int):Int:=if a=0 then 1 else a.natAbs
def Zhn:(As n m a b T).h*Zlm a=a:=by
 unfold Zlm
 by_cases h:a=0
 ·rw[Ze4 h,if_pos h,h];rfl
 ·rw[if_neg h]
  unfold As
  rw[if_neg h]
  show sg a*_=_
  rcases Oq h with⟨q,r⟩|⟨q,r⟩<;>rw[q]<;>lia
def Zin:gv (As n m a b T) (Zlm a) b=nD a b:=by
 unfold gv
 rw[Zhn]
def Zio (hm:0<m)(hf:Fr 12 a b)(hg:Int.gcd a b=1)(hd:a≠0->∃k,0<k/\T=m*a.natAbs*k/\b*(m*k)<=Kq):GI T (As n m a b T) (Zlm a) b:=by
 have hb:=hf.pos
 have h1:=hf.top
 have h2:=hf.bot
 have bg:(10:Nat) ^ 12<=Kq:=by decide
 refine⟨?_,hb,fun hh=>?_,?_,by lia,by rw[Zhn];exact hg⟩
 ·unfold Zlm;split<;>lia
 ·by_cases h:a=0
  ·rw[Ze4 h] at hh;exact absurd rfl hh
  ·obtain⟨k,k0,e,lb⟩:=hd h
   rw[Zhm h hm e]
   unfold Zlm
   rw[if_neg h]
   show b*(m*k)*(a.natAbs:Int)=b*T
   rw[e]
   grind
 ·unfold Zlm
  split
  ·have:1<=Kq:=by decide
   lia
  ·lia
def D4 (hp:PIn z n m)(hb:0<b)(hd:a≠0->∃k,0<k/\T=m*a.natAbs*k/\b*(m*k)<=Kq):place (As n m a b T) 0=nD n m:=by
 have hm:=hp.fr.pos
 by_cases h:a=0
 ·rw[Ze4 h];rfl
 ·obtain⟨k,k0,e,lb⟩:=hd h
  rw[Zhm h hm e]
  have lp:0<b*(m*k):=Int.mul_pos hb (Int.mul_pos hm k0)
  have h3:=Int.mul_ediv_add_emod n m
  unfold place
  have hs:sg a≠0:=by rcases Oq h with⟨q,_⟩|⟨q,_⟩<;>lia
  dsimp only
  rw[if_neg hs,<-Va hm hp.g]
  refine Ym lp hm ?_
  unfold Tk.line Xw Jc
  dsimp only
  rcases Oq h with⟨q,r⟩|⟨q,r⟩
  ·rw[q,if_pos (by decide),if_pos (show a > 0 from r)]
   have:(n/m+1)*m-(m-n%m)=n:=by grind
   grind
  ·rw[q,if_neg (by decide),if_neg (show ¬a > 0 by lia)]
   have:n/m*m+n%m=n:=by grind
   grind
def Ze5 (hp:PIn z n m)(hb:0<b)(hl:(a.natAbs:Int)<=40*b)(hd:a≠0->∃k,0<k/\T=m*a.natAbs*k/\b*(m*k)<=Kq):T<(As n m a b T).due+(40:Nat)*(As n m a b T).lap:=by
 have hm:=hp.fr.pos
 by_cases h:a=0
 ·rw[Ze4 h]
  show T<T+1+(40:Nat)*0
  lia
 ·obtain⟨k,k0,e,lb⟩:=hd h
  rw[Zhm h hm e]
  obtain⟨l0,l1⟩:=Op (a:=a) hp
  show T<Jc n m a*(b*k)+(40:Nat)*(b*(m*k))
  have h1:=Int.mul_pos l0 (Int.mul_pos hb k0)
  have mk:0<m*k:=Int.mul_pos hm k0
  have h2:=Int.mul_le_mul_of_nonneg_right hl (Int.le_of_lt mk)
  have e1:T=a.natAbs*(m*k):=by rw[e];grind
  have e2:((40:Nat):Int)*(b*(m*k))=40*b*(m*k):=by grind
  rw[e2]
  lia
end
def look:By->List Y3->List D
 |[],_=>[]
 |(k,l)::r,ks=>if k=ks then l else look r ks
def Zbq (q:By)(ks:List Y3):Xm (qD q) ks=some (.lst (look q ks))\/(Xm (qD q) ks=none/\look q ks=[]):=by
 induction q with
 |nil=>exact .inr ⟨rfl,rfl⟩
 |cons kl r ih=>
  obtain⟨k,l⟩:=kl
  have e:look ((k,l)::r) ks=if k=ks then l else look r ks:=rfl
  rw[e]
  unfold Xm qD at *
  rw[List.map_cons,List.find?_cons]
  by_cases h:k=ks
  ·rw[decide_eq_true h,if_pos h]
   exact .inl rfl
  ·rw[decide_eq_false h,if_neg h]
   exact ih
theorem D5 (ks ks':List Y3)(p:D):∀q:By,look (Wr ks p q) ks'=if ks=ks' then look q ks'++[p] else look q ks'
 |[]=>by
  unfold Wr look
  split
  ·rfl
  ·rfl
 |(k,l)::r=>by
  unfold Wr
  by_cases h:k=ks
  ·rw[if_pos h]
   subst h
   unfold look
   by_cases h':k=ks'
   ·rw[if_pos h',if_pos h',if_pos h']
   ·rw[if_neg h',if_neg h',if_neg h']
  ·rw[if_neg h]
   unfold look
   rw[D5 ks ks' p r]
   by_cases h':k=ks'
   ·rw[if_pos h',if_pos h',if_neg (fun z=>h (h'.trans z.symm))]
   ·rw[if_neg h',if_neg h']
def Zln {p:Po4}(hp:PoOk 4 p):Ig p.D=some [.inl (p.a/p.b),.inl (p.c/p.d)]:=by
 have e:∀{x y:Int},Fr 4 x y->Xn [nD x y]=.ok (.im (.int (x/y))):=fun h=>
  (Zku _ _ _).trans (Z3 (Z1 (Zg (Zj rfl rfl (Qd _ _)) (Zj rfl rfl (Qq _ _ _)) (Lc h.pos (Qv h.bot (by decide))))))
 have h:Zn8 [none,none,none,Io p.D,none]=.ok (.tup [.int (p.a/p.b),.int (p.c/p.d)]):=X3 (Zq (Law.a1 (Zj rfl rfl (Qd _ _))) (e hp.x) rfl) (Zq (Law.a1 (Zj rfl rfl (Qq _ _ _))) (e hp.y) rfl)
 unfold Ig
 rw[h]
 rfl
theorem Znv:∀(ps:List Po4) (acc:By),(∀p∈ps,PoOk 4 p)->∃q,Zdu acc (ps.map Po4.D)=some q/\∀x y:Int,look q [.inl x,.inl y]=look acc [.inl x,.inl y]++(ps.filter (Dt x y)).map Po4.D
 |[],acc,_=>⟨acc,rfl,fun _ _=>by simp⟩
 |p::ps,acc,h=>by
  obtain⟨q,e1,e2⟩:=Znv ps (Wr [.inl (p.a/p.b),.inl (p.c/p.d)] p.D acc) (fun r hr=>h r (List.mem_cons_of_mem _ hr))
  refine⟨q,?_,fun x y=>?_⟩
  ·rw[List.map_cons]
   unfold Zdu
   rw[Zln (h p (List.mem_cons_self ..))]
   exact e1
  ·rw[e2,D5]
   by_cases hs:Dt x y p=true
   ·have hs':=of_decide_eq_true hs
    rw[if_pos (by rw[hs'.1,hs'.2]),List.filter_cons_of_pos hs,List.map_cons,List.append_assoc]
    rfl
   ·have hs':¬(p.a/p.b=x/\p.c/p.d=y):=of_decide_eq_false (Bool.eq_false_iff.mpr hs)
    rw[if_neg (fun z=>hs' (by injection z with z1 z2;injection z1 with z1;injection z2 with z2 _;injection z2 with z2;exact⟨z1,z2⟩)),List.filter_cons_of_neg hs]
def Zlo {ps:List Po4}{q:By}(h:∀x y:Int,look q [.inl x,.inl y]=look [] [.inl x,.inl y]++(ps.filter (Dt x y)).map Po4.D)(x y:Int):Zen (qD q) x y (ps.filter (Dt x y)):=by
 have e:=h x y
 rcases Zbq q [.inl x,.inl y] with k|⟨k1,k2⟩
 ·rw[e] at k
  exact .inl k
 ·refine .inr ⟨k1,?_⟩
  rw[k2] at e
  have:=e.symm
  exact List.map_eq_nil_iff.mp this
def Au (d:D):Prop:=∃a b c e,d=.tup [nD a b,nD c e]/\Fr 93 a b/\Int.gcd a b=1/\Fr 93 c e/\Int.gcd c e=1
def D6 {d:D}(h:Au d):d.dep<=10:=by
 obtain⟨a,b,c,e,rfl,_⟩:=h
 simp[nD,D.dep,D.deps]
def Ze6 {a b:Int}(h:Fr 93 a b)(g:Int.gcd a b=1):K1 [nD a b]=.ok (.im (.bl true)):=by
 have e:=Pd h (by decide)
 rw[Va h.pos g] at e
 have st:∀(x:Int) (v:Option S),(Yy (DL.tO (DL.tN (DL.tB (Zbs "int" (Zd 1)))) (DL.tB (Zbs "bool" (Zd 1)))) (Qj (eC (.bl false))) Qs) [Io (nD a b),Jo x]=.ok (.nx [Io (nD a b),Jo x]):=fun x v=>Z0 (Na (Rj rfl) rfl)
 refine(Zku _ _ _).trans (Z3 (go (Z0 (Na (Rj rfl) (Z7 (Zg (x:=.int 2) (Xv (Law.a1 rfl) rfl) rfl (by rw[K9 (by simp[D.dep])];rfl))))) (go ((Yt (ds:=[.int a,.int b]) (T1 rfl)).trans ((Yu rfl (st a none)).trans ((Yu rfl (st b none)).trans rfl))) (Z1 (Zd4 (b:=true) (Zg (Zj rfl rfl (Qq _ _ _)) rfl (Dr h.pos)) (Zg (Zq (aC (Zj rfl rfl (Qd _ _)) (Law.a1 (Zj rfl rfl (Qq _ _ _)))) e rfl) rfl (by rw[Y8 (Rm _ _),D.eq_refl])))))))
def Zip {d:D}(h:Au d):Xr [d]=.ok (.im (.bl true)):=by
 obtain⟨a,b,c,e,rfl,h1,g1,h2,g2⟩:=h
 refine(Zku _ _ _).trans (Z3 (Z1 (Al rfl (Al (Zg (x:=.int 2) (Xv (Law.a1 rfl) rfl) rfl (by rw[Qy];rfl)) (Xv (Law.a1 (Rk (Gv (ds:=[nD a b,nD c e]) (T1 rfl) (by simp) (Znl rfl (Zq (Law.a1 rfl) (Ze6 h1 g1) rfl) rfl (Zq (Law.a1 rfl) (Ze6 h2 g2) rfl))))) rfl)))))
def Zho {wd:Str}{pt:D}{tn:List D}(h:Au pt)(ht:∀x∈tn,Au x)(hl:tn.length<=900):Kc [.tup [.str wd,pt,.lst tn]]=.ok (.im (.bl true)):=by
 have em:V8 (Y1 0) (Zt Xr (Zb (Zd 0) Zh)) (Wn 1 [] [Io (.tup [.str wd,pt,.lst tn])]) tn=.ok (tn.map fun _=>.bl true):=by
  have:=Zd5 (gt:=Y1 0) (fe:=Zt Xr (Zb (Zd 0) Zh)) (sd0:=Wn 1 [] [Io (.tup [.str wd,pt,.lst tn])]) (fun d=>d) (fun _=>D.bl true) tn fun d hd=>⟨_,rfl,Zq (Law.a1 rfl) (Zip (ht d hd)) rfl⟩
  rwa[List.map_id'] at this
 refine(Zku _ _ _).trans (Z3 (go (Z0 (Na (Rj rfl) (Na (Z7 (Zg (x:=.int 3) (Xv (Law.a1 rfl) rfl) rfl (by rw[K9 (by simp[D.dep])];rfl))) (Rj ?_)))) (go (Z0 (Na (Rj (Z7 (Zq (Law.a1 (Zj rfl rfl (Qq _ _ _))) (Zip h) rfl))) (Rj ?_))) (Z1 (Xv (Law.a1 (Rk (Gv (Di (Zj rfl rfl (Ls _ _ _ _))) (by lia) em))) (Zd7 tn))))))
 ·have e:Zn Yj (Zd 0) ↑0 [Io (.tup [.str wd,pt,.lst tn])]=.ok (.str wd):=Zj rfl rfl (Qd _ _)
  refine Z7 ?_
  show(Zn Yj (Zd 0) ↑0 [Io (.tup [.str wd,pt,.lst tn])]).bind _=_
  rw[e]
  rfl
 ·have e:Zn Yj (Zd 0) ↑2 [Io (.tup [.str wd,pt,.lst tn])]=.ok (.lst tn):=Zj rfl rfl (Ls _ _ _ _)
  refine Z7 ?_
  show(Zn Yj (Zd 0) ↑2 [Io (.tup [.str wd,pt,.lst tn])]).bind _=_
  rw[e]
  rfl
section
variable {W H:Nat}{T now:Int}{t u:Tk}{ss:List Sd}{ps:List Po4}{most:Nat}
def M6 (wi:WS W H T now t u):Au (Q4 t u (Z5 t u T)):=by
 obtain⟨w0,w1,w2,w3⟩:=wi.nxt
 have n0:=wi.n0
 have fx:=Rp wi.x n0 wi.n1 wi.t1 (show 0<=Z5 t u T by lia) w1
 have fy:=Rp wi.y n0 wi.n1 wi.t1 (show 0<=Z5 t u T by lia) w1
 obtain⟨p,q,e1,f1,_,g1⟩:=Xx fx
 obtain⟨p',q',e2,f2,_,g2⟩:=Xx fy
 refine⟨p,q,p',q',?_,f1,g1,f2,g2⟩
 unfold Q4
 rw[U2 wi.x,U2 wi.y,e1,e2]
theorem D7 {c:Po4->Option (Int×Int)}:∀(ps:List Po4) (s:Ea),(∀p xy,s=some (p,xy)->p∈ps\/∃q,s=some q)->∀p xy,ps.foldl (Y9 c) s=some (p,xy)->p∈ps\/∃xy',s=some (p,xy')
 |[],s,_,p,xy,h=>.inr ⟨xy,h⟩
 |q::ps,s,_,p,xy,h=>by
  rw[List.foldl_cons] at h
  rcases D7 ps (Y9 c s q) (fun _ _ z=>.inr ⟨_,z⟩) p xy h with k|⟨xy',k⟩
  ·exact .inl (List.mem_cons_of_mem _ k)
  ·unfold Y9 at k
   split at k
   ·exact .inr ⟨_,k⟩
   ·split at k
    ·cases k;exact .inl (List.mem_cons_self ..)
    ·split at k
     ·cases k;exact .inl (List.mem_cons_self ..)
     ·exact .inr ⟨_,k⟩
def PtOk.is {p:Po4}(h:PtOk W H p):Au p.D:=⟨_,_,_,_,rfl,h.x.fr.mono (by decide),h.x.g,h.y.fr.mono (by decide),h.y.g⟩
theorem Ziq (hp:∀p∈ps,PtOk W H p):∀(n:Nat) (t u:Tk) (tn:List D) (now:Int) (d:D),WS W H T now t u->(∀x∈tn,Au x)->tn.length<=most->wk W H ss ps T most n t u tn=some d->∃wd pt tn',d=.tup [.str wd,pt,.lst tn']/\Au pt/\(∀x∈tn',Au x)/\tn'.length<=most
 |0,_,_,_,_,_,_,_,_,h=>by cases h
 |n+1,t,u,tn,now,d,wi,ht,hl,h=>by
  unfold wk at h
  cases ha:Gf ps T t u with
  |some x=>
   obtain⟨p,xy⟩:=x
   rw[ha] at h
   cases h
   refine⟨_,_,_,rfl,?_,ht,hl⟩
   unfold Gf at ha
   rcases D7 _ none (fun _ _ z=>by cases z) p xy ha with k|⟨_,k⟩
   ·exact(hp p (List.mem_filter.mp k).1).is
   ·cases k
  |none=>
   rw[ha] at h
   dsimp only at h
   cases hw:Kp (thing W H ss t u (Z5 t u T)) (decide (Z5 t u T=T)) (decide (tn.length<most)) with
   |some w=>
    rw[hw] at h
    cases h
    exact⟨_,_,_,rfl,M6 wi,ht,hl⟩
   |none=>
    rw[hw] at h
    dsimp only at h
    refine Ziq hp n _ _ _ _ d (wi.step hw) ?_ ?_ h
    ·split
     ·intro x hx
      rcases List.mem_append.mp hx with k|k
      ·exact ht x k
      ·rw[List.mem_singleton.mp k];exact M6 wi
     ·exact ht
    ·split
     ·rename_i hmir
      obtain⟨_,w2⟩:=Gy hw
      rcases w2 with w2|⟨_,w2⟩
      ·rw[w2] at hmir;cases hmir
      ·have:=of_decide_eq_true w2
       rw[List.length_append,List.length_singleton]
       lia
     ·exact hl
end
def Zbr {W H:Nat}(hW:W<=8)(hH:H<=8){ss:List Sd}(hl:ss.length<=400){ps:List Po4}(hp:∀p∈ps,PtOk W H p)(hps:ps.length<=1000){p s:Po4}(ho:PtOk W H p)(hs:StOk s){most:Nat}(hm:most<=900):
  ∃d,F_walk [Qo W H ss,.lst (ps.map Po4.D),p.D,s.D,.int most]=.ok (.im d)/\Gc [Qo W H ss,.lst (ps.map Po4.D),p.D,s.D,.int most]=.ok (.im d)/\Kc [d]=.ok (.im (.bl true))/\d.dep<=60:=by
 have px:=ho.x.fr.pos
 have py:=ho.y.fr.pos
 obtain⟨m0,m1'⟩:=Zil s.a
 obtain⟨m2,m3⟩:=Zil s.c
 have ew:wT p s=1*p.b*m1 s.a*p.d*m1 s.c:=rfl
 have tp:0<wT p s:=by rw[ew,Int.one_mul];exact Int.mul_pos (Int.mul_pos (Int.mul_pos px m0) py) m2
 have tb:(wT p s).natAbs<=10 ^ 32:=by
  rw[ew,Int.one_mul]
  exact Qg (j:=20) (k:=12) (Qg (j:=16) (k:=4) (Qg (j:=4) (k:=12) ho.x.fr.bot (M5 hs.x.top)) ho.y.fr.bot) (M5 hs.y.top)
 have bg:(10:Nat) ^ 32<=Kq:=by decide
 have dx:s.a≠0->∃k,0<k/\wT p s=p.b*s.a.natAbs*k/\s.b*(p.b*k)<=Kq:=fun h=>by
  refine⟨p.d*m1 s.c,Int.mul_pos py m2,by rw[ew,m1' h];grind,?_⟩
  have:(s.b*(p.b*(p.d*m1 s.c))).natAbs<=10 ^ (12+(4+(4+12))):=Qg hs.x.bot (Qg ho.x.fr.bot (Qg ho.y.fr.bot (M5 hs.y.top)))
  have:(10:Nat) ^ (12+(4+(4+12)))=10 ^ 32:=rfl
  lia
 have dy:s.c≠0->∃k,0<k/\wT p s=p.d*s.c.natAbs*k/\s.d*(p.d*k)<=Kq:=fun h=>by
  refine⟨p.b*m1 s.a,Int.mul_pos px m0,by rw[ew,m3 h];grind,?_⟩
  have:(s.d*(p.d*(p.b*m1 s.a))).natAbs<=10 ^ (12+(4+(4+12))):=Qg hs.y.bot (Qg ho.y.fr.bot (Qg ho.x.fr.bot (M5 hs.x.top)))
  have:(10:Nat) ^ (12+(4+(4+12)))=10 ^ 32:=rfl
  lia
 generalize hT:wT p s=T at *
 have tx:=Zim (T:=T) ho.x hW tp hs.x.pos dx
 have ty:=Zim (T:=T) ho.y hH tp hs.y.pos dy
 have gx:=Zio (n:=p.a) (T:=T) px hs.x hs.gx dx
 have gy:=Zio (n:=p.c) (T:=T) py hs.y hs.gy dy
 have h1:(As p.a p.b s.a s.b T).h≠0\/(As p.c p.d s.c s.d T).h≠0:=by
  have e1:=@Zhn p.a p.b s.a s.b T
  have e2:=@Zhn p.c p.d s.c s.d T
  rcases hs.n0 with q|q
  ·exact .inl fun z=>q (by rw[<-e1,z,Int.zero_mul])
  ·exact .inr fun z=>q (by rw[<-e2,z,Int.zero_mul])
 have wi:WS W H T 0 (As p.a p.b s.a s.b T) (As p.c p.d s.c s.d T):=⟨tx,ty,h1,Int.le_refl _,tp,by lia,.inl rfl⟩
 obtain⟨d,hd⟩:=Oc (ss:=ss) (ps:=ps) (most:=most) 81 40 40 _ _ [] 0 wi (Ze5 ho.x hs.x.pos hs.lx dx) (Ze5 ho.y hs.y.pos hs.ly dy) (by decide)
 obtain⟨wd,pt,tn,rfl,k1,k2,k3⟩:=Ziq hp 81 _ _ [] 0 d wi (fun _ z=>by cases z) (Nat.zero_le _) hd
 refine⟨.tup [.str wd,pt,.lst tn],?_,?_,Zho k1 k2 (by lia),?_⟩
 ·obtain⟨q,e1,e2⟩:=Znv ps [] fun r hr=>(hp r hr).ok
  refine Za5 e1 (by rw[List.length_map];lia) fun a a1 a2=>?_
  unfold fW
  have e0:Zt Xu (Zb (Zd 0) (Zb (Zd 1) Zh)) [Io p.D,Io s.D]=.ok (.int T):=by
   have:=Zhl ho.ok hs
   rw[hT] at this
   exact Zq (aC rfl (Law.a1 rfl)) this rfl
  have l1:Zb 0[0]! (Zb 1[0]! (Zb (Zd 2) Zh)) [Io p.D,Io s.D,Jo T]=.ok [nD p.a p.b,nD s.a s.b,.int T]:=aC (Zj rfl rfl (Qd _ _)) (aC (Zj rfl rfl (Qd _ _)) (Law.a1 rfl))
  have l2:Zb 0[1]! (Zb 1[1]! (Zb (Zd 2) Zh)) [Io p.D,Io s.D,Jo T]=.ok [nD p.c p.d,nD s.c s.d,.int T]:=aC (Zj rfl rfl (Qq _ _ _)) (aC (Zj rfl rfl (Qq _ _ _)) (Law.a1 rfl))
  have tb':T.natAbs<=10 ^ 44:=Nat.le_trans tb (Xs (by decide))
  rw[e0,M.bind_ok,l1,M.bind_ok,l2,M.bind_ok,Ze3 ho.x.fr hs.x tb',Ze3 ho.y.fr hs.y tb']
  exact lw a a1 a2 q p.D s.D (by lia) hp (Zlo e2) (by lia) 1000000 _ _ [] 0 _ wi (Nat.zero_le _) (Ob 81 1000000 _ _ _ _ (by decide) hd)
 ·have e:=On hl hp hm 81 _ _ [] 0 _ none none none none none none none none none wi gx gy (Nat.zero_le _) hd
  have ep:Q4 (As p.a p.b s.a s.b T) (As p.c p.d s.c s.d T) 0=p.D:=by
   unfold Q4
   rw[D4 ho.x hs.x.pos dx,D4 ho.y hs.y.pos dy]
   rfl
  have el:Yk (T-0) T=nD 1 1:=by
   rw[<-Va (p:=1) (q:=1) (by decide) (by decide)]
   exact Ym tp (by decide) (by lia)
  rw[ep,Zin,Zin,el] at e
  have e2:=Pw (c:=DL.tB (eC (.bl true))) (f:=Oj) (n:=81) (by rw[e];intro z;cases z)
  rw[e] at e2
  exact(Zkv _ _ _ _ _ _ _).trans (Z3 (go (Ji 5 _) (go (Zx (X3 rfl rfl)) e2)))
 ·have:D.deps tn<=10:=Ul fun x hx=>D6 (k2 x hx)
  have:=D6 k1
  simp only[D.dep,D.deps]
  lia
theorem all_map {α:Type}{f:α->D}:∀l:List D,(∀d∈l,∃s,d=f s)->∃ss:List α,l=ss.map f
 |[],_=>⟨[],rfl⟩
 |d::l,h=>by
  obtain⟨s,rfl⟩:=h d (List.mem_cons_self ..)
  obtain⟨ss,rfl⟩:=all_map l fun e he=>h e (List.mem_cons_of_mem _ he)
  exact⟨s::ss,rfl⟩
def eD (e:Bool×Int×Int):D:=Yh e.1 e.2.1 e.2.2
def Ze7 {i:Nat}{f:Zl->M (List D)}{sd:Zl}{ds es:List D}(h:sd[i]?=some (some (.ow ds)))(hf:f sd=.ok es)(hl:ds.length+es.length<=1000):Cj i f sd=.ok (.nx (sd.set i (some (.ow (ds++es))))):=by
 unfold Cj
 rw[h]
 dsimp only
 rw[hf,M.bind_ok,Jp (by rw[List.length_append];lia),if_pos rfl]
noncomputable def Zpm:Zl->M O:=Cj 2 (X6 (Yf (Zb (Zd 1) Zh)) 1 [3] (Y1 0) (Qf (Zb ↑"up" (Zb (Zd 1) (Zb (Zd 0) Zh)))))
noncomputable def Zpn:Zl->M O:=Cj 2 (X6 (Yf (Zb (Zd 0) Zh)) 1 [4] (Y1 0) (Qf (Zb ↑"flat" (Zb (Zd 0) (Zb (Zd 1) Zh)))))
theorem Os (o0 v4:Option S){H:Nat}(hH:H<=5):∀(xs:List Nat) (acc:List (Bool×Int×Int)) (v3:Option S),acc.length+5*xs.length<=900->∃(acc':List (Bool×Int×Int)) (w3:Option S),acc'.length<=acc.length+5*xs.length /\
  Y6 (Y1 3) Zpm (xs.map fun(k:Nat)=>D.int (k:Int)) [o0,Jo (H:Int),some (.ow (acc.map eD)),v3,v4]=.ok (.nx [o0,Jo (H:Int),some (.ow (acc'.map eD)),w3,v4])
 |[],acc,v3,_=>⟨acc,v3,by simp,rfl⟩
 |x::xs,acc,v3,hl=>by
  rw[List.length_cons] at hl
  have c:X6 (Yf (Zb (Zd 1) Zh)) 1 [3] (Y1 0) (Qf (Zb ↑"up" (Zb (Zd 1) (Zb (Zd 0) Zh)))) [o0,Jo (H:Int),some (.ow (acc.map eD)),Jo (x:Int),v4]=.ok (((List.range H).map fun(y:Nat)=>(true,(x:Int),(y:Int))).map eD):=by
   refine Gv (Zkt (n:=H) (Law.a1 rfl) (by lia)) (by rw[List.length_map,List.length_range];lia) ?_
   rw[List.map_map]
   exact Zd5 (fun(k:Nat)=>D.int (k:Int)) _ (List.range H) fun y _=>⟨_,rfl,V5 rfl rfl rfl⟩
  have e1:=Ze7 (i:=2) (sd:=[o0,Jo (H:Int),some (.ow (acc.map eD)),Jo (x:Int),v4]) rfl c (by simp only[List.length_map,List.length_range];lia)
  rw[<-List.map_append] at e1
  obtain⟨acc',w3,h1,h2⟩:=Os o0 v4 hH xs (acc++(List.range H).map fun(y:Nat)=>(true,(x:Int),(y:Int))) (Jo (x:Int)) (by simp only[List.length_append,List.length_map,List.length_range];lia)
  refine⟨acc',w3,?_,(Yu rfl e1).trans h2⟩
  simp only[List.length_append,List.length_map,List.length_range,List.length_cons] at h1 ⊢
  lia
theorem Ot (o1 v3:Option S){W:Nat}(hW:W<=5):∀(xs:List Nat) (acc:List (Bool×Int×Int)) (v4:Option S),acc.length+5*xs.length<=900->∃(acc':List (Bool×Int×Int)) (w4:Option S),acc'.length<=acc.length+5*xs.length /\
  Y6 (Y1 4) Zpn (xs.map fun(k:Nat)=>D.int (k:Int)) [Jo (W:Int),o1,some (.ow (acc.map eD)),v3,v4]=.ok (.nx [Jo (W:Int),o1,some (.ow (acc'.map eD)),v3,w4])
 |[],acc,v4,_=>⟨acc,v4,by simp,rfl⟩
 |y::xs,acc,v4,hl=>by
  rw[List.length_cons] at hl
  have c:X6 (Yf (Zb (Zd 0) Zh)) 1 [4] (Y1 0) (Qf (Zb ↑"flat" (Zb (Zd 0) (Zb (Zd 1) Zh)))) [Jo (W:Int),o1,some (.ow (acc.map eD)),v3,Jo (y:Int)]=.ok (((List.range W).map fun(x:Nat)=>(false,(x:Int),(y:Int))).map eD):=by
   refine Gv (Zkt (n:=W) (Law.a1 rfl) (by lia)) (by rw[List.length_map,List.length_range];lia) ?_
   rw[List.map_map]
   exact Zd5 (fun(k:Nat)=>D.int (k:Int)) _ (List.range W) fun y _=>⟨_,rfl,V5 rfl rfl rfl⟩
  have e1:=Ze7 (i:=2) (sd:=[Jo (W:Int),o1,some (.ow (acc.map eD)),v3,Jo (y:Int)]) rfl c (by simp only[List.length_map,List.length_range];lia)
  rw[<-List.map_append] at e1
  obtain⟨acc',w4,h1,h2⟩:=Ot o1 v3 hW xs (acc++(List.range W).map fun(x:Nat)=>(false,(x:Int),(y:Int))) (Jo (y:Int)) (by simp only[List.length_append,List.length_map,List.length_range];lia)
  refine⟨acc',w4,?_,(Yu rfl e1).trans h2⟩
  simp only[List.length_append,List.length_map,List.length_range,List.length_cons] at h1 ⊢
  lia
def Zhp {W H:Nat}(hW:W<=5)(hH:H<=5):∃es:List (Bool×Int×Int),es.length<=60/\Gq [.int (W:Int),.int (H:Int)]=.ok (.ow (es.map eD)):=by
 obtain⟨a1,w3,h1,e1⟩:=Os (Jo (W:Int)) none hH (List.range (W+1)) [] none (by simp;lia)
 obtain⟨a2,w4,h2,e2⟩:=Ot (Jo (H:Int)) w3 hW (List.range (H+1)) a1 none (by simp at h1 ⊢;lia)
 refine⟨a2,by simp at h1 h2;lia,(Mx _ _ _ _).trans (Z3 (go (Ji 2 _) (go (f:=V7 (Yf (Zb (Zn Qi (Zd 0) ↑1) Zh)) (Y1 3) Zpm) ((Yt (Zkt (n:=W+1) (Law.a1 rfl) (by lia))).trans e1) (go (f:=V7 (Yf (Zb (Zn Qi (Zd 1) ↑1) Zh)) (Y1 4) Zpn) ((Yt (Zkt (n:=H+1) (Law.a1 rfl) (by lia))).trans e2) rfl))))⟩
def Vq (p:Int){m:Nat}(h:1<=m):∃k:Nat,p%(m:Int)=(k:Int)/\k<m:=by
 have q1:0<=p%(m:Int):=Int.emod_nonneg _ (by lia)
 have q2:p%(m:Int)<m:=Int.emod_lt_of_pos _ (by lia)
 exact⟨(p%(m:Int)).toNat,by lia,by lia⟩
def Zlp (W H:Int)(u:Bool)(x y:Int):∃d,Vn [.int W,.int H,Yh u x y]=.ok (.im d)/\(d=.non\/d=.int 0\/d=.int 1):=by
 have e5:Uo (DL.tB (Zn Ys 2[0]! ↑"up")) (Qf (Zb 2[1]! (Zb (Zd 0) Zh))) (Qf (Zb 2[2]! (Zb (Zd 1) Zh))) [Jo W,Jo H,Io (.tup [kd u,.int x,.int y]),none,none]=.ok (.tup [.int (if u=true then x else y),.int (if u=true then W else H)]):=by
  cases u
  ·exact Jl (Z7 (Zg (Zj rfl rfl (Qd _ _)) rfl (by rw[Y8 (by simp[kd,D.dep])];rfl))) (X3 (Zj rfl rfl (Ls _ _ _ _)) rfl)
  ·exact Jb (Z7 (Zg (Zj rfl rfl (Qd _ _)) rfl (by rw[Y8 (by simp[kd,D.dep])];rfl))) (X3 (Zj rfl rfl (Qq _ _ _)) rfl)
 generalize (if u=true then x else y)=l at *
 generalize (if u=true then W else H)=m at *
 by_cases h0:l=0
 ·exact⟨.int 0,(Zbu _ _ _ _ _).trans (Z3 (go (Dk e5) (Qt (Z6 (Z7 (Zg rfl rfl (by rw[Qy,h0];rfl))) (Z1 rfl))))),.inr (.inl rfl)⟩
 ·by_cases h1:l=m
  ·exact⟨.int 1,(Zbu _ _ _ _ _).trans (Z3 (go (Dk e5) (go (Z0 (Z7 (Zg rfl rfl (by rw[Qy];simp[h0])))) (Z1 (Jb (Z7 (Zg rfl rfl (by rw[Qy];simp[h1]))) rfl))))),.inr (.inr rfl)⟩
  ·exact⟨.non,(Zbu _ _ _ _ _).trans (Z3 (go (Dk e5) (go (Z0 (Z7 (Zg rfl rfl (by rw[Qy];simp[h0])))) (Z1 (Jl (Z7 (Zg rfl rfl (by rw[Qy];simp[h1]))) rfl))))),.inl rfl⟩
def Ze8:List D:=[.non,.non,.non,.non,.non,.str (Str.ofString "mm"),.str (Str.ofString "mp"),.str (Str.ofString "pm"),.str (Str.ofString "pp"),.str (Str.ofString "mm"),.non,.non]
def Zhq (k:Nat)(h:k<12):Ze8[k]?=some .non\/∃(s:Str) (f g:Bool),Ze8[k]?=some (.str s)/\Yj (.str s) (.int 0)=.ok (fc f)/\Yj (.str s) (.int 1)=.ok (fc g):=by
 match k,h with
 |0,_=>exact .inl rfl
 |1,_=>exact .inl rfl
 |2,_=>exact .inl rfl
 |3,_=>exact .inl rfl
 |4,_=>exact .inl rfl
 |5,_=>exact .inr ⟨Str.ofString "mm", true,true,rfl,rfl,rfl⟩
 |6,_=>exact .inr ⟨Str.ofString "mp", true,false,rfl,rfl,rfl⟩
 |7,_=>exact .inr ⟨Str.ofString "pm", false,true,rfl,rfl,rfl⟩
 |8,_=>exact .inr ⟨Str.ofString "pp", false,false,rfl,rfl,rfl⟩
 |9,_=>exact .inr ⟨Str.ofString "mm", true,true,rfl,rfl,rfl⟩
 |10,_=>exact .inl rfl
 |11,_=>exact .inl rfl
 |n+12,h=>lia
def Ze9 (u:Bool)(x y:Int)(f g:Bool):Qi (Yh u x y) (.tup [fc f,fc g])=.ok (Sd.mk u x y f g).D:=rfl
def Zlq (W H:Int)(u:Bool)(x y n:Int):∃d,Uz [.int W,.int H,Yh u x y,.int n]=.ok (.im d)/\(d=.non\/∃s:Sd,d=s.D):=by
 obtain⟨d,ed,hd⟩:=Zlp W H u x y
 have e4:Zt Vn (Zb (Zd 0) (Zb (Zd 1) (Zb (Zd 2) Zh))) [Jo W,Jo H,Io (Yh u x y),Jo n,none,none,none]=.ok d:=Zq (aC rfl (aC rfl (Law.a1 rfl))) ed rfl
 rcases hd with rfl|hd
 ·obtain⟨k,ek,hk⟩:=Vq n (m:=12) (by decide)
  have em:Zn Qn (Zd 3) ↑12 [Jo W,Jo H,Io (Yh u x y),Jo n,Io .non,none,none]=.ok (.int (k:Int)):=Zg rfl rfl (by rw[gM (by decide)];congr 2)
  have el:Jq (Zb (eC .non) (Zb (eC .non) (Zb (eC .non) (Zb (eC .non) (Zb (eC .non) (Zb ↑"mm" (Zb ↑"mp" (Zb ↑"pm" (Zb ↑"pp" (Zb ↑"mm" (Zb (eC .non) (Zb (eC .non) Zh)))))))))))) [Jo W,Jo H,Io (Yh u x y),Jo n,Io .non,none,none]=.ok (.lst Ze8):=Wf rfl (Jp (by show(12:Nat)<=1000000;decide))
  have c1:DL.tB (Zn Ng (Zd 4) (eC .non)) [Jo W,Jo H,Io (Yh u x y),Jo n,Io .non,none,none]=.ok true:=rfl
  rcases Zhq k hk with hb|⟨s,f,g,hb,h0,h1⟩
  ·exact⟨.non,(Zbk _ _ _ _ _ _).trans (Z3 (go (Zx e4) (Qt (Z6 c1 (go (Zx (Q8 el em (Ke hb))) (Z1 (Jb rfl rfl))))))),.inl rfl⟩
  ·exact⟨(Sd.mk u x y f g).D,(Zbk _ _ _ _ _ _).trans (Z3 (go (Zx e4) (Qt (Z6 c1 (go (Zx (Q8 el em (Ke hb))) (Z1 (Jl rfl (Zg rfl (X3 (Zg rfl rfl h0) (Zg rfl rfl h1)) (Ze9 u x y f g))))))))),.inr ⟨_,rfl⟩⟩
 ·have c1:DL.tB (Zn Ng (Zd 4) (eC .non)) [Jo W,Jo H,Io (Yh u x y),Jo n,Io d,none,none]=.ok false:=by rcases hd with rfl|rfl<;>rfl
  have c2:∀j:Int,DL.tB (Zn Ys (Zn Qn (Zd 3) ↑9) (eC (.int j))) [Jo W,Jo H,Io (Yh u x y),Jo n,Io d,none,none]=.ok (n%9==j):=fun j=>Z7 (Zg (Zg rfl rfl (gM (by decide))) rfl (Qy _ _))
  have c7:=c2 7
  have c8:=c2 8
  cases h7:n%9==7 with
  |true=>
   rw[h7] at c7
   exact⟨.non,(Zbk _ _ _ _ _ _).trans (Z3 (go (Zx e4) (go (Z0 c1) (Qt (Z6 c7 (Z1 rfl)))))),.inl rfl⟩
  |false=>
   rw[h7] at c7
   have e6:∃f:Bool,Uo (DL.tB (Zn Ys (Zn Qn (Zd 3) ↑9) ↑8)) ↑"p" ↑"m" [Jo W,Jo H,Io (Yh u x y),Jo n,Io d,none,none]=.ok (fc f):=by
    cases h8:n%9==8 with
    |true=>rw[h8] at c8;exact⟨false,Jb c8 rfl⟩
    |false=>rw[h8] at c8;exact⟨true,Jl c8 rfl⟩
   obtain⟨f,e6⟩:=e6
   have e7:∃f1 g1:Bool,Uo (DL.tB (Zn Ys (Zd 4) ↑0)) (Qf (Zb ↑"p" (Zb (Zd 6) Zh))) (Qf (Zb (Zd 6) (Zb ↑"p" Zh))) [Jo W,Jo H,Io (Yh u x y),Jo n,Io d,none,Io (fc f)]=.ok (.tup [fc f1,fc g1]):=by
    rcases hd with rfl|rfl
    ·exact⟨false,f,Jb (Z7 (Zg rfl rfl (by rw[Qy];rfl))) (X3 rfl rfl)⟩
    ·exact⟨f,false,Jl (Z7 (Zg rfl rfl (by rw[Qy];rfl))) (X3 rfl rfl)⟩
   obtain⟨f1,g1,e7⟩:=e7
   exact⟨(Sd.mk u x y f1 g1).D,(Zbk _ _ _ _ _ _).trans (Z3 (go (Zx e4) (go (Z0 c1) (go (Z0 c7) (go (Zx e6) (Z1 (Zg rfl e7 (Ze9 u x y f1 g1)))))))),.inr ⟨_,rfl⟩⟩
noncomputable def hB:Zl->M O:=(Zy (Z4 7 (Zt Uz (Zb (Zd 1) (Zb (Zd 2) (Zb (Zd 5) (Zb (Zd 6) Zh))))))
   (Yy (DL.tB (Zn Xd (Zd 7) (eC .non))) (Vg 4 (Zd 7)) Qs))
def hG:D->Zl->M Zl:=Kr 2 (Qp (Y1 5) (Qp (Y1 6) K5))
theorem Ou:∀(es:List (Bool×Int×Int)) (ns:List Int),Co (es.map eD) (ns.map D.int)=(es.zip ns).map fun p=>.tup [eD p.1,.int p.2]
 |[],_=>rfl
 |_::_,[]=>rfl
 |e::es,n::ns=>by
  show D.tup [eD e,.int n]::Co (es.map eD) (ns.map D.int)=_
  rw[Ou es ns]
  rfl
theorem Fy (o0 o3:Option S)(W H:Int):∀(ps:List ((Bool×Int×Int)×Int)) (ss:List Sd) (v5 v6 v7:Option S),ss.length+ps.length<=400->∃(ss':List Sd) (w5 w6 w7:Option S),ss'.length<=ss.length+ps.length /\
  Y6 hG hB (ps.map fun p=>.tup [eD p.1,.int p.2]) [o0,Jo W,Jo H,o3,some (.ow (ss.map Sd.D)),v5,v6,v7]=.ok (.nx [o0,Jo W,Jo H,o3,some (.ow (ss'.map Sd.D)),w5,w6,w7])
 |[],ss,v5,v6,v7,_=>⟨ss,v5,v6,v7,by simp,rfl⟩
 |((u,x,y),n)::ps,ss,v5,v6,v7,hl=>by
  rw[List.length_cons] at hl
  obtain⟨d,ed,hd⟩:=Zlq W H u x y n
  have e7:Zt Uz (Zb (Zd 1) (Zb (Zd 2) (Zb (Zd 5) (Zb (Zd 6) Zh)))) [o0,Jo W,Jo H,o3,some (.ow (ss.map Sd.D)),Io (Yh u x y),Jo n,v7]=.ok d:=Zq (aC rfl (aC rfl (aC rfl (Law.a1 rfl)))) ed rfl
  rcases hd with rfl|⟨s,rfl⟩
  ·obtain⟨ss',w5,w6,w7,h1,h2⟩:=Fy o0 o3 W H ps ss (Io (Yh u x y)) (Jo n) (Io .non) (by lia)
   exact⟨ss',w5,w6,w7,by rw[List.length_cons];lia,(Yu (sd1:=[o0,Jo W,Jo H,o3,some (.ow (ss.map Sd.D)),Io (Yh u x y),Jo n,v7]) rfl (go (Zx e7) (Z0 rfl))).trans h2⟩
  ·obtain⟨ss',w5,w6,w7,h1,h2⟩:=Fy o0 o3 W H ps (ss++[s]) (Io (Yh u x y)) (Jo n) (Io s.D) (by rw[List.length_append,List.length_singleton];lia)
   rw[List.length_append,List.length_singleton] at h1
   refine⟨ss',w5,w6,w7,by rw[List.length_cons];lia,(Yu (sd1:=[o0,Jo W,Jo H,o3,some (.ow (ss.map Sd.D)),Io (Yh u x y),Jo n,v7]) rfl (go (Zx e7) (Z6 rfl (Gd rfl rfl (by rw[List.length_map];lia))))).trans ?_⟩
   rw[List.map_append] at h2
   exact h2
def Zhr (s:Sd):List V:=[.str (if s.up=true then Str.ofString "up" else Str.ofString "flat"),.int s.x,.int s.y,.str (if s.f=true then Str.ofString "m" else Str.ofString "p"),.str (if s.g=true then Str.ofString "m" else Str.ofString "p")]
theorem Ov:∀ss:List Sd,S6 (ss.map Sd.D)=some (ss.map Zhr)
 |[]=>rfl
 |s::ss=>by
  show(match some (Zhr s),S6 (ss.map Sd.D) with|some v,some vs=>some (v::vs)|_,_=>none)=_
  rw[Ov ss]
  rfl
def Pm {x y:V}{xs ys:List V}(e:∃c,Zm5 x y=some c)(l:∃c,Zn6 x y=some c)(r:∃b,Zgd xs ys=some b):∃b,Zgd (x::xs) (y::ys)=some b:=by
 obtain⟨c,e⟩:=e
 unfold Zgd
 rw[e]
 cases c
 ·exact l
 ·exact r
def Zlr (s t:Sd):∃b,Zgd (Zhr s) (Zhr t)=some b:=Pm ⟨_,rfl⟩ ⟨_,rfl⟩ (Pm ⟨_,rfl⟩ ⟨_,rfl⟩ (Pm ⟨_,rfl⟩ ⟨_,rfl⟩ (Pm ⟨_,rfl⟩ ⟨_,rfl⟩ (Pm ⟨_,rfl⟩ ⟨_,rfl⟩ ⟨false,rfl⟩))))
def Zhs (ss:List Sd)(hl:ss.length<64):∃ts:List Sd,ts.length=ss.length/\S8 [.lst (ss.map Sd.D)]=.ok (.lst (ts.map Sd.D)):=by
 obtain⟨es,hp,e⟩:=Ex (Ov ss) (by rw[List.length_map];exact hl) (by
  rw[Bool.or_eq_true]
  refine .inl (List.all_eq_true.mpr fun y hy=>?_)
  obtain⟨s,_,rfl⟩:=List.mem_map.mp hy
  rfl) (by rw[List.length_map,List.length_map]) fun x hx y hy=>by
  obtain⟨s,_,rfl⟩:=List.mem_map.mp hx
  obtain⟨t,_,rfl⟩:=List.mem_map.mp hy
  exact⟨rfl,Zlr s t⟩
 obtain⟨ts,rfl⟩:=all_map (f:=Sd.D) es fun d hd=>by
  obtain⟨s,_,rfl⟩:=List.mem_map.mp (hp.mem_iff.mp hd)
  exact⟨s,rfl⟩
 have:=hp.length_eq
 rw[List.length_map,List.length_map] at this
 exact⟨ts,this,e⟩
def Zls (c:Int){W H:Nat}(hW:W<=5)(hH:H<=5):∃ss:List Sd,ss.length<=400/\Pb [.int c,.int (W:Int),.int (H:Int)]=.ok (.im (Qo W H ss)):=by
 obtain⟨es,le,ee⟩:=Zhp hW hH
 obtain⟨ns,ln,_,en⟩:=Gu c es.length (by lia)
 obtain⟨ss,w5,w6,w7,h1,h2⟩:=Fy (Jo c) (Io (.lst (es.map eD))) (W:Int) (H:Int) (es.zip ns) [] none none none (by simp[List.length_zip];lia)
 have hs:ss.length<=60:=by simp[List.length_zip] at h1;lia
 have hz:Zga (Zb (Zd 3) (Zb (Zt Ye (Zb (Zd 0) (Zb (Kv Wl (Zb (Zd 3) Zh)) Zh))) Zh)) [Jo c,Jo (W:Int),Jo (H:Int),Io (.lst (es.map eD)),some (.ow []),none,none,none]=.ok ((es.zip ns).map fun p=>.tup [eD p.1,.int p.2]):=by
  unfold Zga
  rw[aC (d:=.lst (es.map eD)) rfl (Law.a1 (d:=.lst (ns.map D.int)) (Zq (aC rfl (Law.a1 (d:=.int (es.length:Int)) (Xv (Law.a1 rfl) (by rw[T4,List.length_map])))) en rfl)),M.bind_ok]
  show M.ok (Co (es.map eD) (ns.map D.int))=_
  rw[Ou]
 obtain⟨ts,lt,et⟩:=Zhs ss (by lia)
 exact⟨ts,by lia,(Zbu _ _ _ _ _).trans (Z3 (go (Zx (Zq (aC rfl (Law.a1 rfl)) ee rfl)) (go (Ji 4 _) (go (f:=V7 _ hG hB) ((Yt hz).trans h2) (Jy (Z1 (V5 rfl rfl (Xv (Law.a1 (d:=.lst (ts.map Sd.D)) (Xv (Law.a1 rfl) et)) rfl))))))))⟩
structure N1 (a b:Int):Prop where
 fr:Fr 12 a b
 g:Int.gcd a b=1
 le:(a.natAbs:Int)<=40*b
 b9:b<=1000000000
def Av {t b:Int}(hb:0<b)(b9:b<=1000000000)(hl:(t.natAbs:Int)<=40*b):∃p q,Yk t b=nD p q/\N1 p q/\(p=0↔t=0):=by
 have e12:(10:Nat) ^ 12=1000000000000:=rfl
 have hf:Fr 12 t b:=⟨hb,by rw[e12];lia,by rw[e12];lia⟩
 obtain⟨p,q,el,q0,m,g,h3,h4⟩:=V4 (t:=t) hb
 have f:Fr 12 p q:=⟨q0,by have:=hf.top;lia,by rw[e12];lia⟩
 refine⟨p,q,el,⟨f,g,?_,by lia⟩,?_⟩
 ·have h1:(p.natAbs:Int)*b=t.natAbs*q:=by
   have:=congrArg Int.natAbs m
   rw[Int.natAbs_mul,Int.natAbs_mul] at this
   have q0:=f.pos
   rw[show b=((b.natAbs:Nat):Int) by lia,show q=((q.natAbs:Nat):Int) by lia]
   exact_mod_cast this
  have h2:=Int.mul_le_mul_of_nonneg_right hl (Int.le_of_lt f.pos)
  rw[<-h1,Int.mul_right_comm] at h2
  exact Int.le_of_mul_le_mul_right h2 hb
 ·constructor
  ·intro h;rw[h,Int.zero_mul] at m
   rcases Int.mul_eq_zero.mp m.symm with z|z
   ·exact z
   ·have:=f.pos;lia
  ·intro h;rw[h,Int.zero_mul] at m
   rcases Int.mul_eq_zero.mp m with z|z
   ·exact z
   ·lia
def Zir {a b c d:Int}(h1:N1 a b)(h2:N1 c d)(h:a≠0\/c≠0):StOk ⟨a,b,c,d⟩:=⟨h1.fr,h2.fr,h1.g,h2.g,h,h1.le,h2.le⟩
noncomputable def Zpo:Zl->M O:=(Zy (Z4 9 (Zn Qc ↑2 (Zn DL.Xf (Zn Qn (Zn Yj (Zd 5) (Zn Qi ↑2 (Zd 8))) ↑13) ↑6)))
   (Zy (P0 (Zn Yj (Zd 6) (Zd 8)) (Kr 2 (Qp (Y1 10) (Qp (Y1 11) K5))))
   (Zy (Yy (DL.tB (Zn Ys (Zn Qn (Zn Yj (Zd 5) (Zn Qi ↑4 (Zd 8))) ↑2) ↑1)) (Z4 10 (Zn DL.Xf ↑0 (Zd 10))) Qs)
   (Zy (Z4 10 (Zn Qi (Zd 10) (Zn Qc (Zd 9) (Zd 11))))
   (Zy (P0 (Zn Yj (Zd 3) (Zd 8)) (Kr 2 (Qp (Y1 12) (Qp (Y1 13) K5))))
   (Vg 7 (Zt Qk (Zb (Zn DL.Xf (Zn Qc (Zd 10) (Zd 13)) (Zn Qc (Zd 12) (Zd 11))) (Zb (Zn Qc (Zd 11) (Zd 13)) Zh)))))))))
noncomputable def Zp7:Zl->M O:=(Zy (Z4 14 (Zt Qk (Zb (Zn DL.Xf (Zn Qn 5[2]! ↑41) ↑20) (Zb (Zn Qi ↑1 (Zn Qn 5[4]! (Zn Yj (Jq (Zb ↑1 (Zb ↑6 (Zb ↑6 (Zb ↑30 Zh))))) (Zn Qn 5[6]! ↑4)))) Zh))))
   (Zy (Z4 15 (Zt Qk (Zb (Zn DL.Xf (Zn Qn 5[3]! ↑41) ↑20) (Zb (Zn Qi ↑1 (Zn Qn 5[5]! (Zn Yj (Jq (Zb ↑1 (Zb ↑6 (Zb ↑6 (Zb ↑30 Zh))))) (Zn Qn (Zn Q6 5[6]! ↑4) ↑4)))) Zh))))
   (Zy (Yy (DL.tB (Zn Ys (Zn Qn 5[0]! ↑4) ↑3)) (Z4 15 (Zt Qk (Zb (Zn Qc 14[0]! (Zn Yj (Jq (Zb ↑1 (Zb (Zh6 Lg ↑1) Zh))) (Zn Qn 5[3]! ↑2))) (Zb 14[1]! Zh)))) Qs)
   (Zy (Yy (tA (DL.tB (Zn Ys 14[0]! ↑0)) (DL.tB (Zn Ys 15[0]! ↑0))) (Qj (Qf (Zb (Qf (Zb ↑1 (Zb ↑1 Zh))) (Zb (Qf (Zb ↑0 (Zb ↑1 Zh))) Zh)))) Qs)
   (Qj (Qf (Zb (Zd 14) (Zb (Zd 15) Zh))))))))
def Ow (o0 o1 o2 o4:Option S){pt sp:D}{xs:List D}{k x2 x4 a b c d:Int}{z:Nat}(z8:z<=8)(h1:PIn z a b)(h2:PIn z c d)(e2:Yj (.lst xs) (.int (2+k))=.ok (.int x2))(e4:Yj (.lst xs) (.int (4+k))=.ok (.int x4))(es:Yj sp (.int k)=.ok (nD a b))(ep:Yj pt (.int k)=.ok (nD c d))(l:List D)(hl:l.length<=100)(v9 v10 v11 v12 v13 v14 v15:Option S):
  ∃(t q:Int) (w9 w10 w11 w12 w13:Option S),0<q/\q<=1000000/\(t.natAbs:Int)<=40*q/\Zpo [o0,o1,o2,Io pt,o4,Io (.lst xs),Io sp,some (.ow l),Jo k,v9,v10,v11,v12,v13,v14,v15] =
   .ok (.nx [o0,o1,o2,Io pt,o4,Io (.lst xs),Io sp,some (.ow (l++[Yk t q])),Jo k,w9,w10,w11,w12,w13,v14,v15]):=by
 have m0:=Int.emod_nonneg x2 (show(13:Int)≠0 by decide)
 have m1:=Int.emod_lt_of_pos x2 (show(0:Int)<13 by decide)
 have b0:=h1.fr.pos
 have d0:=h2.fr.pos
 have b3:=h1.q3
 have d3:=h2.q3
 obtain⟨far,hf,f0,f1⟩:∃far,far=2*(x2%13-6)/\-12<=far/\far<=12:=⟨_,rfl,by lia,by lia⟩
 have e9:Zn Qc ↑2 (Zn DL.Xf (Zn Qn (Zn Yj (Zd 5) (Zn Qi ↑2 (Zd 8))) ↑13) ↑6) [o0,o1,o2,Io pt,o4,Io (.lst xs),Io sp,some (.ow l),Jo k,v9,v10,v11,v12,v13,v14,v15]=.ok (.int far):=by
  rw[hf]
  exact Zg rfl (Zg (Zg (Zg rfl (Zg rfl rfl rfl) e2) rfl (gM (by decide))) rfl rfl) (gT (Fs (by decide) (by decide)) (Fs (by lia) (by lia)))
 obtain⟨a',ha,e10⟩:∃a':Int,(a'=a\/a'=0-a)/\(Yy (DL.tB (Zn Ys (Zn Qn (Zn Yj (Zd 5) (Zn Qi ↑4 (Zd 8))) ↑2) ↑1)) (Z4 10 (Zn DL.Xf ↑0 (Zd 10))) Qs) [o0,o1,o2,Io pt,o4,Io (.lst xs),Io sp,some (.ow l),Jo k,Jo far,Jo a,Jo b,v12,v13,v14,v15]=.ok (.nx [o0,o1,o2,Io pt,o4,Io (.lst xs),Io sp,some (.ow l),Jo k,Jo far,Jo a',Jo b,v12,v13,v14,v15]):=by
  have c:DL.tB (Zn Ys (Zn Qn (Zn Yj (Zd 5) (Zn Qi ↑4 (Zd 8))) ↑2) ↑1) [o0,o1,o2,Io pt,o4,Io (.lst xs),Io sp,some (.ow l),Jo k,Jo far,Jo a,Jo b,v12,v13,v14,v15]=.ok (x4%2==1):=Z7 (Zg (Zg (Zg rfl (Zg rfl rfl rfl) e4) rfl (gM (by decide))) rfl (Qy _ _))
  cases hb:x4%2==1 with
  |true=>rw[hb] at c;exact⟨0-a,.inr rfl,Z6 c (Zx rfl)⟩
  |false=>rw[hb] at c;exact⟨a,.inl rfl,Z0 c⟩
 have ab:-8*b<=a'/\a'<=8*b:=by
  have p0:=h1.p0
  have p1:=h1.p1
  have:=Int.mul_le_mul_of_nonneg_right (show(z:Int)<=8 by lia) (Int.le_of_lt b0)
  rcases ha with rfl|rfl<;>lia
 have fb:-12*b<=far*b/\far*b<=12*b:=⟨Int.mul_le_mul_of_nonneg_right f0 (Int.le_of_lt b0),Int.mul_le_mul_of_nonneg_right f1 (Int.le_of_lt b0)⟩
 obtain⟨A,eA⟩:∃A,A=a'+far*b:=⟨_,rfl⟩
 have hA:-20*b<=A/\A<=20*b:=by lia
 have bd:0<b*d:=Int.mul_pos b0 d0
 have bd':b*d<=1000*1000:=Int.mul_le_mul b3 d3 (Int.le_of_lt d0) (by decide)
 have Ad:-20*b*d<=A*d/\A*d<=20*b*d:=⟨Int.mul_le_mul_of_nonneg_right hA.1 (Int.le_of_lt d0),Int.mul_le_mul_of_nonneg_right hA.2 (Int.le_of_lt d0)⟩
 have cb:0<=c*b/\c*b<=8*d*b:=by
  have p0:=h2.p0
  have p1:=h2.p1
  have:=Int.mul_le_mul_of_nonneg_right (show(z:Int)<=8 by lia) (Int.le_of_lt d0)
  exact⟨Int.mul_nonneg (Int.le_of_lt p0) (Int.le_of_lt b0),Int.mul_le_mul_of_nonneg_right (by lia) (Int.le_of_lt b0)⟩
 have q1:-20*b*d = -20*(b*d):=by grind
 have q2:20*b*d=20*(b*d):=by grind
 have q3:8*d*b=8*(b*d):=by grind
 have tl:((A*d-c*b).natAbs:Int)<=40*(b*d):=by lia
 have s6:∀{v:Int},-1000000000<=v->v<=1000000000->sm v=true:=fun h h'=>Fs h h'
 have hc:-8000<=c/\c<=8000:=by
  have p0:=h2.p0
  have p1:=h2.p1
  have:=Int.mul_le_mul_of_nonneg_right (show(z:Int)<=8 by lia) (Int.le_of_lt d0)
  lia
 have fr:Fr 12 (A*d-c*b) (b*d):=by
  have e12:(10:Nat) ^ 12=1000000000000:=rfl
  exact⟨bd,by rw[e12];lia,by rw[e12];lia⟩
 have el:=Pd fr (by decide)
 refine⟨A*d-c*b,b*d,Jo far,Jo A,Jo b,Jo c,Jo d,bd,by lia,tl,?_⟩
 refine go (Zx e9) (go (Dk (Zg rfl rfl es)) (go e10 (go (Zx (d:=.int A) ?_) (go (Dk (Zg rfl rfl ep)) (Gd rfl (Zq (aC (d:=.int (A*d-c*b)) ?_ (Law.a1 (d:=.int (b*d)) ?_)) el rfl) (by lia))))))
 ·rw[eA]
  exact Zg rfl (Zg rfl rfl (gT (s6 (by lia) (by lia)) (s6 (by lia) (by lia)))) rfl
 ·exact Zg (Zg rfl rfl (gT (s6 (by lia) (by lia)) (s6 (by lia) (by lia)))) (Zg rfl rfl (gT (s6 (by lia) (by lia)) (s6 (by lia) (by lia)))) rfl
 ·exact Zg rfl rfl (gT (s6 (by lia) (by lia)) (s6 (by lia) (by lia)))
def Znw (k:Nat)(h:k<4):∃v:Int,1<=v/\v<=30/\([D.int 1,D.int 6,D.int 6,D.int 30])[k]?=some (.int v):=by
 match k,h with
 |0,_=>exact⟨1,by decide,by decide,rfl⟩
 |1,_=>exact⟨6,by decide,by decide,rfl⟩
 |2,_=>exact⟨6,by decide,by decide,rfl⟩
 |3,_=>exact⟨30,by decide,by decide,rfl⟩
 |n+4,h=>lia
def Znx (k:Nat)(h:k<2):∃v:Int,(v=1\/v = -1)/\([D.int 1,D.int (-1)])[k]?=some (.int v):=by
 match k,h with
 |0,_=>exact⟨1,.inl rfl,rfl⟩
 |1,_=>exact⟨-1,.inr rfl,rfl⟩
 |n+2,h=>lia
def Ox {sd:Zl}{f2 f4 f6:Zl->M D}{x y w:Int}(h2:f2 sd=.ok (.int x))(h4:f4 sd=.ok (.int y))(h6:f6 sd=.ok (.int w)):∃a b,N1 a b/\Zt Qk (Zb (Zn DL.Xf (Zn Qn f2 ↑41) ↑20) (Zb (Zn Qi ↑1 (Zn Qn f4 (Zn Yj (Jq (Zb ↑1 (Zb ↑6 (Zb ↑6 (Zb ↑30 Zh))))) (Zn Qn f6 ↑4)))) Zh)) sd=.ok (nD a b):=by
 obtain⟨k,ek,hk⟩:=Vq w (m:=4) (by decide)
 obtain⟨v,v0,v1,ev⟩:=Znw k hk
 have m0:=Int.emod_nonneg x (show(41:Int)≠0 by decide)
 have m1:=Int.emod_lt_of_pos x (show(0:Int)<41 by decide)
 have n0:=Int.emod_nonneg y (show v≠0 by lia)
 have n1:=Int.emod_lt_of_pos y (show 0<v by lia)
 obtain⟨p,q,el,hn,_⟩:=Av (t:=x%41-20) (b:=1+y%v) (by lia) (by lia) (by lia)
 have e12:(10:Nat) ^ 12=1000000000000:=rfl
 have fl:=Pd (k:=12) (t:=x%41-20) (b:=1+y%v) ⟨by lia,by rw[e12];lia,by rw[e12];lia⟩ (by decide)
 rw[el] at fl
 refine⟨p,q,hn,Zq (aC (Zg (Zg h2 rfl (gM (by decide))) rfl rfl) (Law.a1 (Zg rfl (Zg h4 (Q8 (i:=(k:Int)) (Wf rfl (Jp (by show(4:Nat)<=1000000;decide))) (Zg h6 rfl (by rw[gM (by decide)];congr 2)) (Ke ev)) (gM (by lia))) rfl))) fl rfl⟩
def Oy (o0 o1 o2 o3 o4 o6 o7 o8 o9 o10 o11 o12 o13 o14 o15:Option S)(x0 x1 x2 x3 x4 x5 x6:Int):∃s:Po4,StOk s/\Zp7 [o0,o1,o2,o3,o4,Io (.lst ([x0,x1,x2,x3,x4,x5,x6].map D.int)),o6,o7,o8,o9,o10,o11,o12,o13,o14,o15]=.ok (.rt (.im s.D)):=by
 obtain⟨a,b,n1,e1⟩:=Ox (sd:=[o0,o1,o2,o3,o4,Io (.lst ([x0,x1,x2,x3,x4,x5,x6].map D.int)),o6,o7,o8,o9,o10,o11,o12,o13,o14,o15]) (f2:=Zn Yj (Zd 5) ↑2) (f4:=Zn Yj (Zd 5) ↑4) (f6:=Zn Yj (Zd 5) ↑6) (x:=x2) (y:=x4) (w:=x6) rfl rfl rfl
 obtain⟨c,d,n2,e2⟩:=Ox (sd:=[o0,o1,o2,o3,o4,Io (.lst ([x0,x1,x2,x3,x4,x5,x6].map D.int)),o6,o7,o8,o9,o10,o11,o12,o13,Io (nD a b),o15]) (f2:=Zn Yj (Zd 5) ↑3) (f4:=Zn Yj (Zd 5) ↑5) (f6:=Zn Q6 5[6]! ↑4) (x:=x3) (y:=x5) (w:=x6/4) rfl rfl (Zg (x:=.int x6) rfl rfl (Lc (by decide) (Fs (by decide) (by decide))))
 have e3:∃c' d',N1 c' d'/\(Yy (DL.tB (Zn Ys (Zn Qn 5[0]! ↑4) ↑3)) (Z4 15 (Zt Qk (Zb (Zn Qc 14[0]! (Zn Yj (Jq (Zb ↑1 (Zb (Zh6 Lg ↑1) Zh))) (Zn Qn 5[3]! ↑2))) (Zb 14[1]! Zh)))) Qs) [o0,o1,o2,o3,o4,Io (.lst ([x0,x1,x2,x3,x4,x5,x6].map D.int)),o6,o7,o8,o9,o10,o11,o12,o13,Io (nD a b),Io (nD c d)]=.ok (.nx [o0,o1,o2,o3,o4,Io (.lst ([x0,x1,x2,x3,x4,x5,x6].map D.int)),o6,o7,o8,o9,o10,o11,o12,o13,Io (nD a b),Io (nD c' d')]):=by
  have cc:DL.tB (Zn Ys (Zn Qn 5[0]! ↑4) ↑3) [o0,o1,o2,o3,o4,Io (.lst ([x0,x1,x2,x3,x4,x5,x6].map D.int)),o6,o7,o8,o9,o10,o11,o12,o13,Io (nD a b),Io (nD c d)]=.ok (x0%4==3):=Z7 (Zg (x:=.int (x0%4)) (Zg (x:=.int x0) rfl rfl (gM (by decide))) rfl (Qy _ _))
  cases hb:x0%4==3 with
  |false=>rw[hb] at cc;exact⟨c,d,n2,Z0 cc⟩
  |true=>
   rw[hb] at cc
   obtain⟨k,ek,hk⟩:=Vq x3 (m:=2) (by decide)
   obtain⟨v,hv,ev⟩:=Znx k hk
   have av:((a*v).natAbs:Int)<=40*b:=by
    have:=n1.le
    rcases hv with rfl|rfl<;>lia
   obtain⟨p,q,el,hn,_⟩:=Av (t:=a*v) (b:=b) n1.fr.pos n1.b9 av
   have fl:=Pd (k:=12) (t:=a*v) (b:=b) ⟨n1.fr.pos,by have:=n1.fr.top;rcases hv with rfl|rfl<;>lia,n1.fr.bot⟩ (by decide)
   rw[el] at fl
   refine⟨p,q,hn,Z6 cc (Zx (Zq (aC (Zg (Zj rfl rfl (Qd _ _)) (Q8 (i:=(k:Int)) (Wf (ds:=[.int 1,.int (-1)]) rfl (Jp (by show(2:Nat)<=1000000;decide))) (Zg (x:=.int x3) rfl rfl (by rw[gM (by decide)];congr 2)) (Ke ev)) (gT (Qv n1.fr.top (by decide)) (Fs (by lia) (by lia)))) (Law.a1 (Zj rfl rfl (Qq _ _ _)))) fl rfl))⟩
 obtain⟨c',d',n3,e3⟩:=e3
 have z1:DL.tB (Zn Ys 14[0]! ↑0) [o0,o1,o2,o3,o4,Io (.lst ([x0,x1,x2,x3,x4,x5,x6].map D.int)),o6,o7,o8,o9,o10,o11,o12,o13,Io (nD a b),Io (nD c' d')]=.ok (a==0):=Z7 (Zg (Zj rfl rfl (Qd _ _)) rfl (Qy _ _))
 have z2:DL.tB (Zn Ys 15[0]! ↑0) [o0,o1,o2,o3,o4,Io (.lst ([x0,x1,x2,x3,x4,x5,x6].map D.int)),o6,o7,o8,o9,o10,o11,o12,o13,Io (nD a b),Io (nD c' d')]=.ok (c'==0):=Z7 (Zg (Zj rfl rfl (Qd _ _)) rfl (Qy _ _))
 by_cases h0:a=0/\c'=0
 ·rw[show(a==0)=true by simp[h0.1]] at z1
  rw[show(c'==0)=true by simp[h0.2]] at z2
  refine⟨⟨1,1,0,1⟩,⟨⟨by decide,by decide,by decide⟩,⟨by decide,by decide,by decide⟩,by decide,by decide,.inl (by decide),by decide,by decide⟩,go (Zx e1) (go (Zx e2) (go e3 (Qt (Z6 (V3 z1 z2) (Z1 (X3 (X3 rfl rfl) (X3 rfl rfl)))))))⟩
 ·have ne:a≠0\/c'≠0:=by
   by_cases ha:a=0
   ·exact .inr fun z=>h0 ⟨ha,z⟩
   ·exact .inl ha
  have zz:=Zkz z1 z2
  rw[show((a==0)&&(c'==0))=false by rcases ne with q|q<;>simp[q]] at zz
  exact⟨⟨a,b,c',d'⟩,Zir n1 n3 ne,go (Zx e1) (go (Zx e2) (go e3 (go (Z0 zz) (Z1 (X3 rfl rfl)))))⟩
def Zlt (cl:Int)(o1 o2:D){W H:Nat}(hW:W<=8)(hH:H<=8){p:Po4}(hp:PtOk W H p){ps:List Po4}(hps:∀q∈ps,PtOk W H q)(hl:ps.length<=100):∃s:Po4,StOk s/\Ga [.int cl,o1,o2,p.D,.lst (ps.map Po4.D)]=.ok (.im s.D):=by
 obtain⟨es,hes,_,en⟩:=Gu cl 7 (by decide)
 obtain⟨x0,x1,x2,x3,x4,x5,x6,rfl⟩:∃x0 x1 x2 x3 x4 x5 x6,es=[x0,x1,x2,x3,x4,x5,x6]:=by
  match es,hes with
  |[x0,x1,x2,x3,x4,x5,x6],_=>exact⟨x0,x1,x2,x3,x4,x5,x6,rfl⟩
 have e5:Zt Ye (Zb (Zd 0) (Zb ↑7 Zh)) [Jo cl,Io o1,Io o2,Io p.D,Io (.lst (ps.map Po4.D)),none,none,none,none,none,none,none,none,none,none,none]=.ok (.lst ([x0,x1,x2,x3,x4,x5,x6].map D.int)):=Zq (aC rfl (Law.a1 rfl)) en rfl
 have c1:DL.tB (Zn Bj (Zn Qn 5[0]! ↑4) ↑2) [Jo cl,Io o1,Io o2,Io p.D,Io (.lst (ps.map Po4.D)),Io (.lst ([x0,x1,x2,x3,x4,x5,x6].map D.int)),none,none,none,none,none,none,none,none,none,none]=.ok (decide (x0%4<2)):=Z7 (Zg (x:=.int (x0%4)) (Zg (x:=.int x0) rfl rfl (gM (by decide))) rfl rfl)
 have dp:D.dep (.lst (ps.map Po4.D))<=60:=by
  have:D.deps (ps.map Po4.D)<=5:=Ul fun d hd=>by
   obtain⟨q,_,rfl⟩:=List.mem_map.mp hd
   simp[Po4.D,nD,D.dep,D.deps]
  simp only[D.dep]
  lia
 have c2:DL.tB (Zn Wm (Zd 4) (Jq Zh)) [Jo cl,Io o1,Io o2,Io p.D,Io (.lst (ps.map Po4.D)),Io (.lst ([x0,x1,x2,x3,x4,x5,x6].map D.int)),none,none,none,none,none,none,none,none,none,none]=.ok (!ps.isEmpty):=by
  refine Z7 (Zg (y:=.lst []) rfl rfl ?_)
  rw[K9 dp]
  cases ps<;>rfl
 have cc:=Zkz c1 c2
 by_cases h:(decide (x0%4<2)&&!ps.isEmpty)=true
 ·rw[h] at cc
  have hn:0<ps.length:=by
   rw[Bool.and_eq_true] at h
   cases ps with
   |nil=>cases h.2
   |cons a r=>simp
  obtain⟨k,ek,hk⟩:=Vq x1 (m:=ps.length) hn
  have eq:(ps.map Po4.D)[k]?=some (ps[k]).D:=by rw[List.getElem?_map,List.getElem?_eq_getElem hk];rfl
  have hq:=hps ps[k] (List.getElem_mem hk)
  generalize ps[k]=q at eq hq
  have e6:Zn Yj (Zd 4) (Zn Qn 5[1]! (Kv Wl (Zb (Zd 4) Zh))) [Jo cl,Io o1,Io o2,Io p.D,Io (.lst (ps.map Po4.D)),Io (.lst ([x0,x1,x2,x3,x4,x5,x6].map D.int)),none,none,none,none,none,none,none,none,none,none]=.ok q.D:=by
   refine Q8 (i:=(k:Int)) rfl (Zg (x:=.int x1) (y:=.int (ps.length:Int)) rfl (Xv (Law.a1 rfl) (by rw[T4,List.length_map])) ?_) (Ke eq)
   rw[gM (by lia),ek]
  obtain⟨t1,q1,a9,a10,a11,a12,a13,q10,q11,q12,u1⟩:=Ow (Jo cl) (Io o1) (Io o2) (Io (.lst (ps.map Po4.D))) (pt:=p.D) (sp:=q.D) (xs:=[x0,x1,x2,x3,x4,x5,x6].map D.int) (k:=0) (x2:=x2) (x4:=x4) hW hq.x hp.x rfl rfl rfl rfl [] (by simp) none none none none none none none
  obtain⟨t2,q2,b9,b10,b11,b12,b13,q20,q21,q22,u2⟩:=Ow (Jo cl) (Io o1) (Io o2) (Io (.lst (ps.map Po4.D))) (pt:=p.D) (sp:=q.D) (xs:=[x0,x1,x2,x3,x4,x5,x6].map D.int) (k:=1) (x2:=x3) (x4:=x5) hH hq.y hp.y rfl rfl rfl rfl [Yk t1 q1] (by simp) a9 a10 a11 a12 a13 none none
  obtain⟨a,b,el1,n1,z1⟩:=Av q10 (by lia) q12
  obtain⟨c,d,el2,n2,z2⟩:=Av q20 (by lia) q22
  have lp:Y6 (Y1 8) Zpo [.int 0,.int 1] [Jo cl,Io o1,Io o2,Io p.D,Io (.lst (ps.map Po4.D)),Io (.lst ([x0,x1,x2,x3,x4,x5,x6].map D.int)),Io q.D,some (.ow []),none,none,none,none,none,none,none,none]=.ok (.nx [Jo cl,Io o1,Io o2,Io p.D,Io (.lst (ps.map Po4.D)),Io (.lst ([x0,x1,x2,x3,x4,x5,x6].map D.int)),Io q.D,some (.ow [nD a b,nD c d]),Jo 1,b9,b10,b11,b12,b13,none,none]):=by
   rw[<-el1,<-el2]
   exact(Yu rfl u1).trans ((Yu rfl u2).trans rfl)
  have y1:DL.tB (Zn Wm (Zn Yj 7[0]! ↑0) ↑0) [Jo cl,Io o1,Io o2,Io p.D,Io (.lst (ps.map Po4.D)),Io (.lst ([x0,x1,x2,x3,x4,x5,x6].map D.int)),Io q.D,Io (.lst [nD a b,nD c d]),Jo 1,b9,b10,b11,b12,b13,none,none]=.ok (!(a==0)):=Z7 (Zg (Zj (Q8 rfl rfl (Qd _ _)) rfl (Qd _ _)) rfl (by rw[K9 (by simp[D.dep])];rfl))
  have y2:DL.tB (Zn Wm (Zn Yj 7[1]! ↑0) ↑0) [Jo cl,Io o1,Io o2,Io p.D,Io (.lst (ps.map Po4.D)),Io (.lst ([x0,x1,x2,x3,x4,x5,x6].map D.int)),Io q.D,Io (.lst [nD a b,nD c d]),Jo 1,b9,b10,b11,b12,b13,none,none]=.ok (!(c==0)):=Z7 (Zg (Zj (Q8 rfl rfl (Qq _ _ _)) rfl (Qd _ _)) rfl (by rw[K9 (by simp[D.dep])];rfl))
  have yy:=Zky y1 y2
  have rg:Yf (Zb ↑2 Zh) [Jo cl,Io o1,Io o2,Io p.D,Io (.lst (ps.map Po4.D)),Io (.lst ([x0,x1,x2,x3,x4,x5,x6].map D.int)),Io q.D,some (.ow []),none,none,none,none,none,none,none,none]=.ok [.int 0,.int 1]:=Zkt (n:=2) (Law.a1 rfl) (by decide)
  by_cases ne:a≠0\/c≠0
  ·rw[show(!(a==0)||!(c==0))=true by rcases ne with z|z<;>simp[z]] at yy
   exact⟨⟨a,b,c,d⟩,Zir n1 n2 ne,(Zkv _ _ _ _ _ _ _).trans (Z3 (go (Zx e5) (Qt (Z6 cc (go (Zx e6) (go (Ji 7 _) (go ((Yt rg).trans lp) (Jy (Z6 yy (Z1 (X3 (Q8 rfl rfl (Qd _ _)) (Q8 rfl rfl (Qq _ _ _))))))))))))) ⟩
  ·have ha:a=0:=Classical.not_not.mp fun z=>ne (.inl z)
   have hc:c=0:=Classical.not_not.mp fun z=>ne (.inr z)
   rw[show(!(a==0)||!(c==0))=false by simp[ha,hc]] at yy
   obtain⟨s,hs,er⟩:=Oy (Jo cl) (Io o1) (Io o2) (Io p.D) (Io (.lst (ps.map Po4.D))) (Io q.D) (Io (.lst [nD a b,nD c d])) (Jo 1) b9 b10 b11 b12 b13 none none x0 x1 x2 x3 x4 x5 x6
   exact⟨s,hs,(Zkv _ _ _ _ _ _ _).trans (Z3 (go (Zx e5) (go (Z6 cc (go (Zx e6) (go (Ji 7 _) (go ((Yt rg).trans lp) (Jy (Z0 yy)))))) er)))⟩
 ·rw[Bool.eq_false_iff.mpr h] at cc
  obtain⟨s,hs,er⟩:=Oy (Jo cl) (Io o1) (Io o2) (Io p.D) (Io (.lst (ps.map Po4.D))) none none none none none none none none none none x0 x1 x2 x3 x4 x5 x6
  exact⟨s,hs,(Zkv _ _ _ _ _ _ _).trans (Z3 (go (Zx e5) (go (Z0 cc) er)))⟩
def Oz (ns:List Int)(lo hi:Option Int):∃cs:List Int,Nx (ns.map D.int) lo hi=cs.map D.int/\cs.length<=ns.length:=by
 unfold Nx
 refine⟨(ns.drop _).take _,by rw[List.map_take,List.map_drop],?_⟩
 rw[List.length_take,List.length_drop]
 lia
def Zlu {W H:Nat}(w0:1<=W)(w1:W<=8)(h0:1<=H)(h1:H<=8){B:Int}(b0:3<=B)(b1:B<=1000)(cs:List Int)(hl:cs.length<=63):∃ps:List Po4,(∀p∈ps,PtOk W H p)/\ps.length<=63/\We [.lst (cs.map D.int),.int (W:Int),.int (H:Int),.int B]=.ok (.ow (ps.map Po4.D)):=by
 obtain⟨ps,w5,w6,ok,nd,l,z,e⟩:=Ir (Io (.lst (cs.map D.int))) w0 w1 h0 h1 b0 b1 cs [] none none (fun p h=>by cases h) List.nodup_nil (by simp;lia)
 exact⟨ps,ok,by simp at l;lia,(Zbk _ _ _ _ _ _).trans (Z3 (go (Ji 4 _) (go (f:=V7 (V6 (Zd 0)) (Y1 5) Zo9) ((Yt (Di rfl)).trans e) rfl)))⟩
def Zny (k:Nat)(h:k<4):∃v:Int,3<=v/\v<=1000/\([D.int 9,D.int 9,D.int 9,D.int 1000])[k]?=some (.int v):=by
 match k,h with
 |0,_=>exact⟨9,by decide,by decide,rfl⟩
 |1,_=>exact⟨9,by decide,by decide,rfl⟩
 |2,_=>exact⟨9,by decide,by decide,rfl⟩
 |3,_=>exact⟨1000,by decide,by decide,rfl⟩
 |n+4,h=>lia
def O0 (ps:List Po4):D.dep (.lst (ps.map Po4.D))<=60:=by
 have:D.deps (ps.map Po4.D)<=5:=Ul fun d hd=>by
  obtain⟨q,_,rfl⟩:=List.mem_map.mp hd
  simp[Po4.D,nD,D.dep,D.deps]
 simp only[D.dep]
 lia
def Zht (ns:List Int)(hns:ns.length<=63):∃(W H:Nat) (ss:List Sd) (ps:List Po4) (p:Po4),W<=8/\H<=8/\ss.length<=400/\(∀q∈ps,PtOk W H q)/\ps.length<=63/\PtOk W H p /\
  Gs [.lst (ns.map D.int)]=.ok (.im (.tup [Qo W H ss,.lst (ps.map Po4.D),p.D])):=by
 have f0:=T6 ns 0 hns
 have f1:=T6 ns 1 hns
 have f8:=T6 ns 8 hns
 obtain⟨es,hes,_,en⟩:=Gu (cz ns 0) 1 (by decide)
 obtain⟨x,rfl⟩:∃x,es=[x]:=by
  match es,hes with
  |[x],_=>exact⟨x,rfl⟩
 obtain⟨w,ew,hw⟩:=Vq x (m:=5) (by decide)
 obtain⟨h,eh,hh⟩:=Vq (x/5) (m:=5) (by decide)
 obtain⟨k,ek,hk⟩:=Vq (x/25) (m:=4) (by decide)
 obtain⟨B,b0,b1,eB⟩:=Zny k hk
 obtain⟨ss,ls,es⟩:=Zls (cz ns 1) (W:=1+w) (H:=1+h) (by lia) (by lia)
 obtain⟨cs,ec,lc⟩:=Oz ns (some 2) (some (2+x/100%6))
 obtain⟨ps,okp,lp,ep⟩:=Zlu (W:=1+w) (H:=1+h) (by lia) (by lia) (by lia) (by lia) b0 b1 cs (by lia)
 obtain⟨p,okq,eq⟩:=Iq (W:=1+w) (H:=1+h) (by lia) (by lia) (by lia) (by lia) b0 b1 (cz ns 8)
 have cW:((1+w:Nat):Int)=1+(w:Int):=by lia
 have cH:((1+h:Nat):Int)=1+(h:Int):=by lia
 rw[cW,cH] at es ep eq
 have s5:sm 5=true:=Fs (by decide) (by decide)
 generalize hN:ns.map D.int=N at *
 have e1:Zn Yj (Zt Ye (Zb (Zt Xh (Zb (Zd 0) (Zb ↑0 Zh))) (Zb ↑1 Zh))) ↑0 [Io (.lst N),none,none,none,none,none,none,none]=.ok (.int x):=Q8 (Zq (aC (Zq (aC rfl (Law.a1 rfl)) f0 rfl) (Law.a1 rfl)) en rfl) rfl (Qd _ _)
 have e2:∀r:List (Option S),Zn Qi ↑1 (Zn Qn (Zd 1) ↑5) (Io (.lst N)::Jo x::r)=.ok (.int (1+(w:Int))):=fun r=>Zg rfl (Zg (x:=.int x) rfl rfl (gM (by decide))) (by rw[show x%5=(w:Int) from ew];rfl)
 have e3:∀r:List (Option S),Zn Qi ↑1 (Zn Qn (Zn Q6 (Zd 1) ↑5) ↑5) (Io (.lst N)::Jo x::r)=.ok (.int (1+(h:Int))):=fun r=>Zg rfl (Zg (Zg (x:=.int x) rfl rfl (Lc (by decide) s5)) rfl (gM (by decide))) (by rw[show x/5%5=(h:Int) from eh];rfl)
 have e5:∀r:List (Option S),Zn Yj (Jq (Zb ↑9 (Zb ↑9 (Zb ↑9 (Zb ↑1000 Zh))))) (Zn Qn (Zn Q6 (Zd 1) ↑25) ↑4) (Io (.lst N)::Jo x::r)=.ok (.int B):=fun r=>Q8 (i:=(k:Int)) (Wf rfl (Jp (by show(4:Nat)<=1000000;decide))) (Zg (Zg (x:=.int x) rfl rfl (Lc (by decide) (Fs (by decide) (by decide)))) rfl (by rw[gM (by decide),show x/25%4=(k:Int) from ek])) (Ke eB)
 have e6:∀r:List (Option S),Ma (Zd 0) (Xa ↑2) (Xa (Zn Qi ↑2 (Zn Qn (Zn Q6 (Zd 1) ↑100) ↑6))) (Io (.lst N)::Jo x::r)=.ok (.lst (cs.map D.int)):=fun r=>by
  have q:Zn Qi ↑2 (Zn Qn (Zn Q6 (Zd 1) ↑100) ↑6) (Io (.lst N)::Jo x::r)=.ok (.int (2+x/100%6)):=Zg rfl (Zg (Zg (x:=.int x) rfl rfl (Lc (by decide) (Fs (by decide) (by decide)))) rfl (gM (by decide))) rfl
  have q2:Xa (Zn Qi ↑2 (Zn Qn (Zn Q6 (Zd 1) ↑100) ↑6)) (Io (.lst N)::Jo x::r)=.ok (some (2+x/100%6)):=by unfold Xa;rw[q];rfl
  unfold Ma
  rw[q2]
  show M.ok (D.lst (Nx N (some 2) (some (2+x/100%6))))=_
  rw[ec]
 have c1:DL.tB (Zn Ys (Zn Qn (Zn Q6 (Zd 1) ↑600) ↑2) ↑0) [Io (.lst N),Jo x,Jo (1+(w:Int)),Jo (1+(h:Int)),Io (Qo (1+w:Nat) (1+h:Nat) ss),Jo B,Io (.lst (ps.map Po4.D)),Io p.D]=.ok (x/600%2==0):=Z7 (Zg (Zg (Zg (x:=.int x) rfl rfl (Lc (by decide) (Fs (by decide) (by decide)))) rfl (gM (by decide))) rfl (Qy _ _))
 have c2:DL.tB (Zn Wm (Zd 6) (Jq Zh)) [Io (.lst N),Jo x,Jo (1+(w:Int)),Jo (1+(h:Int)),Io (Qo (1+w:Nat) (1+h:Nat) ss),Jo B,Io (.lst (ps.map Po4.D)),Io p.D]=.ok (!ps.isEmpty):=by
  refine Z7 (Zg (y:=.lst []) rfl rfl ?_)
  rw[K9 (O0 ps)]
  cases ps<;>rfl
 have cc:=Zkz c1 c2
 obtain⟨p',okp',e7⟩:∃p':Po4,PtOk (1+w) (1+h) p'/\(Yy (DL.tA (DL.tB (Zn Ys (Zn Qn (Zn Q6 (Zd 1) ↑600) ↑2) ↑0)) (DL.tB (Zn Wm (Zd 6) (Jq Zh)))) (Z4 7 (Zn Yj (Zd 6) (Zn Qn (Zn Q6 (Zd 1) ↑1200) (Kv Wl (Zb (Zd 6) Zh))))) Qs) [Io (.lst N),Jo x,Jo (1+(w:Int)),Jo (1+(h:Int)),Io (Qo (1+w:Nat) (1+h:Nat) ss),Jo B,Io (.lst (ps.map Po4.D)),Io p.D]=.ok (.nx [Io (.lst N),Jo x,Jo (1+(w:Int)),Jo (1+(h:Int)),Io (Qo (1+w:Nat) (1+h:Nat) ss),Jo B,Io (.lst (ps.map Po4.D)),Io p'.D]):=by
  by_cases q:((x/600%2==0)&&!ps.isEmpty)=true
  ·rw[q] at cc
   have hn:0<ps.length:=by
    rw[Bool.and_eq_true] at q
    cases ps with
    |nil=>cases q.2
    |cons a r=>simp
   obtain⟨j,ej,hj⟩:=Vq (x/1200) (m:=ps.length) hn
   have eq:(ps.map Po4.D)[j]?=some (ps[j]).D:=by rw[List.getElem?_map,List.getElem?_eq_getElem hj];rfl
   refine⟨ps[j],okp _ (List.getElem_mem hj),Z6 cc (Zx (Q8 (i:=(j:Int)) rfl (Zg (x:=.int (x/1200)) (y:=.int (ps.length:Int)) (Zg (x:=.int x) rfl rfl (Lc (by decide) (Fs (by decide) (by decide)))) (Xv (Law.a1 rfl) (by rw[T4,List.length_map])) ?_) (Ke eq)))⟩
   rw[gM (by lia),ej]
  ·rw[Bool.eq_false_iff.mpr q] at cc
   exact⟨p,okq,Z0 cc⟩
 refine⟨1+w,1+h,ss,ps,p',by lia,by lia,ls,okp,by lia,okp',?_⟩
 exact(Zku _ _ _).trans (Z3 (go (Zx e1) (go (Zx (e2 _)) (go (Zx (e3 _)) (go (Zx (Zq (aC (Zq (aC rfl (Law.a1 rfl)) f1 rfl) (aC rfl (Law.a1 rfl))) es rfl)) (go (Zx (e5 _)) (go (Zx (Zq (aC (e6 _) (aC rfl (aC rfl (Law.a1 rfl)))) ep rfl)) (go (Zx (Zq (aC (Zq (aC rfl (Law.a1 rfl)) f8 rfl) (aC rfl (aC rfl (Law.a1 rfl)))) eq rfl)) (go e7 (Z1 (V5 rfl rfl rfl)))))))))))
noncomputable def lB:Zl->M O:=(Zy (Z4 5 (Zt Ga (Zb (Zd 4) (Zb 1[0]! (Zb 1[1]! (Zb (Zd 3) (Zb (Zd 2) Zh)))))))
   (Zy (Z4 6 (Zn Qn (Zn Q6 (Zd 4) ↑7) ↑13))
   (Zy (Z4 7 (Kv He (Zb (Zd 2) Zh)))
   (Zy (Z4 8 (Zt F_walk (Zb (Zd 1) (Zb (Zd 7) (Zb (Zd 3) (Zb (Zd 5) (Zb (Zd 6) Zh)))))))
   (Zy (Yy (DL.tO (DL.tN (DL.tB (Zt Kc (Zb (Zd 8) Zh)))) (DL.tB (Zn Wm (Zd 7) (Zd 2)))) (Qj (eC (.bl false))) Qs)
   (Yy (DL.tB (Zn Wm (Zd 8) (Zt Gc (Zb (Zd 1) (Zb (Zd 2) (Zb (Zd 3) (Zb (Zd 5) (Zb (Zd 6) Zh)))))))) (Qj (eC (.bl false))) Qs))))))
def Zfa (o0:Option S){W H:Nat}(hW:W<=8)(hH:H<=8){ss:List Sd}(hl:ss.length<=400){ps:List Po4}(hp:∀p∈ps,PtOk W H p)(hps:ps.length<=63){p:Po4}(ho:PtOk W H p)(c:Int)(v5 v6 v7 v8:Option S):∃w5 w6 w7 w8:Option S,
  lB [o0,Io (Qo W H ss),Io (.lst (ps.map Po4.D)),Io p.D,Jo c,v5,v6,v7,v8]=.ok (.nx [o0,Io (Qo W H ss),Io (.lst (ps.map Po4.D)),Io p.D,Jo c,w5,w6,w7,w8]):=by
 obtain⟨s,hs,e5⟩:=Zlt c (.int W) (.int H) hW hH ho hp (by lia)
 obtain⟨m,em,hm⟩:=Vq (c/7) (m:=13) (by decide)
 obtain⟨d,d1,d2,d3,d4⟩:=Zbr hW hH hl hp (by lia) ho hs (most:=m) (by lia)
 have e6:Zn Qn (Zn Q6 (Zd 4) ↑7) ↑13 [o0,Io (Qo W H ss),Io (.lst (ps.map Po4.D)),Io p.D,Jo c,Io s.D,v6,v7,v8]=.ok (.int (m:Int)):=Zg (Zg (x:=.int c) rfl rfl (Lc (by decide) (Fs (by decide) (by decide)))) rfl (by rw[gM (by decide),show c/7%13=(m:Int) from em])
 refine⟨Io s.D,Jo (m:Int),Io (.lst (ps.map Po4.D)),Io d,?_⟩
 exact go (Zx (Zq (aC rfl (aC (Zj rfl rfl (Qd _ _)) (aC (Zj rfl rfl (Qq _ _ _)) (aC rfl (Law.a1 rfl))))) e5 rfl)) (go (Zx e6) (go (Zx (Xv (Law.a1 rfl) rfl)) (go (Zx (Zq (aC rfl (aC rfl (aC rfl (aC rfl (Law.a1 rfl))))) d1 rfl))
  (go (Z0 (Na (Rj (Z7 (Zq (Law.a1 rfl) d3 rfl))) (Z7 (Zg rfl rfl (by rw[K9 (O0 ps),D.eq_refl];rfl))))) (Z0 (Z7 (Zg rfl (Zq (aC rfl (aC rfl (aC rfl (aC rfl (Law.a1 rfl))))) d2 rfl) (by rw[K9 d4,D.eq_refl];rfl))))))))
theorem D8 (o0:Option S){W H:Nat}(hW:W<=8)(hH:H<=8){ss:List Sd}(hl:ss.length<=400){ps:List Po4}(hp:∀p∈ps,PtOk W H p)(hps:ps.length<=63){p:Po4}(ho:PtOk W H p):∀(cs:List Int) (v4 v5 v6 v7 v8:Option S),∃w4 w5 w6 w7 w8:Option S,
  Y6 (Y1 4) lB (cs.map D.int) [o0,Io (Qo W H ss),Io (.lst (ps.map Po4.D)),Io p.D,v4,v5,v6,v7,v8]=.ok (.nx [o0,Io (Qo W H ss),Io (.lst (ps.map Po4.D)),Io p.D,w4,w5,w6,w7,w8])
 |[],v4,v5,v6,v7,v8=>⟨v4,v5,v6,v7,v8,rfl⟩
 |c::cs,v4,v5,v6,v7,v8=>by
  obtain⟨a5,a6,a7,a8,e⟩:=Zfa o0 hW hH hl hp hps ho c v5 v6 v7 v8
  obtain⟨w4,w5,w6,w7,w8,e2⟩:=D8 o0 hW hH hl hp hps ho cs (Jo c) a5 a6 a7 a8
  exact⟨w4,w5,w6,w7,w8,(Yu rfl e).trans e2⟩
def law_true (ns:List Int)(hns:ns.length<=63):Mv [.lst (ns.map D.int)]=.ok (.im (.bl true)):=by
 obtain⟨W,H,ss,ps,p,hW,hH,hl,hp,hps,ho,ed⟩:=Zht ns hns
 have f0:=T6 ns 0 hns
 have f9:=T6 ns 9 hns
 obtain⟨cs,ec,lc⟩:=Oz ns (some 10) (some 21)
 generalize hN:ns.map D.int=N at *
 have cc:DL.tB (Zn Ys (Zn Qn (Zn Q6 (Zt Xh (Zb (Zd 0) (Zb ↑0 Zh))) ↑7) ↑2) ↑1) [Io (.lst N),Io (Qo W H ss),Io (.lst (ps.map Po4.D)),Io p.D,none,none,none,none,none]=.ok (cz ns 0/7%2==1):=Z7 (Zg (Zg (Zg (x:=.int (cz ns 0)) (Zq (aC rfl (Law.a1 rfl)) f0 rfl) rfl (Lc (by decide) (Fs (by decide) (by decide)))) rfl (gM (by decide))) rfl (Qy _ _))
 obtain⟨ss',hl',e1⟩:∃ss':List Sd,ss'.length<=400/\(Yy (DL.tB (Zn Ys (Zn Qn (Zn Q6 (Zt Xh (Zb (Zd 0) (Zb ↑0 Zh))) ↑7) ↑2) ↑1)) (Z4 1 (Qf (Zb 1[0]! (Zb 1[1]! (Zb (C5 1[2]!) Zh))))) Qs) [Io (.lst N),Io (Qo W H ss),Io (.lst (ps.map Po4.D)),Io p.D,none,none,none,none,none]=.ok (.nx [Io (.lst N),Io (Qo W H ss'),Io (.lst (ps.map Po4.D)),Io p.D,none,none,none,none,none]):=by
  by_cases q:(cz ns 0/7%2==1)=true
  ·rw[q] at cc
   refine⟨ss.reverse,by rw[List.length_reverse];exact hl,Z6 cc (Zx (d:=Qo W H ss.reverse) (V5 (Zj rfl rfl (Qd _ _)) (Zj rfl rfl (Qq _ _ _)) ?_))⟩
   have e:Zn Yj (Zd 1) ↑2 [Io (.lst N),Io (Qo W H ss),Io (.lst (ps.map Po4.D)),Io p.D,none,none,none,none,none]=.ok (.tup (ss.map Sd.D)):=Zj rfl rfl (Ls _ _ _ _)
   unfold C5
   rw[e,List.map_reverse]
   show(if few _=true then _ else _)=_
   exact if_pos (Jp (by rw[List.length_map];lia))
  ·rw[Bool.eq_false_iff.mpr q] at cc
   exact⟨ss,hl,Z0 cc⟩
 have sl:Ma (Zd 0) (Xa ↑10) (Xa ↑21) [Io (.lst N),Io (Qo W H ss'),Io (.lst (ps.map Po4.D)),Io p.D,none,none,none,none,none]=.ok (.lst (cs.map D.int)):=by
  show M.ok (D.lst (Nx N (some 10) (some 21)))=_
  rw[ec]
 have ei:V6 (Zn Qi (Jq (Zb (Zt Xh (Zb (Zd 0) (Zb ↑9 Zh))) Zh)) (Ma (Zd 0) (Xa ↑10) (Xa ↑21))) [Io (.lst N),Io (Qo W H ss'),Io (.lst (ps.map Po4.D)),Io p.D,none,none,none,none,none]=.ok ((cz ns 9::cs).map D.int):=
  Di (Zg (Wf (Law.a1 (Zq (aC rfl (Law.a1 rfl)) f9 rfl)) rfl) sl (Zd6 (xs:=[.int (cz ns 9)]) (by rw[List.length_map,List.length_singleton];lia)))
 obtain⟨w4,w5,w6,w7,w8,e2⟩:=D8 (Io (.lst N)) hW hH hl' hp hps ho (cz ns 9::cs) none none none none none
 exact(Zku _ _ _).trans (Z3 (go (Zlh (Zq (Law.a1 rfl) ed rfl)) (go e1 (go (f:=V7 _ (Y1 4) lB) ((Yt ei).trans e2) (Z1 rfl)))))
end Law
namespace PySem.W.Fast
def tw18270254726247964876:=0
def tw9177809859081821448:=0
def tw13957368713830087147:=0
def tw14140144182984418381:=0
def tw11949670870229226047:=0
def tw3212314565772522386:=0
def tw9952620412094228500:=0
def tw6442041925751651773:=0
def tw6434523004708968591:=0
def tw17923680401925147558:=0
def tw9376506936333830409:=0
def tw17364464444135366179:=0
def tw8644551100131330258:=0
def tw17223597250106253350:=0
end PySem.W.Fast
open PySem PySem.W PyProof.Rows
-- LAST
set_option maxRecDepth 100000 in
set_option maxHeartbeats 0 in
theorem PySem.Challenge.cw_selfsight_k17_walks_gone_along_holds : PySem.Challenge.rw_selfsight_k17_walks_gone_along.Holds := by
  w_on; o_law; k_head; (case hw => w_witness2)
  k_fill
  refine Law.walk (l := PySem.Challenge.rw_selfsight_k17_walks_gone_along) rfl rfl Law.law_true (fun w h Y => PySem.W.kIn_of Y) ?F
  case F =>
    intro w mg fa h KX G hmg
    refine' Law.all_mk KX G hmg ?t0 ?t1 ?t2 ?t3 ?t4 ?t5 ?t6 ?t7 ?t8 ?t9 ?t10 ?t11 ?t12 ?t13 ?t14 ?t15 ?t16 ?t17 ?t18 ?t19 ?t20 ?t21 ?t22 ?t23 ?t24 ?t25 ?t26 ?t27 ?t28 ?t29 ?t30 ?t31 ?t32 ?t33 ?t34 ?t35 ?t36 ?t37 ?t38 ?t39 ?t40 ?t41 ?t42 ?t43 ?t44 ?t45 ?t46 ?t47 ?t48 ?t49 ?t50 ?t51 ?t52 ?t53 ?t54 ?t55 ?t56 ?t57 ?t58 ?t59 ?t60 ?t61 ?t62 ?t63 ?t64 ?t65 ?t66 ?t67 ?t68 ?t69 ?t70 ?t71 ?t72 ?t73 ?t74 ?t75 ?t76 ?t77 ?t78 ?t79 ?t80 ?t81 ?t82 ?t83 ?t84 ?t85 ?t86 ?t87 ?t88 ?t89 ?t90 ?t91 ?t92 ?t93
    case t0 | t1 | t2 | t3 | t4 | t5 | t6 | t7 | t8 | t9 | t10 | t11 | t12 | t13 | t14 | t15 | t16 | t17 | t18 | t19 | t20 | t21 | t22 | t23 | t24 | t25 | t26 | t27 | t28 | t29 | t30 | t31 | t32 | t33 | t34 | t35 | t36 | t37 | t38 | t39 | t40 | t41 | t42 | t43 | t44 | t45 | t46 => refine' DL.dm_mk KX G ?a ?l ?c ?k; (case a | l | c | k => k_is)
    case t47 | t48 => k_is
    case t49 | t50 | t51 | t52 | t53 | t54 | t55 | t56 | t57 => refine' DL.mm_mk ?a ?n ?l ?c ?k; (case a | n | l | c | k => k_is)
    case t58 | t59 | t60 | t61 | t62 | t63 | t64 | t65 | t66 | t67 | t68 | t69 | t70 | t71 | t72 | t73 | t74 | t75 | t76 | t77 | t78 | t79 | t80 | t81 | t82 | t83 | t84 | t85 | t86 | t87 | t88 | t89 | t90 | t91 | t92 | t93 => k_is

