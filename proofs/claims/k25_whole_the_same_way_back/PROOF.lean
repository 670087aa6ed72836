import PyProof.Rows.All
import Wide.All
import OpenK.AllK
import Wide.FinOn
import Lean
import PyProof.EqAt
import PyProof.EqKinds
import PyProof.TupleCall
import PyProof.NeKinds
import PyProof.NsDelKeeps
import PyProof.ExcArgs
import PyProof.ExcAttrAll.ValueError
import PyProof.Rows.SortRunsK
import PyProof.CompUse
import PyProof.AutoSeq1
import PyProof.Rows.Range3
import PyProof.ListRange
import PyProof.TupleOfSeq
import PyProof.CollectIter
import KE.KRevIter
import PyProof.DictFindH
import PyProof.Walk
import PyProof.DictWalks
import PySem.Challenge.RW_selfsight_k25_whole_the_same_way_back
set_option maxHeartbeats 4000000
set_option linter.all false
set_option maxRecDepth 100000
set_option Elab.async false
local macro_rules
 |`(tactic|trivial)=>`(tactic|exact Or.inr (Or.inr rfl))
local macro_rules
 |`(tactic|trivial)=>`(tactic|exact Or.inr (Or.inl rfl))
local macro_rules
 |`(tactic|trivial)=>`(tactic|exact Or.inr rfl)
local macro_rules
 |`(tactic|trivial)=>`(tactic|exact Or.inl rfl)
namespace L2
open PySem PySem.Spec PyProof.Rows
abbrev Yh:=Sum Int Str
def Lh:Yh->Value->Bool
 |.inl k,v=>Value.isInt k v
 |.inr x,v=>Value.isStrOf x v
def Zn5 (w:World):Yh->Int
 |.inl k=>hashInt k
 |.inr x=>hashStr w x
def Yi:∀{k:Yh}{v:Value},Lh k v=true->(∃i t,k=Sum.inl i/\v=Value.int i t)\/(∃x t,k=Sum.inr x/\v=Value.str x t)
 |.inl i,v,h=>by
  obtain⟨t,e⟩:=Value.isInt_shape (k:=i) (v:=v) h
  exact .inl ⟨i,t,rfl,e⟩
 |.inr x,v,h=>by
  obtain⟨t,e⟩:=Value.isStrOf_shape (x:=x) (v:=v) h
  exact .inr ⟨x,t,rfl,e⟩
def Om (i:Int)(t:Tok):Lh (.inl i) (.int i t)=true:=by simp[Lh,Value.isInt]
def On (x:Str)(t:Tok):Lh (.inr x) (.str x t)=true:=by simp[Lh,Value.isStrOf]
def Ziq (a b:Int):decide ((Sum.inl a:Yh)=Sum.inl b)=(a==b):=by
 by_cases e:a=b
 ·subst e;simp
 ·have h:¬(Sum.inl a:Yh)=Sum.inl b:=fun q=>e (Sum.inl.inj q)
  rw[decide_eq_false h]
  exact(beq_eq_false_iff_ne.mpr e).symm
def Zir (a b:Str):decide ((Sum.inr a:Yh)=Sum.inr b)=decide (a=b):=by
 by_cases e:a=b
 ·subst e;simp
 ·have h:¬(Sum.inr a:Yh)=Sum.inr b:=fun q=>e (Sum.inr.inj q)
  rw[decide_eq_false h,decide_eq_false e]
def Zis (a:Int)(b:Str):decide ((Sum.inl a:Yh)=Sum.inr b)=false:=decide_eq_false (fun q=>nomatch q)
def Zit (a:Str)(b:Int):decide ((Sum.inr a:Yh)=Sum.inl b)=false:=decide_eq_false (fun q=>nomatch q)
def Yx (prog:Program)(w:World):PySem.KeyKind prog w Yh where
 is:=Lh
 hash:=Zn5 w
 inj:=fun v a b ha hb=>by
  rcases Yi ha with⟨i,t,rfl,rfl⟩|⟨x,t,rfl,rfl⟩
  ·rcases Yi hb with⟨j,u,rfl,e⟩|⟨y,u,rfl,e⟩
   ·injection e with e1 _;rw[e1]
   ·exact nomatch e
  ·rcases Yi hb with⟨j,u,rfl,e⟩|⟨y,u,rfl,e⟩
   ·exact nomatch e
   ·injection e with e1 _;rw[e1]
 byValue:=fun k v h=>by
  rcases Yi h with⟨i,t,rfl,rfl⟩|⟨x,t,rfl,rfl⟩<;>rfl
 pyHash:=fun hv h=>by
  rcases Yi hv with⟨i,t,rfl,rfl⟩|⟨x,t,rfl,rfl⟩
  ·exact wpAny_pyHash_int h
  ·exact wpAny_pyHash_str h
 eqBool:=fun hu hv h=>by
  rcases Yi hu with⟨i,t,rfl,rfl⟩|⟨x,t,rfl,rfl⟩
  ·rcases Yi hv with⟨j,u,rfl,rfl⟩|⟨y,u,rfl,rfl⟩
   ·rw[Ziq] at h;exact wpAny_eqBool_int h
   ·rw[Zis] at h;exact SeqAt.EqAt.int_str i t y u _ _ _ _ h
  ·rcases Yi hv with⟨j,u,rfl,rfl⟩|⟨y,u,rfl,rfl⟩
   ·rw[Zit] at h;exact SeqAt.EqAt.str_int x t j u _ _ _ _ h
   ·rw[Zir] at h;exact wpAny_eqBool_str h
 «strs»:=fun k x t v h=>by
  rcases Yi h with⟨i,u,rfl,e⟩|⟨y,u,rfl,e⟩
  ·exact nomatch e
  ·injection e with e1 _
   subst e1
   cases v<;>rfl
def An (prog:Program)(w:World)(i:Int)(t:Tok):(Yx prog w).is (.inl i) (.int i t)=true:=Om i t
def Ao (prog:Program)(w:World)(x:Str)(t:Tok):(Yx prog w).is (.inr x) (.str x t)=true:=On x t
inductive V where
 |non|bl (b:Bool)|int (i:Int)|str (x:Str)|byt (b:Array UInt8)|flt (b:UInt64)|ref (a:Addr)|ty (n:String)
 deriving DecidableEq
def RelV:V->Value->Prop
 |.non,u=>u=Value.none
 |.bl b,u=>u=Value.bool b
 |.int i,u=>∃t,u=Value.int i t
 |.str x,u=>∃t,u=Value.str x t
 |.byt b,u=>∃t,u=Value.bytes b t
 |.flt b,u=>∃t,u=Value.float b t
 |.ref a,u=>u=Value.ref a
 |.ty n,u=>u=Value.type n
abbrev Vals:List V->List Value->Prop:=Paired RelV
theorem Vals.length {xs:List V}{us:List Value}(r:Vals xs us):xs.length=us.length:=Paired.length r
theorem Vals.get:∀{xs:List V}{us:List Value}{i:Nat}{x:V},Vals xs us->xs[i]?=some x->∃u,us[i]?=some u/\RelV x u
 |_,_,_,_,.nil,e=>by simp at e
 |_,_,0,_,.cons r _,e=>by simp at e;subst e;exact⟨_,rfl,r⟩
 |_,_,i+1,x,.cons _ t,e=>by
  obtain⟨u,h1,h2⟩:=Vals.get (i:=i) (x:=x) t (by simpa using e)
  exact⟨u,by simpa using h1,h2⟩
theorem Vals.set {x:V}{u:Value}(r:RelV x u):∀{xs:List V}{us:List Value} (i:Nat),Vals xs us->Vals (xs.set i x) (us.set i u)
 |_,_,_,.nil=>.nil
 |_,_,0,.cons _ t=>.cons r t
 |_,_,i+1,.cons q t=>.cons q (Vals.set r i t)
theorem Vals.append:∀{xs ys:List V}{us ws:List Value},Vals xs us->Vals ys ws->Vals (xs++ys) (us++ws)
 |_,_,_,_,.nil,s=>s
 |_,_,_,_,.cons r t,s=>.cons r (Vals.append t s)
theorem Vals.take:∀{xs:List V}{us:List Value} (n:Nat),Vals xs us->Vals (xs.take n) (us.take n)
 |_,_,0,_=>.nil
 |_,_,_+1,.nil=>.nil
 |_,_,n+1,.cons r t=>.cons r (Vals.take n t)
theorem Vals.drop:∀{xs:List V}{us:List Value} (n:Nat),Vals xs us->Vals (xs.drop n) (us.drop n)
 |_,_,0,r=>r
 |_,_,_+1,.nil=>.nil
 |_,_,n+1,.cons _ t=>Vals.drop n t
def Vals.none_of:∀{xs:List V}{us:List Value}{i:Nat},Vals xs us->xs[i]?=none->us[i]?=none:=fun {xs us i} r e=>by
 have h1:=r.length
 have h2:xs.length<=i:=List.getElem?_eq_none_iff.mp e
 exact List.getElem?_eq_none_iff.mpr (by omega)
def RelO:Option V->Option Value->Prop
 |some v,some u=>RelV v u
 |none,none=>True
 |_,_=>False
def KV {κ:Type}:List (κ×V)->List (κ×Value)->Prop:=Paired fun(p:κ×V) (q:κ×Value)=>p.1=q.1/\RelV p.2 q.2
def kV:Yh->V
 |.inl i=>.int i
 |.inr x=>.str x
inductive HO where
 |lst (xs:List V)
 |tup (xs:List V)
 |dK (kvs:List (Yh×V))|dT (kvs:List (List Yh×V))
 |set (S:Int->Bool) (n:Nat)
 |ins (C dx:Addr) (fs:List (Str×V))
 |own (x:Addr)
 |xd (fs:List (Str×V))
 |met (f x:Addr)
 |rng (lo hi:Int)
 |frz (o:Obj) (u:HO)
 |tbl (l c:Value) (q:Str)
 |ext (φ:Heap->Prop)
abbrev Hp:=Addr->Option HO
def upd (H:Hp)(a:Addr)(o:HO):Hp:=fun b=>if b=a then some o else H b
def Zo {H:Hp}{a:Addr}{o:HO}:upd H a o a=some o:=by unfold upd;rw[if_pos rfl]
def Zj {H:Hp}{a b:Addr}{o:HO}(h:b≠a):upd H a o b=H b:=by unfold upd;rw[if_neg h]
def Zhr {H:Hp}{a b:Addr}{o u:HO}(h:H a=some o)(h':H b=some u)(d:o≠u):a≠b:=by
 intro e;subst e;rw[h] at h';exact d (Option.some.inj h')
def Zu {H:Hp}{a b:Addr}{o:HO}(h:H a=some o)(h':H b=none):a≠b:=by
 intro e;subst e;rw[h] at h';cases h'
section
variable (P:Program) (w:World)
def ObjOk (H:Hp)(h:Heap)(a:Addr):HO->Prop
 |.lst xs=>xs.length<=sizeLine/\∃(its:List Value) (n:Nat),Vals xs its/\h.get? a=some {cls:=.type "list", data:=.seq its.toArray n}
 |.tup xs=>xs.length<=sizeLine/\∃its:List Value,Vals xs its/\IsTup h a its.toArray
 |.dK kvs=>kvs.length<=sizeLine/\(a==sysModules)=false/\∃vs,KV kvs vs/\h.DictOf (Yx P w) a vs
 |.dT kvs=>kvs.length<=sizeLine/\(a==sysModules)=false/\∃xs:List (List Yh×Addr×Value),
   Paired (fun(p:List Yh×V) (q:List Yh×Addr×Value)=>p.1=q.1/\H q.2.1=some (.tup (p.1.map kV))/\RelV p.2 q.2.2) kvs xs /\
   ∃o es ep,h.get? a=some o/\o.ExactDict/\o.data=.dict es ep/\es.toList=xs.map (entryOfKey (tupleKind (Yx P w)))/\(xs.map (·.1)).Nodup
 |.set S n=>h.SetOf (intKind P w) a S n
 |.ins C dx fs=>H dx=some (.own a)/\fs.length<=1000/\dx≠a/\h.get? a=some (PySem.W.instObj C dx) /\
   ∃mA,h.Ns1 dx mA/\(∀f,RelO (fs.lookup f) (mA f))/\PySem.Within mA (fs.map (·.1))
 |.own _=>∃o,h.get? a=some o
 |.xd fs=>∃mA,h.Ns1 a mA/\∀f,RelO (fs.lookup f) (mA f)
 |.rng lo hi=>∃t u v,h.get? a=some {cls:=.type "range", data:=.fields #[.int lo t,.int hi u,.int 1 v]}
 |.frz o u=>h.get? a=some o/\ObjOk H h a u
 |.tbl l c q=>∃ps:Array Value,h.get? a=some {cls:=.none,data:=.fields ps}/\(ps=#[]\/∃(b:Addr) (ob:Obj) (vs:Array Value) (t:Tok),ps=#[l,c,.ref b]/\H b=some (.frz ob (.own 0))/\ob.data=.fields vs/\vs[1]?=some (.str q t))
 |.met f x=>h.get? a=some (PySem.W.methodObj (.ref f) (.ref x))
 |.ext φ=>φ h/\(∃o,h.get? a=some o)/\∀h1 h2:Heap,φ h1->(∀o,h1.get? a=some o->h2.get? a=some o)->φ h2
def HOk (H:Hp)(h:Heap):Prop:=∀a o,H a=some o->ObjOk P w H h a o
end
section
variable {P:Program}{w:World}{H H':Hp}{h h':Heap}{a:Addr}{o:HO}
theorem ObjOk.lt (x:ObjOk P w H h a o):a<h.objs.size:=by
 cases o with
 |lst xs=>obtain⟨_,_,_,_,e⟩:=x;exact Heap.lt_size e
 |tup xs=>obtain⟨_,_,_,p⟩:=x;exact p.lt
 |dK kvs=>obtain⟨_,_,_,_,o,_,_,e,_⟩:=x;exact Heap.lt_size e
 |dT kvs=>obtain⟨_,_,_,_,o,_,_,e,_⟩:=x;exact Heap.lt_size e
 |set S n=>obtain⟨o,_,_,_,e,_⟩:=x;exact Heap.lt_size e
 |ins C dx fs=>obtain⟨_,_,_,e,_⟩:=x;exact Heap.lt_size e
 |own y=>obtain⟨_,e⟩:=x;exact Heap.lt_size e
 |xd fs=>obtain⟨_,⟨_,_,_,e,_⟩,_⟩:=x;exact Heap.lt_size e
 |rng lo hi=>obtain⟨_,_,_,e⟩:=x;exact Heap.lt_size e
 |frz ob u=>obtain⟨e,_⟩:=x;exact Heap.lt_size e
 |tbl l c q=>obtain⟨_,e,_⟩:=x;exact Heap.lt_size e
 |met f y=>exact Heap.lt_size (show h.get? a=some _ from x)
 |ext φ=>obtain⟨_,⟨_,e⟩,_⟩:=x;exact Heap.lt_size e
theorem Paired.mapP {α β:Type}{F G:α->β->Prop}:∀{l₁:List α}{l₂:List β},Paired F l₁ l₂->(∀a b,F a b->G a b)->Paired G l₁ l₂
 |_,_,.nil,_=>.nil
 |_,_,.cons r t,f=>.cons (f _ _ r) (Paired.mapP t f)
def ObjOk.stay (x:ObjOk P w H h a o)(k:∀b u,(b=a\/H b=some (.own a))->h.get? b=some u->h'.get? b=some u)(ho:∀b,H b=some (.own a)->H' b=some (.own a))(ht:∀b xs,H b=some (.tup xs)->H' b=some (.tup xs))(hz:∀b o u,H b=some (.frz o u)->H' b=some (.frz o u)):ObjOk P w H' h' a o:=by
 induction o with
 |lst xs=>obtain⟨z,its,n,r,e⟩:=x;exact⟨z,its,n,r,k _ _ (.inl rfl) e⟩
 |tup xs=>obtain⟨z,its,r,ob,e,c⟩:=x;exact⟨z,its,r,ob,k _ _ (.inl rfl) e,c⟩
 |dK kvs=>obtain⟨z,y,vs,r,ob,es,ep,e,c⟩:=x;exact⟨z,y,vs,r,ob,es,ep,k _ _ (.inl rfl) e,c⟩
 |dT kvs=>
  obtain⟨z,y,xs,r,ob,es,ep,e,c⟩:=x
  exact⟨z,y,xs,Paired.mapP r fun p q z=>⟨z.1,ht _ _ z.2.1,z.2.2⟩,ob,es,ep,k _ _ (.inl rfl) e,c⟩
 |set S n=>obtain⟨ob,es,ep,t,e,c⟩:=x;exact⟨ob,es,ep,t,k _ _ (.inl rfl) e,c⟩
 |ins C dx fs=>
  obtain⟨d,z,ne,e,mA,⟨od,es,ep,e2,c⟩,r⟩:=x
  exact⟨ho _ d,z,ne,k _ _ (.inl rfl) e,mA,⟨od,es,ep,k _ _ (.inr d) e2,c⟩,r⟩
 |own y=>obtain⟨ob,e⟩:=x;exact⟨ob,k _ _ (.inl rfl) e⟩
 |xd fs=>obtain⟨mA,⟨od,es,ep,e,c⟩,r⟩:=x;exact⟨mA,⟨od,es,ep,k _ _ (.inl rfl) e,c⟩,r⟩
 |rng lo hi=>obtain⟨t,u,v,e⟩:=x;exact⟨t,u,v,k _ _ (.inl rfl) e⟩
 |frz ob u ih=>obtain⟨e,q⟩:=x;exact⟨k _ _ (.inl rfl) e,ih q⟩
 |tbl l c q=>
  obtain⟨ps,e,r⟩:=x
  refine⟨ps,k a _ (.inl rfl) e,?_⟩
  rcases r with r|⟨b,ob,vs,t,r1,r2,r3⟩
  ·exact .inl r
  ·exact .inr ⟨b,ob,vs,t,r1,hz _ _ _ r2,r3⟩
 |met f y=>
  have e:h.get? a=some (PySem.W.methodObj (.ref f) (.ref y)):=x
  show h'.get? a=some (PySem.W.methodObj (.ref f) (.ref y))
  exact k a _ (.inl rfl) e
 |ext φ=>obtain⟨p,⟨o,e⟩,st⟩:=x;exact⟨st _ _ p fun o q=>k _ _ (.inl rfl) q,⟨o,k _ _ (.inl rfl) e⟩,st⟩
theorem HOk.lt (x:HOk P w H h)(e:H a=some o):a<h.objs.size:=(x a o e).lt
def HOk.fresh (x:HOk P w H h)(e:h.objs.size<=a):H a=none:=by
 cases q:H a with
 |none=>rfl
 |some u=>exact absurd (Nat.lt_of_lt_of_le (x.lt q) e) (Nat.lt_irrefl _)
def HOk.kept (x:HOk P w H h)(k:∀b u,h.get? b=some u->h'.get? b=some u):HOk P w H h':=fun a o e=>
 (x a o e).stay (fun b u _ q=>k b u q) (fun _ q=>q) (fun _ _ q=>q) fun _ _ _ q=>q
def HOk.laid (x:HOk P w H h)(k:∀b u,h.get? b=some u->h'.get? b=some u)(hp:h.objs.size<=a)(new:ObjOk P w (upd H a o) h' a o):HOk P w (upd H a o) h':=fun b u e=>by
 have hn:=x.fresh hp
 by_cases hb:b=a
 ·subst hb;rw[Zo] at e;cases e;exact new
 ·rw[Zj hb] at e
  exact(x b u e).stay (fun c v _ q=>k c v q) (fun c q=>by rw[Zj (Zu q hn)];exact q) (fun c xs q=>by rw[Zj (Zu q hn)];exact q) fun c _ _ q=>by rw[Zj (Zu q hn)];exact q
end
def Rd (H:Hp)(a:Addr)(u:HO):Prop:=H a=some u\/∃o,H a=some (.frz o u)
def Rd.ok {P:Program}{w:World}{H:Hp}{h:Heap}{a:Addr}{u:HO}(r:Rd H a u)(x:HOk P w H h):ObjOk P w H h a u:=by
 rcases r with r|⟨o,r⟩
 ·exact x a u r
 ·obtain⟨_,q⟩:=x a _ r
  exact q
def Zlp:Option HO->Prop
 |some (.lst _)=>True
 |some (.dK _)=>True
 |some (.dT _)=>True
 |some (.set _ _)=>True
 |some (.ins _ _ _)=>True
 |some (.ext _)=>True
 |_=>False
section
variable {P:Program}{w:World}{H:Hp}{h h':Heap}{x e:Addr}{o':HO}
def HOk.write (ok:HOk P w H h)(mu:Zlp (H x))(he:e=x\/H e=some (.own x))(k:∀b u,b≠e->h.get? b=some u->h'.get? b=some u)(heo:∃u,h'.get? e=some u)(new:ObjOk P w (upd H x o') h' x o'):HOk P w (upd H x o') h':=fun b u q=>by
 have nown:∀c y,H c=some (.own y)->c≠x:=fun c y r z=>by subst z;rw[r] at mu;exact mu
 have ntup:∀c xs,H c=some (.tup xs)->c≠x:=fun c xs r z=>by subst z;rw[r] at mu;exact mu
 have nfrz:∀c o u,H c=some (.frz o u)->c≠x:=fun c o u r z=>by subst z;rw[r] at mu;exact mu
 by_cases hb:b=x
 ·subst hb;rw[Zo] at q;cases q;exact new
 ·rw[Zj hb] at q
  by_cases hbe:b=e
  ·have q':H b=some (.own x):=by
    rcases he with z|z
    ·exact absurd (hbe.trans z) hb
    ·rw[hbe];exact z
   rw[q] at q';cases q'
   obtain⟨v,hv⟩:=heo
   exact⟨v,by rw[hbe];exact hv⟩
  ·refine(ok b u q).stay (fun c v hc r=>k c v ?_ r) (fun c r=>by rw[Zj (nown c b r)];exact r) (fun c xs r=>by rw[Zj (ntup c xs r)];exact r) fun c o u r=>by rw[Zj (nfrz c o u r)];exact r
   rcases hc with rfl|hc
   ·exact hbe
   ·rintro rfl
    rcases he with z|z
    ·exact nown c b hc z
    ·rw[hc] at z;cases z;exact hb rfl
end
structure Un (fs ex:List Addr) (H H':Hp) (h h':Heap):Prop where
 keep:∀b o,h.get? b=some o->H b=none->b ∉ fs->b ∉ ex->h'.get? b=some o
 slot:∀b o,h.get? b=some o->H b=none->b∈fs->b ∉ ex->∃sl,h'.get? b=some {o with slots:=sl}
 free:∀b o,h.get? b=some o->H b=none->b ∉ ex->H' b=none
 there:∀b o,h.get? b=some o->b ∉ ex->∃o',h'.get? b=some o'
 tups:∀b xs,H b=some (.tup xs)->H' b=some (.tup xs)
 frzs:∀b o u,H b=some (.frz o u)->H' b=some (.frz o u)
 tbls:∀b l c q,H b=some (.tbl l c q)->H' b=some (.tbl l c q)
section
variable {fs fs' ex ex':List Addr}{H H1 H2:Hp}{h h1 h2 h':Heap}{a x e:Addr}{o:HO}
def Un.any (u:Un fs ex H H1 h h1){b:Addr}{ob:Obj}(q:h.get? b=some ob)(n:H b=none)(hx:b ∉ ex):∃sl,h1.get? b=some {ob with slots:=sl}:=by
 by_cases hb:b∈fs
 ·exact u.slot b ob q n hb hx
 ·exact⟨ob.slots,u.keep b ob q n hb hx⟩
def Un.kept (k:∀b u,h.get? b=some u->h'.get? b=some u):Un fs ex H H h h':=
 ⟨fun b ob q _ _ _=>k b ob q,fun b ob q _ _ _=>⟨ob.slots,k b ob q⟩,fun _ _ _ n _=>n,fun b ob q _=>⟨ob,k b ob q⟩,fun _ _ q=>q,fun _ _ _ q=>q,fun _ _ _ _ q=>q⟩
def Un.refl:Un fs ex H H h h:=Un.kept fun _ _ q=>q
def Un.laid (k:∀b u,h.get? b=some u->h'.get? b=some u)(hp:h.objs.size<=a)(hn:H a=none):Un fs ex H (upd H a o) h h' where
 keep:=fun b u q _ _ _=>k b u q
 slot:=fun b u q _ _ _=>⟨u.slots,k b u q⟩
 free:=fun b u q n _=>by rw[Zj (Nat.ne_of_lt (Nat.lt_of_lt_of_le (Heap.lt_size q) hp))];exact n
 there:=fun b u q _=>⟨u,k b u q⟩
 tups:=fun b xs q=>by rw[Zj (Zu q hn)];exact q
 frzs:=fun b u xs q=>by rw[Zj (Zu q hn)];exact q
 tbls:=fun b l c r q=>by rw[Zj (Zu q hn)];exact q
def Un.write (mu:Zlp (H x))(he:e=x\/H e=some (.own x))(k:∀b u,b≠e->h.get? b=some u->h'.get? b=some u)(heo:∃u,h'.get? e=some u):Un fs ex H (upd H x o) h h':=by
 have hx:∀b,H b=none->b≠x:=fun b n z=>by subst z;rw[n] at mu;exact mu
 have hb:∀b,H b=none->b≠e:=fun b n z=>by
  subst z
  rcases he with r|r
  ·exact hx b n r
  ·rw[n] at r;cases r
 have hm:∀b u,H b=some u->¬Zlp (some u)->b≠x:=fun b u q nm z=>by subst z;rw[q] at mu;exact nm mu
 refine⟨fun b u q n _ _=>k b u (hb b n) q,fun b u q n _ _=>⟨u.slots,k b u (hb b n) q⟩,fun b u q n _=>by rw[Zj (hx b n)];exact n,fun b u q _=>?_,
  fun b xs q=>by rw[Zj (hm b _ q fun z=>z)];exact q,fun b u xs q=>by rw[Zj (hm b _ q fun z=>z)];exact q,fun b l c r q=>by rw[Zj (hm b _ q fun z=>z)];exact q⟩
 by_cases hbe:b=e
 ·subst hbe;exact heo
 ·exact⟨u,k b u hbe q⟩
end
def trk (h:Heap)(H:Hp):List Addr:=(List.range h.objs.size).filter fun a=>(H a).isSome
def Mw (h:Heap)(H:Hp):Heap:=PySem.W.hideAll h (trk h H)
def Oo (h:Heap)(H:Hp):(Mw h H).objs.size=h.objs.size:=PySem.W.hideAll_size _ _
def Za7 {h:Heap}{H:Hp}{b:Addr}{o:Obj}(e:h.get? b=some o)(n:H b=none):(Mw h H).get? b=some o:=
 PySem.W.hideAll_get _ e fun hm=>by
  have q:(H b).isSome=true:=(List.mem_filter.mp hm).2
  rw[n] at q;simp at q
def Zev {h:Heap}{H:Hp}{b:Addr}{o:Obj}(e:(Mw h H).get? b=some o):h.get? b=some o/\H b=none:=by
 have e':h.get? b=some o:=PySem.W.of_hideAll (trk h H) e
 refine⟨e',?_⟩
 cases q:H b with
 |none=>rfl
 |some x=>
  have hm:b∈trk h H:=List.mem_filter.mpr ⟨List.mem_range.mpr (Heap.lt_size e'),by simp[q]⟩
  have z:(Mw h H).get? b=none:=PySem.W.hideAll_none (trk h H) hm
  rw[z] at e;cases e
structure Mod (K:PySem.W.Frag) (mg:Str->Option Value) (base:Heap):Prop where
 kin:K.In base
 glob:base.Ns mainGlobals mg
 blt:∃mb,base.Ns builtinsNs mb/\∀x:Str,x ≠ "__name__"->mb x=bootBuiltins x
 nolimit:base.NoLimit
structure Cx where
 prog:Program
 w:World
 K:PySem.W.Frag
 mg:Str->Option Value
 base:Heap
 A:Around
 N:List Str
 s₀:Shared
 H₀:Hp
 env:Env
 outer:List Env
 stack:List Env
 ex:List Addr
 fn:Str->Bool
 calm:Bool
 pn:List (Addr×Obj)
 xe:Value->Shared->Prop
def Fu (l:List Env):List Addr:=l.filterMap (·.frame)
abbrev Cx.fs (X:Cx):List Addr:=Fu X.outer
def Pz (sc:Scope)(x:Str):Prop:=sc.names.lookup x=some .local\/sc.names.lookup x=some .cell\/sc.names.lookup x=some .free
def Fv (sc:Scope)(x:Str):Prop:=sc.names.lookup x=some .local\/sc.names.lookup x=some .cell
def Zn6 (env:Env)(h:Heap)(m:Str->Option Value)(x:Str)(u:Value):Prop:=
 (env.kindOf x=some .local/\m x=some u)\/((env.kindOf x=some .cell\/env.kindOf x=some .free)/\∃c,env.cells.lookup x=some c/\h.IsCell c (some u))
structure Cx.Ok (X:Cx):Prop where
 mod:Mod X.K X.mg X.base
 kind:X.env.scope.kind=.function
 glob:X.env.globals=mainGlobals
 blt:X.env.builtins=builtinsNs
 above:X.s₀.heap.objs.size<=X.env.locals
 inj:∀x y c,X.env.cells.lookup x=some c->X.env.cells.lookup y=some c->x=y
 has:∀x,(X.env.kindOf x=some .cell\/X.env.kindOf x=some .free)->∃c,X.env.cells.lookup x=some c
 cab:∀x c,X.fn x=true->X.env.cells.lookup x=some c->X.s₀.heap.objs.size<=c
 hd:X.calm=true->X.A.handled=none
 frames:X.A.frames=some X.stack
 stk:X.stack=X.outer\/(X.stack=X.env::X.outer/\X.env.frame=some X.env.locals)
 exf:∀b∈X.ex,b≠X.env.locals/\∀x c,X.env.cells.lookup x=some c->c≠b
 bs:∀b o,X.base.get? b=some o->X.s₀.heap.get? b=some o/\X.H₀ b=none
 bsz:X.base.objs.size<=X.s₀.heap.objs.size
 noex:∀b o,X.base.get? b=some o->b ∉ X.ex
 exfs:∀b∈X.ex,b ∉ X.fs
 funs:X.s₀.heap.FunFrames X.base X.outer
 frf:∀b∈X.fs,X.H₀ b=none
structure Inv (X:Cx) (pins:List (Addr×Obj)) (σ:List (Option V)) (H:Hp) (s:Shared):Prop where
 ok:X.Ok
 os:s.os=X.s₀.os
 bare:AllBare s.gens
 base:Un X.fs X.ex X.H₀ H X.s₀.heap s.heap
 loc:∃m,s.heap.Ns X.env.locals m/\∀(i:Nat) (x:Str) (v:V),X.N[i]?=some x->σ[i]?=some (some v)->Pz X.env.scope x->∃u,RelV v u/\Zn6 X.env s.heap m x u
 cell:∀x c,X.env.cells.lookup x=some c->∃v,s.heap.IsCell c v
 free:H X.env.locals=none
 freeC:∀x c,X.env.cells.lookup x=some c->H c=none
 pin:∀p∈X.pn++pins,s.heap.get? p.1=some p.2/\H p.1=none/\p.1≠X.env.locals/\p.1 ∉ X.fs/\∀v,p.2.data≠.cell v
 hok:HOk X.prog X.w H s.heap
 len:σ.length=X.N.length
section
variable {X:Cx}{pins:List (Addr×Obj)}{σ:List (Option V)}{H H':Hp}{s:Shared}{h':Heap}
def Cx.Ok.nofr (ok:X.Ok){b:Addr}{o:Obj}(e:X.base.get? b=some o):b ∉ X.fs:=fun hb=>by
 have:=(ok.funs.mem hb).1
 rw[e] at this;cases this
theorem Inv.bs (I:Inv X pins σ H s):∀b o,X.base.get? b=some o->s.heap.get? b=some o/\H b=none:=fun b o e=>
 ⟨I.base.keep b o (I.ok.bs b o e).1 (I.ok.bs b o e).2 (I.ok.nofr e) (I.ok.noex b o e),I.base.free b o (I.ok.bs b o e).1 (I.ok.bs b o e).2 (I.ok.noex b o e)⟩
def Inv.bk (I:Inv X pins σ H s):∀b o,X.base.get? b=some o->s.heap.get? b=some o:=fun b o e=>(I.bs b o e).1
theorem Inv.mod (I:Inv X pins σ H s):Mod X.K X.mg X.base:=I.ok.mod
def Inv.kIn (I:Inv X pins σ H s):X.K.In s.heap:=I.ok.mod.kin.keeps I.bk
theorem Inv.lt (I:Inv X pins σ H s):X.env.locals<s.heap.objs.size:=let ⟨_,hn,_⟩:=I.loc;hn.lt
def Inv.sz (I:Inv X pins σ H s):X.s₀.heap.objs.size<=s.heap.objs.size:=Nat.le_trans I.ok.above (Nat.le_of_lt I.lt)
def Inv.nofs (I:Inv X pins σ H s){a:Addr}(h:s.heap.objs.size<=a):a ∉ X.fs:=fun hb=>by
 obtain⟨_,o,ho,_⟩:=I.ok.funs.mem hb
 exact absurd (Nat.lt_of_lt_of_le (Heap.lt_size ho) (Nat.le_trans I.sz h)) (Nat.lt_irrefl _)
def Inv.cne (I:Inv X pins σ H s):∀x c,X.env.cells.lookup x=some c->c≠X.env.locals:=fun x c e z=>by
 obtain⟨v,o,ho,hd⟩:=I.cell x c e
 obtain⟨m,⟨o',es,ep,ho',hd',_⟩,_⟩:=I.loc
 rw[z,ho'] at ho;cases ho;rw[hd'] at hd;cases hd
theorem Inv.funs (I:Inv X pins σ H s):s.heap.FunFrames X.base X.outer:=by
 have all:∀(l:List Env),(∀b∈Fu l,b∈X.fs)->X.s₀.heap.FunFrames X.base l->s.heap.FunFrames X.base l:=by
  intro l
  induction l with
  |nil=>intro _ _;trivial
  |cons env r ih=>
   intro hs hl
   obtain⟨hk,⟨L,o,hf,hn,ho,hd⟩,hr⟩:=hl
   have hL:L∈X.fs:=hs L (by unfold Fu;rw[List.filterMap_cons,hf];exact List.mem_cons_self)
   obtain⟨sl,e⟩:=I.base.slot L o ho (I.ok.frf L hL) hL fun z=>I.ok.exfs L z hL
   exact⟨hk,⟨L,_,hf,hn,e,hd⟩,ih (fun b hb=>hs b (by unfold Fu;rw[List.filterMap_cons,hf];exact List.mem_cons_of_mem _ hb)) hr⟩
 exact all X.outer (fun _ hb=>hb) I.ok.funs
theorem Inv.stack (I:Inv X pins σ H s):s.heap.FunFrames X.base X.stack:=by
 rcases I.ok.stk with e|⟨e,hf⟩
 ·rw[e];exact I.funs
 ·rw[e]
  obtain⟨m,hn,_⟩:=I.loc
  refine .cons (by rw[I.ok.kind];decide) hf hn ?_ I.funs
  exact Heap.get?_none_of_le (Nat.le_trans I.ok.bsz I.ok.above)
def Inv.stkSub (I:Inv X pins σ H s):∀b∈Fu X.stack,b∈X.env.locals::X.fs:=fun b hb=>by
 rcases I.ok.stk with e|⟨e,hf⟩
 ·rw[e] at hb;exact List.mem_cons_of_mem _ hb
 ·rw[e] at hb
  unfold Fu at hb
  rw[List.filterMap_cons,hf] at hb
  exact hb
def Inv.stkFree (I:Inv X pins σ H s):∀b∈Fu X.stack,H b=none:=fun b hb=>by
 rcases List.mem_cons.mp (I.stkSub b hb) with e|hb
 ·rw[e];exact I.free
 ·obtain⟨_,o,ho,_⟩:=I.ok.funs.mem hb
  exact I.base.free b o ho (I.ok.frf b hb) fun z=>I.ok.exfs b z hb
def Inv.step {g':Array GenState}{t':Nat}{d':Drawn}{ch:List Addr}(I:Inv X pins σ H s)(hch:∀b∈ch,(b∈X.ex\/X.s₀.heap.objs.size<=b)/\b≠X.env.locals/\(∀x c,X.env.cells.lookup x=some c->c≠b)/\∀p∈X.pn++pins,p.1≠b)(keep:∀b o,b≠X.env.locals->b ∉ X.fs->b ∉ ch->s.heap.get? b=some o->H b=none->h'.get? b=some o)(slot:∀b o,b≠X.env.locals->b∈X.fs->b ∉ ch->s.heap.get? b=some o->H b=none->∃sl,h'.get? b=some {o with slots:=sl})(free:∀b o,b ∉ ch->s.heap.get? b=some o->H b=none->H' b=none)(there:∀b o,b ∉ ch->s.heap.get? b=some o->∃o',h'.get? b=some o')(tups:∀b xs,H b=some (.tup xs)->H' b=some (.tup xs))(frzs:∀b o u,H b=some (.frz o u)->H' b=some (.frz o u))(tbls:∀b l c q,H b=some (.tbl l c q)->H' b=some (.tbl l c q))(ns:∀m,s.heap.Ns X.env.locals m->h'.Ns X.env.locals m)(hok:HOk X.prog X.w H' h')(hg:AllBare g'):
  Inv X pins σ H' {s with heap:=h',gens:=g',drawn:=d',toks:=t'}:=by
 have neL:∀b o,X.s₀.heap.get? b=some o->b≠X.env.locals:=fun b o e=>Nat.ne_of_lt (Nat.lt_of_lt_of_le (Heap.lt_size e) I.ok.above)
 have neC:∀b o,X.s₀.heap.get? b=some o->b ∉ X.ex->b ∉ ch:=fun b o e hx hb=>by
  rcases(hch b hb).1 with z|z
  ·exact hx z
  ·exact absurd (Nat.lt_of_lt_of_le (Heap.lt_size e) z) (Nat.lt_irrefl _)
 have cellK:∀x c,X.env.cells.lookup x=some c->∀v,s.heap.IsCell c v->h'.IsCell c v:=fun x c e v ⟨o,ho,hd⟩=>by
  have nch:c ∉ ch:=fun z=>(hch c z).2.2.1 x c e rfl
  by_cases hc:c∈X.fs
  ·obtain⟨sl,q⟩:=slot c o (I.cne x c e) hc nch ho (I.freeC x c e)
   exact⟨_,q,hd⟩
  ·exact⟨o,keep c o (I.cne x c e) hc nch ho (I.freeC x c e),hd⟩
 refine⟨I.ok,I.os,hg,⟨fun b o e n hb hx=>?_,fun b o e n hb hx=>?_,fun b o e n hx=>?_,fun b o e hx=>?_,fun b xs e=>tups b xs (I.base.tups b xs e),fun b o xs e=>frzs b o xs (I.base.frzs b o xs e),fun b l c q e=>tbls b l c q (I.base.tbls b l c q e)⟩,?_,fun x c e=>?_,?_,fun x c e=>?_,fun p hp=>?_,hok,I.len⟩
 ·exact keep b o (neL b o e) hb (neC b o e hx) (I.base.keep b o e n hb hx) (I.base.free b o e n hx)
 ·obtain⟨sl,e1⟩:=I.base.slot b o e n hb hx
  obtain⟨sl',e2⟩:=slot b _ (neL b o e) hb (neC b o e hx) e1 (I.base.free b o e n hx)
  exact⟨sl',e2⟩
 ·obtain⟨o',e1⟩:=I.base.there b o e hx
  exact free b o' (neC b o e hx) e1 (I.base.free b o e n hx)
 ·obtain⟨o',e1⟩:=I.base.there b o e hx
  exact there b o' (neC b o e hx) e1
 ·obtain⟨m,hn,hl⟩:=I.loc
  refine⟨m,ns m hn,fun i x v e1 e2 e3=>?_⟩
  obtain⟨u,r,l⟩:=hl i x v e1 e2 e3
  refine⟨u,r,?_⟩
  rcases l with l|⟨k,c,e,z⟩
  ·exact .inl l
  ·exact .inr ⟨k,c,e,cellK x c e _ z⟩
 ·obtain⟨v,z⟩:=I.cell x c e
  exact⟨v,cellK x c e v z⟩
 ·obtain⟨m,⟨o,_,_,ho,_⟩,_⟩:=I.loc
  exact free _ o (fun z=>(hch _ z).2.1 rfl) ho I.free
 ·obtain⟨v,o,ho,hd⟩:=I.cell x c e
  exact free c o (fun z=>(hch c z).2.2.1 x c e rfl) ho (I.freeC x c e)
 ·obtain⟨e,n,ne,nf,d⟩:=I.pin p hp
  have nch:p.1 ∉ ch:=fun z=>(hch p.1 z).2.2.2 p hp rfl
  exact⟨keep p.1 p.2 ne nf nch e n,free p.1 p.2 nch e n,ne,nf,d⟩
def Inv.un {t':Nat}(I:Inv X pins σ H s)(u:Un X.fs [] H H' s.heap h')(hok:HOk X.prog X.w H' h'):Inv X pins σ H' {s with heap:=h',toks:=t'}:=by
 obtain⟨m,⟨o,es,ep,ho,r⟩,_⟩:=id I.loc
 obtain⟨sl,hL⟩:=u.any ho I.free (by simp)
 exact I.step (g':=s.gens) (d':=s.drawn) (ch:=[]) (fun _ z=>nomatch z) (fun b o _ hb _ e n=>u.keep b o e n hb (by simp)) (fun b o _ hb _ e n=>u.slot b o e n hb (by simp)) (fun b o _ e n=>u.free b o e n (by simp)) (fun b o _ e=>u.there b o e (by simp)) u.tups u.frzs u.tbls (fun m' hm=>by
  obtain⟨o',es',ep',ho',r'⟩:=hm
  rw[ho] at ho';cases ho'
  exact⟨_,es',ep',hL,r'⟩) hok I.bare
def Inv.call {g':Array GenState}{t':Nat}{d':Drawn}{ch:List Addr}(I:Inv X pins σ H s)(u:Un (Fu X.stack) ch H H' s.heap h')(hok:HOk X.prog X.w H' h')(hg:AllBare g')(hch:∀b∈ch,(b∈X.ex\/X.s₀.heap.objs.size<=b)/\b≠X.env.locals/\(∀x c,X.env.cells.lookup x=some c->c≠b)/\∀p∈X.pn++pins,p.1≠b):
  Inv X pins σ H' {s with heap:=h',gens:=g',drawn:=d',toks:=t'}:=by
 obtain⟨m,⟨o,es,ep,ho,r⟩,_⟩:=id I.loc
 obtain⟨sl,hL⟩:=u.any ho I.free fun z=>(hch _ z).2.1 rfl
 exact I.step (ch:=ch) hch (fun b o hL hb hc e n=>u.keep b o e n (fun z=>(List.mem_cons.mp (I.stkSub b z)).elim hL hb) hc) (fun b o _ _ hc e n=>u.any e n hc) (fun b o hc e n=>u.free b o e n hc) (fun b o hc e=>u.there b o e hc) u.tups u.frzs u.tbls (fun m' hm=>by
  obtain⟨o',es',ep',ho',r'⟩:=hm
  rw[ho] at ho';cases ho'
  exact⟨_,es',ep',hL,r'⟩) hok hg
def Inv.turned {t':Nat}{it:Addr}(I:Inv X pins σ H s)(k:∀b o,b≠it->s.heap.get? b=some o->h'.get? b=some o)(hn:H it=none)(hL:it≠X.env.locals)(h1:it∈X.ex\/X.s₀.heap.objs.size<=it)(h2:∀x c,X.env.cells.lookup x=some c->c≠it)(h3:∀p∈X.pn++pins,p.1≠it):Inv X pins σ H {s with heap:=h',toks:=t'}:=by
 have nit:∀b u,H b=some u->b≠it:=fun b u e z=>by rw[z,hn] at e;cases e
 refine I.step (g':=s.gens) (d':=s.drawn) (ch:=[it]) (fun b hb=>?_) (fun b o _ _ hc e _=>k b o (fun z=>hc (by simp[z])) e) (fun b o _ _ hc e _=>⟨o.slots,k b o (fun z=>hc (by simp[z])) e⟩) (fun _ _ _ _ n=>n)
  (fun b o hc e=>⟨o,k b o (fun z=>hc (by simp[z])) e⟩) (fun _ _ e=>e) (fun _ _ _ e=>e) (fun _ _ _ _ e=>e) (fun m hm=>?_) (fun b u e=>?_) I.bare
 ·have e:b=it:=by simpa using hb
  subst e
  exact⟨h1,hL,h2,h3⟩
 ·obtain⟨o,es,ep,ho,r⟩:=hm
  exact⟨o,es,ep,k _ o (Ne.symm hL) ho,r⟩
 ·refine(I.hok b u e).stay (fun c v hc q=>k c v ?_ q) (fun _ q=>q) (fun _ _ q=>q) fun _ _ _ q=>q
  rcases hc with z|z
  ·rw[z];exact nit b u e
  ·exact nit c _ z
def Inv.tok (I:Inv X pins σ H s)(t:Nat):Inv X pins σ H {s with toks:=t}:=I.un (h':=s.heap) (t':=t) Un.refl I.hok
theorem Inv.kept {t':Nat}(I:Inv X pins σ H s)(k:∀b u,s.heap.get? b=some u->h'.get? b=some u):Inv X pins σ H {s with heap:=h',toks:=t'}:=I.un (Un.kept k) (I.hok.kept k)
theorem Inv.laid {a:Addr}{o:HO}{t':Nat}(I:Inv X pins σ H s)(k:∀b u,s.heap.get? b=some u->h'.get? b=some u)(hp:s.heap.objs.size<=a)(new:ObjOk X.prog X.w (upd H a o) h' a o):
  Inv X pins σ (upd H a o) {s with heap:=h',toks:=t'}:=I.un (Un.laid k hp (I.hok.fresh hp)) (I.hok.laid k hp new)
theorem Inv.write {x e:Addr}{o:HO}{t':Nat}(I:Inv X pins σ H s)(mu:Zlp (H x))(he:e=x\/H e=some (.own x))(k:∀b u,b≠e->s.heap.get? b=some u->h'.get? b=some u)(heo:∃u,h'.get? e=some u)(new:ObjOk X.prog X.w (upd H x o) h' x o):Inv X pins σ (upd H x o) {s with heap:=h',toks:=t'}:=I.un (Un.write mu he k heo) (I.hok.write mu he k heo new)
def Inv.pins_of {pins':List (Addr×Obj)}(I:Inv X pins σ H s)(h:∀p∈pins',s.heap.get? p.1=some p.2/\H p.1=none/\p.1≠X.env.locals/\p.1 ∉ X.fs/\∀v,p.2.data≠.cell v):Inv X pins' σ H s:=
 ⟨I.ok,I.os,I.bare,I.base,I.loc,I.cell,I.free,I.freeC,fun p hp=>(List.mem_append.mp hp).elim (fun z=>I.pin p (List.mem_append_left _ z)) (h p),I.hok,I.len⟩
def Ap {N:List Str}(hN:N.Nodup){i j:Nat}{x:Str}(a:N[i]?=some x)(b:N[j]?=some x):i=j:=by
 obtain⟨h1,e1⟩:=List.getElem?_eq_some_iff.mp a
 obtain⟨h2,e2⟩:=List.getElem?_eq_some_iff.mp b
 exact(List.getElem_inj hN).mp (e1.trans e2.symm)
def Li {M:Model}{A:Around}{E:Value->Shared->Prop}{i:Nat}{x:Str}{v:V}{u:Value}{Q:Unit->Shared->Prop}(I:Inv X pins σ H s)(hN:X.N.Nodup)(hi:X.N[i]?=some x)(hx:Fv X.env.scope x)(r:RelV v u)(h:∀s',Inv X pins (σ.set i (some v)) H s'->(∃a,Heap.SameBut a s.heap s'.heap/\(a=X.env.locals\/X.env.cells.lookup x=some a))->Q () s')(hf:X.fn x=true\/X.env.scope.names.lookup x=some .local:=by first|exact .inl rfl|exact .inr rfl|assumption):wpAny M A (storeName X.env x u) Q E s:=by
 obtain⟨m,hn,hl⟩:=id I.loc
 have hcls:(X.env.scope.kind==.class||(X.env.scope.kind==.module&&X.env.locals != X.env.globals))=false:=by rw[I.ok.kind];rfl
 have hiσ:i<σ.length:=by rw[I.len];exact(List.getElem?_eq_some_iff.mp hi).1
 have cne:=I.cne
 have tracked:∀{a:Addr}{h':Heap},(∃o,s.heap.get? a=some o/\H a=none)->Heap.SameBut a s.heap h'->HOk X.prog X.w H h':=fun {a h'} ha hs b ob e=>by
  obtain⟨_,_,hfree⟩:=ha
  refine(I.hok b ob e).stay (fun c w' hc q=>(hs.2 c ?_).trans q) (fun _ q=>q) (fun _ _ q=>q) fun _ _ _ q=>q
  rintro rfl
  rcases hc with rfl|hc
  ·rw[hfree] at e;cases e
  ·rw[hfree] at hc;cases hc
 rcases hx with hk|hk
 ·refine wpAny_storeName_local hk hn (fun h' hn' hs=>?_) hcls
  obtain⟨oL,_,_,hoL,_⟩:=id hn
  refine h _ ⟨I.ok,I.os,I.bare,⟨fun b o e n hb hx=>?_,fun b o e n hb hx=>?_,I.base.free,fun b o e hx=>?_,I.base.tups,I.base.frzs,I.base.tbls⟩,⟨_,hn',fun j y v' e1 e2 e3=>?_⟩,fun y c e=>?_,I.free,I.freeC,fun p hp=>?_,tracked ⟨oL,hoL,I.free⟩ hs,by simpa using I.len⟩ ⟨_,hs,.inl rfl⟩
  ·exact(hs.2 b (Nat.ne_of_lt (Nat.lt_of_lt_of_le (Heap.lt_size e) I.ok.above))).trans (I.base.keep b o e n hb hx)
  ·obtain⟨sl,e1⟩:=I.base.slot b o e n hb hx
   exact⟨sl,(hs.2 b (Nat.ne_of_lt (Nat.lt_of_lt_of_le (Heap.lt_size e) I.ok.above))).trans e1⟩
  ·obtain⟨o',e1⟩:=I.base.there b o e hx
   exact⟨o',(hs.2 b (Nat.ne_of_lt (Nat.lt_of_lt_of_le (Heap.lt_size e) I.ok.above))).trans e1⟩
  ·by_cases hj:j=i
   ·subst hj
    rw[hi] at e1;cases e1
    rw[List.getElem?_set_self hiσ] at e2
    cases e2
    exact⟨u,r,.inl ⟨hk,by simp⟩⟩
   ·rw[List.getElem?_set_ne (Ne.symm hj)] at e2
    obtain⟨u',r',q⟩:=hl j y v' e1 e2 e3
    refine⟨u',r',?_⟩
    rcases q with⟨k,e⟩|⟨k,c,e,z⟩
    ·refine .inl ⟨k,?_⟩
     have:y≠x:=fun e=>hj (Ap hN e1 (e▸hi))
     simp[this,e]
    ·exact .inr ⟨k,c,e,z.sameBut hs (cne y c e)⟩
  ·obtain⟨w',z⟩:=I.cell y c e
   exact⟨w',z.sameBut hs (cne y c e)⟩
  ·obtain⟨e,n,ne,nf,d⟩:=I.pin p hp
   exact⟨(hs.2 p.1 ne).trans e,n,ne,nf,d⟩
 ·have hfn:X.fn x=true:=by
   rcases hf with z|z
   ·exact z
   ·rw[z] at hk;cases hk
  obtain⟨c,hc⟩:=I.ok.has x (.inl hk)
  obtain⟨w',z⟩:=I.cell x c hc
  refine wpAny_storeName_cell I.ok.kind hk hc z (fun h' hc' hs=>?_)
  obtain⟨oc,hoc,hocd⟩:=id z
  refine h {s with heap:=h'} ⟨I.ok,I.os,I.bare,⟨fun b o e n hb hx=>?_,fun b o e n hb hx=>?_,I.base.free,fun b o e hx=>?_,I.base.tups,I.base.frzs,I.base.tbls⟩,⟨m,hn.sameBut hs (Ne.symm (cne x c hc)),fun j y v' e1 e2 e3=>?_⟩,fun y c' e=>?_,I.free,I.freeC,fun p hp=>?_,tracked ⟨oc,hoc,I.freeC x c hc⟩ hs,by simpa using I.len⟩ ⟨c,hs,.inr hc⟩
  ·exact(hs.2 b (Nat.ne_of_lt (Nat.lt_of_lt_of_le (Heap.lt_size e) (I.ok.cab x c hfn hc)))).trans (I.base.keep b o e n hb hx)
  ·obtain⟨sl,e1⟩:=I.base.slot b o e n hb hx
   exact⟨sl,(hs.2 b (Nat.ne_of_lt (Nat.lt_of_lt_of_le (Heap.lt_size e) (I.ok.cab x c hfn hc)))).trans e1⟩
  ·obtain⟨o',e1⟩:=I.base.there b o e hx
   exact⟨o',(hs.2 b (Nat.ne_of_lt (Nat.lt_of_lt_of_le (Heap.lt_size e) (I.ok.cab x c hfn hc)))).trans e1⟩
  ·by_cases hj:j=i
   ·subst hj
    rw[hi] at e1;cases e1
    rw[List.getElem?_set_self hiσ] at e2
    cases e2
    exact⟨u,r,.inr ⟨.inl hk,c,hc,hc'⟩⟩
   ·rw[List.getElem?_set_ne (Ne.symm hj)] at e2
    obtain⟨u',r',q⟩:=hl j y v' e1 e2 e3
    refine⟨u',r',?_⟩
    rcases q with q|⟨k,c',e,z'⟩
    ·exact .inl q
    ·refine .inr ⟨k,c',e,z'.sameBut hs ?_⟩
     rintro rfl
     exact hj (Ap hN e1 (I.ok.inj _ _ _ e hc▸hi))
  ·by_cases hcc:c'=c
   ·subst hcc;exact⟨_,hc'⟩
   ·obtain⟨w2,z2⟩:=I.cell y c' e
    exact⟨w2,z2.sameBut hs hcc⟩
  ·obtain⟨e,n,ne,nf,d⟩:=I.pin p hp
   refine⟨(hs.2 p.1 ?_).trans e,n,ne,nf,d⟩
   intro q
   rw[q,hoc] at e
   have q':oc=p.2:=Option.some.inj e
   exact d w' (by rw[<-q'];exact hocd)
def Gc {M:Model}{A:Around}{E:Value->Shared->Prop}{i:Nat}{x:Str}{v:V}{u:Value}{Q:Unit->Shared->Prop}(I:Inv X pins σ H s)(hN:X.N.Nodup)(hi:X.N[i]?=some x)(hx:Fv X.env.scope x)(r:RelV v u)(h:∀s',Inv X pins (σ.set i (some v)) H s'->Q () s')(hf:X.fn x=true\/X.env.scope.names.lookup x=some .local:=by first|exact .inl rfl|exact .inr rfl|assumption):wpAny M A (storeName X.env x u) Q E s:=
 Li I hN hi hx r (fun s' I' _=>h s' I') hf
def Inv.call' {s':Shared}{ch:List Addr}(I:Inv X pins σ H s)(ho:s'.os=s.os)(u:Un (Fu X.stack) ch H H' s.heap s'.heap)(hok:HOk X.prog X.w H' s'.heap)(hg:AllBare s'.gens)(hch:∀b∈ch,(b∈X.ex\/X.s₀.heap.objs.size<=b)/\b≠X.env.locals/\(∀x c,X.env.cells.lookup x=some c->c≠b)/\∀p∈X.pn++pins,p.1≠b):Inv X pins σ H' s':=by
 obtain⟨h',g',d',t',o'⟩:=s'
 have e:o'=s.os:=ho
 subst e
 exact I.call (g':=g') (t':=t') (d':=d') u hok hg hch
end
abbrev XK:=Value->Option Addr->Hp->Prop
abbrev St:=List (Option V)
abbrev VK:=V->Hp->Prop
abbrev TE:=St->Hp->VK->Prop
abbrev TT:=St->Hp->(Bool->Hp->Prop)->Prop
abbrev TA:=St->Hp->(List V->Hp->Prop)->Prop
structure Ends where
 nx:St->Hp->Prop
 rt:VK
 bk:St->Hp->Prop:=fun _ _=>False
 ct:St->Hp->Prop:=fun _ _=>False
abbrev TS:=Ends->St->Hp->Prop
def EP (X:Cx)(pins:List (Addr×Obj))(σ:St)(Q:VK)(u:Value)(s':Shared):Prop:=∃v H',Inv X pins σ H' s'/\RelV v u/\Q v H'
def TP (X:Cx)(pins:List (Addr×Obj))(σ:St)(Q:Bool->Hp->Prop)(b:Bool)(s':Shared):Prop:=∃H',Inv X pins σ H' s'/\Q b H'
def AP (X:Cx)(pins:List (Addr×Obj))(σ:St)(Q:List V->Hp->Prop)(us:List Value)(s':Shared):Prop:=∃vs H',Inv X pins σ H' s'/\Vals vs us/\Q vs H'
def SP (X:Cx)(pins:List (Addr×Obj))(D:Ends)(f:Flow)(s':Shared):Prop:=
 match f with
 |.next=>∃σ' H',Inv X pins σ' H' s'/\D.nx σ' H'
 |.brk=>∃σ' H',Inv X pins σ' H' s'/\D.bk σ' H'
 |.cont=>∃σ' H',Inv X pins σ' H' s'/\D.ct σ' H'
 |.ret u=>∃v σ' H',Inv X pins σ' H' s'/\RelV v u/\D.rt v H'
def PE (X:Cx)(e:Expr)(t:TE):Prop:=
 ∀(pins:List (Addr×Obj)) (s:Shared) (σ:St) (H:Hp) (Q:VK),Inv X pins σ H s->t σ H Q->wpAny (model X.prog X.w) X.A (eval e X.env) (EP X pins σ Q) X.xe s
def PT (X:Cx)(e:Expr)(t:TT):Prop:=
 ∀(pins:List (Addr×Obj)) (s:Shared) (σ:St) (H:Hp) (Q:Bool->Hp->Prop),Inv X pins σ H s->t σ H Q->wpAny (model X.prog X.w) X.A (isTrue e X.env (eval e X.env)) (TP X pins σ Q) X.xe s
def PW (X:Cx)(e:Expr)(t:TT):Prop:=
 ∀(whole:Sem Value) (pins:List (Addr×Obj)) (s:Shared) (σ:St) (H:Hp) (Q:Bool->Hp->Prop),Inv X pins σ H s->t σ H Q->wpAny (model X.prog X.w) X.A (isTrue e X.env whole) (TP X pins σ Q) X.xe s
def PW.pt {X:Cx}{e:Expr}{t:TT}(h:PW X e t):PT X e t:=h _
def PA (X:Cx)(es:List Expr)(t:TA):Prop:=
 ∀(pos:Pos) (pins:List (Addr×Obj)) (s:Shared) (σ:St) (H:Hp) (Q:List V->Hp->Prop),Inv X pins σ H s->t σ H Q->wpAny (model X.prog X.w) X.A (spliced (backTo pos (starEach es X.env))) (AP X pins σ Q) X.xe s
def PS (X:Cx)(st:Stmt)(t:TS):Prop:=
 ∀(pins:List (Addr×Obj)) (s:Shared) (σ:St) (H:Hp) (D:Ends),Inv X pins σ H s->t D σ H->wpAny (model X.prog X.w) X.A (exec st X.env) (SP X pins D) X.xe s
def PSs (X:Cx)(st:List Stmt)(t:TS):Prop:=
 ∀(pins:List (Addr×Obj)) (s:Shared) (σ:St) (H:Hp) (D:Ends),Inv X pins σ H s->t D σ H->wpAny (model X.prog X.w) X.A (execs st X.env) (SP X pins D) X.xe s
def Yb {α:Type}{t:Sem α}{Q Q':α->Shared->Prop}{M:Model}{A:Around}{E:Value->Shared->Prop}{s:Shared}(h:wpAny M A t Q E s)(hQ:∀a s,Q a s->Q' a s):wpAny M A t Q' E s:=wpAny_mono h hQ fun _ _ x=>x
section
variable {X:Cx}
def Za8 (i:Nat):TE:=fun σ H Q=>∃v,σ[i]?=some (some v)/\Q v H
def tC (v:V):TE:=fun _ H Q=>Q v H
def Z9 {i:Nat}{x:Str}{pos:Pos}(hN:X.N[i]?=some x)(hv:Pz X.env.scope x) (hd:(x==("__debug__":Str))=false:=by decide) (hcd:(x==("__classdict__":Str))=false:=by decide):PE X (.Name x pos) (Za8 i):=by
 intro pins s σ H Q I h
 obtain⟨v,e,h⟩:=h
 obtain⟨m,hn,hl⟩:=I.loc
 obtain⟨u,r,l⟩:=hl i x v hN e hv
 have fin:EP X pins σ Q u s:=⟨v,H,I,r,h⟩
 rcases l with⟨hk,hm⟩|⟨hk,c,hc,hcell⟩
 ·exact wpAny_Name (wpAny_loadName_local I.ok.kind hk hn hm fin) hd
 ·rcases hk with hk|hk
  ·exact wpAny_Name (wpAny_loadName_cell I.ok.kind hk hc hcell fin) hd
  ·exact wpAny_Name (wpAny_loadName_free I.ok.kind hk hc hcell fin hcd) hd
def Za9 {i j pos}:PE X (.Constant (.int i) j pos) (tC (.int i)):=fun _ _ _ H _ I h=>wpAny_Constant_int ⟨.int i,H,I.tok _,⟨_,rfl⟩,h⟩
def Zlq {b j pos}:PE X (.Constant (.bool b) j pos) (tC (.bl b)):=fun _ _ _ H _ I h=>Constant_bool ⟨.bl b,H,I,rfl,h⟩
def Ziu {j pos}:PE X (.Constant .none j pos) (tC .non):=fun _ _ _ H _ I h=>Constant_none ⟨.non,H,I,rfl,h⟩
def Ziv {x j pos}:PE X (.Constant (.str x) j pos) (tC (.str x)):=fun _ _ _ H _ I h=>Calls.Constant_str ⟨.str x,H,I.tok _,⟨_,rfl⟩,h⟩
def Gl (X:Cx)(x:Str):Prop:=X.env.kindOf x=some .globalImplicit
def Mx {E:Value->Shared->Prop}{pins:List (Addr×Obj)}{s:Shared}{σ:St}{H:Hp}{x:Str}{u:Value}{pos:Pos}{Q:Value->Shared->Prop}(I:Inv X pins σ H s)(hg:Gl X x)(hm:X.mg x=some u)(h:Q u s)
  (hd:(x==("__debug__":Str))=false:=by decide):wpAny (model X.prog X.w) X.A (eval (.Name x pos) X.env) Q E s:=
 Calls.Name_function_global I.ok.kind hg (Calls.loadGlobal_global (by rw[I.ok.glob];exact I.mod.glob.keeps I.bk) hm h) hd
def Wr {E:Value->Shared->Prop}{pins:List (Addr×Obj)}{s:Shared}{σ:St}{H:Hp}{x:Str}{u:Value}{pos:Pos}{Q:Value->Shared->Prop}(I:Inv X pins σ H s)(hg:Gl X x)(hm:X.mg x=none)(hv:bootBuiltins x=some u)(h:Q u s)
  (hn:x ≠ "__name__":=by decide) (hd:(x==("__debug__":Str))=false:=by decide):wpAny (model X.prog X.w) X.A (eval (.Name x pos) X.env) Q E s:=by
 obtain⟨mb,h1,h2⟩:=I.mod.blt
 exact Calls.Name_function_global I.ok.kind hg (Calls.loadGlobal_builtin (by rw[I.ok.glob];exact I.mod.glob.keeps I.bk) hm (by rw[I.ok.blt];exact h1.keeps I.bk) ((h2 x hn).trans hv) h) hd
def Zew {x:Str}{v:V}{u:Value}{pos:Pos}(hg:Gl X x)(hm:X.mg x=some u)(r:RelV v u) (hd:(x==("__debug__":Str))=false:=by decide):PE X (.Name x pos) (tC v):=
 fun _ _ _ H _ I h=>Mx I hg hm ⟨v,H,I,r,h⟩ hd
def Zex {x:Str}{v:V}{u:Value}{pos:Pos}(hg:Gl X x)(hm:X.mg x=none)(hv:bootBuiltins x=some u)(r:RelV v u) (hn:x ≠ "__name__":=by decide) (hd:(x==("__debug__":Str))=false:=by decide):PE X (.Name x pos) (tC v):=
 fun _ _ _ H _ I h=>Wr I hg hm hv ⟨v,H,I,r,h⟩ hn hd
variable {a b:Expr}{ta tb:TE}{pos:Pos}
def PC (X:Cx)(op:CmpOp)(a b:Expr)(t:TE):Prop:=
 ∀(pins:List (Addr×Obj)) (s:Shared) (σ:St) (H:Hp) (Q:VK),Inv X pins σ H s->t σ H Q ->
  wpAny (model X.prog X.w) X.A (eval a X.env) (fun v s₁=>wpAny (model X.prog X.w) X.A (eval b X.env) (fun u s₂=>wpAny (model X.prog X.w) X.A (compareOp op v u) (EP X pins σ Q) X.xe s₂) X.xe s₁) X.xe s
def tB (t:TE):TT:=fun σ H Q=>t σ H fun x H1=>∃c,x=.bl c/\Q c H1
def Ziw {op:CmpOp}{t:TE}(h:PC X op a b t)(h1:behindInMarks op b=false:=by first|exact nobehind _ (by decide) (by decide)|rfl):PT X (.Compare a [op] [b] pos) (tB t):=by
 intro pins s σ H Q I hw
 refine wpAny_isTrue_Compare1 (Yb (h pins s σ H _ I hw) fun v s1 h1=>Yb h1 fun u s2 h2=>Yb h2 fun c s3 ⟨x,H1,I1,r1,q1⟩=>?_) h1
 obtain⟨d,rfl,q⟩:=q1
 cases r1
 exact wpAny_truthy_bool ⟨H1,I1,q⟩
def Zix {e:Expr}{t:TE}(h:PE X e t)(he:∀whole,isTrue e X.env whole=(do let v <-whole;standAt e.pos;holding [v] (truthy v)):=by intro _;rfl):PT X e (tB t):=by
 intro pins s σ H Q I hw
 refine isTrue_plain (Yb (h pins s σ H _ I hw) fun v s1 ⟨x,H1,I1,r1,q1⟩=>?_) (he _)
 obtain⟨d,rfl,q⟩:=q1
 cases r1
 exact wpAny_truthy_bool ⟨H1,I1,q⟩
variable {tA tB':TT}{rest:List Expr}
def Zn7 (t u:TT):TT:=fun σ H Q=>t σ H fun c H1=>if c=true then u σ H1 Q else Q false H1
def Zpt (t u:TT):TT:=fun σ H Q=>t σ H fun c H1=>if c=true then Q true H1 else u σ H1 Q
def Zn8 (t:TT):TT:=fun σ H Q=>t σ H fun c H1=>Q (!c) H1
def Zey (ha:PT X a tA):PW X (.BoolOp .And [a] pos) tA:=by
 intro wh pins s σ H Q I h
 refine isTrue_and (Yb (ha pins s σ H Q I h) fun c s1 e=>?_)
 cases c with
 |true=>exact isTrue_and_nil e
 |false=>exact e
def Ziy (ha:PT X a tA):PW X (.BoolOp .Or [a] pos) tA:=by
 intro wh pins s σ H Q I h
 refine isTrue_or (Yb (ha pins s σ H Q I h) fun c s1 e=>?_)
 cases c with
 |false=>exact isTrue_or_nil e
 |true=>exact e
def Ziz (ha:PT X a tA)(hb:PW X (.BoolOp .And (b::rest) pos) tB'):PW X (.BoolOp .And (a::b::rest) pos) (Zn7 tA tB'):=by
 intro wh pins s σ H Q I h
 refine isTrue_and (Yb (ha pins s σ H _ I h) fun c s1 ⟨H1,I1,q1⟩=>?_)
 cases c with
 |true=>exact hb wh pins s1 σ H1 Q I1 q1
 |false=>exact⟨H1,I1,q1⟩
def Zlr (ha:PT X a tA)(hb:PW X (.BoolOp .Or (b::rest) pos) tB'):PW X (.BoolOp .Or (a::b::rest) pos) (Zpt tA tB'):=by
 intro wh pins s σ H Q I h
 refine isTrue_or (Yb (ha pins s σ H _ I h) fun c s1 ⟨H1,I1,q1⟩=>?_)
 cases c with
 |true=>exact⟨H1,I1,q1⟩
 |false=>exact hb wh pins s1 σ H1 Q I1 q1
def Zi0 (ha:PT X a tA):PT X (.UnaryOp .Not a pos) (Zn8 tA):=by
 intro pins s σ H Q I h
 exact isTrue_not (ha pins s σ H (fun c H1=>Q (!c) H1) I h)
def Zls (ta tb:TE):TE:=fun σ H Q=>ta σ H fun x H1=>∃c,x=.bl c/\if c=true then tb σ H1 Q else Q (.bl false) H1
def Zlt (ta:TE):TE:=fun σ H Q=>ta σ H fun x H1=>∃c,x=.bl c/\Q (.bl (!c)) H1
def Zi1 {op}{t:TE}(h:PE X a t):PE X (.BoolOp op [a] pos) t:=fun pins s σ H Q I hw=>BoolOp_one (h pins s σ H Q I hw)
def Zi2 (ha:PE X a ta)(hb:PE X (.BoolOp .And (b::rest) pos) tb):PE X (.BoolOp .And (a::b::rest) pos) (Zls ta tb):=by
 intro pins s σ H Q I h
 refine BoolOp_and (Yb (ha pins s σ H _ I h) fun v s1 ⟨x,H1,I1,r1,q1⟩=>?_)
 obtain⟨c,rfl,q1⟩:=q1
 cases r1
 refine wpAny_truthy_bool ?_
 cases c with
 |true=>exact hb pins s1 σ H1 Q I1 q1
 |false=>exact⟨.bl false,H1,I1,rfl,q1⟩
def Zi3 (ha:PE X a ta):PE X (.UnaryOp .Not a pos) (Zlt ta):=by
 intro pins s σ H Q I h
 refine UnaryOp_ (Yb (ha pins s σ H _ I h) fun v s1 ⟨x,H1,I1,r1,q1⟩=>?_)
 obtain⟨c,rfl,q1⟩:=q1
 cases r1
 exact not_of (wpAny_truthy_bool ⟨.bl (!c),H1,I1,rfl,q1⟩)
def Zpu (t:TT)(ta tb:TE):TE:=fun σ H Q=>t σ H fun c H1=>if c=true then ta σ H1 Q else tb σ H1 Q
def Aq {c:Expr}(hc:PT X c tA)(ha:PE X a ta)(hb:PE X b tb):PE X (.IfExp c a b pos) (Zpu tA ta tb):=by
 intro pins s σ H Q I h
 refine wpAny_IfExp (Yb (hc pins s σ H _ I h) fun d s1 ⟨H1,I1,q1⟩=>?_)
 cases d with
 |true=>exact ha pins s1 σ H1 Q I1 q1
 |false=>exact hb pins s1 σ H1 Q I1 q1
end
def SqL (K:PySem.W.Frag)(H:Hp)(a:Addr)(xs:List V):Prop:=
 Rd H a (.lst xs) \/
  ∃(o:Obj) (its:Array Value) (n:Nat),K.lookup a=some o/\o.cls=.type "list"/\o.dict=none/\o.data=.seq its n/\its.size<=sizeLine/\Vals xs its.toList
def SqT (K:PySem.W.Frag)(H:Hp)(a:Addr)(xs:List V):Prop:=
 Rd H a (.tup xs) \/
  ∃(o:Obj) (its:Array Value) (n:Nat),K.lookup a=some o/\o.cls=.type "tuple"/\o.data=.seq its n/\its.size<=sizeLine/\Vals xs its.toList
def Zez:Value->Option V
 |.none=>some .non
 |.bool b=>some (.bl b)
 |.int i _=>some (.int i)
 |.str x _=>some (.str x)
 |.bytes b _=>some (.byt b)
 |.float b _=>some (.flt b)
 |.ref a=>some (.ref a)
 |.type n=>some (.ty n)
 |_=>none
def RelV.abs {x:V}{u:Value}(r:RelV x u):Zez u=some x:=by
 cases x with
 |non=>cases r;rfl
 |bl _=>cases r;rfl
 |int _=>obtain⟨t,rfl⟩:=r;rfl
 |str _=>obtain⟨t,rfl⟩:=r;rfl
 |byt _=>obtain⟨t,rfl⟩:=r;rfl
 |flt _=>obtain⟨t,rfl⟩:=r;rfl
 |ref _=>cases r;rfl
 |ty _=>cases r;rfl
theorem RelV.inj {x y:V}{u:Value}(r:RelV x u)(q:RelV y u):x=y:=Option.some.inj (r.abs.symm.trans q.abs)
theorem Vals.inj:∀{xs ys:List V}{us:List Value},Vals xs us->Vals ys us->xs=ys
 |_,_,_,.nil,.nil=>rfl
 |_,_,_,.cons r t,.cons r' t'=>by rw[r.inj r',Vals.inj t t']
section
variable {X:Cx}{pins:List (Addr×Obj)}{σ:St}{H:Hp}{s:Shared}{a:Addr}{xs ys:List V}
def SqL.of {K:PySem.W.Frag}(h:H a=some (.lst xs)):SqL K H a xs:=.inl (.inl h)
def SqT.of {K:PySem.W.Frag}(h:H a=some (.tup xs)):SqT K H a xs:=.inl (.inl h)
def Inv.list (I:Inv X pins σ H s)(h:SqL X.K H a xs):∃its:List Value,Vals xs its/\PlainL s.heap a its.toArray/\xs.length<=sizeLine:=by
 rcases h with h|⟨o,its,n,hk,hc,hd,hs,hz,r⟩
 ·obtain⟨z,its,n,r,e⟩:=h.ok I.hok
  exact⟨its,r,⟨_,n,e,rfl,rfl,rfl⟩,z⟩
 ·refine⟨its.toList,r,⟨o,n,I.kIn a o hk,hc,hd,by simpa using hs⟩,?_⟩
  have e:=r.length
  simp only[Array.length_toList] at e
  omega
def Inv.tuple (I:Inv X pins σ H s)(h:SqT X.K H a xs):∃its:List Value,Vals xs its/\IsTup s.heap a its.toArray/\xs.length<=sizeLine:=by
 rcases h with h|⟨o,its,n,hk,hc,hs,hz,r⟩
 ·obtain⟨z,its,r,p⟩:=h.ok I.hok
  exact⟨its,r,p,z⟩
 ·refine⟨its.toList,r,⟨o,I.kIn a o hk,hc,n,by simpa using hs⟩,?_⟩
  have e:=r.length
  simp only[Array.length_toList] at e
  omega
def Inv.list_inj (I:Inv X pins σ H s)(h:SqL X.K H a xs)(h':SqL X.K H a ys):xs=ys:=by
 obtain⟨its,r,⟨o,n,e,_,_,d⟩,_⟩:=I.list h
 obtain⟨its',r',⟨o',n',e',_,_,d'⟩,_⟩:=I.list h'
 rw[e] at e';cases e'
 rw[d] at d'
 injection d' with d1 _
 have:its=its':=by simpa using congrArg Array.toList d1
 subst this
 exact r.inj r'
def Inv.tuple_inj (I:Inv X pins σ H s)(h:SqT X.K H a xs)(h':SqT X.K H a ys):xs=ys:=by
 obtain⟨its,r,⟨o,e,_,n,d⟩,_⟩:=I.tuple h
 obtain⟨its',r',⟨o',e',_,n',d'⟩,_⟩:=I.tuple h'
 rw[e] at e';cases e'
 rw[d] at d'
 injection d' with d1 _
 have:its=its':=by simpa using congrArg Array.toList d1
 subst this
 exact r.inj r'
end
abbrev Cx.wish (X:Cx)(E:Value->Shared->Prop):Cx:={X with xe:=E}
abbrev Cx.nox (X:Cx):Cx:=X.wish fun _ _=>False
theorem Cx.Ok.wish {X:Cx}(ok:X.Ok)(E:Value->Shared->Prop):(X.wish E).Ok:=
 ⟨ok.mod,ok.kind,ok.glob,ok.blt,ok.above,ok.inj,ok.has,ok.cab,ok.hd,ok.frames,ok.stk,ok.exf,ok.bs,ok.bsz,ok.noex,ok.exfs,ok.funs,ok.frf⟩
def Cx.Ok.unwish {X:Cx}{E:Value->Shared->Prop}(ok:(X.wish E).Ok):X.Ok:=
 ⟨ok.mod,ok.kind,ok.glob,ok.blt,ok.above,ok.inj,ok.has,ok.cab,ok.hd,ok.frames,ok.stk,ok.exf,ok.bs,ok.bsz,ok.noex,ok.exfs,ok.funs,ok.frf⟩
section
variable {X:Cx}{pins:List (Addr×Obj)}{σ:St}{H:Hp}{s:Shared}{E:Value->Shared->Prop}
theorem Inv.wish (I:Inv X pins σ H s)(E:Value->Shared->Prop):Inv (X.wish E) pins σ H s:=⟨I.ok.wish E,I.os,I.bare,I.base,I.loc,I.cell,I.free,I.freeC,I.pin,I.hok,I.len⟩
theorem Inv.unwish (I:Inv (X.wish E) pins σ H s):Inv X pins σ H s:=⟨I.ok.unwish,I.os,I.bare,I.base,I.loc,I.cell,I.free,I.freeC,I.pin,I.hok,I.len⟩
theorem SP.unwish {D:Ends}{f:Flow}{s':Shared}(h:SP (X.wish E) pins D f s'):SP X pins D f s':=by
 cases f with
 |next=>obtain⟨σ',H',I,q⟩:=h;exact⟨σ',H',I.unwish,q⟩
 |brk=>obtain⟨σ',H',I,q⟩:=h;exact⟨σ',H',I.unwish,q⟩
 |cont=>obtain⟨σ',H',I,q⟩:=h;exact⟨σ',H',I.unwish,q⟩
 |ret u=>obtain⟨v,σ',H',I,r,q⟩:=h;exact⟨v,σ',H',I.unwish,r,q⟩
theorem PSs.nox {st:List Stmt}{t:TS}(h:PSs X.nox st t):PSs X st t:=fun pins s σ H D I hw=>
 wpAny_mono (h pins s σ H D (I.wish _) hw) (fun _ _ q=>q.unwish) fun _ _ z=>False.elim z
end
section
variable {X:Cx}{st:Stmt}{rest:List Stmt}{t u:TS}{e:Expr}{te:TE}{pos:Pos}
def Zlu:TS:=fun D σ H=>D.nx σ H
def Zn9 (t u:TS):TS:=fun D σ H=>t {D with nx:=u D} σ H
def Gd:PSs X [] Zlu:=fun _ _ σ H _ I h=>wpAny_execs_nil ⟨σ,H,I,h⟩
def Qg (h1:PS X st t)(h2:PSs X rest u):PSs X (st::rest) (Zn9 t u):=by
 intro pins s σ H D I h
 refine wpAny_execs_cons (Yb (h1 pins s σ H {D with nx:=u D} I h) fun f s1 q=>?_)
 cases f with
 |next=>
  obtain⟨σ',H',I',q⟩:=q
  exact h2 pins s1 σ' H' D I' q
 |ret v=>exact q
 |brk=>exact q
 |cont=>exact q
def Y9 (h1:PS X st t):PSs X [st] t:=by
 intro pins s σ H D I h
 refine wpAny_execs_cons (Yb (h1 pins s σ H D I h) fun f s1 q=>?_)
 cases f with
 |next=>exact wpAny_execs_nil q
 |ret v=>exact q
 |brk=>exact q
 |cont=>exact q
def Inv.quiet {pins:List (Addr×Obj)}{σ:St}{H:Hp}{s:Shared}(I:Inv X pins σ H s):interactive X.env=false:=by simp[interactive,I.ok.kind]
def Zhs (te:TE):TS:=fun D σ H=>te σ H fun _ H1=>D.nx σ H1
def U8 (he:PE X e te)(hs:swapsWith e none pos.line X.env=pure false:=by rfl):PS X (.Expr e pos) (Zhs te):=by
 intro pins s σ H D I h
 exact wpAny_Expr_any (Yb (he pins s σ H _ I h) fun v s1 ⟨x,H1,I1,r1,q1⟩=>⟨σ,H1,I1,q1⟩) I.quiet hs
def Zoa (te:TE):TS:=fun D σ H=>te σ H D.rt
def Nl (he:PE X e te):PS X (.Return (some e) pos) (Zoa te):=by
 intro pins s σ H D I h
 exact wpAny_Return_some (Yb (he pins s σ H _ I h) fun v s1 ⟨x,H1,I1,r1,q1⟩=>⟨x,σ,H1,I1,r1,q1⟩)
def Zob (c:TT)(t u:TS):TS:=fun D σ H=>c σ H fun b H1=>if b=true then t D σ H1 else u D σ H1
def Ar {c:Expr}{a b:List Stmt}{tc:TT}(hc:PT X c tc)(ha:PSs X a t)(hb:PSs X b u):PS X (.If c a b pos) (Zob tc t u):=by
 intro pins s σ H D I h
 refine wpAny_If (Yb (hc pins s σ H _ I h) fun d s1 ⟨H1,I1,q1⟩=>?_)
 cases d with
 |true=>exact ha pins s1 σ H1 D I1 q1
 |false=>exact hb pins s1 σ H1 D I1 q1
end
abbrev TG:=V->St->Hp->(St->Hp->Prop)->Prop
abbrev Zht:=List V->St->Hp->(St->Hp->Prop)->Prop
def PG (X:Cx)(target:Expr)(t:TG):Prop:=
 ∀(pins:List (Addr×Obj)) (s:Shared) (σ:St) (H:Hp) (v:V) (u:Value) (Q:St->Hp->Prop),Inv X pins σ H s->RelV v u->t v σ H Q ->
  wpAny (model X.prog X.w) X.A (assign target X.env u) (fun _ s'=>∃σ' H',Inv X pins σ' H' s'/\Q σ' H') X.xe s
def Zlv (X:Cx)(ts:List Expr)(t:Zht):Prop:=
 ∀(pins:List (Addr×Obj)) (s:Shared) (σ:St) (H:Hp) (vs:List V) (us:List Value) (Q:St->Hp->Prop),Inv X pins σ H s->Vals vs us->t vs σ H Q ->
  wpAny (model X.prog X.w) X.A (assignInOrder ((assignEach ts X.env).map (·.2)) us) (fun _ s'=>∃σ' H',Inv X pins σ' H' s'/\Q σ' H') X.xe s
abbrev Zoc:=V->V->V->Hp->(Hp->Prop)->Prop
def Zod (X:Cx)(t:Zoc):Prop:=
 ∀(pins:List (Addr×Obj)) (s:Shared) (σ:St) (H:Hp) (o i v:V) (ov iv u:Value) (Q:Hp->Prop),Inv X pins σ H s->RelV o ov->RelV i iv->RelV v u->t o i v H Q ->
  wpAny (model X.prog X.w) X.A (setItem ov iv u) (fun _ s'=>∃H',Inv X pins σ H' s'/\Q H') X.xe s
section
variable {X:Cx}{pos:Pos}
def Fw (i:Nat):TG:=fun v σ H Q=>Q (σ.set i (some v)) H
def Ge {i:Nat}{x:Str}(hN:X.N.Nodup)(hi:X.N[i]?=some x)(hx:Fv X.env.scope x)(hf:X.fn x=true\/X.env.scope.names.lookup x=some .local:=by first|exact .inl rfl|exact .inr rfl|assumption):PG X (.Name x pos) (Fw i):=by
 intro pins s σ H v u Q I r h
 exact wpAny_assign_Name (Gc I hN hi hx r (fun s' I'=>⟨_,H,I',h⟩) hf)
def Zlw:Zht:=fun vs σ H Q=>vs=[]/\Q σ H
def Zba (t:TG)(u:Zht):Zht:=fun vs σ H Q=>∃v r,vs=v::r/\t v σ H fun σ' H'=>u r σ' H' Q
def Fy:Zlv X [] Zlw:=by
 intro pins s σ H vs us Q I r h
 obtain⟨e,h⟩:=h
 subst e
 cases r
 exact assignInOrder_nil ⟨σ,H,I,h⟩
def Rr {e:Expr}{es:List Expr}{t:TG}{u:Zht}(h1:PG X e t)(h2:Zlv X es u)(hs:(assignEach (e::es) X.env).map (·.2)=assign e X.env::(assignEach es X.env).map (·.2):=by rfl):Zlv X (e::es) (Zba t u):=by
 intro pins s σ H vs us Q I r h
 obtain⟨v,vr,e1,h⟩:=h
 subst e1
 cases r with
 |cons r rr=>
  rw[hs]
  refine assignInOrder_cons (Yb (h1 pins s σ H _ _ _ I r h) fun _ s1 ⟨σ1,H1,I1,q1⟩=>?_)
  exact h2 pins s1 σ1 H1 _ _ Q I1 rr q1
def Zlx (te:TE)(g:TG):TS:=fun D σ H=>te σ H fun x H1=>g x σ H1 D.nx
def Zi4 {tg e:Expr}{te:TE}{g:TG}(he:PE X e te)(hg:PG X tg g)(hs:swapsWithSole [tg] e pos.line X.env=pure false:=by rfl)(hw:swappedStores [tg] e X.env=pure none:=by rfl)(h1:(assignEach [tg] X.env).map (·.2)=[assign tg X.env]:=by rfl):PS X (.Assign [tg] e pos) (Zlx te g):=by
 intro pins s σ H D I h
 refine wpAny_Assign_stores (Yb (he pins s σ H _ I h) fun v s1 ⟨x,H1,I1,r1,q1⟩=>?_) hs hw
 rw[h1]
 exact Yb (hg pins s1 σ H1 x v _ I1 r1 q1) fun _ s2 q=>q
def Kl {i:Nat}{x:Str}{e:Expr}{te:TE}{pos':Pos}(hN:X.N.Nodup)(hi:X.N[i]?=some x)(hx:Fv X.env.scope x)(he:PE X e te)(hs:swapsWith e (some (.Name x pos')) pos.line X.env=pure false:=by rfl)(hf:X.fn x=true\/X.env.scope.names.lookup x=some .local:=by first|exact .inl rfl|exact .inr rfl|assumption):
  PS X (.Assign [.Name x pos'] e pos) (Zlx te (Fw i)):=by
 intro pins s σ H D I h
 refine wpAny_Assign_Name (Yb (he pins s σ H _ I h) fun v s1 ⟨y,H1,I1,r1,q1⟩=>?_) hs
 exact Gc I1 hN hi hx r1 (fun s2 I2=>⟨_,H1,I2,q1⟩) hf
def Zoe (i j:Nat)(ta:TA):TS:=fun D σ H=>ta σ H fun vs H1=>∃v w,vs=[v,w]/\D.nx ((σ.set i (some v)).set j (some w)) H1
def Zi5 {i j:Nat}{x y:Str}{a b:Expr}{ta:TA}{px py pt:Pos}{kt k2 pt2}(hc:X.calm=true)(hN:X.N.Nodup)(hi:X.N[i]?=some x)(hj:X.N[j]?=some y)(hij:i≠j)(hx:X.env.scope.names.lookup x=some .local)(hy:X.env.scope.names.lookup y=some .local)(ha:PA X [a,b] ta)(hw:swappedStores [.Tuple [.Name x px,.Name y py] kt pt] (.Tuple [a,b] k2 pt2) X.env=pure (some [x,y]))(hs:swapsWithSole [.Tuple [.Name x px,.Name y py] kt pt] (.Tuple [a,b] k2 pt2) pos.line X.env=pure false:=by rfl):
  PS X (.Assign [.Tuple [.Name x px,.Name y py] kt pt] (.Tuple [a,b] k2 pt2) pos) (Zoe i j ta):=by
 intro pins s σ H D I h
 rw[exec_Assign_arm]
 refine wpAny_bind (wpAny_standAt ?_)
 rw[hs]
 refine wpAny_bind (wpAny_pure ?_)
 rw[if_neg (by decide)]
 refine wpAny_bind (Tuple_ (Yb (ha _ pins s σ H _ I h) fun us s1 ⟨vs,H1,I1,r1,q1⟩=>?_))
 obtain⟨v,w,e1,q1⟩:=q1
 subst e1
 obtain⟨u1,u2,rfl,rv,rw'⟩:∃u1 u2,us=[u1,u2]/\RelV v u1/\RelV w u2:=by
  cases r1 with
  |cons p q=>
   cases q with
   |cons p' q'=>
    cases q'
    exact⟨_,_,rfl,p,p'⟩
 refine wpAny_newObj_type ?_ (by show 2<=sizeLine;decide)
 have I2:Inv X pins σ H1 {s1 with heap:=s1.heap.push {cls:=.type "tuple", data:=.seq [u1,u2].toArray}}:=I1.kept (t':=s1.toks) fun b o e=>Heap.get?_push_of_some _ e
 rw[hw]
 refine wpAny_bind (wpAny_pure ?_)
 show wpAny (model X.prog X.w) X.A (do rule "assign.swapped-stores"; let items <-unpackItems (.ref s1.heap.objs.size) 2 none;assignInOrder [fun v=>bindName X.env y v,fun v=>bindName X.env x v] items.reverse;pure Flow.next) _ _ _
 refine wpAny_bind (wpAny_rule (wpAny_bind (unpackItems_tuple (items:=#[u1,u2]) (I.ok.hd hc) (IsTup.new s1.heap _) fun h' hx'=>?_)))
 have I3:=I2.kept (h':=h') (t':=s1.toks) fun b o e=>hx' b o (Nat.ne_of_lt (Heap.lt_size e)) e
 show wpAny _ _ (assignInOrder [fun v=>bindName X.env y v,fun v=>bindName X.env x v] [u2,u1]>>=fun _=>pure Flow.next) _ _ _
 refine wpAny_bind (assignInOrder_cons (wpAny_bindName (Gc I3 hN hj (.inl hy) rw' (fun s2 I4=>?_) (.inr hy))))
 refine assignInOrder_cons (wpAny_bindName (Gc I4 hN hi (.inl hx) rv (fun s3 I5=>assignInOrder_nil (wpAny_pure ?_)) (.inr hx)))
 rw[List.set_comm _ _ (Ne.symm hij)] at I5
 exact⟨_,H1,I5,q1⟩
end
section
variable {X:Cx}{pos:Pos}
def Zi6 (c:TT)(tb:TS):TS:=fun D σ H=>∃W:Nat->St->Hp->Prop,(∃m,W m σ H)/\∀m σ H,W m σ H ->
 c σ H fun b H1=>if b=true then ∃N:St->Hp->Prop,(∀σ' H',N σ' H'->∃m',m'<m/\W m' σ' H')/\tb {D with nx:=N,ct:=N,bk:=D.nx} σ H1 else D.nx σ H1
def As {c:Expr}{body:List Stmt}{tc:TT}{tb:TS}(hp:PassesOwn (model X.prog X.w) X.A X.env X.xe)(hc:PT X c tc)(hb:PSs X body tb):PS X (.While c body [] pos) (Zi6 tc tb):=by
 intro pins s σ H D I h
 obtain⟨W,⟨m0,w0⟩,turn⟩:=h
 refine wpAny_While (codeAny_whileLoop (fun n s'=>∃σ' H',Inv X pins σ' H' s'/\W n σ' H') ?_ m0 ⟨σ,H,I,w0⟩)
 rintro n s1 ⟨σ1,H1,I1,w1⟩
 refine wpAny_passesOwn hp (Yb (hc pins s1 σ1 H1 _ I1 (turn n σ1 H1 w1)) fun b s2 ⟨H2,I2,q2⟩=>?_)
 cases b with
 |true=>
  obtain⟨N,hN,q2⟩:=q2
  rw[if_pos rfl]
  refine wpAny_passesOwn hp (Yb (hb pins s2 σ1 H2 _ I2 q2) fun f s3 q3=>?_)
  cases f with
  |next=>
   obtain⟨σ3,H3,I3,n3⟩:=q3
   obtain⟨m',hm,w3⟩:=hN σ3 H3 n3
   exact⟨m',hm,σ3,H3,I3,w3⟩
  |cont=>
   obtain⟨σ3,H3,I3,n3⟩:=q3
   obtain⟨m',hm,w3⟩:=hN σ3 H3 n3
   exact⟨m',hm,σ3,H3,I3,w3⟩
  |brk=>exact q3
  |ret v=>exact q3
 |false=>
  rw[if_neg Bool.false_ne_true]
  exact wpAny_execs_nil ⟨σ1,H2,I2,q2⟩
end
structure It where
 go:Nat->Hp->Prop
 yld:Nat->Hp->V->Hp->Prop
 stop:Nat->Hp->Prop
def P0 (X:Cx)(pins:List (Addr×Obj))(H:Hp)(b:Addr):Prop:=
 H b=none/\b≠X.env.locals/\b ∉ X.fs/\(b∈X.ex\/X.s₀.heap.objs.size<=b)/\(∀x c,X.env.cells.lookup x=some c->c≠b)/\∀p∈X.pn++pins,p.1≠b
def Inv.fpOk {X:Cx}{pins:List (Addr×Obj)}{σ:St}{H H':Hp}{s:Shared}{b:Addr}(I:Inv X pins σ H s)(hb:s.heap.objs.size<=b)(hn:H' b=none):P0 X pins H' b:=by
 refine⟨hn,Nat.ne_of_gt (Nat.lt_of_lt_of_le I.lt hb),I.nofs hb,.inr (Nat.le_trans I.sz hb),fun x c e z=>?_,fun p hp z=>?_⟩
 ·obtain⟨v,q⟩:=I.cell x c e
  exact absurd (Nat.lt_of_lt_of_le q.lt (by rw[z];exact hb)) (Nat.lt_irrefl _)
 ·exact absurd (Nat.lt_of_lt_of_le (Heap.lt_size (I.pin p hp).1) (by rw[z];exact hb)) (Nat.lt_irrefl _)
structure Turn (P:Program) (w:World) (K:PySem.W.Frag) (tg:Expr) (J:It) (fp:List Addr) (it:Addr) (tn:Nat->Heap->Prop):Prop where
 mem:it∈fp
 obj:∀i h,tn i h->∀b∈fp,∃o,h.get? b=some o/\∀v,o.data≠.cell v
 keep:∀i h h',tn i h->(∀b∈fp,∀o,h.get? b=some o->h'.get? b=some o)->tn i h'
 item:∀(X:Cx),X.prog=P->X.w=w->X.K=K->X.calm=true->∀(i:Nat) (pins:List (Addr×Obj)) (s:Shared) (σ:St) (H:Hp) (E:Value->Shared->Prop),Inv X pins σ H s->(∀b∈fp,P0 X pins H b)->tn i s.heap->J.go i H ->
  wpAny (model P w) X.A (pyNext (.ref it)) (fun r s1=>∃u,r=some u /\
   wpAny (model P w) X.A (letOwnedTupleGo tg (.ref it) u) (fun _ s2=>∃x H',Inv X pins σ H' s2/\RelV x u/\J.yld i H x H'/\tn (i+1) s2.heap/\∀b∈fp,H' b=none) E s1) E s
 done:∀(X:Cx),X.prog=P->X.w=w->X.K=K->X.calm=true->∀(i:Nat) (pins:List (Addr×Obj)) (s:Shared) (σ:St) (H:Hp) (E:Value->Shared->Prop),Inv X pins σ H s->(∀b∈fp,P0 X pins H b)->tn i s.heap->J.stop i H ->
  wpAny (model P w) X.A (pyNext (.ref it)) (fun r s1=>r=none/\Inv X pins σ H s1) E s
 self:∀(A:Around) (i:Nat) (s:Shared) (Q:Value->Shared->Prop) (E:Value->Shared->Prop),tn i s.heap->Q (.ref it) s->wpAny (model P w) A (pyIter (.ref it)) Q E s
abbrev TI:=St->Hp->(It->Hp->Prop)->Prop
def Zpj (X:Cx)(pins:List (Addr×Obj))(σ:St)(tg:Expr)(R:It->Hp->Prop)(itv:Value)(s2:Shared):Prop:=
 ∃(it:Addr) (fp:List Addr) (tn:Nat->Heap->Prop) (J:It) (H':Hp),itv=.ref it/\Inv X pins σ H' s2/\Turn X.prog X.w X.K tg J fp it tn/\tn 0 s2.heap/\(∀b∈fp,P0 X pins H' b)/\R J H'
def PI (X:Cx)(tg iter:Expr)(wi:TI):Prop:=
 ∀(pins:List (Addr×Obj)) (s:Shared) (σ:St) (H:Hp) (R:It->Hp->Prop),Inv X pins σ H s->wi σ H R ->
  wpAny (model X.prog X.w) X.A (eval iter X.env) (fun v s1=>wpAny (model X.prog X.w) X.A (pyIter v) (Zpj X pins σ tg R) X.xe s1) X.xe s
def Zbb {M:Model}{A:Around}{E:Value->Shared->Prop}{s:Shared}{tg:Expr}{it:Addr}{u:Value}{o:Obj}{n:String}{vs:Array Value}{Q:Unit->Shared->Prop}(ho:s.heap.get? it=some o)(hc:o.cls=.type n)(hd:o.data=.fields vs)
  (hn:["enumerate","zip","dict_itemiterator","dict_reverseitemiterator","odict_iterator","itertools.zip_longest","itertools.pairwise"].contains n=false) (hQ:Q () s):wpAny M A (letOwnedTupleGo tg (.ref it) u) Q E s:=by
 unfold letOwnedTupleGo
 cases tg<;>first
  |exact wpAny_pure hQ
  |(cases u<;>first
    |exact wpAny_pure hQ
    |(refine wpAny_bind (wpAny_load ho ?_)
      rw[hc,hd]
      show wpAny M A (if(["enumerate","zip","dict_itemiterator","dict_reverseitemiterator","odict_iterator","itertools.zip_longest","itertools.pairwise"].contains n&&vs[0]?==some (rawInt _))=true then _ else _) Q E s
      rw[if_neg (by intro h;rw[hn,Bool.false_and] at h;cases h)]
      exact wpAny_pure hQ))
def Znt (K:PySem.W.Frag)(a:Addr):It:=
 ⟨fun i H=>∃xs x,SqL K H a xs/\xs[i]?=some x,fun i H x H'=>H'=H/\∀xs,SqL K H a xs->xs[i]?=some x,fun i H=>∃xs,SqL K H a xs/\xs.length<=i⟩
def Zlg (K:PySem.W.Frag)(a:Addr):It:=
 ⟨fun i H=>∃xs x,SqT K H a xs/\xs[i]?=some x,fun i H x H'=>H'=H/\∀xs,SqT K H a xs->xs[i]?=some x,fun i H=>∃xs,SqT K H a xs/\xs.length<=i⟩
def Znu (lo:Int)(n:Nat):It:=⟨fun i _=>i<n,fun i H x H'=>H'=H/\x=.int (lo+i),fun i _=>n<=i⟩
def Lj {P:Program}{w:World}{K:PySem.W.Frag}{tg:Expr}(a it:Addr):Turn P w K tg (Znt K a) [it] it (fun i h=>h.IsListIter it a i) where
 mem:=by simp
 obj:=fun i h st b hb=>by
  have e:b=it:=by simpa using hb
  subst e
  obtain⟨o,e,c,d⟩:=st
  exact⟨o,e,fun v z=>by rw[d] at z;cases z⟩
 keep:=fun i h h' st k=>st.at fun o e=>k it (by simp) o e
 item:=by
  intro X hP hw hK hc i pins s σ H E I hf st hg
  subst hP hw hK
  obtain⟨xs,x,hq,hx⟩:=hg
  obtain⟨its,rv,p,hz⟩:=I.list hq
  obtain⟨u,hu,ru⟩:=rv.get hx
  obtain⟨f0,f1,f2,f3,f4,f5⟩:=hf it (by simp)
  refine wpAny_pyNext_list_item st p.isList (x:=u) (by simpa using hu) fun h' st' sb=>?_
  have I1:Inv X pins σ H {s with heap:=h'}:=I.turned (t':=s.toks) (fun b o hb e=>(sb.2 b hb).trans e) f0 f1 f3 f4 f5
  obtain⟨o,e,c,d⟩:=id st'
  exact⟨u,rfl,Zbb (s:={s with heap:=h'}) e c d (by decide) ⟨x,H,I1,ru,⟨rfl,fun ys hy=>by rw[I.list_inj hy hq];exact hx⟩,st',fun b hb=>(hf b hb).1⟩⟩
 done:=by
  intro X hP hw hK hc i pins s σ H E I hf st hg
  subst hP hw hK
  obtain⟨xs,hq,hx⟩:=hg
  obtain⟨its,rv,p,hz⟩:=I.list hq
  obtain⟨f0,f1,f2,f3,f4,f5⟩:=hf it (by simp)
  have hl:=rv.length
  exact wpAny_pyNext_list_end (I.ok.hd hc) st p.isList (by simp;omega) fun h' eb=>⟨rfl,I.turned (t':=s.toks) (fun b o hb e=>eb b o hb e) f0 f1 f3 f4 f5⟩
 self:=fun _ _ _ _ _ st h=>wpAny_pyIter_listiter st h
def Rs {P:Program}{w:World}{K:PySem.W.Frag}{tg:Expr}(a it:Addr):Turn P w K tg (Zlg K a) [it] it (fun i h=>h.IsTupleIter it a i) where
 mem:=by simp
 obj:=fun i h st b hb=>by
  have e:b=it:=by simpa using hb
  subst e
  obtain⟨o,e,c,d⟩:=st
  exact⟨o,e,fun v z=>by rw[d] at z;cases z⟩
 keep:=fun i h h' st k=>st.at fun o e=>k it (by simp) o e
 item:=by
  intro X hP hw hK hc i pins s σ H E I hf st hg
  subst hP hw hK
  obtain⟨xs,x,hq,hx⟩:=hg
  obtain⟨its,rv,p,hz⟩:=I.tuple hq
  obtain⟨u,hu,ru⟩:=rv.get hx
  obtain⟨f0,f1,f2,f3,f4,f5⟩:=hf it (by simp)
  refine wpAny_pyNext_tuple_item st (show s.heap.IsTuple a its.toArray from p) (x:=u) (by simpa using hu) fun h' st' sb=>?_
  have I1:Inv X pins σ H {s with heap:=h'}:=I.turned (t':=s.toks) (fun b o hb e=>(sb.2 b hb).trans e) f0 f1 f3 f4 f5
  obtain⟨o,e,c,d⟩:=id st'
  exact⟨u,rfl,Zbb (s:={s with heap:=h'}) e c d (by decide) ⟨x,H,I1,ru,⟨rfl,fun ys hy=>by rw[I.tuple_inj hy hq];exact hx⟩,st',fun b hb=>(hf b hb).1⟩⟩
 done:=by
  intro X hP hw hK hc i pins s σ H E I hf st hg
  subst hP hw hK
  obtain⟨xs,hq,hx⟩:=hg
  obtain⟨its,rv,p,hz⟩:=I.tuple hq
  obtain⟨f0,f1,f2,f3,f4,f5⟩:=hf it (by simp)
  have hl:=rv.length
  exact wpAny_pyNext_tuple_end (I.ok.hd hc) st (show s.heap.IsTuple a its.toArray from p) (by simp;omega) fun h' eb=>⟨rfl,I.turned (t':=s.toks) (fun b o hb e=>eb b o hb e) f0 f1 f3 f4 f5⟩
 self:=fun _ _ _ _ _ st h=>wpAny_pyIter_tupleiter st h
def D3 {P:Program}{w:World}{K:PySem.W.Frag}{tg:Expr}(it:Addr)(lo:Int)(n:Nat):Turn P w K tg (Znu lo n) [it] it (fun i h=>IsRangeIter h it (lo+(i:Nat)*1) ((n:Int)-(i:Nat)) 1) where
 mem:=by simp
 obj:=fun i h st b hb=>by
  have e:b=it:=by simpa using hb
  subst e
  exact⟨_,st,fun v z=>by
   have z':Data.fields _=Data.cell v:=z
   cases z'⟩
 keep:=fun i h h' st k=>k it (by simp) _ st
 item:=by
  intro X hP hw hK hc i pins s σ H E I hf st hg
  subst hP hw hK
  obtain⟨f0,f1,f2,f3,f4,f5⟩:=hf it (by simp)
  have W:=Walks.range (prog:=X.prog) (w:=X.w) (I.ok.hd hc) it lo 1 n
  refine W.item i s _ _ hg st fun v h' tk hv st' kk=>?_
  obtain⟨t,rfl⟩:=hv
  have I1:Inv X pins σ H {s with heap:=h',toks:=tk}:=I.turned (fun b o hb e=>kk b o (by simpa using hb) e) f0 f1 f3 f4 f5
  refine⟨_,rfl,Zbb (s:={s with heap:=h',toks:=tk}) (n:="range_iterator") st' rfl rfl (by decide) ⟨.int (lo+i),H,I1,⟨t,?_⟩,⟨rfl,rfl⟩,st',fun b hb=>(hf b hb).1⟩⟩
  rw[Int.mul_one]
 done:=by
  intro X hP hw hK hc i pins s σ H E I hf st hg
  subst hP hw hK
  obtain⟨f0,f1,f2,f3,f4,f5⟩:=hf it (by simp)
  exact wpAny_pyNext_range_end (I.ok.hd hc) st (by have:n<=i:=hg;omega) fun h' eb=>⟨rfl,I.turned (t':=s.toks) (fun b o hb e=>eb b o hb e) f0 f1 f3 f4 f5⟩
 self:=fun _ _ _ _ _ st h=>wpAny_pyIter_rangeiter st h
section
variable {X:Cx}{tg:Expr}
def Zly (K:PySem.W.Frag)(tl:TE):TI:=fun σ H R=>tl σ H fun x H1=>∃a,x=.ref a/\(∃xs,SqL K H1 a xs)/\R (Znt K a) H1
def Zof (K:PySem.W.Frag)(tl:TE):TI:=fun σ H R=>tl σ H fun x H1=>∃a,x=.ref a/\(∃xs,SqT K H1 a xs)/\R (Zlg K a) H1
def Fz {l:Expr}{tl:TE}(hl:PE X l tl):PI X tg l (Zly X.K tl):=by
 intro pins s σ H R I h
 refine Yb (hl pins s σ H _ I h) fun v s1 ⟨x,H1,I1,r1,q1⟩=>?_
 obtain⟨a,e,⟨xs,hq⟩,q⟩:=q1
 subst e
 cases r1
 obtain⟨its,rv,p,hz⟩:=I1.list hq
 refine wpAny_pyIter_list p.isList ?_
 refine⟨s1.heap.objs.size,[s1.heap.objs.size],_,_,H1,rfl,I1.kept (t':=s1.toks) fun b o e=>Heap.get?_push_of_some _ e,Lj a _,⟨_,Heap.get?_push_size _ rfl,rfl,rfl⟩,fun b hb=>?_,q⟩
 have e:b=s1.heap.objs.size:=by simpa using hb
 subst e
 exact I1.fpOk (Nat.le_refl _) (I1.hok.fresh (Nat.le_refl _))
def Zi7 {l:Expr}{tl:TE}(hl:PE X l tl):PI X tg l (Zof X.K tl):=by
 intro pins s σ H R I h
 refine Yb (hl pins s σ H _ I h) fun v s1 ⟨x,H1,I1,r1,q1⟩=>?_
 obtain⟨a,e,⟨xs,hq⟩,q⟩:=q1
 subst e
 cases r1
 obtain⟨its,rv,p,hz⟩:=I1.tuple hq
 refine wpAny_pyIter_tuple (show s1.heap.IsTuple a its.toArray from p) ?_
 refine⟨s1.heap.objs.size,[s1.heap.objs.size],_,_,H1,rfl,I1.kept (t':=s1.toks) fun b o e=>Heap.get?_push_of_some _ e,Rs a _,⟨_,Heap.get?_push_size _ rfl,rfl,rfl⟩,fun b hb=>?_,q⟩
 have e:b=s1.heap.objs.size:=by simpa using hb
 subst e
 exact I1.fpOk (Nat.le_refl _) (I1.hok.fresh (Nat.le_refl _))
def Zbc {pins:List (Addr×Obj)}{σ:St}{H:Hp}{s:Shared}{R:It->Hp->Prop}{E:Value->Shared->Prop}{lo hi:Int}{t u v:Tok}{tk:Nat}(I:Inv X pins σ H s)(h1:-(2 ^ 62)<=lo)(h2:lo<2 ^ 62)(h3:-(2 ^ 62)<=hi)(h4:hi<2 ^ 62)(q:R (Znu lo (hi-lo).toNat) H):wpAny (model X.prog X.w) X.A (pyIter (.ref s.heap.objs.size)) (Zpj X pins σ tg R) E {s with heap:=s.heap.push {cls:=.type "range", data:=.fields #[.int lo t,.int hi u,.int 1 v]},toks:=tk}:=by
 refine wpAny_pyIter_range (IsRange.new ..) (small_one h1 h2 h3 h4) ?_
 have I1:Inv X pins σ H {s with heap:=s.heap.push {cls:=.type "range", data:=.fields #[.int lo t,.int hi u,.int 1 v]},toks:=tk}:=I.kept fun b o e=>Heap.get?_push_of_some _ e
 refine⟨(s.heap.push {cls:=.type "range", data:=.fields #[.int lo t,.int hi u,.int 1 v]}).objs.size,[(s.heap.push {cls:=.type "range", data:=.fields #[.int lo t,.int hi u,.int 1 v]}).objs.size],_,_,H,rfl,
  I1.kept (t':=tk) fun b o e=>Heap.get?_push_of_some _ e,D3 _ lo (hi-lo).toNat,?_,fun b hb=>?_,q⟩
 ·have e1:lo+((0:Nat):Int)*1=lo:=by simp
  have e2:(((hi-lo).toNat:Nat):Int)-((0:Nat):Int)=Builtin.Range.rangeSize lo hi 1:=by rw[rangeSize_one];split<;>omega
  show IsRangeIter _ _ (lo+((0:Nat):Int)*1) ((((hi-lo).toNat:Nat):Int)-((0:Nat):Int)) 1
  rw[e1,e2]
  exact Heap.get?_push_size _ rfl
 ·have e:b=(s.heap.push {cls:=.type "range", data:=.fields #[.int lo t,.int hi u,.int 1 v]}).objs.size:=by simpa using hb
  subst e
  exact I1.fpOk (Nat.le_refl _) (I1.hok.fresh (Nat.le_refl _))
def Zlz (ta:TA):TI:=fun σ H R=>ta σ H fun vs H1=>∃j:Int,vs=[.int j]/\-(2 ^ 62)<=j/\j<2 ^ 62/\R (Znu 0 j.toNat) H1
def Op {a:Expr}{ta:TA}{p pos:Pos} (hg:Gl X "range") (hm:X.mg "range"=none) (ha:PA X [a] ta) (hs:starEach [a] X.env=[(false,eval a X.env)]:=by rfl):PI X tg (.Call (.Name "range" p) [a] [] pos) (Zlz ta):=by
 intro pins s σ H R I h
 refine Call_ (Wr I hg hm boot_range (PyProof.Rows.callWith_type1 (Yb (ha pos pins s σ H _ I h) fun us s1 ⟨vs,H1,I1,r1,q1⟩=>?_) hs rfl))
 obtain⟨j,e,q1,q2,q⟩:=q1
 subst e
 cases r1 with
 |cons r rr=>
  cases rr
  obtain⟨t,rfl⟩:=r
  exact call_range_1 (Zbc I1 (by omega) (by omega) q1 q2 (by simpa using q))
def Zog (wi:TI)(g:TG)(tb:TS):TS:=fun D σ H=>wi σ H fun J H1=>∃W:Nat->Nat->St->Hp->Prop,(∃m,W 0 m σ H1)/\∀i m σ H,W i m σ H ->
 (J.stop i H/\D.nx σ H)\/(J.go i H/\∃N:St->Hp->Prop,(∀σ' H',N σ' H'->∃m',m'<m/\W (i+1) m' σ' H')/\∀x H',J.yld i H x H'->g x σ H' fun σ2 H2=>tb {D with nx:=N,ct:=N,bk:=D.nx} σ2 H2)
def My (fp:List Addr)(h:Heap):List (Addr×Obj):=fp.filterMap fun b=>(h.get? b).map fun o=>(b,o)
def Jf {fp:List Addr}{h:Heap}{b:Addr}{o:Obj}(hb:b∈fp)(e:h.get? b=some o):(b,o)∈My fp h:=List.mem_filterMap.mpr ⟨b,hb,by rw[e];rfl⟩
def Oq {fp:List Addr}{h:Heap}{p:Addr×Obj}(hp:p∈My fp h):p.1∈fp/\h.get? p.1=some p.2:=by
 obtain⟨b,hb,e⟩:=List.mem_filterMap.mp hp
 cases q:h.get? b with
 |none=>rw[q] at e;cases e
 |some o=>
  rw[q] at e
  have e':(b,o)=p:=Option.some.inj e
  subst e'
  exact⟨hb,q⟩
def Inv.pinned {pins:List (Addr×Obj)}{σ:St}{H:Hp}{s:Shared}{fp:List Addr}(I:Inv X pins σ H s)(hf:∀b∈fp,P0 X pins H b)(ho:∀b∈fp,∃o,s.heap.get? b=some o/\∀v,o.data≠.cell v):Inv X (pins++My fp s.heap) σ H s:=
 I.pins_of fun p hp=>(List.mem_append.mp hp).elim (fun z=>I.pin p (List.mem_append_right _ z)) fun z=>by
  obtain⟨hb,e⟩:=Oq z
  obtain⟨f0,f1,f2,_⟩:=hf p.1 hb
  obtain⟨o,e',d⟩:=ho p.1 hb
  rw[e] at e';cases e'
  exact⟨e,f0,f1,f2,d⟩
def Inv.unpinned {pins pl:List (Addr×Obj)}{σ:St}{H:Hp}{s:Shared}(I:Inv X (pins++pl) σ H s):Inv X pins σ H s:=I.pins_of fun p hp=>I.pin p (List.mem_append_right _ (List.mem_append_left _ hp))
def Rt {iter:Expr}{body:List Stmt}{wi:TI}{g:TG}{tb:TS}{pos:Pos}(hp:PassesOwn (model X.prog X.w) X.A X.env X.xe)(hc:X.calm=true)(hi:PI X tg iter wi)(hg:PG X tg g)(hb:PSs X body tb)(hs:∀x,foldedSetIterable iter X.env x=pure x:=by intro _;rfl):PS X (.For tg iter body [] pos) (Zog wi g tb):=by
 intro pins s σ H D I h
 refine wpAny_For (Yb (hi pins s σ H _ I h) fun v s1 h1=>Yb h1 fun itv s2 h2=>?_) hs
 obtain⟨it,fp,tn,J,H2,e,I2,T,Za3,f2,W,⟨m0,w0⟩,turn⟩:=h2
 subst e
 have stat:∀{H':Hp},(∀b∈fp,H' b=none)->∀b∈fp,P0 X pins H' b:=fun hn b hb=>⟨hn b hb,(f2 b hb).2⟩
 refine codeAny_forLoop_any (fun n s'=>∃i σ' H',Inv X pins σ' H' s'/\tn i s'.heap/\(∀b∈fp,H' b=none)/\W i n σ' H') ?_ m0 ⟨0,σ,H2,I2,Za3,fun b hb=>(f2 b hb).1,w0⟩
 rintro n s3 ⟨i,σ3,H3,I3,st3,fr3,w3⟩
 rcases turn i n σ3 H3 w3 with⟨stop,qn⟩|⟨go,N,hN,step⟩
 ·refine wpAny_passesOwn hp (Yb (T.done X rfl rfl rfl hc i pins s3 σ3 H3 X.xe I3 (stat fr3) st3 stop) fun r s4 ⟨hr,I4⟩=>?_)
  subst hr
  exact wpAny_execs_nil ⟨σ3,H3,I4,qn⟩
 ·refine wpAny_passesOwn hp (Yb (T.item X rfl rfl rfl hc i pins s3 σ3 H3 X.xe I3 (stat fr3) st3 go) fun r s4 ⟨u,hr,h4⟩=>?_)
  subst hr
  refine wpAny_passesOwn hp (Yb h4 fun _ s5 ⟨x,H5,I5,r5,y5,st5,fr5⟩=>?_)
  have I5':=I5.pinned (stat fr5) (T.obj _ _ st5)
  refine wpAny_passesOwn hp (Yb (hg _ s5 σ3 H5 x u _ I5' r5 (step x H5 y5)) fun _ s6 ⟨σ6,H6,I6,q6⟩=>?_)
  refine wpAny_passesOwn hp (Yb (hb _ s6 σ6 H6 _ I6 q6) fun f s7 q7=>?_)
  have again:∀{σ7:St}{H7:Hp},Inv X (pins++My fp s5.heap) σ7 H7 s7->N σ7 H7->∃m,m<n/\∃i σ' H',Inv X pins σ' H' s7/\tn i s7.heap/\(∀b∈fp,H' b=none)/\W i m σ' H':=fun {σ7 H7} I7 n7=>by
   obtain⟨m',hm,w7⟩:=hN σ7 H7 n7
   refine⟨m',hm,i+1,σ7,H7,I7.unpinned,T.keep _ _ _ st5 fun b hb o e=>(I7.pin (b,o) (List.mem_append_right _ (List.mem_append_right _ (Jf hb e)))).1,fun b hb=>?_,w7⟩
   obtain⟨o,e,d⟩:=T.obj _ _ st5 b hb
   exact(I7.pin (b,o) (List.mem_append_right _ (List.mem_append_right _ (Jf hb e)))).2.1
  cases f with
  |next=>obtain⟨σ7,H7,I7,n7⟩:=q7;exact again I7 n7
  |cont=>obtain⟨σ7,H7,I7,n7⟩:=q7;exact again I7 n7
  |brk=>obtain⟨σ7,H7,I7,q7⟩:=q7;exact⟨σ7,H7,I7.unpinned,q7⟩
  |ret v=>obtain⟨x7,σ7,H7,I7,r7,q7⟩:=q7;exact⟨x7,σ7,H7,I7.unpinned,r7,q7⟩
end
abbrev R2:=V->V->Hp->VK->Prop
def OpR (X:Cx)(f:Value->Value->Sem Value)(r:R2):Prop:=
 ∀(pins:List (Addr×Obj)) (s:Shared) (σ:St) (H:Hp) (x y:V) (v u:Value) (Q:VK),Inv X pins σ H s->RelV x v->RelV y u->r x y H Q ->
  wpAny (model X.prog X.w) X.A (f v u) (EP X pins σ Q) X.xe s
def Znv (X:Cx)(f:Value->Sem Value)(r:V->Hp->VK->Prop):Prop:=
 ∀(pins:List (Addr×Obj)) (s:Shared) (σ:St) (H:Hp) (x:V) (v:Value) (Q:VK),Inv X pins σ H s->RelV x v->r x H Q ->
  wpAny (model X.prog X.w) X.A (f v) (EP X pins σ Q) X.xe s
def CallR (X:Cx)(f:Value)(r:List V->Hp->VK->Prop):Prop:=
 ∀(pins:List (Addr×Obj)) (s:Shared) (σ:St) (H:Hp) (xs:List V) (us:List Value) (Q:VK),Inv X pins σ H s->Vals xs us->r xs H Q ->
  wpAny (model X.prog X.w) X.A (call f us) (EP X pins σ Q) X.xe s
def Zlh (r:R2)(ta tb:TE):TE:=fun σ H Q=>ta σ H fun x H1=>tb σ H1 fun y H2=>r x y H2 Q
def Zpv (r:V->Hp->VK->Prop)(ta:TE):TE:=fun σ H Q=>ta σ H fun x H1=>r x H1 Q
def rI (C:Int->Int->Prop)(g:Int->Int->V):R2:=fun x y H Q=>∃i j,x=.int i/\y=.int j/\C i j/\Q (g i j) H
def Ze0 (g:Int->Int->V):R2:=fun x y H Q=>∃i j,x=.int i/\y=.int j/\Q (g i j) H
def rU (g:Int->V):V->Hp->VK->Prop:=fun x H Q=>∃i,x=.int i/\Q (g i) H
section
variable {X:Cx}{a b c:Expr}{ta tb tc:TE}{pos:Pos}
def Zi8 (ha:PE X a ta)(hb:PE X b tb){pins:List (Addr×Obj)}{s:Shared}{σ:St}{H:Hp}{R:V->V->Hp->Prop}(I:Inv X pins σ H s)(h:ta σ H fun x H1=>tb σ H1 fun y H2=>R x y H2){Q:Value->Shared->Prop}{f:Value->Value->Sem Value}(hf:∀v u s2 x y H2,Inv X pins σ H2 s2->RelV x v->RelV y u->R x y H2->wpAny (model X.prog X.w) X.A (f v u) Q X.xe s2):
  wpAny (model X.prog X.w) X.A (eval a X.env) (fun v s₁=>wpAny (model X.prog X.w) X.A (eval b X.env) (fun u s₂=>wpAny (model X.prog X.w) X.A (f v u) Q X.xe s₂) X.xe s₁) X.xe s:=by
 refine Yb (ha pins s σ H _ I h) fun v s1 ⟨x,H1,I1,r1,q1⟩=>?_
 refine Yb (hb pins s1 σ H1 _ I1 q1) fun u s2 ⟨y,H2,I2,r2,q2⟩=>?_
 exact hf v u s2 x y H2 I2 r1 r2 q2
def Zbd {op:Operator}{r:R2}(ho:OpR X (binaryOp op) r)(ha:PE X a ta)(hb:PE X b tb):PE X (.BinOp a op b pos) (Zlh r ta tb):=by
 intro pins s σ H Q I h
 exact wpAny_BinOp (Zi8 ha hb I h fun v u s2 x y H2 I2 rx ry q=>ho pins s2 σ H2 x y v u Q I2 rx ry q)
def Zbe {op:UnaryOp}{r:V->Hp->VK->Prop}(ho:Znv X (unaryOp op) r)(ha:PE X a ta):PE X (.UnaryOp op a pos) (Zpv r ta):=by
 intro pins s σ H Q I h
 exact UnaryOp_ (Yb (ha pins s σ H _ I h) fun v s1 ⟨x,H1,I1,r1,q1⟩=>ho pins s1 σ H1 x v Q I1 r1 q1)
def Znw {f:Value->Value->Sem Value}{C:Int->Int->Prop}{g:Int->Int->Int}(rule:∀(i j:Int) (t u:Tok) (s:Shared) (Q:Value->Shared->Prop) (E:Value->Shared->Prop),C i j->Q (.int (g i j) s.toks) {s with toks:=s.toks+1}->wpAny (model X.prog X.w) X.A (f (.int i t) (.int j u)) Q E s):
  OpR X f (rI C fun i j=>.int (g i j)):=by
 intro pins s σ H x y v u Q I rx ry h
 obtain⟨i,j,rfl,rfl,hc,q⟩:=h
 obtain⟨t,rfl⟩:=rx
 obtain⟨t',rfl⟩:=ry
 exact rule i j t t' s _ _ hc ⟨.int (g i j),H,I.tok _,⟨_,rfl⟩,q⟩
def Zl0 {f:Value->Value->Sem Value}{g:Int->Int->Int}(rule:∀(i j:Int) (t u:Tok) (s:Shared) (Q:Value->Shared->Prop) (E:Value->Shared->Prop),Q (.int (g i j) s.toks) {s with toks:=s.toks+1}->wpAny (model X.prog X.w) X.A (f (.int i t) (.int j u)) Q E s):
  OpR X f (Ze0 fun i j=>.int (g i j)):=by
 intro pins s σ H x y v u Q I rx ry h
 obtain⟨i,j,rfl,rfl,q⟩:=h
 obtain⟨t,rfl⟩:=rx
 obtain⟨t',rfl⟩:=ry
 exact rule i j t t' s _ _ ⟨.int (g i j),H,I.tok _,⟨_,rfl⟩,q⟩
def Ze1 {f:Value->Value->Sem Value}{g:Int->Int->Bool}(rule:∀(i j:Int) (t u:Tok) (s:Shared) (Q:Value->Shared->Prop) (E:Value->Shared->Prop),Q (.bool (g i j)) s->wpAny (model X.prog X.w) X.A (f (.int i t) (.int j u)) Q E s):
  OpR X f (Ze0 fun i j=>.bl (g i j)):=by
 intro pins s σ H x y v u Q I rx ry h
 obtain⟨i,j,rfl,rfl,q⟩:=h
 obtain⟨t,rfl⟩:=rx
 obtain⟨t',rfl⟩:=ry
 exact rule i j t t' s _ _ ⟨.bl (g i j),H,I,rfl,q⟩
def Zoh (i j:Int):Prop:=0<=j/\j<=1000000/\i.natAbs<2 ^ 64
def op_add:OpR X (binaryOp .Add) (Ze0 fun i j=>.int (i+j)):=Zl0 fun _ _ _ _ _ _ _ q=>add_int q
def Zi9:OpR X (binaryOp .Sub) (Ze0 fun i j=>.int (i-j)):=Zl0 fun _ _ _ _ _ _ _ q=>sub_int q
def Ze2:OpR X (binaryOp .Mod) (rI (fun _ j=>j≠0) fun i j=>.int (i.fmod j)):=Znw fun _ _ _ _ _ _ _ hc q=>mod_int' hc q
def Zja:OpR X (binaryOp .Pow) (rI Zoh fun i j=>.int (i ^ j.toNat)):=Znw fun _ _ _ _ _ _ _ hc q=>pow_int_small hc.1 hc.2.1 hc.2.2 q
def Zpw {f:Value->Sem Value}{g:Int->Int}(rule:∀(i:Int) (t:Tok) (s:Shared) (Q:Value->Shared->Prop) (E:Value->Shared->Prop),Q (.int (g i) s.toks) {s with toks:=s.toks+1}->wpAny (model X.prog X.w) X.A (f (.int i t)) Q E s):
  Znv X f (rU fun i=>.int (g i)):=by
 intro pins s σ H x v Q I rx h
 obtain⟨i,rfl,q⟩:=h
 obtain⟨t,rfl⟩:=rx
 exact rule i t s _ _ ⟨.int (g i),H,I.tok _,⟨_,rfl⟩,q⟩
def Zbf:Znv X (unaryOp .USub) (rU fun i=>.int (-i)):=Zpw fun _ _ _ _ _ q=>neg_int q
end
section
variable {X:Cx}{a b c:Expr}{ta tb tc:TE}{pos:Pos}
def Zbg {pins:List (Addr×Obj)}{σ:St}{H:Hp}{s:Shared}{Q:VK}{k k':Bool}(I:Inv X pins σ H s)(q:Q (.bl k) H)(e:k=k'):EP X pins σ Q (.bool k') s:=by
 subst e
 exact⟨.bl k,H,I,rfl,q⟩
def Zl1:OpR X (compareOp .Lt) (Ze0 fun i j=>.bl (decide (i<j))):=Ze1 fun _ _ _ _ _ _ _ q=>lt_int q
def Zl2:OpR X (compareOp .LtE) (Ze0 fun i j=>.bl (decide (i<=j))):=Ze1 fun _ _ _ _ _ _ _ q=>le_int q
def Zl3:OpR X (compareOp .Gt) (Ze0 fun i j=>.bl (decide (j<i))):=Ze1 fun _ _ _ _ _ _ _ q=>gt_int q
def Zl4:OpR X (compareOp .GtE) (Ze0 fun i j=>.bl (decide (j<=i))):=Ze1 fun _ _ _ _ _ _ _ q=>ge_int q
def Zjb:OpR X (compareOp .Is) (fun x y H Q=>y=.non/\Q (.bl (decide (x=.non))) H):=by
 intro pins s σ H x y v u Q I rx ry h
 obtain⟨rfl,q⟩:=h
 cases ry
 refine is_none_gen (Zbg I q ?_)
 cases x<;>first
  |(cases rx;rfl)
  |(obtain⟨t,rfl⟩:=rx;rfl)
def Ze3:OpR X (compareOp .IsNot) (fun x y H Q=>y=.non/\Q (.bl (!decide (x=.non))) H):=by
 intro pins s σ H x y v u Q I rx ry h
 obtain⟨rfl,q⟩:=h
 cases ry
 refine isnot_none_gen (Zbg I q ?_)
 cases x<;>first
  |(cases rx;rfl)
  |(obtain⟨t,rfl⟩:=rx;rfl)
def OpR.or {f:Value->Value->Sem Value}{r r':R2}(h:OpR X f r)(h':OpR X f r'):OpR X f (fun x y H Q=>r x y H Q\/r' x y H Q):=by
 intro pins s σ H x y v u Q I rx ry q
 rcases q with q|q
 ·exact h pins s σ H x y v u Q I rx ry q
 ·exact h' pins s σ H x y v u Q I rx ry q
def Z0 (b:Expr){op:CmpOp}(h:op≠.In:=by decide)(h2:op≠.NotIn:=by decide):behindInMarks op b=false:=by
 have e1:(op==CmpOp.In)=false:=by cases op<;>first|rfl|exact absurd rfl h
 have e2:(op==CmpOp.NotIn)=false:=by cases op<;>first|rfl|exact absurd rfl h2
 cases b<;>simp[behindInMarks,e1,e2]
def Ze4 {op:CmpOp}{r:R2}(ho:OpR X (compareOp op) r)(ha:PE X a ta)(hb:PE X b tb)(hm:behindInMarks op b=false):PE X (.Compare a [op] [b] pos) (Zlh r ta tb):=by
 intro pins s σ H Q I h
 exact wpAny_Compare1 (Zi8 ha hb I h fun v u s2 x y H2 I2 rx ry q=>ho pins s2 σ H2 x y v u Q I2 rx ry q) hm
def Zhu (t:TE):TT:=fun σ H Q=>t σ H fun x H'=>∃k,x=.bl k/\Q k H'
def Mz {op:CmpOp}{r:R2}(ho:OpR X (compareOp op) r)(ha:PE X a ta)(hb:PE X b tb)(hm:behindInMarks op b=false):PT X (.Compare a [op] [b] pos) (Zhu (Zlh r ta tb)):=by
 intro pins s σ H Q I h
 refine wpAny_isTrue_Compare1 (Yb (ha pins s σ H _ I h) fun v s1 ⟨x,H1,I1,r1,q1⟩=>Yb (hb pins s1 σ H1 _ I1 q1) fun u s2 ⟨y,H2,I2,r2,q2⟩=>
  Yb (ho pins s2 σ H2 x y v u _ I2 r1 r2 q2) fun c s3 ⟨z,H3,I3,r3,k,e,q3⟩=>?_) hm
 subst e
 cases r3
 exact wpAny_truthy_bool ⟨H3,I3,q3⟩
def Zbh (r r':R2)(ta tb tc:TE):TE:=fun σ H Q=>ta σ H fun x H1=>tb σ H1 fun y H2=>r x y H2 fun z H3=>∃k,z=.bl k /\
 (if k=true then tc σ H3 fun w' H4=>r' y w' H4 Q else Q (.bl false) H3)
def Zbi {op op':CmpOp}{r r':R2}(ho:OpR X (compareOp op) r)(ho':OpR X (compareOp op') r')(ha:PE X a ta)(hb:PE X b tb)(hc:PE X c tc)(hm:lastMarks [op,op'] [b,c]=false:=by with_unfolding_all rfl):PT X (.Compare a [op,op'] [b,c] pos) (Zhu (Zbh r r' ta tb tc)):=by
 intro pins s σ H Q I h
 refine isTrue_chain (Yb (ha pins s σ H _ I h) fun v s1 ⟨x,H1,I1,r1,q1⟩=>test_link (Yb (hb pins s1 σ H1 _ I1 q1) fun u s2 ⟨y,H2,I2,r2,q2⟩=>
  Yb (ho pins s2 σ H2 x y v u _ I2 r1 r2 q2) fun d s3 ⟨z,H3,I3,r3,k,e,q3⟩=>?_)) hm
 subst e
 cases r3
 refine wpAny_truthy_bool ?_
 cases k with
 |false=>
  obtain⟨k',e',q'⟩:=q3
  cases e'
  exact ite_ff ⟨H3,I3,q'⟩
 |true=>
  refine ite_tt (test_last (Yb (hc pins s3 σ H3 _ I3 q3) fun w' s4 ⟨z',H4,I4,r4,q4⟩=>Yb (ho' pins s4 σ H4 y z' u w' _ I4 r2 r4 q4) fun d' s5 ⟨z2,H5,I5,r5,k2,e2,q5⟩=>?_))
  subst e2
  cases r5
  exact wpAny_truthy_bool ⟨H5,I5,q5⟩
def Nm:(sizeLine:Nat)<2 ^ 63:=by rw[sizeLine_eq];decide
def D4:OpR X (binaryOp .Add) (fun x y H Q=>∃i j,x=.str i/\y=.str j/\i.length+j.length<=sizeLine/\Q (.str (i++j)) H):=by
 intro pins s σ H x y v u Q I rx ry h
 obtain⟨i,j,rfl,rfl,hz,q⟩:=h
 obtain⟨t,rfl⟩:=rx
 obtain⟨t',rfl⟩:=ry
 exact add_str (fun t' tk=>⟨.str (i++j),H,I.tok _,⟨_,rfl⟩,q⟩) hz
def Wq {x:V}{us:List Value}(r:Vals [x] us):∃u,us=[u]/\RelV x u:=by
 cases r with
 |cons r1 r2=>cases r2;exact⟨_,rfl,r1⟩
def Ru {x y:V}{us:List Value}(r:Vals [x,y] us):∃u w',us=[u,w']/\RelV x u/\RelV y w':=by
 cases r with
 |cons r1 r2=>
  cases r2 with
  |cons r3 r4=>cases r4;exact⟨_,_,rfl,r1,r3⟩
def Zbj:CallR X (.builtin "abs") (fun xs H Q=>∃i,xs=[.int i]/\Q (.int (if i<0 then -i else i)) H):=by
 intro pins s σ H xs us Q I r h
 obtain⟨i,rfl,q⟩:=h
 obtain⟨u,rfl,t,rfl⟩:=Wq r
 exact call_abs_int fun u tk=>⟨.int (if i<0 then -i else i),H,I.tok _,⟨_,rfl⟩,q⟩
def Os (hc:X.calm=true):CallR X (.builtin "max") (fun xs H Q=>∃i j,xs=[.int i,.int j]/\Q (.int (if j > i then j else i)) H):=by
 intro pins s σ H xs us Q I r h
 obtain⟨i,j,rfl,q⟩:=h
 obtain⟨u,w',rfl,⟨t,rfl⟩,⟨t',rfl⟩⟩:=Ru r
 refine max_two_ints (I.ok.hd hc) fun h' tk k=>⟨_,H,I.kept k,?_,q⟩
 by_cases hj:j > i
 ·rw[if_pos hj,if_pos hj];exact⟨_,rfl⟩
 ·rw[if_neg hj,if_neg hj];exact⟨_,rfl⟩
def Ot:CallR X (.type "int") (fun xs H Q=>(∃i,xs=[.int i]/\Q (.int i) H)\/∃k,xs=[.bl k]/\Q (.int (if k then 1 else 0)) H):=by
 intro pins s σ H xs us Q I r h
 rcases h with⟨i,rfl,q⟩|⟨k,rfl,q⟩
 ·obtain⟨u,rfl,t,rfl⟩:=Wq r
  exact call_int_int ⟨.int i,H,I,⟨_,rfl⟩,q⟩
 ·obtain⟨u,rfl,r1⟩:=Wq r
  cases r1
  exact call_int_bool ⟨.int (if k then 1 else 0),H,I.tok _,⟨_,rfl⟩,q⟩
end
structure ObjM (h:Heap) (x dx C:Addr) (mA:Str->Option Value):Prop where
 obj:h.get? x=some (PySem.W.instObj C dx)
 ns:h.Ns1 dx mA
 ne:dx≠x
def Ou {h:Heap}{dx:Addr}{mA:Str->Option Value}(n:h.Ns1 dx mA):∃od,h.get? dx=some od/\∀name,PySem.W.lookIn name od=some (mA name):=by
 obtain⟨o,es,ep,ho,hd,hk,_,hm⟩:=n
 refine⟨o,ho,fun name=>?_⟩
 have e:=hm name
 unfold nsFind findBy at e
 rw[<-Array.find?_toList] at e
 unfold PySem.W.lookIn
 rw[hd]
 dsimp only
 split
 ·rename_i y q
  rw[q] at e
  exact congrArg some e
 ·rename_i q
  rw[q] at e
  have a:es.toList.any (·.refKey)=false:=by
   rw[List.any_eq_false]
   intro y hy
   obtain⟨z,t,hkey⟩:=hk y (Array.mem_toList_iff.mp hy)
   simp[DictEntry.refKey,hkey]
  have a':¬es.toList.any (·.refKey)=true:=by rw[a];exact Bool.false_ne_true
  rw[if_neg a']
  exact congrArg some e
def ObjM.look {h:Heap}{x dx C:Addr}{mA:Str->Option Value}(I:ObjM h x dx C mA):∃od,PySem.W.InstAt h x (PySem.W.instObj C dx) C (some od)/\∀name,PySem.W.lookIn name od=some (mA name):=
 let ⟨od,ho,hl⟩:=Ou I.ns
 ⟨od,⟨I.obj,rfl,rfl,ho⟩,hl⟩
section
variable {prog:Program}{w:World}{A:Around}{E:Value->Shared->Prop}{s:Shared}{K:PySem.W.Frag}{x dx C f:Addr}{mA:Str->Option Value}{name:Str}{v:Value}
def Ze5 {expr:Bool}{Q:Value->Shared->Prop}(X:K.In s.heap)(I:ObjM s.heap x dx C mA)(hg:PySem.W.plainGet K C name=true)(hh:PySem.W.hasDictIn K C=true)(ha:PySem.W.findIn K (.ref C) name=some none)(hv:mA name=some v)(hv':PySem.W.handedIn v=true)(h:Q v {s with toks:=s.toks+1}):
  wpAny (model prog w) A (getAttr (.ref x) name expr) Q E s:=by
 obtain⟨od,J,hl⟩:=I.look
 exact PySem.W.get_value X J (PySem.W.plainGet_of hg).1 (PySem.W.findObj_own hh ha rfl (by rw[hl,hv])) hv' h
def Zbk {pl:Sem Bool}{Q:Value×List Value->Shared->Prop}(X:K.In s.heap)(I:ObjM s.heap x dx C mA)(hg:PySem.W.plainGet K C name=true)(hf:PySem.W.findIn K (.ref C) name=some (some (.ref f)))(ht:PySem.W.isFn K (.ref f)=true)(hv:mA name=none)(h:Q (.ref f,[.ref x]) s):
  wpAny (model prog w) A (getMethod (.ref x) name pl) Q E s:=by
 obtain⟨od,J,hl⟩:=I.look
 exact PySem.W.method_fn X J (PySem.W.plainGet_of hg).1 (PySem.W.plainGet_of hg).2 hf (beq_iff_eq.mp ht) (by show(PySem.W.lookIn name od).map (·.isSome)=some false;rw[hl,hv];rfl) h
def Ze6 {ns:List Str}{Q:Unit->Shared->Prop}(X:K.In s.heap)(I:ObjM s.heap x dx C mA)
  (hs:PySem.W.findIn K (.ref C) "__setattr__"=some (some (.builtin "object.__setattr__"))) (hp:PySem.W.plainOver K C=true) (ht:PySem.W.takerIn K C name=some none) (hh:PySem.W.hasDictIn K C=true)
  (hw:PySem.Within mA ns) (hsz:ns.length<=sizeLine)
  (h:∀h',ObjM h' x dx C (fun y=>if y=name then some v else mA y)->Heap.SameBut dx s.heap h'->Q () {s with heap:=h',toks:=s.toks+2}):
  wpAny (model prog w) A (setAttr (.ref x) name v) Q E s:=by
 obtain⟨od,J,hl⟩:=I.look
 refine PySem.W.set_plain X J hs (PySem.W.osa_open (s:={s with toks:=s.toks+1}) (r:=none) X J hp ht fun b=>?_)
 obtain⟨cd,hc,hd'⟩:=PySem.W.any_some hh
 have hx:s.heap.get? x=some ⟨.ref C,some dx,.plain,#[]⟩:=I.obj
 refine wpAny_bind (wpAny_pure (wpAny_bind (wpAny_bind (wpAny_loadPart hx (wpAny_bind (PySem.W.Looks.here (s:={s with toks:=s.toks+1}) (PySem.W.looks_clsIn X hc) ?_))))))
 rw[hd']
 refine wpAny_pure (a:=some dx) (wpAny_bind (wpAny_pure (wpAny_bind ?_)))
 refine wpAny_nsSet1 (s:={s with toks:=s.toks+1}) I.ns fun h' hn2 hs2=>?_
 obtain⟨oD,esD,epD,hoD,hdD,hcD⟩:=hn2.count (PySem.Within.cons name v hw)
 refine wpAny_bind (wpAny_lookBehind hoD (by rw[hdD];exact pastItsLine_dict (Nat.le_trans hcD (by rw[List.length_cons];omega))) ?_)
 exact wpAny_pure (h _ ⟨(hs2.2 _ (Ne.symm I.ne)).trans I.obj,hn2,I.ne⟩ hs2)
def Zbl {R:Result->Shared->Prop}{vs:List Value}{kw:List (Str×Value)}(X:K.In s.heap)(hm:PySem.W.makesIn K C=true)
  (hi:PySem.W.findIn K (.ref C) "__init__"=some (some (.ref f))) (hf:PySem.W.typeIn K (.ref f)=some (.type "function"))
  (h:codeAny (model prog w) (A.under (.builtin "type.__call__" ⟨.ref C::vs,kw⟩)) (.call (.ref f) ⟨.ref (s.heap.objs.size+1)::vs,kw⟩) (PySem.W.InitBack (s.heap.objs.size+1) R)
   {s with heap:=(s.heap.push PySem.W.emptyDict).push (PySem.W.instObj C s.heap.objs.size)}):
  codeAny (model prog w) A (.call (.ref C) ⟨vs,kw⟩) R s:=by
 obtain⟨hh,g,d,t,os⟩:=s
 exact PySem.W.make_core (PySem.W.makes_of X hm) (PySem.W.looks_findIn X hi) (fun self=>PySem.W.bind_fn X self hf) (.inl rfl) h
end
def Yc (f:Str)(v:V):List (Str×V)->List (Str×V)
 |[]=>[(f,v)]
 |(g,x)::r=>if g=f then(g,v)::r else(g,x)::Yc f v r
theorem Qj (f g:Str)(v:V):∀fs:List (Str×V),(Yc f v fs).lookup g=if g=f then some v else fs.lookup g
 |[]=>by
  show List.lookup g [(f,v)]=_
  by_cases h:g=f
  ·have hb:(g==f)=true:=beq_iff_eq.mpr h
   simp only[List.lookup,hb,if_pos h]
  ·have hb:(g==f)=false:=beq_eq_false_iff_ne.mpr h
   simp only[List.lookup,hb,if_neg h]
 |(k,x)::r=>by
  have ih:=Qj f g v r
  rw[show Yc f v ((k,x)::r)=(if k=f then(k,v)::r else(k,x)::Yc f v r) from rfl]
  by_cases hk:k=f
  ·rw[if_pos hk]
   by_cases h:g=k
   ·have hb:(g==k)=true:=beq_iff_eq.mpr h
    simp only[List.lookup,hb,if_pos (h.trans hk)]
   ·have hb:(g==k)=false:=beq_eq_false_iff_ne.mpr h
    simp only[List.lookup,hb,if_neg (fun e:g=f=>h (e.trans hk.symm))]
  ·rw[if_neg hk]
   by_cases h:g=k
   ·have hb:(g==k)=true:=beq_iff_eq.mpr h
    simp only[List.lookup,hb,if_neg (fun e:g=f=>hk (h.symm.trans e))]
   ·have hb:(g==k)=false:=beq_eq_false_iff_ne.mpr h
    simp only[List.lookup,hb]
    exact ih
theorem Nn (f:Str)(v:V):∀fs:List (Str×V),f∈(Yc f v fs).map (·.1)/\∀g,g∈fs.map (·.1)->g∈(Yc f v fs).map (·.1)
 |[]=>⟨by simp[Yc],fun g h=>by simp at h⟩
 |(k,x)::r=>by
  obtain⟨i1,i2⟩:=Nn f v r
  rw[show Yc f v ((k,x)::r)=(if k=f then(k,v)::r else(k,x)::Yc f v r) from rfl]
  by_cases hk:k=f
  ·rw[if_pos hk]
   subst hk
   exact⟨by simp,fun g h=>by simpa using h⟩
  ·rw[if_neg hk]
   refine⟨?_,fun g h=>?_⟩
   ·rw[List.map_cons]
    exact List.mem_cons_of_mem _ i1
   ·rw[List.map_cons] at h ⊢
    rcases List.mem_cons.mp h with e|e
    ·exact List.mem_cons.mpr (.inl e)
    ·exact List.mem_cons_of_mem _ (i2 g e)
theorem Pj (f:Str)(v:V):∀fs:List (Str×V),(Yc f v fs).length<=fs.length+1
 |[]=>by simp[Yc]
 |(k,x)::r=>by
  have ih:=Pj f v r
  rw[show Yc f v ((k,x)::r)=(if k=f then(k,v)::r else(k,x)::Yc f v r) from rfl]
  by_cases hk:k=f
  ·rw[if_pos hk,List.length_cons,List.length_cons];omega
  ·rw[if_neg hk,List.length_cons,List.length_cons];omega
def RelO.some_of {v:V}{o:Option Value}(r:RelO (some v) o):∃u,o=some u/\RelV v u:=by
 cases o with
 |none=>exact(show False from r).elim
 |some u=>exact⟨u,rfl,r⟩
def RelO.none_of {o:Option Value}(r:RelO none o):o=none:=by
 cases o with
 |none=>rfl
 |some u=>exact(show False from r).elim
def Ov {v:V}{u:Value}(r:RelV v u):PySem.W.handedIn u=true:=by
 cases v with
 |non=>cases (show u=Value.none from r);rfl
 |bl b=>cases (show u=Value.bool b from r);rfl
 |int i=>obtain⟨t,e⟩:=(show ∃t,u=Value.int i t from r);cases e;rfl
 |str x=>obtain⟨t,e⟩:=(show ∃t,u=Value.str x t from r);cases e;rfl
 |byt b=>obtain⟨t,e⟩:=(show ∃t,u=Value.bytes b t from r);cases e;rfl
 |flt b=>obtain⟨t,e⟩:=(show ∃t,u=Value.float b t from r);cases e;rfl
 |ref a=>cases (show u=Value.ref a from r);rfl
 |ty n=>cases (show u=Value.type n from r);rfl
section
variable {P:Program}{w:World}{H H':Hp}{h h':Heap}{a C dx:Addr}{fs fs':List (Str×V)}
def M0 (hok:HOk P w H h)(e:H a=some (.ins C dx fs)):∃mA,ObjM h a dx C mA/\(∀f,RelO (fs.lookup f) (mA f))/\PySem.Within mA (fs.map (·.1))/\fs.length<=1000/\H dx=some (.own a):=by
 obtain⟨d,z,ne,ob,mA,n,r,q⟩:=(show ObjOk P w H h a (.ins C dx fs) from hok a _ e)
 exact⟨mA,⟨ob,n,ne⟩,r,q,z,d⟩
end
structure Cls (K:PySem.W.Frag) (C:Addr):Prop where
 pg:PySem.W.plainGet K C Str.empty=true
 hd:PySem.W.hasDictIn K C=true
 po:PySem.W.plainOver K C=true
 sa:PySem.W.findIn K (.ref C) "__setattr__"=some (some (.builtin "object.__setattr__"))
def Cls.get {K:PySem.W.Frag}{C:Addr}(c:Cls K C)(f:Str):PySem.W.plainGet K C f=true:=c.pg
def NoAttr (K:PySem.W.Frag)(C:Addr)(f:Str):Prop:=PySem.W.findIn K (.ref C) f=some none
def NoAttr.taker {K:PySem.W.Frag}{C:Addr}{f:Str}(n:NoAttr K C f):PySem.W.takerIn K C f=some none:=by
 unfold PySem.W.takerIn
 rw[show PySem.W.findIn K (.ref C) f=some none from n]
 rfl
structure Meth (K:PySem.W.Frag) (C:Addr) (m:Str) (f:Addr):Prop where
 at_:PySem.W.findIn K (.ref C) m=some (some (.ref f))
 fn:PySem.W.isFn K (.ref f)=true
 kp:PySem.W.keepIn K (.ref f)=true
section
variable {X:Cx}{pins:List (Addr×Obj)}{σ:St}{H:Hp}{s:Shared}{a C dx:Addr}{fs:List (Str×V)}{f:Str}{v:V}{A:Around}{E:Value->Shared->Prop}
def Rw {b:Bool}{Q:Value->Shared->Prop}(I:Inv X pins σ H s)(e:H a=some (.ins C dx fs))(c:Cls X.K C)(n:NoAttr X.K C f)(l:fs.lookup f=some v)(h:∀u s',Inv X pins σ H s'->RelV v u->Q u s'):wpAny (model X.prog X.w) A (getAttr (.ref a) f b) Q E s:=by
 obtain⟨mA,O,r,_,_,_⟩:=M0 I.hok e
 obtain⟨u,hu,ru⟩:=RelO.some_of (v:=v) (o:=mA f) (by rw[<-l];exact r f)
 exact Ze5 I.kIn O (c.get f) c.hd n hu (Ov ru) (h u _ (I.tok _) ru)
def Rx {m:Str}{g:Addr}{pl:Sem Bool}{Q:Value×List Value->Shared->Prop}(I:Inv X pins σ H s)(e:H a=some (.ins C dx fs))(c:Cls X.K C)(k:Meth X.K C m g)(l:fs.lookup m=none)(h:Q (.ref g,[.ref a]) s):wpAny (model X.prog X.w) A (getMethod (.ref a) m pl) Q E s:=by
 obtain⟨mA,O,r,_,_,_⟩:=M0 I.hok e
 have hn:mA m=none:=RelO.none_of (by rw[<-l];exact r m)
 exact Zbk I.kIn O (c.get m) k.at_ k.fn hn h
def Ry {y:V}{u:Value}{Q:Unit->Shared->Prop}(I:Inv X pins σ H s)(e:H a=some (.ins C dx fs))(c:Cls X.K C)(n:NoAttr X.K C f)(hl:fs.length<1000)(ry:RelV y u)(h:∀s',Inv X pins σ (upd H a (.ins C dx (Yc f y fs))) s'->Q () s'):wpAny (model X.prog X.w) A (setAttr (.ref a) f u) Q E s:=by
 obtain⟨mA,O,r,wi,_,ho⟩:=M0 I.hok e
 have hz:(fs.map (·.1)).length<=sizeLine:=by rw[List.length_map,sizeLine_eq];omega
 refine Ze6 I.kIn O c.sa c.po n.taker c.hd wi hz fun h' O' sb=>h _ ?_
 have hd:∃o,h'.get? dx=some o:=let ⟨o,_,_,e',_⟩:=O'.ns;⟨o,e'⟩
 refine I.write (x:=a) (e:=dx) (by rw[e];exact True.intro) (.inr ho) (fun b q hb z=>(sb.2 b hb).trans z) hd ?_
 refine⟨by rw[Zj O.ne];exact ho,?_,O.ne,O'.obj,_,O'.ns,fun g=>?_,fun g hg=>?_⟩
 ·have:=Pj f y fs;omega
 ·show RelO ((Yc f y fs).lookup g) (if g=f then some u else mA g)
  rw[Qj]
  by_cases q:g=f
  ·rw[if_pos q,if_pos q];exact ry
  ·rw[if_neg q,if_neg q];exact r g
 ·by_cases q:g=f
  ·rw[q];exact(Nn f y fs).1
  ·refine(Nn f y fs).2 g (wi g fun z=>hg ?_)
   show(if g=f then some u else mA g)=none
   rw[if_neg q];exact z
def Inv.made (I:Inv X pins σ H s):Inv X pins σ (upd (upd H s.heap.objs.size (.own (s.heap.objs.size+1))) (s.heap.objs.size+1) (.ins C s.heap.objs.size []))
  {s with heap:=(s.heap.push PySem.W.emptyDict).push (PySem.W.instObj C s.heap.objs.size)}:=by
 have e1:(s.heap.push PySem.W.emptyDict).get? s.heap.objs.size=some PySem.W.emptyDict:=Heap.get?_push_size s.heap rfl
 have e2:((s.heap.push PySem.W.emptyDict).push (PySem.W.instObj C s.heap.objs.size)).get? (s.heap.objs.size+1)=some (PySem.W.instObj C s.heap.objs.size):=by
  have:=Heap.get?_push_size (s.heap.push PySem.W.emptyDict) (o:=PySem.W.instObj C s.heap.objs.size) rfl
  rwa[Heap.size_push] at this
 have e3:(s.heap.push PySem.W.emptyDict).Ns s.heap.objs.size (fun _=>none):=⟨PySem.W.emptyDict,#[],_,e1,rfl,(fun e he=>absurd he (by simp)),fun _=>rfl⟩
 have I1:=I.laid (a:=s.heap.objs.size) (o:=.own (s.heap.objs.size+1)) (h':=s.heap.push PySem.W.emptyDict) (t':=s.toks) (fun b u q=>Heap.get?_push_of_some _ q) (Nat.le_refl _) ⟨_,e1⟩
 refine I1.laid (a:=s.heap.objs.size+1) (o:=.ins C s.heap.objs.size []) (t':=s.toks) (fun b u q=>Heap.get?_push_of_some _ q) (Nat.le_of_eq (Heap.size_push _ _)) ?_
 have ne:s.heap.objs.size≠s.heap.objs.size+1:=Nat.ne_of_lt (Nat.lt_succ_self _)
 refine⟨by rw[Zj ne,Zo],Nat.zero_le _,ne,e2,fun _=>none,(Heap.Ns1.of_empty e3).at fun o q=>Heap.get?_push_of_some _ q,fun _=>True.intro,fun y hy=>absurd rfl hy⟩
def Ze7 {prog:Program}{w:World}{env:Env}{e:Expr}{f:Str}{pos:Pos}{s:Shared}{Q:Value->Shared->Prop}(hb:attributeBase e f env (eval e env)=eval e env)(h:wpAny (model prog w) A (eval e env) (fun o s₁=>wpAny (model prog w) A (getAttr o f true) Q E s₁) E s):wpAny (model prog w) A (eval (.Attribute e f pos) env) Q E s:=
 Attribute_any_ h (by rw[arm_eval_Attribute,hb])
end
def Zoi (K:PySem.W.Frag)(ta:TE)(f:Str):TE:=fun σ H Q=>ta σ H fun x H1=>∃a C dx fs v,x=.ref a/\H1 a=some (.ins C dx fs)/\Cls K C/\NoAttr K C f/\fs.lookup f=some v/\Q v H1
def Zoj (K:PySem.W.Frag)(ta tv:TE)(f:Str):TS:=fun D σ H=>tv σ H fun y H1=>ta σ H1 fun x H2=>∃a C dx fs,x=.ref a/\H2 a=some (.ins C dx fs)/\Cls K C/\NoAttr K C f/\fs.length<1000 /\
 D.nx σ (upd H2 a (.ins C dx (Yc f y fs)))
def Zl5 (X:Cx)(op:Operator)(rd:V->V->Hp->VK->Prop):Prop:=
 ∀(pins:List (Addr×Obj)) (s:Shared) (σ:St) (H:Hp) (x y:V) (u v:Value) (Q:VK),Inv X pins σ H s->RelV x u->RelV y v->rd x y H Q->wpAny (model X.prog X.w) X.A (inplaceOp op u v) (EP X pins σ Q) X.xe s
def Ze8 (K:PySem.W.Frag)(ta tv:TE)(rd:V->V->Hp->VK->Prop)(f:Str):TS:=fun D σ H=>ta σ H fun x H1=>∃a C dx fs v,x=.ref a/\H1 a=some (.ins C dx fs)/\Cls K C/\NoAttr K C f/\fs.lookup f=some v /\
 tv σ H1 fun y H2=>rd v y H2 fun z H3=>∃dx' fs',H3 a=some (.ins C dx' fs')/\fs'.length<1000/\D.nx σ (upd H3 a (.ins C dx' (Yc f z fs')))
section
variable {X:Cx}{o e value:Expr}{f:Str}{pos pos' tpos:Pos}{ta tv:TE}
def Ui (he:PE X e ta)(hb:attributeBase e f X.env (eval e X.env)=eval e X.env):PE X (.Attribute e f pos) (Zoi X.K ta f):=by
 intro pins s σ H Q I h
 refine Ze7 hb (Yb (he pins s σ H _ I h) fun u s1 ⟨x,H1,I1,rx,a,C,dx,fs,v,ex,ea,c,n,l,q⟩=>?_)
 subst ex
 obtain rfl:u=Value.ref a:=rx
 exact Rw I1 ea c n l fun u' s2 I2 ru=>⟨v,H1,I2,ru,q⟩
def M1 (ha:PE X o ta)(hv:PE X value tv)(hs:swapsWith value (some (.Attribute o f pos')) pos.line X.env=pure false):PS X (.Assign [.Attribute o f pos'] value pos) (Zoj X.K ta tv f):=by
 intro pins s σ H D I h
 refine plainObj_wpAny_Assign_Attribute (Yb (hv pins s σ H _ I h) fun u s1 ⟨y,H1,I1,ry,q⟩=>Yb (ha pins s1 σ H1 _ I1 q) fun ov s2 ⟨x,H2,I2,rx,a,C,dx,fs,ex,ea,c,n,l,q2⟩=>?_) hs
 subst ex
 obtain rfl:ov=Value.ref a:=rx
 exact Ry I2 ea c n l ry fun s3 I3=>⟨σ,_,I3,q2⟩
def Ow {op:Operator}{rd:V->V->Hp->VK->Prop}(ha:PE X o ta)(hv:PE X value tv)(hop:Zl5 X op rd):PS X (.AugAssign (.Attribute o f tpos) op value pos) (Ze8 X.K ta tv rd f):=by
 intro pins s σ H D I h
 refine wpAny_AugAssign_AttributeAny (Yb (ha pins s σ H _ I h) fun ov s1 ⟨x,H1,I1,rx,a,C,dx,fs,v,ex,ea,c,n,l,q⟩=>?_)
 subst ex
 obtain rfl:ov=Value.ref a:=rx
 refine Rw I1 ea c n l fun u s2 I2 ru=>Yb (hv pins s2 σ H1 _ I2 q) fun w3 s3 ⟨y,H2,I3,ry,q3⟩=>Yb (hop pins s3 σ H2 v y u w3 _ I3 ru ry q3) fun w4 s4 ⟨z,H3,I4,rz,dx',fs',ea',l',q4⟩=>?_
 exact Ry I4 ea' c n l' rz fun s5 I5=>⟨σ,_,I5,q4⟩
def Zok:V->V->Hp->VK->Prop:=fun x y H Q=>∃i j,x=.int i/\y=.int j/\Q (.int (i+j)) H
def Zjc:Zl5 X .Add Zok:=by
 rintro pins s σ H x y u v Q I rx ry ⟨i,j,rfl,rfl,q⟩
 obtain⟨t,rfl⟩:=(show ∃t,u=Value.int i t from rx)
 obtain⟨t',rfl⟩:=(show ∃t',v=Value.int j t' from ry)
 exact PyProof.Rows.iadd_int ⟨.int (i+j),H,I.tok _,⟨_,rfl⟩,q⟩
end
structure Room (k:Nat) (A:Around):Prop where
 hd:A.handled=none
 dp:A.depth+3*k+5<recursionLimit
 un:A.units+16*k+200<cLine
def Room.mono {j k:Nat}{A:Around}(r:Room k A)(h:j<=k):Room j A:=⟨r.hd,by have:=r.dp;omega,by have:=r.un;omega⟩
theorem Room.deeper {k:Nat}{A:Around}(r:Room (k+1) A)(env:Env):Room k (A.deeper env):=
 ⟨r.hd,by have:=r.dp;show A.depth+1+3*k+5<_;omega,by have:=r.un;show A.units+3+16*k+200<_;omega⟩
def D5 {A:Around}{C:Addr}{us:List Value}{kw:List (Str×Value)}:(A.under (.builtin "type.__call__" ⟨.ref C::us,kw⟩)).depth=A.depth+1:=by
 first|rfl|simp[Around.under,Code.weight,Code.isCreation,Code.isGuard,Code.isCaller,Code.frames,Code.isFrame,guardIds]
def D6 {A:Around}{C:Addr}{us:List Value}{kw:List (Str×Value)}:(A.under (.builtin "type.__call__" ⟨.ref C::us,kw⟩)).units=A.units+1:=by
 first|rfl|simp[Around.under,Code.cUnits,Code.frames,Code.isFrame]
def Room.make {k:Nat}{A:Around}(r:Room (k+1) A)(C:Addr)(us:List Value)(kw:List (Str×Value)):Room k (A.under (.builtin "type.__call__" ⟨.ref C::us,kw⟩)):=
 ⟨r.hd,by have:=r.dp;rw[D5];omega,by have:=r.un;rw[D6];omega⟩
theorem Room.depth {k:Nat}{A:Around}(r:Room k A):A.depth<recursionLimit:=by have:=r.dp;omega
theorem Room.units {k:Nat}{A:Around}(r:Room k A):A.units+64<cLine:=by have:=r.un;omega
def Zjd:TA:=fun _ H Q=>Q [] H
def F2 (ta:TE)(tr:TA):TA:=fun σ H Q=>ta σ H fun x H1=>tr σ H1 fun xs H2=>Q (x::xs) H2
section
variable {X:Cx}{e:Expr}{es:List Expr}{te:TE}{t:TA}{pos:Pos}
def Xz:PA X [] Zjd:=fun _ _ _ _ H Q I h=>Calls.spliced_nil ⟨[],H,I,.nil,h⟩
def Qk (ha:PE X e te)(hr:PA X es t)(hs:starEach (e::es) X.env=(false,eval e X.env)::starEach es X.env:=by rfl):PA X (e::es) (F2 te t):=by
 intro pos pins s σ H Q I h
 rw[hs]
 show wpAny _ _ (spliced ((false,eval e X.env)::backTo pos (starEach es X.env))) _ _ s
 refine Calls.spliced_cons (Yb (ha pins s σ H _ I h) fun u s1 ⟨x,H1,I1,r1,q1⟩=>?_)
 exact Yb (hr pos pins s1 σ H1 _ I1 q1) fun us s2 ⟨xs,H2,I2,r2,q2⟩=>⟨x::xs,H2,I2,.cons r1 r2,q2⟩
def Zol (t:TA):TE:=fun σ H Q=>t σ H fun xs H1=>xs.length<=sizeLine/\∀p,H1 p=none->Q (.ref p) (upd H1 p (.tup xs))
def Zom (t:TA):TE:=fun σ H Q=>t σ H fun xs H1=>xs.length<=sizeLine/\∀p,H1 p=none->Q (.ref p) (upd H1 p (.lst xs))
def M3 {x1}(h:PA X es t):PE X (.Tuple es x1 pos) (Zol t):=by
 intro pins s σ H Q I hq
 refine wpAny_Tuple_spliced (Yb (h pos pins s σ H _ I hq) fun us s1 ⟨xs,H1,I1,r,z,q⟩=>⟨by rw[<-r.length];exact z,?_⟩)
 have hf:H1 s1.heap.objs.size=none:=I1.hok.fresh (Nat.le_refl _)
 refine⟨.ref s1.heap.objs.size,upd H1 s1.heap.objs.size (.tup xs),I1.laid (t':=s1.toks) (fun b u e=>Heap.get?_push_of_some _ e) (Nat.le_refl _) ?_,rfl,q _ hf⟩
 exact⟨z,us,r,⟨_,Heap.get?_push_size _ rfl,rfl,_,rfl⟩⟩
def D7 (h:PA X es t):PE X (.List es pos) (Zom t):=by
 intro pins s σ H Q I hq
 refine wpAny_List_spliced (Yb (h pos pins s σ H _ I hq) fun us s1 ⟨xs,H1,I1,r,z,q⟩=>⟨by rw[<-r.length];exact z,?_⟩)
 have hf:H1 s1.heap.objs.size=none:=I1.hok.fresh (Nat.le_refl _)
 refine⟨.ref s1.heap.objs.size,upd H1 s1.heap.objs.size (.lst xs),I1.laid (t':=s1.toks) (fun b u e=>Heap.get?_push_of_some _ e) (Nat.le_refl _) ?_,rfl,q _ hf⟩
 exact⟨z,us,0,r,Heap.get?_push_size _ rfl⟩
end
abbrev Sp:=List V->Hp->VK->XK->Prop
abbrev Zer:=List Env->Hp->Shared->XK->Value->Shared->Prop
structure Env0 (P:Program) (w:World) (K:PySem.W.Frag) (mg:Str->Option Value) (base:Heap) (A:Around) (outer:List Env) (s:Shared) (H:Hp):Prop where
 frames:A.frames=some outer
 mod:Mod K mg base
 bs:∀b o,base.get? b=some o->s.heap.get? b=some o/\H b=none
 bsz:base.objs.size<=s.heap.objs.size
 funs:s.heap.FunFrames base outer
 frf:∀b∈Fu outer,H b=none
 hok:HOk P w H s.heap
 bare:AllBare s.gens
def CE (outer:List Env)(P:Program)(w:World)(H:Hp)(s:Shared)(Q:VK)(u:Value)(s':Shared):Prop:=
 ∃v H',s'.os=s.os/\AllBare s'.gens/\Un (Fu outer) [] H H' s.heap s'.heap/\HOk P w H' s'.heap/\RelV v u/\Q v H'
def CR (CX:Zer)(outer:List Env)(P:Program)(w:World)(H:Hp)(s:Shared)(Q:VK)(E:XK)(r:Result)(s':Shared):Prop:=
 match r with
 |.ok (.ret u)=>CE outer P w H s Q u s'
 |.ok _=>False
 |.error e=>CX outer H s E e s'
structure FnOk (P:Program) (w:World) (K:PySem.W.Frag) (mg:Str->Option Value) (base:Heap) (CX:Zer) (k:Nat) (f:Addr) (fd:FuncData) (ps:List Str) (sp:Sp):Prop where
 len:∀vs H Q E,sp vs H Q E->vs.length=ps.length
 run:∀(A:Around) (outer:List Env) (s:Shared) (H:Hp) (args:Args) (us:List Value) (vs:List V) (Q:VK) (E:XK),Room k A->Env0 P w K mg base A outer s H->BindsTo s fd args (ps.zip us)->Vals vs us->sp vs H Q E ->
  codeAny (model P w) A (.call (.ref f) args) (CR CX outer P w H s Q E) s
def Env0.make {P:Program}{w:World}{K:PySem.W.Frag}{mg:Str->Option Value}{base:Heap}{A:Around}{outer:List Env}{s:Shared}{H:Hp}(e:Env0 P w K mg base A outer s H)(C:Addr)(us:List Value)(kw:List (Str×Value)):
  Env0 P w K mg base (A.under (.builtin "type.__call__" ⟨.ref C::us,kw⟩)) outer s H:=⟨by first|exact e.frames|(simpa[Around.under,Code.envs,Code.isFrame,pushEnvs] using e.frames),e.mod,e.bs,e.bsz,e.funs,e.frf,e.hok,e.bare⟩
section
variable {X:Cx}{pins:List (Addr×Obj)}{σ:St}{H:Hp}{s s':Shared}
def Inv.env0 (I:Inv X pins σ H s):Env0 X.prog X.w X.K X.mg X.base X.A X.stack s H:=
 ⟨I.ok.frames,I.ok.mod,I.bs,Nat.le_trans I.ok.bsz I.sz,I.stack,I.stkFree,I.hok,I.bare⟩
def Inv.after {Q:VK}{u:Value}(I:Inv X pins σ H s)(h:CE X.stack X.prog X.w H s Q u s'):EP X pins σ Q u s':=by
 obtain⟨v,H',os,bare,un,hok,r,q⟩:=h
 obtain⟨hh,g,d,t,os'⟩:=s'
 obtain rfl:os'=s.os:=os
 exact⟨v,H',I.call (h':=hh) (g':=g) (d':=d) (t':=t) (ch:=[]) un hok bare (fun b z=>absurd z (by simp)),r,q⟩
end
def Zhv (sp:Sp)(dvs:List V)(E:XK)(t:TA):TE:=fun σ H Q=>t σ H fun vs H1=>sp (vs++dvs) H1 Q E
def Zbm (C:Addr)(m:Str)(sp:Sp)(dvs:List V)(E:XK)(ta:TE)(t:TA):TE:=fun σ H Q=>ta σ H fun x H1=>∃a dx fs,x=.ref a/\H1 a=some (.ins C dx fs)/\fs.lookup m=none /\
 t σ H1 fun vs H2=>sp (x::(vs++dvs)) H2 Q E
def Zhw (C:Addr)(sp:Sp)(dvs:List V)(E:XK)(t:TA):TE:=fun σ H Q=>t σ H fun vs H1=>∀x dx,H1 x=none->H1 dx=none->dx≠x ->
 sp (.ref x::(vs++dvs)) (upd (upd H1 dx (.own x)) x (.ins C dx [])) (fun v H2=>v=.non/\Q (.ref x) H2) E
def Binds (K:PySem.W.Frag)(fd:FuncData)(ps:List Str)(ds:List Value):Prop:=
 ∀(s:Shared) (us:List Value),K.In s.heap->(us++ds).length=ps.length->BindsTo s fd ⟨us,[]⟩ (ps.zip (us++ds))
def Binds.all {K:PySem.W.Frag}{fd:FuncData}{ps:List Str}(h:∀us:List Value,us.length=ps.length->bindArgs fd ⟨us,[]⟩=pure (ps.zip us)):Binds K fd ps []:=fun s us _ hl=>by
 rw[List.append_nil] at hl ⊢
 exact .of_eq (h us hl)
def Ws (CX:Zer)(X:Cx)(E:XK):Prop:=∀(pins:List (Addr×Obj)) (σ:St) (H:Hp) (s:Shared) (e:Value) (s':Shared),Inv X pins σ H s->CX X.stack H s E e s'->X.xe e s'
section
variable {X:Cx}{CX:Zer}{k:Nat}{f C:Addr}{fd:FuncData}{ps:List Str}{sp:Sp}{dvs:List V}{ds:List Value}{E:XK}{x m:Str}{p pos apos:Pos}{e o:Expr}{es:List Expr}{ta:TE}{t:TA}
def D8 {pins:List (Addr×Obj)}{σ:St}{H:Hp}{s:Shared}{Q:VK}{us:List Value}{vs:List V}(F:FnOk X.prog X.w X.K X.mg X.base CX k f fd ps sp)(hr:Room k X.A)(hb:Binds X.K fd ps ds)(hd:Vals dvs ds)(hx:Ws CX X E)(I:Inv X pins σ H s)(r:Vals vs us)(h:sp (vs++dvs) H Q E):wpAny (model X.prog X.w) X.A (call (.ref f) us) (EP X pins σ Q) X.xe s:=by
 have r2:Vals (vs++dvs) (us++ds):=r.append hd
 have hl:(us++ds).length=ps.length:=by rw[<-r2.length];exact F.len _ _ _ _ h
 refine wpAny_call (codeAny_mono (F.run X.A X.stack s H ⟨us,[]⟩ (us++ds) (vs++dvs) Q E hr I.env0 (hb s us I.kIn hl) r2 h) fun r s' hq=>?_)
 cases r with
 |error e=>exact hx pins σ H s e s' I hq
 |ok fl=>
  cases fl with
  |ret u=>exact I.after hq
  |next=>exact False.elim hq
  |brk=>exact False.elim hq
  |cont=>exact False.elim hq
def Jy (F:FnOk X.prog X.w X.K X.mg X.base CX k f fd ps sp)(hr:Room k X.A)(hg:Gl X x)(hm:X.mg x=some (.ref f))(hk:PySem.W.keepIn X.K (.ref f)=true)(hb:Binds X.K fd ps ds)(hd:Vals dvs ds)(hx:Ws CX X E)(ha:PA X (e::es) t) (hdb:(x==("__debug__":Str))=false:=by decide) (he:starEach (e::es) X.env=(false,eval e X.env)::starEach es X.env:=by rfl) (hpl:(backTo pos (starEach es X.env)).any (·.1)=false:=by rfl):
  PE X (.Call (.Name x p) (e::es) [] pos) (Zhv sp dvs E t):=by
 intro pins s σ H Q I h
 refine wpAny_Call_Name_kw (Mx I hg hm ?_ hdb)
 refine PySem.W.callWith_K (h₀:=X.base) I.ok.mod.kin hk (Yb (ha pos pins s σ H _ I h) fun us s1 ⟨vs,H1,I1,r,q⟩=>⟨I1.kIn,?_⟩) he hpl
 exact D8 F hr hb hd hx I1 r q
def M4 {pl:Sem Bool}(he:PE X o ta)(c:Cls X.K C)(hm:Meth X.K C m f)(F:FnOk X.prog X.w X.K X.mg X.base CX k f fd ps sp)(hr:Room k X.A)(hb:Binds X.K fd ps ds)(hd:Vals dvs ds)(hx:Ws CX X E)(ha:PA X (e::es) t)(Nk:starEach (e::es) X.env=(false,eval e X.env)::starEach es X.env:=by rfl)(hpl:(backTo pos (starEach es X.env)).any (·.1)=false:=by rfl)(ht:eval (.Call (.Attribute o m apos) (e::es) [] pos) X.env=(do
   let ov <-eval o X.env
   standAt apos.atName
   let (f,first) <-holding [ov] (getMethod ov m pl)
   callWith pos f first (backTo pos (starEach (e::es) X.env)) (backToKw pos (keywordEach [] X.env))):=by rfl):
  PE X (.Call (.Attribute o m apos) (e::es) [] pos) (Zbm C m sp dvs E ta t):=by
 intro pins s σ H Q I h
 refine PySem.W.methodCall_KW (pl:=pl) (Yb (he pins s σ H _ I h) fun u s1 ⟨x,H1,I1,rx,a,dx,fs,ex,ea,l,q⟩=>?_) ht
 subst ex
 obtain rfl:u=Value.ref a:=rx
 refine Rx I1 ea c hm l ?_
 refine PySem.W.callWith_K (first:=[.ref a]) (h₀:=X.base) I.ok.mod.kin hm.kp (Yb (ha pos pins s1 σ H1 _ I1 q) fun us s2 ⟨vs,H2,I2,r,q2⟩=>⟨I2.kIn,?_⟩) Nk hpl
 exact D8 (us:=.ref a::us) (vs:=.ref a::vs) F hr hb hd hx I2 (.cons rfl r) q2
def Au {pl:Sem Bool}(he:PE X o ta)(c:Cls X.K C)(hm:Meth X.K C m f)(F:FnOk X.prog X.w X.K X.mg X.base CX k f fd ps sp)(hr:Room k X.A)(hb:Binds X.K fd ps ds)(hd:Vals dvs ds)(hx:Ws CX X E)(ht:eval (.Call (.Attribute o m apos) [] [] pos) X.env=(do
   let ov <-eval o X.env
   standAt apos.atName
   let (f,first) <-holding [ov] (getMethod ov m pl)
   callWith pos f first (backTo pos (starEach [] X.env)) (backToKw pos (keywordEach [] X.env))):=by rfl):
  PE X (.Call (.Attribute o m apos) [] [] pos) (Zbm C m sp dvs E ta Zjd):=by
 intro pins s σ H Q I h
 refine PySem.W.methodCall_KW (pl:=pl) (Yb (he pins s σ H _ I h) fun u s1 ⟨x,H1,I1,rx,a,dx,fs,ex,ea,l,q⟩=>?_) ht
 subst ex
 obtain rfl:u=Value.ref a:=rx
 refine Rx I1 ea c hm l ?_
 exact PySem.W.callWith_K0 (first:=[.ref a]) I1.kIn hm.kp (D8 (us:=[.ref a]) (vs:=[.ref a]) F hr hb hd hx I1 (.cons rfl .nil) q)
structure Mk (K:PySem.W.Frag) (C f:Addr):Prop where
 makes:PySem.W.makesIn K C=true
 init:PySem.W.findIn K (.ref C) "__init__"=some (some (.ref f))
 fn:PySem.W.isFn K (.ref f)=true
 kp:PySem.W.keepIn K (.ref C)=true
def Zbn {pins:List (Addr×Obj)}{σ:St}{H:Hp}{s:Shared}{Q:VK}{us:List Value}{vs:List V}(M:Mk X.K C f)(F:FnOk X.prog X.w X.K X.mg X.base CX k f fd ps sp)(hr:Room (k+1) X.A)(hb:Binds X.K fd ps ds)(hd:Vals dvs ds)(hx:Ws CX X E)(I:Inv X pins σ H s)(r:Vals vs us)(h:∀x dx,H x=none->H dx=none->dx≠x->sp (.ref x::(vs++dvs)) (upd (upd H dx (.own x)) x (.ins C dx [])) (fun v H2=>v=.non/\Q (.ref x) H2) E):
  wpAny (model X.prog X.w) X.A (call (.ref C) us) (EP X pins σ Q) X.xe s:=by
 have hq:=h (s.heap.objs.size+1) s.heap.objs.size (I.hok.fresh (Nat.le_succ _)) (I.hok.fresh (Nat.le_refl _)) (Nat.ne_of_lt (Nat.lt_succ_self _))
 have I2:=Inv.made (C:=C) I
 have r2:Vals (V.ref (s.heap.objs.size+1)::(vs++dvs)) (Value.ref (s.heap.objs.size+1)::(us++ds)):=.cons rfl (r.append hd)
 have hl:(Value.ref (s.heap.objs.size+1)::us++ds).length=ps.length:=by
  have e:=r2.length
  rw[F.len _ _ _ _ hq] at e
  exact e.symm
 refine wpAny_call (Zbl (f:=f) I.kIn M.makes M.init (beq_iff_eq.mp M.fn) (codeAny_mono (F.run _ X.stack _ _ ⟨Value.ref (s.heap.objs.size+1)::us,[]⟩ (Value.ref (s.heap.objs.size+1)::(us++ds)) _ _ E (hr.make C us [])
  (I2.env0.make C us []) (hb _ (Value.ref (s.heap.objs.size+1)::us) I2.kIn hl) r2 hq) fun r s' hq'=>?_))
 cases r with
 |error e=>exact hx pins σ _ _ e s' I2 hq'
 |ok fl=>
  cases fl with
  |ret u=>
   obtain⟨v,H',I3,rv,ev,q3⟩:=I2.after hq'
   subst ev
   exact⟨rv,⟨V.ref (s.heap.objs.size+1),H',I3,rfl,q3⟩⟩
  |next=>exact False.elim hq'
  |brk=>exact False.elim hq'
  |cont=>exact False.elim hq'
def M5 (M:Mk X.K C f)(F:FnOk X.prog X.w X.K X.mg X.base CX k f fd ps sp)(hr:Room (k+1) X.A)(hg:Gl X x)(hm:X.mg x=some (.ref C))(hb:Binds X.K fd ps ds)(hd:Vals dvs ds)(hx:Ws CX X E)(ha:PA X (e::es) t) (hdb:(x==("__debug__":Str))=false:=by decide) (he:starEach (e::es) X.env=(false,eval e X.env)::starEach es X.env:=by rfl) (hpl:(backTo pos (starEach es X.env)).any (·.1)=false:=by rfl):
  PE X (.Call (.Name x p) (e::es) [] pos) (Zhw C sp dvs E t):=by
 intro pins s σ H Q I h
 refine wpAny_Call_Name_kw (Mx I hg hm ?_ hdb)
 refine PySem.W.callWith_K (h₀:=X.base) I.ok.mod.kin M.kp (Yb (ha pos pins s σ H _ I h) fun us s1 ⟨vs,H1,I1,r,q⟩=>⟨I1.kIn,?_⟩) he hpl
 exact Zbn M F hr hb hd hx I1 r q
end
structure FnScope (N P:List Str) (sc:Scope):Prop where
 kind:sc.kind=.function
 co:sc.isCoroutine=false
 gen:sc.isGenerator=false
 nd:N.Nodup
 pre:N.take P.length=P
 par:∀x∈P,sc.names.lookup x=some .local\/sc.names.lookup x=some .cell
 nofree:∀y∈sc.names,y.2≠.free
theorem Lk {kindOf:Str->Option NameKind}{x:Str}:∀{binds:List (Str×Value)}{m:Str->Option Value},(∀v,(x,v) ∉ binds)->bindL kindOf binds m x=m x
 |[],_,_=>rfl
 |(n,v)::r,m,h=>by
  unfold bindL
  rw[Lk fun w hw=>h w (List.mem_cons_of_mem _ hw)]
  split
  ·have:x≠n:=by rintro rfl;exact h v List.mem_cons_self
   simp[this]
  ·rfl
theorem Ll {kindOf:Str->Option NameKind}{x:Str}:∀{binds:List (Str×Value)}{m:Str->Option Value},(∀v,(x,v) ∉ binds)->bindC kindOf binds m x=m x
 |[],_,_=>rfl
 |(n,v)::r,m,h=>by
  unfold bindC
  rw[Ll fun w hw=>h w (List.mem_cons_of_mem _ hw)]
  split
  ·rfl
  ·have:x≠n:=by rintro rfl;exact h v List.mem_cons_self
   simp[this]
theorem Lm {kindOf:Str->Option NameKind}{x:Str}{v:Value}:∀{P:List Str}{vs:List Value}{i:Nat}{m:Str->Option Value},P.Nodup->P[i]?=some x->vs[i]?=some v->kindOf x=some .local ->
  bindL kindOf (P.zip vs) m x=some v
 |[],_,_,_,_,h,_,_=>by simp at h
 |_::_,[],_,_,_,_,h,_=>by simp at h
 |p::P,w::vs,0,m,nd,h1,h2,hk=>by
  simp at h1 h2;subst h1;subst h2
  show bindL kindOf ((p,w)::P.zip vs) m p=_
  unfold bindL
  rw[Lk fun v hv=>(List.nodup_cons.mp nd).1 (List.of_mem_zip hv).1,if_pos hk]
  simp
 |p::P,w::vs,i+1,m,nd,h1,h2,hk=>by
  show bindL kindOf ((p,w)::P.zip vs) m x=_
  unfold bindL
  exact Lm (i:=i) (List.nodup_cons.mp nd).2 (by simpa using h1) (by simpa using h2) hk
theorem Ln {kindOf:Str->Option NameKind}{x:Str}{v:Value}:∀{P:List Str}{vs:List Value}{i:Nat}{m:Str->Option Value},P.Nodup->P[i]?=some x->vs[i]?=some v->kindOf x≠some .local ->
  bindC kindOf (P.zip vs) m x=some v
 |[],_,_,_,_,h,_,_=>by simp at h
 |_::_,[],_,_,_,_,h,_=>by simp at h
 |p::P,w::vs,0,m,nd,h1,h2,hk=>by
  simp at h1 h2;subst h1;subst h2
  show bindC kindOf ((p,w)::P.zip vs) m p=_
  unfold bindC
  rw[Ll fun v hv=>(List.nodup_cons.mp nd).1 (List.of_mem_zip hv).1,if_neg hk]
  simp
 |p::P,w::vs,i+1,m,nd,h1,h2,hk=>by
  show bindC kindOf ((p,w)::P.zip vs) m x=_
  unfold bindC
  exact Ln (i:=i) (List.nodup_cons.mp nd).2 (by simpa using h1) (by simpa using h2) hk
def Xu (N:List Str)(vs:List V):St:=vs.map some++List.replicate (N.length-vs.length) none
def X0 (CX:Zer)(P:Program)(w:World)(K:PySem.W.Frag)(mg:Str->Option Value)(base:Heap)(N:List Str)(qual:Str)(scope:Scope)(f:Addr)(cd:Value)(A:Around)(outer:List Env)(s:Shared)(H:Hp)(E:XK):Cx where
 prog:=P
 w:=w
 K:=K
 mg:=mg
 base:=base
 A:=A.deeper (envOfC qual scope s.heap.objs.size f cd)
 N:=N
 s₀:=s
 H₀:=H
 env:=envOfC qual scope s.heap.objs.size f cd
 outer:=outer
 stack:=envOfC qual scope s.heap.objs.size f cd::outer
 ex:=[]
 calm:=true
 fn:=fun _=>true
 pn:=[]
 xe:=fun e s'=>wpAny (model P w) (A.deeper (envOfC qual scope s.heap.objs.size f cd)) (leaving (envOfC qual scope s.heap.objs.size f cd) e) (fun _ s''=>CX outer H s E e s'') (fun e' s''=>CX outer H s E e' s'') s'
def Jk {sc:Scope}{n:Nat}{x:Str}(h:sc.names.lookup x=some .cell):∃c,(cellsFrom n sc.names []).lookup x=some c:=by
 have q:=PySem.W.cellsFrom_some sc.names n [] (.inl h)
 exact Option.isSome_iff_exists.mp q
def Ox {CX:Zer}{P:Program}{w:World}{K:PySem.W.Frag}{mg:Str->Option Value}{base:Heap}{N ps:List Str}{qual:Str}{scope:Scope}{f:Addr}{cd:Value}{A:Around}{outer:List Env}{s s1:Shared}{H:Hp}{E:XK}{us:List Value}{vs:List V}(S:FnScope N ps scope)(hd:A.handled=none)(e0:Env0 P w K mg base A outer s H)(hl:vs.length=ps.length)(r:Vals vs us)(x:InCallC s s.heap.objs.size (bindL (envOfC qual scope s.heap.objs.size f cd).kindOf (ps.zip us) fun _=>none) (cellsFrom (s.heap.objs.size+1) scope.names []) (bindC (envOfC qual scope s.heap.objs.size f cd).kindOf (ps.zip us) fun _=>none) s1):
  Inv (X0 CX P w K mg base N qual scope f cd A outer s H E) [] (Xu N vs) H s1:=by
 have hpl:ps.length<=N.length:=by have:=congrArg List.length S.pre;rw[List.length_take] at this;omega
 obtain⟨h1,tk,rfl,hk⟩:=x.done
 have noA:∀b:Addr,b ∉ (X0 CX P w K mg base N qual scope f cd A outer s H E).ex:=fun b z=>absurd (show b∈([]:List Addr) from z) (by simp)
 refine⟨⟨e0.mod,S.kind,rfl,rfl,Nat.le_refl _,fun y z c h1 h2=>?_,fun y hy=>?_,fun y c _ h=>?_,fun _=>hd,Around.frames_deeper e0.frames,.inr ⟨rfl,rfl⟩,fun b z=>absurd z (noA b),e0.bs,e0.bsz,fun b _ _=>noA b,fun b z=>absurd z (noA b),e0.funs,e0.frf⟩,
  rfl,e0.bare,Un.kept hk,⟨_,x.toInCall.ns,fun i y v h1 h2 h3=>?_⟩,fun y c h=>⟨_,x.cell y c h⟩,e0.hok.fresh (Nat.le_refl _),fun y c h=>?_,fun p hp=>absurd (show p∈([]:List (Addr×Obj)) from hp) (by simp),e0.hok.kept hk,?_⟩
 ·exact name_of_addr x.apart (PySem.mem_of_lookup h1) (PySem.mem_of_lookup h2)
 ·have hy:scope.names.lookup y=some .cell\/scope.names.lookup y=some .free:=hy
  rcases hy with hy|hy
  ·exact Jk hy
  ·exact absurd rfl (S.nofree _ (PySem.mem_of_lookup hy))
 ·exact Nat.le_of_lt (x.above y c (PySem.mem_of_lookup h))
 ·have hi:i<vs.length:=by
   unfold Xu at h2
   by_cases hi:i<vs.length
   ·exact hi
   ·rw[List.getElem?_append_right (by simpa using hi)] at h2
    rw[List.getElem?_replicate] at h2
    split at h2<;>cases h2
  have ha:vs[i]?=some v:=by
   unfold Xu at h2
   rw[List.getElem?_append_left (by simpa using hi),List.getElem?_map] at h2
   cases e:vs[i]? with
   |none=>rw[e] at h2;cases h2
   |some a=>rw[e] at h2;cases h2;rfl
  obtain⟨u,hu,rv⟩:=r.get ha
  have hp:ps[i]?=some y:=by
   rw[<-S.pre,List.getElem?_take_of_lt (by omega)];exact h1
  have ndP:ps.Nodup:=by rw[<-S.pre];exact S.nd.sublist (List.take_sublist _ _)
  refine⟨u,rv,?_⟩
  rcases S.par y (List.mem_of_getElem? hp) with k|k
  ·exact .inl ⟨k,Lm ndP hp hu k⟩
  ·obtain⟨c,e⟩:=Jk (n:=s.heap.objs.size+1) k
   refine .inr ⟨.inl k,c,e,?_⟩
   have q:=x.cell y c e
   rw[Ln ndP hp hu (by show scope.names.lookup y≠_;rw[k];decide)] at q
   exact q
 ·exact e0.hok.fresh (Nat.le_of_lt (x.above y c (PySem.mem_of_lookup h)))
 ·unfold Xu
  show _=N.length
  rw[List.length_append,List.length_map,List.length_replicate]
  omega
def Zl6 {CX:Zer}{P:Program}{w:World}{K:PySem.W.Frag}{mg:Str->Option Value}{base:Heap}{k:Nat}{f:Addr}{name qual:Str}{params:Arguments}{body:List Stmt}{scope:Scope}{dV kV doc pm cdv ct oc:Value}{an od:Option Addr}{osl:Array (Option Value)}{N ps:List Str}{sp:Sp}(lk:K.lookup f=some ⟨oc,od,.func (PySem.W.fnOf name qual params body scope dV kV doc pm an cdv ct),osl⟩)(hcd:PySem.W.codeIn K cdv qual=true)(S:FnScope N ps scope)(len:∀vs H Q E,sp vs H Q E->vs.length=ps.length)(hbody:∀(A:Around) (outer:List Env) (s:Shared) (H:Hp) (vs:List V) (Q:VK) (E:XK),Room k (A.deeper (envOfC qual scope s.heap.objs.size f cdv))->sp vs H Q E ->
   ∃t,PSs (X0 CX P w K mg base N qual scope f cdv A outer s H E) body t/\t {nx:=fun _ H'=>Q .non H',rt:=Q} (Xu N vs) H):
  FnOk P w K mg base CX (k+1) f (PySem.W.fnOf name qual params body scope dV kV doc pm an cdv ct) ps sp:=by
 refine⟨len,fun A outer s H args us vs Q E hr e0 hb r hsp=>?_⟩
 have hl:=len _ _ _ _ hsp
 have KX:K.In s.heap:=e0.mod.kin.keeps fun b o e=>(e0.bs b o e).1
 have lim:s.heap.NoLimit:=e0.mod.nolimit.keeps fun b o e=>(e0.bs b o e).1
 have hkind:∀y∈ps.zip us,scope.names.lookup y.1=some .local\/(scope.names.lookup y.1=some .cell/\((cellsFrom (s.heap.objs.size+1) scope.names []).lookup y.1).isSome=true):=fun⟨n,v⟩ hy=>by
  rcases S.par n (List.of_mem_zip hy).1 with q|q
  ·exact .inl q
  ·exact .inr ⟨q,PySem.W.cellsFrom_some _ _ _ (.inl q)⟩
 refine codeAny_call_function hr.depth (KX _ _ lk) rfl S.co S.gen rfl (PySem.W.codeRec_of KX hcd) (hb _ _ _ _ ?_)
 refine wpAny_newFunctionEnv_cells S.kind hkind fun env he s1 x=>?_
 subst he
 refine⟨lim.keeps x.toInCall.keep,codeAny_func ?_⟩
 obtain⟨t,ht,hq⟩:=hbody A outer s H vs Q E (hr.deeper _) hsp
 have I:Inv (X0 CX P w K mg base N qual scope f cdv A outer s H E) [] (Xu N vs) H s1:=Ox S hr.hd e0 hl r x
 refine wpAny_mono (ht [] s1 (Xu N vs) H _ I hq) (fun fl s' hs=>?_) fun e s' hs=>hs
 have fin:∀{σ':St}{H':Hp}{v:V}{u:Value},Inv (X0 CX P w K mg base N qual scope f cdv A outer s H E) [] σ' H' s'->RelV v u->Q v H'->CE outer P w H s Q u s':=
  fun {σ' H' v u} J rv q=>⟨v,H',J.os,J.bare,J.base,J.hok,rv,q⟩
 cases fl with
 |ret u=>
  obtain⟨v,σ',H',J,rv,q⟩:=hs
  exact fin J rv q
 |next=>
  obtain⟨σ',H',J,q⟩:=hs
  exact fin (v:=V.non) (u:=Value.none) J rfl q
 |brk=>
  obtain⟨_,_,_,q⟩:=hs
  exact False.elim q
 |cont=>
  obtain⟨_,_,_,q⟩:=hs
  exact False.elim q
section
variable {X:Cx}{x:Str}{p pos:Pos}{e:Expr}{es:List Expr}{t:TA}{id T:String}{r:List V->Hp->VK->Prop}
def Zon (r:List V->Hp->VK->Prop)(t:TA):TE:=fun σ H Q=>t σ H fun vs H1=>r vs H1 Q
def Av (hc:CallR X (.builtin id) r)(hg:Gl X x)(hm:X.mg x=none)(hv:bootBuiltins x=some (.builtin id))(ha:PA X (e::es) t) (hn:x ≠ "__name__":=by decide) (hdb:(x==("__debug__":Str))=false:=by decide)
  (he:starEach (e::es) X.env=(false,eval e X.env)::starEach es X.env:=by rfl) (hpl:(backTo pos (starEach es X.env)).any (·.1)=false:=by rfl):PE X (.Call (.Name x p) (e::es) [] pos) (Zon r t):=by
 intro pins s σ H Q I h
 refine wpAny_Call_Name_kw (Wr I hg hm hv ?_ hn hdb)
 exact PyProof.Rows.callWith_builtin1 (Yb (ha pos pins s σ H _ I h) fun us s1 ⟨vs,H1,I1,r1,q1⟩=>hc pins s1 σ H1 vs us Q I1 r1 q1) he hpl
def Oy (hc:CallR X (.type T) r)(hg:Gl X x)(hm:X.mg x=none)(hv:bootBuiltins x=some (.type T))(ha:PA X (e::es) t) (hn:x ≠ "__name__":=by decide) (hdb:(x==("__debug__":Str))=false:=by decide)
  (he:starEach (e::es) X.env=(false,eval e X.env)::starEach es X.env:=by rfl) (hpl:(backTo pos (starEach es X.env)).any (·.1)=false:=by rfl):PE X (.Call (.Name x p) (e::es) [] pos) (Zon r t):=by
 intro pins s σ H Q I h
 refine wpAny_Call_Name_kw (Wr I hg hm hv ?_ hn hdb)
 exact PyProof.Rows.callWith_type1 (Yb (ha pos pins s σ H _ I h) fun us s1 ⟨vs,H1,I1,r1,q1⟩=>hc pins s1 σ H1 vs us Q I1 r1 q1) he hpl
end
end L2
namespace HT
open PySem PyProof.Rows
section
variable {prog:Program}{w:World}{A:Around}{E:Value->Shared->Prop}{s:Shared}
def cat_tup {t b:Addr}{vs ws:List Value}{Q:Value->Shared->Prop}(ht:IsTup s.heap t vs.toArray)(hb:IsTup s.heap b ws.toArray)(hv:vs≠[])(h1:ws=[]->Q (.ref t) s) (h2:ws≠[]->Q (.ref s.heap.objs.size) {s with heap:=s.heap.push {cls:=.type "tuple", data:=.seq (vs++ws).toArray}})
  (hsz:vs.length+ws.length<=sizeLine):wpAny (model prog w) A (binaryOp .Add (.ref t) (.ref b)) Q E s:=by
 obtain⟨⟨cls,dd,data,sl⟩,ho,hc,n,hd⟩:=id ht
 obtain⟨⟨cls2,dd2,data2,sl2⟩,ho2,hc2,n2,hd2⟩:=id hb
 simp only at hc hd hc2 hd2
 subst hc hd hc2 hd2
 have e:vs.toArray++ws.toArray=(vs++ws).toArray:=by simp
 by_cases hw:ws=[]
 ·exact concat_meets ⟨_,ho,rfl⟩ ⟨_,ho2,rfl⟩ noFill_tuple_add seq_tuple_add PySem.F.slot_tuple_add PySem.F.entry_tuple_add (PySem.F.args_tuple_add_2 _ _)
   (tuple_addW1 t b vs.toArray ws.toArray n n2 dd dd2 sl sl2 (by simpa using hv) (by simp[hw])) ⟨ho,ho2,h1 hw⟩
 ·refine concat_meets ⟨_,ho,rfl⟩ ⟨_,ho2,rfl⟩ noFill_tuple_add seq_tuple_add PySem.F.slot_tuple_add PySem.F.entry_tuple_add (PySem.F.args_tuple_add_2 _ _)
   (tuple_addW2 t b vs.toArray ws.toArray n n2 dd dd2 sl sl2 (by simpa using hv) (by simpa using hw) (by rw[List.size_toArray,List.size_toArray];exact hsz)) ⟨ho,ho2,?_⟩
  rw[e]
  exact h2 hw
def sIx (n d:Nat):Option Int->Nat
 |none=>d
 |some v=>if v<0 then(v+(n:Int)).toNat else min v.toNat n
def sIx_nat (n d k:Nat):sIx n d (some (k:Int))=min k n:=by
 show(if(k:Int)<0 then((k:Int)+(n:Int)).toNat else min (k:Int).toNat n)=min k n
 rw[if_neg (by omega),Int.toNat_natCast]
def Zje (n d:Nat)(hd:d<=n)(o:Option Int):sIx n d o<=n:=by
 cases o with
 |none=>exact hd
 |some v=>
  show(if v<0 then(v+(n:Int)).toNat else min v.toNat n)<=n
  by_cases hv:v<0
  ·rw[if_pos hv];omega
  ·rw[if_neg hv];exact Nat.min_le_right _ _
def F3 (v:Int)(n d:Nat):(if v<0 then max (v+(n:Int)) 0 else min v (n:Int))=((sIx n d (some v):Nat):Int):=by
 show(if v<0 then max (v+(n:Int)) 0 else min v (n:Int))=(((if v<0 then(v+(n:Int)).toNat else min v.toNat n):Nat):Int)
 by_cases hv:v<0
 ·simp only[if_pos hv];omega
 ·simp only[if_neg hv];omega
def D9 (lo hi:Option Int)(n:Nat):Builtin.Slice.sliceAdjust lo hi 1 (n:Int)=(((sIx n 0 lo:Nat):Int),((sIx n n hi:Nat):Int)):=by
 have h1:¬((1:Int)<0):=by omega
 unfold Builtin.Slice.sliceAdjust
 simp only[h1,if_false]
 refine Prod.ext ?_ ?_
 ·cases lo with
  |none=>rfl
  |some v=>exact F3 v n 0
 ·cases hi with
  |none=>rfl
  |some v=>exact F3 v n n
def Ea (i j:Nat):Builtin.Slice.slicePlaces (i:Int) (j:Int) 1=j-i:=by
 unfold Builtin.Slice.slicePlaces
 have h1:(1:Int) > 0:=by omega
 simp only[h1,if_true,Int.ediv_one]
 split<;>omega
def Rz {v:Value}{o:Option Int}{Q:Option Int->Shared->Prop}(p:IsPart v o)(h:Q o s):wpAny (model prog w) A (Builtin.Slice.slicePartIndex v) Q E s:=by
 cases p with
 |none=>exact slicePart_none h
 |int i t=>exact slicePart_int h
def No {sl:Addr}{vl vu:Value}{lo hi:Option Int}{n:Nat}{Q:Int×Int×Nat->Shared->Prop}(hs:s.heap.IsSliceOf sl vl vu .none)(pl:IsPart vl lo)(pu:IsPart vu hi)(h:Q (((sIx n 0 lo:Nat):Int),1,sIx n n hi-sIx n 0 lo) s):wpAny (model prog w) A (Builtin.Slice.sliceApplied (.ref sl) (pure (n:Int))) Q E s:=by
 obtain⟨os,hos,hcs,hds⟩:=id hs
 unfold Builtin.Slice.sliceApplied Builtin.Slice.sliceFields
 refine wpAny_bind (wpAny_bind (wpAny_field hos hds (x:=vl) rfl (wpAny_bind (wpAny_field hos hds (x:=vu) rfl (wpAny_bind (wpAny_field hos hds (x:=.none) rfl (wpAny_pure ?_)))))))
 refine wpAny_bind (slicePart_none ?_)
 show wpAny _ _ (if((1:Int)==0)=true then _ else _) _ _ s
 rw[if_neg (by decide)]
 refine wpAny_bind (Rz pl (wpAny_bind (Rz pu (wpAny_bind (wpAny_pure ?_)))))
 show wpAny _ _ (match Builtin.Slice.sliceAdjust lo hi 1 (n:Int) with|(lo,hi)=>pure (lo,(1:Int),Builtin.Slice.slicePlaces lo hi 1)) _ _ s
 rw[D9 lo hi n]
 show wpAny _ _ (pure (((sIx n 0 lo:Nat):Int),(1:Int),Builtin.Slice.slicePlaces ((sIx n 0 lo:Nat):Int) ((sIx n n hi:Nat):Int) 1)) _ _ s
 rw[Ea]
 exact wpAny_pure h
def pick_gen (xs:Array Value)(i k:Nat):((List.range k).filterMap fun(m:Nat)=>xs[((i:Int)+(m:Int)*1).toNat]?).toArray=((xs.toList.drop i).take k).toArray:=by
 have e:(fun(m:Nat)=>xs[((i:Int)+(m:Int)*1).toNat]?)=fun m=>xs[i+m]?:=by
  funext m
  have:((i:Int)+(m:Int)*1).toNat=i+m:=by omega
  rw[this]
 rw[e]
 have:=pick_run xs i k
 rw[List.filterMap_map] at this
 have e2:((fun x=>xs[x]?)∘fun x=>i+x)=fun m=>xs[i+m]?:=rfl
 rw[e2] at this
 rw[this]
def getItem_tuple_cut {t sl:Addr}{items:Array Value}{vl vu:Value}{lo hi:Option Int}{Q:Value->Shared->Prop}(ht:IsTup s.heap t items)(hs:s.heap.IsSliceOf sl vl vu .none)(pl:IsPart vl lo)(pu:IsPart vu hi)(hw:¬(sIx items.size 0 lo=0/\sIx items.size items.size hi=items.size))
  (h:Q (.ref s.heap.objs.size) {s with heap:=s.heap.push {cls:=.type "tuple", data:=.seq ((items.toList.drop (sIx items.size 0 lo)).take (sIx items.size items.size hi-sIx items.size 0 lo)).toArray}})
  (hsz:items.size<=sizeLine):wpAny (model prog w) A (getItem (.ref t) (.ref sl)) Q E s:=by
 have htake:sizeOk (.seq ((items.toList.drop (sIx items.size 0 lo)).take (sIx items.size items.size hi-sIx items.size 0 lo)).toArray):=by
  show((items.toList.drop (sIx items.size 0 lo)).take (sIx items.size items.size hi-sIx items.size 0 lo)).toArray.size<=sizeLine
  rw[List.size_toArray,List.length_take,List.length_drop,Array.length_toList]
  omega
 have hj:sIx items.size items.size hi<=items.size:=Zje _ _ (Nat.le_refl _) hi
 obtain⟨os,hos,hcs,hds⟩:=id hs
 have hTs:s.TypeIs (.ref sl) "slice":=⟨os,hos,hcs⟩
 unfold getItem
 try with_reducible refine wpAny_holding ?_
 first|refine wpAny_bind (wpAny_pure ?_)|skip
 refine wpAny_bind (wpAny_sequenceKey ht.typeIs (by decide) ?_)
 refine wpAny_bind (wpAny_callSpecial?_slot (name:=Str.ofString "__getitem__") ht.typeIs PyProof.Rows.slot_tuple_getitem
  (wpAny_call_entry PyProof.Rows.slot_tuple_getitem ht.typeIs entry_tuple_getitem ?_ (args_tuple_getitem _ _)))
 show wpAny _ _ (Builtin.Tuple.tupleItemsOf (.ref t)>>=_) _ _ s
 refine wpAny_bind (tupleItemsOf_ ht ?_)
 refine wpAny_bind (wpAny_typeOf hTs ?_)
 rw[if_pos (by decide)]
 refine wpAny_bind (No hs pl pu ?_)
 have hno:¬((((sIx items.size 0 lo:Nat):Int)==0&&(1:Int)==1&&(sIx items.size items.size hi-sIx items.size 0 lo)==items.size)=true):=by
  intro q
  rw[Bool.and_eq_true,Bool.and_eq_true] at q
  have q1:((sIx items.size 0 lo:Nat):Int)=0:=eq_of_beq q.1.1
  have q2:sIx items.size items.size hi-sIx items.size 0 lo=items.size:=eq_of_beq q.2
  exact hw ⟨by omega,by omega⟩
 show wpAny _ _ (if(((sIx items.size 0 lo:Nat):Int)==0&&(1:Int)==1&&(sIx items.size items.size hi-sIx items.size 0 lo)==items.size)=true then _ else _) _ _ s
 rw[if_neg hno,pick_gen]
 first
  |exact wpAny_bind (m:=Builtin.Tuple.tupleExact _) (wpAny_newObj_type (wpAny_pure ⟨_,rfl,wpAny_pure h⟩) htake)
  |exact wpAny_bind (m:=Builtin.Tuple.tupleExact _) (wpAny_newObj_type (wpAny_bind (wpAny_pure (wpAny_pure ⟨_,rfl,wpAny_pure h⟩))) htake)
  |exact wpAny_bind (wpAny_bind (m:=Builtin.Tuple.tupleExact _) (wpAny_newObj_type (wpAny_pure (wpAny_pure ⟨_,rfl,wpAny_pure h⟩)) htake))
  |exact wpAny_bind (wpAny_bind (m:=Builtin.Tuple.tupleExact _) (wpAny_newObj_type (wpAny_pure ⟨_,rfl,wpAny_pure h⟩) htake))
end
end HT
namespace L2
open PySem PySem.Spec PyProof.Rows
abbrev TO:=St->Hp->(Option Int->Hp->Prop)->Prop
def PO (X:Cx)(e:Option Expr)(t:TO):Prop:=
 ∀(pins:List (Addr×Obj)) (s:Shared) (σ:St) (H:Hp) (Q:Option Int->Hp->Prop),Inv X pins σ H s->t σ H Q ->
  wpAny (model X.prog X.w) X.A (evalPart e X.env) (fun u s'=>∃o H',Inv X pins σ H' s'/\IsPart u o/\Q o H') X.xe s
def Ze9:TO:=fun _ H Q=>Q none H
def Zl7 (t:TE):TO:=fun σ H Q=>t σ H fun x H1=>∃i,x=.int i/\Q (some i) H1
def Eb {ns:List Int}:∀{us:List Value},Vals (ns.map V.int) us->IntsAre us ns:=by
 induction ns with
 |nil=>intro us r;rw[List.map_nil] at r;cases r;exact .nil
 |cons n ns ih=>
  intro us r
  rw[List.map_cons] at r
  cases r with
  |cons r1 r2=>
   obtain⟨t,e⟩:=r1
   subst e
   exact .cons n t (ih r2)
section
variable {X:Cx}{e:Expr}{te:TE}{lo hi:Option Expr}{tl th:TO}{pos p2:Pos}
def Zfa:PO X none Ze9:=by
 intro pins s σ H Q I h
 rw[evalPart_none]
 exact wpAny_pure ⟨none,H,I,.none,h⟩
def Zfb (h:PE X e te):PO X (some e) (Zl7 te):=by
 intro pins s σ H Q I hw
 rw[evalPart_some]
 refine Yb (h pins s σ H _ I hw) fun u s1 ⟨x,H1,I1,r1,q1⟩=>?_
 obtain⟨i,rfl,q⟩:=q1
 obtain⟨t,rfl⟩:=r1
 exact⟨some i,H1,I1,.int i t,q⟩
def SlR (X:Cx)(r:V->Option Int->Option Int->Hp->VK->Prop):Prop:=
 ∀(pins:List (Addr×Obj)) (s:Shared) (σ:St) (H:Hp) (x:V) (v vl vu:Value) (lo hi:Option Int) (sl:Addr) (Q:VK),Inv X pins σ H s->RelV x v->s.heap.IsSliceOf sl vl vu .none->IsPart vl lo->IsPart vu hi->r x lo hi H Q ->
  ∃T id,typeLookup (.type T) "__getitem__"=pure (some (.builtin id))/\s.TypeIs v T/\wpAny (model X.prog X.w) X.A (getItem v (.ref sl)) (EP X pins σ Q) X.xe s
def SlR.or {r r':V->Option Int->Option Int->Hp->VK->Prop}(h:SlR X r)(h':SlR X r'):SlR X (fun x lo hi H Q=>r x lo hi H Q\/r' x lo hi H Q):=by
 intro pins s σ H x v vl vu lo hi sl Q I rx hs pl pu q
 rcases q with q|q
 ·exact h pins s σ H x v vl vu lo hi sl Q I rx hs pl pu q
 ·exact h' pins s σ H x v vl vu lo hi sl Q I rx hs pl pu q
def Zpx (r:V->Option Int->Option Int->Hp->VK->Prop)(te:TE)(tl th:TO):TE:=fun σ H Q=>te σ H fun x H1=>tl σ H1 fun l H2=>th σ H2 fun u H3=>r x l u H3 Q
def Zbo {r:V->Option Int->Option Int->Hp->VK->Prop}(hr:SlR X r)(he:PE X e te)(hl:PO X lo tl)(hu:PO X hi th):PE X (.Subscript e (.Slice lo hi none p2) pos) (Zpx r te tl th):=by
 intro pins s σ H Q I h
 refine Subscript_ (Yb (he pins s σ H _ I h) fun v s1 ⟨x,H1,I1,r1,q1⟩=>?_)
 refine wpAny_Slice (Yb (hl pins s1 σ H1 _ I1 q1) fun vl s2 ⟨l,H2,I2,pl,q2⟩=>Yb (hu pins s2 σ H2 _ I2 q2) fun vu s3 ⟨u,H3,I3,pu,q3⟩=>?_)
 rw[evalPart_none]
 refine wpAny_pure ?_
 have I4:Inv X pins σ H3 {s3 with heap:=s3.heap.push {cls:=.type "slice", data:=.fields #[vl,vu,.none]}}:=I3.kept (t':=s3.toks) fun b ob q=>Heap.get?_push_of_some _ q
 obtain⟨T,id,hT,ht,hg⟩:=hr pins {s3 with heap:=s3.heap.push {cls:=.type "slice", data:=.fields #[vl,vu,.none]}} σ H3 x v vl vu l u s3.heap.objs.size Q I4 r1 (Heap.IsSliceOf.new ..) pl pu q3
 show wpAny (model X.prog X.w) X.A (subscriptTail e (.Slice lo hi none p2) v (.ref s3.heap.objs.size)) (EP X pins σ Q) X.xe {s3 with heap:=s3.heap.push {cls:=.type "slice", data:=.fields #[vl,vu,.none]}}
 exact tail_any (ops:=[.ref s3.heap.objs.size,v]) ht hT hg (by with_unfolding_all rfl)
def Aw (xs:List V)(lo hi:Option Int):List V:=(xs.drop (HT.sIx xs.length 0 lo)).take (HT.sIx xs.length xs.length hi-HT.sIx xs.length 0 lo)
def Pk (xs:List V)(lo hi:Option Int):(Aw xs lo hi).length<=xs.length:=by
 unfold Aw
 rw[List.length_take,List.length_drop]
 omega
def Zoo (K:PySem.W.Frag):V->Option Int->Option Int->Hp->VK->Prop:=fun x lo hi H Q=>∃a xs,x=.ref a/\SqT K H a xs /\
 ¬(HT.sIx xs.length 0 lo=0/\HT.sIx xs.length xs.length hi=xs.length)/\∀p,H p=none->Q (.ref p) (upd H p (.tup (Aw xs lo hi)))
def Zjf:SlR X (Zoo X.K):=by
 intro pins s σ H x v vl vu lo hi sl Q I rx hs pl pu h
 obtain⟨a,xs,rfl,hx,hw,q⟩:=h
 cases rx
 obtain⟨its,r,ht,hz⟩:=I.tuple hx
 have hlen:its.toArray.size=xs.length:=by rw[List.size_toArray];exact r.length.symm
 refine⟨"tuple", _,PyProof.Rows.slot_tuple_getitem.lookup,ht.typeIs,?_⟩
 refine HT.getItem_tuple_cut ht hs pl pu (by rw[hlen];exact hw) ?_ (by rw[hlen];exact hz)
 rw[hlen]
 refine⟨.ref s.heap.objs.size,_,I.laid (t':=s.toks) (o:=.tup (Aw xs lo hi)) (fun b ob q=>Heap.get?_push_of_some _ q) (Nat.le_refl _) ?_,rfl,q _ (I.hok.fresh (Nat.le_refl _))⟩
 exact⟨Nat.le_trans (Pk xs lo hi) hz,_,(r.drop (HT.sIx xs.length 0 lo)).take (HT.sIx xs.length xs.length hi-HT.sIx xs.length 0 lo),IsTup.new _ _⟩
def Zl8 (K:PySem.W.Frag):R2:=fun x y H Q=>∃a b xs ys,x=.ref a/\y=.ref b/\SqT K H a xs/\SqT K H b ys/\xs≠[]/\xs.length+ys.length<=sizeLine /\
 (ys=[]->Q (.ref a) H)/\(ys≠[]->∀p,H p=none->Q (.ref p) (upd H p (.tup (xs++ys))))
def Vals.nil_iff {xs:List V}{us:List Value}(r:Vals xs us):us=[]↔xs=[]:=by
 cases r with
 |nil=>simp
 |cons _ _=>simp
def op_catT:OpR X (binaryOp .Add) (Zl8 X.K):=by
 intro pins s σ H x y v u Q I rx ry h
 obtain⟨a,b,xs,ys,rfl,rfl,ha,hb,hx,hz,q1,q2⟩:=h
 cases rx
 cases ry
 obtain⟨its,r1,p1,_⟩:=I.tuple ha
 obtain⟨its2,r2,p2,_⟩:=I.tuple hb
 refine HT.cat_tup p1 p2 (fun z=>hx (r1.nil_iff.mp z)) (fun z=>⟨.ref a,H,I,rfl,q1 (r2.nil_iff.mp z)⟩) (fun z=>?_) (by rw[<-r1.length,<-r2.length];exact hz)
 refine⟨.ref s.heap.objs.size,_,I.laid (t':=s.toks) (o:=.tup (xs++ys)) (fun b ob q=>Heap.get?_push_of_some _ q) (Nat.le_refl _) ?_,rfl,q2 (fun w=>z (r2.nil_iff.mpr w)) _ (I.hok.fresh (Nat.le_refl _))⟩
 exact⟨by rw[List.length_append];exact hz,_,r1.append r2,IsTup.new _ _⟩
end
def Zfc (n:Nat)(i:Int):Option Nat:=if 0<=i then(if i<n then some i.toNat else none) else if -(n:Int)<=i then some (i+n).toNat else none
def P3 {α:Type}(xs:List α)(i:Int):Option α:=(Zfc xs.length i).bind fun j=>xs[j]?
def F4 {n:Nat}{i:Int}{j:Nat}(h:Zfc n i=some j):seqIndex? i n=some j/\j<n/\-(n:Int)<=i/\i<n:=by
 unfold Zfc at h
 by_cases h0:0<=i
 ·rw[if_pos h0] at h
  by_cases h1:i<n
  ·rw[if_pos h1] at h
   have e:i.toNat=j:=Option.some.inj h
   exact⟨by rw[seqIndex_of h0 h1,e],by omega,by omega,h1⟩
  ·rw[if_neg h1] at h;cases h
 ·rw[if_neg h0] at h
  by_cases h1:-(n:Int)<=i
  ·rw[if_pos h1] at h
   have e:(i+n).toNat=j:=Option.some.inj h
   exact⟨by rw[seqIndex_neg (by omega) h1,e],by omega,h1,by omega⟩
  ·rw[if_neg h1] at h;cases h
def M6 {α:Type}{xs:List α}{i:Int}{v:α}(h:P3 xs i=some v):∃j,seqIndex? i xs.length=some j/\xs[j]?=some v/\j<xs.length/\-(xs.length:Int)<=i/\i<xs.length:=by
 unfold P3 at h
 cases e:Zfc xs.length i with
 |none=>rw[e] at h;cases h
 |some j=>
  rw[e] at h
  obtain⟨h1,h2,h3,h4⟩:=F4 e
  exact⟨j,h1,h,h2,h3,h4⟩
def U9 {α:Type}{xs:List α}{j:Nat}{v:α}(h:xs[j]?=some v):P3 xs (j:Int)=some v:=by
 have hj:j<xs.length:=(List.getElem?_eq_some_iff.mp h).1
 have e:Zfc xs.length (j:Int)=some j:=by
  unfold Zfc
  rw[if_pos (by omega),if_pos (by omega)];simp
 unfold P3;rw[e];exact h
def M7 (b:Expr):Prop:=∀o i,subscripted b false o i=operate [o,i] (getItem o i)
def IxR (X:Cx)(r:R2):Prop:=
 ∀(value slice:Expr) (pins:List (Addr×Obj)) (s:Shared) (σ:St) (H:Hp) (x y:V) (v u:Value) (Q:VK),Inv X pins σ H s->RelV x v->RelV y u->r x y H Q ->
  subscripted slice false v u=operate [v,u] (getItem v u)->wpAny (model X.prog X.w) X.A (subscriptTail value slice v u) (EP X pins σ Q) X.xe s
def Zpk (X:Cx)(id:String)(r:V->List V->Hp->VK->Prop):Prop:=
 ∀(pins:List (Addr×Obj)) (s:Shared) (σ:St) (H:Hp) (x:V) (xs:List V) (v:Value) (us:List Value) (Q:VK),Inv X pins σ H s->RelV x v->Vals xs us->r x xs H Q ->
  wpAny (model X.prog X.w) X.A (call (.builtin id) (v::us)) (EP X pins σ Q) X.xe s
section
variable {X:Cx}{a b:Expr}{ta tb:TE}{pos:Pos}
def IxR.or {r r':R2}(h:IxR X r)(h':IxR X r'):IxR X (fun x y H Q=>r x y H Q\/r' x y H Q):=by
 intro value slice pins s σ H x y v u Q I rx ry q hs
 rcases q with q|q
 ·exact h value slice pins s σ H x y v u Q I rx ry q hs
 ·exact h' value slice pins s σ H x y v u Q I rx ry q hs
def Zhx {r:R2}(hr:IxR X r)(ha:PE X a ta)(hb:PE X b tb)(hs:M7 b):PE X (.Subscript a b pos) (Zlh r ta tb):=by
 intro pins s σ H Q I h
 exact Subscript_ (Zi8 ha hb I h fun v u s2 x y H2 I2 rx ry q=>hr a b pins s2 σ H2 x y v u Q I2 rx ry q (hs _ _))
def Zl9 (K:PySem.W.Frag):R2:=fun x y H Q=>∃p xs i v,x=.ref p/\y=.int i/\SqL K H p xs/\P3 xs i=some v/\Q v H
def Zma (K:PySem.W.Frag):R2:=fun x y H Q=>∃p xs i v,x=.ref p/\y=.int i/\SqT K H p xs/\P3 xs i=some v/\Q v H
def Zmb:R2:=fun x y H Q=>∃z i c,x=.str z/\y=.int i/\z.length<=sizeLine/\P3 z.cps.toList i=some c/\Q (.str ⟨#[c]⟩) H
def ix_list:IxR X (Zl9 X.K):=by
 intro value slice pins s σ H x y v u Q I rx ry h hs
 obtain⟨p,xs,i,z,rfl,rfl,hq,he,q⟩:=h
 cases rx
 obtain⟨t,rfl⟩:=ry
 obtain⟨its,r,pl,hz⟩:=I.list hq
 obtain⟨j,h1,h2,h3,h4,h5⟩:=M6 he
 obtain⟨w,ew,rw'⟩:=r.get h2
 have hl:=r.length
 have hn:=Nm
 have fin:EP X pins σ Q w s:=⟨z,H,I,rw',q⟩
 by_cases h0:0<=i
 ·have hj:i.toNat=j:=by
   rw[seqIndex_of h0 h5] at h1
   exact Option.some.inj h1
  exact item_listR pl.isList h0 (by omega) (by rw[hj];simpa using ew) fin hs
 ·have hj:(i+(its.toArray.size:Int)).toNat=j:=by
   rw[seqIndex_neg (by omega) h4] at h1
   rw[List.size_toArray,<-hl]
   exact Option.some.inj h1
  exact subscriptTail_builtinR (x:=w) pl.isList.typeIs slot_list_getitem.lookup
   (wpAny_getItem_list_neg (Q:=fun r s'=>r=w/\EP X pins σ Q r s') pl.isList (by omega) (by rw[List.size_toArray]<;>omega) (by omega) (by rw[hj];simpa using ew) ⟨rfl,fin⟩) hs
def ix_tup:IxR X (Zma X.K):=by
 intro value slice pins s σ H x y v u Q I rx ry h hs
 obtain⟨p,xs,i,z,rfl,rfl,hq,he,q⟩:=h
 cases rx
 obtain⟨t,rfl⟩:=ry
 obtain⟨its,r,pl,hz⟩:=I.tuple hq
 obtain⟨j,h1,h2,h3,h4,h5⟩:=M6 he
 obtain⟨w,ew,rw'⟩:=r.get h2
 have hl:=r.length
 have hn:=Nm
 have fin:EP X pins σ Q w s:=⟨z,H,I,rw',q⟩
 exact subscriptTail_builtinR (x:=w) pl.typeIs slot_tuple_getitem.lookup
  (getItem_tuple (j:=j) (Q:=fun r s'=>r=w/\EP X pins σ Q r s') pl (by omega) (by omega) (by rw[List.size_toArray,<-hl];exact h1) (by simpa using ew) ⟨rfl,fin⟩) hs
def Zjg:IxR X Zmb:=by
 intro value slice pins s σ H x y v u Q I rx ry h hs
 obtain⟨z,i,c,rfl,rfl,hz,he,q⟩:=h
 obtain⟨t,rfl⟩:=rx
 obtain⟨t',rfl⟩:=ry
 obtain⟨j,h1,h2,h3,h4,h5⟩:=M6 he
 have hl:z.cps.toList.length=z.length:=by simp[Str.length]
 rw[hl] at h1 h4 h5
 have hn:=Nm
 exact tail_any (typeIs_str s z t) slot_str_getitem.lookup (getItem_str (c:=c) (by
  have e1:decide (i < -(2 ^ 63:Int))=false:=decide_eq_false (by omega)
  have e2:decide (i ≥ 2 ^ 63)=false:=decide_eq_false (by omega)
  rw[e1,e2,Bool.or_false]) (by rw[h1];simpa using h2) ⟨.str ⟨#[c]⟩,H,I.tok _,⟨_,rfl⟩,q⟩) hs
def Zpy (K:PySem.W.Frag):R2:=fun x y H Q=>Zl9 K x y H Q\/Zma K x y H Q\/Zmb x y H Q
def Zbp:IxR X (Zpy X.K):=ix_list.or (ix_tup.or Zjg)
def Ec (its:List Value)(n j:Nat)(u:Value):Obj.mapSeq (·.setIfInBounds j u) {cls:=.type "list", data:=.seq its.toArray n}={cls:=.type "list", data:=.seq (its.set j u).toArray n}:=by
 simp[Obj.mapSeq]
theorem Inv.lst {pins:List (Addr×Obj)}{σ:St}{H:Hp}{s:Shared}{p:Addr}{xs:List V}(I:Inv X pins σ H s)(h:H p=some (.lst xs)):
  ∃(its:List Value) (n:Nat),Vals xs its/\s.heap.get? p=some {cls:=.type "list", data:=.seq its.toArray n}/\xs.length<=sizeLine:=by
 obtain⟨z,its,n,r,e⟩:=I.hok p _ h
 exact⟨its,n,r,e,z⟩
def Inv.lstUpd {pins:List (Addr×Obj)}{σ:St}{H:Hp}{s:Shared}{p:Addr}{xs ys:List V}{its its':List Value}{n n':Nat}{f:Obj->Obj}(I:Inv X pins σ H s)(h:H p=some (.lst xs))
  (ho:s.heap.get? p=some {cls:=.type "list", data:=.seq its.toArray n}) (hf:f {cls:=.type "list", data:=.seq its.toArray n}={cls:=.type "list", data:=.seq its'.toArray n'}) (r:Vals ys its') (hz:ys.length<=sizeLine) (t:Nat):
  Inv X pins σ (upd H p (.lst ys)) {s with heap:=s.heap.update p f,toks:=t}:=by
 have e:(s.heap.update p f).get? p=some {cls:=.type "list", data:=.seq its'.toArray n'}:=by
  rw[Heap.get?_update_self f ho (by rw[hf]<;>rfl),hf]
 refine I.write (x:=p) (e:=p) (by rw[h];trivial) (.inl rfl) (fun b u hb q=>(Heap.get?_update_other _ _ (Ne.symm hb)).trans q) ⟨_,e⟩ ?_
 exact⟨hz,its',n',r,e⟩
def Zhy:V->V->V->Hp->(Hp->Prop)->Prop:=fun o i v H Q=>∃p xs k j,o=.ref p/\i=.int k/\H p=some (.lst xs)/\Zfc xs.length k=some j/\Q (upd H p (.lst (xs.set j v)))
def Zbq:Zod X Zhy:=by
 intro pins s σ H o i v ov iv u Q I ro ri rv h
 obtain⟨p,xs,k,j,rfl,rfl,hp,hj,q⟩:=h
 cases ro
 obtain⟨t,rfl⟩:=ri
 obtain⟨its,n,r,ho,hz⟩:=I.lst hp
 obtain⟨h1,h2,h3,h4⟩:=F4 hj
 have hl:=r.length
 have hn:=Nm
 have I':Inv X pins σ (upd H p (.lst (xs.set j v))) {s with heap:=s.heap.update p (Obj.mapSeq (·.setIfInBounds j u))}:=
  I.lstUpd hp ho (Ec its n j u) (r.set rv j) (by rw[List.length_set];exact hz) s.toks
 by_cases h0:0<=k
 ·have hk:k.toNat=j:=by
   rw[seqIndex_of h0 h4] at h1
   exact Option.some.inj h1
  exact PySem.W.ki_setAt ho h0 (by omega) (by rw[List.size_toArray,<-hl];exact h4) (by rw[hk];exact⟨_,I',q⟩)
 ·have hk:(k+(its.toArray.size:Int)).toNat=j:=by
   rw[seqIndex_neg (by omega) h3] at h1
   rw[List.size_toArray,<-hl]
   exact Option.some.inj h1
  exact PySem.W.ki_setBack ho (by omega) (by rw[List.size_toArray,<-hl];exact h3) (by omega) (by rw[hk];exact⟨_,I',q⟩)
def M8 (lo hi:Option Int)(n:Nat):(sliceBounds lo hi none n).1=((HT.sIx n 0 lo:Nat):Int)/\(sliceBounds lo hi none n).2.1=((HT.sIx n n hi:Nat):Int)/\(sliceBounds lo hi none n).2.2=1:=by
 refine⟨?_,?_,rfl⟩
 ·cases lo with
  |none=>simp[sliceBounds,HT.sIx]
  |some i=>
   simp only[sliceBounds,HT.sIx,Option.getD_none,show(1:Int) > 0 by decide,if_true]
   by_cases h:i<0
   ·simp only[h,if_true]<;>omega
   ·simp only[h,if_false]<;>omega
 ·cases hi with
  |none=>simp[sliceBounds,HT.sIx]
  |some i=>
   simp only[sliceBounds,HT.sIx,Option.getD_none,show(1:Int) > 0 by decide,if_true]
   by_cases h:i<0
   ·simp only[h,if_true]<;>omega
   ·simp only[h,if_false]<;>omega
def Tn (its:List Value)(lo hi:Option Int):slicePick its.toArray lo hi none=((its.drop (HT.sIx its.length 0 lo)).take (HT.sIx its.length its.length hi-HT.sIx its.length 0 lo)).toArray:=by
 obtain⟨h1,h2,h3⟩:=M8 lo hi its.toArray.size
 unfold slicePick
 rw[h1,h2,h3]
 simp only[sliceRange_one,pick_run,List.size_toArray]<;>rfl
def Zop (K:PySem.W.Frag):V->Option Int->Option Int->Hp->VK->Prop:=fun x lo hi H Q=>∃a xs,x=.ref a/\SqL K H a xs/\∀p,H p=none->Q (.ref p) (upd H p (.lst (Aw xs lo hi)))
def sl_list:SlR X (Zop X.K):=by
 intro pins s σ H x v vl vu lo hi sl Q I rx hs pl pu h
 obtain⟨a,xs,rfl,hx,q⟩:=h
 cases rx
 obtain⟨its,r,ht,hz⟩:=I.list hx
 have hlen:=r.length
 refine⟨"list", _,slot_list_getitem.lookup,ht.isList.typeIs,?_⟩
 refine wpAny_getItem_list_slice ht.isList hs pl pu .none (by simp) ?_ (by rw[List.size_toArray]<;>omega)
 rw[Tn,<-hlen]
 refine⟨.ref s.heap.objs.size,_,I.laid (t':=s.toks) (o:=.lst (Aw xs lo hi)) (fun b ob q=>Heap.get?_push_of_some _ q) (Nat.le_refl _) ?_,rfl,q _ (I.hok.fresh (Nat.le_refl _))⟩
 exact⟨Nat.le_trans (Pk xs lo hi) hz,_,0,(r.drop (HT.sIx xs.length 0 lo)).take (HT.sIx xs.length xs.length hi-HT.sIx xs.length 0 lo),Heap.get?_push_size _ rfl⟩
def Zbr:V->Bool
 |.non=>true
 |.bl _=>true
 |.int _=>true
 |.str _=>true
 |_=>false
def call_len_seq:CallR X (.builtin "len") (fun xs H Q=>∃p ys,xs=[.ref p]/\(SqL X.K H p ys\/SqT X.K H p ys)/\Q (.int ys.length) H):=by
 intro pins s σ H xs us Q I r h
 obtain⟨p,ys,rfl,hq,q⟩:=h
 obtain⟨u,rfl,rx⟩:=Wq r
 cases rx
 have hn:=Nm
 rcases hq with hq|hq
 ·obtain⟨its,r',pl,hz⟩:=I.list hq
  have hlen:=r'.length
  exact Calls.call_len_list pl.isList (by simp only[List.size_toArray]<;>omega) ⟨.int ys.length,H,I.tok _,⟨s.toks+1,by rw[List.size_toArray,hlen]⟩,q⟩
 ·obtain⟨its,r',pl,hz⟩:=I.tuple hq
  have hlen:=r'.length
  exact len_tuple pl (by simp only[List.size_toArray]<;>omega) ⟨.int ys.length,H,I.tok _,⟨s.toks+1,by rw[List.size_toArray,hlen]⟩,q⟩
def M9:CallR X (.builtin "len") (fun xs H Q=>∃z,xs=[.str z]/\z.length<=sizeLine/\Q (.int z.length) H):=by
 intro pins s σ H xs us Q I r h
 obtain⟨z,rfl,hz,q⟩:=h
 obtain⟨u,rfl,t,rfl⟩:=Wq r
 have hn:=Nm
 exact len_str (by omega) ⟨.int z.length,H,I.tok _,⟨_,rfl⟩,q⟩
def CallR.or {f:Value}{r r':List V->Hp->VK->Prop}(h:CallR X f r)(h':CallR X f r'):CallR X f (fun xs H Q=>r xs H Q\/r' xs H Q):=by
 intro pins s σ H xs us Q I rs q
 rcases q with q|q
 ·exact h pins s σ H xs us Q I rs q
 ·exact h' pins s σ H xs us Q I rs q
def To:CallR X (.type "tuple") (fun xs H Q=>∃p ys,xs=[.ref p]/\((SqL X.K H p ys/\∀l,H l=none->Q (.ref l) (upd H l (.tup ys)))\/(SqT X.K H p ys/\Q (.ref p) H))):=by
 intro pins s σ H xs us Q I r h
 obtain⟨p,ys,rfl,h⟩:=h
 obtain⟨u,rfl,rx⟩:=Wq r
 cases rx
 rcases h with⟨hq,q⟩|⟨hq,q⟩
 ·obtain⟨its,r',pl,hz⟩:=I.list hq
  have hlen:=r'.length
  refine call_tuple_list pl.isList (fun h' kp=>?_) (by simp only[List.size_toArray]<;>omega)
  have I1:Inv X pins σ H {s with heap:=h'}:=I.kept (t':=s.toks) kp
  have I2:Inv X pins σ (upd H h'.objs.size (.tup ys)) {s with heap:=h'.push {cls:=.type "tuple", data:=.seq its.toArray}}:=
   I1.laid (t':=s.toks) (fun b o e=>Heap.get?_push_of_some _ e) (Nat.le_refl _) (show ObjOk X.prog X.w _ _ _ (.tup ys) from⟨hz,its,r',IsTup.new _ _⟩)
  exact⟨.ref h'.objs.size,_,I2,rfl,q _ (I1.hok.fresh (Nat.le_refl _))⟩
 ·obtain⟨its,r',pl,hz⟩:=I.tuple hq
  exact call_tuple_same pl ⟨.ref p,H,I,rfl,q⟩
def Zoq (K:PySem.W.Frag)(T:String)(x:V)(H:Hp):Prop:=match x with
 |.str _=>T="str"
 |.int _=>T="int"
 |.ref p=>(T="list"/\∃xs,SqL K H p xs)\/(T="tuple"/\∃o,K.lookup p=some o/\o.cls=.type "tuple"/\o.dict=none) \/
   (T="dict"/\((∃kvs,H p=some (.dK kvs))\/∃kvs,H p=some (.dT kvs)))\/(T="set"/\∃S n,H p=some (.set S n))
 |_=>False
def Zbs {pins:List (Addr×Obj)}{σ:St}{H:Hp}{s:Shared}{T:String}{x:V}{v:Value}(I:Inv X pins σ H s)(r:RelV x v)(ty:Zoq X.K T x H):
  s.TypeIs v T/\∀a,v=.ref a->∃ob,s.heap.get? a=some ob/\ob.dict=none:=by
 cases x with
 |str z=>
  obtain⟨t,rfl⟩:=r
  cases (show T="str" from ty)
  exact⟨typeIs_str s z t,fun _ e=>nomatch e⟩
 |int i=>
  obtain⟨t,rfl⟩:=r
  cases (show T="int" from ty)
  exact⟨typeIs_int s i t,fun _ e=>nomatch e⟩
 |ref p=>
  cases r
  rcases ty with⟨rfl,xs,hq⟩|⟨rfl,o,hk,hc,hd⟩|⟨rfl,hk⟩|⟨rfl,S,n,hk⟩
  ·obtain⟨its,_,pl,_⟩:=I.list hq
   refine⟨pl.isList.typeIs,fun a e=>?_⟩
   cases e
   obtain⟨o,n,e,c,hd,_⟩:=pl
   exact⟨o,e,hd⟩
  ·refine⟨⟨o,I.kIn p o hk,hc⟩,fun a e=>?_⟩
   cases e
   exact⟨o,I.kIn _ o hk,hd⟩
  ·have z:∃o,s.heap.get? p=some o/\o.ExactDict:=by
    rcases hk with⟨kvs,hk⟩|⟨kvs,hk⟩
    ·obtain⟨_,_,_,_,o,_,_,e,ex,_⟩:=I.hok p _ hk
     exact⟨o,e,ex⟩
    ·obtain⟨_,_,_,_,o,_,_,e,ex,_⟩:=I.hok p _ hk
     exact⟨o,e,ex⟩
   obtain⟨o,e,ex⟩:=z
   refine⟨⟨o,e,ex.1⟩,fun a e2=>?_⟩
   cases e2
   exact⟨o,e,ex.2.1⟩
  ·obtain⟨o,_,_,_,e,ex,_⟩:=I.hok p _ hk
   refine⟨⟨o,e,ex.1⟩,fun a e2=>?_⟩
   cases e2
   exact⟨o,e,ex.2.1⟩
 |_=>exact False.elim ty
def Zor (K:PySem.W.Frag)(T:String)(r:V->List V->Hp->VK->Prop)(to:TE):TE:=fun σ H Q=>to σ H fun x H1=>Zoq K T x H1/\r x [] H1 Q
def Zpz (K:PySem.W.Frag)(T:String)(r:V->List V->Hp->VK->Prop)(to:TE)(t:TA):TE:=fun σ H Q=>to σ H fun x H1=>Zoq K T x H1/\t σ H1 fun xs H2=>r x xs H2 Q
variable {o e:Expr}{es:List Expr}{to:TE}{t:TA}{name:Str}{apos cpos:Pos}{T id:String}{r:V->List V->Hp->VK->Prop}
def Zjh (pa:PlainAttrs T)(slot:Slot T name id) (hty:typeOf (.builtin id)=pure (.type "method_descriptor")) (hm:Zpk X id r) (ho:PE X o to)
  (hbase:attributeBase o name X.env (eval o X.env)=eval o X.env:=by rfl) (hline:(apos.endLine==cpos.line)=true:=by rfl):PE X (.Call (.Attribute o name apos) [] [] cpos) (Zor X.K T r to):=by
 intro pins s σ H Q I h
 refine wpAny_Call_method0_late hbase hline (Yb (ho pins s σ H _ I h) fun v s1 ⟨x,H1,I1,r1,ty,q1⟩=>?_)
 obtain⟨h1,h2⟩:=Zbs I1 r1 ty
 exact⟨T,id,pa,slot,hty,h1,h2,Calls.callWith_builtin rfl (PySem.evalArgs_none (hm pins s1 σ H1 x [] v [] Q I1 r1 .nil q1))⟩
def Zbt (pa:PlainAttrs T)(slot:Slot T name id) (hty:typeOf (.builtin id)=pure (.type "method_descriptor")) (hm:Zpk X id r) (ho:PE X o to) (ha:PA X (e::es) t)
  (hbase:attributeBase o name X.env (eval o X.env)=eval o X.env:=by rfl)
  (hfew:((backTo cpos (starEach (e::es) X.env)).all (fun x=>!x.1)&&(backToKw cpos (keywordEach [] X.env)).all (fun x=>x.1.isSome)
   && decide ((e::es).length+([]:List Keyword).length+(if([]:List Keyword).isEmpty then 0 else 1)<30))=true:=by rfl)
  (hline:(apos.endLine==cpos.line)=true:=by rfl) (hs:starEach (e::es) X.env=(false,eval e X.env)::starEach es X.env:=by rfl) (hplain:(backTo cpos (starEach es X.env)).any (·.1)=false:=by rfl):
  PE X (.Call (.Attribute o name apos) (e::es) [] cpos) (Zpz X.K T r to t):=by
 intro pins s σ H Q I h
 refine wpAny_Call_method_late hbase hfew hline rfl (Yb (ho pins s σ H _ I h) fun v s1 ⟨x,H1,I1,r1,ty,q1⟩=>?_)
 obtain⟨h1,h2⟩:=Zbs I1 r1 ty
 refine⟨T,id,pa,slot,hty,h1,h2,?_⟩
 have hA:=ha cpos pins s1 σ H1 _ I1 q1
 rw[hs] at hA ⊢
 refine Calls.callWith_builtin (by show(false||(backTo cpos (starEach es X.env)).any (·.1))=false;rw[hplain]<;>rfl) (Calls.evalArgs_plain ?_)
 exact Yb hA fun us s2 ⟨vs,H2,I2,r2,q2⟩=>hm pins s2 σ H2 x vs v us Q I2 r1 r2 q2
end
def Zos (X:Cx)(id:String)(r:V->List V->Hp->VK->Prop):Prop:=
 ∀(pins:List (Addr×Obj)) (s:Shared) (σ:St) (H:Hp) (x:V) (xs:List V) (v:Value) (us:List Value) (Q:VK),Inv X pins σ H s->RelV x v->Vals xs us->r x xs H Q ->
  wpAny (model X.prog X.w) X.A (call (.builtin id) (v::us)) (EP X pins σ Q) X.xe s
def Vals.one:∀{x:V}{us:List Value},Vals [x] us->∃u,us=[u]/\RelV x u
 |_,_,.cons r .nil=>⟨_,rfl,r⟩
def Vals.zero:∀{us:List Value},Vals [] us->us=[]
 |_,.nil=>rfl
theorem Vals.dropLast {xs:List V}{us:List Value}(h:Vals xs us):Vals xs.dropLast us.dropLast:=by
 induction h with
 |nil=>exact .nil
 |cons r t ih=>
  cases t with
  |nil=>exact .nil
  |cons q t'=>exact .cons r ih
def Ed {α:Type}(l:List α):l.eraseIdx (l.length-1)=l.dropLast:=by
 induction l with
 |nil=>rfl
 |cons a r ih=>
  cases r with
  |nil=>rfl
  |cons b r=>
   have e:(a::b::r).length-1=((b::r).length-1)+1:=by
    have h1:(a::b::r).length=r.length+2:=rfl
    have h2:(b::r).length=r.length+1:=rfl
    omega
   rw[e,List.eraseIdx_cons_succ,ih]
   all_goals rfl
section
variable {X:Cx}{pins:List (Addr×Obj)}{σ:St}{H:Hp}{s:Shared}{l b:Addr}{xs ys zs:List V}
def Inv.lset {its its':List Value}{n:Nat}{f:Array Value->Array Value}{t':Nat}(I:Inv X pins σ H s)(hH:H l=some (.lst xs))
  (e:s.heap.get? l=some {cls:=.type "list", data:=.seq its.toArray n}) (hf:f its.toArray=its'.toArray) (hv:Vals ys its') (hz:ys.length<=sizeLine):
  Inv X pins σ (upd H l (.lst ys)) {s with heap:=s.heap.update l (Obj.mapSeq f),toks:=t'}:=by
 have q:=PySem.IsL.update e f
 rw[hf] at q
 refine I.write (x:=l) (e:=l) (by rw[hH];exact trivial) (.inl rfl) (fun b' u hb hu=>(Heap.get?_update_other s.heap (Obj.mapSeq f) (Ne.symm hb)).trans hu) ⟨_,q⟩ ?_
 exact⟨hz,its',_,hv,q⟩
def Inv.lnew {its:List Value}{t':Nat}(I:Inv X pins σ H s)(hv:Vals ys its)(hz:ys.length<=sizeLine):
  Inv X pins σ (upd H s.heap.objs.size (.lst ys)) {s with heap:=s.heap.push {cls:=.type "list", data:=.seq its.toArray},toks:=t'}:=
 I.laid (fun _ _ q=>Heap.get?_push_of_some _ q) (Nat.le_refl _) ⟨hz,its,0,hv,Heap.get?_push_size _ rfl⟩
theorem Inv.fresh (I:Inv X pins σ H s):H s.heap.objs.size=none:=I.hok.fresh (Nat.le_refl _)
def Inv.lstM (I:Inv X pins σ H s)(hH:H l=some (.lst xs)):xs.length<=sizeLine/\∃(its:List Value) (n:Nat),Vals xs its/\xs.length=its.length/\s.heap.get? l=some {cls:=.type "list", data:=.seq its.toArray n}:=by
 obtain⟨z,its,n,r,e⟩:=I.hok l _ hH
 exact⟨z,its,n,r,r.length,e⟩
end
section
variable {X:Cx}
def Zfd:V->List V->Hp->VK->Prop:=fun x vs H Q=>∃l xs y,x=.ref l/\vs=[y]/\H l=some (.lst xs)/\xs.length<sizeLine/\Q .non (upd H l (.lst (xs++[y])))
def Wa:Zos X "list.append" Zfd:=by
 intro pins s σ H x vs v us Q I rx rv h
 obtain⟨l,xs,y,rfl,rfl,hH,hz,q⟩:=h
 cases rx
 obtain⟨u,rfl,ru⟩:=rv.one
 obtain⟨z,its,n,r,hl,e⟩:=I.lstM hH
 refine call_meets F.slot_list_append ⟨_,e,rfl⟩ F.entry_list_append (F.args_list_append_2 _ _) (PySem.list_append l its.toArray n u (by rw[List.size_toArray];omega)) ⟨e,?_⟩
 refine⟨.non,_,I.lset (its':=its++[u]) hH e (by simp) (r.append (.cons ru .nil)) ?_,rfl,q⟩
 rw[List.length_append,List.length_singleton]
 omega
def Zot:V->List V->Hp->VK->Prop:=fun x vs H Q=>∃l xs y,x=.ref l/\vs=[]/\H l=some (.lst xs)/\xs[xs.length-1]?=some y/\Q y (upd H l (.lst xs.dropLast))
def Zji:Zos X "list.pop" Zot:=by
 intro pins s σ H x vs v us Q I rx rv h
 obtain⟨l,xs,y,rfl,rfl,hH,hy,q⟩:=h
 cases rx
 have hus:=rv.zero
 subst hus
 obtain⟨z,its,n,r,hl,e⟩:=I.lstM hH
 obtain⟨u,hu,ru⟩:=r.get hy
 have hy':its.toArray[its.toArray.size-1]?=some u:=by
  show its.toArray[its.length-1]?=some u
  rw[<-Array.getElem?_toList,<-hl]
  exact hu
 refine call_meets F.slot_list_pop ⟨_,e,rfl⟩ F.entry_list_pop (F.args_list_pop_1 _) (MeetsSeq.list_pop_last l its.toArray n u hy' (by rw[List.size_toArray];omega)) ⟨e,?_⟩
 refine⟨y,_,I.lset (its':=its.dropLast) hH e ?_ r.dropLast ?_,ru,q⟩
 ·show its.toArray.eraseIdxIfInBounds (its.toArray.size-1)=its.dropLast.toArray
  rw[List.size_toArray,List.eraseIdxIfInBounds_toArray,Ed]
 ·rw[List.length_dropLast]
  omega
end
section
variable {κ:Type} [DecidableEq κ]
def Xo (kvs:List (κ×V))(k:κ):Option V:=(kvs.find? fun kv=>decide (kv.1=k)).map (·.2)
def Jg (kvs:List (κ×V))(k:κ)(v:V):List (κ×V):=
 if(kvs.any fun kv=>decide (kv.1=k))=true then kvs.map (fun kv=>if kv.1=k then(kv.1,v) else kv) else kvs++[(k,v)]
def Y2 {p:κ×V}{r:List (κ×V)}{k:κ}(e:p.1=k):Xo (p::r) k=some p.2:=by simp[Xo,List.find?_cons,e]
def Ys {p:κ×V}{r:List (κ×V)}{k:κ}(e:¬p.1=k):Xo (p::r) k=Xo r k:=by simp[Xo,List.find?_cons,e]
theorem Gf (k:κ):∀kvs:List (κ×V),(kvs.any fun kv=>decide (kv.1=k))=(Xo kvs k).isSome
 |[]=>rfl
 |p::r=>by
  rw[List.any_cons]
  by_cases e:p.1=k
  ·simp only[Y2 e,decide_eq_true e,Bool.true_or,Option.isSome_some]
  ·rw[Ys e,decide_eq_false e,Bool.false_or];exact Gf k r
theorem Ax (k j:κ)(y:V):∀kvs:List (κ×V),Xo (kvs.map fun kv=>if kv.1=k then(kv.1,y) else kv) j=(Xo kvs j).map fun x=>if j=k then y else x
 |[]=>rfl
 |p::r=>by
  have ih:=Ax k j y r
  rw[List.map_cons]
  by_cases h:p.1=k
  ·rw[if_pos h]
   by_cases e:p.1=j
   ·rw[Y2 (p:=(p.1,y)) e,Y2 e,Option.map_some,if_pos (e.symm.trans h)]
   ·rw[Ys (p:=(p.1,y)) e,Ys e,ih]
  ·rw[if_neg h]
   by_cases e:p.1=j
   ·rw[Y2 (p:=p) e,Y2 e,Option.map_some,if_neg (fun z=>h (e.trans z))]
   ·rw[Ys (p:=p) e,Ys e,ih]
theorem Lo (k j:κ)(y:V):∀kvs:List (κ×V),Xo kvs k=none->Xo (kvs++[(k,y)]) j=if j=k then some y else Xo kvs j
 |[],_=>by
  by_cases e:k=j
  ·rw[if_pos e.symm];exact Y2 (p:=(k,y)) e
  ·rw[if_neg (fun z=>e z.symm)];exact Ys (p:=(k,y)) e
 |p::r,hn=>by
  rw[List.cons_append]
  have hk:¬p.1=k:=fun z=>by rw[Y2 z] at hn;cases hn
  rw[Ys hk] at hn
  have ih:=Lo k j y r hn
  by_cases e:p.1=j
  ·rw[Y2 e,Y2 e,if_neg (fun z=>hk (e.trans z))]
  ·rw[Ys e,Ys e,ih]
def Zbu (kvs:List (κ×V))(k j:κ)(y:V):Xo (Jg kvs k y) j=if j=k then some y else Xo kvs j:=by
 unfold Jg
 by_cases a:(kvs.any fun kv=>decide (kv.1=k))=true
 ·rw[if_pos a,Ax]
  rw[Gf] at a
  by_cases e:j=k
  ·obtain⟨x,hx⟩:=Option.isSome_iff_exists.mp a
   rw[if_pos e,e,hx,Option.map_some,if_pos rfl]
  ·rw[if_neg e]
   cases Xo kvs j with
   |none=>rfl
   |some x=>rw[Option.map_some,if_neg e]
 ·rw[if_neg a]
  refine Lo k j y kvs ?_
  rw[Gf] at a
  cases q:Xo kvs k with
  |none=>rfl
  |some x=>rw[q] at a;exact(a rfl).elim
def K6 (kvs:List (κ×V))(k:κ)(v:V):(Jg kvs k v).length<=kvs.length+1:=by
 unfold Jg
 split
 ·rw[List.length_map];omega
 ·rw[List.length_append,List.length_cons,List.length_nil];omega
def RelO.isSome_eq {o:Option V}{u:Option Value}(r:RelO o u):o.isSome=u.isSome:=by
 cases o with
 |none=>cases u with
  |none=>rfl
  |some _=>exact(show False from r).elim
 |some _=>cases u with
  |none=>exact(show False from r).elim
  |some _=>rfl
theorem RelO.getD {o:Option V}{u:Option Value}{d:V}{d':Value}(r:RelO o u)(rd:RelV d d'):RelV (o.getD d) (u.getD d'):=by
 cases o with
 |none=>cases u with
  |none=>exact rd
  |some _=>exact(show False from r).elim
 |some _=>cases u with
  |none=>exact(show False from r).elim
  |some _=>exact r
def KV.val {kvs:List (κ×V)}{vs:List (κ×Value)}(r:KV kvs vs)(k:κ):RelO (Xo kvs k) (valueAt vs k):=by
 unfold KV at r
 induction r with
 |nil=>exact True.intro
 | @cons p q ps qs h t ih=>
  obtain⟨h1,h2⟩:=h
  by_cases e:p.1=k
  ·have e':q.1=k:=h1.symm.trans e
   have b:valueAt (q::qs) k=some q.2:=by simp[valueAt,List.find?_cons,e']
   rw[Y2 e,b];exact h2
  ·have e':¬q.1=k:=fun z=>e (h1.trans z)
   have b:valueAt (q::qs) k=valueAt qs k:=by simp[valueAt,List.find?_cons,e']
   rw[Ys e,b];exact ih
theorem KV.any {kvs:List (κ×V)}{vs:List (κ×Value)}(r:KV kvs vs)(k:κ):(kvs.any fun kv=>decide (kv.1=k))=vs.any fun kv=>decide (kv.1=k):=by
 unfold KV at r
 induction r with
 |nil=>rfl
 |cons h t ih=>rw[List.any_cons,List.any_cons,ih,h.1]
def KV.repl {kvs:List (κ×V)}{vs:List (κ×Value)}(r:KV kvs vs)(k:κ){y:V}{u:Value}(ry:RelV y u):
  KV (kvs.map fun kv=>if kv.1=k then(kv.1,y) else kv) (vs.map fun kv=>if kv.1=k then(kv.1,u) else kv):=by
 unfold KV at r ⊢
 induction r with
 |nil=>exact .nil
 | @cons p q ps qs h t ih=>
  rw[List.map_cons,List.map_cons]
  refine .cons ?_ ih
  obtain⟨h1,h2⟩:=h
  by_cases e:p.1=k
  ·rw[if_pos e,if_pos (h1.symm.trans e)];exact⟨h1,ry⟩
  ·rw[if_neg e,if_neg (fun z=>e (h1.trans z))];exact⟨h1,h2⟩
def KV.put {kvs:List (κ×V)}{vs:List (κ×Value)}(r:KV kvs vs)(k:κ){y:V}{u:Value}(ry:RelV y u):KV (Jg kvs k y) (stored vs k u):=by
 unfold Jg stored
 rw[r.any k]
 by_cases e:(vs.any fun kv=>decide (kv.1=k))=true
 ·rw[if_pos e,if_pos e];exact r.repl k ry
 ·rw[if_neg e,if_neg e];exact Paired.snoc r ⟨rfl,ry⟩
theorem KV.length {kvs:List (κ×V)}{vs:List (κ×Value)}(r:KV kvs vs):kvs.length=vs.length:=Paired.length r
end
def Ay {P:Program}{w:World}{k:Yh}{u:Value}(r:RelV (kV k) u):(Yx P w).is k u=true:=by
 cases k with
 |inl i=>obtain⟨t,e⟩:=(show ∃t,u=Value.int i t from r);subst e;exact An P w i t
 |inr x=>obtain⟨t,e⟩:=(show ∃t,u=Value.str x t from r);subst e;exact Ao P w x t
theorem Lp {P:Program}{w:World}:∀{ks:List Yh}{us:List Value},Vals (ks.map kV) us->ItemsAre (Yx P w) ks us
 |[],_,r=>by rw[List.map_nil] at r;cases r;exact .nil
 |k::ks,_,r=>by
  rw[List.map_cons] at r
  cases r with
  |cons h t=>exact .cons (Ay h) (Lp t)
abbrev KT (H:Hp):List (List Yh×V)->List (List Yh×Addr×Value)->Prop:=Paired fun p q=>p.1=q.1/\H q.2.1=some (.tup (p.1.map kV))/\RelV p.2 q.2.2
def KT.val {H:Hp}{kvs:List (List Yh×V)}{xs:List (List Yh×Addr×Value)}(r:KT H kvs xs)(k:List Yh):RelO (Xo kvs k) ((atKey xs k).map (·.2)):=by
 induction r with
 |nil=>exact True.intro
 | @cons p q ps qs h t ih=>
  obtain⟨h1,_,h2⟩:=h
  by_cases e:p.1=k
  ·have e':q.1=k:=h1.symm.trans e
   have b:atKey (q::qs) k=some q.2:=by simp[atKey,List.find?_cons,e']
   rw[Y2 e,b];exact h2
  ·have e':¬q.1=k:=fun z=>e (h1.trans z)
   have b:atKey (q::qs) k=atKey qs k:=by simp[atKey,List.find?_cons,e']
   rw[Ys e,b];exact ih
def KT.repl {H:Hp}{kvs:List (List Yh×V)}{xs:List (List Yh×Addr×Value)}(r:KT H kvs xs)(k:List Yh){y:V}{u:Value}(ry:RelV y u):
  KT H (kvs.map fun kv=>if kv.1=k then(kv.1,y) else kv) (xs.map (putAt k u)):=by
 induction r with
 |nil=>exact .nil
 | @cons p q ps qs h t ih=>
  rw[List.map_cons,List.map_cons]
  refine .cons ?_ ih
  obtain⟨h1,h2,h3⟩:=h
  unfold putAt
  by_cases e:p.1=k
  ·rw[if_pos e,if_pos (h1.symm.trans e)];exact⟨h1,h2,ry⟩
  ·rw[if_neg e,if_neg (fun z=>e (h1.trans z))];exact⟨h1,h2,h3⟩
def KT.put {H:Hp}{kvs:List (List Yh×V)}{xs:List (List Yh×Addr×Value)}(r:KT H kvs xs)(k:List Yh){b:Addr}{y:V}{u:Value}(hb:H b=some (.tup (k.map kV)))(ry:RelV y u):
  KT H (Jg kvs k y) (storedH xs k b u):=by
 have e:(kvs.any fun kv=>decide (kv.1=k))=(atKey xs k).isSome:=by
  rw[Gf,(r.val k).isSome_eq,Option.isSome_map]
 unfold Jg storedH
 rw[e]
 by_cases q:(atKey xs k).isSome=true
 ·rw[if_pos q,if_pos q];exact r.repl k ry
 ·rw[if_neg q,if_neg q];exact Paired.snoc r ⟨rfl,hb,ry⟩
def KT.keeps {H H':Hp}{kvs:List (List Yh×V)}{xs:List (List Yh×Addr×Value)}(r:KT H kvs xs)(ht:∀b ys,H b=some (.tup ys)->H' b=some (.tup ys)):KT H' kvs xs:=
 Paired.mapP r fun _ _ z=>⟨z.1,ht _ _ z.2.1,z.2.2⟩
section
variable {P:Program}{w:World}{H:Hp}{h:Heap}{a:Addr}
def Zhz {u:HO}(ok:HOk P w H h)(e:Rd H a u):ObjOk P w H h a u:=e.ok ok
def Lq {kvs:List (Yh×V)}(ok:HOk P w H h)(e:Rd H a (.dK kvs)):kvs.length<=sizeLine/\(a==sysModules)=false/\∃vs,KV kvs vs/\h.DictOf (Yx P w) a vs:=
 show ObjOk P w H h a (.dK kvs) from Zhz ok e
def Zmc {kvs:List (Yh×V)}(ok:HOk P w H h)(e:H a=some (.dK kvs)):kvs.length<=sizeLine/\(a==sysModules)=false/\∃vs,KV kvs vs/\h.DictOf (Yx P w) a vs:=Lq ok (.inl e)
def Np {ks:List Yh}(ok:HOk P w H h)(e:H a=some (.tup (ks.map kV))):(tupleKind (Yx P w)).is h ks a:=by
 obtain⟨_,its,r,o,h1,h2,n,h3⟩:=(show ObjOk P w H h a (.tup (ks.map kV)) from ok a _ e)
 exact⟨o,its.toArray,n,h1,h2,h3,by simpa using Lp r⟩
def Lr {kvs:List (List Yh×V)}(ok:HOk P w H h)(e:Rd H a (.dT kvs)):kvs.length<=sizeLine/\(a==sysModules)=false /\
  ∃xs,KT H kvs xs/\h.DictOfH (tupleKind (Yx P w)) a xs:=by
 obtain⟨z,y,xs,r,o,es,ep,h1,h2,h3,h4,h5⟩:=(show ObjOk P w H h a (.dT kvs) from Zhz ok e)
 refine⟨z,y,xs,r,o,es,ep,h1,h2,h3,h4,fun x hx=>?_,h5⟩
 have all:∀{l:List (List Yh×V)}{m:List (List Yh×Addr×Value)},KT H l m->∀x∈m,(tupleKind (Yx P w)).is h x.1 x.2.1:=by
  intro l m q
  induction q with
  |nil=>intro x hx;exact nomatch hx
  | @cons p q ps qs hq t ih=>
   intro x hx
   rcases List.mem_cons.mp hx with e|hx
   ·subst e
    exact Np ok (by rw[<-hq.1];exact hq.2.1)
   ·exact ih x hx
 exact all r x hx
def Zh0 {kvs:List (List Yh×V)}(ok:HOk P w H h)(e:H a=some (.dT kvs)):kvs.length<=sizeLine/\(a==sysModules)=false /\
  ∃xs,KT H kvs xs/\h.DictOfH (tupleKind (Yx P w)) a xs:=Lr ok (.inl e)
end
def DGet (H:Hp)(a:Addr)(y:V)(r:Option V):Prop:=
 (∃kvs k,Rd H a (.dK kvs)/\y=kV k/\r=Xo kvs k)\/∃kvs k b,Rd H a (.dT kvs)/\y=.ref b/\H b=some (.tup (k.map kV))/\r=Xo kvs k
def DPut (H:Hp)(a:Addr)(y v:V)(H':Hp):Prop:=
 (∃kvs k,H a=some (.dK kvs)/\y=kV k/\kvs.length<sizeLine/\H'=upd H a (.dK (Jg kvs k v))) \/
 ∃kvs k b,H a=some (.dT kvs)/\y=.ref b/\H b=some (.tup (k.map kV))/\kvs.length<sizeLine/\H'=upd H a (.dT (Jg kvs k v))
def DGet.t {H:Hp}{a b:Addr}{kvs:List (List Yh×V)}{k:List Yh}(e:H a=some (.dT kvs))(eb:H b=some (.tup (k.map kV))):DGet H a (.ref b) (Xo kvs k):=.inr ⟨kvs,k,b,.inl e,rfl,eb,rfl⟩
def DPut.t {H:Hp}{a b:Addr}{kvs:List (List Yh×V)}{k:List Yh}{v:V}(e:H a=some (.dT kvs))(eb:H b=some (.tup (k.map kV)))(hl:kvs.length<sizeLine):
  DPut H a (.ref b) v (upd H a (.dT (Jg kvs k v))):=.inr ⟨kvs,k,b,e,rfl,eb,hl,rfl⟩
section
variable {X:Cx}{pins:List (Addr×Obj)}{σ:St}{H:Hp}{s:Shared}{a:Addr}{y v:V}{u r:Value}{o:Option V}{A:Around}{E:Value->Shared->Prop}
def Inv.big (I:Inv X pins σ H s):sysModules<s.heap.objs.size:=by
 have h:mainGlobals<s.heap.objs.size:=(I.mod.glob.keeps I.bk).lt
 exact Nat.lt_trans (by decide) h
def Oz {Q:Value->Shared->Prop}(hu:A.units+1<cLine)(I:Inv X pins σ H s)(g:DGet H a y (some v))(ry:RelV y u)(h:∀w' s',Inv X pins σ H s'->RelV v w'->Q w' s'):
  wpAny (model X.prog X.w) A (getItem (.ref a) u) Q E s:=by
 rcases g with⟨kvs,k,e,ey,l⟩|⟨kvs,k,b,e,ey,eb,l⟩
 ·subst ey
  obtain⟨z,hd,vs,rel,dd⟩:=Lq I.hok e
  obtain⟨w',hw,rw'⟩:=RelO.some_of (v:=v) (o:=valueAt vs k) (by rw[l];exact rel.val k)
  exact wpAny_getItem_of (Ay ry) dd.mapOf hw (h w' _ (I.tok _) rw')
 ·subst ey
  cases (show u=Value.ref b from ry)
  obtain⟨z,hd,xs,rel,dd⟩:=Lr I.hok e
  obtain⟨w',hw,rw'⟩:=RelO.some_of (v:=v) (o:=(atKey xs k).map (·.2)) (by rw[l];exact rel.val k)
  obtain⟨p,hp,hp2⟩:=Option.map_eq_some_iff.mp hw
  refine wpAny_getItem_heap (tupleKind_room_in1 hu) (Np I.hok eb) dd hp ?_
  rw[hp2]
  exact h w' _ (I.tok _) rw'
def Zfe {Q:Value->Shared->Prop}(hu:A.units+1<cLine)(I:Inv X pins σ H s)(g:DGet H a y o)(ry:RelV y u)(h:∀s',Inv X pins σ H s'->Q (.bool (!o.isSome)) s'):
  wpAny (model X.prog X.w) A (compareOp .NotIn u (.ref a)) Q E s:=by
 rcases g with⟨kvs,k,e,ey,l⟩|⟨kvs,k,b,e,ey,eb,l⟩
 ·subst ey
  obtain⟨z,hd,vs,rel,dd⟩:=Lq I.hok e
  refine wpAny_notIn_of (Ay ry) hd dd.mapOf ?_
  rw[<-(rel.val k).isSome_eq,<-l]
  exact h _ (I.tok _)
 ·subst ey
  cases (show u=Value.ref b from ry)
  obtain⟨z,hd,xs,rel,dd⟩:=Lr I.hok e
  refine wpAny_notIn_heap (tupleKind_room_in1 hu) (Np I.hok eb) hd dd ?_
  have q:=(rel.val k).isSome_eq
  rw[Option.isSome_map] at q
  rw[<-q,<-l]
  exact h _ (I.tok _)
def Ba {h':Heap}{t':Nat}{ob:HO}(I:Inv X pins σ H s)(mu:Zlp (H a))(hs:Heap.SameBut a s.heap h')(he:∃q,h'.get? a=some q)(new:ObjOk X.prog X.w (upd H a ob) h' a ob):
  Inv X pins σ (upd H a ob) {s with heap:=h',toks:=t'}:=
 I.write (x:=a) (e:=a) mu (.inl rfl) (fun b q hb z=>(hs.2 b hb).trans z) he new
def Zjj {P:Program}{w:World}{H':Hp}{h':Heap}{kvs:List (Yh×V)}{vs:List (Yh×Value)}(z:kvs.length<=sizeLine)(hd:(a==sysModules)=false)(rel:KV kvs vs)(dd:h'.DictOf (Yx P w) a vs):
  ObjOk P w H' h' a (.dK kvs):=⟨z,hd,vs,rel,dd⟩
def O0 {H':Hp}{Q:Unit->Shared->Prop}(hu:A.units+1<cLine)(I:Inv X pins σ H s)(g:DPut H a y v H')(ry:RelV y u)(rv:RelV v r)(h:∀s',Inv X pins σ H' s'->Q () s'):
  wpAny (model X.prog X.w) A (setItem (.ref a) u r) Q E s:=by
 rcases g with⟨kvs,k,e,ey,l,eH⟩|⟨kvs,k,b,e,ey,eb,l,eH⟩
 ·subst ey eH
  obtain⟨z,hd,vs,rel,dd⟩:=Zmc I.hok e
  have hz:vs.length<=sizeLine:=by rw[<-rel.length];exact z
  have hl:(Jg kvs k v).length<=sizeLine:=by have:=K6 kvs k v;omega
  refine wpAny_setItem_pairs (hsz:=hz) (Ay ry) dd fun h' dd' hs=>h _ ?_
  have he:∃q,h'.get? a=some q:=let ⟨q,_,_,hq,_⟩:=dd';⟨q,hq⟩
  exact Ba I (by rw[e];exact True.intro) hs he (Zjj hl hd (rel.put k rv) dd')
 ·subst ey eH
  cases (show u=Value.ref b from ry)
  obtain⟨z,hd,xs,rel,dd⟩:=Zh0 I.hok e
  have hz:xs.length<=sizeLine:=by rw[<-Paired.length rel];exact z
  have hl:(Jg kvs k v).length<=sizeLine:=by have:=K6 kvs k v;omega
  refine wpAny_setItem_heap (hsz:=hz) (tupleKind_room_in1 hu) (Np I.hok eb) dd fun h' dd' hs=>h _ ?_
  obtain⟨q,es,ep,hq,h2,h3,h4,_,h5⟩:=dd'
  refine Ba I (by rw[e];exact True.intro) hs ⟨q,hq⟩ ⟨hl,hd,_,(rel.put k eb rv).keeps fun c ys ec=>?_,q,es,ep,hq,h2,h3,h4,h5⟩
  rw[Zj (Zhr ec e (fun z=>nomatch z))]
  exact ec
end
def Zmd (i:Expr):Prop:=∀ov iv,subscripted i false ov iv=operate [ov,iv] (getItem ov iv)
def Zff {prog:Program}{w:World}{A:Around}{E:Value->Shared->Prop}{s:Shared}{env:Env}{value slice:Expr}{pos:Pos}{T id:String}{Q:Value->Shared->Prop}
  (hl:typeLookup (.type T) "__getitem__"=pure (some (.builtin id))) (hs:Zmd slice)
  (h:wpAny (model prog w) A (eval value env) (fun o s₁=>wpAny (model prog w) A (eval slice env) (fun i s₂=>s₂.TypeIs o T/\wpAny (model prog w) A (getItem o i) Q E s₂) E s₁) E s):
  wpAny (model prog w) A (eval (.Subscript value slice pos) env) Q E s:=by
 refine Subscript_ (wpAny_mono h (fun o s₁ h₁=>wpAny_mono h₁ (fun i s₂ h₂=>?_) fun _ _ x=>x) fun _ _ x=>x)
 obtain⟨hT,h₂⟩:=h₂
 unfold subscriptTail
 refine wpAny_bind ?_
 rw[getitemInPython_of_ne hT.not_modules]
 refine wpAny_bind (wpAny_specialOf hT hl ?_)
 have fin:wpAny (model prog w) A (subscripted slice false o i) (fun r s₃=>wpAny (model prog w) A (letTemporaryGo value o r>>=fun _=>pure r) Q E s₃) E s₂:=by
  rw[hs o i]
  exact wpAny_operating (wpAny_mono h₂ (fun r s₃ h₃=>wpAny_bind (wpAny_letTemporaryGo (wpAny_pure h₃))) fun _ _ x=>x)
 first
  |exact wpAny_pure (wpAny_bind fin)
  |exact wpAny_bind (wpAny_pure (wpAny_bind fin))
  |exact wpAny_bind fin
def Az {X:Cx}{pins:List (Addr×Obj)}{σ:St}{H:Hp}{s:Shared}{a:Addr}{y:V}{o:Option V}(I:Inv X pins σ H s)(g:DGet H a y o):s.TypeIs (.ref a) "dict":=by
 rcases g with⟨kvs,k,e,_,_⟩|⟨kvs,k,b,e,_,_,_⟩
 ·obtain⟨_,_,vs,_,dd⟩:=Lq I.hok e
  exact dd.typeIs
 ·obtain⟨_,_,xs,_,dd⟩:=Lr I.hok e
  exact dd.typeIs
def Zme (td ty:TE):TE:=fun σ H Q=>td σ H fun x H1=>ty σ H1 fun y H2=>∃a v,x=.ref a/\DGet H2 a y (some v)/\Q v H2
def Zfg (ty td:TE):TE:=fun σ H Q=>ty σ H fun y H1=>td σ H1 fun x H2=>∃a o,x=.ref a/\DGet H2 a y o/\Q (.bl (!o.isSome)) H2
def Zmf (td ty tv:TE):TS:=fun D σ H=>tv σ H fun v H1=>td σ H1 fun x H2=>ty σ H2 fun y H3=>∃a H4,x=.ref a/\DPut H3 a y v H4/\D.nx σ H4
section
variable {X:Cx}{o i e value:Expr}{pos pos' tpos:Pos}{td ty tv:TE}
def Zfh (hu:X.A.units+1<cLine)(ho:PE X o td)(hi:PE X i ty)(hs:Zmd i):PE X (.Subscript o i pos) (Zme td ty):=by
 intro pins s σ H Q I h
 refine Zff PySem.F.slot_dict_getitem.lookup hs (Yb (ho pins s σ H _ I h) fun u s1 ⟨x,H1,I1,rx,q1⟩=>Yb (hi pins s1 σ H1 _ I1 q1) fun iv s2 ⟨y,H2,I2,ry,a,v,ex,g,q2⟩=>?_)
 subst ex
 obtain rfl:u=Value.ref a:=rx
 exact⟨Az I2 g,Oz hu I2 g ry fun w' s3 I3 rw'=>⟨v,H2,I3,rw',q2⟩⟩
def O1 (hu:X.A.units+1<cLine)(hi:PE X i ty)(ho:PE X o td):PC X .NotIn i o (Zfg ty td):=by
 intro pins s σ H Q I h
 refine Yb (hi pins s σ H _ I h) fun iv s1 ⟨y,H1,I1,ry,q1⟩=>Yb (ho pins s1 σ H1 _ I1 q1) fun u s2 ⟨x,H2,I2,rx,a,ov,ex,g,q2⟩=>?_
 subst ex
 obtain rfl:u=Value.ref a:=rx
 exact Zfe hu I2 g ry fun s3 I3=>⟨.bl (!ov.isSome),H2,I3,rfl,q2⟩
def Zfi (hu:X.A.units+1<cLine)(ho:PE X o td)(hi:PE X i ty)(hv:PE X value tv)(hs:swapsWith value (some (.Subscript o i pos')) pos.line X.env=pure false):
  PS X (.Assign [.Subscript o i pos'] value pos) (Zmf td ty tv):=by
 intro pins s σ H D I h
 refine wpAny_Assign_Subscript (Yb (hv pins s σ H _ I h) fun r s1 ⟨v,H1,I1,rv,q1⟩=>Yb (ho pins s1 σ H1 _ I1 q1) fun u s2 ⟨x,H2,I2,rx,q2⟩=>Yb (hi pins s2 σ H2 _ I2 q2) fun iv s3 ⟨y,H3,I3,ry,a,H4,ex,g,q3⟩=>?_) hs
 subst ex
 obtain rfl:u=Value.ref a:=rx
 exact O0 hu I3 g ry rv fun s4 I4=>⟨σ,H4,I4,q3⟩
end
def Zbv {P:Program}{w:World}{H:Hp}(h:Heap)(hb:sysModules<h.objs.size):ObjOk P w H (h.push {cls:=.type "dict", data:=.dict #[]}) h.objs.size (.dT []):=
 ⟨Nat.zero_le _,beq_eq_false_iff_ne.mpr (Ne.symm (Nat.ne_of_lt hb)),[],.nil,_,#[],0,Heap.get?_push_size _ rfl,⟨rfl,rfl,rfl⟩,rfl,rfl,List.nodup_nil⟩
def Zjk:TE:=fun _ H Q=>∀p,H p=none->Q (.ref p) (upd H p (.dT []))
section
variable {X:Cx}{pos:Pos}
def A3:PE X (.Dict [] [] pos) Zjk:=fun pins s σ H Q I h=>
 wpAny_Dict_empty ⟨.ref s.heap.objs.size,_,I.laid (a:=s.heap.objs.size) (o:=.dT []) (t':=s.toks) (fun _ _ q=>Heap.get?_push_of_some _ q) (Nat.le_refl _) (Zbv s.heap I.big),rfl,h _ (I.hok.fresh (Nat.le_refl _))⟩
end
structure M2 (X:Cx) (o:Expr) (m:Str) (apos:Pos) (e f:Expr) (cpos:Pos):Prop where
 base:attributeBase o m X.env (eval o X.env)=eval o X.env
 few:((backTo cpos (starEach [e,f] X.env)).all (fun x=>!x.1)&&(backToKw cpos (keywordEach [] X.env)).all (fun x=>x.1.isSome)
  && decide (([e,f]:List Expr).length+([]:List Keyword).length+(if([]:List Keyword).isEmpty then 0 else 1)<30))=true
 line:(apos.endLine==cpos.line)=true
 trees:backTo cpos (starEach [e,f] X.env)=[(false,eval e X.env),(false,eval f X.env)]
def Zou (H:Hp)(a:Addr):Prop:=(∃kvs,Rd H a (.dK kvs))\/∃kvs,Rd H a (.dT kvs)
def Zbw {X:Cx}{pins:List (Addr×Obj)}{σ:St}{H:Hp}{s:Shared}{a:Addr}(I:Inv X pins σ H s)(d:Zou H a):
  s.TypeIs (.ref a) "dict"/\(∀b,Value.ref a=.ref b->∃ob,s.heap.get? b=some ob/\ob.dict=none)/\(a==sysModules)=false:=by
 rcases d with⟨kvs,e⟩|⟨kvs,e⟩
 ·obtain⟨_,hd,vs,_,dd⟩:=Lq I.hok e
  refine⟨dd.typeIs,fun b q=>?_,hd⟩
  cases q
  obtain⟨ob,_,_,h1,h2,_⟩:=dd
  exact⟨ob,h1,h2.2.1⟩
 ·obtain⟨_,hd,xs,_,dd⟩:=Lr I.hok e
  refine⟨dd.typeIs,fun b q=>?_,hd⟩
  cases q
  obtain⟨ob,_,_,h1,h2,_⟩:=dd
  exact⟨ob,h1,h2.2.1⟩
section
variable {X:Cx}{pins:List (Addr×Obj)}{σ:St}{H:Hp}{s:Shared}{a:Addr}{y d:V}{u r:Value}{o:Option V}{A:Around}{E:Value->Shared->Prop}
def Zjl {Q:Value->Shared->Prop}(hu:A.units+1<cLine)(I:Inv X pins σ H s)(g:DGet H a y o)(ry:RelV y u)(rd:RelV d r)(h:∀w' s',Inv X pins σ H s'->RelV (o.getD d) w'->Q w' s'):
  wpAny (model X.prog X.w) A (call (.builtin "dict.get") [.ref a,u,r]) Q E s:=by
 rcases g with⟨kvs,k,e,ey,l⟩|⟨kvs,k,b,e,ey,eb,l⟩
 ·subst ey
  obtain⟨z,hd,vs,rel,dd⟩:=Lq I.hok e
  refine call_meetsIn PySem.F.slot_dict_get dd.typeIs PySem.F.entry_dict_get (PySem.F.args_dict_get_3 _ _ _) (meets_dict_get_default (Yx X.prog X.w) a (Ay ry) hd r) ⟨_,dd.mapOf,h _ _ (I.tok _) ?_⟩
  rw[l]
  exact(rel.val k).getD rd
 ·subst ey
  cases (show u=Value.ref b from ry)
  obtain⟨z,hd,xs,rel,dd⟩:=Lr I.hok e
  refine call_meetsIn PySem.F.slot_dict_get dd.typeIs PySem.F.entry_dict_get (PySem.F.args_dict_get_3 _ _ _) (meetsH_dict_get_default (tupleKind (Yx X.prog X.w)) a b hd r) ⟨tupleKind_room_in1 hu,k,xs,Np I.hok eb,dd,h _ _ (I.tok _) ?_⟩
  rw[l]
  exact(rel.val k).getD rd
end
def Zjm (td ty tx:TE):TE:=fun σ H Q=>td σ H fun x H1=>∃a,x=.ref a/\Zou H1 a/\ty σ H1 fun y H2=>tx σ H2 fun z H3=>∃o,DGet H3 a y o/\Q (o.getD z) H3
section
variable {X:Cx}{o e f:Expr}{apos cpos:Pos}{td ty tx:TE}
def Zbx (hu:X.A.units+1<cLine)(ho:PE X o td)(he:PE X e ty)(hf:PE X f tx) (m:M2 X o "get" apos e f cpos):PE X (.Call (.Attribute o "get" apos) [e,f] [] cpos) (Zjm td ty tx):=by
 intro pins s σ H Q I h
 refine wpAny_Call_method m.base m.few m.line PySem.F.plainAttrs_dict PySem.F.slot_dict_get PySem.F.type_dict_get (Yb (ho pins s σ H _ I h) fun u s1 ⟨x,H1,I1,rx,a,ex,d,q1⟩=>?_)
 subst ex
 obtain rfl:u=Value.ref a:=rx
 obtain⟨t1,t2,_⟩:=Zbw I1 d
 refine⟨t1,t2,?_⟩
 rw[m.trees]
 refine Calls.callWith_builtin rfl (Calls.evalArgs_plain (Calls.spliced_cons (Yb (he pins s1 σ H1 _ I1 q1) fun iv s2 ⟨y,H2,I2,ry,q2⟩=>
  Calls.spliced_cons (Yb (hf pins s2 σ H2 _ I2 q2) fun fv s3 ⟨z,H3,I3,rz,ov,g,q3⟩=>Calls.spliced_nil ?_))))
 exact Zjl hu I3 g ry rz fun w' s4 I4 rw'=>⟨_,H3,I4,rw',q3⟩
end
end L2
namespace Att
open PySem PySem.W PySem.Calls PyProof.Rows
def P4 {P:Params}{h:Heap}:∀(ns:List Int) (vs:List Value),WellAll P h vs (ns.map WData.int)->IntsAre vs ns:=by
 intro ns
 induction ns with
 |nil=>
  intro vs w
  rw[List.map_nil] at w
  cases w
  exact .nil
 |cons n ns ih=>
  intro vs w
  rw[List.map_cons] at w
  cases w with
  |cons a b=>
   cases a
   exact .cons _ _ (ih _ b)
def O2 {l:OpenLaw}{n:Nat}(hn:l.most=some n){P:Params}{h:Heap}{args:List WData}{vals:List Value}(hpre:l.row.toRowW.claim.pre args=true)(hwl:WellAll P h vals args):
  ∃a vs ns,vals=[Value.ref a]/\args=[WData.list (ns.map WData.int)]/\h.get? a=some {cls:=.type "list", data:=.seq vs.toArray}/\IntsAre vs ns/\ns.length<=n:=by
 have hsh:WShape.hasAll [] args [.list .int]=true:=(pre_splitW hpre).1
 have hc:l.pre.holds [] {args:=args}=true:=(pre_splitW hpre).2
 obtain⟨d,r,rfl,h1,h2⟩:=hasAllW_cons hsh
 obtain rfl:=hasAllW_nil h2
 obtain⟨xs,rfl,h3⟩:=hasW_list h1
 obtain⟨ns,rfl⟩:=items_int h3
 have hlen:ns.length<=n:=by
  unfold OpenLaw.pre at hc
  have h4:(WTm.not (.lt (.lit (.int (n:Int))) (.len (.arg 0)))).holds [] {args:=[.list (ns.map .int)]}=true:=by
   have h4:=(holds_andW hc).1
   rw[hn] at h4
   exact h4
  have h5:=condW_of h4 (w_not (w_lt w_lit (w_len_list (w_arg rfl))))
  rw[List.length_map] at h5
  refine Nat.le_of_not_lt fun q=>?_
  have q':(n:Int)<((ns.length:Nat):Int):=by omega
  first
   |(rw[decide_eq_true q'] at h5;exact absurd h5 (by decide))
   |(simp at h5;omega)
 cases hwl with
 |cons w1 w2=>
  cases w2
  cases w1 with
  |list ho hall=>exact⟨_,_,ns,rfl,rfl,ho,P4 ns _ hall,hlen⟩
def O3 (l:OpenLaw)(args:List WData):l.row.toRowW.claim.post args (.bool true) args=true:=
 postW_of (r:=l.row.toRowW) (X:=(true==true))
  (show WShape.has [] (.bool true) .bool=true by first|rfl|decide|simp[WShape.has,WShape.arms,WShape.armsAll])
  (show(WTm.eq .res (.lit (.bool true))).value [] {args:=args,res:=some (.bool true),after:=args}=some (.bool (true==true)) from w_eq_bool (w_res rfl) w_lit) rfl
def attach_call {l:OpenLaw}{n:Nat}{q:Program}{loose:List Str}{XP:(Str->Option Value)->Heap->Prop}{YP:World->Heap->Prop}{d:DefRec}(hn:l.most=some n)(hdf:d.params.defaults=[])
  (call:∀(w:World) (s₀ s₁:Shared) (mg mb:Str->Option Value) (fa:Addr) (o:Obj) (pm cd doc:Value) (a:Addr) (vs:List Value) (ns:List Int),
   Ground q loose [] XP w s₀ mg mb s₁.heap->YP w s₁.heap ->
   s₁.heap.get? fa=some o->o.data=.func (docDef d.name d.params d.body d.scope pm cd doc)->s₁.heap.CodeRec cd d.name->mg d.name=some (.ref fa) ->
   s₁.heap.get? a=some {cls:=.type "list", data:=.seq vs.toArray}->IntsAre vs ns->ns.length<=n->s₁.gens=#[] ->
   codeAny (model l.prog w) callerA (.call (.ref fa) ⟨[.ref a],[]⟩) (fun r s'=>r=.ok (.ret (.bool true))/\OldK s₁.heap s'.heap/\s'.os=s₁.os/\AllBare s'.gens) s₁):
  WalkO q loose XP YP l.row.toRowW d [] (fun f vs=>PySem.call f vs):=by
 intro w s₀ s₁ mg mb G Y fa o pm cd doc dV kV ho hd hcd hD hmg hg args vals as hpre hlay hrd hwl hlo
 obtain rfl:dV=.none:=Dflts.none hD hdf
 obtain rfl:kV=.none:=Dflts.noKw hD
 obtain⟨a,vs,ns,rfl,rfl,hobj,hints,hlen⟩:=O2 hn hpre hwl
 refine enter_call (codeAny_mono (call w s₀ s₁ mg mb fa o pm cd doc a vs ns G Y ho (fd_plain hd) hcd hmg hobj hints hlen hg) fun r s' hq=>?_)
 obtain⟨rfl,h2,h3,h4⟩:=hq
 exact⟨.inl ⟨.bool true,.bool true,[],rfl,fun _=>rfl,.bool true,O3 l _,fun _=>⟨List.Pairwise.nil,fun _ hm=>(nomatch hm)⟩⟩,h2,h3,h4⟩
end Att
namespace L2
open PySem PySem.Spec PyProof.Rows
theorem Nq:∀{vs:List Value}{ns:List Int},IntsAre vs ns->Vals (ns.map V.int) vs
 |_,_,.nil=>.nil
 |_,_,.cons n t h=>.cons ⟨t,rfl⟩ (Nq h)
def Zjn (H:Hp):Prop:=∀b,H b=none\/∃o xs,H b=some (.frz o (.lst xs))
def Zby {P:Program}{w:World}{K:PySem.W.Frag}{mg mb:Str->Option Value}{CX:Zer}{k:Nat}{fa a:Addr}{fd:FuncData}{x:Str}{sp:Sp}{s₁:Shared}{vs:List Value}{ns:List Int}(KX:K.In s₁.heap)(hns:s₁.heap.Ns mainGlobals mg)(hb:s₁.heap.Ns builtinsNs mb) (hbb:∀x:Str,x ≠ "__name__"->mb x=bootBuiltins x) (hlim:s₁.heap.NoLimit) (hg:s₁.gens=#[])
  (ha:s₁.heap.get? a=some {cls:=.type "list", data:=.seq vs.toArray}) (hi:IntsAre vs ns) (hl:ns.length<=sizeLine) (hr:Room k callerA)
  (F:∀base:Heap,K.In base->base.Ns mainGlobals mg->FnOk P w K mg base CX k fa fd [x] sp) (hbind:∀(s:Shared) (u:Value),BindsTo s fd ⟨[u],[]⟩ [(x,u)])
  (hsp:∀H:Hp,Zjn H->SqL K H a (ns.map V.int)->sp [.ref a] H (fun v _=>v=.bl true) fun _ _ _=>False)
  (hCX:∀H e s',CX [] H s₁ (fun _ _ _=>False) e s'->False):
  codeAny (model P w) callerA (.call (.ref fa) ⟨[.ref a],[]⟩) (fun r s'=>r=.ok (.ret (.bool true))/\OldK s₁.heap s'.heap/\s'.os=s₁.os/\AllBare s'.gens) s₁:=by
 have rv:=Nq hi
 have lenV:=hi.length
 have core:∀H:Hp,Zjn H->SqL K H a (ns.map V.int)->HOk P w H s₁.heap->(∀b,H b≠none->b=a)->(H a≠none->K.lookup a=none) ->
   codeAny (model P w) callerA (.call (.ref fa) ⟨[.ref a],[]⟩) (fun r s'=>r=.ok (.ret (.bool true))/\OldK s₁.heap s'.heap/\s'.os=s₁.os/\AllBare s'.gens) s₁:=by
  intro H hO hS hok hA hK
  have base_of:∀{b:Addr}{o:Obj},s₁.heap.get? b=some o->H b=none->(Mw s₁.heap H).get? b=some o:=fun e n=>Za7 e n
  have noA:∀{b:Addr}{o:Obj}{es:Array DictEntry}{ep:Nat},s₁.heap.get? b=some o->o.data=.dict es ep->H b=none:=fun {b o es ep} e d=>by
   cases q:H b with
   |none=>rfl
   |some u=>
    have e':b=a:=hA b (by rw[q];simp)
    subst e'
    rw[ha] at e;cases e
    have d':Data.seq vs.toArray _=Data.dict es ep:=d
    cases d'
  have nsK:∀{b:Addr}{m:Str->Option Value},s₁.heap.Ns b m->(Mw s₁.heap H).Ns b m:=fun {b m} ⟨o,es,ep,e,d,r⟩=>⟨o,es,ep,base_of e (noA e d),d,r⟩
  have hKb:K.In (Mw s₁.heap H):=fun b o e=>base_of (KX b o e) (by
   cases q:H b with
   |none=>rfl
   |some u=>
    have e':b=a:=hA b (by rw[q];simp)
    subst e'
    rw[hK (by rw[q];simp)] at e;cases e)
  have hM:Mod K mg (Mw s₁.heap H):=⟨hKb,nsK hns,⟨mb,nsK hb,hbb⟩,let ⟨mc,h1,h2⟩:=hlim;⟨mc,nsK h1,h2⟩⟩
  have e0:Env0 P w K mg (Mw s₁.heap H) callerA [] s₁ H:=⟨rfl,hM,fun b o e=>Zev e,Nat.le_of_eq (Oo _ _),trivial,fun b hb=>absurd (show b∈([]:List Addr) from hb) (by simp),hok,.of_eq hg⟩
  refine codeAny_mono ((F _ hKb (nsK hns)).run callerA [] s₁ H ⟨[.ref a],[]⟩ [.ref a] [.ref a] _ _ hr e0 (hbind s₁ (.ref a)) (.cons rfl .nil) (hsp H hO hS)) fun r s' h=>?_
  cases r with
  |error e=>exact(hCX H e s' h).elim
  |ok fl=>
   cases fl with
   |next=>exact False.elim h
   |brk=>exact False.elim h
   |cont=>exact False.elim h
   |ret u=>
    obtain⟨v,H',os,bare,un,hok',r',q⟩:=h
    have q':v=.bl true:=q
    subst q'
    obtain rfl:u=Value.bool true:=r'
    refine⟨rfl,OldK.of_keep fun b o e=>?_,os,bare⟩
    cases q:H b with
    |none=>exact un.keep b o e q (by intro z;exact absurd (show b∈([]:List Addr) from z) (by simp)) (by simp)
    |some u=>
     rcases hO b with z|⟨ob,xs,z⟩
     ·rw[q] at z;cases z
     ·have z2:=un.frzs b ob _ z
      obtain⟨e1,_⟩:=hok b _ z
      obtain⟨e2,_⟩:=hok' b _ z2
      rw[e] at e1;cases e1
      exact e2
 cases hk:K.lookup a with
 |some o=>
  have e:=KX a o hk
  rw[ha] at e
  cases e
  refine core (fun _=>none) (fun _=>.inl rfl) (.inr ⟨_,vs.toArray,_,hk,rfl,rfl,rfl,by rw[List.size_toArray,lenV];exact hl,by simpa using rv⟩) (fun b u z=>by have z':(none:Option HO)=some u:=z;cases z') (fun b z=>absurd rfl z) fun z=>absurd rfl z
 |none=>
  refine core (fun b=>if b=a then some (.frz {cls:=.type "list", data:=.seq vs.toArray} (.lst (ns.map V.int))) else none) (fun b=>?_) (.inl (.inr ⟨{cls:=.type "list", data:=.seq vs.toArray},if_pos rfl⟩)) (fun b u z=>?_) (fun b z=>?_) fun _=>hk
  ·by_cases hb:b=a
   ·exact .inr ⟨_,_,if_pos hb⟩
   ·exact .inl (if_neg hb)
  ·by_cases hb:b=a
   ·have z':=(if_pos hb).symm.trans z
    cases z'
    subst hb
    exact⟨ha,by rw[List.length_map];exact hl,vs,_,rv,ha⟩
   ·have z':=(if_neg hb).symm.trans z
    cases z'
  ·by_cases hb:b=a
   ·exact hb
   ·exact absurd (if_neg hb) z
def Zfj {l:PySem.W.OpenLaw}{n k:Nat}{q:Program}{loose:List Str}{XP:(Str->Option Value)->Heap->Prop}{YP:World->Heap->Prop}{d:DefRec}{K:Params->PySem.W.Frag}{CX:World->Zer}{sp:World->Sp}{x:Str}(hn:l.most=some n)(hn2:n<=sizeLine)(hdf:d.params.defaults=[])(hr:Room k callerA)(hY:∀(w:World) (h:Heap),YP w h->(K w.params).In h)(F:∀(w:World) (mg:Str->Option Value) (fa:Addr) (h:Heap),(K w.params).In h->h.Ns mainGlobals mg->mg d.name=some (.ref fa) ->
   ∃fd:FuncData,(∀(s:Shared) (u:Value),BindsTo s fd ⟨[u],[]⟩ [(x,u)]) /\
    ∀base:Heap,(K w.params).In base->base.Ns mainGlobals mg->FnOk l.prog w (K w.params) mg base (CX w) k fa fd [x] (sp w))(hsp:∀(w:World) (H:Hp) (a:Addr) (ns:List Int),ns.length<=n->Zjn H->SqL (K w.params) H a (ns.map V.int)->sp w [.ref a] H (fun v _=>v=.bl true) fun _ _ _=>False)(hCX:∀(w:World) (H:Hp) (s:Shared) (e:Value) (s':Shared),CX w [] H s (fun _ _ _=>False) e s'->False):
  PySem.W.WalkO q loose XP YP l.row.toRowW d [] (fun f vs=>PySem.call f vs):=by
 refine Att.attach_call hn hdf fun w s₀ s₁ mg mb fa o pm cd doc a vs ns G Y ho hd hcd hmg hobj hints hlen hg=>?_
 have KX:=hY w _ Y
 obtain⟨fd,hb,hF⟩:=F w mg fa _ KX G.T.g hmg
 exact Zby KX G.T.g G.T.b G.T.builtins G.T.nolimit hg hobj hints (Nat.le_trans hlen hn2) hr hF hb (fun H hO hS=>hsp w H a ns hlen hO hS) fun H e s'=>hCX w H s₁ e s'
def K7 (s:Stmt):Arguments:=match s with
 |.FunctionDef _ a _ _ _ _ _ _ _ _=>a
 |_=>{posonlyargs:=[],args:=[],vararg:=none,kwonlyargs:=[],kw_defaults:=[],kwarg:=none,defaults:=[]}
def Yy (s:Stmt):List Stmt:=match s with
 |.FunctionDef _ _ b _ _ _ _ _ _ _=>b
 |_=>[]
def Zg (s:Stmt):Scope:=match s with
 |.FunctionDef _ _ _ _ _ _ sc _ _ _=>sc
 |_=>{kind:=.function,names:=[],isGenerator:=false,isCoroutine:=false}
abbrev Ye:Zer:=fun _ _ _ _ _ _=>False
abbrev E0:XK:=fun _ _ _=>False
def Jl {X:Cx}:Ws Ye X E0:=fun _ _ _ _ _ _ _ h=>h.elim
structure Fun (K:PySem.W.Frag) (x qual:Str) (st:Stmt) (f:Addr) (fd:FuncData):Prop where
 ex:∃(oc:Value) (od:Option Addr) (kV doc pm:Value) (an:Option Addr) (cdv ct:Value) (osl:Array (Option Value)),
  fd=PySem.W.fnOf x qual (K7 st) (Yy st) (Zg st) .none kV doc pm an cdv ct/\K.lookup f=some ⟨oc,od,.func fd,osl⟩/\PySem.W.codeIn K cdv qual=true
 kp:PySem.W.keepIn K (.ref f)=true
section
variable {P:Program}{w:World}{K:PySem.W.Frag}{mg:Str->Option Value}{base:Heap}
def Fun.ok {x qual:Str}{st:Stmt}{f:Addr}{fd:FuncData}{N ps:List Str}{k:Nat}{sp:Sp}(F:Fun K x qual st f fd)(S:FnScope N ps (Zg st))(len:∀vs H Q E,sp vs H Q E->vs.length=ps.length)(hbody:∀(cdv:Value) (A:Around) (outer:List Env) (s:Shared) (H:Hp) (vs:List V) (Q:VK) (E:XK),Room k (A.deeper (envOfC qual (Zg st) s.heap.objs.size f cdv))->sp vs H Q E ->
   ∃t,PSs (X0 Ye P w K mg base N qual (Zg st) f cdv A outer s H E).nox (Yy st) t/\t {nx:=fun _ H'=>Q .non H',rt:=Q} (Xu N vs) H):FnOk P w K mg base Ye (k+1) f fd ps sp:=by
 obtain⟨oc,od,kV,doc,pm,an,cdv,ct,osl,rfl,lk,hcd⟩:=F.ex
 refine Zl6 lk hcd S len fun A outer s H vs Q E hr hsp=>?_
 obtain⟨t,h,q⟩:=hbody cdv A outer s H vs Q E hr hsp
 exact⟨t,h.nox,q⟩
def Fun.binds {x qual:Str}{st:Stmt}{f:Addr}{fd:FuncData}{ps:List Str}(F:Fun K x qual st f fd)(h:∀(kV doc pm:Value) (an:Option Addr) (cdv ct:Value) (us:List Value),us.length=ps.length->bindArgs (PySem.W.fnOf x qual (K7 st) (Yy st) (Zg st) .none kV doc pm an cdv ct) ⟨us,[]⟩=pure (ps.zip us)):Binds K fd ps []:=by
 obtain⟨oc,od,kV,doc,pm,an,cdv,ct,osl,rfl,lk,hcd⟩:=F.ex
 exact .all (h kV doc pm an cdv ct)
def Zbz {x qual:Str}{st:Stmt}{f:Addr}{oc:Value}{od an:Option Addr}{osl:Array (Option Value)}{kV doc pm cdv ct:Value}(l:K.lookup f=some ⟨oc,od,.func (PySem.W.fnOf x qual (K7 st) (Yy st) (Zg st) .none kV doc pm an cdv ct),osl⟩)(c:PySem.W.codeIn K cdv qual=true)(k:PySem.W.keepIn K (.ref f)=true):Fun K x qual st f (PySem.W.fnOf x qual (K7 st) (Yy st) (Zg st) .none kV doc pm an cdv ct):=⟨⟨oc,od,kV,doc,pm,an,cdv,ct,osl,rfl,l,c⟩,k⟩
end
def Same (H H':Hp):Prop:=∀b o,H b=some o->H' b=some o
def Same.refl (H:Hp):Same H H:=fun _ _ h=>h
def Same.trans {H H1 H2:Hp}(a:Same H H1)(b:Same H1 H2):Same H H2:=fun c o h=>b c o (a c o h)
def Same.free {H H':Hp}(e:Same H H'){l:Addr}(h:H' l=Option.none):H l=Option.none:=by
 cases q:H l with
 |none=>rfl
 |some o=>
  rw[e l o q] at h
  cases h
def Same.seq {K:PySem.W.Frag}{H H':Hp}{a:Addr}{xs:List V}(e:Same H H')(h:SqL K H a xs):SqL K H' a xs:=by
 rcases h with(h|⟨o,h⟩)|h
 ·exact .inl (.inl (e _ _ h))
 ·exact .inl (.inr ⟨o,e _ _ h⟩)
 ·exact .inr h
end L2
namespace DL
open PySem PySem.Spec PyProof.Rows L2
inductive D where
 |non|bl (b:Bool)|int (i:Int)|str (x:Str)|tup (ds:List D)|lst (ds:List D)
structure XV where
 cls:Str
 ns:List Str
 ds:List D
inductive M (α:Type) where
 |ok (a:α)|ex (x:XV)|bad
def M.bind {α β:Type}(r:M α)(k:α->M β):M β:=match r with
 |.ok a=>k a
 |.ex x=>.ex x
 |.bad=>.bad
@[simp] theorem M.bind_ok {α β:Type}(a:α)(k:α->M β):(M.ok a).bind k=k a:=rfl
@[simp] theorem M.bind_ex {α β:Type}(x:XV)(k:α->M β):(M.ex x:M α).bind k=.ex x:=rfl
@[simp] theorem M.bind_bad {α β:Type}(k:α->M β):(M.bad:M α).bind k=.bad:=rfl
inductive S where
 |im (d:D)|ow (ds:List D)|od (kvs:List (List Yh×D))|dk (kvs:List (Yh×D))|xc (x:XV)|fn (x:Str)|ob (a:Addr) (c:Str) (r:List (Str×D))|fl (a:Addr) (hall:D) (sqs:List (List Yh×D))
def S.own:S->Bool
 |.im _=>false
 |.xc _=>false
 |.fn _=>false
 |.ob _ _ _=>false
 |.fl _ _ _=>false
 |_=>true
abbrev Zf:=List (Option S)
section
variable (K:PySem.W.Frag) (H:Hp)
mutual
def Rep:D->V->Prop
 |.non,v=>v=.non
 |.bl b,v=>v=.bl b
 |.int i,v=>v=.int i
 |.str x,v=>v=.str x
 |.tup ds,v=>∃a xs,v=.ref a/\H a=some (.tup xs)/\Reps ds xs
 |.lst ds,v=>∃a xs,v=.ref a/\SqL K H a xs/\Reps ds xs
def Reps:List D->List V->Prop
 |[],xs=>xs=[]
 |d::ds,xs=>∃x r,xs=x::r/\Rep d x/\Reps ds r
end
end
def RepKV (K:PySem.W.Frag)(H:Hp){κ:Type}:List (κ×D)->List (κ×V)->Prop:=Paired fun p q=>p.1=q.1/\Rep K H p.2 q.2
def S.at (K:PySem.W.Frag)(Hf H:Hp)(p:Addr):S->Prop
 |.im _=>False
 |.xc _=>False
 |.fn _=>False
 |.ob _ _ _=>False
 |.fl _ _ _=>False
 |.ow ds=>∃xs,H p=some (.lst xs)/\Reps K Hf ds xs
 |.od kvs=>∃ys,H p=some (.dT ys)/\RepKV K Hf kvs ys
 |.dk kvs=>∃ys,H p=some (.dK ys)/\RepKV K Hf kvs ys
def _root_.L2.Same.seqT {K:PySem.W.Frag}{H H':Hp}{a:Addr}{xs:List V}(e:Same H H')(h:SqT K H a xs):SqT K H' a xs:=by
 rcases h with(h|⟨o,h⟩)|h
 ·exact .inl (.inl (e _ _ h))
 ·exact .inl (.inr ⟨o,e _ _ h⟩)
 ·exact .inr h
section
variable {K:PySem.W.Frag}{H H':Hp}
mutual
theorem Rep.mono (e:Same H H'):∀{d:D}{v:V},Rep K H d v->Rep K H' d v
 |.non,_,h=>by unfold Rep at h ⊢;exact h
 |.bl _,_,h=>by unfold Rep at h ⊢;exact h
 |.int _,_,h=>by unfold Rep at h ⊢;exact h
 |.str _,_,h=>by unfold Rep at h ⊢;exact h
 |.tup ds,_,h=>by
  unfold Rep at h ⊢
  obtain⟨a,xs,e1,e2,e3⟩:=h
  exact⟨a,xs,e1,e _ _ e2,Reps.mono e e3⟩
 |.lst ds,_,h=>by
  unfold Rep at h ⊢
  obtain⟨a,xs,e1,e2,e3⟩:=h
  exact⟨a,xs,e1,e.seq e2,Reps.mono e e3⟩
theorem Reps.mono (e:Same H H'):∀{ds:List D}{xs:List V},Reps K H ds xs->Reps K H' ds xs
 |[],_,h=>by unfold Reps at h ⊢;exact h
 |d::ds,_,h=>by
  unfold Reps at h ⊢
  obtain⟨x,r,e1,e2,e3⟩:=h
  exact⟨x,r,e1,Rep.mono e e2,Reps.mono e e3⟩
end
def rep_non {v:V}:Rep K H .non v↔v=.non:=by unfold Rep;exact Iff.rfl
def rep_bl {b:Bool}{v:V}:Rep K H (.bl b) v↔v=.bl b:=by unfold Rep;exact Iff.rfl
def rep_int {i:Int}{v:V}:Rep K H (.int i) v↔v=.int i:=by unfold Rep;exact Iff.rfl
def rep_str {x:Str}{v:V}:Rep K H (.str x) v↔v=.str x:=by unfold Rep;exact Iff.rfl
def rep_tup {ds:List D}{v:V}:Rep K H (.tup ds) v↔∃a xs,v=.ref a/\H a=some (.tup xs)/\Reps K H ds xs:=by rw[Rep]
def Qc {ds:List D}{v:V}(h:Rep K H (.tup ds) v):∃a xs,v=.ref a/\SqT K H a xs/\Reps K H ds xs:=by
 obtain⟨a,xs,e1,e2,e3⟩:=rep_tup.mp h
 exact⟨a,xs,e1,SqT.of e2,e3⟩
def rep_lst {ds:List D}{v:V}:Rep K H (.lst ds) v↔∃a xs,v=.ref a/\SqL K H a xs/\Reps K H ds xs:=by rw[Rep]
def reps_nil {xs:List V}:Reps K H [] xs↔xs=[]:=by rw[Reps]
def reps_cons {d:D}{ds:List D}{xs:List V}:Reps K H (d::ds) xs↔∃x r,xs=x::r/\Rep K H d x/\Reps K H ds r:=by rw[Reps]
def Reps.nil:Reps K H [] []:=reps_nil.mpr rfl
def Reps.cons {d:D}{ds:List D}{x:V}{xs:List V}(h:Rep K H d x)(t:Reps K H ds xs):Reps K H (d::ds) (x::xs):=reps_cons.mpr ⟨x,xs,rfl,h,t⟩
theorem Reps.length:∀{ds:List D}{xs:List V},Reps K H ds xs->ds.length=xs.length
 |[],_,h=>by rw[reps_nil.mp h];rfl
 |d::ds,_,h=>by
  obtain⟨x,r,rfl,_,t⟩:=reps_cons.mp h
  rw[List.length_cons,List.length_cons,Reps.length t]
theorem Reps.get:∀{ds:List D}{xs:List V}{i:Nat}{d:D},Reps K H ds xs->ds[i]?=some d->∃x,xs[i]?=some x/\Rep K H d x
 |[],_,_,_,_,e=>by simp at e
 |_::ds,_,0,_,h,e=>by
  obtain⟨x,r,rfl,q,t⟩:=reps_cons.mp h
  simp at e;subst e;exact⟨x,rfl,q⟩
 |_::ds,_,i+1,_,h,e=>by
  obtain⟨x,r,rfl,q,t⟩:=reps_cons.mp h
  obtain⟨y,e1,e2⟩:=Reps.get (i:=i) t (by simpa using e)
  exact⟨y,by simpa using e1,e2⟩
theorem Reps.append:∀{ds es:List D}{xs ys:List V},Reps K H ds xs->Reps K H es ys->Reps K H (ds++es) (xs++ys)
 |[],_,_,_,h,t=>by rw[reps_nil.mp h];exact t
 |_::ds,_,_,_,h,t=>by
  obtain⟨x,r,rfl,q,u⟩:=reps_cons.mp h
  exact .cons q (Reps.append u t)
theorem Reps.take:∀{ds:List D}{xs:List V} (n:Nat),Reps K H ds xs->Reps K H (ds.take n) (xs.take n)
 |_,_,0,_=>by simpa using Reps.nil
 |[],_,n+1,h=>by rw[reps_nil.mp h];simpa using Reps.nil
 |_::ds,_,n+1,h=>by
  obtain⟨x,r,rfl,q,u⟩:=reps_cons.mp h
  exact .cons q (Reps.take n u)
theorem Reps.drop:∀{ds:List D}{xs:List V} (n:Nat),Reps K H ds xs->Reps K H (ds.drop n) (xs.drop n)
 |_,_,0,h=>by simpa using h
 |[],_,n+1,h=>by rw[reps_nil.mp h];simpa using Reps.nil
 |_::ds,_,n+1,h=>by
  obtain⟨x,r,rfl,q,u⟩:=reps_cons.mp h
  exact Reps.drop n u
def Reps.none_of {ds:List D}{xs:List V}{i:Nat}(h:Reps K H ds xs)(e:ds[i]?=none):xs[i]?=none:=by
 have:=h.length
 rw[List.getElem?_eq_none_iff] at e ⊢
 lia
end
theorem RepKV.mono {K:PySem.W.Frag}{H H':Hp}(e:Same H H'){κ:Type}{a:List (κ×D)}{b:List (κ×V)}(r:RepKV K H a b):RepKV K H' a b:=Paired.mapP r fun _ _ q=>⟨q.1,q.2.mono e⟩
def F5 {K:PySem.W.Frag}{Hf H:Hp}{p:Addr}{s:S}(h:S.at K Hf H p s):∃o,H p=some o:=by
 cases s with
 |im d=>exact h.elim
 |xc x=>exact h.elim
 |fn x=>exact h.elim
 |ob a c r=>exact h.elim
 |fl a g q=>exact h.elim
 |ow ds=>obtain⟨xs,e,_⟩:=h;exact⟨_,e⟩
 |od kvs=>obtain⟨ys,e,_⟩:=h;exact⟨_,e⟩
 |dk kvs=>obtain⟨ys,e,_⟩:=h;exact⟨_,e⟩
def Wb {K:PySem.W.Frag}{Hf Hf' H H':Hp}{p:Addr}{s:S}(h:S.at K Hf H p s)(e:Same Hf Hf')(q:∀o,H p=some o->H' p=some o):S.at K Hf' H' p s:=by
 cases s with
 |im d=>exact h.elim
 |xc x=>exact h.elim
 |fn x=>exact h.elim
 |ob a c r=>exact h.elim
 |fl a g q=>exact h.elim
 |ow ds=>obtain⟨xs,e1,e2⟩:=h;exact⟨xs,q _ e1,e2.mono e⟩
 |od kvs=>obtain⟨ys,e1,e2⟩:=h;exact⟨ys,q _ e1,e2.mono e⟩
 |dk kvs=>obtain⟨ys,e1,e2⟩:=h;exact⟨ys,q _ e1,e2.mono e⟩
def XO (a:Addr)(C:Addr)(dx:Option Addr):HO:=.ext fun h=>∃oe vs,h.get? a=some oe/\oe.cls=.ref C/\oe.dict=dx/\oe.data=.fields vs
def XF (Hf:Hp)(ns:List Str)(xs:List V):Option Addr->Prop
 |none=>ns=[]/\xs=[]
 |some dx=>Hf dx=some (.xd (ns.zip xs))/\ns.length=xs.length
def XF.mono {H H':Hp}(e:Same H H'){ns:List Str}{xs:List V}:∀{dx:Option Addr},XF H ns xs dx->XF H' ns xs dx
 |none,h=>h
 |some _,h=>⟨e _ _ h.1,h.2⟩
def RepE (K:PySem.W.Frag)(Hf:Hp)(x:XV)(v:V):Prop:=
 ∃a C dx xs,v=.ref a/\Hf a=some (XO a C dx)/\PySem.W.nsIn K mainGlobals x.cls=some (some (.ref C))/\XF Hf x.ns xs dx/\Reps K Hf x.ds xs
theorem RepE.mono {K:PySem.W.Frag}{H H':Hp}(e:Same H H'){x:XV}{v:V}(h:RepE K H x v):RepE K H' x v:=by
 obtain⟨a,C,dx,xs,e1,e2,e3,e4,e5⟩:=h
 exact⟨a,C,dx,xs,e1,e _ _ e2,e3,e4.mono e,e5.mono e⟩
def RepO (K:PySem.W.Frag)(Hf:Hp)(a:Addr)(c:Str)(r:List (Str×D))(v:V):Prop:=∃C dx gs,v=.ref a/\PySem.W.nsIn K mainGlobals c=some (some (.ref C))/\Hf a=some (.ins C dx gs)/\RepKV K Hf r gs
theorem RepO.mono {K:PySem.W.Frag}{H H':Hp}(e:Same H H'){a:Addr}{c:Str}{r:List (Str×D)}{v:V}(h:RepO K H a c r v):RepO K H' a c r v:=by
 obtain⟨C,dx,gs,e1,e2,e3,e4⟩:=h
 exact⟨C,dx,gs,e1,e2,e _ _ e3,e4.mono e⟩
structure FlG (K:PySem.W.Frag) (Hf:Hp) (g:D) (d q:Addr) (gs:List (Str×V)):Prop where
 hall:∃v,gs.lookup ("hall":Str)=some v/\Rep K Hf g v
 sq:gs.lookup ("by_square":Str)=some (.ref d)
 kn:gs.lookup ("known_faces":Str)=some (.ref q)
 m1:gs.lookup ("people_at":Str)=none
 m2:gs.lookup ("faces_at":Str)=none
theorem FlG.mono {K:PySem.W.Frag}{H H':Hp}(e:Same H H'){g:D}{d q:Addr}{gs:List (Str×V)}(h:FlG K H g d q gs):FlG K H' g d q gs:=⟨let ⟨v,e1,e2⟩:=h.hall;⟨v,e1,e2.mono e⟩,h.sq,h.kn,h.m1,h.m2⟩
def RepFl (K:PySem.W.Frag)(Hf:Hp)(a:Addr)(g:D)(q:List (List Yh×D))(v:V):Prop:=∃C dx gs d k ys,v=.ref a/\PySem.W.nsIn K mainGlobals "Floor"=some (some (.ref C))/\Hf a=some (.ins C dx gs)/\FlG K Hf g d k gs/\Hf d=some (.dT ys)/\RepKV K Hf q ys
theorem RepFl.mono {K:PySem.W.Frag}{H H':Hp}(e:Same H H'){a:Addr}{g:D}{q:List (List Yh×D)}{v:V}(h:RepFl K H a g q v):RepFl K H' a g q v:=by
 obtain⟨C,dx,gs,d,k,ys,e1,e2,e3,e4,e5,e6⟩:=h
 exact⟨C,dx,gs,d,k,ys,e1,e2,e _ _ e3,e4.mono e,e _ _ e5,e6.mono e⟩
def RepS (K:PySem.W.Frag)(Hf:Hp):S->V->Prop
 |.im d,v=>Rep K Hf d v
 |.xc x,v=>RepE K Hf x v
 |.fn x,v=>∃a,v=.ref a/\PySem.W.nsIn K mainGlobals x=some (some (.ref a))
 |.ob a c r,v=>RepO K Hf a c r v
 |.fl a g q,v=>RepFl K Hf a g q v
 |_,_=>True
theorem RepS.mono {K:PySem.W.Frag}{H H':Hp}(e:Same H H'){t:S}{v:V}(h:RepS K H t v):RepS K H' t v:=by
 cases t with
 |im d=>exact Rep.mono e h
 |xc x=>exact RepE.mono e h
 |fn x=>exact h
 |ob a c r=>exact RepO.mono e h
 |fl a g q=>exact RepFl.mono e h
 |_=>trivial
def Lv (H:Hp)(a:Addr):Prop:=∃o,H a=some o/\∀xs,o≠.tup xs
def Lv.nn {H:Hp}{a:Addr}(h:Lv H a):H a≠none:=by
 obtain⟨o,e,_⟩:=h
 rw[e];simp
theorem Lv.lst {H:Hp}{a:Addr}{xs:List V}(e:H a=some (.lst xs)):Lv H a:=⟨_,e,fun _ q=>by cases q⟩
def _root_.L2.Same.lv {H H':Hp}(e:Same H H'){a:Addr}(h:Lv H a):Lv H' a:=let ⟨o,q,n⟩:=h;⟨o,e a o q,n⟩
def Zh1 {K:PySem.W.Frag}{Hf H:Hp}{p:Addr}{s:S}(h:S.at K Hf H p s):Lv H p:=by
 cases s with
 |im d=>exact h.elim
 |xc x=>exact h.elim
 |fn x=>exact h.elim
 |ob a c r=>exact h.elim
 |fl a g q=>exact h.elim
 |ow ds=>obtain⟨xs,e,_⟩:=h;exact⟨_,e,fun _ q=>by cases q⟩
 |od kvs=>obtain⟨xs,e,_⟩:=h;exact⟨_,e,fun _ q=>by cases q⟩
 |dk kvs=>obtain⟨xs,e,_⟩:=h;exact⟨_,e,fun _ q=>by cases q⟩
structure Gr (Hf H Hf' H':Hp):Prop where
 fz:Same Hf Hf'
 sub:Same Hf' H'
 all:Same H H'
 ban:∀a,Lv H a->Hf a=none->Hf' a=none
theorem Gr.refl {Hf H:Hp}(h:Same Hf H):Gr Hf H Hf H:=⟨Same.refl _,h,Same.refl _,fun _ _ e=>e⟩
theorem Gr.trans {Hf H Hf1 H1 Hf2 H2:Hp}(a:Gr Hf H Hf1 H1)(b:Gr Hf1 H1 Hf2 H2):Gr Hf H Hf2 H2:=
 ⟨a.fz.trans b.fz,b.sub,a.all.trans b.all,fun c h e=>b.ban c (a.all.lv h) (a.ban c h e)⟩
def Z8 {H:Hp}{p:Addr}(h:H p=none)(o:HO):Same H (upd H p o):=fun b u q=>by rw[Zj (Zu q h)];exact q
theorem _root_.L2.Same.upd {Hf H:Hp}(e:Same Hf H)(p:Addr)(o:HO):Same (L2.upd Hf p o) (L2.upd H p o):=fun b u q=>by
 by_cases hb:b=p
 ·subst hb;rw[Zo] at q ⊢;exact q
 ·rw[Zj hb] at q ⊢;exact e b u q
def Gr.alloc {Hf H:Hp}(e:Same Hf H){p:Addr}(h:H p=none)(o:HO):Gr Hf H (upd Hf p o) (upd H p o):=
 ⟨Z8 (e.free h) o,Same.upd e p o,Z8 h o,fun a ha ea=>by
  have:a≠p:=fun z=>ha.nn (z▸h)
  rw[Zj this];exact ea⟩
structure SR (K:PySem.W.Frag) (H0:Hp) (B:Addr->Prop) (Hf:Hp) (sd:Zf) (σ:L2.St) (H:Hp):Prop where
 sub:Same Hf H
 all:Same H0 H
 ban:∀a,B a->Hf a=none
 bt:∀a,B a->Lv H0 a
 len:sd.length=σ.length
 imS:∀(i:Nat) (t:S),sd[i]?=some (some t)->t.own=false->∃v,σ[i]?=some (some v)/\RepS K Hf t v
 ow:∀(i:Nat) (t:S),sd[i]?=some (some t)->t.own=true->∃p,σ[i]?=some (some (.ref p))/\H0 p=none/\Hf p=none/\S.at K Hf H p t
 sep:∀(i j:Nat) (t u:S) (p:Addr),i≠j->sd[i]?=some (some t)->t.own=true->sd[j]?=some (some u)->u.own=true->σ[i]?=some (some (.ref p))->σ[j]?=some (some (.ref p))->False
section
variable {K:PySem.W.Frag}{H0 Hf Hf' H H':Hp}{B:Addr->Prop}{sd:Zf}{σ:L2.St}
theorem SR.im (r:SR K H0 B Hf sd σ H):∀(i:Nat) (d:D),sd[i]?=some (some (.im d))->∃v,σ[i]?=some (some v)/\Rep K Hf d v:=fun i _ e=>r.imS i _ e rfl
def SR.gr (r:SR K H0 B Hf sd σ H)(g:Gr Hf H Hf' H'):SR K H0 B Hf' sd σ H' where
 sub:=g.sub
 all:=r.all.trans g.all
 ban:=fun a h=>g.ban a (r.all.lv (r.bt a h)) (r.ban a h)
 bt:=r.bt
 len:=r.len
 imS:=fun i d e z=>let ⟨v,e1,e2⟩:=r.imS i d e z;⟨v,e1,e2.mono g.fz⟩
 ow:=fun i t e ho=>by
  obtain⟨p,e1,e2,e3,e4⟩:=r.ow i t e ho
  obtain⟨o,eo⟩:=F5 e4
  exact⟨p,e1,e2,g.ban p (Zh1 e4) e3,Wb e4 g.fz fun o h=>g.all _ _ h⟩
 sep:=r.sep
def SR.set_st (r:SR K H0 B Hf sd σ H)(i:Nat){d:S}{v:V}(hd:d.own=false)(h:RepS K Hf d v):SR K H0 B Hf (sd.set i (some d)) (σ.set i (some v)) H where
 sub:=r.sub
 all:=r.all
 ban:=r.ban
 bt:=r.bt
 len:=by rw[List.length_set,List.length_set];exact r.len
 imS:=fun j d' e z=>by
  by_cases hj:i=j
  ·subst hj
   have hi:i<sd.length:=by
    have:=(List.getElem?_eq_some_iff.mp e).1;simpa using this
   rw[List.getElem?_set_self hi] at e
   cases e
   exact⟨v,by rw[List.getElem?_set_self (by rw[<-r.len];exact hi)],h⟩
  ·rw[List.getElem?_set_ne hj] at e ⊢
   exact r.imS j d' e z
 ow:=fun j t e ho=>by
  by_cases hj:i=j
  ·subst hj
   have hi:i<sd.length:=by
    have:=(List.getElem?_eq_some_iff.mp e).1;simpa using this
   rw[List.getElem?_set_self hi] at e
   cases e
   rw[hd] at ho;cases ho
  ·rw[List.getElem?_set_ne hj] at e ⊢
   exact r.ow j t e ho
 sep:=fun j k t u p hjk e1 o1 e2 o2 e3 e4=>by
  have ne:∀{l:Nat}{fs:S},(sd.set i (some d))[l]?=some (some fs)->fs.own=true->i≠l:=fun {l fs} e o z=>by
   subst z
   have hi:i<sd.length:=by
    have:=(List.getElem?_eq_some_iff.mp e).1;simpa using this
   rw[List.getElem?_set_self hi] at e
   cases e
   rw[hd] at o;cases o
  have n1:=ne e1 o1
  have n2:=ne e2 o2
  rw[List.getElem?_set_ne n1] at e1 e3
  rw[List.getElem?_set_ne n2] at e2 e4
  exact r.sep j k t u p hjk e1 o1 e2 o2 e3 e4
def SR.set_im (r:SR K H0 B Hf sd σ H)(i:Nat){d:D}{v:V}(h:Rep K Hf d v):SR K H0 B Hf (sd.set i (some (.im d))) (σ.set i (some v)) H:=r.set_st (d:=.im d) i rfl h
def SR.change (r:SR K H0 B Hf sd σ H){i:Nat}{p:Addr}{o:HO}{t u:S}(ht:sd[i]?=some (some t))(ot:t.own=true)(hi:σ[i]?=some (some (.ref p)))(ou:u.own=true)(h:S.at K Hf (upd H p o) p u):SR K H0 B Hf (sd.set i (some u)) σ (upd H p o):=by
 obtain⟨p',z1,z2,z3,z4⟩:=r.ow i t ht ot
 rw[hi] at z1
 cases z1
 have hl:i<sd.length:=(List.getElem?_eq_some_iff.mp ht).1
 have back:∀{j:Nat}{w:S},i≠j->(sd.set i (some u))[j]?=some (some w)->sd[j]?=some (some w):=fun {j w} n e=>by rwa[List.getElem?_set_ne n] at e
 refine⟨fun b v q=>?_,fun b v q=>?_,r.ban,r.bt,by rw[List.length_set];exact r.len,fun j d e z=>?_,fun j w e ow=>?_,fun j k w x q hjk e1 o1 e2 o2 e3 e4=>?_⟩
 ·rw[Zj (Zu q z3)];exact r.sub b v q
 ·rw[Zj (Zu q z2)];exact r.all b v q
 ·by_cases n:i=j
  ·subst n
   rw[List.getElem?_set_self hl] at e
   cases e
   rw[ou] at z;cases z
  ·exact r.imS j d (back n e) z
 ·by_cases n:i=j
  ·subst n
   rw[List.getElem?_set_self hl] at e
   cases e
   exact⟨p,hi,z2,z3,h⟩
  ·obtain⟨q,e1,e2,e3,e4⟩:=r.ow j w (back n e) ow
   refine⟨q,e1,e2,e3,Wb e4 (Same.refl _) fun o' h'=>?_⟩
   have:q≠p:=fun z=>by
    subst z
    exact r.sep i j t w q n ht ot (back n e) ow hi e1
   rw[Zj this];exact h'
 ·have get:∀{l:Nat}{w:S},(sd.set i (some u))[l]?=some (some w)->w.own=true->∃w',sd[l]?=some (some w')/\w'.own=true:=fun {l w} e ow=>by
   by_cases n:i=l
   ·subst n;exact⟨t,ht,ot⟩
   ·exact⟨w,back n e,ow⟩
  obtain⟨w',a1,a2⟩:=get e1 o1
  obtain⟨x',b1,b2⟩:=get e2 o2
  exact r.sep j k w' x' q hjk a1 a2 b1 b2 e3 e4
def SR.freeze (r:SR K H0 B Hf sd σ H){i:Nat}{ds:List D}(ht:sd[i]?=some (some (.ow ds))):∃Hf',Same Hf Hf'/\SR K H0 B Hf' (sd.set i (some (.im (.lst ds)))) σ H:=by
 obtain⟨p,z1,z2,z3,xs,z4,z5⟩:=r.ow i _ ht rfl
 have hl:i<sd.length:=(List.getElem?_eq_some_iff.mp ht).1
 have back:∀{j:Nat}{w:S},i≠j->(sd.set i (some (S.im (.lst ds))))[j]?=some (some w)->sd[j]?=some (some w):=fun {j w} n e=>by rwa[List.getElem?_set_ne n] at e
 have sm:=Z8 z3 (.lst xs)
 refine⟨upd Hf p (.lst xs),sm,fun b v q=>?_,r.all,fun a h=>?_,r.bt,by rw[List.length_set];exact r.len,fun j d e z=>?_,fun j w e ow=>?_,fun j k w x q hjk e1 o1 e2 o2 e3 e4=>?_⟩
 ·by_cases hb:b=p
  ·subst hb;rw[Zo] at q;rw[z4];exact q
  ·rw[Zj hb] at q;exact r.sub b v q
 ·have:a≠p:=fun z=>(r.bt a h).nn (z▸z2)
  rw[Zj this];exact r.ban a h
 ·by_cases n:i=j
  ·subst n
   rw[List.getElem?_set_self hl] at e
   cases e
   exact⟨_,z1,(rep_lst.mpr ⟨p,xs,rfl,SqL.of Zo,z5.mono sm⟩:Rep K _ (.lst ds) _)⟩
  ·obtain⟨v,e1,e2⟩:=r.imS j d (back n e) z
   exact⟨v,e1,e2.mono sm⟩
 ·by_cases n:i=j
  ·subst n
   rw[List.getElem?_set_self hl] at e
   cases e
   cases ow
  ·obtain⟨q,e1,e2,e3,e4⟩:=r.ow j w (back n e) ow
   refine⟨q,e1,e2,?_,Wb e4 sm fun o' h'=>h'⟩
   have:q≠p:=fun z=>by
    subst z
    exact r.sep i j _ w q n ht rfl (back n e) ow z1 e1
   rw[Zj this];exact e3
 ·have ne:∀{l:Nat}{w:S},(sd.set i (some (S.im (.lst ds))))[l]?=some (some w)->w.own=true->i≠l:=fun {l w} e o z=>by
   subst z
   rw[List.getElem?_set_self hl] at e
   cases e
   cases o
  exact r.sep j k w x q hjk (back (ne e1 o1) e1) o1 (back (ne e2 o2) e2) o2 e3 e4
end
def Zfk (K:PySem.W.Frag)(Hf _H:Hp)(x:XV)(c:Value)(dx:Option Addr):Prop:=
 ∃C xs,c=.ref C/\PySem.W.nsIn K mainGlobals x.cls=some (some (.ref C))/\XF Hf x.ns xs dx/\Reps K Hf x.ds xs
def Po (K:PySem.W.Frag)(E:XK){α β:Type}(R:Hp->Hp->α->β->Prop)(Hf H:Hp)(r:M α)(Q:β->Hp->Prop):Prop:=match r with
 |.ok a=>∀b Hf' H',Gr Hf H Hf' H'->R Hf' H' a b->Q b H'
 |.ex x=>∀c dx Hf' H',Gr Hf H Hf' H'->Zfk K Hf' H' x c dx->E c dx H'
 |.bad=>False
def rV (K:PySem.W.Frag)(Hf _H:Hp)(d:D)(v:V):Prop:=Rep K Hf d v
def rA (K:PySem.W.Frag)(Hf _H:Hp)(ds:List D)(vs:List V):Prop:=Reps K Hf ds vs
def rQ {α:Type}(_Hf _H:Hp)(a b:α):Prop:=a=b
section
variable {K:PySem.W.Frag}{E:XK}{α β γ δ:Type}{R:Hp->Hp->α->β->Prop}{T:Hp->Hp->γ->δ->Prop}{Hf H Hf1 H1:Hp}
def Po.weak {r:M α}{Q:β->Hp->Prop}(g:Gr Hf H Hf1 H1)(h:Po K E R Hf H r Q):Po K E R Hf1 H1 r Q:=by
 cases r with
 |ok a=>exact fun b Hf' H' g' q=>h b Hf' H' (g.trans g') q
 |ex x=>exact fun c dx Hf' H' g' q=>h c dx Hf' H' (g.trans g') q
 |bad=>exact h
theorem Po.bind {r:M α}{k:α->M γ}{Q:δ->Hp->Prop}{Q1:β->Hp->Prop}(h:Po K E T Hf H (r.bind k) Q)(s:∀a b Hf1 H1,r=.ok a->Gr Hf H Hf1 H1->R Hf1 H1 a b->Po K E T Hf1 H1 (k a) Q->Q1 b H1):Po K E R Hf H r Q1:=by
 cases r with
 |ok a=>exact fun b Hf' H' g q=>s a b Hf' H' rfl g q (Po.weak g h)
 |ex x=>exact h
 |bad=>exact h
def Po.ret {a:α}{b:β}{Q:β->Hp->Prop}(e:Same Hf H)(h:Po K E R Hf H (.ok a) Q)(q:R Hf H a b):Q b H:=h b Hf H (Gr.refl e) q
end
def Yn (X:Cx)(E:XK)(e:Expr)(f:Zf->M D):Prop:=
 ∃t:TE,PE X e t/\∀(H0:Hp) (B:Addr->Prop) (Hf:Hp) (sd:Zf) (σ:L2.St) (H:Hp) (Q:VK),SR X.K H0 B Hf sd σ H->Po X.K E (rV X.K) Hf H (f sd) Q->t σ H Q
def Tp (X:Cx)(E:XK)(es:List Expr)(f:Zf->M (List D)):Prop:=
 ∃t:TA,PA X es t/\∀(H0:Hp) (B:Addr->Prop) (Hf:Hp) (sd:Zf) (σ:L2.St) (H:Hp) (Q:List V->Hp->Prop),SR X.K H0 B Hf sd σ H->Po X.K E (rA X.K) Hf H (f sd) Q->t σ H Q
def Ls (X:Cx)(E:XK)(e:Expr)(f:Zf->M Bool):Prop:=
 ∃t:TT,PT X e t/\∀(H0:Hp) (B:Addr->Prop) (Hf:Hp) (sd:Zf) (σ:L2.St) (H:Hp) (Q:Bool->Hp->Prop),SR X.K H0 B Hf sd σ H->Po X.K E rQ Hf H (f sd) Q->t σ H Q
def PWd (X:Cx)(E:XK)(e:Expr)(f:Zf->M Bool):Prop:=
 ∃t:TT,PW X e t/\∀(H0:Hp) (B:Addr->Prop) (Hf:Hp) (sd:Zf) (σ:L2.St) (H:Hp) (Q:Bool->Hp->Prop),SR X.K H0 B Hf sd σ H->Po X.K E rQ Hf H (f sd) Q->t σ H Q
def Znx (X:Cx)(E:XK)(e:Option Expr)(f:Zf->M (Option Int)):Prop:=
 ∃t:TO,PO X e t/\∀(H0:Hp) (B:Addr->Prop) (Hf:Hp) (sd:Zf) (σ:L2.St) (H:Hp) (Q:Option Int->Hp->Prop),SR X.K H0 B Hf sd σ H->Po X.K E rQ Hf H (f sd) Q->t σ H Q
inductive O where
 |nx (sd:Zf)|rt (s:S)|bk (sd:Zf)|ct (sd:Zf)
structure Fin' (H0:Hp) (B:Addr->Prop) (Hf H:Hp):Prop where
 sub:Same Hf H
 all:Same H0 H
 ban:∀a,B a->Hf a=none
def RS (K:PySem.W.Frag)(H0 Hf H:Hp):S->V->Prop
 |.im d,v=>Rep K Hf d v
 |.xc x,v=>RepE K Hf x v
 |t,v=>∃p,v=.ref p/\H0 p=none/\Hf p=none/\S.at K Hf H p t
def PoS (K:PySem.W.Frag)(E:XK)(H0:Hp)(B:Addr->Prop)(Hf:Hp)(r:M O)(D:Ends):Prop:=match r with
 |.ok (.nx sd')=>∀σ' Hf' H',Same Hf Hf'->SR K H0 B Hf' sd' σ' H'->D.nx σ' H'
 |.ok (.bk sd')=>∀σ' Hf' H',Same Hf Hf'->SR K H0 B Hf' sd' σ' H'->D.bk σ' H'
 |.ok (.ct sd')=>∀σ' Hf' H',Same Hf Hf'->SR K H0 B Hf' sd' σ' H'->D.ct σ' H'
 |.ok (.rt s)=>∀v Hf' H',Same Hf Hf'->Fin' H0 B Hf' H'->RS K H0 Hf' H' s v->D.rt v H'
 |.ex x=>∀c dx Hf' H',Same Hf Hf'->Fin' H0 B Hf' H'->Zfk K Hf' H' x c dx->E c dx H'
 |.bad=>False
def SR.fin {K:PySem.W.Frag}{H0 Hf H:Hp}{B:Addr->Prop}{sd:Zf}{σ:L2.St}(r:SR K H0 B Hf sd σ H):Fin' H0 B Hf H:=⟨r.sub,r.all,r.ban⟩
def Ga (X:Cx)(E:XK)(st:Stmt)(f:Zf->M O):Prop:=
 ∃t:TS,PS X st t/\∀(H0:Hp) (B:Addr->Prop) (Hf:Hp) (sd:Zf) (σ:L2.St) (H:Hp) (D:Ends),SR X.K H0 B Hf sd σ H->PoS X.K E H0 B Hf (f sd) D->t D σ H
def Nr (X:Cx)(E:XK)(st:List Stmt)(f:Zf->M O):Prop:=
 ∃t:TS,PSs X st t/\∀(H0:Hp) (B:Addr->Prop) (Hf:Hp) (sd:Zf) (σ:L2.St) (H:Hp) (D:Ends),SR X.K H0 B Hf sd σ H->PoS X.K E H0 B Hf (f sd) D->t D σ H
def PoS.weak {K:PySem.W.Frag}{E:XK}{H0 Hf Hf1:Hp}{B:Addr->Prop}{r:M O}{D:Ends}(g:Same Hf Hf1)(h:PoS K E H0 B Hf r D):PoS K E H0 B Hf1 r D:=by
 cases r with
 |ok o=>
  cases o with
  |nx sd=>exact fun σ' Hf' H' e q=>h σ' Hf' H' (g.trans e) q
  |bk sd=>exact fun σ' Hf' H' e q=>h σ' Hf' H' (g.trans e) q
  |ct sd=>exact fun σ' Hf' H' e q=>h σ' Hf' H' (g.trans e) q
  |rt s=>exact fun v Hf' H' e q=>h v Hf' H' (g.trans e) q
 |ex x=>exact fun c dx Hf' H' e q=>h c dx Hf' H' (g.trans e) q
 |bad=>exact h
theorem PoS.bind {K:PySem.W.Frag}{E:XK}{H0 Hf H:Hp}{B:Addr->Prop}{sd:Zf}{σ:L2.St}{α β:Type}{R:Hp->Hp->α->β->Prop}{r:M α}{k:α->M O}{D:Ends}{Q1:β->Hp->Prop}(sr:SR K H0 B Hf sd σ H)(h:PoS K E H0 B Hf (r.bind k) D)(s:∀a b Hf1 H1,r=.ok a->Gr Hf H Hf1 H1->SR K H0 B Hf1 sd σ H1->R Hf1 H1 a b->PoS K E H0 B Hf1 (k a) D->Q1 b H1):Po K E R Hf H r Q1:=by
 cases r with
 |ok a=>exact fun b Hf' H' g q=>s a b Hf' H' rfl g (sr.gr g) q (PoS.weak g.fz h)
 |ex x=>exact fun c dx Hf' H' g q=>h c dx Hf' H' g.fz (sr.gr g).fin q
 |bad=>exact h
section
variable {X:Cx}{E:XK}{pos:Pos}{a b:Expr}
def Zd (i:Nat)(sd:Zf):M D:=match sd[i]? with
 |some (some (.im d))=>.ok d
 |_=>.bad
def Zb (i:Nat){x:Str}(hN:X.N[i]?=some x:=by rfl)(hv:Pz X.env.scope x:=by trivial) (hd:(x==("__debug__":Str))=false:=by decide)
  (hcd:(x==("__classdict__":Str))=false:=by decide):Yn X E (.Name x pos) (Zd i):=by
 refine⟨_,Z9 hN hv hd hcd,fun H0 B Hf sd σ H Q sr h=>?_⟩
 unfold Zd at h
 split at h
 ·rename_i d e
  obtain⟨v,e1,e2⟩:=sr.im i d e
  exact⟨v,e1,Po.ret sr.sub h e2⟩
 ·exact h.elim
def eC (d:D)(_:Zf):M D:=.ok d
def Zi {i:Int}{j}:Yn X E (.Constant (.int i) j pos) (eC (.int i)):=⟨_,Za9,fun _ _ _ _ _ _ _ sr h=>Po.ret sr.sub h (rep_int.mpr rfl)⟩
def F6 {i:Bool}{j}:Yn X E (.Constant (.bool i) j pos) (eC (.bl i)):=⟨_,Zlq,fun _ _ _ _ _ _ _ sr h=>Po.ret sr.sub h (rep_bl.mpr rfl)⟩
def X7 {j}:Yn X E (.Constant .none j pos) (eC .non):=⟨_,Ziu,fun _ _ _ _ _ _ _ sr h=>Po.ret sr.sub h (rep_non.mpr rfl)⟩
def Qu {x}{j}:Yn X E (.Constant (.str x) j pos) (eC (.str x)):=⟨_,Ziv,fun _ _ _ _ _ _ _ sr h=>Po.ret sr.sub h (rep_str.mpr rfl)⟩
def Nt (X:Cx)(E:XK)(f:Value->Value->Sem Value)(g:D->D->M D):Prop:=
 ∃r:R2,OpR X f r/\∀(Hf H:Hp) (x y:V) (dx dy:D) (Q:VK),Same Hf H->Rep X.K Hf dx x->Rep X.K Hf dy y->Po X.K E (rV X.K) Hf H (g dx dy) Q->r x y H Q
def Zp (g:D->D->M D)(fa fb:Zf->M D)(sd:Zf):M D:=(fa sd).bind fun x=>(fb sd).bind fun y=>g x y
def two {fa fb:Zf->M D}{g:D->D->M D}{ta tb:TE}{r:R2}{H0:Hp}{B:Addr->Prop}{Hf:Hp}{sd:Zf}{σ:L2.St}{H:Hp}{Q:VK}(ha:∀(H0:Hp) (B:Addr->Prop) (Hf:Hp) (sd:Zf) (σ:L2.St) (H:Hp) (Q:VK),SR X.K H0 B Hf sd σ H->Po X.K E (rV X.K) Hf H (fa sd) Q->ta σ H Q)(hb:∀(H0:Hp) (B:Addr->Prop) (Hf:Hp) (sd:Zf) (σ:L2.St) (H:Hp) (Q:VK),SR X.K H0 B Hf sd σ H->Po X.K E (rV X.K) Hf H (fb sd) Q->tb σ H Q)(hr:∀(Hf H:Hp) (x y:V) (dx dy:D) (Q:VK),Same Hf H->Rep X.K Hf dx x->Rep X.K Hf dy y->Po X.K E (rV X.K) Hf H (g dx dy) Q->r x y H Q)(sr:SR X.K H0 B Hf sd σ H)(h:Po X.K E (rV X.K) Hf H (Zp g fa fb sd) Q):Zlh r ta tb σ H Q:=by
 refine ha H0 B Hf sd σ H _ sr (Po.bind h fun dx x Hf1 H1 _ g1 rx h1=>?_)
 have sr1:=sr.gr g1
 refine hb H0 B Hf1 sd σ H1 _ sr1 (Po.bind h1 fun dy y Hf2 H2 _ g2 ry h2=>?_)
 exact hr Hf2 H2 x y dx dy Q g2.sub (Rep.mono g2.fz rx) ry h2
def Zs {op:Operator}{g:D->D->M D}{fa fb:Zf->M D}(ho:Nt X E (binaryOp op) g)(ha:Yn X E a fa)(hb:Yn X E b fb):Yn X E (.BinOp a op b pos) (Zp g fa fb):=by
 obtain⟨r,hr,qr⟩:=ho
 obtain⟨ta,pa,qa⟩:=ha
 obtain⟨tb,pb,qb⟩:=hb
 exact⟨_,Zbd hr pa pb,fun H0 B Hf sd σ H Q sr h=>two qa qb qr sr h⟩
def Jr {op:CmpOp}{g:D->D->M D}{fa fb:Zf->M D}(ho:Nt X E (compareOp op) g)(ha:Yn X E a fa)(hb:Yn X E b fb)(hm:behindInMarks op b=false):Yn X E (.Compare a [op] [b] pos) (Zp g fa fb):=by
 obtain⟨r,hr,qr⟩:=ho
 obtain⟨ta,pa,qa⟩:=ha
 obtain⟨tb,pb,qb⟩:=hb
 exact⟨_,Ze4 hr pa pb hm,fun H0 B Hf sd σ H Q sr h=>two qa qb qr sr h⟩
def gI (c:Int->Int->Bool)(g:Int->Int->D):D->D->M D
 |.int i,.int j=>if c i j then .ok (g i j) else .bad
 |_,_=>.bad
def A4 (g:Int->Int->D):D->D->M D
 |.int i,.int j=>.ok (g i j)
 |_,_=>.bad
def A5 {f:Value->Value->Sem Value}{gv:Int->Int->V}{gd:Int->Int->D}(h:OpR X f (Ze0 gv))(hg:∀i j (H:Hp),Rep X.K H (gd i j) (gv i j)):Nt X E f (A4 gd):=by
 refine⟨_,h,fun Hf H x y dx dy Q e rx ry q=>?_⟩
 unfold A4 at q
 split at q
 ·rename_i i j
  exact⟨i,j,rep_int.mp rx,rep_int.mp ry,Po.ret e q (hg i j Hf)⟩
 ·exact q.elim
def Zfl {f:Value->Value->Sem Value}{C:Int->Int->Prop}{c:Int->Int->Bool}{gv:Int->Int->V}{gd:Int->Int->D}(h:OpR X f (rI C gv))(hc:∀i j,c i j=true->C i j)(hg:∀i j (H:Hp),Rep X.K H (gd i j) (gv i j)):Nt X E f (gI c gd):=by
 refine⟨_,h,fun Hf H x y dx dy Q e rx ry q=>?_⟩
 unfold gI at q
 split at q
 ·rename_i i j
  split at q
  ·rename_i hcc
   exact⟨i,j,rep_int.mp rx,rep_int.mp ry,hc i j hcc,Po.ret e q (hg i j Hf)⟩
  ·exact q.elim
 ·exact q.elim
def Vt:D->D->M D:=A4 fun i j=>.int (i-j)
def Tq:D->D->M D:=A4 fun i j=>.bl (decide (i<j))
def Zov:D->D->M D:=A4 fun i j=>.bl (decide (i<=j))
def Rc:D->D->M D:=A4 fun i j=>.bl (decide (j<i))
def Zmg:D->D->M D:=A4 fun i j=>.bl (decide (j<=i))
def Js:Nt X E (binaryOp .Sub) Vt:=A5 Zi9 fun _ _ _=>rep_int.mpr rfl
def Gg:Nt X E (compareOp .Lt) Tq:=A5 Zl1 fun _ _ _=>rep_bl.mpr rfl
def Zh2:Nt X E (compareOp .LtE) Zov:=A5 Zl2 fun _ _ _=>rep_bl.mpr rfl
def R0:Nt X E (compareOp .Gt) Rc:=A5 Zl3 fun _ _ _=>rep_bl.mpr rfl
def Zmh:Nt X E (compareOp .GtE) Zmg:=A5 Zl4 fun _ _ _=>rep_bl.mpr rfl
end
section
variable {X:Cx}{E:XK}{pos:Pos}{a b:Expr}
def F7 {i:Int}(h:i.natAbs<2 ^ 4000):Builtin.Int.intBits i<=2 ^ 20:=by
 unfold Builtin.Int.intBits
 split
 ·exact Nat.zero_le _
 ·rename_i hz
  have hn:i.natAbs≠0:=fun z=>hz (by rw[Int.natAbs_eq_zero.mp z];rfl)
  have:i.natAbs.log2<4000:=(Nat.log2_lt hn).mpr h
  have e:(2:Nat) ^ 20=1048576:=rfl
  lia
def Zow (i j:Int):Prop:=i.natAbs<2 ^ 4000/\j.natAbs<2 ^ 4000
def Zp0 (_i j:Int):Prop:=j≠0/\j.natAbs<2 ^ 4000
def Zb0 {j:Int}(h:j.natAbs<2 ^ 4000):j.natAbs.log2<9000:=by
 by_cases hn:j.natAbs=0
 ·rw[hn];decide
 ·have:j.natAbs.log2<4000:=(Nat.log2_lt hn).mpr h
  lia
def Zfm:OpR X (binaryOp .Mult) (rI Zow fun i j=>.int (i*j)):=Znw fun _ _ _ _ _ _ _ hc q=>mul_int q (IntMulOk.of_bits (F7 hc.1) (F7 hc.2))
def Zb1:OpR X (binaryOp .FloorDiv) (rI Zp0 fun i j=>.int (i.fdiv j)):=Znw fun _ _ _ _ _ _ _ hc q=>floordiv_int hc.1 q (.inl (PyProof.noPylong_of_log2 (Zb0 hc.2)))
def sm (i:Int):Bool:=decide (i.natAbs<2 ^ 4000)
def sm_iff {i:Int}:sm i=true↔i.natAbs<2 ^ 4000:=decide_eq_true_iff
def Zmi:D->D->M D:=gI (fun i j=>sm i&&sm j) fun i j=>.int (i*j)
def Xj:D->D->M D:=gI (fun _ j=>j != 0&&sm j) fun i j=>.int (i.fdiv j)
def Yd:D->D->M D:=gI (fun _ j=>j != 0) fun i j=>.int (i.fmod j)
def Zfn:D->D->M D:=gI (fun i j=>decide (0<=j/\j<=1000/\i.natAbs<1000)) fun i j=>.int (i ^ j.toNat)
def Zjo:Nt X E (binaryOp .Mult) Zmi:=Zfl Zfm (fun i j h=>by
 rw[Bool.and_eq_true] at h
 exact⟨sm_iff.mp h.1,sm_iff.mp h.2⟩) fun _ _ _=>rep_int.mpr rfl
def Xp:Nt X E (binaryOp .FloorDiv) Xj:=Zfl Zb1 (fun i j h=>by
 rw[Bool.and_eq_true] at h
 exact⟨by simpa using h.1,sm_iff.mp h.2⟩) fun _ _ _=>rep_int.mpr rfl
def Yl:Nt X E (binaryOp .Mod) Yd:=Zfl Ze2 (fun i j h=>by simpa using h) fun _ _ _=>rep_int.mpr rfl
def Zjp:Nt X E (binaryOp .Pow) Zfn:=Zfl Zja (fun i j h=>by
 have h:=of_decide_eq_true h
 refine⟨h.1,by lia,?_⟩
 have e:(2:Nat) ^ 64=18446744073709551616:=rfl
 lia) fun _ _ _=>rep_int.mpr rfl
def Bb {K:PySem.W.Frag}{H:Hp}{ds:List D}{xs:List V}{i:Int}{d:D}(r:Reps K H ds xs)(e:P3 ds i=some d):∃x,P3 xs i=some x/\Rep K H d x:=by
 unfold P3 at e ⊢
 rw[<-r.length]
 cases q:Zfc ds.length i with
 |none=>rw[q] at e;cases e
 |some j=>
  rw[q] at e
  exact r.get e
def Km:D->D->M D
 |.lst ds,.int i=>match P3 ds i with
  |some d=>.ok d
  |none=>.bad
 |.tup ds,.int i=>match P3 ds i with
  |some d=>.ok d
  |none=>.bad
 |.str z,.int i=>if z.length<=sizeLine then(match P3 z.cps.toList i with
  |some c=>.ok (.str ⟨#[c]⟩)
  |none=>.bad) else .bad
 |_,_=>.bad
def Kn {fa fb:Zf->M D}(ha:Yn X E a fa)(hb:Yn X E b fb)(hs:M7 b):Yn X E (.Subscript a b pos) (Zp Km fa fb):=by
 obtain⟨ta,pa,qa⟩:=ha
 obtain⟨tb,pb,qb⟩:=hb
 refine⟨_,Zhx Zbp pa pb hs,fun H0 B Hf sd σ H Q sr h=>two qa qb (fun Hf H x y dx dy Q e rx ry q=>?_) sr h⟩
 unfold Km at q
 split at q
 ·rename_i ds i
  split at q
  ·rename_i d ei
   obtain⟨p,xs,rfl,hp,hr⟩:=rep_lst.mp rx
   obtain⟨v,e1,e2⟩:=Bb hr ei
   exact .inl ⟨p,xs,i,v,rfl,rep_int.mp ry,e.seq hp,e1,Po.ret e q e2⟩
  ·exact q.elim
 ·rename_i ds i
  split at q
  ·rename_i d ei
   obtain⟨p,xs,rfl,hp,hr⟩:=Qc rx
   obtain⟨v,e1,e2⟩:=Bb hr ei
   exact .inr (.inl ⟨p,xs,i,v,rfl,rep_int.mp ry,Same.seqT e hp,e1,Po.ret e q e2⟩)
  ·exact q.elim
 ·rename_i z i
  split at q
  ·rename_i hz
   split at q
   ·rename_i c ei
    exact .inr (.inr ⟨z,i,c,rep_str.mp rx,rep_int.mp ry,hz,ei,Po.ret e q (rep_str.mpr rfl)⟩)
   ·exact q.elim
  ·exact q.elim
 ·exact q.elim
def Zk (_:Zf):M (List D):=.ok []
def Zc (fa:Zf->M D)(fr:Zf->M (List D))(sd:Zf):M (List D):=(fa sd).bind fun d=>(fr sd).bind fun ds=>.ok (d::ds)
def Ze:Tp X E [] Zk:=⟨_,Xz,fun _ _ _ _ _ _ _ sr h=>Po.ret sr.sub h Reps.nil⟩
def Za {es:List Expr}{fa:Zf->M D}{fr:Zf->M (List D)}(ha:Yn X E a fa)(hr:Tp X E es fr)(hs:starEach (a::es) X.env=(false,eval a X.env)::starEach es X.env:=by rfl):Tp X E (a::es) (Zc fa fr):=by
 obtain⟨ta,pa,qa⟩:=ha
 obtain⟨tr,pr,qr⟩:=hr
 refine⟨_,Qk pa pr hs,fun H0 B Hf sd σ H Q sr h=>?_⟩
 refine qa H0 B Hf sd σ H _ sr (Po.bind h fun d v Hf1 H1 _ g1 rv h1=>?_)
 refine qr H0 B Hf1 sd σ H1 _ (sr.gr g1) (Po.bind h1 fun ds vs Hf2 H2 _ g2 rs h2=>?_)
 exact Po.ret g2.sub h2 (Reps.cons (Rep.mono g2.fz rv) rs)
def few (ds:List D):Bool:=decide (ds.length<=1000000)
def Uj {K:PySem.W.Frag}{H:Hp}{ds:List D}{xs:List V}(h:few ds=true)(r:Reps K H ds xs):xs.length<=sizeLine:=by
 have:=of_decide_eq_true h
 have e:=sizeLine_eq
 rw[<-r.length,e]
 lia
def Qv (fs:Zf->M (List D))(sd:Zf):M D:=(fs sd).bind fun ds=>if few ds then .ok (.tup ds) else .bad
def Wo (fs:Zf->M (List D))(sd:Zf):M D:=(fs sd).bind fun ds=>if few ds then .ok (.lst ds) else .bad
theorem Gr.tup {K:PySem.W.Frag}{Hf H:Hp}{p:Addr}{ds:List D}{xs:List V}(e:Same Hf H)(hp:H p=none)(r:Reps K Hf ds xs):Rep K (upd Hf p (.tup xs)) (.tup ds) (.ref p):=
 rep_tup.mpr ⟨p,xs,rfl,Zo,r.mono (Z8 (e.free hp) _)⟩
theorem Gr.lst {K:PySem.W.Frag}{Hf H:Hp}{p:Addr}{ds:List D}{xs:List V}(e:Same Hf H)(hp:H p=none)(r:Reps K Hf ds xs):Rep K (upd Hf p (.lst xs)) (.lst ds) (.ref p):=
 rep_lst.mpr ⟨p,xs,rfl,SqL.of Zo,r.mono (Z8 (e.free hp) _)⟩
def Qf {es:List Expr}{fs:Zf->M (List D)}{x1}(h:Tp X E es fs):Yn X E (.Tuple es x1 pos) (Qv fs):=by
 obtain⟨t,p,q⟩:=h
 refine⟨_,M3 p,fun H0 B Hf sd σ H Q sr h=>?_⟩
 refine q H0 B Hf sd σ H _ sr (Po.bind h fun ds vs Hf1 H1 _ g1 rs h1=>?_)
 split at h1
 ·rename_i hf
  exact⟨Uj hf rs,fun p hp=>h1 _ _ _ (Gr.alloc g1.sub hp _) (Gr.tup g1.sub hp rs)⟩
 ·exact h1.elim
def Vu {es:List Expr}{fs:Zf->M (List D)}(h:Tp X E es fs):Yn X E (.List es pos) (Wo fs):=by
 obtain⟨t,p,q⟩:=h
 refine⟨_,D7 p,fun H0 B Hf sd σ H Q sr h=>?_⟩
 refine q H0 B Hf sd σ H _ sr (Po.bind h fun ds vs Hf1 H1 _ g1 rs h1=>?_)
 split at h1
 ·rename_i hf
  exact⟨Uj hf rs,fun p hp=>h1 _ _ _ (Gr.alloc g1.sub hp _) (Gr.lst g1.sub hp rs)⟩
 ·exact h1.elim
def Uk (X:Cx)(E:XK)(f:Value)(g:List D->M D):Prop:=
 ∃r,CallR X f r/\∀(Hf H:Hp) (xs:List V) (ds:List D) (Q:VK),Same Hf H->Reps X.K Hf ds xs->Po X.K E (rV X.K) Hf H (g ds) Q->r xs H Q
def Vl (g:List D->M D)(fs:Zf->M (List D))(sd:Zf):M D:=(fs sd).bind g
def Q6 {x:Str}{id:String}{p:Pos}{g:List D->M D}{e:Expr}{es:List Expr}{fs:Zf->M (List D)}(hc:Uk X E (.builtin id) g)(hg:Gl X x)(hm:X.mg x=none)(hv:bootBuiltins x=some (.builtin id))(ha:Tp X E (e::es) fs)
  (hn:x ≠ "__name__":=by decide) (hdb:(x==("__debug__":Str))=false:=by decide)
  (he:starEach (e::es) X.env=(false,eval e X.env)::starEach es X.env:=by rfl) (hpl:(backTo pos (starEach es X.env)).any (·.1)=false:=by rfl):Yn X E (.Call (.Name x p) (e::es) [] pos) (Vl g fs):=by
 obtain⟨r,hr,qr⟩:=hc
 obtain⟨t,pt,qt⟩:=ha
 refine⟨_,Av hr hg hm hv pt hn hdb he hpl,fun H0 B Hf sd σ H Q sr h=>?_⟩
 exact qt H0 B Hf sd σ H _ sr (Po.bind h fun ds vs Hf1 H1 _ g1 rs h1=>qr Hf1 H1 vs ds Q g1.sub rs h1)
def R1 {x:Str}{T:String}{p:Pos}{g:List D->M D}{e:Expr}{es:List Expr}{fs:Zf->M (List D)}(hc:Uk X E (.type T) g)(hg:Gl X x)(hm:X.mg x=none)(hv:bootBuiltins x=some (.type T))(ha:Tp X E (e::es) fs)
  (hn:x ≠ "__name__":=by decide) (hdb:(x==("__debug__":Str))=false:=by decide)
  (he:starEach (e::es) X.env=(false,eval e X.env)::starEach es X.env:=by rfl) (hpl:(backTo pos (starEach es X.env)).any (·.1)=false:=by rfl):Yn X E (.Call (.Name x p) (e::es) [] pos) (Vl g fs):=by
 obtain⟨r,hr,qr⟩:=hc
 obtain⟨t,pt,qt⟩:=ha
 refine⟨_,Oy hr hg hm hv pt hn hdb he hpl,fun H0 B Hf sd σ H Q sr h=>?_⟩
 exact qt H0 B Hf sd σ H _ sr (Po.bind h fun ds vs Hf1 H1 _ g1 rs h1=>qr Hf1 H1 vs ds Q g1.sub rs h1)
def K8 {K:PySem.W.Frag}{H:Hp}{d:D}{xs:List V}(r:Reps K H [d] xs):∃x,xs=[x]/\Rep K H d x:=by
 obtain⟨x,t,rfl,h,r2⟩:=reps_cons.mp r
 rw[reps_nil.mp r2];exact⟨x,rfl,h⟩
def A6 {K:PySem.W.Frag}{H:Hp}{d e:D}{xs:List V}(r:Reps K H [d,e] xs):∃x y,xs=[x,y]/\Rep K H d x/\Rep K H e y:=by
 obtain⟨x,t,rfl,h,r2⟩:=reps_cons.mp r
 obtain⟨y,rfl,h2⟩:=K8 r2
 exact⟨x,y,rfl,h,h2⟩
def Ul:List D->M D
 |[.int i]=>.ok (.int (if i<0 then -i else i))
 |_=>.bad
def Wt:Uk X E (.builtin "abs") Ul:=by
 refine⟨_,Zbj,fun Hf H xs ds Q e r q=>?_⟩
 unfold Ul at q
 split at q
 ·obtain⟨x,rfl,h⟩:=K8 r
  rw[rep_int.mp h]
  exact⟨_,rfl,Po.ret e q (rep_int.mpr rfl)⟩
 ·exact q.elim
def Bc:List D->M D
 |[.int i]=>.ok (.int i)
 |[.bl b]=>.ok (.int (if b then 1 else 0))
 |_=>.bad
def Zb2:Uk X E (.type "int") Bc:=by
 refine⟨_,Ot,fun Hf H xs ds Q e r q=>?_⟩
 unfold Bc at q
 split at q
 ·obtain⟨x,rfl,h⟩:=K8 r
  rw[rep_int.mp h]
  exact .inl ⟨_,rfl,Po.ret e q (rep_int.mpr rfl)⟩
 ·obtain⟨x,rfl,h⟩:=K8 r
  rw[rep_bl.mp h]
  exact .inr ⟨_,rfl,Po.ret e q (rep_int.mpr rfl)⟩
 ·exact q.elim
def Tr:List D->M D
 |[.lst ds]=>.ok (.int ds.length)
 |[.tup ds]=>.ok (.int ds.length)
 |[.str z]=>if z.length<=sizeLine then .ok (.int z.length) else .bad
 |_=>.bad
def Bd:Uk X E (.builtin "len") Tr:=by
 refine⟨_,call_len_seq.or M9,fun Hf H xs ds Q e r q=>?_⟩
 unfold Tr at q
 split at q
 ·obtain⟨x,rfl,h⟩:=K8 r
  obtain⟨p,ys,rfl,hp,hr⟩:=rep_lst.mp h
  refine .inl ⟨p,ys,rfl,.inl (e.seq hp),?_⟩
  rw[<-hr.length]
  exact Po.ret e q (rep_int.mpr rfl)
 ·obtain⟨x,rfl,h⟩:=K8 r
  obtain⟨p,ys,rfl,hp,hr⟩:=Qc h
  refine .inl ⟨p,ys,rfl,.inr (Same.seqT e hp),?_⟩
  rw[<-hr.length]
  exact Po.ret e q (rep_int.mpr rfl)
 ·split at q
  ·rename_i hz
   obtain⟨x,rfl,h⟩:=K8 r
   rw[rep_str.mp h]
   exact .inr ⟨_,rfl,hz,Po.ret e q (rep_int.mpr rfl)⟩
  ·exact q.elim
 ·exact q.elim
def Ee:List D->M D
 |[.lst ds]=>.ok (.tup ds)
 |[.tup ds]=>.ok (.tup ds)
 |_=>.bad
def Zb3:Uk X E (.type "tuple") Ee:=by
 refine⟨_,To,fun Hf H xs ds Q e r q=>?_⟩
 unfold Ee at q
 split at q
 ·obtain⟨x,rfl,h⟩:=K8 r
  obtain⟨p,ys,rfl,hp,hr⟩:=rep_lst.mp h
  exact⟨p,ys,rfl,.inl ⟨e.seq hp,fun l hl=>q _ _ _ (Gr.alloc e hl _) (Gr.tup e hl hr)⟩⟩
 ·obtain⟨x,rfl,h⟩:=K8 r
  obtain⟨p,ys,rfl,hp,hr⟩:=Qc h
  exact⟨p,ys,rfl,.inr ⟨Same.seqT e hp,Po.ret e q (h)⟩⟩
 ·exact q.elim
def asB:D->M Bool
 |.bl b=>.ok b
 |_=>.bad
def tB (f:Zf->M D)(sd:Zf):M Bool:=(f sd).bind asB
def tN (f:Zf->M Bool)(sd:Zf):M Bool:=(f sd).bind fun b=>.ok (!b)
def tA (f g:Zf->M Bool)(sd:Zf):M Bool:=(f sd).bind fun b=>if b then g sd else .ok false
def tO (f g:Zf->M Bool)(sd:Zf):M Bool:=(f sd).bind fun b=>if b then .ok true else g sd
def Xq {e:Expr}{f:Zf->M D}(h:Yn X E e f)(he:∀whole,isTrue e X.env whole=(do let v <-whole;standAt e.pos;holding [v] (truthy v)):=by intro _;rfl):Ls X E e (tB f):=by
 obtain⟨t,p,q⟩:=h
 refine⟨_,Zix p he,fun H0 B Hf sd σ H Q sr h=>?_⟩
 refine q H0 B Hf sd σ H _ sr (Po.bind h fun d v Hf1 H1 _ g1 rv h1=>?_)
 unfold asB at h1
 split at h1
 ·exact⟨_,rep_bl.mp rv,Po.ret (R:=rQ) g1.sub h1 rfl⟩
 ·exact h1.elim
def Zz {op:CmpOp}{g:D->D->M D}{fa fb:Zf->M D}(ho:Nt X E (compareOp op) g)(ha:Yn X E a fa)(hb:Yn X E b fb)(hm:behindInMarks op b=false):Ls X E (.Compare a [op] [b] pos) (tB (Zp g fa fb)):=by
 obtain⟨r,hr,qr⟩:=ho
 obtain⟨ta,pa,qa⟩:=ha
 obtain⟨tb,pb,qb⟩:=hb
 refine⟨_,Mz hr pa pb hm,fun H0 B Hf sd σ H Q sr h=>?_⟩
 refine two qa qb qr sr (Po.bind h fun d v Hf1 H1 _ g1 rv h1=>?_)
 unfold asB at h1
 split at h1
 ·exact⟨_,rep_bl.mp rv,Po.ret (R:=rQ) g1.sub h1 rfl⟩
 ·exact h1.elim
def Wc {f:Zf->M Bool}(h:Ls X E a f):Ls X E (.UnaryOp .Not a pos) (tN f):=by
 obtain⟨t,p,q⟩:=h
 refine⟨_,Zi0 p,fun H0 B Hf sd σ H Q sr h=>?_⟩
 refine q H0 B Hf sd σ H _ sr (Po.bind h fun b v Hf1 H1 _ g1 rv h1=>?_)
 have e:b=v:=rv
 subst e
 exact Po.ret (R:=rQ) g1.sub h1 rfl
theorem PWd.pt {f:Zf->M Bool}{e:Expr}(h:PWd X E e f):Ls X E e f:=by
 obtain⟨t,p,q⟩:=h
 exact⟨t,p.pt,q⟩
def Vm {f:Zf->M Bool}(h:Ls X E a f):PWd X E (.BoolOp .And [a] pos) f:=by
 obtain⟨t,p,q⟩:=h
 exact⟨t,Zey p,q⟩
def Wd {f:Zf->M Bool}(h:Ls X E a f):PWd X E (.BoolOp .Or [a] pos) f:=by
 obtain⟨t,p,q⟩:=h
 exact⟨t,Ziy p,q⟩
def Vw {rest:List Expr}{f g:Zf->M Bool}(h:Ls X E a f)(h2:PWd X E (.BoolOp .And (b::rest) pos) g):PWd X E (.BoolOp .And (a::b::rest) pos) (tA f g):=by
 obtain⟨t,p,q⟩:=h
 obtain⟨t2,p2,q2⟩:=h2
 refine⟨_,Ziz p p2,fun H0 B Hf sd σ H Q sr h=>?_⟩
 refine q H0 B Hf sd σ H _ sr (Po.bind h fun b v Hf1 H1 _ g1 rv h1=>?_)
 have e:b=v:=rv
 subst e
 cases b with
 |true=>rw[if_pos rfl] at h1 ⊢;exact q2 H0 B Hf1 sd σ H1 Q (sr.gr g1) h1
 |false=>rw[if_neg Bool.false_ne_true] at h1 ⊢;exact Po.ret (R:=rQ) g1.sub h1 rfl
def Nu {rest:List Expr}{f g:Zf->M Bool}(h:Ls X E a f)(h2:PWd X E (.BoolOp .Or (b::rest) pos) g):PWd X E (.BoolOp .Or (a::b::rest) pos) (tO f g):=by
 obtain⟨t,p,q⟩:=h
 obtain⟨t2,p2,q2⟩:=h2
 refine⟨_,Zlr p p2,fun H0 B Hf sd σ H Q sr h=>?_⟩
 refine q H0 B Hf sd σ H _ sr (Po.bind h fun b v Hf1 H1 _ g1 rv h1=>?_)
 have e:b=v:=rv
 subst e
 cases b with
 |true=>rw[if_pos rfl] at h1 ⊢;exact Po.ret (R:=rQ) g1.sub h1 rfl
 |false=>rw[if_neg Bool.false_ne_true] at h1 ⊢;exact q2 H0 B Hf1 sd σ H1 Q (sr.gr g1) h1
def Ts (f g:Zf->M D)(sd:Zf):M D:=(f sd).bind fun d=>(asB d).bind fun b=>if b then g sd else .ok (.bl false)
def Zmj (f:Zf->M D)(sd:Zf):M D:=(f sd).bind fun d=>(asB d).bind fun b=>.ok (.bl (!b))
def D0 (c:Zf->M Bool)(f g:Zf->M D)(sd:Zf):M D:=(c sd).bind fun b=>if b then f sd else g sd
def Ef {op}{f:Zf->M D}(h:Yn X E a f):Yn X E (.BoolOp op [a] pos) f:=by
 obtain⟨t,p,q⟩:=h
 exact⟨t,Zi1 p,q⟩
def Zjq {d:D}{b:Bool}(h:asB d=.ok b):d=.bl b:=by
 unfold asB at h
 split at h
 ·cases h;rfl
 ·cases h
def Zb4 {d:D}{x:XV}(h:asB d=.ex x):False:=by
 unfold asB at h
 split at h<;>cases h
theorem Po.asB {K:PySem.W.Frag}{α β:Type}{R:Hp->Hp->α->β->Prop}{Hf H:Hp}{d:D}{k:Bool->M α}{Q:β->Hp->Prop}(h:Po K E R Hf H ((asB d).bind k) Q):∃b,d=.bl b/\Po K E R Hf H (k b) Q:=by
 cases q:DL.asB d with
 |ok b=>rw[q] at h;exact⟨b,Zjq q,h⟩
 |ex x=>exact(Zb4 q).elim
 |bad=>rw[q] at h;exact h.elim
def Be {rest:List Expr}{f g:Zf->M D}(h:Yn X E a f)(h2:Yn X E (.BoolOp .And (b::rest) pos) g):Yn X E (.BoolOp .And (a::b::rest) pos) (Ts f g):=by
 obtain⟨t,p,q⟩:=h
 obtain⟨t2,p2,q2⟩:=h2
 refine⟨_,Zi2 p p2,fun H0 B Hf sd σ H Q sr h=>?_⟩
 refine q H0 B Hf sd σ H _ sr (Po.bind h fun d v Hf1 H1 _ g1 rv h1=>?_)
 obtain⟨c,rfl,h2⟩:=Po.asB h1
 refine⟨c,rep_bl.mp rv,?_⟩
 cases c with
 |true=>rw[if_pos rfl] at h2 ⊢;exact q2 H0 B Hf1 sd σ H1 Q (sr.gr g1) h2
 |false=>rw[if_neg Bool.false_ne_true] at h2 ⊢;exact Po.ret (R:=rV X.K) g1.sub h2 (rep_bl.mpr rfl)
def Zjr {f:Zf->M D}(h:Yn X E a f):Yn X E (.UnaryOp .Not a pos) (Zmj f):=by
 obtain⟨t,p,q⟩:=h
 refine⟨_,Zi3 p,fun H0 B Hf sd σ H Q sr h=>?_⟩
 refine q H0 B Hf sd σ H _ sr (Po.bind h fun d v Hf1 H1 _ g1 rv h1=>?_)
 obtain⟨c,rfl,h2⟩:=Po.asB h1
 exact⟨c,rep_bl.mp rv,Po.ret (R:=rV X.K) g1.sub h2 (rep_bl.mpr rfl)⟩
def Ko {c:Expr}{f g:Zf->M D}{k:Zf->M Bool}(hc:Ls X E c k)(h:Yn X E a f)(h2:Yn X E b g):Yn X E (.IfExp c a b pos) (D0 k f g):=by
 obtain⟨t,p,q⟩:=hc
 obtain⟨t1,p1,q1⟩:=h
 obtain⟨t2,p2,q2⟩:=h2
 refine⟨_,Aq p p1 p2,fun H0 B Hf sd σ H Q sr h=>?_⟩
 refine q H0 B Hf sd σ H _ sr (Po.bind h fun c v Hf1 H1 _ g1 rv h1=>?_)
 have e:c=v:=rv
 subst e
 cases c with
 |true=>rw[if_pos rfl] at h1 ⊢;exact q1 H0 B Hf1 sd σ H1 Q (sr.gr g1) h1
 |false=>rw[if_neg Bool.false_ne_true] at h1 ⊢;exact q2 H0 B Hf1 sd σ H1 Q (sr.gr g1) h1
end
section
variable {X:Cx}{E:XK}{pos:Pos}{a b:Expr}
def Y7 (sd:Zf):M O:=.ok (.nx sd)
def Zx (f g:Zf->M O)(sd:Zf):M O:=(f sd).bind fun o=>match o with
 |.nx sd'=>g sd'
 |o=>.ok o
def Qh:Nr X E [] Y7:=⟨_,Gd,fun _ _ Hf _ _ _ _ sr h=>h _ Hf _ (Same.refl _) sr⟩
def Zn {st:Stmt}{f:Zf->M O}(h:Ga X E st f):Nr X E [st] f:=by
 obtain⟨t,p,q⟩:=h
 exact⟨t,Y9 p,q⟩
def Zh {st:Stmt}{rest:List Stmt}{f g:Zf->M O}(h:Ga X E st f)(h2:Nr X E rest g):Nr X E (st::rest) (Zx f g):=by
 obtain⟨t,p,q⟩:=h
 obtain⟨t2,p2,q2⟩:=h2
 refine⟨_,Qg p p2,fun H0 B Hf sd σ H D sr h=>?_⟩
 refine q H0 B Hf sd σ H _ sr ?_
 unfold Zx at h
 cases e:f sd with
 |ok o=>
  rw[e] at h
  cases o with
  |nx sd'=>exact fun σ' Hf' H' e' sr'=>q2 H0 B Hf' sd' σ' H' D sr' (PoS.weak e' h)
  |rt s=>exact h
  |bk sd'=>exact h
  |ct sd'=>exact h
 |ex x=>rw[e] at h;exact h
 |bad=>rw[e] at h;exact h
def Z4 (i:Nat)(f:Zf->M D)(sd:Zf):M O:=(f sd).bind fun d=>.ok (.nx (sd.set i (some (.im d))))
def Zr (i:Nat){x:Str}{e:Expr}{f:Zf->M D}{pos':Pos}(hN:X.N.Nodup)(h:Yn X E e f)(hi:X.N[i]?=some x:=by rfl)(hx:Fv X.env.scope x:=by trivial)(hs:swapsWith e (some (.Name x pos')) pos.line X.env=pure false:=by rfl)(hf:X.fn x=true\/X.env.scope.names.lookup x=some .local:=by first|exact .inl rfl|exact .inr rfl|assumption):
  Ga X E (.Assign [.Name x pos'] e pos) (Z4 i f):=by
 obtain⟨t,p,q⟩:=h
 refine⟨_,Kl hN hi hx p hs hf,fun H0 B Hf sd σ H D sr h=>?_⟩
 refine q H0 B Hf sd σ H _ sr (PoS.bind sr h fun d v Hf1 H1 _ g1 sr1 rv h1=>?_)
 exact h1 _ Hf1 H1 (Same.refl _) (sr1.set_im i rv)
def Q0 (f:Zf->M D)(sd:Zf):M O:=(f sd).bind fun d=>.ok (.rt (.im d))
def Zv {e:Expr}{f:Zf->M D}(h:Yn X E e f):Ga X E (.Return (some e) pos) (Q0 f):=by
 obtain⟨t,p,q⟩:=h
 refine⟨_,Nl p,fun H0 B Hf sd σ H D sr h=>?_⟩
 refine q H0 B Hf sd σ H _ sr (PoS.bind sr h fun d v Hf1 H1 _ g1 sr1 rv h1=>?_)
 exact h1 v Hf1 H1 (Same.refl _) sr1.fin rv
def Jw (c:Zf->M Bool)(f g:Zf->M O)(sd:Zf):M O:=(c sd).bind fun b=>if b then f sd else g sd
def Qw {c:Expr}{xs ys:List Stmt}{k:Zf->M Bool}{f g:Zf->M O}(hc:Ls X E c k)(h:Nr X E xs f)(h2:Nr X E ys g):Ga X E (.If c xs ys pos) (Jw k f g):=by
 obtain⟨t,p,q⟩:=hc
 obtain⟨t1,p1,q1⟩:=h
 obtain⟨t2,p2,q2⟩:=h2
 refine⟨_,Ar p p1 p2,fun H0 B Hf sd σ H D sr h=>?_⟩
 refine q H0 B Hf sd σ H _ sr (PoS.bind (R:=rQ) sr h fun c v Hf1 H1 _ g1 sr1 rv h1=>?_)
 have e:c=v:=rv
 subst e
 cases c with
 |true=>rw[if_pos rfl] at h1 ⊢;exact q1 H0 B Hf1 sd σ H1 D sr1 h1
 |false=>rw[if_neg Bool.false_ne_true] at h1 ⊢;exact q2 H0 B Hf1 sd σ H1 D sr1 h1
def Ym (c:Zf->M Bool)(f:Zf->M O):Nat->Zf->M O
 |0,_=>.bad
 |n+1,sd=>(c sd).bind fun b=>if b then((f sd).bind fun o=>match o with
   |.nx sd'=>Ym c f n sd'
   |.ct sd'=>Ym c f n sd'
   |.bk sd'=>.ok (.nx sd')
   |.rt s=>.ok (.rt s)) else .ok (.nx sd)
open Classical in
noncomputable def Wu (c:Zf->M Bool)(f:Zf->M O)(sd:Zf):M O:=if h:∃n,Ym c f n sd≠.bad then Ym c f (choose h) sd else .bad
theorem K9 (c:Zf->M Bool)(f:Zf->M O):∀(n m:Nat) (sd:Zf),n<=m->Ym c f n sd≠.bad->Ym c f m sd=Ym c f n sd
 |0,_,_,_,h=>absurd rfl h
 |n+1,0,_,hm,_=>absurd hm (by lia)
 |n+1,m+1,sd,hm,h=>by
  unfold Ym at h ⊢
  cases e:c sd with
  |ok b=>
   rw[e] at h
   simp only[M.bind_ok] at h ⊢
   cases b with
   |false=>rfl
   |true=>
    simp only[if_true] at h ⊢
    cases e2:f sd with
    |ok o=>
     rw[e2] at h
     simp only[M.bind_ok] at h ⊢
     cases o with
     |nx sd'=>exact K9 c f n m sd' (by lia) h
     |ct sd'=>exact K9 c f n m sd' (by lia) h
     |bk sd'=>rfl
     |rt s=>rfl
    |ex x=>rfl
    |bad=>rfl
  |ex x=>rfl
  |bad=>rfl
def Lu {c:Zf->M Bool}{f:Zf->M O}{n:Nat}{sd:Zf}(h:Ym c f n sd≠.bad):Wu c f sd=Ym c f n sd:=by
 unfold Wu
 have hx:∃n,Ym c f n sd≠.bad:=⟨n,h⟩
 rw[dif_pos hx]
 have h2:=Classical.choose_spec hx
 rcases Nat.le_total n (Classical.choose hx) with l|l
 ·exact K9 c f _ _ sd l h
 ·exact(K9 c f _ _ sd l h2).symm
def Lw {c:Expr}{body:List Stmt}{k:Zf->M Bool}{f:Zf->M O}(hp:PassesOwn (model X.prog X.w) X.A X.env X.xe)(hc:Ls X E c k)(h:Nr X E body f):Ga X E (.While c body [] pos) (Wu k f):=by
 obtain⟨t,p,q⟩:=hc
 obtain⟨t1,p1,q1⟩:=h
 refine⟨_,As hp p p1,fun H0 B Hf sd σ H D sr h=>?_⟩
 obtain⟨n,hn⟩:∃n,PoS X.K E H0 B Hf (Ym k f n sd) D:=by
  unfold Wu at h
  split at h
  ·exact⟨_,h⟩
  ·exact h.elim
 refine⟨fun m σ' H'=>∃Hf' sd',Same Hf Hf'/\SR X.K H0 B Hf' sd' σ' H'/\PoS X.K E H0 B Hf' (Ym k f m sd') D,⟨n,Hf,sd,Same.refl _,sr,hn⟩,?_⟩
 rintro m σ1 H1 ⟨Hf1,sd1,e1,sr1,h1⟩
 cases m with
 |zero=>exact h1.elim
 |succ m=>
  unfold Ym at h1
  refine q H0 B Hf1 sd1 σ1 H1 _ sr1 (PoS.bind (R:=rQ) sr1 h1 fun c v Hf2 H2 _ g2 sr2 rv h2=>?_)
  have e:c=v:=rv
  subst e
  cases c with
  |false=>
   rw[if_neg Bool.false_ne_true] at h2 ⊢
   exact h2 σ1 Hf2 H2 (Same.refl _) sr2
  |true=>
   rw[if_pos rfl] at h2 ⊢
   refine⟨fun σ' H'=>∃Hf' sd',Same Hf Hf'/\SR X.K H0 B Hf' sd' σ' H'/\PoS X.K E H0 B Hf' (Ym k f m sd') D,fun σ' H' w=>⟨m,Nat.lt_succ_self m,w⟩,?_⟩
   refine q1 H0 B Hf2 sd1 σ1 H2 _ sr2 ?_
   cases e2:f sd1 with
   |ok o=>
    rw[e2] at h2
    cases o with
    |nx sd'=>exact fun σ' Hf' H' e' sr'=>⟨Hf',sd',e1.trans (g2.fz.trans e'),sr',PoS.weak e' h2⟩
    |ct sd'=>exact fun σ' Hf' H' e' sr'=>⟨Hf',sd',e1.trans (g2.fz.trans e'),sr',PoS.weak e' h2⟩
    |bk sd'=>exact h2
    |rt s=>exact h2
   |ex x=>rw[e2] at h2;exact h2
   |bad=>rw[e2] at h2;exact h2
end
section
variable {prog:Program}{w:World}{A:Around}{E:Value->Shared->Prop}
theorem Lx {it t:Addr}{items:Array Value}(hne:t≠it):∀(n i:Nat) (s:Shared) (Q:List Value->Shared->Prop),s.heap.IsListIter it t i->s.heap.IsList t items->i+n<=items.size ->
  (∀h',h'.IsListIter it t (i+n)->Heap.SameBut it s.heap h'->Q ((items.toList.drop i).take n) {s with heap:=h'})->wpAny (model prog w) A (draw (.ref it) n) Q E s
 |0,i,s,Q,hit,_,_,hQ=>by
  show wpAny _ _ (pure []) Q E s
  exact wpAny_pure (by simpa using hQ s.heap hit (Heap.SameBut.refl ..))
 |n+1,i,s,Q,hit,ht,hle,hQ=>by
  have hlt:i<items.size:=by lia
  show wpAny _ _ (pyNext (.ref it)>>=_) Q E s
  refine wpAny_bind (wpAny_pyNext_list_item hit ht (x:=items[i]) (by simp[hlt]) fun h₁ hit₁ hs₁=>?_)
  refine wpAny_bind (wpAny_holding (Lx hne n (i+1) _ _ hit₁ (ht.extBut hs₁.extBut hne) (by lia) fun h₂ hit₂ hs₂=>wpAny_pure ?_))
  have hd:items.toList.drop i=items[i]::items.toList.drop (i+1):=by simp[List.drop_eq_getElem_cons,hlt]
  have:=hQ h₂ (by rw[show i+(n+1)=i+1+n by lia];exact hit₂) (hs₁.trans hs₂)
  rw[hd,List.take_succ_cons] at this
  exact this
def Nv {s:Shared}{t:Addr}{items:Array Value}{Q:List Value->Shared->Prop}(hh:A.handled=none)(ht:s.heap.IsList t items)(hQ:∀h',Heap.ExtBut s.heap.objs.size s.heap h'->Q items.toList {s with heap:=h'}):wpAny (model prog w) A (unpackItems (.ref t) items.size none) Q E s:=by
 have hlt:t≠s.heap.objs.size:=by obtain⟨o,ho,_⟩:=ht;exact Nat.ne_of_lt (Heap.lt_size ho)
 unfold unpackItems
 refine wpAny_bind ?_
 ·unfold notIterableAtAll
  refine wpAny_bind (wpAny_specialOf ht.typeIs slot_list_iter.lookup ?_)
  refine wpAny_pure ?_
  simp only[Bool.false_eq_true,if_false]
  refine wpAny_bind (wpAny_holding (wpAny_pyIter_list ht ?_))
  refine wpAny_bind (wpAny_holding (Lx hlt items.size 0 _ _ ⟨_,Heap.get?_push_size _ rfl,rfl,rfl⟩ (ht.push _) (by lia) fun h₁ hit₁ hs₁=>?_))
  have hall:List.take items.size (List.drop 0 items.toList)=items.toList:=by
   rw[List.drop_zero];exact List.take_of_length_le (by simp)
  rw[hall]
  rw[if_neg (by simp)]
  have ht₁:h₁.IsList t items:=(ht.push _).extBut hs₁.extBut hlt
  refine wpAny_bind (wpAny_holding (wpAny_pyNext_list_end hh hit₁ ht₁ (by simp) fun h₂ he₂=>?_))
  simp only[Option.isSome_none,Bool.false_eq_true,if_false]
  refine wpAny_pure (hQ h₂ fun b o hb e=>he₂ b o hb (hs₁.extBut b o hb (Heap.get?_push_of_some _ e)))
def Gh {s:Shared}{env:Env}{elts:List Expr}{x1}{pos:Pos}{t:Addr}{items:Array Value}{Q:Unit->Shared->Prop}(hh:A.handled=none)(ht:s.heap.IsList t items)(hn:(assignEach elts env).length=items.size)(hstar:(assignEach elts env).findIdx? (·.1)=none)(h:∀h',Heap.ExtBut s.heap.objs.size s.heap h'->wpAny (model prog w) A (assignInOrder ((assignEach elts env).map (·.2)) items.toList) Q E {s with heap:=h'}):
  wpAny (model prog w) A (assign (.Tuple elts x1 pos) env (.ref t)) Q E s:=by
 rw[assign_Tuple]
 refine wpAny_bind (wpAny_standAt ?_)
 unfold unpack
 rw[hn,hstar]
 exact wpAny_bind (wpAny_holding (Nv hh ht h))
def Eg (x:Str):List V:=x.cps.toList.map fun c=>V.str ⟨#[c]⟩
theorem A7 {it:Addr}{x:Str}{t:Tok}:∀(n i:Nat) (s:Shared) (Q:List Value->Shared->Prop),s.heap.IsStrIter it "str_ascii_iterator" x t i->i+n<=x.cps.size ->
  (∀h' tk us,h'.IsStrIter it "str_ascii_iterator" x t (i+n)->Heap.SameBut it s.heap h'->Vals (((Eg x).drop i).take n) us->Q us {s with heap:=h',toks:=tk})->wpAny (model prog w) A (draw (.ref it) n) Q E s
 |0,i,s,Q,hit,_,hQ=>by
  show wpAny _ _ (pure []) Q E s
  exact wpAny_pure (hQ s.heap s.toks [] hit (Heap.SameBut.refl ..) (by simpa using Paired.nil))
 |n+1,i,s,Q,hit,hle,hQ=>by
  have hlt:i<x.cps.size:=by lia
  show wpAny _ _ (pyNext (.ref it)>>=_) Q E s
  refine wpAny_bind (wpAny_pyNext_ascii_item hit (c:=x.cps[i]) (by simp[hlt]) fun h₁ hit₁ hs₁=>?_)
  refine wpAny_bind (wpAny_holding (A7 n (i+1) _ _ hit₁ (by lia) fun h₂ tk us hit₂ hs₂ hv=>wpAny_pure ?_))
  have hd:(Eg x).drop i=V.str ⟨#[x.cps[i]]⟩::(Eg x).drop (i+1):=by
   have hl:i<(Eg x).length:=by simp[Eg,hlt]
   rw[List.drop_eq_getElem_cons hl];simp[Eg]
  refine hQ h₂ tk _ (by rw[show i+(n+1)=i+1+n by lia];exact hit₂) (hs₁.trans hs₂) ?_
  rw[hd,List.take_succ_cons]
  exact .cons ⟨_,rfl⟩ hv
def P5 {s:Shared}{x:Str}{t:Tok}{Q:List Value->Shared->Prop}(hh:A.handled=none)(ha:x.cps.all (·<128)=true)(hQ:∀h' tk us,Heap.ExtBut s.heap.objs.size s.heap h'->Vals (Eg x) us->Q us {s with heap:=h',toks:=tk}):wpAny (model prog w) A (unpackItems (.str x t) x.cps.size none) Q E s:=by
 unfold unpackItems
 refine wpAny_bind ?_
 ·unfold notIterableAtAll
  refine wpAny_bind (wpAny_specialOf (typeIs_str s x t) PySem.F.slot_str_iter.lookup ?_)
  refine wpAny_pure ?_
  simp only[Bool.false_eq_true,if_false]
  refine wpAny_bind (wpAny_holding (wpAny_pyIter_ascii ha ?_))
  refine wpAny_bind (wpAny_holding (A7 x.cps.size 0 _ _ ⟨_,Heap.get?_push_size _ rfl,rfl,rfl⟩ (by lia) fun h₁ tk us hit₁ hs₁ hv=>?_))
  have hall:List.take x.cps.size (List.drop 0 (Eg x))=Eg x:=by
   rw[List.drop_zero];exact List.take_of_length_le (by simp[Eg])
  rw[hall] at hv
  have hl:us.length=x.cps.size:=by rw[<-hv.length];simp[Eg]
  rw[if_neg (by simp[hl])]
  refine wpAny_bind (wpAny_holding (wpAny_pyNext_ascii_end hh hit₁ (by simp) fun h₂ he₂=>?_))
  simp only[Option.isSome_none,Bool.false_eq_true,if_false]
  refine wpAny_pure (hQ h₂ tk us (fun b o hb e=>he₂ b o hb (hs₁.extBut b o hb (Heap.get?_push_of_some _ e))) hv)
def Nw {s:Shared}{env:Env}{elts:List Expr}{x1}{pos:Pos}{x:Str}{t:Tok}{Q:Unit->Shared->Prop}(hh:A.handled=none)(ha:x.cps.all (·<128)=true)(hn:(assignEach elts env).length=x.cps.size)(hstar:(assignEach elts env).findIdx? (·.1)=none)(h:∀h' tk us,Heap.ExtBut s.heap.objs.size s.heap h'->Vals (Eg x) us->wpAny (model prog w) A (assignInOrder ((assignEach elts env).map (·.2)) us) Q E {s with heap:=h',toks:=tk}):
  wpAny (model prog w) A (assign (.Tuple elts x1 pos) env (.str x t)) Q E s:=by
 rw[assign_Tuple]
 refine wpAny_bind (wpAny_standAt ?_)
 unfold unpack
 rw[hn,hstar]
 exact wpAny_bind (wpAny_holding (P5 hh ha h))
end
section
variable {X:Cx}{pos:Pos}
def Zmk (K:PySem.W.Frag)(n:Nat)(t:Zht):TG:=fun v σ H Q=>(∃a xs,v=.ref a/\(SqT K H a xs\/SqL K H a xs)/\xs.length=n/\t xs σ H Q)\/∃x:Str,v=.str x/\x.cps.all (·<128)=true/\x.cps.size=n/\t (Eg x) σ H Q
def Zb5 {es:List Expr}{k:Nat}{t:Zht}{n:Nat}(hc:X.calm=true)(h:Zlv X es t)(hn:(assignEach es X.env).length=n:=by rfl)(Nk:(assignEach es X.env).findIdx? (·.1)=none:=by rfl):PG X (.Tuple es k pos) (Zmk X.K n t):=by
 intro pins s σ H v u Q I r hw
 rcases hw with⟨a,xs,e1,hq,hl,hw⟩|⟨x,e1,ha,hl,hw⟩
 case inr=>
  subst e1
  obtain⟨tk,rfl⟩:=(show ∃t,u=Value.str x t from r)
  refine Nw (I.ok.hd hc) ha (by rw[hn,hl]) Nk fun h' tk us hx hv=>?_
  have I1:Inv X pins σ H {s with heap:=h',toks:=tk}:=I.kept (t':=tk) fun b o e=>hx b o (Nat.ne_of_lt (Heap.lt_size e)) e
  exact h pins _ σ H (Eg x) _ Q I1 hv hw
 subst e1
 cases r
 rcases hq with hq|hq
 ·obtain⟨its,rv,ht,hz⟩:=I.tuple hq
  refine assign_Tuple_tuple (I.ok.hd hc) ht (by simp[hn,<-hl,rv.length]) Nk fun h' hx=>?_
  have I1:Inv X pins σ H {s with heap:=h'}:=I.kept (t':=s.toks) fun b o e=>hx b o (Nat.ne_of_lt (Heap.lt_size e)) e
  exact h pins _ σ H xs _ Q I1 (by simpa using rv) hw
 ·obtain⟨its,rv,ht,hz⟩:=I.list hq
  refine Gh (I.ok.hd hc) ht.isList (by simp[hn,<-hl,rv.length]) Nk fun h' hx=>?_
  have I1:Inv X pins σ H {s with heap:=h'}:=I.kept (t':=s.toks) fun b o e=>hx b o (Nat.ne_of_lt (Heap.lt_size e)) e
  exact h pins _ σ H xs _ Q I1 (by simpa using rv) hw
end
def Zh3 (X:Cx)(tg:Expr)(g:D->Zf->M Zf):Prop:=
 ∃t:TG,PG X tg t/\∀(H0:Hp) (B:Addr->Prop) (Hf:Hp) (sd:Zf) (σ:L2.St) (H:Hp) (v:V) (d:D) (sd':Zf) (Q:L2.St->Hp->Prop),SR X.K H0 B Hf sd σ H->Rep X.K Hf d v->g d sd=.ok sd' ->
  (∀σ',SR X.K H0 B Hf sd' σ' H->Q σ' H)->t v σ H Q
def Zfo (X:Cx)(ts:List Expr)(g:List D->Zf->M Zf):Prop:=
 ∃t:Zht,Zlv X ts t/\∀(H0:Hp) (B:Addr->Prop) (Hf:Hp) (sd:Zf) (σ:L2.St) (H:Hp) (vs:List V) (ds:List D) (sd':Zf) (Q:L2.St->Hp->Prop),SR X.K H0 B Hf sd σ H->Reps X.K Hf ds vs->g ds sd=.ok sd' ->
  (∀σ',SR X.K H0 B Hf sd' σ' H->Q σ' H)->t vs σ H Q
section
variable {X:Cx}{E:XK}{pos:Pos}{a b:Expr}
def X4 (i:Nat)(d:D)(sd:Zf):M Zf:=.ok (sd.set i (some (.im d)))
def Qd (i:Nat){x:Str}(hN:X.N.Nodup)(hi:X.N[i]?=some x:=by rfl)(hx:Fv X.env.scope x:=by trivial)(hf:X.fn x=true\/X.env.scope.names.lookup x=some .local:=by first|exact .inl rfl|exact .inr rfl|assumption):
  Zh3 X (.Name x pos) (X4 i):=by
 refine⟨_,Ge hN hi hx hf,fun H0 B Hf sd σ H v d sd' Q sr r e h=>?_⟩
 cases e
 exact h _ (sr.set_im i r)
def R3:List D->Zf->M Zf
 |[],sd=>.ok sd
 |_,_=>.bad
def Yz (g:D->Zf->M Zf)(gs:List D->Zf->M Zf):List D->Zf->M Zf
 |d::ds,sd=>(g d sd).bind fun sd'=>gs ds sd'
 |_,_=>.bad
def R4:Zfo X [] R3:=by
 refine⟨_,Fy,fun H0 B Hf sd σ H vs ds sd' Q sr r e h=>?_⟩
 cases ds with
 |nil=>cases e;exact⟨reps_nil.mp r,h σ sr⟩
 |cons d ds=>cases e
def Xr {es:List Expr}{g:D->Zf->M Zf}{gs:List D->Zf->M Zf}(h1:Zh3 X a g)(h2:Zfo X es gs)(hs:(assignEach (a::es) X.env).map (·.2)=assign a X.env::(assignEach es X.env).map (·.2):=by rfl):Zfo X (a::es) (Yz g gs):=by
 obtain⟨t,p,q⟩:=h1
 obtain⟨t2,p2,q2⟩:=h2
 refine⟨_,Rr p p2 hs,fun H0 B Hf sd σ H vs ds sd' Q sr r e h=>?_⟩
 cases ds with
 |nil=>cases e
 |cons d ds=>
  obtain⟨v,vr,rfl,rv,rr⟩:=reps_cons.mp r
  cases e1:g d sd with
  |ok sd1=>
   have e':gs ds sd1=.ok sd':=by
    have e:(g d sd).bind (fun sd'=>gs ds sd')=.ok sd':=e
    rw[e1] at e
    exact e
   exact⟨v,vr,rfl,q H0 B Hf sd σ H v d sd1 _ sr rv e1 fun σ1 sr1=>q2 H0 B Hf sd1 σ1 H vr ds sd' Q sr1 rr e' h⟩
  |ex x=>have e:(g d sd).bind (fun sd'=>gs ds sd')=.ok sd':=e;rw[e1] at e;cases e
  |bad=>have e:(g d sd).bind (fun sd'=>gs ds sd')=.ok sd':=e;rw[e1] at e;cases e
def Pm (n:Nat)(gs:List D->Zf->M Zf):D->Zf->M Zf
 |.tup ds,sd=>if ds.length=n then gs ds sd else .bad
 |.lst ds,sd=>if ds.length=n then gs ds sd else .bad
 |.str x,sd=>if x.cps.size=n/\x.cps.all (·<128)=true then gs (x.cps.toList.map fun c=>.str ⟨#[c]⟩) sd else .bad
 |_,_=>.bad
theorem A8 {K:PySem.W.Frag}{H:Hp}:∀l:List Nat,Reps K H (l.map fun c=>D.str ⟨#[c]⟩) (l.map fun c=>V.str ⟨#[c]⟩)
 |[]=>Reps.nil
 |_::l=>Reps.cons (rep_str.mpr rfl) (A8 l)
def Bf {es:List Expr}{k:Nat}{gs:List D->Zf->M Zf}{n:Nat}(hc:X.calm=true)(h:Zfo X es gs)(hn:(assignEach es X.env).length=n:=by rfl)(Nk:(assignEach es X.env).findIdx? (·.1)=none:=by rfl):Zh3 X (.Tuple es k pos) (Pm n gs):=by
 obtain⟨t,p,q⟩:=h
 refine⟨_,Zb5 hc p hn Nk,fun H0 B Hf sd σ H v d sd' Q sr r e h=>?_⟩
 unfold Pm at e
 split at e
 ·rename_i ds
  split at e
  ·rename_i hl
   obtain⟨a,xs,rfl,ha,hr⟩:=Qc r
   exact .inl ⟨a,xs,rfl,.inl (Same.seqT sr.sub ha),by rw[<-hr.length];exact hl,q H0 B Hf sd σ H xs ds sd' Q sr hr e h⟩
  ·cases e
 ·rename_i ds
  split at e
  ·rename_i hl
   obtain⟨a,xs,rfl,ha,hr⟩:=rep_lst.mp r
   exact .inl ⟨a,xs,rfl,.inr (sr.sub.seq ha),by rw[<-hr.length];exact hl,q H0 B Hf sd σ H xs ds sd' Q sr hr e h⟩
  ·cases e
 ·rename_i x
  split at e
  ·rename_i hl
   exact .inr ⟨x,rep_str.mp r,hl.2,hl.1,q H0 B Hf sd σ H (Eg x) _ sd' Q sr (A8 x.cps.toList) e h⟩
  ·cases e
 ·cases e
def Eh (f:Zf->M D)(g:D->Zf->M Zf)(sd:Zf):M O:=(f sd).bind fun d=>match g d sd with
 |.ok sd'=>.ok (.nx sd')
 |_=>.bad
def F8 {e tg:Expr}{f:Zf->M D}{g:D->Zf->M Zf}(h:Yn X E e f)(hg:Zh3 X tg g)(hs:swapsWithSole [tg] e pos.line X.env=pure false:=by rfl)(hw:swappedStores [tg] e X.env=pure none:=by rfl)(h1:(assignEach [tg] X.env).map (·.2)=[assign tg X.env]:=by rfl):Ga X E (.Assign [tg] e pos) (Eh f g):=by
 obtain⟨t,p,q⟩:=h
 obtain⟨tg',pg,qg⟩:=hg
 refine⟨_,Zi4 p pg hs hw h1,fun H0 B Hf sd σ H D sr h=>?_⟩
 refine q H0 B Hf sd σ H _ sr (PoS.bind sr h fun d v Hf1 H1 _ g1 sr1 rv h1=>?_)
 split at h1
 ·rename_i sd' e1
  exact qg H0 B Hf1 sd σ H1 v d sd' _ sr1 rv e1 fun σ' sr'=>h1 σ' Hf1 H1 (Same.refl _) sr'
 ·exact h1.elim
def O4 (i j:Nat)(fs:Zf->M (List D))(sd:Zf):M O:=(fs sd).bind fun ds=>match ds with
 |[d,e]=>.ok (.nx ((sd.set i (some (.im d))).set j (some (.im e))))
 |_=>.bad
def Zfp (i j:Nat){x y:Str}{fs:Zf->M (List D)}{px py pt:Pos}{kt k2 pt2}(hc:X.calm=true)(hN:X.N.Nodup)(ha:Tp X E [a,b] fs)(hw:swappedStores [.Tuple [.Name x px,.Name y py] kt pt] (.Tuple [a,b] k2 pt2) X.env=pure (some [x,y]))(hi:X.N[i]?=some x:=by rfl)(hj:X.N[j]?=some y:=by rfl)(hij:i≠j:=by decide)(hx:X.env.scope.names.lookup x=some .local:=by rfl)(hy:X.env.scope.names.lookup y=some .local:=by rfl)(hs:swapsWithSole [.Tuple [.Name x px,.Name y py] kt pt] (.Tuple [a,b] k2 pt2) pos.line X.env=pure false:=by rfl):
  Ga X E (.Assign [.Tuple [.Name x px,.Name y py] kt pt] (.Tuple [a,b] k2 pt2) pos) (O4 i j fs):=by
 obtain⟨t,p,q⟩:=ha
 refine⟨_,Zi5 hc hN hi hj hij hx hy p hw hs,fun H0 B Hf sd σ H D sr h=>?_⟩
 refine q H0 B Hf sd σ H _ sr (PoS.bind sr h fun ds vs Hf1 H1 _ g1 sr1 rs h1=>?_)
 split at h1
 ·rename_i d e
  obtain⟨v,w,rfl,rv,rw'⟩:=A6 rs
  exact⟨v,w,rfl,h1 _ Hf1 H1 (Same.refl _) ((sr1.set_im i rv).set_im j rw')⟩
 ·exact h1.elim
def S.toD:S->M D
 |.im d=>.ok d
 |.ow ds=>.ok (.lst ds)
 |.od _=>.bad
 |.dk _=>.bad
 |.xc _=>.bad
 |.fn _=>.bad
 |.ob _ _ _=>.bad
 |.fl _ _ _=>.bad
def Tl (K:PySem.W.Frag)(F:List D->M S):Sp:=fun vs H Q _=>∃Hf ds s,Same Hf H/\Reps K Hf ds vs/\F ds=.ok s/\∀v Hf' H',Gr Hf H Hf' H'->RS K H Hf' H' s v->Q v H'
def Nx (r:M O):M S:=r.bind fun o=>match o with
 |.rt s=>.ok s
 |.nx _=>.ok (.im .non)
 |_=>.bad
def Ug (n m:Nat)(f:Zf->M O)(ds:List D):M S:=if ds.length=n then Nx (f (ds.map (fun d=>some (S.im d))++List.replicate m none)) else .bad
def A9 {K:PySem.W.Frag}{N:List Str}{Hf H:Hp}{ds:List D}{vs:List V}{m:Nat}(e:Same Hf H)(r:Reps K Hf ds vs)(hN:N.length=ds.length+m):
  SR K H (fun a=>Lv H a/\Hf a=none) Hf (ds.map (fun d=>some (S.im d))++List.replicate m none) (L2.Xu N vs) H where
 sub:=e
 all:=Same.refl _
 ban:=fun _ h=>h.2
 bt:=fun _ h=>h.1
 len:=by
  unfold L2.Xu
  have:=r.length
  simp only[List.length_append,List.length_map,List.length_replicate]
  lia
 imS:=fun i d hi hz=>by
  unfold L2.Xu
  by_cases hl:i<ds.length
  ·rw[List.getElem?_append_left (by simpa using hl),List.getElem?_map] at hi
   cases q:ds[i]? with
   |none=>rw[q] at hi;cases hi
   |some d'=>
    rw[q] at hi
    cases hi
    obtain⟨v,e1,e2⟩:=r.get q
    refine⟨v,?_,e2⟩
    have:i<vs.length:=(List.getElem?_eq_some_iff.mp e1).1
    rw[List.getElem?_append_left (by simpa using this),List.getElem?_map,e1]
    rfl
  ·rw[List.getElem?_append_right (by simpa using hl),List.getElem?_replicate] at hi
   split at hi<;>cases hi
 ow:=fun i t hi ho=>by
  by_cases hl:i<ds.length
  ·rw[List.getElem?_append_left (by simpa using hl),List.getElem?_map] at hi
   cases q:ds[i]? with
   |none=>rw[q] at hi;cases hi
   |some d'=>rw[q] at hi;cases hi;cases ho
  ·rw[List.getElem?_append_right (by simpa using hl),List.getElem?_replicate] at hi
   split at hi<;>cases hi
 sep:=fun i j t _ p _ hi ho _ _ _ _=>by
  by_cases hl:i<ds.length
  ·rw[List.getElem?_append_left (by simpa using hl),List.getElem?_map] at hi
   cases q:ds[i]? with
   |none=>rw[q] at hi;cases hi
   |some d'=>rw[q] at hi;cases hi;cases ho
  ·rw[List.getElem?_append_right (by simpa using hl),List.getElem?_replicate] at hi
   split at hi<;>cases hi
def Jh {P:Program}{w:World}{K:PySem.W.Frag}{mg:Str->Option Value}{base:Heap}{x qual:Str}{st:Stmt}{f:Addr}{fd:FuncData}{N ps:List Str}{k m n:Nat}{fb:Zf->M O}(F:Fun K x qual st f fd)(sc:FnScope N ps (Zg st))(hn:ps.length=n)(hN:N.length=n+m)(hbody:∀(cdv:Value) (A:Around) (outer:List Env) (s:Shared) (H:Hp) (E:XK),Room k (A.deeper (envOfC qual (Zg st) s.heap.objs.size f cdv)) ->
   Nr (X0 Ye P w K mg base N qual (Zg st) f cdv A outer s H E).nox E0 (Yy st) fb):FnOk P w K mg base Ye (k+1) f fd ps (Tl K (Ug n m fb)):=by
 refine F.ok sc (fun vs H Q E h=>?_) (fun cdv A outer s H vs Q E hr h=>?_)
 ·obtain⟨Hf,ds,s,e,r,hF,_⟩:=h
  unfold Ug at hF
  split at hF
  ·rename_i hl
   rw[<-r.length,hl,hn]
  ·cases hF
 ·obtain⟨Hf,ds,s',e,r,hF,q⟩:=h
  obtain⟨t,p,qt⟩:=hbody cdv A outer s H E hr
  unfold Ug at hF
  split at hF
  ·rename_i hl
   refine⟨t,p,qt H _ Hf _ (L2.Xu N vs) H _ (A9 (N:=N) (m:=m) e r (by lia)) ?_⟩
   generalize fb (List.map (fun d=>some (S.im d)) ds++List.replicate m none)=ro at hF
   have back:∀{v:V}{Hf' H':Hp}{s:DL.S},Same Hf Hf'->Fin' H (fun a=>Lv H a/\Hf a=none) Hf' H'->RS K H Hf' H' s v->s=s'->Q v H':=fun {v Hf' H' s} e1 e2 e3 e4=>by
    subst e4
    exact q v Hf' H' ⟨e1,e2.sub,e2.all,fun a h1 h2=>e2.ban a ⟨h1,h2⟩⟩ e3
   cases ro with
   |ok o=>
    cases o with
    |rt s2=>
     have e':s2=s':=by cases hF;rfl
     exact fun v Hf' H' e1 e2 e3=>back e1 e2 e3 e'
    |nx sd'=>
     have e':DL.S.im .non=s':=by cases hF;rfl
     exact fun σ' Hf' H' e1 sr'=>back (v:=.non) (s:=DL.S.im .non) e1 sr'.fin (show Rep K Hf' .non .non from rep_non.mpr rfl) e'
    |bk sd'=>cases hF
    |ct sd'=>cases hF
   |ex x=>cases hF
   |bad=>cases hF
  ·cases hF
def Z5 (F:List D->M S)(fs:Zf->M (List D))(sd:Zf):M D:=(fs sd).bind fun ds=>match F ds with
 |.ok s=>s.toD
 |_=>.bad
def Xa {k:Nat}{f:Addr}{fd:FuncData}{ps:List Str}{F:List D->M S}{x:Str}{p:Pos}{es:List Expr}{fs:Zf->M (List D)}(G:FnOk X.prog X.w X.K X.mg X.base Ye k f fd ps (Tl X.K F))(hr:Room k X.A)(hm:X.mg x=some (.ref f))(hk:PySem.W.keepIn X.K (.ref f)=true)(hb:Binds X.K fd ps [])(ha:Tp X E (a::es) fs)(hg:Gl X x:=by rfl) (hdb:(x==("__debug__":Str))=false:=by decide) (he:starEach (a::es) X.env=(false,eval a X.env)::starEach es X.env:=by rfl) (hpl:(backTo pos (starEach es X.env)).any (·.1)=false:=by rfl):
  Yn X E (.Call (.Name x p) (a::es) [] pos) (Z5 F fs):=by
 obtain⟨t,pt,qt⟩:=ha
 refine⟨_,Jy (dvs:=[]) (E:=E0) G hr hg hm hk hb .nil Jl pt hdb he hpl,fun H0 B Hf sd σ H Q sr h=>?_⟩
 refine qt H0 B Hf sd σ H _ sr (Po.bind h fun ds vs Hf1 H1 _ g1 rs h1=>?_)
 split at h1
 ·rename_i s e
  refine⟨Hf1,ds,s,g1.sub,by rw[List.append_nil];exact rs,e,fun v Hf' H' g2 rv=>?_⟩
  cases s with
  |im d=>exact h1 v Hf' H' g2 rv
  |ow es=>
   obtain⟨p,rfl,e1,e2,xs,e3,e4⟩:=rv
   refine h1 _ (upd Hf' p (.lst xs)) H' ⟨g2.fz.trans (Z8 e2 _),fun b u q=>?_,g2.all,fun a h1 h2=>?_⟩ (rep_lst.mpr ⟨p,xs,rfl,SqL.of Zo,e4.mono (Z8 e2 _)⟩)
   ·by_cases hb:b=p
    ·subst hb;rw[Zo] at q;rw[e3];exact q
    ·rw[Zj hb] at q;exact g2.sub b u q
   ·have:a≠p:=fun z=>h1.nn (z▸e1)
    rw[Zj this];exact g2.ban a h1 h2
  |od kvs=>exact h1.elim
  |dk kvs=>exact h1.elim
  |xc x=>exact h1.elim
  |fn x=>exact h1.elim
  |ob a c r=>exact h1.elim
  |fl a g q=>exact h1.elim
 ·exact h1.elim
end
mutual
def D.eq:D->D->Bool
 |.non,.non=>true
 |.bl a,.bl b=>a==b
 |.bl a,.int b=>(if a then 1 else 0)==b
 |.int a,.bl b=>a==(if b then 1 else 0)
 |.int a,.int b=>a==b
 |.str a,.str b=>a==b
 |.tup xs,.tup ys=>D.eqs xs ys
 |.lst xs,.lst ys=>D.eqs xs ys
 |_,_=>false
def D.eqs:List D->List D->Bool
 |[],[]=>true
 |x::xs,y::ys=>D.eq x y&&D.eqs xs ys
 |_,_=>false
end
mutual
def D.dep:D->Nat
 |.tup ds=>D.deps ds+1
 |.lst ds=>D.deps ds+1
 |_=>0
def D.deps:List D->Nat
 |[]=>0
 |d::ds=>max (D.dep d) (D.deps ds)
end
mutual
theorem D.eq_refl:∀d:D,D.eq d d=true
 |.non=>by rw[D.eq]
 |.bl b=>by rw[D.eq];simp
 |.int i=>by rw[D.eq];simp
 |.str x=>by rw[D.eq];simp
 |.tup ds=>by rw[D.eq];exact D.eqs_refl ds
 |.lst ds=>by rw[D.eq];exact D.eqs_refl ds
theorem D.eqs_refl:∀ds:List D,D.eqs ds ds=true
 |[]=>by rw[D.eqs]
 |d::ds=>by rw[D.eqs,D.eq_refl d,D.eqs_refl ds];rfl
end
theorem D.eqs_all:∀ds es:List D,D.eqs ds es=((List.range (min ds.length es.length)).all (fun j=>D.eq (ds.getD j .non) (es.getD j .non))&&ds.length==es.length)
 |[],[]=>by rw[D.eqs];rfl
 |[],_::_=>by rw[D.eqs];simp;all_goals (intros;simp_all)
 |_::_,[]=>by rw[D.eqs];simp;all_goals (intros;simp_all)
 |d::ds,e::es=>by
  have h:min (d::ds).length (e::es).length=min ds.length es.length+1:=by simp only[List.length_cons];lia
  rw[D.eqs,D.eqs_all ds es,h,List.range_succ_eq_map,List.all_cons,List.all_map,Bool.and_assoc]
  congr 1
  simp only[List.length_cons]
  congr 1
  by_cases q:ds.length=es.length
  ·simp[q]
  ·have q':¬ds.length+1=es.length+1:=by lia
   simp[q]
section
variable {X:Cx}{pins:List (Addr×Obj)}{σ:L2.St}{H:Hp}{s:Shared}
def Zb6 (I:Inv X pins σ H s){a:Addr}{xs ys:List V}(h1:SqT X.K H a xs)(h2:SqL X.K H a ys):False:=by
 obtain⟨its,_,⟨o,e,c,_⟩,_⟩:=I.tuple h1
 obtain⟨its2,_,p,_⟩:=I.list h2
 obtain⟨o2,e2,c2,_⟩:=p.isList
 rw[e] at e2
 cases e2
 rw[c] at c2
 exact absurd c2 (by decide)
mutual
theorem Gi (I:Inv X pins σ H s):∀(d d':D) (v:V),Rep X.K H d v->Rep X.K H d' v->d=d'
 |.non,d',v,h1,h2=>by
  rw[rep_non] at h1;subst h1
  cases d' with
  |non=>rfl
  |bl b=>rw[rep_bl] at h2;cases h2
  |int b=>rw[rep_int] at h2;cases h2
  |str b=>rw[rep_str] at h2;cases h2
  |tup b=>rw[rep_tup] at h2;obtain⟨_,_,e,_⟩:=h2;cases e
  |lst b=>rw[rep_lst] at h2;obtain⟨_,_,e,_⟩:=h2;cases e
 |.bl a,d',v,h1,h2=>by
  rw[rep_bl] at h1;subst h1
  cases d' with
  |non=>rw[rep_non] at h2;cases h2
  |bl b=>rw[rep_bl] at h2;cases h2;rfl
  |int b=>rw[rep_int] at h2;cases h2
  |str b=>rw[rep_str] at h2;cases h2
  |tup b=>rw[rep_tup] at h2;obtain⟨_,_,e,_⟩:=h2;cases e
  |lst b=>rw[rep_lst] at h2;obtain⟨_,_,e,_⟩:=h2;cases e
 |.int a,d',v,h1,h2=>by
  rw[rep_int] at h1;subst h1
  cases d' with
  |non=>rw[rep_non] at h2;cases h2
  |bl b=>rw[rep_bl] at h2;cases h2
  |int b=>rw[rep_int] at h2;cases h2;rfl
  |str b=>rw[rep_str] at h2;cases h2
  |tup b=>rw[rep_tup] at h2;obtain⟨_,_,e,_⟩:=h2;cases e
  |lst b=>rw[rep_lst] at h2;obtain⟨_,_,e,_⟩:=h2;cases e
 |.str a,d',v,h1,h2=>by
  rw[rep_str] at h1;subst h1
  cases d' with
  |non=>rw[rep_non] at h2;cases h2
  |bl b=>rw[rep_bl] at h2;cases h2
  |int b=>rw[rep_int] at h2;cases h2
  |str b=>rw[rep_str] at h2;cases h2;rfl
  |tup b=>rw[rep_tup] at h2;obtain⟨_,_,e,_⟩:=h2;cases e
  |lst b=>rw[rep_lst] at h2;obtain⟨_,_,e,_⟩:=h2;cases e
 |.tup ds,d',v,h1,h2=>by
  obtain⟨a,xs,rfl,ha,hr⟩:=Qc h1
  cases d' with
  |non=>rw[rep_non] at h2;cases h2
  |bl b=>rw[rep_bl] at h2;cases h2
  |int b=>rw[rep_int] at h2;cases h2
  |str b=>rw[rep_str] at h2;cases h2
  |tup es=>
   obtain⟨b,ys,e,hb,hr2⟩:=Qc h2
   cases e
   have:=I.tuple_inj ha hb
   subst this
   rw[R5 I ds es xs hr hr2]
  |lst es=>
   obtain⟨b,ys,e,hb,hr2⟩:=rep_lst.mp h2
   cases e
   exact(Zb6 I ha hb).elim
 |.lst ds,d',v,h1,h2=>by
  obtain⟨a,xs,rfl,ha,hr⟩:=rep_lst.mp h1
  cases d' with
  |non=>rw[rep_non] at h2;cases h2
  |bl b=>rw[rep_bl] at h2;cases h2
  |int b=>rw[rep_int] at h2;cases h2
  |str b=>rw[rep_str] at h2;cases h2
  |tup es=>
   obtain⟨b,ys,e,hb,hr2⟩:=Qc h2
   cases e
   exact(Zb6 I hb ha).elim
  |lst es=>
   obtain⟨b,ys,e,hb,hr2⟩:=rep_lst.mp h2
   cases e
   have:=I.list_inj ha hb
   subst this
   rw[R5 I ds es xs hr hr2]
theorem R5 (I:Inv X pins σ H s):∀(ds es:List D) (vs:List V),Reps X.K H ds vs->Reps X.K H es vs->ds=es
 |[],[],_,_,_=>rfl
 |[],e::es,vs,h1,h2=>by
  rw[reps_nil] at h1;subst h1
  obtain⟨_,_,z,_⟩:=reps_cons.mp h2
  cases z
 |d::ds,[],vs,h1,h2=>by
  rw[reps_nil] at h2;subst h2
  obtain⟨_,_,z,_⟩:=reps_cons.mp h1
  cases z
 |d::ds,e::es,vs,h1,h2=>by
  obtain⟨v,r,rfl,a1,a2⟩:=reps_cons.mp h1
  obtain⟨v',r',z,b1,b2⟩:=reps_cons.mp h2
  cases z
  rw[Gi I d e v a1 b1,R5 I ds es r a2 b2]
end
structure Cm (A:Around) (s:Shared) (u v:Value) (b:Bool):Prop where
 rc:SeqAt.RcAt A s u v b
 ne:SeqAt.RcNeAt A s u v (!b)
 eq:SeqAt.EqAt A s u v b
mutual
theorem R6 (I:Inv X pins σ H s):∀(x y:D) (A:Around) (v w:V) (u1 u2:Value),A.units+x.dep<cLine->Rep X.K H x v->Rep X.K H y w->RelV v u1->RelV w u2->Cm A s u1 u2 (D.eq x y)
 |.non,y,A,v,w,u1,u2,hu,rx,ry,r1,r2=>by
  rw[rep_non] at rx;subst rx
  have r1:u1=Value.none:=r1
  subst r1
  have hu':A.units<cLine:=by lia
  cases y with
  |non=>rw[rep_non] at ry;subst ry;cases (show u2=Value.none from r2);rw[D.eq];exact⟨.none_none,.none_none,.same _⟩
  |bl b=>rw[rep_bl] at ry;subst ry;cases (show u2=Value.bool b from r2);rw[D.eq];exact⟨.none_bool b,.none_bool b,.none_bool b⟩;all_goals (intros;simp_all)
  |int b=>rw[rep_int] at ry;subst ry;obtain⟨t,q⟩:=(show ∃t,u2=Value.int b t from r2);subst q;rw[D.eq];exact⟨.none_int b t,.none_int b t,.none_int b t⟩;all_goals (intros;simp_all)
  |str b=>rw[rep_str] at ry;subst ry;obtain⟨t,q⟩:=(show ∃t,u2=Value.str b t from r2);subst q;rw[D.eq];exact⟨.none_str b t,.none_str b t,.none_str b t⟩;all_goals (intros;simp_all)
  |tup es=>
   obtain⟨p,xs,rfl,hp,hr⟩:=Qc ry
   cases (show u2=Value.ref p from r2)
   obtain⟨its,_,ht,_⟩:=I.tuple hp
   rw[D.eq]
   exact⟨.none_tuple ht hu',.none_tuple ht hu',.none_tuple ht hu'⟩
   all_goals (intros;simp_all)
  |lst es=>
   obtain⟨p,xs,rfl,hp,hr⟩:=rep_lst.mp ry
   cases (show u2=Value.ref p from r2)
   obtain⟨its,_,ht,_⟩:=I.list hp
   rw[D.eq]
   exact⟨.none_list ht.isList hu',.none_list ht.isList hu',.none_list ht.isList hu'⟩
   all_goals (intros;simp_all)
 |.bl a,y,A,v,w,u1,u2,hu,rx,ry,r1,r2=>by
  rw[rep_bl] at rx;subst rx
  have r1:u1=Value.bool a:=r1
  subst r1
  have hu':A.units<cLine:=by lia
  cases y with
  |non=>rw[rep_non] at ry;subst ry;cases (show u2=Value.none from r2);rw[D.eq];exact⟨.bool_none a,.bool_none a,.bool_none a⟩;all_goals (intros;simp_all)
  |bl b=>rw[rep_bl] at ry;subst ry;cases (show u2=Value.bool b from r2);rw[D.eq];exact⟨.bool_bool a b,.bool_bool a b,.bool_bool a b⟩
  |int b=>rw[rep_int] at ry;subst ry;obtain⟨t,q⟩:=(show ∃t,u2=Value.int b t from r2);subst q;rw[D.eq];exact⟨.bool_int a b t,.bool_int a b t,.bool_int a b t⟩
  |str b=>rw[rep_str] at ry;subst ry;obtain⟨t,q⟩:=(show ∃t,u2=Value.str b t from r2);subst q;rw[D.eq];exact⟨.bool_str a b t,.bool_str a b t,.bool_str a b t⟩;all_goals (intros;simp_all)
  |tup es=>
   obtain⟨p,xs,rfl,hp,hr⟩:=Qc ry
   cases (show u2=Value.ref p from r2)
   obtain⟨its,_,ht,_⟩:=I.tuple hp
   rw[D.eq]
   exact⟨.bool_tuple a ht hu',.bool_tuple a ht hu',.bool_tuple a ht hu'⟩
   all_goals (intros;simp_all)
  |lst es=>
   obtain⟨p,xs,rfl,hp,hr⟩:=rep_lst.mp ry
   cases (show u2=Value.ref p from r2)
   obtain⟨its,_,ht,_⟩:=I.list hp
   rw[D.eq]
   exact⟨.bool_list a ht.isList hu',.bool_list a ht.isList hu',.bool_list a ht.isList hu'⟩
   all_goals (intros;simp_all)
 |.int a,y,A,v,w,u1,u2,hu,rx,ry,r1,r2=>by
  rw[rep_int] at rx;subst rx
  obtain⟨t1,q1⟩:=(show ∃t,u1=Value.int a t from r1)
  subst q1
  have hu':A.units<cLine:=by lia
  cases y with
  |non=>rw[rep_non] at ry;subst ry;cases (show u2=Value.none from r2);rw[D.eq];exact⟨.int_none a t1,.int_none a t1,.int_none a t1⟩;all_goals (intros;simp_all)
  |bl b=>rw[rep_bl] at ry;subst ry;cases (show u2=Value.bool b from r2);rw[D.eq];exact⟨.int_bool a t1 b,.int_bool a t1 b,.int_bool a t1 b⟩
  |int b=>rw[rep_int] at ry;subst ry;obtain⟨t,q⟩:=(show ∃t,u2=Value.int b t from r2);subst q;rw[D.eq];exact⟨.int_int a t1 b t,.int_int a t1 b t,.int_int a t1 b t⟩
  |str b=>rw[rep_str] at ry;subst ry;obtain⟨t,q⟩:=(show ∃t,u2=Value.str b t from r2);subst q;rw[D.eq];exact⟨.int_str a t1 b t,.int_str a t1 b t,.int_str a t1 b t⟩;all_goals (intros;simp_all)
  |tup es=>
   obtain⟨p,xs,rfl,hp,hr⟩:=Qc ry
   cases (show u2=Value.ref p from r2)
   obtain⟨its,_,ht,_⟩:=I.tuple hp
   rw[D.eq]
   exact⟨.int_tuple a t1 ht hu',.int_tuple a t1 ht hu',.int_tuple a t1 ht hu'⟩
   all_goals (intros;simp_all)
  |lst es=>
   obtain⟨p,xs,rfl,hp,hr⟩:=rep_lst.mp ry
   cases (show u2=Value.ref p from r2)
   obtain⟨its,_,ht,_⟩:=I.list hp
   rw[D.eq]
   exact⟨.int_list a t1 ht.isList hu',.int_list a t1 ht.isList hu',.int_list a t1 ht.isList hu'⟩
   all_goals (intros;simp_all)
 |.str a,y,A,v,w,u1,u2,hu,rx,ry,r1,r2=>by
  rw[rep_str] at rx;subst rx
  obtain⟨t1,q1⟩:=(show ∃t,u1=Value.str a t from r1)
  subst q1
  have hu':A.units<cLine:=by lia
  cases y with
  |non=>rw[rep_non] at ry;subst ry;cases (show u2=Value.none from r2);rw[D.eq];exact⟨.str_none a t1,.str_none a t1,.str_none a t1⟩;all_goals (intros;simp_all)
  |bl b=>rw[rep_bl] at ry;subst ry;cases (show u2=Value.bool b from r2);rw[D.eq];exact⟨.str_bool a t1 b,.str_bool a t1 b,.str_bool a t1 b⟩;all_goals (intros;simp_all)
  |int b=>rw[rep_int] at ry;subst ry;obtain⟨t,q⟩:=(show ∃t,u2=Value.int b t from r2);subst q;rw[D.eq];exact⟨.str_int a t1 b t,.str_int a t1 b t,.str_int a t1 b t⟩;all_goals (intros;simp_all)
  |str b=>rw[rep_str] at ry;subst ry;obtain⟨t,q⟩:=(show ∃t,u2=Value.str b t from r2);subst q;rw[D.eq];exact⟨.str_str a t1 b t,.str_str a t1 b t,.str_str a t1 b t⟩
  |tup es=>
   obtain⟨p,xs,rfl,hp,hr⟩:=Qc ry
   cases (show u2=Value.ref p from r2)
   obtain⟨its,_,ht,_⟩:=I.tuple hp
   rw[D.eq]
   exact⟨.str_tuple a t1 ht hu',.str_tuple a t1 ht hu',.str_tuple a t1 ht hu'⟩
   all_goals (intros;simp_all)
  |lst es=>
   obtain⟨p,xs,rfl,hp,hr⟩:=rep_lst.mp ry
   cases (show u2=Value.ref p from r2)
   obtain⟨its,_,ht,_⟩:=I.list hp
   rw[D.eq]
   exact⟨.str_list a t1 ht.isList hu',.str_list a t1 ht.isList hu',.str_list a t1 ht.isList hu'⟩
   all_goals (intros;simp_all)
 |.tup ds,y,A,v,w,u1,u2,hu,rx,ry,r1,r2=>by
  rw[D.dep] at hu
  have hu':A.units<cLine:=by lia
  obtain⟨p1,xs1,rfl,hp1,hr1⟩:=Qc rx
  cases (show u1=Value.ref p1 from r1)
  obtain⟨its1,rv1,ht1,_⟩:=I.tuple hp1
  cases y with
  |non=>rw[rep_non] at ry;subst ry;cases (show u2=Value.none from r2);rw[D.eq];exact⟨.tuple_none ht1 hu',.tuple_none ht1 hu',.tuple_none ht1 hu'⟩;all_goals (intros;simp_all)
  |bl b=>rw[rep_bl] at ry;subst ry;cases (show u2=Value.bool b from r2);rw[D.eq];exact⟨.tuple_bool b ht1 hu',.tuple_bool b ht1 hu',.tuple_bool b ht1 hu'⟩;all_goals (intros;simp_all)
  |int b=>rw[rep_int] at ry;subst ry;obtain⟨t,q⟩:=(show ∃t,u2=Value.int b t from r2);subst q;rw[D.eq];exact⟨.tuple_int b t ht1 hu',.tuple_int b t ht1 hu',.tuple_int b t ht1 hu'⟩;all_goals (intros;simp_all)
  |str b=>rw[rep_str] at ry;subst ry;obtain⟨t,q⟩:=(show ∃t,u2=Value.str b t from r2);subst q;rw[D.eq];exact⟨.tuple_str b t ht1 hu',.tuple_str b t ht1 hu',.tuple_str b t ht1 hu'⟩;all_goals (intros;simp_all)
  |tup es=>
   obtain⟨p2,xs2,rfl,hp2,hr2⟩:=Qc ry
   cases (show u2=Value.ref p2 from r2)
   obtain⟨its2,rv2,ht2,_⟩:=I.tuple hp2
   have l1:its1.toArray.size=ds.length:=by rw[List.size_toArray,<-rv1.length,<-hr1.length]
   have l2:its2.toArray.size=es.length:=by rw[List.size_toArray,<-rv2.length,<-hr2.length]
   have items:=Bg I ds es A.in1 xs1 xs2 its1 its2 (by show A.units+1+_<_;lia) hr1 hr2 rv1 rv2
   have he:∀j (h1:j<its1.toArray.size) (h2:j<its2.toArray.size),SeqAt.EqAt A.in1 s its1.toArray[j] its2.toArray[j] (D.eq (ds.getD j .non) (es.getD j .non)):=fun j h1 h2=>by
    refine items j _ _ _ _ ?_ ?_ ?_ ?_
    ·rw[List.getD_eq_getElem?_getD,List.getElem?_eq_getElem (by lia)];simp
    ·rw[List.getD_eq_getElem?_getD,List.getElem?_eq_getElem (by lia)];simp
    ·simp
    ·simp
   have rc:=SeqAt.RcAt.tuples ht1 ht2 hu' he
   have ne:=SeqAt.RcNeAt.tuples ht1 ht2 hu' he
   rw[l1,l2,<-D.eqs_all] at rc ne
   rw[D.eq]
   refine⟨rc,ne,?_⟩
   by_cases hpp:p1=p2
   ·subst hpp
    have:=Gi I _ _ _ rx ry
    cases this
    rw[D.eqs_refl]
    exact .same _
   ·exact .of_refs hpp rc
  |lst es=>
   obtain⟨p2,xs2,rfl,hp2,hr2⟩:=rep_lst.mp ry
   cases (show u2=Value.ref p2 from r2)
   obtain⟨its2,rv2,ht2,_⟩:=I.list hp2
   rw[D.eq]
   exact⟨.tuple_list ht1 ht2.isList hu',.tuple_list ht1 ht2.isList hu',.tuple_list ht1 ht2.isList hu'⟩
   all_goals (intros;simp_all)
 |.lst ds,y,A,v,w,u1,u2,hu,rx,ry,r1,r2=>by
  rw[D.dep] at hu
  have hu':A.units<cLine:=by lia
  obtain⟨p1,xs1,rfl,hp1,hr1⟩:=rep_lst.mp rx
  cases (show u1=Value.ref p1 from r1)
  obtain⟨its1,rv1,pl1,_⟩:=I.list hp1
  have ht1:=pl1.isList
  cases y with
  |non=>rw[rep_non] at ry;subst ry;cases (show u2=Value.none from r2);rw[D.eq];exact⟨.list_none ht1 hu',.list_none ht1 hu',.list_none ht1 hu'⟩;all_goals (intros;simp_all)
  |bl b=>rw[rep_bl] at ry;subst ry;cases (show u2=Value.bool b from r2);rw[D.eq];exact⟨.list_bool b ht1 hu',.list_bool b ht1 hu',.list_bool b ht1 hu'⟩;all_goals (intros;simp_all)
  |int b=>rw[rep_int] at ry;subst ry;obtain⟨t,q⟩:=(show ∃t,u2=Value.int b t from r2);subst q;rw[D.eq];exact⟨.list_int b t ht1 hu',.list_int b t ht1 hu',.list_int b t ht1 hu'⟩;all_goals (intros;simp_all)
  |str b=>rw[rep_str] at ry;subst ry;obtain⟨t,q⟩:=(show ∃t,u2=Value.str b t from r2);subst q;rw[D.eq];exact⟨.list_str b t ht1 hu',.list_str b t ht1 hu',.list_str b t ht1 hu'⟩;all_goals (intros;simp_all)
  |tup es=>
   obtain⟨p2,xs2,rfl,hp2,hr2⟩:=Qc ry
   cases (show u2=Value.ref p2 from r2)
   obtain⟨its2,rv2,ht2,_⟩:=I.tuple hp2
   rw[D.eq]
   exact⟨.list_tuple ht1 ht2 hu',.list_tuple ht1 ht2 hu',.list_tuple ht1 ht2 hu'⟩
   all_goals (intros;simp_all)
  |lst es=>
   obtain⟨p2,xs2,rfl,hp2,hr2⟩:=rep_lst.mp ry
   cases (show u2=Value.ref p2 from r2)
   obtain⟨its2,rv2,pl2,_⟩:=I.list hp2
   have ht2:=pl2.isList
   have l1:its1.toArray.size=ds.length:=by rw[List.size_toArray,<-rv1.length,<-hr1.length]
   have l2:its2.toArray.size=es.length:=by rw[List.size_toArray,<-rv2.length,<-hr2.length]
   have items:=Bg I ds es A.in1 xs1 xs2 its1 its2 (by show A.units+1+_<_;lia) hr1 hr2 rv1 rv2
   have he:∀j (h1:j<its1.toArray.size) (h2:j<its2.toArray.size),SeqAt.EqAt A.in1 s its1.toArray[j] its2.toArray[j] (D.eq (ds.getD j .non) (es.getD j .non)):=fun j h1 h2=>by
    refine items j _ _ _ _ ?_ ?_ ?_ ?_
    ·rw[List.getD_eq_getElem?_getD,List.getElem?_eq_getElem (by lia)];simp
    ·rw[List.getD_eq_getElem?_getD,List.getElem?_eq_getElem (by lia)];simp
    ·simp
    ·simp
   have both:SeqAt.RcAt A s (.ref p1) (.ref p2) (D.eqs ds es)/\SeqAt.RcNeAt A s (.ref p1) (.ref p2) (!D.eqs ds es):=by
    by_cases hl:ds.length=es.length
    ·have rc:=SeqAt.RcAt.lists ht1 ht2 (by lia) hu' he
     have ne:=SeqAt.RcNeAt.lists ht1 ht2 (by lia) hu' he
     have e:D.eqs ds es=(List.range its1.toArray.size).all fun j=>D.eq (ds.getD j .non) (es.getD j .non):=by
      rw[D.eqs_all,l1,<-hl,Nat.min_self];simp
     rw[e]
     exact⟨rc,ne⟩
    ·have e:D.eqs ds es=false:=by rw[D.eqs_all];simp[hl]
     rw[e]
     have hs:(its1.toArray.size != its2.toArray.size)=true:=by rw[l1,l2];simpa using hl
     exact⟨.lists_lengths ht1 ht2 hs hu',.lists_lengths ht1 ht2 hs hu'⟩
   rw[D.eq]
   refine⟨both.1,both.2,?_⟩
   by_cases hpp:p1=p2
   ·subst hpp
    have:=Gi I _ _ _ rx ry
    cases this
    rw[D.eqs_refl]
    exact .same _
   ·exact .of_refs hpp both.1
theorem Bg (I:Inv X pins σ H s):∀(ds es:List D) (A:Around) (vs ws:List V) (us1 us2:List Value),A.units+D.deps ds<cLine->Reps X.K H ds vs->Reps X.K H es ws->Vals vs us1->Vals ws us2 ->
  ∀(j:Nat) (d e:D) (u1 u2:Value),ds[j]?=some d->es[j]?=some e->us1[j]?=some u1->us2[j]?=some u2->SeqAt.EqAt A s u1 u2 (D.eq d e)
 |[],_,_,_,_,_,_,_,_,_,_,_,j,_,_,_,_,h,_,_,_=>by simp at h
 |_::_,[],_,_,_,_,_,_,_,_,_,_,j,_,_,_,_,_,h,_,_=>by simp at h
 |d0::ds,e0::es,A,vs,ws,us1,us2,hu,r1,r2,v1,v2,j,d,e,u1,u2,h1,h2,h3,h4=>by
  rw[D.deps] at hu
  obtain⟨x,xr,rfl,a1,a2⟩:=reps_cons.mp r1
  obtain⟨y,yr,rfl,b1,b2⟩:=reps_cons.mp r2
  cases v1 with
  |cons c1 c2=>
   cases v2 with
   |cons d1 d2=>
    cases j with
    |zero=>
     simp at h1 h2 h3 h4
     subst h1 h2 h3 h4
     exact(R6 I d0 e0 A x y _ _ (by lia) a1 b1 c1 d1).eq
    |succ j=>
     simp at h1 h2 h3 h4
     exact Bg I ds es A xr yr _ _ (by lia) a2 b2 c2 d2 j d e u1 u2 h1 h2 h3 h4
end
end
section
variable {X:Cx}{E:XK}{pos:Pos}{a b:Expr}
def Jq (x y:D):M D:=if x.dep<=60 then .ok (.bl (D.eq x y)) else .bad
def Bh (x y:D):M D:=if x.dep<=60 then .ok (.bl (!D.eq x y)) else .bad
def Yt (hu:X.A.units+64<cLine):Nt X E (compareOp .Eq) Jq:=by
 refine⟨fun x y H Q=>∃dx dy,Rep X.K H dx x/\Rep X.K H dy y/\dx.dep<=60/\Q (.bl (D.eq dx dy)) H,fun pins s σ H x y v u Q I rx ry h=>?_,fun Hf H x y dx dy Q e rx ry q=>?_⟩
 ·obtain⟨dx,dy,h1,h2,h3,q⟩:=h
  exact(R6 I dx dy X.A x y v u (by lia) h1 h2 rx ry).rc _ _ _ _ ⟨.bl _,H,I,rfl,q⟩
 ·unfold Jq at q
  split at q
  ·rename_i hd
   exact⟨dx,dy,rx.mono e,ry.mono e,hd,Po.ret e q (rep_bl.mpr rfl)⟩
  ·exact q.elim
def F9 (hu:X.A.units+64<cLine):Nt X E (compareOp .NotEq) Bh:=by
 refine⟨fun x y H Q=>∃dx dy,Rep X.K H dx x/\Rep X.K H dy y/\dx.dep<=60/\Q (.bl (!D.eq dx dy)) H,fun pins s σ H x y v u Q I rx ry h=>?_,fun Hf H x y dx dy Q e rx ry q=>?_⟩
 ·obtain⟨dx,dy,h1,h2,h3,q⟩:=h
  exact(R6 I dx dy X.A x y v u (by lia) h1 h2 rx ry).ne _ _ _ _ ⟨.bl _,H,I,rfl,q⟩
 ·unfold Bh at q
  split at q
  ·rename_i hd
   exact⟨dx,dy,rx.mono e,ry.mono e,hd,Po.ret e q (rep_bl.mpr rfl)⟩
  ·exact q.elim
end
def Zp1:D->String
 |.non=>"NoneType"
 |.bl _=>"bool"
 |.int _=>"int"
 |.str _=>"str"
 |.tup _=>"tuple"
 |.lst _=>"list"
def Zny (T:String):D->Bool
 |.non=>false
 |.bl _=>T=="bool" || T=="int"
 |.int _=>T=="int"
 |.str _=>T=="str"
 |.tup _=>T=="tuple"
 |.lst _=>T=="list"
def Zjs (K:PySem.W.Frag)(d:D){T:String} (hT:T∈["int","bool","tuple","list","str"]):PySem.W.kitOne K (.type (Zp1 d)) (.type T)=some (Zny T d):=by
 simp only[List.mem_cons,List.not_mem_nil,or_false] at hT
 rcases hT with rfl|rfl|rfl|rfl|rfl<;>cases d<;>rfl
section
variable {X:Cx}{E:XK}{pos:Pos}{a b:Expr}
def Ca {T:String} (hT:T∈["int","bool","tuple","list","str"]):CallR X (.builtin "isinstance") (fun xs H Q=>∃x d,xs=[x,.ty T]/\Rep X.K H d x/\Q (.bl (Zny T d)) H):=by
 intro pins s σ H xs us Q I r h
 obtain⟨x,d,rfl,hx,q⟩:=h
 obtain⟨u,w',rfl,r1,r2⟩:=Ru r
 cases (show w'=Value.type T from r2)
 have e:=Zjs X.K d hT
 have fin:∀tk,EP X pins σ Q (.bool (Zny T d)) {s with toks:=tk}:=fun tk=>⟨.bl _,H,I.tok _,rfl,q⟩
 cases d with
 |non=>rw[rep_non] at hx;subst hx;cases (show u=Value.none from r1);exact PySem.W.kia_one PySem.W.kitx_none I.kIn True.intro e (fun z=>nomatch z) fin
 |bl y=>rw[rep_bl] at hx;subst hx;cases (show u=Value.bool y from r1);exact PySem.W.kia_one PySem.W.kitx_bool I.kIn True.intro e (fun z=>nomatch z) fin
 |int y=>rw[rep_int] at hx;subst hx;obtain⟨t,z⟩:=(show ∃t,u=Value.int y t from r1);subst z;exact PySem.W.kia_one PySem.W.kitx_int I.kIn True.intro e (fun z=>nomatch z) fin
 |str y=>rw[rep_str] at hx;subst hx;obtain⟨t,z⟩:=(show ∃t,u=Value.str y t from r1);subst z;exact PySem.W.kia_one PySem.W.kitx_str I.kIn True.intro e (fun z=>nomatch z) fin
 |tup ds=>
  obtain⟨p,ys,rfl,hp,hr⟩:=Qc hx
  cases (show u=Value.ref p from r1)
  obtain⟨its,_,⟨o,h1,h2,_⟩,_⟩:=I.tuple hp
  exact PySem.W.kia_one PySem.W.kitx_tuple I.kIn ⟨o,h1,h2⟩ e (fun z=>nomatch z) fin
 |lst ds=>
  obtain⟨p,ys,rfl,hp,hr⟩:=rep_lst.mp hx
  cases (show u=Value.ref p from r1)
  obtain⟨its,_,pl,_⟩:=I.list hp
  obtain⟨o,h1,h2,_⟩:=pl.isList
  exact PySem.W.kia_one PySem.W.kitx_list I.kIn ⟨o,h1,h2⟩ e (fun z=>nomatch z) fin
def Zml (T:String)(f:Zf->M D)(sd:Zf):M D:=(f sd).bind fun d=>.ok (.bl (Zny T d))
def We (T:String){p p2:Pos}{f:Zf->M D} (hg:Gl X "isinstance") (hm:X.mg "isinstance"=none) (hmT:X.mg (Str.ofString T)=none) (hgT:Gl X (Str.ofString T)) (hvT:bootBuiltins (Str.ofString T)=some (.type T)) (h:Yn X E a f)
  (hT:T∈["int","bool","tuple","list","str"]:=by decide) (hnT:(Str.ofString T) ≠ "__name__":=by decide) (hdT:((Str.ofString T)==("__debug__":Str))=false:=by decide)
  (he:starEach [a,.Name (Str.ofString T) p2] X.env=(false,eval a X.env)::starEach [.Name (Str.ofString T) p2] X.env:=by rfl) (he2:starEach [.Name (Str.ofString T) p2] X.env=(false,eval (.Name (Str.ofString T) p2) X.env)::starEach [] X.env:=by rfl)
  (hpl:(backTo pos (starEach [.Name (Str.ofString T) p2] X.env)).any (·.1)=false:=by rfl) (hv:bootBuiltins "isinstance"=some (.builtin "isinstance"):=by rfl):
  Yn X E (.Call (.Name "isinstance" p) [a,.Name (Str.ofString T) p2] [] pos) (Zml T f):=by
 obtain⟨t,pt,qt⟩:=h
 refine⟨_,Av (Ca hT) hg hm hv (Qk pt (Qk (Zex (v:=.ty T) hgT hmT hvT rfl hnT hdT) Xz he2) he) (by decide) (by decide) he hpl,fun H0 B Hf sd σ H Q sr h=>?_⟩
 refine qt H0 B Hf sd σ H _ sr (Po.bind h fun d v Hf1 H1 _ g1 rv h1=>?_)
 exact⟨v,d,rfl,Rep.mono g1.sub rv,Po.ret (R:=rV X.K) g1.sub h1 (rep_bl.mpr rfl)⟩
def Va:List D->Option (List Bool)
 |[]=>some []
 |.bl b::r=>(Va r).map (b::·)
 |_::_=>none
theorem Gj {K:PySem.W.Frag}{H:Hp}:∀{ds:List D}{bs:List Bool}{xs:List V},Va ds=some bs->Reps K H ds xs->xs=bs.map V.bl
 |[],bs,xs,e,r=>by
  rw[reps_nil.mp r]
  cases e
  rfl
 |.bl b::ds,bs,xs,e,r=>by
  obtain⟨x,t,rfl,h1,h2⟩:=reps_cons.mp r
  unfold Va at e
  cases q:Va ds with
  |none=>rw[q] at e;cases e
  |some cs=>
   rw[q] at e
   cases e
   rw[rep_bl.mp h1,Gj q h2]
   rfl
 |.non::_,_,_,e,_=>by cases e
 |.int _::_,_,_,e,_=>by cases e
 |.str _::_,_,_,e,_=>by cases e
 |.tup _::_,_,_,e,_=>by cases e
 |.lst _::_,_,_,e,_=>by cases e
def Zfq {bs:List Bool}:∀{us:List Value},Vals (bs.map V.bl) us->us=bs.map Value.bool:=by
 induction bs with
 |nil=>intro us r;cases r;rfl
 |cons b bs ih=>
  intro us r
  cases r with
  |cons r1 r2=>rw[ih r2];cases (show _=Value.bool b from r1);rfl
def Ei (bs:List Bool):((List.range bs.length).any fun i=>(bs[i]?).getD false)=bs.any id:=by
 induction bs with
 |nil=>rfl
 |cons b bs ih=>
  rw[List.length_cons,List.range_succ_eq_map,List.any_cons,List.any_map,List.any_cons]
  have:(((fun i=>((b::bs)[i]?).getD false)∘Nat.succ):Nat->Bool)=fun i=>(bs[i]?).getD false:=by funext i;simp
  rw[this,ih]
  simp
def Zfr {s:Shared}{h':Heap}{o:Obj}(hk:∀b x,b ∉ [s.heap.objs.size]->(s.heap.push o).get? b=some x->h'.get? b=some x):∀b x,s.heap.get? b=some x->h'.get? b=some x:=
 fun b x e=>hk b x (fun hm=>by rw[List.mem_singleton.mp hm] at e;exact Nat.lt_irrefl _ (Heap.lt_size e)) (Heap.get?_push_of_some _ e)
def O5 (hc:X.calm=true):CallR X (.builtin "any") (fun xs H Q=>∃(p:Addr) (bs:List Bool),xs=[.ref p]/\SqL X.K H p (bs.map V.bl)/\Q (.bl (bs.any id)) H):=by
 intro pins s σ H xs us Q I r h
 obtain⟨p,bs,rfl,hp,q⟩:=h
 obtain⟨u,rfl,rx⟩:=Wq r
 cases rx
 obtain⟨its,rv,pl,_⟩:=I.list hp
 have hl:=pl.isList
 have ei:=Zfq rv
 have hlt:p<s.heap.objs.size:=by obtain⟨_,e,_⟩:=hl;exact Heap.lt_size e
 refine call_any_walk (wpAny_pyIter_list hl ?_)
 refine⟨s.heap.objs.size,[s.heap.objs.size,p],[s.heap.objs.size],its.toArray.size,_,_,fun i=>(bs[i]?).getD false,rfl,Walks.list (A:=X.A.in1) (I.ok.hd hc) _ p (Nat.ne_of_lt hlt) its.toArray,
  ⟨⟨_,Heap.get?_push_size _ rfl,rfl,rfl⟩,hl.push _⟩,fun i v s' Q' E' hP hQ=>?_,fun h' tk hk=>?_⟩
 ·have hv:its[i]?=some v:=by simpa using hP
  rw[ei,List.getElem?_map] at hv
  cases eb:bs[i]? with
  |none=>rw[eb] at hv;cases hv
  |some b=>
   rw[eb] at hv
   cases hv
   simp only[eb,Option.getD_some] at hQ
   exact wpAny_truthy_bool hQ
 ·have e:((List.range its.toArray.size).any fun i=>(bs[i]?).getD false)=bs.any id:=by
   rw[List.size_toArray,ei,List.length_map];exact Ei bs
  rw[e]
  exact⟨.bl _,H,I.kept (Zfr hk),rfl,q⟩
def Zfs:List D->M D
 |[.lst ds]=>match Va ds with
  |some bs=>.ok (.bl (bs.any id))
  |none=>.bad
 |_=>.bad
def Zjt (hc:X.calm=true):Uk X E (.builtin "any") Zfs:=by
 refine⟨_,O5 hc,fun Hf H xs ds Q e r q=>?_⟩
 unfold Zfs at q
 split at q
 ·split at q
  ·rename_i bs hb
   obtain⟨x,rfl,h⟩:=K8 r
   obtain⟨p,ys,rfl,hp,hr⟩:=rep_lst.mp h
   have:=Gj hb hr
   subst this
   exact⟨p,bs,rfl,e.seq hp,Po.ret e q (rep_bl.mpr rfl)⟩
  ·exact q.elim
 ·exact q.elim
def Ej (x:Int):List Int->List Int
 |[]=>[x]
 |y::r=>if x<=y then x::y::r else y::Ej x r
def Kp:List Int->List Int
 |[]=>[]
 |x::r=>Ej x (Kp r)
theorem Ny (x:Int):∀l:List Int,(Ej x l).Perm (x::l)
 |[]=>List.Perm.refl _
 |y::r=>by
  unfold Ej
  split
  ·exact List.Perm.refl _
  ·exact((Ny x r).cons y).trans (List.Perm.swap x y r)
theorem Vx:∀l:List Int,(Kp l).Perm l
 |[]=>List.Perm.refl _
 |x::r=>(Ny x _).trans ((Vx r).cons x)
theorem Pn (x:Int):∀l:List Int,l.Pairwise (·<=·)->(Ej x l).Pairwise (·<=·)
 |[],_=>by simp[Ej]
 |y::r,h=>by
  obtain⟨h1,h2⟩:=List.pairwise_cons.mp h
  unfold Ej
  split
  ·rename_i hxy
   refine List.pairwise_cons.mpr ⟨fun z hz=>?_,h⟩
   rcases List.mem_cons.mp hz with rfl|hz
   ·exact hxy
   ·exact Int.le_trans hxy (h1 z hz)
  ·rename_i hxy
   refine List.pairwise_cons.mpr ⟨fun z hz=>?_,Pn x r h2⟩
   rcases List.mem_cons.mp ((Ny x r).mem_iff.mp hz) with rfl|hz
   ·lia
   ·exact h1 z hz
theorem Vy:∀l:List Int,(Kp l).Pairwise (·<=·)
 |[]=>List.Pairwise.nil
 |x::r=>Pn x _ (Vy r)
def Um:List D->Option (List Int)
 |[]=>some []
 |.int b::r=>(Um r).map (b::·)
 |_::_=>none
theorem Pp {K:PySem.W.Frag}{H:Hp}:∀{ds:List D}{bs:List Int}{xs:List V},Um ds=some bs->Reps K H ds xs->xs=bs.map V.int
 |[],bs,xs,e,r=>by
  rw[reps_nil.mp r]
  cases e
  rfl
 |.int b::ds,bs,xs,e,r=>by
  obtain⟨x,t,rfl,h1,h2⟩:=reps_cons.mp r
  unfold Um at e
  cases q:Um ds with
  |none=>rw[q] at e;cases e
  |some cs=>
   rw[q] at e
   cases e
   rw[rep_int.mp h1,Pp q h2]
   rfl
 |.non::_,_,_,e,_=>by cases e
 |.bl _::_,_,_,e,_=>by cases e
 |.str _::_,_,_,e,_=>by cases e
 |.tup _::_,_,_,e,_=>by cases e
 |.lst _::_,_,_,e,_=>by cases e
theorem Gk {K:PySem.W.Frag}{H:Hp}:∀ns:List Int,Reps K H (ns.map D.int) (ns.map V.int)
 |[]=>Reps.nil
 |_::ns=>Reps.cons (rep_int.mpr rfl) (Gk ns)
def Bi:CallR X (.builtin "sorted") (fun xs H Q=>∃(p:Addr) (ns:List Int),xs=[.ref p]/\SqL X.K H p (ns.map V.int)/\ns.length<64/\∀l,H l=none->Q (.ref l) (upd H l (.lst ((Kp ns).map V.int)))):=by
 intro pins s σ H xs us Q I r h
 obtain⟨p,ns,rfl,hp,hl,q⟩:=h
 obtain⟨u,rfl,rx⟩:=Wq r
 cases rx
 obtain⟨its,rv,pl,hz⟩:=I.list hp
 have hi:IntsAre its ns:=Eb rv
 have hlen:its.length=ns.length:=by rw[<-rv.length,List.length_map]
 refine sorted_ints pl.isList hi (by lia) fun out ns' a1 a2 a3=>?_
 have e:ns'=Kp ns:=PySem.W.ksm_same (a2.trans (Vx ns).symm) a3 (Vy ns)
 subst e
 obtain⟨n,he⟩:=sortedAll_at s.heap its out
 refine⟨.ref (s.heap.objs.size+1),_,I.laid (t':=s.toks) (o:=.lst ((Kp ns).map V.int)) (fun b o e=>sortedAll_old e) (Nat.le_succ _) ?_,rfl,q _ (I.hok.fresh (Nat.le_succ _))⟩
 refine⟨?_,out.toList,n,Nq a1,he⟩
 rw[List.length_map,(Vx ns).length_eq,<-List.length_map (f:=V.int)]
 exact hz
def Re:List D->M D
 |[.lst ds]=>match Um ds with
  |some ns=>if ns.length<64 then .ok (.lst ((Kp ns).map D.int)) else .bad
  |none=>.bad
 |_=>.bad
def O6:Uk X E (.builtin "sorted") Re:=by
 refine⟨_,Bi,fun Hf H xs ds Q e r q=>?_⟩
 unfold Re at q
 split at q
 ·split at q
  ·rename_i ns hb
   split at q
   ·rename_i hl
    obtain⟨x,rfl,h⟩:=K8 r
    obtain⟨p,ys,rfl,hp,hr⟩:=rep_lst.mp h
    have:=Pp hb hr
    subst this
    exact⟨p,ns,rfl,e.seq hp,hl,fun l hl=>q _ _ _ (Gr.alloc e hl _) (Gr.lst e hl (Gk _))⟩
   ·exact q.elim
  ·exact q.elim
 ·exact q.elim
def op_catS:OpR X (binaryOp .Add) (fun x y H Q=>∃l b xs zs,x=.ref l/\y=.ref b/\SqL X.K H l xs/\SqL X.K H b zs/\xs.length+zs.length<=sizeLine/\∀p,H p=none->Q (.ref p) (upd H p (.lst (xs++zs)))):=by
 intro pins s σ H x y v u Q I rx ry h
 obtain⟨l,b,xs,zs,rfl,rfl,hH,hB,hz,q⟩:=h
 cases rx
 cases ry
 obtain⟨its,r,pl,z⟩:=I.list hH
 obtain⟨its2,r2,pl2,z2⟩:=I.list hB
 have l1:=r.length
 have l2:=r2.length
 obtain⟨⟨cls,dd,data,sl⟩,ho,hc,n,hd⟩:=pl.isList
 obtain⟨⟨cls2,dd2,data2,sl2⟩,ho2,hc2,n2,hd2⟩:=pl2.isList
 simp only at hc hd hc2 hd2
 subst hc hd hc2 hd2
 have e:its.toArray++its2.toArray=(its++its2).toArray:=by simp
 refine concat_meets ⟨_,ho,rfl⟩ ⟨_,ho2,rfl⟩ noFill_list_add seq_list_add PySem.F.slot_list_add PySem.F.entry_list_add (PySem.F.args_list_add_2 _ _) (list_addW l b its.toArray its2.toArray n n2 dd dd2 sl sl2 (by rw[List.size_toArray,List.size_toArray];lia)) ⟨ho,ho2,?_⟩
 rw[e]
 exact⟨.ref _,_,I.lnew (t':=s.toks) (r.append r2) (by rw[List.length_append];lia),rfl,q _ I.fresh⟩
def Qe:D->D->M D
 |.int i,.int j=>.ok (.int (i+j))
 |.lst xs,.lst ys=>if few (xs++ys) then .ok (.lst (xs++ys)) else .bad
 |.tup (x::xs),.tup ys=>if few (x::xs++ys) then .ok (.tup (x::xs++ys)) else .bad
 |.str i,.str j=>if i.length+j.length<=sizeLine then .ok (.str (i++j)) else .bad
 |_,_=>.bad
def Qo:Nt X E (binaryOp .Add) Qe:=by
 refine⟨_,op_add.or (op_catS.or (op_catT.or D4)),fun Hf H x y dx dy Q e rx ry q=>?_⟩
 unfold Qe at q
 split at q
 ·rename_i i j
  exact .inl ⟨i,j,rep_int.mp rx,rep_int.mp ry,Po.ret e q (rep_int.mpr rfl)⟩
 ·rename_i xs ys
  split at q
  ·rename_i hf
   obtain⟨p1,us,rfl,h1,r1⟩:=rep_lst.mp rx
   obtain⟨p2,ws,rfl,h2,r2⟩:=rep_lst.mp ry
   have hl:=Uj hf (r1.append r2)
   rw[List.length_append] at hl
   exact .inr (.inl ⟨p1,p2,us,ws,rfl,rfl,e.seq h1,e.seq h2,hl,fun p hp=>q _ _ _ (Gr.alloc e hp _) (Gr.lst e hp (r1.append r2))⟩)
  ·exact q.elim
 ·rename_i x0 xs ys
  split at q
  ·rename_i hf
   obtain⟨p1,us,rfl,h1,r1⟩:=Qc rx
   obtain⟨p2,ws,rfl,h2,r2⟩:=Qc ry
   have hl:=Uj hf (r1.append r2)
   rw[List.length_append] at hl
   have hne:us≠[]:=fun z=>by
    have:=r1.length
    rw[z] at this
    cases this
   refine .inr (.inr (.inl ⟨p1,p2,us,ws,rfl,rfl,Same.seqT e h1,Same.seqT e h2,hne,hl,fun z=>?_,fun _ p hp=>q _ _ _ (Gr.alloc e hp _) (Gr.tup e hp (r1.append r2))⟩))
   subst z
   have:ys=[]:=List.length_eq_zero_iff.mp r2.length
   subst this
   rw[List.append_nil] at q
   exact Po.ret e q rx
  ·exact q.elim
 ·rename_i i j
  split at q
  ·rename_i hl
   exact .inr (.inr (.inr ⟨i,j,rep_str.mp rx,rep_str.mp ry,hl,Po.ret e q (rep_str.mpr rfl)⟩))
  ·exact q.elim
 ·exact q.elim
def Zt:D->D->M D:=Zmi
def Z2:Nt X E (binaryOp .Mult) Zt:=Zjo
def Ek (ds:List D)(lo hi:Option Int):List D:=(ds.drop (HT.sIx ds.length 0 lo)).take (HT.sIx ds.length ds.length hi-HT.sIx ds.length 0 lo)
def Cb {K:PySem.W.Frag}{H:Hp}{ds:List D}{xs:List V}(r:Reps K H ds xs)(lo hi:Option Int):Reps K H (Ek ds lo hi) (Aw xs lo hi):=by
 unfold Ek Aw
 rw[<-r.length]
 exact(r.drop _).take _
def Zpl:D->Option Int->Option Int->M D
 |.lst ds,lo,hi=>.ok (.lst (Ek ds lo hi))
 |.tup ds,lo,hi=>if HT.sIx ds.length 0 lo=0/\HT.sIx ds.length ds.length hi=ds.length then .bad else .ok (.tup (Ek ds lo hi))
 |_,_,_=>.bad
def R7 (_:Zf):M (Option Int):=.ok none
def Kq (f:Zf->M D)(sd:Zf):M (Option Int):=(f sd).bind fun d=>match d with
 |.int i=>.ok (some i)
 |_=>.bad
def R8:Znx X E none R7:=⟨_,Zfa,fun _ _ _ _ _ _ _ sr h=>Po.ret (R:=rQ) sr.sub h rfl⟩
def Uo {e:Expr}{f:Zf->M D}(h:Yn X E e f):Znx X E (some e) (Kq f):=by
 obtain⟨t,p,q⟩:=h
 refine⟨_,Zfb p,fun H0 B Hf sd σ H Q sr h=>?_⟩
 refine q H0 B Hf sd σ H _ sr (Po.bind h fun d v Hf1 H1 _ g1 rv h1=>?_)
 split at h1
 ·exact⟨_,rep_int.mp rv,Po.ret (R:=rQ) g1.sub h1 rfl⟩
 ·exact h1.elim
def Zb7 (f:Zf->M D)(lo hi:Zf->M (Option Int))(sd:Zf):M D:=(f sd).bind fun d=>(lo sd).bind fun l=>(hi sd).bind fun h=>Zpl d l h
def Gm {e:Expr}{lo hi:Option Expr}{p2:Pos}{f:Zf->M D}{fl fh:Zf->M (Option Int)}(h:Yn X E e f)(hl:Znx X E lo fl)(hh:Znx X E hi fh):Yn X E (.Subscript e (.Slice lo hi none p2) pos) (Zb7 f fl fh):=by
 obtain⟨t,p,q⟩:=h
 obtain⟨tl,pl,ql⟩:=hl
 obtain⟨th,ph,qh⟩:=hh
 refine⟨_,Zbo (sl_list.or Zjf) p pl ph,fun H0 B Hf sd σ H Q sr h=>?_⟩
 refine q H0 B Hf sd σ H _ sr (Po.bind h fun d v Hf1 H1 _ g1 rv h1=>?_)
 refine ql H0 B Hf1 sd σ H1 _ (sr.gr g1) (Po.bind h1 fun l l' Hf2 H2 _ g2 el h2=>?_)
 have el:l=l':=el
 subst el
 refine qh H0 B Hf2 sd σ H2 _ ((sr.gr g1).gr g2) (Po.bind h2 fun u u' Hf3 H3 _ g3 eu h3=>?_)
 have eu:u=u':=eu
 subst eu
 have rv3:=(Rep.mono g3.fz (Rep.mono g2.fz rv))
 unfold Zpl at h3
 split at h3
 ·rename_i ds
  obtain⟨a,xs,rfl,ha,hr⟩:=rep_lst.mp rv3
  exact .inl ⟨a,xs,rfl,g3.sub.seq ha,fun p hp=>h3 _ _ _ (Gr.alloc g3.sub hp _) (Gr.lst g3.sub hp (Cb hr _ _))⟩
 ·rename_i ds
  split at h3
  ·exact h3.elim
  ·rename_i hw
   obtain⟨a,xs,rfl,ha,hr⟩:=Qc rv3
   exact .inr ⟨a,xs,rfl,Same.seqT g3.sub ha,by rw[<-hr.length];exact hw,fun p hp=>h3 _ _ _ (Gr.alloc g3.sub hp _) (Gr.tup g3.sub hp (Cb hr _ _))⟩
 ·exact h3.elim
def R9 (K:PySem.W.Frag)(Hf _H:Hp)(ds:List D)(J:It):Prop:=∀(i:Nat) (Hf1 H1:Hp),Same Hf Hf1->Same Hf1 H1->match ds[i]? with
 |some d=>J.go i H1/\∀x H2,J.yld i H1 x H2->∃Hf2,Gr Hf1 H1 Hf2 H2/\Rep K Hf2 d x
 |none=>J.stop i H1
def Zju (X:Cx)(E:XK)(tg iter:Expr)(fi:Zf->M (List D)):Prop:=
 ∃wi:TI,PI X tg iter wi/\∀(H0:Hp) (B:Addr->Prop) (Hf:Hp) (sd:Zf) (σ:L2.St) (H:Hp) (R:It->Hp->Prop),SR X.K H0 B Hf sd σ H->Po X.K E (R9 X.K) Hf H (fi sd) R->wi σ H R
def Zjv {K:PySem.W.Frag}{Hf H:Hp}{a:Addr}{xs:List V}{ds:List D}(h:SqL K Hf a xs)(r:Reps K Hf ds xs):R9 K Hf H ds (Znt K a):=by
 intro i Hf1 H1 e1 e2
 have h2:=e2.seq (e1.seq h)
 cases q:ds[i]? with
 |some d=>
  obtain⟨x,ex,rx⟩:=r.get q
  refine⟨⟨xs,x,h2,ex⟩,fun y H2 hy=>?_⟩
  obtain⟨e,hy⟩:=hy
  subst e
  have ey:=hy xs h2
  rw[ex] at ey
  cases ey
  exact⟨Hf1,Gr.refl e2,rx.mono e1⟩
 |none=>
  refine⟨xs,h2,?_⟩
  have:=r.none_of q
  exact List.getElem?_eq_none_iff.mp this
def Zjw {K:PySem.W.Frag}{Hf H:Hp}{a:Addr}{xs:List V}{ds:List D}(h:SqT K Hf a xs)(r:Reps K Hf ds xs):R9 K Hf H ds (Zlg K a):=by
 intro i Hf1 H1 e1 e2
 have h2:=Same.seqT e2 (Same.seqT e1 h)
 cases q:ds[i]? with
 |some d=>
  obtain⟨x,ex,rx⟩:=r.get q
  refine⟨⟨xs,x,h2,ex⟩,fun y H2 hy=>?_⟩
  obtain⟨e,hy⟩:=hy
  subst e
  have ey:=hy xs h2
  rw[ex] at ey
  cases ey
  exact⟨Hf1,Gr.refl e2,rx.mono e1⟩
 |none=>
  refine⟨xs,h2,?_⟩
  have:=r.none_of q
  exact List.getElem?_eq_none_iff.mp this
def Sa (lo:Int)(n:Nat):List D:=(List.range n).map fun k=>.int (lo+(k:Nat))
def Zjx {K:PySem.W.Frag}{Hf H:Hp}(lo:Int)(n:Nat):R9 K Hf H (Sa lo n) (Znu lo n):=by
 intro i Hf1 H1 e1 e2
 unfold Sa
 rw[List.getElem?_map]
 by_cases hi:i<n
 ·rw[List.getElem?_range hi]
  refine⟨hi,fun y H2 hy=>?_⟩
  obtain⟨e,hy⟩:=hy
  subst e
  exact⟨Hf1,Gr.refl e2,rep_int.mpr hy⟩
 ·rw[List.getElem?_eq_none (by simpa using hi)]
  exact Nat.le_of_not_lt hi
def Vn (f:Zf->M D)(sd:Zf):M (List D):=(f sd).bind fun d=>match d with
 |.lst ds=>.ok ds
 |.tup ds=>.ok ds
 |_=>.bad
def Zjy {tg l:Expr}{tl:TE}(hl:PE X l tl):PI X tg l (fun σ H R=>tl σ H fun x H1=>(∃a,x=.ref a/\(∃xs,SqL X.K H1 a xs)/\R (Znt X.K a) H1)\/∃a,x=.ref a/\(∃xs,SqT X.K H1 a xs)/\R (Zlg X.K a) H1):=by
 intro pins s σ H R I h
 refine Yb (hl pins s σ H _ I h) fun v s1 ⟨x,H1,I1,r1,q1⟩=>?_
 rcases q1 with⟨a,e,⟨xs,hq⟩,q⟩|⟨a,e,⟨xs,hq⟩,q⟩
 ·subst e
  cases r1
  obtain⟨its,rv,p,hz⟩:=I1.list hq
  refine wpAny_pyIter_list p.isList ?_
  refine⟨s1.heap.objs.size,[s1.heap.objs.size],_,_,H1,rfl,I1.kept (t':=s1.toks) fun b o e=>Heap.get?_push_of_some _ e,Lj a _,⟨_,Heap.get?_push_size _ rfl,rfl,rfl⟩,fun b hb=>?_,q⟩
  have e:b=s1.heap.objs.size:=by simpa using hb
  subst e
  exact I1.fpOk (Nat.le_refl _) (I1.hok.fresh (Nat.le_refl _))
 ·subst e
  cases r1
  obtain⟨its,rv,p,hz⟩:=I1.tuple hq
  refine wpAny_pyIter_tuple (show s1.heap.IsTuple a its.toArray from p) ?_
  refine⟨s1.heap.objs.size,[s1.heap.objs.size],_,_,H1,rfl,I1.kept (t':=s1.toks) fun b o e=>Heap.get?_push_of_some _ e,Rs a _,⟨_,Heap.get?_push_size _ rfl,rfl,rfl⟩,fun b hb=>?_,q⟩
  have e:b=s1.heap.objs.size:=by simpa using hb
  subst e
  exact I1.fpOk (Nat.le_refl _) (I1.hok.fresh (Nat.le_refl _))
def X8 {tg l:Expr}{f:Zf->M D}(h:Yn X E l f):Zju X E tg l (Vn f):=by
 obtain⟨t,p,q⟩:=h
 refine⟨_,Zjy p,fun H0 B Hf sd σ H R sr h=>?_⟩
 refine q H0 B Hf sd σ H _ sr (Po.bind h fun d v Hf1 H1 _ g1 rv h1=>?_)
 split at h1
 ·rename_i ds
  obtain⟨a,xs,rfl,ha,hr⟩:=rep_lst.mp rv
  exact .inl ⟨a,rfl,⟨xs,g1.sub.seq ha⟩,Po.ret (R:=R9 X.K) g1.sub h1 (Zjv ha hr)⟩
 ·rename_i ds
  obtain⟨a,xs,rfl,ha,hr⟩:=Qc rv
  exact .inr ⟨a,rfl,⟨xs,Same.seqT g1.sub ha⟩,Po.ret (R:=R9 X.K) g1.sub h1 (Zjw ha hr)⟩
 ·exact h1.elim
def Xb (fs:Zf->M (List D))(sd:Zf):M (List D):=(fs sd).bind fun ds=>match ds with
 |[.int j]=>if -1000000<=j/\j<=1000000 then .ok (Sa 0 j.toNat) else .bad
 |_=>.bad
def X1 {tg a:Expr}{p:Pos}{fs:Zf->M (List D)} (hg:Gl X "range") (hm:X.mg "range"=none) (h:Tp X E [a] fs) (hs:starEach [a] X.env=[(false,eval a X.env)]:=by rfl):Zju X E tg (.Call (.Name "range" p) [a] [] pos) (Xb fs):=by
 obtain⟨t,pt,q⟩:=h
 refine⟨_,Op hg hm pt hs,fun H0 B Hf sd σ H R sr h=>?_⟩
 refine q H0 B Hf sd σ H _ sr (Po.bind h fun ds vs Hf1 H1 _ g1 rs h1=>?_)
 split at h1
 ·split at h1
  ·rename_i hj
   obtain⟨v,rfl,rv⟩:=K8 rs
   rw[rep_int.mp rv]
   exact⟨_,rfl,by lia,by lia,Po.ret (R:=R9 X.K) g1.sub h1 (Zjx 0 _)⟩
  ·exact h1.elim
 ·exact h1.elim
def Xd (g:D->Zf->M Zf)(f:Zf->M O):List D->Zf->M O
 |[],sd=>.ok (.nx sd)
 |d::r,sd=>match g d sd with
  |.ok sd1=>(f sd1).bind fun o=>match o with
   |.nx sd2=>Xd g f r sd2
   |.ct sd2=>Xd g f r sd2
   |.bk sd2=>.ok (.nx sd2)
   |.rt s=>.ok (.rt s)
  |_=>.bad
def Jm (fi:Zf->M (List D))(g:D->Zf->M Zf)(f:Zf->M O)(sd:Zf):M O:=(fi sd).bind fun ds=>Xd g f ds sd
def Xe {tg iter:Expr}{body:List Stmt}{fi:Zf->M (List D)}{g:D->Zf->M Zf}{f:Zf->M O}(hp:PassesOwn (model X.prog X.w) X.A X.env X.xe)(hc:X.calm=true)(hi:Zju X E tg iter fi)(hg:Zh3 X tg g)(hb:Nr X E body f)(hs:∀x,foldedSetIterable iter X.env x=pure x:=by intro _;rfl):Ga X E (.For tg iter body [] pos) (Jm fi g f):=by
 obtain⟨wi,pw,qw⟩:=hi
 obtain⟨tg',pg,qg⟩:=hg
 obtain⟨tb,pb,qb⟩:=hb
 refine⟨_,Rt hp hc pw pg pb hs,fun H0 B Hf sd σ H D sr h=>?_⟩
 refine qw H0 B Hf sd σ H _ sr (PoS.bind sr h fun ds J Hf1 H1 _ g1 sr1 J1 h1=>?_)
 refine⟨fun i m σ' H'=>m=ds.length-i/\∃Hf' sd',Same Hf1 Hf'/\SR X.K H0 B Hf' sd' σ' H'/\PoS X.K E H0 B Hf' (Xd g f (ds.drop i) sd') D,⟨ds.length,by simp,Hf1,sd,Same.refl _,sr1,by simpa using h1⟩,?_⟩
 rintro i m σ2 H2 ⟨rfl,Hf2,sd2,e2,sr2,h2⟩
 have jj:=J1 i Hf2 H2 e2 sr2.sub
 cases q:ds[i]? with
 |none=>
  rw[q] at jj
  refine .inl ⟨jj,?_⟩
  rw[List.drop_eq_nil_of_le (List.getElem?_eq_none_iff.mp q)] at h2
  exact h2 σ2 Hf2 H2 (Same.refl _) sr2
 |some d=>
  rw[q] at jj
  obtain⟨go,yl⟩:=jj
  have hlt:i<ds.length:=(List.getElem?_eq_some_iff.mp q).1
  have hd:ds.drop i=d::ds.drop (i+1):=by
   rw[List.drop_eq_getElem_cons hlt]
   congr 1
   exact(List.getElem?_eq_some_iff.mp q).2
  rw[hd] at h2
  refine .inr ⟨go,fun σ' H'=>∃Hf' sd',Same Hf1 Hf'/\SR X.K H0 B Hf' sd' σ' H'/\PoS X.K E H0 B Hf' (Xd g f (ds.drop (i+1)) sd') D,fun σ' H' w=>⟨ds.length-(i+1),by lia,rfl,w⟩,fun x H3 y3=>?_⟩
  obtain⟨Hf3,g3,rx⟩:=yl x H3 y3
  have sr3:=sr2.gr g3
  unfold Xd at h2
  split at h2
  ·rename_i sd3 eg
   refine qg H0 B Hf3 sd2 σ2 H3 x d sd3 _ sr3 rx eg fun σ4 sr4=>?_
   refine qb H0 B Hf3 sd3 σ4 H3 _ sr4 ?_
   have h2:=PoS.weak g3.fz h2
   cases ef:f sd3 with
   |ok o=>
    rw[ef] at h2
    cases o with
    |nx sd'=>exact fun σ' Hf' H' e' sr'=>⟨Hf',sd',e2.trans (g3.fz.trans e'),sr',PoS.weak e' h2⟩
    |ct sd'=>exact fun σ' Hf' H' e' sr'=>⟨Hf',sd',e2.trans (g3.fz.trans e'),sr',PoS.weak e' h2⟩
    |bk sd'=>exact h2
    |rt s=>exact h2
   |ex x=>rw[ef] at h2;exact h2
   |bad=>rw[ef] at h2;exact h2
  ·exact h2.elim
end
def Vo {prog:Program}{w:World}{A:Around}{R:Result->Shared->Prop}{s:Shared}{elt target iter:Expr}{scope:Scope}{pos:Pos}{it acc:Value}{env:Env}(I:Nat->Shared->Prop)
  (turn:∀n s,I n s->wpAny (model prog w) A (pyNext it) (fun r s₁=>match r with
   |none=>R (.ok .next) s₁
   |some v=>wpAny (model prog w) A (letOwnedTupleGo target it v) (fun _ s₂=>wpAny (model prog w) A (assign target env v) (fun _ s₃=>wpAny (model prog w) A (eval elt env) (fun x s₄=>
     wpAny (model prog w) A (call (.builtin "list.append") [acc,x]) (fun _ s₅=>∃m,m<n/\I m s₅) (fun _ _=>False) s₄) (fun _ _=>False) s₃) (fun _ _=>False) s₂) (fun _ _=>False) s₁) (fun _ _=>False) s)
  (n:Nat) (h:I n s):
  codeAny (model prog w) A (.compLoop (.ListComp elt [⟨target,iter,[],0⟩] scope pos) 0 it acc env) R s:=by
 refine codeAny_loop rfl I (fun n s hI=>?_) n h
 show wpAny _ A ((compTurn (.ListComp elt [⟨target,iter,[],0⟩] scope pos) 0 it acc env).onRaise (fun x=>do noteFrame x env;theTreesLotGoes x)) _ _ s
 refine wpAny_noted ?_
 rw[compTurn_list]
 refine wpAny_bind (wpAny_standAt (wpAny_bind (wpAny_mono (turn n s hI) (fun r s₁ h₁=>?_) fun _ _ h'=>h'.elim)))
 cases r with
 |none=>exact wpAny_pure h₁
 |some v=>
  refine wpAny_bind (wpAny_mono h₁ (fun _ s₂ h₂=>?_) fun _ _ h'=>h'.elim)
  refine wpAny_bind (wpAny_mono h₂ (fun _ s₃ h₃=>?_) fun _ _ h'=>h'.elim)
  refine wpAny_bind (wpAny_tests_nil ?_)
  exact wpAny_bind (wpAny_bind (wpAny_mono h₃ (fun x s₄ h₄=>wpAny_bind (wpAny_mono h₄ (fun _ s₅ h₅=>wpAny_pure (wpAny_pure ⟨rfl,h₅⟩)) fun _ _ h'=>h'.elim)) fun _ _ h'=>h'.elim))
def Up (X:Cx)(Nc:List Str)(scope:Scope)(cl:List (Str×Addr))(s3:Shared)(H3:Hp)(C:Addr)(ex:List Addr):Cx:=
 {X with N:=Nc,s₀:=s3,H₀:=H3,env:=compEnvC scope cl C X.env,outer:=X.stack,stack:=X.stack,ex:=ex,fn:=fun _=>false,pn:=[],xe:=fun _ _=>False}
structure CapOk (X:Cx) (Nc:List Str) (n0:Nat) (caps:List Nat) (scope:Scope) (cl:List (Str×Addr)):Prop where
 sub:∀y c,cl.lookup y=some c->X.env.cells.lookup y=some c
 has:∀y,(relabel scope X.env).names.lookup y=some .cell\/(relabel scope X.env).names.lookup y=some .free->∃c,cl.lookup y=some c
 cap:∀(i j:Nat) (x:Str),Nc[n0+i]?=some x->caps[i]?=some j->X.N[j]?=some x/\X.env.scope.names.lookup x=some .cell/\(relabel scope X.env).names.lookup x=some .cell
 len:Nc.length=n0+caps.length
def Qz:Obj:={cls:=.type "list", dict:=none,data:=.seq ([]:List Value).toArray}
section
variable {X:Cx}{pins:List (Addr×Obj)}{σ:L2.St}{H2:Hp}{s2:Shared}{Nc:List Str}{n0:Nat}{caps:List Nat}{scope:Scope}{cl:List (Str×Addr)}{fp:List Addr}
def Cc (I2:Inv X pins σ H2 s2)(f2:∀b∈fp,P0 X pins H2 b)(hold:∀b∈fp,∃o,s2.heap.get? b=some o)(hkind:scope.kind=.function)(cap:CapOk X Nc n0 caps scope cl){h1:Heap}{m0:Str->Option Value}{tk:Nat}(hns:h1.Ns (s2.heap.objs.size+1) m0)(hold1:∀b o,s2.heap.get? b=some o->h1.get? b=some o)(hD:h1.get? s2.heap.objs.size=some Qz):
  Inv (Up X Nc scope cl {s2 with heap:=s2.heap.push Qz} (upd H2 s2.heap.objs.size (.lst [])) (s2.heap.objs.size+1) fp) [] (List.replicate n0 none++caps.map fun j=>(σ[j]?).join) (upd H2 s2.heap.objs.size (.lst [])) {s2 with heap:=h1,toks:=tk}:=by
 have fresh:H2 s2.heap.objs.size=none:=I2.hok.fresh (Nat.le_refl _)
 have freshC:H2 (s2.heap.objs.size+1)=none:=I2.hok.fresh (Nat.le_succ _)
 have sz:(s2.heap.push Qz).objs.size=s2.heap.objs.size+1:=Heap.size_push _ _
 have lt:∀{b:Addr}{o:Obj},s2.heap.get? b=some o->b<s2.heap.objs.size:=fun e=>Heap.lt_size e
 have ne0:∀{b:Addr}{o:Obj},s2.heap.get? b=some o->b≠s2.heap.objs.size:=fun e=>Nat.ne_of_lt (lt e)
 have clt:∀y c,cl.lookup y=some c->c<s2.heap.objs.size:=fun y c e=>by
  obtain⟨v,q⟩:=I2.cell y c (cap.sub y c e)
  exact q.lt
 have frl:∀b∈Fu X.stack,b<s2.heap.objs.size:=fun b hb=>by
  obtain⟨_,o,ho,_⟩:=I2.stack.mem hb
  exact lt ho
 have kp:∀b o,(s2.heap.push Qz).get? b=some o->h1.get? b=some o:=fun b o e=>by
  by_cases hb:b=s2.heap.objs.size
  ·subst hb
   rw[Heap.get?_push_size _ rfl] at e
   cases e
   exact hD
  ·rw[Heap.get?_push_ne _ _ _ hb] at e
   exact hold1 b o e
 have hok3:HOk X.prog X.w (upd H2 s2.heap.objs.size (.lst [])) h1:=I2.hok.laid hold1 (Nat.le_refl _) ⟨Nat.zero_le _,[],0,.nil,hD⟩
 refine⟨⟨I2.ok.mod,?_,I2.ok.glob,I2.ok.blt,?_,?_,?_,?_,I2.ok.hd,I2.ok.frames,.inl rfl,?_,?_,?_,?_,?_,?_,?_⟩,rfl,I2.bare,?_,⟨m0,hns,?_⟩,?_,?_,?_,?_,hok3,?_⟩
 ·show(relabel scope X.env).kind=.function
  exact hkind
 ·show(s2.heap.push Qz).objs.size<=s2.heap.objs.size+1
  rw[sz];exact Nat.le_refl _
 ·intro x y c h1 h2
  exact I2.ok.inj x y c (cap.sub x c h1) (cap.sub y c h2)
 ·intro x h
  exact cap.has x h
 ·intro x c h
  cases h
 ·intro b hb
  refine⟨?_,fun x c e=>?_⟩
  ·obtain⟨o,e⟩:=hold b hb
   exact Nat.ne_of_lt (Nat.lt_succ_of_lt (lt e))
  ·exact(f2 b hb).2.2.2.2.1 x c (cap.sub x c e)
 ·intro b o e
  obtain⟨q1,q2⟩:=I2.bs b o e
  exact⟨Heap.get?_push_of_some _ q1,(Zj (ne0 q1)).trans q2⟩
 ·show X.base.objs.size<=(s2.heap.push Qz).objs.size
  rw[sz]
  exact Nat.le_succ_of_le (Nat.le_trans I2.ok.bsz I2.sz)
 ·intro b o e hb
  obtain⟨_,_,_,f4,_,_⟩:=f2 b hb
  rcases f4 with z|z
  ·exact I2.ok.noex b o e z
  ·exact absurd (Nat.lt_of_lt_of_le (Nat.lt_of_lt_of_le (Heap.lt_size e) I2.ok.bsz) z) (Nat.lt_irrefl _)
 ·intro b hb hz
  rcases List.mem_cons.mp (I2.stkSub b hz) with e|hz
  ·exact(f2 b hb).2.1 e
  ·exact(f2 b hb).2.2.1 hz
 ·exact I2.stack.of_keeps fun b o e _=>⟨o,Heap.get?_push_of_some _ e,rfl⟩
 ·intro b hb
  show upd H2 s2.heap.objs.size (.lst []) b=none
  rw[Zj (Nat.ne_of_lt (frl b hb))]
  exact I2.stkFree b hb
 ·exact Un.kept kp
 ·intro i x v e1 e2 e3
  have hi:n0<=i:=by
   refine Nat.le_of_not_lt fun hlt=>?_
   rw[List.getElem?_append_left (by simpa using hlt),List.getElem?_replicate] at e2
   split at e2<;>cases e2
  obtain⟨k,rfl⟩:=Nat.exists_eq_add_of_le hi
  rw[List.getElem?_append_right (by simp),List.length_replicate,Nat.add_sub_cancel_left,List.getElem?_map] at e2
  cases ej:caps[k]? with
  |none=>rw[ej] at e2;cases e2
  |some j=>
   rw[ej] at e2
   have e2:(σ[j]?).join=some v:=by simpa using e2
   have es:σ[j]?=some (some v):=by
    cases z:σ[j]? with
    |none=>rw[z] at e2;cases e2
    |some q=>rw[z] at e2;have:q=some v:=e2;rw[this]
   obtain⟨a1,a2,a3⟩:=cap.cap k j x e1 ej
   obtain⟨m,hn,hl⟩:=I2.loc
   obtain⟨u,ru,lk⟩:=hl j x v a1 es (.inr (.inl a2))
   refine⟨u,ru,?_⟩
   rcases lk with⟨z,_⟩|⟨_,c,ec,cell⟩
   ·have z:X.env.scope.names.lookup x=some .local:=z
    rw[a2] at z;cases z
   ·obtain⟨c',ec'⟩:=cap.has x (.inl a3)
    have:=cap.sub x c' ec'
    rw[ec] at this
    cases this
    obtain⟨o,ho,hd⟩:=cell
    exact .inr ⟨.inl a3,c,ec',o,hold1 _ _ ho,hd⟩
 ·intro x c e
  obtain⟨v,o,ho,hd⟩:=I2.cell x c (cap.sub x c e)
  exact⟨v,o,hold1 _ _ ho,hd⟩
 ·show upd H2 s2.heap.objs.size (.lst []) (s2.heap.objs.size+1)=none
  rw[Zj (Nat.ne_of_gt (Nat.lt_succ_self _))]
  exact freshC
 ·intro x c e
  show upd H2 s2.heap.objs.size (.lst []) c=none
  rw[Zj (Nat.ne_of_lt (clt x c e))]
  exact I2.freeC x c (cap.sub x c e)
 ·intro p hp
  exact absurd (show p∈([]:List (Addr×Obj)) from hp) (by simp)
 ·rw[List.length_append,List.length_replicate,List.length_map]
  exact cap.len.symm
def Ly (I2:Inv X pins σ H2 s2)(f2:∀b∈fp,P0 X pins H2 b){σ':L2.St}{H':Hp}{s':Shared}{h':Heap}(J:Inv (Up X Nc scope cl {s2 with heap:=s2.heap.push Qz} (upd H2 s2.heap.objs.size (.lst [])) (s2.heap.objs.size+1) fp) [] σ' H' s')(sb:Heap.SameBut (s2.heap.objs.size+1) s'.heap h'):
  Inv X pins σ H' {s' with heap:=h'}:=by
 have I3:Inv X pins σ (upd H2 s2.heap.objs.size (.lst [])) {s2 with heap:=s2.heap.push Qz}:=I2.laid (t':=s2.toks) (fun b u e=>Heap.get?_push_of_some _ e) (Nat.le_refl _) ⟨Nat.zero_le _,[],0,.nil,Heap.get?_push_size _ rfl⟩
 have sz:(s2.heap.push Qz).objs.size=s2.heap.objs.size+1:=Heap.size_push _ _
 have same:∀{b:Addr}{o:Obj},(s2.heap.push Qz).get? b=some o->h'.get? b=s'.heap.get? b:=fun {b o} e=>sb.2 b (by
  have:=Heap.lt_size e
  rw[sz] at this
  exact Nat.ne_of_lt this)
 have u:Un (Fu X.stack) fp (upd H2 s2.heap.objs.size (.lst [])) H' (s2.heap.push Qz) s'.heap:=J.base
 refine I3.call' (s':={s' with heap:=h'}) (ch:=fp) J.os ⟨fun b o e n h1 h2=>?_,fun b o e n h1 h2=>?_,u.free,fun b o e h1=>?_,u.tups,u.frzs,u.tbls⟩ (fun b ob e=>?_) J.bare fun b hb=>?_
 ·show h'.get? b=_
  rw[same e];exact u.keep b o e n h1 h2
 ·show ∃sl,h'.get? b=_
  rw[same e];exact u.slot b o e n h1 h2
 ·show ∃o',h'.get? b=_
  rw[same e];exact u.there b o e h1
 ·have fr:H' (s2.heap.objs.size+1)=none:=J.free
  refine(J.hok b ob e).stay (fun c w hc q=>?_) (fun _ q=>q) (fun _ _ q=>q) fun _ _ _ q=>q
  refine(sb.2 c ?_).trans q
  rintro rfl
  rcases hc with rfl|hc
  ·rw[fr] at e;cases e
  ·rw[fr] at hc;cases hc
 ·obtain⟨f0,f1,_,f3,f4,f5⟩:=f2 b hb
  exact⟨f3,f1,f4,f5⟩
end
def Zmm:Option S->Option S
 |some (.im d)=>some (.im d)
 |_=>none
def Uh (n0:Nat)(caps:List Nat)(sd:Zf):Zf:=List.replicate n0 none++caps.map fun j=>Zmm (sd[j]?).join
def Jz (gt:D->Zf->M Zf)(fe:Zf->M D)(sd0:Zf):List D->M (List D)
 |[]=>.ok []
 |d::ds=>match gt d sd0 with
  |.ok sd1=>match fe sd1 with
   |.ok e=>match Jz gt fe sd0 ds with
    |.ok es=>.ok (e::es)
    |_=>.bad
   |_=>.bad
  |_=>.bad
def Uq (fi:Zf->M (List D))(n0:Nat)(caps:List Nat)(gt:D->Zf->M Zf)(fe:Zf->M D)(sd:Zf):M (List D):=(fi sd).bind fun ds=>if few ds then Jz gt fe (Uh n0 caps sd) ds else .bad
def PoF (K:PySem.W.Frag)(E:XK)(Hf H:Hp)(r:M (List D))(Q:VK):Prop:=match r with
 |.ok ds=>∀p xs Hf' H',Gr Hf H Hf' H'->H p=none->Hf' p=none->H' p=some (.lst xs)->Reps K Hf' ds xs->Q (.ref p) H'
 |.ex x=>∀c dx Hf' H',Gr Hf H Hf' H'->Zfk K Hf' H' x c dx->E c dx H'
 |.bad=>False
def Zjz (X:Cx)(E:XK)(e:Expr)(f:Zf->M (List D)):Prop:=
 ∃t:TE,PE X e t/\∀(H0:Hp) (B:Addr->Prop) (Hf:Hp) (sd:Zf) (σ:L2.St) (H:Hp) (Q:VK),SR X.K H0 B Hf sd σ H->PoF X.K E Hf H (f sd) Q->t σ H Q
def PoF.weak {K:PySem.W.Frag}{E:XK}{Hf H Hf1 H1:Hp}{r:M (List D)}{Q:VK}(g:Gr Hf H Hf1 H1)(h:PoF K E Hf H r Q):PoF K E Hf1 H1 r Q:=by
 cases r with
 |ok a=>exact fun p xs Hf' H' g' e1 e2 e3 e4=>h p xs Hf' H' (g.trans g') (g.all.free e1) e2 e3 e4
 |ex x=>exact fun c dx Hf' H' g' q=>h c dx Hf' H' (g.trans g') q
 |bad=>exact h
theorem PoF.bind {K:PySem.W.Frag}{E:XK}{Hf H:Hp}{α β:Type}{R:Hp->Hp->α->β->Prop}{r:M α}{k:α->M (List D)}{Q:VK}{Q1:β->Hp->Prop}(h:PoF K E Hf H (r.bind k) Q)(s:∀a b Hf1 H1,r=.ok a->Gr Hf H Hf1 H1->R Hf1 H1 a b->PoF K E Hf1 H1 (k a) Q->Q1 b H1):Po K E R Hf H r Q1:=by
 cases r with
 |ok a=>exact fun b Hf' H' g q=>s a b Hf' H' rfl g q (PoF.weak g h)
 |ex x=>exact h
 |bad=>exact h
def Tt (f:Zf->M (List D))(sd:Zf):M D:=(f sd).bind fun ds=>.ok (.lst ds)
def Zb8 {X:Cx}{E:XK}{e:Expr}{f:Zf->M (List D)}(h:Zjz X E e f):Yn X E e (Tt f):=by
 obtain⟨t,p,q⟩:=h
 refine⟨t,p,fun H0 B Hf sd σ H Q sr h=>q H0 B Hf sd σ H Q sr ?_⟩
 unfold Tt at h
 cases e:f sd with
 |ok ds=>
  rw[e] at h
  intro p xs Hf' H' g e1 e2 e3 e4
  refine h _ (upd Hf' p (.lst xs)) H' ⟨g.fz.trans (Z8 e2 _),fun b u z=>?_,g.all,fun a h1 h2=>?_⟩ (rep_lst.mpr ⟨p,xs,rfl,SqL.of Zo,e4.mono (Z8 e2 _)⟩)
  ·by_cases hb:b=p
   ·subst hb;rw[Zo] at z;rw[e3];exact z
   ·rw[Zj hb] at z;exact g.sub b u z
  ·have:a≠p:=fun z=>h1.nn (z▸e1)
   rw[Zj this];exact g.ban a h1 h2
 |ex x=>rw[e] at h;exact h
 |bad=>rw[e] at h;exact h
def Lz {gt:D->Zf->M Zf}{fe:Zf->M D}{sd0:Zf}{x:XV}:∀{ds:List D},Jz gt fe sd0 ds=.ex x->False
 |[],h=>by cases h
 |d::ds,h=>by
  unfold Jz at h
  split at h
  ·split at h
   ·split at h<;>cases h
   ·cases h
  ·cases h
def SR.ofIm {K:PySem.W.Frag}{Hf H:Hp}{sd:Zf}{σ:L2.St}(e:Same Hf H)(hl:sd.length=σ.length)(him:∀(i:Nat) (d:D),sd[i]?=some (some (.im d))->∃v,σ[i]?=some (some v)/\Rep K Hf d v)(hno:∀(i:Nat) (t:S),sd[i]?=some (some t)->∃d,t=.im d):
  SR K H (fun a=>Lv H a/\Hf a=none) Hf sd σ H:=
 ⟨e,Same.refl _,fun _ h=>h.2,fun _ h=>h.1,hl,fun i t h _=>(by obtain⟨d,rfl⟩:=hno i t h;exact him i d h),fun i t h ho=>(by obtain⟨d,rfl⟩:=hno i t h;cases ho),fun i _ t _ _ _ h ho _ _ _ _=>(by obtain⟨d,rfl⟩:=hno i t h;cases ho)⟩
def El {n0:Nat}{caps:List Nat}{sd:Zf}{i:Nat}{s:S}(h:(Uh n0 caps sd)[i]?=some (some s)):n0<=i:=by
 refine Nat.le_of_not_lt fun hlt=>?_
 unfold Uh at h
 rw[List.getElem?_append_left (by simpa using hlt),List.getElem?_replicate] at h
 split at h<;>cases h
def Em {n0:Nat}{caps:List Nat}{sd:Zf}{i:Nat}{s:S}(h:(Uh n0 caps sd)[i]?=some (some s)):∃k j d,i=n0+k/\caps[k]?=some j/\sd[j]?=some (some (.im d))/\s=.im d:=by
 obtain⟨k,rfl⟩:=Nat.exists_eq_add_of_le (El h)
 unfold Uh at h
 rw[List.getElem?_append_right (by simp),List.length_replicate,Nat.add_sub_cancel_left,List.getElem?_map] at h
 cases ej:caps[k]? with
 |none=>rw[ej] at h;cases h
 |some j=>
  rw[ej] at h
  have h:Zmm (sd[j]?).join=some s:=by simpa using h
  cases z:sd[j]? with
  |none=>rw[z] at h;cases h
  |some q=>
   rw[z] at h
   cases q with
   |none=>cases h
   |some q=>
    cases q with
    |im d=>cases h;exact⟨k,j,d,rfl,ej,z,rfl⟩
    |ow _=>cases h
    |od _=>cases h
    |dk _=>cases h
    |xc _=>cases h
    |fn _=>cases h
    |ob _ _ _=>cases h
    |fl _ _ _=>cases h
def Zb9 {n0:Nat}{caps:List Nat}{sd:Zf}(i:Nat)(t:S)(h:(Uh n0 caps sd)[i]?=some (some t)):∃d,t=.im d:=by
 obtain⟨_,_,d,_,_,_,e⟩:=Em h
 exact⟨d,e⟩
def Zj0 (n0:Nat)(gt:D->Zf->M Zf):Prop:=∀d sd sd1,gt d sd=.ok sd1->sd1.length=sd.length/\(∀i:Nat,n0<=i->sd1[i]?=sd[i]?)/\True
def Wf {n0 k:Nat}(h:k<n0):Zj0 n0 (X4 k):=fun d sd sd1 e=>by
 cases e
 exact⟨List.length_set,fun i hi=>List.getElem?_set_ne (by lia),trivial⟩
def Sb {X:Cx}{E:XK}{pos:Pos}{tg elt iter:Expr}{scope:Scope}{Nc:List Str}{n0:Nat}{caps:List Nat}{cl:List (Str×Addr)}{fi:Zf->M (List D)}{gt:D->Zf->M Zf}{fe:Zf->M D}(hc:X.calm=true)(hclos:closureFor scope X.env=pure cl)(cap:CapOk X Nc n0 caps scope cl)(hkind:scope.kind=.function)(hcell:∀y∈scope.names,y.2≠.cell)(hnames:∀y∈scope.names,y.2=.local->scope.names.lookup y.1=some .local)(hk:Zj0 n0 gt)(hi:Zju X E tg iter fi)(hg:∀s3 H3 C ex,Zh3 (Up X Nc scope cl s3 H3 C ex) tg gt)(he:∀s3 H3 C ex,Yn (Up X Nc scope cl s3 H3 C ex) E0 elt fe)(hs:∀x,foldedSetIterable iter X.env x=pure x:=by intro _;rfl):
  Zjz X E (.ListComp elt [⟨tg,iter,[],0⟩] scope pos) (Uq fi n0 caps gt fe):=by
 refine⟨fun σ H Q=>∃H0 B Hf sd,SR X.K H0 B Hf sd σ H/\PoF X.K E Hf H (Uq fi n0 caps gt fe sd) Q,?_,fun H0 B Hf sd σ H Q sr h=>⟨H0,B,Hf,sd,sr,h⟩⟩
 rintro pins s σ H Q I ⟨H0,B,Hf,sd,sr,h⟩
 obtain⟨wi,pw,qw⟩:=hi
 rw[eval_ListComp]
 refine wpAny_comprehension_free (use:=none) rfl hs hclos hkind hnames ?_
 have step:=pw pins s σ H (fun J H2=>∃ds Hf2,Gr Hf H Hf2 H2/\R9 X.K Hf2 H2 ds J/\PoF X.K E Hf2 H2 (if few ds then Jz gt fe (Uh n0 caps sd) ds else .bad) Q) I
  (qw H0 B Hf sd σ H _ sr (PoF.bind h fun ds J Hf2 H2 _ g2 jok h2=>⟨ds,Hf2,g2,jok,h2⟩))
 refine Yb step fun v s1 h1=>Yb h1 fun itv s2 h2=>?_
 obtain⟨it,fp,tn,J,H2,rfl,I2,T,Za3,f2,ds,Hf2,g2,jok,hq⟩:=h2
 have sr2:=sr.gr g2
 split at hq
 case isFalse=>exact hq.elim
 case isTrue hfew=>
 have fresh:H2 s2.heap.objs.size=none:=I2.hok.fresh (Nat.le_refl _)
 have holdf:∀b∈fp,∃o,s2.heap.get? b=some o:=fun b hb=>let ⟨o,e,_⟩:=T.obj 0 _ Za3 b hb;⟨o,e⟩
 refine wpAny_newObj_type (wpAny_newFunctionEnv hcell (by intro y hy;simp at hy) (fun h₁ hns₁ hsb₁=>?_) hkind)
 have hC:(s2.heap.push Qz).objs.size=s2.heap.objs.size+1:=Heap.size_push _ _
 have hns:h₁.Ns (s2.heap.objs.size+1) (fun x=>([]:List (Str×Value)).reverse.lookup x):=hC▸hns₁
 have hsb:Heap.SameBut (s2.heap.objs.size+1) ((s2.heap.push Qz).push {cls:=.type "dict", data:=.dict #[]}) h₁:=hC▸hsb₁
 have hold1:∀b o,s2.heap.get? b=some o->h₁.get? b=some o:=fun b o e=>by
  have hb:b<s2.heap.objs.size:=Heap.lt_size e
  exact(hsb.2 b (Nat.ne_of_lt (Nat.lt_succ_of_lt hb))).trans (Heap.get?_push_of_some _ (Heap.get?_push_of_some _ e))
 have hD:h₁.get? s2.heap.objs.size=some Qz:=(hsb.2 _ (Nat.ne_of_lt (Nat.lt_succ_self _))).trans (Heap.get?_push_of_some _ (Heap.get?_push_size _ rfl))
 have J0:=Cc I2 f2 holdf hkind cap (tk:=s2.toks+([]:List (Str×Value)).length) hns hold1 hD
 have hg:=hg {s2 with heap:=s2.heap.push Qz} (upd H2 s2.heap.objs.size (.lst [])) (s2.heap.objs.size+1) fp
 have he:=he {s2 with heap:=s2.heap.push Qz} (upd H2 s2.heap.objs.size (.lst [])) (s2.heap.objs.size+1) fp
 generalize hXc:Up X Nc scope cl {s2 with heap:=s2.heap.push Qz} (upd H2 s2.heap.objs.size (.lst [])) (s2.heap.objs.size+1) fp=Xc at J0 hg he
 have eP:Xc.prog=X.prog:=by subst hXc;rfl
 have eW:Xc.w=X.w:=by subst hXc;rfl
 have eK:Xc.K=X.K:=by subst hXc;rfl
 have eA:Xc.A=X.A:=by subst hXc;rfl
 have eX:Xc.xe=fun _ _=>False:=by subst hXc;rfl
 have eE:Xc.env=compEnvC scope cl (s2.heap.objs.size+1) X.env:=by subst hXc;rfl
 have eC:Xc.calm=true:=by subst hXc;exact hc
 have fpc:∀{H':Hp},(∀b∈fp,H' b=none)->∀b∈fp,P0 Xc [] H' b:=fun {H'} hn b hb=>by
  subst hXc
  obtain⟨f0,f1,f2',f3,f4,f5⟩:=f2 b hb
  obtain⟨o,eo⟩:=holdf b hb
  refine⟨hn b hb,Nat.ne_of_lt (Nat.lt_succ_of_lt (Heap.lt_size eo)),fun hz=>?_,.inl hb,fun x c e=>f4 x c (cap.sub x c e),fun p hp=>absurd (show p∈([]:List (Addr×Obj)) from hp) (by simp)⟩
  rcases List.mem_cons.mp (I2.stkSub b hz) with e|hz
  ·exact f1 e
  ·exact f2' hz
 have nfp:∀b∈fp,b≠s2.heap.objs.size:=fun b hb=>by
  obtain⟨o,eo⟩:=holdf b hb
  exact Nat.ne_of_lt (Heap.lt_size eo)
 obtain⟨tg',pg,qg⟩:=hg
 obtain⟨te,pe,qe⟩:=he
 have loop:∀s₃:Shared,s₃={s2 with heap:=h₁,toks:=s2.toks+([]:List (Str×Value)).length} ->
   codeAny (model X.prog X.w) X.A (.compLoop (.ListComp elt [⟨tg,iter,[],0⟩] scope pos) 0 (.ref it) (.ref s2.heap.objs.size) (compEnvC scope cl (s2.heap.objs.size+1) X.env))
    (compPost (model X.prog X.w) X.A X.xe none (EP X pins σ Q) (.ref s2.heap.objs.size) (s2.heap.objs.size+1)) s₃:=by
  rintro s₃ rfl
  refine Vo (fun n s'=>∃i vs es H' Hf' σ',n=ds.length-i/\i<=ds.length/\Inv Xc [] σ' H' s'/\tn i s'.heap/\(∀b∈fp,H' b=none) /\
   H' s2.heap.objs.size=some (.lst vs)/\Hf' s2.heap.objs.size=none/\Gr Hf2 H2 Hf' H'/\Reps X.K Hf' es vs/\vs.length=i /\
   (Uh n0 caps sd).length=σ'.length/\(∀(j:Nat) (d:D),(Uh n0 caps sd)[j]?=some (some (.im d))->∃v,σ'[j]?=some (some v)/\Rep X.K Hf' d v) /\
   PoF X.K E Hf2 H2 ((Jz gt fe (Uh n0 caps sd) (ds.drop i)).bind fun fs=>.ok (es++fs)) Q) ?_ ds.length ?_
  ·rintro n s' ⟨i,vs,es,H',Hf',σ',rfl,hil,J1,st1,fr1,hd1,hf1,g1,rs1,hl1,hlen1,him1,hq1⟩
   have jj:=jok i Hf' H' g1.fz g1.sub
   cases q:ds[i]? with
   |none=>
    rw[q] at jj
    have tdone:=T.done Xc eP eW eK eC i [] s' _ H' (fun _ _=>False) J1 (fpc fr1) st1 jj
    rw[eA] at tdone
    refine wpAny_mono tdone (fun r s4 hr=>?_) fun _ _ z=>z
    obtain⟨rfl,J4⟩:=hr
    rw[List.drop_eq_nil_of_le (List.getElem?_eq_none_iff.mp q)] at hq1
    subst hXc
    obtain⟨m,hn4,_⟩:=J4.loc
    refine⟨m,hn4,fun h' sb=>?_⟩
    refine⟨.ref s2.heap.objs.size,H',Ly I2 f2 J4 sb,rfl,?_⟩
    have hq2:PoF X.K E Hf2 H2 (.ok es) Q:=by
     have:es++([]:List D)=es:=List.append_nil es
     rw[<-this];exact hq1
    exact hq2 _ vs Hf' H' g1 fresh hf1 hd1 rs1
   |some d=>
    rw[q] at jj
    obtain⟨go,yl⟩:=jj
    have hlt:i<ds.length:=(List.getElem?_eq_some_iff.mp q).1
    have hdr:ds.drop i=d::ds.drop (i+1):=by
     rw[List.drop_eq_getElem_cons hlt]
     congr 1
     exact(List.getElem?_eq_some_iff.mp q).2
    obtain⟨sd1,e1,eg,ee,hq2⟩:∃sd1 e1,gt d (Uh n0 caps sd)=.ok sd1/\fe sd1=.ok e1/\PoF X.K E Hf2 H2 ((Jz gt fe (Uh n0 caps sd) (ds.drop (i+1))).bind fun fs=>.ok ((es++[e1])++fs)) Q:=by
     rw[hdr] at hq1
     unfold Jz at hq1
     split at hq1
     ·rename_i sd1 eg
      split at hq1
      ·rename_i e1 ee
       refine⟨sd1,e1,eg,ee,?_⟩
       cases em:Jz gt fe (Uh n0 caps sd) (ds.drop (i+1)) with
       |ok fs=>
        rw[em] at hq1
        have:(es++[e1])++fs=es++e1::fs:=by simp
        rw[M.bind_ok,this]
        exact hq1
       |ex x=>exact(Lz em).elim
       |bad=>rw[em] at hq1;exact hq1.elim
      ·exact hq1.elim
     ·exact hq1.elim
    have titem:=T.item Xc eP eW eK eC i [] s' _ H' (fun _ _=>False) J1 (fpc fr1) st1 go
    rw[eA] at titem
    refine wpAny_mono titem (fun r s4 hr=>?_) fun _ _ z=>z
    obtain⟨u,rfl,h4⟩:=hr
    refine wpAny_mono h4 (fun _ s5 h5=>?_) fun _ _ z=>z
    obtain⟨x,H5,J5,r5,y5,st5,fr5⟩:=h5
    obtain⟨Hf5,g5,rx⟩:=yl x H5 y5
    have J5':=J5.pinned (fpc fr5) (T.obj _ _ st5)
    have hD5:H5 s2.heap.objs.size=some (.lst vs):=g5.all _ _ hd1
    have hf5:Hf5 s2.heap.objs.size=none:=g5.ban _ (Lv.lst hd1) hf1
    have him5:∀(j:Nat) (d:D),(Uh n0 caps sd)[j]?=some (some (.im d))->∃v,σ'[j]?=some (some v)/\Rep X.K Hf5 d v:=fun j d z=>let ⟨v,z1,z2⟩:=him1 j d z;⟨v,z1,z2.mono g5.fz⟩
    have sr5:SR Xc.K H5 (fun a=>Lv H5 a/\Hf5 a=none) Hf5 (Uh n0 caps sd) σ' H5:=eK▸SR.ofIm g5.sub hlen1 him5 Zb9
    obtain⟨kl,kk,kn⟩:=hk d _ sd1 eg
    have hg2:=pg _ s5 σ' H5 x u (fun σ6 H6=>te σ6 H6 fun v7 H7=>∃Hf7,Gr Hf5 H5 Hf7 H7/\Rep X.K Hf7 e1 v7/\(Uh n0 caps sd).length=σ6.length/\(∀(j:Nat) (d:D),(Uh n0 caps sd)[j]?=some (some (.im d))->∃v,σ6[j]?=some (some v)/\Rep X.K Hf7 d v)) J5' r5
     (qg H5 _ Hf5 _ σ' H5 x d sd1 _ sr5 (eK▸rx) eg fun σ6 sr6=>qe H5 _ Hf5 sd1 σ6 H5 _ sr6 (by
      rw[ee]
      intro v7 Hf7 H7 g7 r7
      have r7:Rep Xc.K Hf7 e1 v7:=r7
      rw[eK] at r7
      refine⟨Hf7,g7,r7,by rw[<-kl];exact sr6.len,fun j d z=>?_⟩
      have z2:sd1[j]?=some (some (.im d)):=by rw[kk j (El z)];exact z
      obtain⟨v,z3,z4⟩:=sr6.im j d z2
      rw[eK] at z4
      exact⟨v,z3,z4.mono g7.fz⟩))
    rw[eP,eW,eA,eX,eE] at hg2
    refine wpAny_mono hg2 (fun _ s6 h6=>?_) fun _ _ z=>z
    obtain⟨σ6,H6,J6,q6⟩:=h6
    have he2:=pe _ s6 σ6 H6 _ J6 q6
    rw[eP,eW,eA,eX,eE] at he2
    refine wpAny_mono he2 (fun y s7 h7=>?_) fun _ _ z=>z
    obtain⟨v7,H7,J7,r7,Hf7,g7,rv7,hl7,him7⟩:=h7
    have hD7:H7 s2.heap.objs.size=some (.lst vs):=g7.all _ _ hD5
    have hf7:Hf7 s2.heap.objs.size=none:=g7.ban _ (Lv.lst hD5) hf5
    have happ:=Wa (X:=Xc) _ s7 σ6 H7 (.ref s2.heap.objs.size) [v7] (.ref s2.heap.objs.size) [y] (fun _ H8=>H8=upd H7 s2.heap.objs.size (.lst (vs++[v7]))) J7 rfl (.cons r7 .nil)
     ⟨_,vs,v7,rfl,rfl,hD7,by
      have h1:=of_decide_eq_true hfew
      have h2:=sizeLine_eq
      lia,rfl⟩
    rw[eP,eW,eA,eX] at happ
    refine wpAny_mono happ (fun _ s8 h8=>?_) fun _ _ z=>z
    obtain⟨_,H8,J8,_,e8⟩:=h8
    subst e8
    have g17:=(g1.trans g5).trans g7
    refine⟨ds.length-(i+1),by lia,i+1,vs++[v7],es++[e1],_,Hf7,σ6,rfl,hlt,J8.unpinned,?_,fun b hb=>?_,Zo,hf7,⟨g17.fz,fun b o z=>?_,fun b o z=>?_,g17.ban⟩,?_,by rw[List.length_append,hl1];rfl,hl7,him7,hq2⟩
    ·exact T.keep _ _ _ st5 fun b hb o e=>(J8.pin (b,o) (List.mem_append_right _ (List.mem_append_right _ (Jf hb e)))).1
    ·obtain⟨o,e,_⟩:=T.obj _ _ st5 b hb
     exact(J8.pin (b,o) (List.mem_append_right _ (List.mem_append_right _ (Jf hb e)))).2.1
    ·have:b≠s2.heap.objs.size:=Zu z hf7
     rw[Zj this];exact g17.sub b o z
    ·have:b≠s2.heap.objs.size:=Zu z fresh
     rw[Zj this];exact g17.all b o z
    ·exact(rs1.mono (g5.fz.trans g7.fz)).append (Reps.cons rv7 Reps.nil)
  ·refine⟨0,[],[],_,Hf2,_,by simp,Nat.zero_le _,J0,T.keep 0 _ _ Za3 fun b hb o e=>hold1 b o e,fun b hb=>?_,Zo,g2.sub.free fresh,⟨Same.refl _,fun b o z=>?_,Z8 fresh _,fun _ _ z=>z⟩,Reps.nil,rfl,?_,fun j d z=>?_,?_⟩
   ·rw[Zj (nfp b hb)];exact(f2 b hb).1
   ·have:b≠s2.heap.objs.size:=Zu (g2.sub b o z) fresh
    rw[Zj this];exact g2.sub b o z
   ·unfold Uh;simp only[List.length_append,List.length_replicate,List.length_map]
   ·obtain⟨k,j',d',rfl,ej,es,ed⟩:=Em z
    cases ed
    obtain⟨v,z1,z2⟩:=sr2.im j' d es
    refine⟨v,?_,z2⟩
    rw[List.getElem?_append_right (by simp),List.length_replicate,Nat.add_sub_cancel_left,List.getElem?_map,ej]
    simp[z1]
   ·have:∀r:M (List D),(r.bind fun fs=>.ok ([]++fs))=r:=fun r=>by cases r<;>simp
    rw[List.drop_zero,this]
    exact hq
 show codeAny (model X.prog X.w) X.A (.compStart (.ListComp elt [⟨tg,iter,[],0⟩] scope pos) 0 (.ref it) (.ref s2.heap.objs.size) (compEnvC scope cl (s2.heap.push Qz).objs.size X.env))
  (compPost (model X.prog X.w) X.A X.xe none (EP X pins σ Q) (.ref s2.heap.objs.size) (s2.heap.push Qz).objs.size) {s2 with heap:=h₁,toks:=s2.toks+([]:List (Str×Value)).length}
 rw[hC]
 exact codeAny_compStart_list (loop _ rfl) (T.self X.A 0 _ _ _ (T.keep 0 _ _ Za3 fun b hb o e=>hold1 b o e) (loop _ rfl))
def Zox {X:Cx}{Nc:List Str}{n0:Nat}{scope:Scope}(hn:Nc.length=n0)(h:∀y∈scope.names,y.2≠.cell/\y.2≠.free):CapOk X Nc n0 [] scope []:=by
 have key:∀(l:List (Str×NameKind)) (y:Str) (k:NameKind),(∀p∈l,p.2≠.cell/\p.2≠.free)->(l.map fun(n,k)=>if(k==NameKind.free&&X.env.scope.kind==.function&&X.env.kindOf n==some .cell) then(n,NameKind.cell) else(n,k)).lookup y=some k->k≠.cell/\k≠.free:=by
  intro l y k
  induction l with
  |nil=>intro _ e;cases e
  |cons p r ih=>
   intro hp e
   obtain⟨n,kk⟩:=p
   have h0:=hp (n,kk) List.mem_cons_self
   have hf:(kk==NameKind.free)=false:=by
    have:=h0.2
    cases kk<;>first|rfl|exact absurd rfl this
   rw[List.map_cons] at e
   simp only[hf,Bool.false_and,Bool.false_eq_true,if_false,List.lookup_cons] at e
   split at e
   ·cases e;exact h0
   ·exact ih (fun q hq=>hp q (List.mem_cons_of_mem _ hq)) e
 refine⟨fun y c e=>(nomatch e),fun y e=>?_,fun i j x _ e=>by simp at e,by simpa using hn⟩
 rcases e with e|e
 ·exact absurd rfl (key _ y _ h e).1
 ·exact absurd rfl (key _ y _ h e).2
section
variable {X:Cx}{E:XK}{pos:Pos}{a b:Expr}
def Tu (fs:Zf->M (List D))(sd:Zf):M (List D):=(fs sd).bind fun ds=>if few ds then .ok ds else .bad
def Vb {es:List Expr}{fs:Zf->M (List D)}(h:Tp X E es fs):Zjz X E (.List es pos) (Tu fs):=by
 obtain⟨t,p,q⟩:=h
 refine⟨_,D7 p,fun H0 B Hf sd σ H Q sr h=>?_⟩
 refine q H0 B Hf sd σ H _ sr (PoF.bind h fun ds vs Hf1 H1 _ g1 rs h1=>?_)
 split at h1
 ·rename_i hf
  refine⟨Uj hf rs,fun p hp=>h1 p vs Hf1 _ ⟨Same.refl _,g1.sub.trans (Z8 hp _),Z8 hp _,fun _ _ e=>e⟩ hp (g1.sub.free hp) Zo rs⟩
 ·exact h1.elim
def Cd (F:List D->M S)(fs:Zf->M (List D))(sd:Zf):M (List D):=(fs sd).bind fun ds=>match F ds with
 |.ok (.ow es)=>.ok es
 |_=>.bad
def Zca {k:Nat}{f:Addr}{fd:FuncData}{ps:List Str}{F:List D->M S}{x:Str}{p:Pos}{es:List Expr}{fs:Zf->M (List D)}(G:FnOk X.prog X.w X.K X.mg X.base Ye k f fd ps (Tl X.K F))(hr:Room k X.A)(hm:X.mg x=some (.ref f))(hk:PySem.W.keepIn X.K (.ref f)=true)(hb:Binds X.K fd ps [])(ha:Tp X E (a::es) fs)(hg:Gl X x:=by rfl) (hdb:(x==("__debug__":Str))=false:=by decide) (he:starEach (a::es) X.env=(false,eval a X.env)::starEach es X.env:=by rfl) (hpl:(backTo pos (starEach es X.env)).any (·.1)=false:=by rfl):
  Zjz X E (.Call (.Name x p) (a::es) [] pos) (Cd F fs):=by
 obtain⟨t,pt,qt⟩:=ha
 refine⟨_,Jy (dvs:=[]) (E:=E0) G hr hg hm hk hb .nil Jl pt hdb he hpl,fun H0 B Hf sd σ H Q sr h=>?_⟩
 refine qt H0 B Hf sd σ H _ sr (PoF.bind h fun ds vs Hf1 H1 _ g1 rs h1=>?_)
 split at h1
 ·rename_i es e
  refine⟨Hf1,ds,_,g1.sub,by rw[List.append_nil];exact rs,e,fun v Hf' H' g2 rv=>?_⟩
  obtain⟨p,rfl,e1,e2,xs,e3,e4⟩:=rv
  exact h1 p xs Hf' H' g2 e1 e2 e3 e4
 ·exact h1.elim
def PoS.bindF {K:PySem.W.Frag}{E:XK}{H0 Hf H:Hp}{B:Addr->Prop}{sd:Zf}{σ:L2.St}{r:M (List D)}{k:List D->M O}{D':Ends}{Q1:VK}(sr:SR K H0 B Hf sd σ H)(h:PoS K E H0 B Hf (r.bind k) D')(s:∀ds p xs Hf1 H1,r=.ok ds->Gr Hf H Hf1 H1->SR K H0 B Hf1 sd σ H1->H p=none->Hf1 p=none->H1 p=some (.lst xs)->Reps K Hf1 ds xs->PoS K E H0 B Hf1 (k ds) D'->Q1 (.ref p) H1):PoF K E Hf H r Q1:=by
 cases r with
 |ok ds=>exact fun p xs Hf' H' g e1 e2 e3 e4=>s ds p xs Hf' H' rfl g (sr.gr g) e1 e2 e3 e4 (PoS.weak g.fz h)
 |ex x=>exact fun c dx Hf' H' g q=>h c dx Hf' H' g.fz (sr.gr g).fin q
 |bad=>exact h
def SR.set_new {K:PySem.W.Frag}{H0 Hf H H1:Hp}{B:Addr->Prop}{sd:Zf}{σ:L2.St}(r0:SR K H0 B Hf sd σ H){Hf1:Hp}(r:SR K H0 B Hf1 sd σ H1)(g:Same H H1)(i:Nat){p:Addr}{t:S}(hp:H p=none)(hf:Hf1 p=none)(ho:t.own=true)(h:S.at K Hf1 H1 p t):
  SR K H0 B Hf1 (sd.set i (some t)) (σ.set i (some (.ref p))) H1 where
 sub:=r.sub
 all:=r.all
 ban:=r.ban
 bt:=r.bt
 len:=by rw[List.length_set,List.length_set];exact r.len
 imS:=fun j d' e z=>by
  by_cases hj:i=j
  ·subst hj
   have hi:i<sd.length:=by
    have:=(List.getElem?_eq_some_iff.mp e).1;simpa using this
   rw[List.getElem?_set_self hi] at e
   cases e
   rw[ho] at z;cases z
  ·rw[List.getElem?_set_ne hj] at e ⊢
   exact r.imS j d' e z
 ow:=fun j u e hu=>by
  by_cases hj:i=j
  ·subst hj
   have hi:i<sd.length:=by
    have:=(List.getElem?_eq_some_iff.mp e).1;simpa using this
   rw[List.getElem?_set_self hi] at e
   cases e
   exact⟨p,by rw[List.getElem?_set_self (by rw[<-r.len];exact hi)],r0.all.free hp,hf,h⟩
  ·rw[List.getElem?_set_ne hj] at e ⊢
   exact r.ow j u e hu
 sep:=fun j k u w q hjk e1 o1 e2 o2 e3 e4=>by
  have new:∀{l:Nat},i=l->(σ.set i (some (V.ref p)))[l]?=some (some (.ref q))->q=p:=fun {l} z e=>by
   subst z
   have hi:i<σ.length:=by
    have:=(List.getElem?_eq_some_iff.mp e).1;simpa using this
   rw[List.getElem?_set_self hi] at e
   cases e;rfl
  have old:∀{l:Nat}{u:S},i≠l->(sd.set i (some t))[l]?=some (some u)->u.own=true->(σ.set i (some (V.ref p)))[l]?=some (some (.ref q))->q≠p:=fun {l u} n e ou z=>by
   rw[List.getElem?_set_ne n] at e z
   obtain⟨q',e1,_,_,e4⟩:=r0.ow l u e ou
   rw[z] at e1
   cases e1
   obtain⟨o,eo⟩:=F5 e4
   exact Zu eo hp
  by_cases n1:i=j
  ·have n2:i≠k:=fun z=>hjk (n1.symm.trans z)
   exact old n2 e2 o2 e4 (new n1 e3)
  ·by_cases n2:i=k
   ·exact old n1 e1 o1 e3 (new n2 e4)
   ·rw[List.getElem?_set_ne n1] at e1 e3
    rw[List.getElem?_set_ne n2] at e2 e4
    exact r.sep j k u w q hjk e1 o1 e2 o2 e3 e4
def Nz (i:Nat)(f:Zf->M (List D))(sd:Zf):M O:=(f sd).bind fun ds=>.ok (.nx (sd.set i (some (.ow ds))))
def J2 (i:Nat){x:Str}{e:Expr}{f:Zf->M (List D)}{pos':Pos}(hN:X.N.Nodup)(h:Zjz X E e f)(hi:X.N[i]?=some x:=by rfl)(hx:Fv X.env.scope x:=by trivial)(hs:swapsWith e (some (.Name x pos')) pos.line X.env=pure false:=by rfl)(hf:X.fn x=true\/X.env.scope.names.lookup x=some .local:=by first|exact .inl rfl|exact .inr rfl|assumption):
  Ga X E (.Assign [.Name x pos'] e pos) (Nz i f):=by
 obtain⟨t,p,q⟩:=h
 refine⟨_,Kl hN hi hx p hs hf,fun H0 B Hf sd σ H D sr h=>?_⟩
 refine q H0 B Hf sd σ H _ sr (PoS.bindF sr h fun ds p xs Hf1 H1 _ g1 sr1 e1 e2 e3 e4 h1=>?_)
 exact h1 _ Hf1 H1 (Same.refl _) (sr.set_new sr1 g1.all i e1 e2 rfl ⟨xs,e3,e4⟩)
def Ur (i:Nat)(f:Zf->M D)(sd:Zf):M O:=match sd[i]? with
 |some (some (.ow ds))=>(f sd).bind fun d=>if few ds then .ok (.nx (sd.set i (some (.ow (ds++[d]))))) else .bad
 |_=>.bad
def Wg (i:Nat){x:Str}{e:Expr}{f:Zf->M D}{p1 p2 p3:Pos}(h:Yn X E e f)(hi:X.N[i]?=some x:=by rfl)(hv:Pz X.env.scope x:=by trivial)
  (hd:(x==("__debug__":Str))=false:=by decide) (hcd:(x==("__classdict__":Str))=false:=by decide)
  (hse:starEach [e] X.env=(false,eval e X.env)::starEach [] X.env:=by rfl)
  (hbase:attributeBase (.Name x p1) "append" X.env (eval (.Name x p1) X.env)=eval (.Name x p1) X.env:=by rfl)
  (hfew:((backTo p3 (starEach [e] X.env)).all (fun x=>!x.1)&&(backToKw p3 (keywordEach [] X.env)).all (fun x=>x.1.isSome)
   && decide ([e].length+([]:List Keyword).length+(if([]:List Keyword).isEmpty then 0 else 1)<30))=true:=by rfl)
  (hline:(p2.endLine==p3.line)=true:=by rfl) (hplain:(backTo p3 (starEach ([]:List Expr) X.env)).any (·.1)=false:=by rfl)
  (hsw:swapsWith (.Call (.Attribute (.Name x p1) "append" p2) [e] [] p3) none pos.line X.env=pure false:=by rfl):
  Ga X E (.Expr (.Call (.Attribute (.Name x p1) "append" p2) [e] [] p3) pos) (Ur i f):=by
 obtain⟨t,pt,q⟩:=h
 refine⟨_,U8 (Zbt PySem.F.plainAttrs_list PySem.F.slot_list_append PySem.F.type_list_append Wa (Z9 hi hv hd hcd) (Qk pt Xz hse) hbase hfew hline hse hplain) hsw,fun H0 B Hf sd σ H D sr h=>?_⟩
 unfold Ur at h
 split at h
 ·rename_i ds ei
  obtain⟨p,z1,z2,z3,xs,z4,z5⟩:=sr.ow i _ ei rfl
  refine⟨_,z1,.inl ⟨rfl,xs,SqL.of z4⟩,?_⟩
  refine q H0 B Hf sd σ H _ sr (PoS.bind sr h fun d v Hf1 H1 _ g1 sr1 rv h1=>?_)
  split at h1
  ·rename_i hf
   have z5':=z5.mono g1.fz
   have hl:xs.length<sizeLine:=by
    have h1:=of_decide_eq_true hf
    have h2:=sizeLine_eq
    rw[<-z5.length,h2];lia
   refine⟨p,xs,v,rfl,rfl,g1.all _ _ z4,hl,?_⟩
   exact h1 _ Hf1 _ (Same.refl _) (sr1.change ei rfl z1 rfl ⟨_,Zo,z5'.append (Reps.cons rv Reps.nil)⟩)
  ·exact h1.elim
 ·exact h.elim
def L1 (i:Nat)(sd:Zf):M O:=match sd[i]? with
 |some (some (.ow ds))=>.ok (.rt (.ow ds))
 |_=>.bad
def Us (i:Nat){x:Str}{p1:Pos}(hi:X.N[i]?=some x:=by rfl)(hv:Pz X.env.scope x:=by trivial)
  (hd:(x==("__debug__":Str))=false:=by decide) (hcd:(x==("__classdict__":Str))=false:=by decide):Ga X E (.Return (some (.Name x p1)) pos) (L1 i):=by
 refine⟨_,Nl (Z9 hi hv hd hcd),fun H0 B Hf sd σ H D sr h=>?_⟩
 unfold L1 at h
 split at h
 ·rename_i ds ei
  obtain⟨p,z1,z2,z3,z4⟩:=sr.ow i _ ei rfl
  exact⟨_,z1,h _ Hf H (Same.refl _) sr.fin ⟨p,rfl,z2,z3,z4⟩⟩
 ·exact h.elim
def frz (i:Nat)(sd:Zf):Zf:=match sd[i]? with
 |some (some (.ow ds))=>sd.set i (some (.im (.lst ds)))
 |_=>sd
def Ce (i:Nat)(f:Zf->M O)(sd:Zf):M O:=f (frz i sd)
def Rf (i:Nat){st:List Stmt}{f:Zf->M O}(h:Nr X E st f):Nr X E st (Ce i f):=by
 obtain⟨t,p,q⟩:=h
 refine⟨t,p,fun H0 B Hf sd σ H D sr h=>?_⟩
 unfold Ce frz at h
 split at h
 ·rename_i ds ei
  obtain⟨Hf',e,sr'⟩:=sr.freeze ei
  exact q H0 B Hf' _ σ H D sr' (PoS.weak e h)
 ·exact q H0 B Hf sd σ H D sr h
theorem Ut {Xc:Cx}{pins:List (Addr×Obj)}{σ:L2.St}{H:Hp}{s:Shared}(I:Inv Xc pins σ H s)(dx:D)(e:Value->Bool)(he:∀d v u,Rep Xc.K H d v->RelV v u->e u=D.eq d dx):
  ∀{ds:List D}{xs:List V}{us:List Value},Reps Xc.K H ds xs->Vals xs us->us.any e=ds.any fun d=>D.eq d dx
 |[],xs,us,r,v=>by
  rw[reps_nil.mp r] at v
  cases v
  rfl
 |d::ds,xs,us,r,v=>by
  obtain⟨x,xr,rfl,r1,r2⟩:=reps_cons.mp r
  cases v with
  |cons v1 v2=>rw[List.any_cons,List.any_cons,he d x _ r1 v1,Ut I dx e he r2 v2]
def Cf {Xc:Cx}{H:Hp}{ds:List D}:∀{xs:List V}{us:List Value}{u:Value},Reps Xc.K H ds xs->Vals xs us->u∈us->∃d v,d∈ds/\Rep Xc.K H d v/\RelV v u:=by
 induction ds with
 |nil=>
  intro xs us u r v hu
  rw[reps_nil.mp r] at v
  cases v
  cases hu
 |cons d ds ih=>
  intro xs us u r v hu
  obtain⟨x,xr,rfl,r1,r2⟩:=reps_cons.mp r
  cases v with
  |cons v1 v2=>
   rcases List.mem_cons.mp hu with rfl|hu
   ·exact⟨d,x,List.mem_cons_self,r1,v1⟩
   ·obtain⟨d',v',h1,h2,h3⟩:=ih r2 v2 hu
    exact⟨d',v',List.mem_cons_of_mem _ h1,h2,h3⟩
def D1 (dx:D)(ds:List D):Bool:=ds.any fun d=>D.eq d dx
def Zmn (K:PySem.W.Frag)(neg:Bool):R2:=fun x y H Q=>∃dx ds,Rep K H dx x/\(Rep K H (.lst ds) y\/Rep K H (.tup ds) y)/\D.deps ds<=60/\Q (.bl (if neg then !D1 dx ds else D1 dx ds)) H
theorem Sc:∀{ds:List D}{d:D},d∈ds->d.dep<=D.deps ds
 |e::ds,d,h=>by
  rw[D.deps]
  rcases List.mem_cons.mp h with rfl|h
  ·lia
  ·have:=Sc h;lia
open Classical in
theorem Zj1 (hu:X.A.units+64<cLine):OpR X (compareOp .In) (Zmn X.K false):=by
 intro pins s σ H x y v u Q I rx ry h
 obtain⟨dx,ds,hx,hy,hd,q⟩:=h
 let e:Value->Bool:=fun u=>decide (∃d v,Rep X.K H d v/\RelV v u/\D.eq d dx=true)
 have he:∀d v u,Rep X.K H d v->RelV v u->e u=D.eq d dx:=fun d v u r1 r2=>by
  cases z:D.eq d dx with
  |true=>exact decide_eq_true ⟨d,v,r1,r2,z⟩
  |false=>
   refine decide_eq_false ?_
   rintro⟨d',v',a1,a2,a3⟩
   have e1:v'=v:=RelV.inj a2 r2
   subst e1
   rw[Gi I d d' _ r1 a1,a3] at z
   cases z
 have each:∀{xs:List V}{us:List Value},Reps X.K H ds xs->Vals xs us->∀w∈us,SeqAt.EqAt X.A.in1 s w v (e w):=fun {xs us} r1 r2 w hw=>by
  obtain⟨d,z,m1,m2,m3⟩:=Cf r1 r2 hw
  rw[he d z w m2 m3]
  refine(R6 I d dx X.A.in1 z x w v ?_ m2 hx m3 rx).eq
  have:=Sc m1
  show X.A.units+1+_<_
  lia
 rcases hy with hy|hy
 ·obtain⟨p,xs,rfl,hp,hr⟩:=rep_lst.mp hy
  cases ry
  obtain⟨its,r,pl,hz⟩:=I.list hp
  refine SeqAt.in_listAt e pl.isList (fun w hw=>each hr r w (by simpa using hw)) ⟨.bl _,H,I,rfl,?_⟩
  rw[show its.toArray.any e=its.any e by simp,Ut I dx e he hr r]
  exact q
 ·obtain⟨p,xs,rfl,hp,hr⟩:=Qc hy
  cases ry
  obtain⟨its,r,pl,hz⟩:=I.tuple hp
  refine SeqAt.in_tupleAt e pl (fun w hw=>each hr r w (by simpa using hw)) ⟨.bl _,H,I,rfl,?_⟩
  rw[show its.toArray.any e=its.any e by simp,Ut I dx e he hr r]
  exact q
open Classical in
theorem O7 (hu:X.A.units+64<cLine):OpR X (compareOp .NotIn) (Zmn X.K true):=by
 intro pins s σ H x y v u Q I rx ry h
 obtain⟨dx,ds,hx,hy,hd,q⟩:=h
 let e:Value->Bool:=fun u=>decide (∃d v,Rep X.K H d v/\RelV v u/\D.eq d dx=true)
 have he:∀d v u,Rep X.K H d v->RelV v u->e u=D.eq d dx:=fun d v u r1 r2=>by
  cases z:D.eq d dx with
  |true=>exact decide_eq_true ⟨d,v,r1,r2,z⟩
  |false=>
   refine decide_eq_false ?_
   rintro⟨d',v',a1,a2,a3⟩
   have e1:v'=v:=RelV.inj a2 r2
   subst e1
   rw[Gi I d d' _ r1 a1,a3] at z
   cases z
 have each:∀{xs:List V}{us:List Value},Reps X.K H ds xs->Vals xs us->∀w∈us,SeqAt.EqAt X.A.in1 s w v (e w):=fun {xs us} r1 r2 w hw=>by
  obtain⟨d,z,m1,m2,m3⟩:=Cf r1 r2 hw
  rw[he d z w m2 m3]
  refine(R6 I d dx X.A.in1 z x w v ?_ m2 hx m3 rx).eq
  have:=Sc m1
  show X.A.units+1+_<_
  lia
 rcases hy with hy|hy
 ·obtain⟨p,xs,rfl,hp,hr⟩:=rep_lst.mp hy
  cases ry
  obtain⟨its,r,pl,hz⟩:=I.list hp
  refine SeqAt.notIn_listAt e pl.isList (fun w hw=>each hr r w (by simpa using hw)) ⟨.bl _,H,I,rfl,?_⟩
  rw[show its.toArray.any e=its.any e by simp,Ut I dx e he hr r]
  exact q
 ·obtain⟨p,xs,rfl,hp,hr⟩:=Qc hy
  cases ry
  obtain⟨its,r,pl,hz⟩:=I.tuple hp
  refine SeqAt.notIn_tupleAt e pl (fun w hw=>each hr r w (by simpa using hw)) ⟨.bl _,H,I,rfl,?_⟩
  rw[show its.toArray.any e=its.any e by simp,Ut I dx e he hr r]
  exact q
def Zft:D->D->M D
 |x,.lst ds=>if D.deps ds<=60 then .ok (.bl (D1 x ds)) else .bad
 |x,.tup ds=>if D.deps ds<=60 then .ok (.bl (D1 x ds)) else .bad
 |_,_=>.bad
def N0:D->D->M D
 |x,.lst ds=>if D.deps ds<=60 then .ok (.bl (!D1 x ds)) else .bad
 |x,.tup ds=>if D.deps ds<=60 then .ok (.bl (!D1 x ds)) else .bad
 |_,_=>.bad
def Zcb (hu:X.A.units+64<cLine):Nt X E (compareOp .In) Zft:=by
 refine⟨_,Zj1 hu,fun Hf H x y dx dy Q e rx ry q=>?_⟩
 unfold Zft at q
 split at q
 ·split at q
  ·rename_i hd
   exact⟨_,_,rx.mono e,.inl (ry.mono e),hd,Po.ret e q (rep_bl.mpr rfl)⟩
  ·exact q.elim
 ·split at q
  ·rename_i hd
   exact⟨_,_,rx.mono e,.inr (ry.mono e),hd,Po.ret e q (rep_bl.mpr rfl)⟩
  ·exact q.elim
 ·exact q.elim
def Zcc (hu:X.A.units+64<cLine):Nt X E (compareOp .NotIn) N0:=by
 refine⟨_,O7 hu,fun Hf H x y dx dy Q e rx ry q=>?_⟩
 unfold N0 at q
 split at q
 ·split at q
  ·rename_i hd
   exact⟨_,_,rx.mono e,.inl (ry.mono e),hd,Po.ret e q (rep_bl.mpr rfl)⟩
  ·exact q.elim
 ·split at q
  ·rename_i hd
   exact⟨_,_,rx.mono e,.inr (ry.mono e),hd,Po.ret e q (rep_bl.mpr rfl)⟩
  ·exact q.elim
 ·exact q.elim
def D.isN:D->Bool
 |.non=>true
 |_=>false
def Zfu:D->D->M D
 |x,.non=>.ok (.bl x.isN)
 |_,_=>.bad
def J3:D->D->M D
 |x,.non=>.ok (.bl (!x.isN))
 |_,_=>.bad
def Ha {K:PySem.W.Frag}{H:Hp}{d:D}{v:V}(r:Rep K H d v):decide (v=.non)=d.isN:=by
 cases d with
 |non=>rw[rep_non.mp r];rfl
 |bl b=>rw[rep_bl.mp r];rfl
 |int b=>rw[rep_int.mp r];rfl
 |str b=>rw[rep_str.mp r];rfl
 |tup b=>obtain⟨_,_,e,_⟩:=rep_tup.mp r;rw[e];rfl
 |lst b=>obtain⟨_,_,e,_⟩:=rep_lst.mp r;rw[e];rfl
def Zcd:Nt X E (compareOp .Is) Zfu:=by
 refine⟨_,Zjb,fun Hf H x y dx dy Q e rx ry q=>?_⟩
 unfold Zfu at q
 split at q
 ·exact⟨rep_non.mp ry,Po.ret e q (by rw[Ha rx];exact rep_bl.mpr rfl)⟩
 ·exact q.elim
def N2:Nt X E (compareOp .IsNot) J3:=by
 refine⟨_,Ze3,fun Hf H x y dx dy Q e rx ry q=>?_⟩
 unfold J3 at q
 split at q
 ·exact⟨rep_non.mp ry,Po.ret e q (by rw[Ha rx];exact rep_bl.mpr rfl)⟩
 ·exact q.elim
end
section
variable {X:Cx}{pins:List (Addr×Obj)}{σ:L2.St}{H:Hp}{s:Shared}{h':Heap}{t':Nat}{fp:List Addr}
def _root_.L2.Inv.turnedT {T:Addr}{o:HO}(I:Inv X pins σ H s)(hf:∀b∈fp,P0 X pins H b)(k:∀b u,b ∉ fp->s.heap.get? b=some u->h'.get? b=some u)(hT:s.heap.objs.size<=T)(new:ObjOk X.prog X.w (upd H T o) h' T o):
  Inv X pins σ (upd H T o) {s with heap:=h',toks:=t'}:=by
 have hn:=I.hok.fresh hT
 have ne:∀b u,s.heap.get? b=some u->b≠T:=fun b u e=>Nat.ne_of_lt (Nat.lt_of_lt_of_le (Heap.lt_size e) hT)
 refine I.step (g':=s.gens) (d':=s.drawn) (ch:=fp) (fun b hb=>?_) (fun b u _ _ hc e _=>k b u hc e) (fun b u _ _ hc e _=>⟨u.slots,k b u hc e⟩) (fun b u _ e n=>by rw[Zj (ne b u e)];exact n) (fun b u hc e=>⟨u,k b u hc e⟩)
  (fun b xs e=>by rw[Zj (Zu e hn)];exact e) (fun b u xs e=>by rw[Zj (Zu e hn)];exact e) (fun b l c q e=>by rw[Zj (Zu e hn)];exact e) (fun m hm=>?_) (fun b u e=>?_) I.bare
 ·obtain⟨f0,f1,f2,f3,f4,f5⟩:=hf b hb
  exact⟨f3,f1,f4,f5⟩
 ·obtain⟨ob,es,ep,ho,r⟩:=hm
  exact⟨ob,es,ep,k _ ob (fun z=>(hf _ z).2.1 rfl) ho,r⟩
 ·by_cases hb:b=T
  ·subst hb;rw[Zo] at e;cases e;exact new
  ·rw[Zj hb] at e
   have nf:∀c v,H c=some v->c ∉ fp:=fun c v e z=>by rw[(hf c z).1] at e;cases e
   refine(I.hok b u e).stay (fun c v hc q=>k c v ?_ q) (fun c q=>by rw[Zj (Zu q hn)];exact q) (fun c xs q=>by rw[Zj (Zu q hn)];exact q) fun c _ _ q=>by rw[Zj (Zu q hn)];exact q
   rcases hc with rfl|hc
   ·exact nf _ _ e
   ·exact nf _ _ hc
def _root_.L2.Inv.turnedF (I:Inv X pins σ H s)(hf:∀b∈fp,P0 X pins H b)(k:∀b u,b ∉ fp->s.heap.get? b=some u->h'.get? b=some u):Inv X pins σ H {s with heap:=h',toks:=t'}:=by
 refine I.step (g':=s.gens) (d':=s.drawn) (ch:=fp) (fun b hb=>?_) (fun b u _ _ hc e _=>k b u hc e) (fun b u _ _ hc e _=>⟨u.slots,k b u hc e⟩) (fun b u _ e n=>n) (fun b u hc e=>⟨u,k b u hc e⟩)
  (fun b xs e=>e) (fun b u xs e=>e) (fun _ _ _ _ e=>e) (fun m hm=>?_) (fun b u e=>?_) I.bare
 ·obtain⟨f0,f1,f2,f3,f4,f5⟩:=hf b hb
  exact⟨f3,f1,f4,f5⟩
 ·obtain⟨ob,es,ep,ho,r⟩:=hm
  exact⟨ob,es,ep,k _ ob (fun z=>(hf _ z).2.1 rfl) ho,r⟩
 ·have nf:∀c v,H c=some v->c ∉ fp:=fun c v e z=>by rw[(hf c z).1] at e;cases e
  refine(I.hok b u e).stay (fun c v hc q=>k c v ?_ q) (fun c q=>q) (fun c xs q=>q) fun _ _ _ q=>q
  rcases hc with rfl|hc
  ·exact nf _ _ e
  ·exact nf _ _ hc
end
structure ZA (z TI TO i1 i2:Addr):Prop where
 TIz:TI≠z
 TOz:TO≠z
 i1z:i1≠z
 i2z:i2≠z
 TITO:TI≠TO
 TIi1:TI≠i1
 TIi2:TI≠i2
 TOi1:TO≠i1
 TOi2:TO≠i2
 i12:i1≠i2
def Zp2 (n:Nat):ZA (n+4) (n+2) (n+3) n (n+1):=
 ⟨Nat.ne_of_lt (by lia),Nat.ne_of_lt (by lia),Nat.ne_of_lt (by lia),Nat.ne_of_lt (by lia),Nat.ne_of_lt (by lia),Nat.ne_of_gt (by lia),Nat.ne_of_gt (by lia),Nat.ne_of_gt (by lia),Nat.ne_of_gt (by lia),Nat.ne_of_lt (by lia)⟩
section
variable {X:Cx}{E:XK}{pos p p2:Pos}{es:List Expr}{k:Nat}
def Zfv:List D->List D->List D:=List.zipWith fun x y=>.tup [x,y]
def Zce (xs ys:List D)(i:Nat):(Zfv xs ys)[i]?=match xs[i]?,ys[i]? with
  |some x,some y=>some (.tup [x,y])
  |_,_=>none:=by
 unfold Zfv
 rw[List.getElem?_zipWith]
 cases xs[i]?<;>cases ys[i]?<;>rfl
end
def Zfw:D->Option Yh
 |.int i=>some (.inl i)
 |.str x=>some (.inr x)
 |_=>none
def Kr:List D->Option (List Yh)
 |[]=>some []
 |d::r=>match Zfw d,Kr r with
  |some k,some ks=>some (k::ks)
  |_,_=>none
def Zcf {K:PySem.W.Frag}{H:Hp}{d:D}{k:Yh}{v:V}(e:Zfw d=some k)(r:Rep K H d v):v=kV k:=by
 cases d with
 |int i=>cases e;exact rep_int.mp r
 |str x=>cases e;exact rep_str.mp r
 |non=>cases e
 |bl _=>cases e
 |tup _=>cases e
 |lst _=>cases e
theorem Se {K:PySem.W.Frag}{H:Hp}:∀{ds:List D}{ks:List Yh}{vs:List V},Kr ds=some ks->Reps K H ds vs->vs=ks.map kV
 |[],ks,vs,e,r=>by cases e;rw[reps_nil.mp r];rfl
 |d::ds,ks,vs,e,r=>by
  obtain⟨x,xr,rfl,r1,r2⟩:=reps_cons.mp r
  unfold Kr at e
  split at e
  ·rename_i k ks' e1 e2
   cases e
   rw[Zcf e1 r1,Se e2 r2]
   rfl
  ·cases e
def Zcg {κ:Type}[DecidableEq κ](kvs:List (κ×D))(k:κ)(d:D):List (κ×D):=
 if(kvs.any fun kv=>decide (kv.1=k))=true then kvs.map (fun kv=>if kv.1=k then(kv.1,d) else kv) else kvs++[(k,d)]
def Yu {κ:Type}[DecidableEq κ](kvs:List (κ×D))(k:κ):Option D:=(kvs.find? fun kv=>decide (kv.1=k)).map (·.2)
section
variable {κ:Type} [DecidableEq κ]
variable {K:PySem.W.Frag}{H:Hp}
theorem RepKV.any {kvs:List (κ×D)}{ys:List (κ×V)}(r:RepKV K H kvs ys)(k:κ):(kvs.any fun kv=>decide (kv.1=k))=(ys.any fun kv=>decide (kv.1=k)):=by
 unfold RepKV at r
 induction r with
 |nil=>rfl
 |cons h t ih=>rw[List.any_cons,List.any_cons,ih,h.1]
def RepKV.get {kvs:List (κ×D)}{ys:List (κ×V)}(r:RepKV K H kvs ys)(k:κ){d:D}(e:Yu kvs k=some d):∃v,Xo ys k=some v/\Rep K H d v:=by
 unfold RepKV at r
 induction r with
 |nil=>cases e
 | @cons p q ps qs h t ih=>
  by_cases hk:p.1=k
  ·have e1:Yu (p::ps) k=some p.2:=by simp[Yu,List.find?_cons,hk]
   rw[e1] at e
   cases e
   exact⟨q.2,Y2 (h.1▸hk),h.2⟩
  ·have e1:Yu (p::ps) k=Yu ps k:=by simp[Yu,List.find?_cons,hk]
   rw[e1] at e
   obtain⟨v,h1,h2⟩:=ih e
   exact⟨v,by rw[Ys (fun z=>hk (h.1.trans z))];exact h1,h2⟩
theorem RepKV.none {kvs:List (κ×D)}{ys:List (κ×V)}(r:RepKV K H kvs ys)(k:κ)(e:Yu kvs k=.none):Xo ys k=.none:=by
 unfold RepKV at r
 induction r with
 |nil=>rfl
 | @cons p q ps qs h t ih=>
  by_cases hk:p.1=k
  ·have e1:Yu (p::ps) k=some p.2:=by simp[Yu,List.find?_cons,hk]
   rw[e1] at e
   cases e
  ·have e1:Yu (p::ps) k=Yu ps k:=by simp[Yu,List.find?_cons,hk]
   rw[e1] at e
   rw[Ys (fun z=>hk (h.1.trans z))];exact ih e
def RepKV.repl {kvs:List (κ×D)}{ys:List (κ×V)}(r:RepKV K H kvs ys)(k:κ){d:D}{v:V}(h:Rep K H d v):RepKV K H (kvs.map fun kv=>if kv.1=k then(kv.1,d) else kv) (ys.map fun kv=>if kv.1=k then(kv.1,v) else kv):=by
 unfold RepKV at r ⊢
 induction r with
 |nil=>exact .nil
 | @cons p q ps qs hp t ih=>
  refine .cons ?_ ih
  show(if p.1=k then(p.1,d) else p).1=(if q.1=k then(q.1,v) else q).1/\Rep K H (if p.1=k then(p.1,d) else p).2 (if q.1=k then(q.1,v) else q).2
  by_cases hk:p.1=k
  ·rw[if_pos hk,if_pos (hp.1▸hk)];exact⟨hp.1,h⟩
  ·rw[if_neg hk,if_neg (fun z=>hk (hp.1.trans z))];exact hp
def RepKV.put {kvs:List (κ×D)}{ys:List (κ×V)}(r:RepKV K H kvs ys)(k:κ){d:D}{v:V}(h:Rep K H d v):RepKV K H (Zcg kvs k d) (Jg ys k v):=by
 unfold Zcg Jg
 rw[r.any k]
 split
 ·exact r.repl k h
 ·exact Paired.snoc r ⟨rfl,h⟩
theorem RepKV.length {kvs:List (κ×D)}{ys:List (κ×V)}(r:RepKV K H kvs ys):kvs.length=ys.length:=Paired.length r
end
section
variable {X:Cx}{E:XK}{pos p1 p2 pos':Pos}{key value:Expr}{x:Str}
def Bj {K:PySem.W.Frag}{Hf H:Hp}{ds:List D}{ks:List Yh}{y:V}(e:Kr ds=some ks)(sub:Same Hf H)(r:Rep K Hf (.tup ds) y):∃b,y=.ref b/\H b=some (.tup (ks.map kV)):=by
 obtain⟨b,xs,rfl,hb,hr⟩:=rep_tup.mp r
 rw[Se e hr] at hb
 exact⟨b,rfl,sub _ _ hb⟩
end
def Zh4:D->Bool
 |.non=>true
 |.bl _=>true
 |.int _=>true
 |.str _=>true
 |_=>false
def Zch {K:PySem.W.Frag}{H H':Hp}{d:D}{v:V}(h:Zh4 d=true)(r:Rep K H d v):Rep K H' d v:=by
 cases d with
 |non=>exact rep_non.mpr (rep_non.mp r)
 |bl _=>exact rep_bl.mpr (rep_bl.mp r)
 |int _=>exact rep_int.mpr (rep_int.mp r)
 |str _=>exact rep_str.mpr (rep_str.mp r)
 |tup _=>cases h
 |lst _=>cases h
def Hc (i:Nat)(f:Zf->M D)(sd:Zf):M D:=match f (frz i sd) with
 |.ok d=>if Zh4 d then .ok d else .bad
 |_=>.bad
def Pq (i:Nat)(f:Zf->M Bool)(sd:Zf):M Bool:=match f (frz i sd) with
 |.ok b=>.ok b
 |_=>.bad
section
variable {X:Cx}{E:XK}{e:Expr}
def Zci {K:PySem.W.Frag}{H0 Hf H:Hp}{B:Addr->Prop}{sd:Zf}{σ:L2.St}(sr:SR K H0 B Hf sd σ H)(i:Nat):∃Hf',Same Hf Hf'/\SR K H0 B Hf' (frz i sd) σ H:=by
 unfold frz
 split
 ·rename_i ds ei
  exact sr.freeze ei
 ·exact⟨Hf,Same.refl _,sr⟩
def Zfx (i:Nat){f:Zf->M D}(h:Yn X E e f):Yn X E e (Hc i f):=by
 obtain⟨t,p,q⟩:=h
 refine⟨t,p,fun H0 B Hf sd σ H Q sr h=>?_⟩
 obtain⟨Hf',e1,sr'⟩:=Zci sr i
 refine q H0 B Hf' _ σ H Q sr' ?_
 unfold Hc at h
 cases ef:f (frz i sd) with
 |ok d=>
  rw[ef] at h
  dsimp only at h
  split at h
  ·rename_i hfl
   exact fun v Hf2 H2 g r=>h v Hf H2 ⟨Same.refl _,sr.sub.trans g.all,g.all,fun _ _ z=>z⟩ (Zch hfl r)
  ·exact h.elim
 |ex x=>rw[ef] at h;exact h.elim
 |bad=>rw[ef] at h;exact h.elim
def Zcj (i:Nat){f:Zf->M Bool}(h:Ls X E e f):Ls X E e (Pq i f):=by
 obtain⟨t,p,q⟩:=h
 refine⟨t,p,fun H0 B Hf sd σ H Q sr h=>?_⟩
 obtain⟨Hf',e1,sr'⟩:=Zci sr i
 refine q H0 B Hf' _ σ H Q sr' ?_
 unfold Pq at h
 cases ef:f (frz i sd) with
 |ok d=>
  rw[ef] at h
  exact fun v Hf2 H2 g r=>h v Hf H2 ⟨Same.refl _,sr.sub.trans g.all,g.all,fun _ _ z=>z⟩ r
 |ex x=>rw[ef] at h;exact h.elim
 |bad=>rw[ef] at h;exact h.elim
end
def N3 (cells:List (Str×Addr)):List (Str×NameKind)->List (Str×Addr)->List (Str×Addr)
 |[],acc=>acc
 |(n,k)::r,acc=>if k==NameKind.free then(match cells.lookup n with
  |some c=>N3 cells r ((n,c)::acc)
  |none=>N3 cells r acc) else N3 cells r acc
theorem Gn (cells:List (Str×Addr)):∀(names:List (Str×NameKind)) (acc:List (Str×Addr)),(∀p∈acc,cells.lookup p.1=some p.2)->∀p∈N3 cells names acc,cells.lookup p.1=some p.2
 |[],acc,h=>h
 |(n,k)::r,acc,h=>by
  unfold N3
  split
  ·split
   ·rename_i c hc
    refine Gn cells r _ fun p hp=>?_
    rcases List.mem_cons.mp hp with rfl|hp
    ·exact hc
    ·exact h p hp
   ·exact Gn cells r acc h
  ·exact Gn cells r acc h
theorem Wh (cells:List (Str×Addr)):∀(names:List (Str×NameKind)) (acc:List (Str×Addr)),∀p∈acc,p∈N3 cells names acc
 |[],acc,p,h=>h
 |(n,k)::r,acc,p,h=>by
  unfold N3
  split
  ·split
   ·exact Wh cells r _ p (List.mem_cons_of_mem _ h)
   ·exact Wh cells r acc p h
  ·exact Wh cells r acc p h
theorem Go (cells:List (Str×Addr)):∀(names:List (Str×NameKind)) (acc:List (Str×Addr)) (n:Str) (c:Addr),(n,NameKind.free)∈names->cells.lookup n=some c->(n,c)∈N3 cells names acc
 |[],_,_,_,h,_=>by cases h
 |(m,k)::r,acc,n,c,h,hc=>by
  unfold N3
  rcases List.mem_cons.mp h with h|h
  ·cases h
   rw[if_pos (by decide),hc]
   exact Wh cells r _ _ List.mem_cons_self
  ·split
   ·split
    ·exact Go cells r _ n c h hc
    ·exact Go cells r _ n c h hc
   ·exact Go cells r _ n c h hc
def Sf {β:Type}:∀{l:List (Str×β)}{n:Str}{c:β},l.lookup n=some c->(n,c)∈l:=fun h=>PySem.mem_of_lookup h
theorem Pr {β:Type}:∀{l:List (Str×β)}{n:Str}{c:β},(n,c)∈l->∃d,l.lookup n=some d
 |[],_,_,h=>by cases h
 |(m,d)::r,n,c,h=>by
  rw[List.lookup_cons]
  by_cases e:n=m
  ·subst e;exact⟨d,by simp⟩
  ·have e':(n==m)=false:=beq_eq_false_iff_ne.mpr e
   rw[e']
   rcases List.mem_cons.mp h with h|h
   ·cases h;exact absurd rfl e
   ·exact Pr h
def Wv {scope:Scope}{env:Env}(h:∀y∈scope.names,y.2=.free->∃c,env.cells.lookup y.1=some c):closureFor scope env=pure (N3 env.cells scope.names []):=by
 have key:∀(names:List (Str×NameKind)) (acc:List (Str×Addr)),(∀y∈names,y.2=.free->∃c,env.cells.lookup y.1=some c) ->
   (forIn names acc fun(x:Str×NameKind) (cs:List (Str×Addr))=>(do
    if x.2==.free then
     let c <-cellOf env x.1
     pure (ForInStep.yield ((x.1,c)::cs))
    else pure (ForInStep.yield cs):Sem _))=pure (N3 env.cells names acc):=by
  intro names
  induction names with
  |nil=>intro acc _;rfl
  |cons y r ih=>
   intro acc hy
   obtain⟨n,k⟩:=y
   rw[List.forIn_cons]
   unfold N3
   by_cases hk:(k==NameKind.free)=true
   ·obtain⟨c,hc⟩:=hy (n,k) List.mem_cons_self (by simpa using hk)
    have e1:cellOf env n=pure c:=by unfold cellOf;rw[hc]
    simp only[hk,if_true,e1,hc,pure_bind]
    exact ih _ fun z hz=>hy z (List.mem_cons_of_mem _ hz)
   ·simp only[hk,Bool.false_eq_true,if_false,pure_bind]
    exact ih _ fun z hz=>hy z (List.mem_cons_of_mem _ hz)
 have e:=key scope.names [] h
 unfold closureFor
 simp only[bind_pure]
 exact e
def Zj2 {X:Cx}{Nc:List Str}{n0:Nat}{caps:List Nat}{scope sc:Scope}(hsc:X.env.scope=sc)(hkf:sc.kind=.function)(hcell:∀y∈scope.names,y.2≠.cell)(hfree:∀y∈scope.names,y.2=.free->sc.names.lookup y.1=some .cell)(hcl:∀y∈scope.names,y.2=.free->∃c,X.env.cells.lookup y.1=some c)(hl:Nc.length=n0+caps.length)(hcap:∀(i j:Nat) (x:Str),Nc[n0+i]?=some x->caps[i]?=some j->X.N[j]?=some x/\scope.names.lookup x=some .free):CapOk X Nc n0 caps scope (N3 X.env.cells scope.names []):=by
 have frees:∀(l:List (Str×NameKind)) (y:Str),(∀p∈l,p.2≠.cell)->(∀p∈l,p.2=.free->sc.names.lookup p.1=some .cell) ->
   ((l.map fun(n,k)=>if(k==NameKind.free&&X.env.scope.kind==.function&&X.env.kindOf n==some .cell) then(n,NameKind.cell) else(n,k)).lookup y=some .cell\/(l.map fun(n,k)=>if(k==NameKind.free&&X.env.scope.kind==.function&&X.env.kindOf n==some .cell) then(n,NameKind.cell) else(n,k)).lookup y=some .free)->(y,NameKind.free)∈l:=by
  intro l y
  induction l with
  |nil=>intro _ _ e;rcases e with e|e<;>cases e
  |cons p r ih=>
   intro h1 h2 e
   obtain⟨n,k⟩:=p
   have c1:=h1 (n,k) List.mem_cons_self
   rw[List.map_cons,List.lookup_cons] at e
   have hfst:(if(k==NameKind.free&&X.env.scope.kind==.function&&X.env.kindOf n==some .cell) then(n,NameKind.cell) else(n,k)).1=n:=by split<;>rfl
   by_cases ey:y=n
   ·subst ey
    simp only[hfst,beq_self_eq_true] at e
    by_cases hk:k=.free
    ·subst hk;exact List.mem_cons_self
    ·have hk':(k==NameKind.free)=false:=beq_eq_false_iff_ne.mpr hk
     simp only[hk',Bool.false_and,Bool.false_eq_true,if_false] at e
     rcases e with e|e
     ·cases e;exact absurd rfl c1
     ·cases e;exact absurd rfl hk
   ·have ey':(y==n)=false:=beq_eq_false_iff_ne.mpr ey
    simp only[hfst,ey'] at e
    exact List.mem_cons_of_mem _ (ih (fun p hp=>h1 p (List.mem_cons_of_mem _ hp)) (fun p hp=>h2 p (List.mem_cons_of_mem _ hp)) e)
 refine⟨fun y c e=>Gn _ _ [] (fun p hp=>by cases hp) _ (Sf e),fun y e=>?_,fun i j x e1 e2=>?_,hl⟩
 ·have hm:=frees scope.names y hcell hfree e
  obtain⟨c,hc⟩:=hcl _ hm rfl
  obtain⟨d,hd⟩:=Pr (Go X.env.cells scope.names [] y c hm hc)
  exact⟨d,hd⟩
 ·obtain⟨a1,a2⟩:=hcap i j x e1 e2
  have a3:=hfree _ (Sf a2) rfl
  refine⟨a1,by rw[hsc];exact a3,?_⟩
  have rl:∀(l:List (Str×NameKind)),l.lookup x=some .free->(l.map fun(n,k)=>if(k==NameKind.free&&X.env.scope.kind==.function&&X.env.kindOf n==some .cell) then(n,NameKind.cell) else(n,k)).lookup x=some .cell:=by
   intro l
   induction l with
   |nil=>intro e;cases e
   |cons p r ih=>
    intro e
    obtain⟨n,k⟩:=p
    rw[List.map_cons,List.lookup_cons]
    rw[List.lookup_cons] at e
    have hfst:(if(k==NameKind.free&&X.env.scope.kind==.function&&X.env.kindOf n==some .cell) then(n,NameKind.cell) else(n,k)).1=n:=by split<;>rfl
    by_cases ex:x=n
    ·subst ex
     simp only[beq_self_eq_true] at e
     cases e
     have c3:X.env.kindOf x=some .cell:=by show X.env.scope.names.lookup x=_;rw[hsc];exact a3
     have c4:X.env.scope.kind=.function:=by rw[hsc];exact hkf
     simp only[hfst,beq_self_eq_true,c3,c4,Bool.and_true,if_true]
    ·have ex':(x==n)=false:=beq_eq_false_iff_ne.mpr ex
     simp only[ex'] at e
     simp only[hfst,ex']
     exact ih e
  exact rl _ a2
def Zmo (sc names:List (Str×NameKind)):Bool:=names.all fun y=>!(decide (y.2=NameKind.free))||decide (sc.lookup y.1=some NameKind.cell)
def Bl {sc scope:Scope}(h:Zmo sc.names scope.names=true):∀y∈scope.names,y.2=.free->sc.names.lookup y.1=some .cell:=fun y hy hf=>by
 have:=List.all_eq_true.mp h y hy
 rw[Bool.or_eq_true] at this
 rcases this with z|z
 ·rw[decide_eq_true hf] at z;cases z
 ·exact of_decide_eq_true z
def Zck (N:List Str)(names:List (Str×NameKind)):List Str->List Nat->Bool
 |x::xs,j::js=>decide (N[j]?=some x)&&decide (names.lookup x=some NameKind.free)&&Zck N names xs js
 |_,_=>true
theorem Cg {N:List Str}{names:List (Str×NameKind)}:∀{xs:List Str}{js:List Nat},Zck N names xs js=true->∀(i j:Nat) (x:Str),xs[i]?=some x->js[i]?=some j->N[j]?=some x/\names.lookup x=some .free
 |[],_,_,i,_,_,e,_=>by simp at e
 |_::_,[],_,i,_,_,_,e=>by simp at e
 |x::xs,j::js,h,0,j',x',e1,e2=>by
  unfold Zck at h
  rw[Bool.and_eq_true,Bool.and_eq_true] at h
  simp at e1 e2
  subst e1 e2
  exact⟨of_decide_eq_true h.1.1,of_decide_eq_true h.1.2⟩
 |x::xs,j::js,h,i+1,j',x',e1,e2=>by
  unfold Zck at h
  rw[Bool.and_eq_true] at h
  exact Cg h.2 i j' x' (by simpa using e1) (by simpa using e2)
def Bm {X:Cx}{N:List Str}{Nc:List Str}{n0:Nat}{caps:List Nat}{scope:Scope}(hN:X.N=N)(h:Zck N scope.names (Nc.drop n0) caps=true):
  ∀(i j:Nat) (x:Str),Nc[n0+i]?=some x->caps[i]?=some j->X.N[j]?=some x/\scope.names.lookup x=some .free:=fun i j x e1 e2=>by
 rw[hN]
 exact Cg h i j x (by rw[List.getElem?_drop];exact e1) e2
section
variable {X:Cx}{E:XK}{pos p p1 p2:Pos}{a e:Expr}{x:Str}
def Zcl (f:Zf->M (List D))(sd:Zf):M O:=(f sd).bind fun ds=>.ok (.rt (.ow ds))
def Zcm {f:Zf->M (List D)}(h:Zjz X E e f):Ga X E (.Return (some e) pos) (Zcl f):=by
 obtain⟨t,p,q⟩:=h
 refine⟨_,Nl p,fun H0 B Hf sd σ H D sr h=>?_⟩
 refine q H0 B Hf sd σ H _ sr (PoS.bindF sr h fun ds p xs Hf1 H1 _ g1 sr1 e1 e2 e3 e4 h1=>?_)
 exact h1 _ Hf1 H1 (Same.refl _) sr1.fin ⟨p,rfl,sr.all.free e1,e2,xs,e3,e4⟩
def Zoy (X:Cx)(E:XK)(f:Value->Sem Value)(g:D->M D):Prop:=
 ∃r,Znv X f r/\∀(Hf H:Hp) (x:V) (dx:D) (Q:VK),Same Hf H->Rep X.K Hf dx x->Po X.K E (rV X.K) Hf H (g dx) Q->r x H Q
def P6:D->M D
 |.int i=>.ok (.int (-i))
 |_=>.bad
def N4:Zoy X E (unaryOp .USub) P6:=by
 refine⟨_,Zbf,fun Hf H x dx Q e rx q=>?_⟩
 unfold P6 at q
 split at q
 ·exact⟨_,rep_int.mp rx,Po.ret e q (rep_int.mpr rfl)⟩
 ·exact q.elim
def Eo (g:D->M D)(f:Zf->M D)(sd:Zf):M D:=(f sd).bind g
def Ci {op:UnaryOp}{g:D->M D}{f:Zf->M D}(ho:Zoy X E (unaryOp op) g)(h:Yn X E a f):Yn X E (.UnaryOp op a pos) (Eo g f):=by
 obtain⟨r,hr,qr⟩:=ho
 obtain⟨t,p,q⟩:=h
 refine⟨_,Zbe hr p,fun H0 B Hf sd σ H Q sr h=>?_⟩
 exact q H0 B Hf sd σ H _ sr (Po.bind h fun d v Hf1 H1 _ g1 rv h1=>qr Hf1 H1 v d Q g1.sub rv h1)
end
section
variable {prog:Program}{w:World}{A:Around}{E:Value->Shared->Prop}{s:Shared}
theorem Sg {α β:Type}{f g:α->Option β}:∀{l:List α},(∀a∈l,f a=g a)->l.filterMap f=l.filterMap g
 |[],_=>rfl
 |a::l,h=>by
  rw[List.filterMap_cons,List.filterMap_cons,h a List.mem_cons_self,Sg fun b hb=>h b (List.mem_cons_of_mem _ hb)]
def Zcn (xs:Array Value):((List.range xs.size).filterMap fun(m:Nat)=>xs[(((xs.size:Int)-1)+(m:Int)*(-1)).toNat]?).toArray=xs.toList.reverse.toArray:=by
 have h:=HT.pick_gen xs.toList.reverse.toArray 0 xs.size
 have e:(List.range xs.size).filterMap (fun(m:Nat)=>xs[(((xs.size:Int)-1)+(m:Int)*(-1)).toNat]?)=(List.range xs.size).filterMap (fun(m:Nat)=>xs.toList.reverse.toArray[(((0:Nat):Int)+(m:Int)*1).toNat]?):=by
  refine Sg fun m hm=>?_
  have hm:=List.mem_range.mp hm
  have e1:(((xs.size:Int)-1)+(m:Int)*(-1)).toNat=xs.size-1-m:=by lia
  have e2:(((0:Nat):Int)+(m:Int)*1).toNat=m:=by lia
  rw[e1,e2]
  simp only[List.getElem?_toArray]
  rw[List.getElem?_reverse (by simpa using hm)]
  simp
 rw[e,h]
 have hl:xs.toList.reverse.length=xs.size:=by simp
 show((xs.toList.reverse.drop 0).take xs.size).toArray=_
 rw[List.drop_zero,<-hl,List.take_length]
end
theorem Vals.rev:∀{xs:List V}{us:List Value},Vals xs us->Vals xs.reverse us.reverse
 |_,_,.nil=>.nil
 |_,_,.cons r t=>by
  rw[List.reverse_cons,List.reverse_cons]
  exact(Vals.rev t).append (.cons r .nil)
theorem Reps.rev {K:PySem.W.Frag}{H:Hp}:∀{ds:List D}{xs:List V},Reps K H ds xs->Reps K H ds.reverse xs.reverse
 |[],xs,h=>by rw[reps_nil.mp h];exact Reps.nil
 |d::ds,xs,h=>by
  obtain⟨x,r,rfl,h1,h2⟩:=reps_cons.mp h
  rw[List.reverse_cons,List.reverse_cons]
  exact(Reps.rev h2).append (Reps.cons h1 Reps.nil)
section
variable {X:Cx}{E:XK}{pos:Pos}{a b c:Expr}
def Uu (g g':D->D->M D)(fa fb fc:Zf->M D)(sd:Zf):M D:=(fa sd).bind fun x=>(fb sd).bind fun y=>(g x y).bind fun r=>(asB r).bind fun k=>if k then((fc sd).bind fun z=>g' y z) else .ok (.bl false)
def Ep {fa fb fc:Zf->M D}{g g':D->D->M D}{ta tb tc:TE}{r r':R2}{H0:Hp}{B:Addr->Prop}{Hf:Hp}{sd:Zf}{σ:L2.St}{H:Hp}{Q:VK}(qa:∀(H0:Hp) (B:Addr->Prop) (Hf:Hp) (sd:Zf) (σ:L2.St) (H:Hp) (Q:VK),SR X.K H0 B Hf sd σ H->Po X.K E (rV X.K) Hf H (fa sd) Q->ta σ H Q)(qb:∀(H0:Hp) (B:Addr->Prop) (Hf:Hp) (sd:Zf) (σ:L2.St) (H:Hp) (Q:VK),SR X.K H0 B Hf sd σ H->Po X.K E (rV X.K) Hf H (fb sd) Q->tb σ H Q)(qc:∀(H0:Hp) (B:Addr->Prop) (Hf:Hp) (sd:Zf) (σ:L2.St) (H:Hp) (Q:VK),SR X.K H0 B Hf sd σ H->Po X.K E (rV X.K) Hf H (fc sd) Q->tc σ H Q)(qr:∀(Hf H:Hp) (x y:V) (dx dy:D) (Q:VK),Same Hf H->Rep X.K Hf dx x->Rep X.K Hf dy y->Po X.K E (rV X.K) Hf H (g dx dy) Q->r x y H Q)(qr':∀(Hf H:Hp) (x y:V) (dx dy:D) (Q:VK),Same Hf H->Rep X.K Hf dx x->Rep X.K Hf dy y->Po X.K E (rV X.K) Hf H (g' dx dy) Q->r' x y H Q)(sr:SR X.K H0 B Hf sd σ H)(h:Po X.K E (rV X.K) Hf H (Uu g g' fa fb fc sd) Q):Zbh r r' ta tb tc σ H Q:=by
 refine qa H0 B Hf sd σ H _ sr (Po.bind h fun dx x Hf1 H1 _ g1 rx h1=>?_)
 have sr1:=sr.gr g1
 refine qb H0 B Hf1 sd σ H1 _ sr1 (Po.bind h1 fun dy y Hf2 H2 _ g2 ry h2=>?_)
 have sr2:=sr1.gr g2
 refine qr Hf2 H2 x y dx dy _ g2.sub (Rep.mono g2.fz rx) ry (Po.bind h2 fun dz z Hf3 H3 _ g3 rz h3=>?_)
 have sr3:=sr2.gr g3
 obtain⟨k,rfl,h4⟩:=Po.asB h3
 refine⟨k,rep_bl.mp rz,?_⟩
 cases k with
 |true=>
  rw[if_pos rfl] at h4 ⊢
  exact qc H0 B Hf3 sd σ H3 _ sr3 (Po.bind h4 fun dw w' Hf4 H4 _ g4 rw' h5=>qr' Hf4 H4 y w' dy dw Q g4.sub (Rep.mono g4.fz (Rep.mono g3.fz ry)) rw' h5)
 |false=>
  rw[if_neg Bool.false_ne_true] at h4 ⊢
  exact Po.ret (R:=rV X.K) g3.sub h4 (rep_bl.mpr rfl)
def L3 {op op':CmpOp}{g g':D->D->M D}{fa fb fc:Zf->M D}(ho:Nt X E (compareOp op) g)(ho':Nt X E (compareOp op') g')(ha:Yn X E a fa)(hb:Yn X E b fb)(hc:Yn X E c fc)(hm:lastMarks [op,op'] [b,c]=false:=by with_unfolding_all rfl):Ls X E (.Compare a [op,op'] [b,c] pos) (DL.tB (Uu g g' fa fb fc)):=by
 obtain⟨r,hr,qr⟩:=ho
 obtain⟨r',hr',qr'⟩:=ho'
 obtain⟨ta,pa,qa⟩:=ha
 obtain⟨tb,pb,qb⟩:=hb
 obtain⟨tc,pc,qc⟩:=hc
 refine⟨_,Zbi hr hr' pa pb pc hm,fun H0 B Hf sd σ H Q sr h=>?_⟩
 refine Ep qa qb qc qr qr' sr (Po.bind h fun d v Hf1 H1 _ g1 rv h1=>?_)
 unfold DL.asB at h1
 split at h1
 ·exact⟨_,rep_bl.mp rv,Po.ret (R:=rQ) g1.sub h1 rfl⟩
 ·exact h1.elim
end
structure Ch (fr:List Addr) (a T:Addr) (h h':Heap):Prop where
 keep:∀b o,b≠a->b≠T->b ∉ fr->h.get? b=some o->h'.get? b=some o
 slot:∀b o,b≠a->b≠T->h.get? b=some o->∃sl,h'.get? b=some {o with slots:=sl}
def Zj3 {P:Program}{w:World}{H:Hp}{h h':Heap}{fr:List Addr}{a T:Addr}(x:HOk P w H h)(c:Ch fr a T h h')(na:H a=none)(nT:H T=none)(nf:∀b∈fr,H b=none):HOk P w H h':=fun b u e=>by
 have ne:∀d v,H d=some v->d≠a/\d≠T/\d ∉ fr:=fun d v q=>⟨fun z=>(by rw[z,na] at q;cases q),fun z=>(by rw[z,nT] at q;cases q),fun z=>(by rw[nf d z] at q;cases q)⟩
 refine(x b u e).stay (fun d v hd q=>?_) (fun _ q=>q) (fun _ _ q=>q) fun _ _ _ q=>q
 have z:d≠a/\d≠T/\d ∉ fr:=by
  rcases hd with rfl|hd
  ·exact ne _ _ e
  ·exact ne _ _ hd
 exact c.keep d v z.1 z.2.1 z.2.2 q
end DL
namespace DL
open PySem PySem.Spec PyProof.Rows L2
theorem Zw {X:Cx}{E:XK}{pos p:Pos}{a:Expr}{i:Int}{j}{fa:Zf->M D}(ha:Yn X E a fa):Yn X E (.Subscript a (.Constant (.int i) j p) pos) (Zp Km fa (eC (.int i))):=Kn ha Zi (fun _ _=>rfl)
end DL
local macro_rules
 |`(↑$x:num)=>`(DL.eC (.int $x))
 |`(↑$x:str)=>`(DL.eC (.str (PySem.Str.ofString $x)))
 |`($x:num[$y:num]!)=>`(DL.Zp DL.Km (DL.Zd $x) (DL.eC (.int $y)))
local macro_rules
 |`(tactic|trivial)=>`(tactic|exact fun _ _ _ _ _ _ us hl=>match us,hl with | [_],_=>rfl)
local macro_rules
 |`(tactic|trivial)=>`(tactic|exact fun _ _ _ _ _ _ us hl=>match us,hl with | [_,_],_=>rfl)
local macro_rules
 |`(tactic|trivial)=>`(tactic|exact fun _ _ _ _ _ _ us hl=>match us,hl with | [_,_,_],_=>rfl)
local macro_rules
 |`(tactic|trivial)=>`(tactic|exact fun _ _ _ _ _ _ us hl=>match us,hl with | [_,_,_,_],_=>rfl)
local macro_rules
 |`(tactic|trivial)=>`(tactic|exact fun _ _ _ _ _ _ us hl=>match us,hl with | [_,_,_,_,_],_=>rfl)
local macro_rules
 |`(tactic|trivial)=>`(tactic|exact fun _ _ _ _ _ _ us hl=>match us,hl with | [_,_,_,_,_,_],_=>rfl)
namespace DL
open PySem PySem.Spec PySem.Calls PySem.Builtin PySem.Builtin.ObjectAttr PyProof.Rows L2 PySem.W
section
variable {X:Cx}{pins:List (Addr×Obj)}{σ:L2.St}{H:Hp}{s:Shared}{h':Heap}{a T C:Addr}{e:Value}
structure Fresh (X:Cx) (pins:List (Addr×Obj)) (b:Addr):Prop where
 lo:X.s₀.heap.objs.size<=b
 nl:b≠X.env.locals
 nc:∀x c,X.env.cells.lookup x=some c->c≠b
 np:∀p∈X.pn++pins,p.1≠b
def Zco (I:Inv X pins σ H s){b:Addr}(h:s.heap.objs.size<=b):Fresh X pins b where
 lo:=Nat.le_trans I.sz h
 nl:=Nat.ne_of_gt (Nat.lt_of_lt_of_le I.lt h)
 nc:=fun x c q=>by
  obtain⟨v,o,ho,_⟩:=I.cell x c q
  exact Nat.ne_of_lt (Nat.lt_of_lt_of_le (Heap.lt_size ho) h)
 np:=fun p hp=>Nat.ne_of_lt (Nat.lt_of_lt_of_le (Heap.lt_size (I.pin p hp).1) h)
def Zj4 (I:Inv X pins σ H s)(c:Ch (Fu X.stack) a T s.heap h')(na:H a=none)(nT:H T=none)(fa:Fresh X pins a)(fT:Fresh X pins T):Inv X pins σ H {s with heap:=h'}:=by
 refine I.call (h':=h') (g':=s.gens) (d':=s.drawn) (t':=s.toks) (ch:=[a,T]) ⟨fun b o q n nf nx=>?_,fun b o q n bf nx=>?_,fun b o q n nx=>n,fun b o q nx=>?_,fun b xs q=>q,fun b o u q=>q,fun _ _ _ _ q=>q⟩ (Zj3 I.hok c na nT I.stkFree) I.bare fun b hb=>?_
 ·exact c.keep b o (fun z=>nx (by simp[z])) (fun z=>nx (by simp[z])) nf q
 ·exact c.slot b o (fun z=>nx (by simp[z])) (fun z=>nx (by simp[z])) q
 ·obtain⟨sl,z⟩:=c.slot b o (fun z=>nx (by simp[z])) (fun z=>nx (by simp[z])) q
  exact⟨_,z⟩
 ·rcases List.mem_cons.mp hb with rfl|hb
  ·exact⟨.inr fa.lo,fa.nl,fa.nc,fa.np⟩
  ·have:b=T:=by simpa using hb
   subst this
   exact⟨.inr fT.lo,fT.nl,fT.nc,fT.np⟩
end
def SR.ofS {K:Frag}{Hf H:Hp}{sd:Zf}{σ:L2.St}(e:Same Hf H)(hl:sd.length=σ.length)(hS:∀(i:Nat) (t:S),sd[i]?=some (some t)->t.own=false/\∃v,σ[i]?=some (some v)/\RepS K Hf t v):
  SR K H (fun a=>Lv H a/\Hf a=none) Hf sd σ H:=
 ⟨e,Same.refl _,fun _ h=>h.2,fun _ h=>h.1,hl,fun i t h _=>(hS i t h).2,fun i t h ho=>(by rw[(hS i t h).1] at ho;cases ho),fun i _ t _ _ _ h ho _ _ _ _=>(by rw[(hS i t h).1] at ho;cases ho)⟩
end DL
namespace DL
open PySem PySem.Spec PyProof.Rows L2
def ItK (t:Bool)(h:Heap)(i l:Addr)(k:Nat):Prop:=∃o,h.get? i=some o/\o.cls=.type (if t then "tuple_iterator" else "list_iterator")/\o.data=.fields #[.ref l,.int k 0]
def SqK (t:Bool)(h:Heap)(l:Addr)(xs:Array Value):Prop:=∃o,h.get? l=some o/\o.cls=.type (if t then "tuple" else "list")/\∃n,o.data=.seq xs n
def ItK.at {t:Bool}{h h':Heap}{i l:Addr}{k:Nat}(x:ItK t h i l k)(q:∀o,h.get? i=some o->h'.get? i=some o):ItK t h' i l k:=let ⟨o,e,r⟩:=x;⟨o,q o e,r⟩
def SqK.at {t:Bool}{h h':Heap}{l:Addr}{xs:Array Value}(x:SqK t h l xs)(q:∀o,h.get? l=some o->h'.get? l=some o):SqK t h' l xs:=let ⟨o,e,r⟩:=x;⟨o,q o e,r⟩
section
variable {prog:Program}{w:World}{A:Around}{E:Value->Shared->Prop}{s:Shared}
def Ww {t:Bool}{it l:Addr}{i:Nat}{xs:Array Value}{x:Value}{Q:Value->Shared->Prop}(hi:ItK t s.heap it l i)(hl:SqK t s.heap l xs)(hx:xs[i]?=some x)(hQ:∀h',ItK t h' it l (i+1)->Heap.SameBut it s.heap h'->Q x {s with heap:=h'}):wpAny (model prog w) A (Builtin.SmallTypes.nextOf (.ref it)) Q E s:=by
 cases t with
 |false=>exact wpAny_nextOf_list_item (show s.heap.IsListIter it l i from hi) (show s.heap.IsList l xs from hl) hx hQ
 |true=>
  obtain⟨o,ho,hc,hd⟩:=id hi
  obtain⟨ol,hol,_,nl,hdl⟩:=hl
  have ty:s.TypeIs (.ref it) "tuple_iterator":=⟨o,ho,hc⟩
  unfold Builtin.SmallTypes.nextOf
  refine wpAny_bind (wpAny_callSpecial?_slot (name:=Str.ofString "__next__") ty PyProof.Rows.slot_tupleiter_next (wpAny_call_entry PyProof.Rows.slot_tupleiter_next ty PyProof.Rows.entry_tupleiter_next ?_ (PyProof.Rows.args_tupleiter_next _)))
  refine wpAny_bind (m:=field (.ref it) 0) (wpAny_field ho hd (x:=.ref l) rfl ?_)
  dsimp only
  rw[if_neg (fun z:(Value.ref l==Value.none)=true=>Bool.false_ne_true z)]
  refine wpAny_bind (m:=field (.ref it) 1) (wpAny_field ho hd (x:=.int i 0) rfl (wpAny_bind (m:=seqItems? (.ref l)) (wpAny_seqItems hol hdl ?_)))
  simp only[Int.toNat_natCast,hx]
  refine wpAny_bind (wpAny_setField ho hd (by simp) (wpAny_pure ⟨x,rfl,wpAny_pure (hQ _ ⟨_,Heap.get?_update_self _ ho (Obj.isFreed_of_fields (Obj.data_mapFields hd _)),(Obj.cls_mapFields ..).trans hc,?_⟩ (Heap.SameBut.update ..))⟩))
  rw[Obj.data_mapFields hd];simp[rawInt]
def L4 {t:Bool}{it l:Addr}{i:Nat}{xs:Array Value}{Q:Value->Shared->Prop}(hh:A.handled=none)(hi:ItK t s.heap it l i)(hl:SqK t s.heap l xs)(hx:xs[i]?=none)
  (hE:∀h' e,Heap.ExtBut it s.heap h'->(∃o,h'.get? e=some o/\o.cls=.type "StopIteration")->E (.ref e) {s with heap:=h'}):wpAny (model prog w) A (Builtin.SmallTypes.nextOf (.ref it)) Q E s:=by
 cases t with
 |false=>exact wpAny_nextOf_list_end hh (show s.heap.IsListIter it l i from hi) (show s.heap.IsList l xs from hl) hx hE
 |true=>
  obtain⟨o,ho,hc,hd⟩:=id hi
  obtain⟨ol,hol,_,nl,hdl⟩:=hl
  have ty:s.TypeIs (.ref it) "tuple_iterator":=⟨o,ho,hc⟩
  unfold Builtin.SmallTypes.nextOf
  refine wpAny_bind (wpAny_callSpecial?_slot (name:=Str.ofString "__next__") ty PyProof.Rows.slot_tupleiter_next (wpAny_call_entry PyProof.Rows.slot_tupleiter_next ty PyProof.Rows.entry_tupleiter_next ?_ (PyProof.Rows.args_tupleiter_next _)))
  refine wpAny_bind (m:=field (.ref it) 0) (wpAny_field ho hd (x:=.ref l) rfl ?_)
  dsimp only
  rw[if_neg (fun z:(Value.ref l==Value.none)=true=>Bool.false_ne_true z)]
  refine wpAny_bind (m:=field (.ref it) 1) (wpAny_field ho hd (x:=.int i 0) rfl (wpAny_bind (m:=seqItems? (.ref l)) (wpAny_seqItems hol hdl ?_)))
  simp only[Int.toNat_natCast,hx]
  refine wpAny_bind (wpAny_rule (wpAny_bind (wpAny_setField ho hd (by simp) (wpAny_bind (m:=newExc (.type "StopIteration") []) ?_))))
  simp only[newExc,newTuple]
  refine wpAny_bind (wpAny_newObj_type (wpAny_bind (m:=firstArgMember _ _) (wpAny_of_eq (a:=Value.none) (by first|rfl|(simp only[firstArgMember];rfl)) (wpAny_newObj_type ?_ (by size_fits)))) (by size_fits))
  simp only[raiseNew]
  refine wpAny_bind (wpAny_handled ?_)
  first|rw[show A.in1.handled=none from hh]|rw[hh]
  exact wpAny_bind (wpAny_pure (wpAny_throw (hE _ _ (((Heap.SameBut.update ..).extBut.push _).push _) ⟨_,Heap.get?_push_size _ rfl,rfl⟩)))
def Zh5 {t:Bool}{l:Addr}{xs:Array Value}{Q:Value->Shared->Prop}(hl:SqK t s.heap l xs)
  (hQ:Q (.ref s.heap.objs.size) {s with heap:=s.heap.push {cls:=.type (if t then "tuple_iterator" else "list_iterator"),data:=.fields #[.ref l,.int 0 0]}}):wpAny (model prog w) A (pyIter (.ref l)) Q E s:=by
 cases t with
 |false=>exact wpAny_pyIter_list (show s.heap.IsList l xs from hl) hQ
 |true=>exact PyProof.Rows.iter_tuple (show IsTup s.heap l xs from hl) hQ
def O8 {t1 t2:Bool}{z TI TO i1 i2 l1 l2:Addr}{k1 k2:Nat}{xs ys:Array Value}{x y a b:Value}{Q:Value->Shared->Prop}(D:ZipApart z TI TO i1 i2 l1 l2)(yz:IsZip s.heap z TI TO .none)(yI:IsPair s.heap TI (.ref i1) (.ref i2))(yO:IsPair s.heap TO a b)(y1:ItK t1 s.heap i1 l1 k1)(y2:ItK t2 s.heap i2 l2 k2)(m1:SqK t1 s.heap l1 xs)(m2:SqK t2 s.heap l2 ys)(ex:xs[k1]?=some x)(ey:ys[k2]?=some y)(hQ:∀h',IsZip h' z TI TO (rawInt s.heap.objs.size)->IsPair h' TO x y->ItK t1 h' i1 l1 (k1+1)->ItK t2 h' i2 l2 (k2+1)->IsPair h' s.heap.objs.size x y->h'.objs.size=s.heap.objs.size+1->(∀c o,c≠z->c≠TO->c≠i1->c≠i2->s.heap.get? c=some o->h'.get? c=some o)->Q (.ref s.heap.objs.size) {s with heap:=h'}):
  wpAny (model prog w) A (Builtin.«zip.__next__» ⟨[.ref z],[]⟩) (fun fin s'=>∃v,fin=.done (.ret v)/\Q v s') E s:=by
 refine wpAny_bind (m:=field (.ref z) 2) (wpAny_field yz rfl (x:=.bool false) rfl (wpAny_bind (m:=field (.ref z) 3) (wpAny_field yz rfl (x:=.ref TI) rfl (wpAny_bind (wpAny_seqItems yI rfl ?_)))))
 refine wpAny_bind (m:=Builtin.SmallTypes.ownedTupleIsFree (.ref z)) ?_
 unfold Builtin.SmallTypes.ownedTupleIsFree
 refine wpAny_bind (wpAny_field yz rfl (x:=.none) rfl (wpAny_pure ?_));simp only[if_true]
 refine wpAny_bind (wpAny_rule (wpAny_bind (wpAny_field yz rfl (x:=.ref TO) rfl (wpAny_bind (wpAny_setField_rec yz (by simp) fun h1 z1 e1=>wpAny_bind ?_)))))
 have z1:IsZip h1 z TI TO .ellipsis:=z1
 simp only[List.zipIdx_cons,List.zipIdx_nil,List.forIn_cons,List.forIn_nil]
 refine wpAny_bind (wpAny_bind (wpAny_onRaise (wpAny_bind (m:=Builtin.SmallTypes.nextOf (.ref i1)) (Ww (s:={s with heap:=h1}) (y1.at fun o q=>e1.extBut _ _ D.i1z q) (m1.at fun o q=>e1.extBut _ _ D.l1z q) ex fun h2 n1 e2=>wpAny_pure ?_))))
 have o2:IsPair h2 TO a b:=e2.extBut _ _ D.TOi1 (e1.extBut _ _ D.TOz yO)
 refine wpAny_bind (wpAny_seqItems o2 rfl (wpAny_bind (wpAny_updateSeq_pair o2 fun h3 o3 e3=>wpAny_bind (wpAny_letGo (wpAny_pure ?_)))))
 have o3:IsPair h3 TO x b:=o3
 refine wpAny_bind (wpAny_bind (wpAny_onRaise (wpAny_bind (m:=Builtin.SmallTypes.nextOf (.ref i2)) (Ww (s:={s with heap:=h3}) (y2.at fun o q=>e3.extBut _ _ D.TOi2.symm (e2.extBut _ _ D.i12.symm (e1.extBut _ _ D.i2z q))) (m2.at fun o q=>e3.extBut _ _ D.l2TO (e2.extBut _ _ D.l2i1 (e1.extBut _ _ D.l2z q))) ey fun h4 n2 e4=>wpAny_pure ?_))))
 have o4:IsPair h4 TO x b:=e4.extBut _ _ D.TOi2 o3
 refine wpAny_bind (wpAny_seqItems o4 rfl (wpAny_bind (wpAny_updateSeq_pair o4 fun h5 o5 e5=>wpAny_bind (wpAny_letGo (wpAny_pure (wpAny_pure ?_))))))
 have o5:IsPair h5 TO x y:=o5
 refine wpAny_bind (wpAny_seqItems o5 rfl (wpAny_bind (wpAny_newTuple ?_)))
 have sz:h5.objs.size=s.heap.objs.size:=by rw[e5.1,e4.1,e3.1,e2.1,e1.1]
 have z5:IsZip h5 z TI TO .ellipsis:=e5.extBut _ _ D.TOz.symm (e4.extBut _ _ D.i2z.symm (e3.extBut _ _ D.TOz.symm (e2.extBut _ _ D.i1z.symm z1)))
 have kk:∀c o,c≠z->c≠TO->c≠i1->c≠i2->s.heap.get? c=some o->h5.get? c=some o:=fun c o c1 c2 c3 c4 q=>e5.extBut _ _ c2 (e4.extBut _ _ c4 (e3.extBut _ _ c2 (e2.extBut _ _ c3 (e1.extBut _ _ c1 q))))
 have f1:ItK t1 h5 i1 l1 (k1+1):=n1.at fun o q=>e5.extBut _ _ D.TOi1.symm (e4.extBut _ _ D.i12 (e3.extBut _ _ D.TOi1.symm q))
 have f2:ItK t2 h5 i2 l2 (k2+1):=n2.at fun o q=>e5.extBut _ _ D.TOi2.symm q
 have zl:z<h5.objs.size:=Heap.lt_size z5
 refine wpAny_bind (m:=Builtin.SmallTypes.ownedTupleHandOut (.ref z) (.ref h5.objs.size)) ?_
 unfold Builtin.SmallTypes.ownedTupleHandOut
 have z6:IsZip (h5.push {cls:=.type "tuple", data:=.seq #[x,y]}) z TI TO .ellipsis:=Heap.get?_push_of_some _ z5
 refine wpAny_bind (wpAny_setField_rec z6 (by simp) fun h7 z7 e7=>?_)
 have z7:IsZip h7 z TI TO (rawInt h5.objs.size):=z7
 refine wpAny_setField_rec z7 (by simp) fun h8 z8 e8=>?_
 have z8:IsZip h8 z TI TO (rawInt h5.objs.size):=z8
 have up:∀c o,c≠z->h5.get? c=some o->h8.get? c=some o:=fun c o c1 q=>e8.extBut _ _ c1 (e7.extBut _ _ c1 (Heap.get?_push_of_some _ q))
 have nz:h5.objs.size≠z:=Nat.ne_of_gt zl
 have T8:IsPair h8 h5.objs.size x y:=e8.extBut _ _ nz (e7.extBut _ _ nz (Heap.get?_push_size _ rfl))
 have s8:h8.objs.size=h5.objs.size+1:=by rw[e8.1,e7.1,Heap.size_push]
 refine wpAny_pure ⟨_,rfl,?_⟩
 rw[sz] at z8 T8 s8
 have fin:=hQ h8 z8 (up _ _ D.TOz o5) (f1.at fun o q=>up _ o D.i1z q) (f2.at fun o q=>up _ o D.i2z q) T8 s8 fun c o c1 c2 c3 c4 q=>up c o c1 (kk c o c1 c2 c3 c4 q)
 rw[<-sz] at fin
 exact fin
def Zcp {t1 t2:Bool}{z TI TO i1 i2 l1 l2:Addr}{k1 k2:Nat}{xs ys:Array Value}{a b:Value}{Q:Fin->Shared->Prop}(hh:A.handled=none)(D:ZipApart z TI TO i1 i2 l1 l2)(yz:IsZip s.heap z TI TO .none)(yI:IsPair s.heap TI (.ref i1) (.ref i2))(yO:IsPair s.heap TO a b)(y1:ItK t1 s.heap i1 l1 k1)(y2:ItK t2 s.heap i2 l2 k2)(m1:SqK t1 s.heap l1 xs)(m2:SqK t2 s.heap l2 ys)(hend:xs[k1]?=none\/ys[k2]?=none)
  (hE:∀h' e,(∀c o,c≠z->c≠TO->c≠i1->c≠i2->s.heap.get? c=some o->h'.get? c=some o)->(∃o,h'.get? e=some o/\o.cls=.type "StopIteration")->E (.ref e) {s with heap:=h'}):
  wpAny (model prog w) A (Builtin.«zip.__next__» ⟨[.ref z],[]⟩) Q E s:=by
 refine wpAny_bind (m:=field (.ref z) 2) (wpAny_field yz rfl (x:=.bool false) rfl (wpAny_bind (m:=field (.ref z) 3) (wpAny_field yz rfl (x:=.ref TI) rfl (wpAny_bind (wpAny_seqItems yI rfl ?_)))))
 refine wpAny_bind (m:=Builtin.SmallTypes.ownedTupleIsFree (.ref z)) ?_
 unfold Builtin.SmallTypes.ownedTupleIsFree
 refine wpAny_bind (wpAny_field yz rfl (x:=.none) rfl (wpAny_pure ?_));simp only[if_true]
 refine wpAny_bind (wpAny_rule (wpAny_bind (wpAny_field yz rfl (x:=.ref TO) rfl (wpAny_bind (wpAny_setField_rec yz (by simp) fun h1 z1 e1=>wpAny_bind ?_)))))
 have z1:IsZip h1 z TI TO .ellipsis:=z1
 simp only[List.zipIdx_cons,List.zipIdx_nil,List.forIn_cons,List.forIn_nil]
 refine wpAny_bind (wpAny_bind (wpAny_onRaise (wpAny_bind (m:=Builtin.SmallTypes.nextOf (.ref i1)) ?_)))
 have u1:=y1.at (h':=h1) fun o q=>e1.extBut _ _ D.i1z q
 have v1:=m1.at (h':=h1) fun o q=>e1.extBut _ _ D.l1z q
 cases hx:xs[k1]? with
 |none=>
  refine L4 (s:={s with heap:=h1}) hh u1 v1 hx fun h2 e e2 he=>?_
  obtain⟨oe,q1,q2⟩:=he
  have z2:IsZip h2 z TI TO .ellipsis:=e2 _ _ D.i1z.symm z1
  have nz:e≠z:=fun r=>by subst r;rw[z2] at q1;cases q1;simp at q2
  exact wpAny_setField_rec z2 (by simp) fun h3 _ e3=>hE h3 e (fun c o c1 _ c3 _ r=>e3.extBut _ _ c1 (e2 _ _ c3 (e1.extBut _ _ c1 r))) ⟨oe,e3.extBut _ _ nz q1,q2⟩
 |some x=>
  have hy:ys[k2]?=none:=by
   rcases hend with q|q
   ·rw[hx] at q;cases q
   ·exact q
  refine Ww (s:={s with heap:=h1}) u1 v1 hx fun h2 n1 e2=>wpAny_pure ?_
  have o2:IsPair h2 TO a b:=e2.extBut _ _ D.TOi1 (e1.extBut _ _ D.TOz yO)
  refine wpAny_bind (wpAny_seqItems o2 rfl (wpAny_bind (wpAny_updateSeq_pair o2 fun h3 o3 e3=>wpAny_bind (wpAny_letGo (wpAny_pure ?_)))))
  refine wpAny_bind (wpAny_bind (wpAny_onRaise (wpAny_bind (m:=Builtin.SmallTypes.nextOf (.ref i2)) (L4 (s:={s with heap:=h3}) hh (y2.at fun o q=>e3.extBut _ _ D.TOi2.symm (e2.extBut _ _ D.i12.symm (e1.extBut _ _ D.i2z q))) (m2.at fun o q=>e3.extBut _ _ D.l2TO (e2.extBut _ _ D.l2i1 (e1.extBut _ _ D.l2z q))) hy fun h4 e e4 he=>?_))))
  obtain⟨oe,q1,q2⟩:=he
  have z4:IsZip h4 z TI TO .ellipsis:=e4 _ _ D.i2z.symm (e3.extBut _ _ D.TOz.symm (e2.extBut _ _ D.i1z.symm z1))
  have nz:e≠z:=fun r=>by subst r;rw[z4] at q1;cases q1;simp at q2
  exact wpAny_setField_rec z4 (by simp) fun h5 _ e5=>hE h5 e (fun c o c1 c2 c3 c4 r=>e5.extBut _ _ c1 (e4 _ _ c4 (e3.extBut _ _ c2 (e2.extBut _ _ c3 (e1.extBut _ _ c1 r))))) ⟨oe,e5.extBut _ _ nz q1,q2⟩
def Er {t1 t2:Bool}{z TI TO i1 i2 l1 l2:Addr}{k1 k2:Nat}{xs ys:Array Value}{x y a b:Value}{Q:Option Value->Shared->Prop}(D:ZipApart z TI TO i1 i2 l1 l2)(yz:IsZip s.heap z TI TO .none)(yI:IsPair s.heap TI (.ref i1) (.ref i2))(yO:IsPair s.heap TO a b)(y1:ItK t1 s.heap i1 l1 k1)(y2:ItK t2 s.heap i2 l2 k2)(m1:SqK t1 s.heap l1 xs)(m2:SqK t2 s.heap l2 ys)(ex:xs[k1]?=some x)(ey:ys[k2]?=some y)(hQ:∀h',IsZip h' z TI TO (rawInt s.heap.objs.size)->IsPair h' TO x y->ItK t1 h' i1 l1 (k1+1)->ItK t2 h' i2 l2 (k2+1)->IsPair h' s.heap.objs.size x y->h'.objs.size=s.heap.objs.size+1->(∀c o,c≠z->c≠TO->c≠i1->c≠i2->s.heap.get? c=some o->h'.get? c=some o)->Q (some (.ref s.heap.objs.size)) {s with heap:=h'}):
  wpAny (model prog w) A (pyNext (.ref z)) Q E s:=by
 have ty:s.TypeIs (.ref z) "zip":=⟨_,yz,rfl⟩
 unfold pyNext
 exact wpAny_bind (wpAny_attempt (wpAny_callSpecial?_slot (name:=Str.ofString "__next__") ty F.slot_zip_next (wpAny_call_entry F.slot_zip_next ty F.entry_zip_next
  (O8 D yz yI yO y1 y2 m1 m2 ex ey fun h' a1 a2 a3 a4 a5 a6 a7=>wpAny_pure (hQ h' a1 a2 a3 a4 a5 a6 a7)) (F.args_zip_next_1 _))))
def O9 {t1 t2:Bool}{z TI TO i1 i2 l1 l2:Addr}{k1 k2:Nat}{xs ys:Array Value}{a b:Value}{Q:Option Value->Shared->Prop}(hh:A.handled=none)(D:ZipApart z TI TO i1 i2 l1 l2)(yz:IsZip s.heap z TI TO .none)(yI:IsPair s.heap TI (.ref i1) (.ref i2))(yO:IsPair s.heap TO a b)(y1:ItK t1 s.heap i1 l1 k1)(y2:ItK t2 s.heap i2 l2 k2)(m1:SqK t1 s.heap l1 xs)(m2:SqK t2 s.heap l2 ys)(hend:xs[k1]?=none\/ys[k2]?=none)(hQ:∀h',(∀c o,c≠z->c≠TO->c≠i1->c≠i2->s.heap.get? c=some o->h'.get? c=some o)->Q none {s with heap:=h'}):wpAny (model prog w) A (pyNext (.ref z)) Q E s:=by
 have ty:s.TypeIs (.ref z) "zip":=⟨_,yz,rfl⟩
 unfold pyNext
 refine wpAny_bind (wpAny_attempt (wpAny_callSpecial?_slot (name:=Str.ofString "__next__") ty F.slot_zip_next (wpAny_call_entry F.slot_zip_next ty F.entry_zip_next (Zcp hh D yz yI yO y1 y2 m1 m2 hend fun h' e hk he=>?_) (F.args_zip_next_1 _))))
 obtain⟨o,q1,q2⟩:=he
 exact wpAny_bind (wpAny_isInstance (T:="StopIteration") (b:=true) ⟨o,q1,q2⟩ isSubtype_stop (wpAny_pure (hQ _ hk)))
abbrev Za5 (t:Bool)(l:Addr):Obj:={cls:=.type (if t then "tuple_iterator" else "list_iterator"),data:=.fields #[.ref l,.int 0 0]}
abbrev Zj5 (t1 t2:Bool)(h:Heap)(l1 l2:Addr):Heap:=(h.push (Za5 t1 l1)).push (Za5 t2 l2)
abbrev Znz (t1 t2:Bool)(h:Heap)(l1 l2:Addr):Heap:=((Zj5 t1 t2 h l1 l2).push {cls:=.type "tuple", data:=.seq #[.ref h.objs.size,.ref (h.push (Za5 t1 l1)).objs.size]}).push {cls:=.type "tuple", data:=.seq #[.none,.none]}
abbrev Zli (t1 t2:Bool)(h:Heap)(l1 l2:Addr):Heap:=(Znz t1 t2 h l1 l2).push {cls:=.type "zip", data:=.fields #[.none,.bool false,.bool false,.ref (Zj5 t1 t2 h l1 l2).objs.size,.ref ((Zj5 t1 t2 h l1 l2).push {cls:=.type "tuple", data:=.seq #[.ref h.objs.size,.ref (h.push (Za5 t1 l1)).objs.size]}).objs.size]}
def Zoz (t1 t2:Bool)(l1 l2:Addr)(xs ys:Array Value):Meets (Builtin.«zip.__new__» ⟨[.type "zip", .ref l1,.ref l2],[]⟩) (fun _ R s=>SqK t1 s.heap l1 xs/\SqK t2 s.heap l2 ys/\R (.ok (.ret (.ref (Znz t1 t2 s.heap l1 l2).objs.size))) {s with heap:=Zli t1 t2 s.heap l1 l2}):=
 .of_wp fun prog w A R s h=>by
  obtain⟨hp,g,d,tk,os⟩:=s
  obtain⟨h1,h2,h⟩:=h
  have sb:=sub_zip
  have b1:SqK t1 (Shared.heap ⟨hp,g,d,tk,os⟩) l1 xs:=h1
  have b2:SqK t2 (Shared.heap ⟨hp.push (Za5 t1 l1),g,d,tk,os⟩) l2 ys:=h2.at fun o q=>Heap.get?_push_of_some _ q
  wp_walk using Zh5 b1,Zh5 b2
  exact⟨_,rfl,h⟩
def Zmp {t1 t2:Bool}{l1 l2:Addr}{xs ys:Array Value}{Q:Value->Shared->Prop}(m1:SqK t1 s.heap l1 xs)(m2:SqK t2 s.heap l2 ys)(h:∀h',IsZip h' (s.heap.objs.size+4) (s.heap.objs.size+2) (s.heap.objs.size+3) .none->IsPair h' (s.heap.objs.size+2) (.ref s.heap.objs.size) (.ref (s.heap.objs.size+1))->IsPair h' (s.heap.objs.size+3) .none .none ->
   ItK t1 h' s.heap.objs.size l1 0->ItK t2 h' (s.heap.objs.size+1) l2 0->(∀c o,s.heap.get? c=some o->h'.get? c=some o)->Q (.ref (s.heap.objs.size+4)) {s with heap:=h'}):wpAny (model prog w) A (call (.type "zip") [.ref l1,.ref l2]) Q E s:=by
 refine callType_new F.called_zip (by decide) (F.typeCall_zip_2 _ _) (F.newCall_zip_2 _ _) (fun obj=>F.args_object_init_3 obj _ _) F.entry_zip_new (Zoz t1 t2 l1 l2 xs ys) ⟨m1,m2,?_⟩
 have z1:(s.heap.push (Za5 t1 l1)).objs.size=s.heap.objs.size+1:=Heap.size_push ..
 have z2:(Zj5 t1 t2 s.heap l1 l2).objs.size=s.heap.objs.size+2:=by rw[Heap.size_push,z1]
 have z3:((Zj5 t1 t2 s.heap l1 l2).push {cls:=.type "tuple", data:=.seq #[.ref s.heap.objs.size,.ref (s.heap.push (Za5 t1 l1)).objs.size]}).objs.size=s.heap.objs.size+3:=by rw[Heap.size_push,z2]
 have z4:(Znz t1 t2 s.heap l1 l2).objs.size=s.heap.objs.size+4:=by rw[Heap.size_push,z3]
 have g5:(Zli t1 t2 s.heap l1 l2).get? (Znz t1 t2 s.heap l1 l2).objs.size=some _:=Heap.get?_push_size _ rfl
 have g4:(Zli t1 t2 s.heap l1 l2).get? ((Zj5 t1 t2 s.heap l1 l2).push {cls:=.type "tuple", data:=.seq #[.ref s.heap.objs.size,.ref (s.heap.push (Za5 t1 l1)).objs.size]}).objs.size=some {cls:=.type "tuple", data:=.seq #[.none,.none]}:=Heap.get?_push_of_some _ (Heap.get?_push_size _ rfl)
 have g3:(Zli t1 t2 s.heap l1 l2).get? (Zj5 t1 t2 s.heap l1 l2).objs.size=some {cls:=.type "tuple", data:=.seq #[.ref s.heap.objs.size,.ref (s.heap.push (Za5 t1 l1)).objs.size]}:=Heap.get?_push_of_some _ (Heap.get?_push_of_some _ (Heap.get?_push_size _ rfl))
 have g2:(Zli t1 t2 s.heap l1 l2).get? (s.heap.push (Za5 t1 l1)).objs.size=some (Za5 t2 l2):=Heap.get?_push_of_some _ (Heap.get?_push_of_some _ (Heap.get?_push_of_some _ (Heap.get?_push_size _ rfl)))
 have g1:(Zli t1 t2 s.heap l1 l2).get? s.heap.objs.size=some (Za5 t1 l1):=Heap.get?_push_of_some _ (Heap.get?_push_of_some _ (Heap.get?_push_of_some _ (Heap.get?_push_of_some _ (Heap.get?_push_size _ rfl))))
 show _/\_
 rw[z2,z3,z4] at g5
 rw[z1,z2] at g3
 rw[z3] at g4
 rw[z1] at g2
 rw[z4]
 exact⟨⟨_,g5,rfl⟩,h _ g5 g3 g4 ⟨_,g1,rfl,rfl⟩ ⟨_,g2,rfl,rfl⟩ fun c o q=>Heap.get?_push_of_some _ (Heap.get?_push_of_some _ (Heap.get?_push_of_some _ (Heap.get?_push_of_some _ (Heap.get?_push_of_some _ q))))⟩
end
def Sh (t:Bool)(K:PySem.W.Frag)(H:Hp)(a:Addr)(xs:List V):Prop:=if t=true then SqT K H a xs else SqL K H a xs
def Vc {X:Cx}{pins:List (Addr×Obj)}{σ:L2.St}{H:Hp}{s:Shared}{t:Bool}{a:Addr}{xs:List V}(I:Inv X pins σ H s)(h:Sh t X.K H a xs):∃its:List Value,Vals xs its/\SqK t s.heap a its.toArray:=by
 cases t with
 |false=>
  obtain⟨its,rv,p,_⟩:=I.list (show SqL X.K H a xs from h)
  exact⟨its,rv,p.isList⟩
 |true=>
  obtain⟨its,rv,p,_⟩:=I.tuple (show SqT X.K H a xs from h)
  exact⟨its,rv,p⟩
def He {X:Cx}{pins:List (Addr×Obj)}{σ:L2.St}{H:Hp}{s:Shared}{t:Bool}{a:Addr}{xs ys:List V}(I:Inv X pins σ H s)(h:Sh t X.K H a xs)(h':Sh t X.K H a ys):xs=ys:=by
 cases t with
 |false=>exact I.list_inj (show SqL X.K H a xs from h) (show SqL X.K H a ys from h')
 |true=>exact I.tuple_inj (show SqT X.K H a xs from h) (show SqT X.K H a ys from h')
def Jn {K:PySem.W.Frag}{H H':Hp}{t:Bool}{a:Addr}{xs:List V}(e:Same H H')(h:Sh t K H a xs):Sh t K H' a xs:=by
 cases t with
 |false=>exact e.seq (show SqL K H a xs from h)
 |true=>exact e.seqT (show SqT K H a xs from h)
def Zo0 (t1 t2:Bool)(K:PySem.W.Frag)(a b:Addr):It:=
 ⟨fun i H=>∃xs ys x y,Sh t1 K H a xs/\Sh t2 K H b ys/\xs[i]?=some x/\ys[i]?=some y,
  fun i H v H'=>∃p x y,H p=none/\v=.ref p/\H'=upd H p (.tup [x,y])/\(∀xs,Sh t1 K H a xs->xs[i]?=some x)/\∀ys,Sh t2 K H b ys->ys[i]?=some y,
  fun i H=>∃xs ys,Sh t1 K H a xs/\Sh t2 K H b ys/\(xs.length<=i\/ys.length<=i)⟩
abbrev Zp3 (t1 t2:Bool)(a b z TI TO i1 i2:Addr)(i:Nat)(h:Heap):Prop:=IsZip h z TI TO .none/\IsPair h TI (.ref i1) (.ref i2)/\(∃p q,IsPair h TO p q)/\ItK t1 h i1 a i/\ItK t2 h i2 b i/\a<z/\b<z/\a≠TO/\b≠TO/\a≠i1/\a≠i2/\b≠i1/\b≠i2
def Zaa {P:Program}{w:World}{K:PySem.W.Frag}{es:List Expr}{k:Nat}{pos:Pos}(t1 t2:Bool)(a b z TI TO i1 i2:Addr)(A:ZA z TI TO i1 i2):Turn P w K (.Tuple es k pos) (Zo0 t1 t2 K a b) [z,TI,TO,i1,i2] z (Zp3 t1 t2 a b z TI TO i1 i2) where
 mem:=by simp
 obj:=fun i h st c hc=>by
  obtain⟨hz,hTI,⟨p,q,hTO⟩,⟨o1,e1,c1,d1⟩,⟨o2,e2,c2,d2⟩,_⟩:=st
  simp at hc
  rcases hc with rfl|rfl|rfl|rfl|rfl
  ·exact⟨_,hz,fun v z=>by cases z⟩
  ·exact⟨_,hTI,fun v z=>by cases z⟩
  ·exact⟨_,hTO,fun v z=>by cases z⟩
  ·exact⟨o1,e1,fun v z=>by rw[d1] at z;cases z⟩
  ·exact⟨o2,e2,fun v z=>by rw[d2] at z;cases z⟩
 keep:=fun i h h' st kk=>by
  obtain⟨hz,hTI,⟨p,q,hTO⟩,h1,h2,ap⟩:=st
  exact⟨kk z (by simp) _ hz,kk TI (by simp) _ hTI,⟨p,q,kk TO (by simp) _ hTO⟩,h1.at fun o e=>kk i1 (by simp) o e,h2.at fun o e=>kk i2 (by simp) o e,ap⟩
 item:=by
  intro X hP hw hK hc i pins s σ H E I hf st hg
  subst hP hw hK
  obtain⟨xs,ys,x,y,hq1,hq2,hx,hy⟩:=hg
  obtain⟨its1,rv1,p1⟩:=Vc I hq1
  obtain⟨its2,rv2,p2⟩:=Vc I hq2
  obtain⟨u1,hu1,ru1⟩:=rv1.get hx
  obtain⟨u2,hu2,ru2⟩:=rv2.get hy
  obtain⟨hz,hTI,⟨p,q,hTO⟩,h1,h2,w1,w2,w3,w4,w5,w6,w7,w8⟩:=id st
  have D:ZipApart z TI TO i1 i2 a b:=⟨A.TIz,A.TOz,A.i1z,A.i2z,A.TITO,A.TIi1,A.TIi2,A.TOi1,A.TOi2,A.i12,Nat.ne_of_lt w1,w3,w5,w6,Nat.ne_of_lt w2,w4,w7,w8⟩
  refine Er D hz hTI hTO h1 h2 p1 p2 (x:=u1) (y:=u2) (by simpa using hu1) (by simpa using hu2) fun h' a1 a2 a3 a4 a5 a6 a7=>⟨_,rfl,wpAny_letOwnedTupleGo_zip a1 fun h'' b1 b2=>?_⟩
  have lt:∀{c o},s.heap.get? c=some o->c≠s.heap.objs.size:=fun e=>Nat.ne_of_lt (Heap.lt_size e)
  have kk:∀b u,b ∉ [z,TI,TO,i1,i2]->s.heap.get? b=some u->h''.get? b=some u:=fun b u nb q=>(b2.2 b (fun z=>nb (by simp[z]))).trans (a7 b u (fun z=>nb (by simp[z])) (fun z=>nb (by simp[z])) (fun z=>nb (by simp[z])) (fun z=>nb (by simp[z])) q)
  have hT:h''.get? s.heap.objs.size=some {cls:=.type "tuple", data:=.seq #[u1,u2]}:=(b2.2 _ (Ne.symm (lt hz))).trans a5
  refine⟨.ref s.heap.objs.size,_,I.turnedT (o:=.tup [x,y]) (t':=s.toks) hf kk (Nat.le_refl _) ⟨by show 2<=sizeLine;decide,[u1,u2],.cons ru1 (.cons ru2 .nil),⟨_,hT,rfl,_,rfl⟩⟩,rfl,
   ⟨_,x,y,I.fresh,rfl,rfl,fun zs hy=>by rw[He I hy hq1];exact hx,fun zs hy'=>by rw[He I hy' hq2];exact hy⟩,
   ⟨b1,(b2.2 TI A.TIz).trans (a7 _ _ A.TIz A.TITO A.TIi1 A.TIi2 hTI),⟨u1,u2,(b2.2 TO A.TOz).trans a2⟩,a3.at fun o q=>(b2.2 i1 A.i1z).trans q,a4.at fun o q=>(b2.2 i2 A.i2z).trans q,w1,w2,w3,w4,w5,w6,w7,w8⟩,fun b hb=>?_⟩
  have:b≠s.heap.objs.size:=by
   obtain⟨o1,e1,_⟩:=id h1
   obtain⟨o2,e2,_⟩:=id h2
   have hb':=hb
   simp at hb'
   rcases hb' with rfl|rfl|rfl|rfl|rfl
   ·exact lt hz
   ·exact lt hTI
   ·exact lt hTO
   ·exact lt e1
   ·exact lt e2
  rw[Zj this];exact(hf b hb).1
 done:=by
  intro X hP hw hK hc i pins s σ H E I hf st hg
  subst hP hw hK
  obtain⟨xs,ys,hq1,hq2,hx⟩:=hg
  obtain⟨its1,rv1,p1⟩:=Vc I hq1
  obtain⟨its2,rv2,p2⟩:=Vc I hq2
  have hl1:=rv1.length
  have hl2:=rv2.length
  obtain⟨hz,hTI,⟨p,q,hTO⟩,h1,h2,w1,w2,w3,w4,w5,w6,w7,w8⟩:=id st
  have D:ZipApart z TI TO i1 i2 a b:=⟨A.TIz,A.TOz,A.i1z,A.i2z,A.TITO,A.TIi1,A.TIi2,A.TOi1,A.TOi2,A.i12,Nat.ne_of_lt w1,w3,w5,w6,Nat.ne_of_lt w2,w4,w7,w8⟩
  refine O9 (I.ok.hd hc) D hz hTI hTO h1 h2 p1 p2 ?_ fun h' eb=>⟨rfl,I.turnedF (t':=s.toks) hf fun b u nb q=>eb b u (fun z=>nb (by simp[z])) (fun z=>nb (by simp[z])) (fun z=>nb (by simp[z])) (fun z=>nb (by simp[z])) q⟩
  rcases hx with hx|hx
  ·exact .inl (by simp;lia)
  ·exact .inr (by simp;lia)
 self:=fun _ _ _ _ _ st h=>wpAny_pyIter_zip st.1 h
section
variable {X:Cx}{E:XK}{pos p p2:Pos}{es:List Expr}{k:Nat}
def Zp4 (t1 t2:Bool)(K:PySem.W.Frag)(tl:TA):TI:=fun σ H R=>tl σ H fun vs H1=>∃a b,vs=[.ref a,.ref b]/\(∃xs,Sh t1 K H1 a xs)/\(∃ys,Sh t2 K H1 b ys)/\R (Zo0 t1 t2 K a b) H1
def Zfy (t1 t2:Bool){l m:Expr}{tl:TA} (hg:Gl X "zip") (hm:X.mg "zip"=none) (hl:PA X [l,m] tl) (hs:starEach [l,m] X.env=[(false,eval l X.env),(false,eval m X.env)]:=by rfl) (hs2:starEach [m] X.env=[(false,eval m X.env)]:=by rfl):
  PI X (.Tuple es k p2) (.Call (.Name "zip" p) [l,m] [] pos) (Zp4 t1 t2 X.K tl):=by
 intro pins s σ H R I h
 refine Call_ (Wr I hg hm boot_zip (PyProof.Rows.callWith_type1 (Yb (hl pos pins s σ H _ I h) fun us s1 ⟨vs,H1,I1,r1,q1⟩=>?_) (by rw[hs,hs2]) (by rw[hs2];rfl)))
 obtain⟨a,b,rfl,⟨xs,hq⟩,⟨ys,hq2⟩,q⟩:=q1
 obtain⟨u,w',rfl,rx,ry⟩:=Ru r1
 cases rx
 cases ry
 obtain⟨its,rv,pl⟩:=Vc I1 hq
 obtain⟨its2,rv2,pl2⟩:=Vc I1 hq2
 refine Zmp pl pl2 fun h' e1 e2 e3 e4 e5 e7=>wpAny_pyIter_zip e1 ?_
 have I2:Inv X pins σ H1 {s1 with heap:=h'}:=I1.kept (t':=s1.toks) e7
 have la:a<s1.heap.objs.size:=by obtain⟨o,z,_⟩:=pl;exact Heap.lt_size z
 have lb:b<s1.heap.objs.size:=by obtain⟨o,z,_⟩:=pl2;exact Heap.lt_size z
 refine⟨s1.heap.objs.size+4,[s1.heap.objs.size+4,s1.heap.objs.size+2,s1.heap.objs.size+3,s1.heap.objs.size,s1.heap.objs.size+1],_,_,H1,rfl,I2,Zaa t1 t2 a b (s1.heap.objs.size+4) (s1.heap.objs.size+2) (s1.heap.objs.size+3) s1.heap.objs.size (s1.heap.objs.size+1) (Zp2 _),
  ⟨e1,e2,⟨_,_,e3⟩,e4,e5,Nat.lt_of_lt_of_le la (Nat.le_add_right _ _),Nat.lt_of_lt_of_le lb (Nat.le_add_right _ _),Nat.ne_of_lt (Nat.lt_of_lt_of_le la (Nat.le_add_right _ _)),Nat.ne_of_lt (Nat.lt_of_lt_of_le lb (Nat.le_add_right _ _)),Nat.ne_of_lt la,Nat.ne_of_lt (Nat.lt_succ_of_lt la),Nat.ne_of_lt lb,Nat.ne_of_lt (Nat.lt_succ_of_lt lb)⟩,fun b hb=>?_,q⟩
 have hb:s1.heap.objs.size<=b:=by simp at hb;rcases hb with rfl|rfl|rfl|rfl|rfl<;>lia
 exact I1.fpOk hb (I1.hok.fresh hb)
def Zj6 {t1 t2:Bool}{K:PySem.W.Frag}{Hf H:Hp}{a b:Addr}{xs ys:List V}{ds es:List D}(h:Sh t1 K Hf a xs)(r:Reps K Hf ds xs)(h':Sh t2 K Hf b ys)(r':Reps K Hf es ys):R9 K Hf H (Zfv ds es) (Zo0 t1 t2 K a b):=by
 intro i Hf1 H1 e1 e2
 have h2:=Jn e2 (Jn e1 h)
 have h3:=Jn e2 (Jn e1 h')
 rw[Zce]
 cases q:ds[i]? with
 |none=>exact⟨xs,ys,h2,h3,.inl (List.getElem?_eq_none_iff.mp (r.none_of q))⟩
 |some d=>
  cases q':es[i]? with
  |none=>exact⟨xs,ys,h2,h3,.inr (List.getElem?_eq_none_iff.mp (r'.none_of q'))⟩
  |some e=>
   obtain⟨x,ex,rx⟩:=r.get q
   obtain⟨y,ey,ry⟩:=r'.get q'
   refine⟨⟨xs,ys,x,y,h2,h3,ex,ey⟩,fun v H2 hy=>?_⟩
   obtain⟨p,x',y',hp,rfl,rfl,hall,hall'⟩:=hy
   have ex':=hall xs h2
   rw[ex] at ex'
   cases ex'
   have ey':=hall' ys h3
   rw[ey] at ey'
   cases ey'
   exact⟨_,Gr.alloc e2 hp _,Gr.tup e2 hp (Reps.cons (rx.mono e1) (Reps.cons (ry.mono e1) Reps.nil))⟩
end
end DL
namespace DL
open PySem PySem.Spec PyProof.Rows L2 PySem.W
def Gq (s:Stmt)(j:Nat):Stmt:=match s with
 |.ClassDef _ _ _ body _ _ _ _ _ _ _=>body.getD j (.Pass ⟨0,0,0,0⟩)
 |_=>.Pass ⟨0,0,0,0⟩
def Ud (q:Nat->Nat->Option Bool){α:Type}:KasT α->Option α
 |.ret a=>some a
 |.ask i j k=>match q i j with
  |some b=>Ud q (k b)
  |none=>none
theorem Hg {q:Nat->Nat->Option Bool}{cmp:Nat->Nat->(Bool->Shared->Prop)->Shared->Prop}{α:Type}{Q:α->Shared->Prop}{s:Shared}{a:α}(hc:∀i j b C,q i j=some b->C b s->cmp i j C s):∀t:KasT α,Ud q t=some a->Q a s->t.kasWp cmp Q s
 |.ret b,e,h=>by
  cases (Option.some.inj (show some b=some a from e))
  exact h
 |.ask i j k,e,h=>by
  unfold Ud at e
  cases z:q i j with
  |none=>rw[z] at e;cases e
  |some b=>
   rw[z] at e
   exact hc i j b _ z (Hg hc (k b) e h)
def Zn0:V->V->Option Bool
 |.int a,.int b=>some (decide (a<b))
 |.str a,.str b=>some (decide (a.cps.toList<b.cps.toList))
 |_,_=>none
def Zmq:V->V->Option Bool
 |.int a,.int b=>some (a==b)
 |.str a,.str b=>some (a==b)
 |_,_=>none
def Zfz:List V->List V->Option Bool
 |[],[]=>some false
 |x::xs,y::ys=>match Zmq x y with
  |some true=>Zfz xs ys
  |some false=>Zn0 x y
  |none=>none
 |_,_=>none
section
variable {prog:Program}{w:World}{A:Around}{E:Value->Shared->Prop}{s:Shared}
def Zj7 {x y:V}{u v:Value}{b:Bool}{Q:Bool->Shared->Prop}(h:Zmq x y=some b)(rx:RelV x u)(ry:RelV y v)(q:Q b s):wpAny (model prog w) A (eqBool u v) Q E s:=by
 unfold Zmq at h
 split at h
 ·obtain⟨t,rfl⟩:=rx
  obtain⟨t',rfl⟩:=ry
  cases h
  exact wpAny_eqBool_int q
 ·obtain⟨t,rfl⟩:=rx
  obtain⟨t',rfl⟩:=ry
  cases h
  exact PyProof.Rows.eqBool_str q
 ·cases h
def Zj8 {o:Bool}{x y:V}{u v:Value}{b:Bool}{Q:Bool->Shared->Prop}(h:Zn0 x y=some b)(rx:RelV x u)(ry:RelV y v)(q:Q b s):wpAny (model prog w) A (oneLt' o u v) Q E s:=by
 unfold Zn0 at h
 split at h
 ·obtain⟨t,rfl⟩:=rx
  obtain⟨t',rfl⟩:=ry
  cases h
  cases o with
  |true=>exact oneLt_int q
  |false=>exact kat_one _ _ (PyProof.Rows.lt_int q)
 ·obtain⟨t,rfl⟩:=rx
  obtain⟨t',rfl⟩:=ry
  cases h
  cases o with
  |true=>exact PyProof.Rows.oneLt_str q
  |false=>exact kat_one _ _ (PyProof.Rows.lt_str q)
 ·cases h
theorem Zcq {o:Bool}{r:Bool}{Q:Bool->Shared->Prop}:∀{xs ys:List V}{us vs:List Value} (i:Nat),Zfz xs ys=some r->Vals xs us->Vals ys vs->Q r s->KatLex prog w A o false Q (us.zip vs) i s
 |[],[],_,_,i,h,.nil,.nil,q=>by
  cases (Option.some.inj (show some false=some r from h))
  exact kat_nil q
 |x::xs,y::ys,_,_,i,h,.cons rx r1,.cons ry r2,q=>by
  unfold Zfz at h
  refine kat_cons ?_
  cases z:Zmq x y with
  |none=>rw[z] at h;cases h
  |some b=>
   rw[z] at h
   refine Zj7 z rx ry ?_
   cases b with
   |true=>exact kat_yes (Zcq (i+1) h r1 r2 q)
   |false=>exact kat_no (Zj8 h rx ry q)
 |[],_::_,_,_,_,h,_,_,_=>by cases h
 |_::_,[],_,_,_,h,_,_,_=>by cases h
def Es {a:Addr}{vs:List Value}{n:Nat}{κ:SortKind}{q:Nat->Nat->Option Bool}{p:Array Nat}{P:Fin->Shared->Prop} (ho:s.heap.get? a=some (seqObj "list" vs.toArray n)) (h2:2<=vs.length) (h64:vs.length<64)
  (hk:∀h',(∀b o,b≠a->s.heap.get? b=some o->h'.get? b=some o)->∀Q:SortKind->Shared->Prop,Q κ {s with heap:=h'}->wpAny (model prog w) A (keyKind' vs.toArray) Q E {s with heap:=h'})
  (hq:∀h',(∀b o,b≠a->s.heap.get? b=some o->h'.get? b=some o)->∀i j b (C:Bool->Shared->Prop),q i j=some b->C b {s with heap:=h'}->kas_ask prog w A κ vs i j C {s with heap:=h'})
  (hp:Ud q (kas_sort vs.length)=some p) (h:p.size=vs.length->P (.done (.ret .none)) {s with heap:=sortedHeap s.heap a vs (p.toList.map fun i=>vs.getD i Value.none).toArray}):
  wpAny (model prog w) A (Builtin.«list.sort» ⟨[.ref a],[]⟩) P E s:=by
 have la:a<s.heap.objs.size:=Heap.lt_size ho
 obtain⟨e1,ho1⟩:∃e1,(s.heap.update a (Obj.mapSeq fun _=>#[])).get? a=some (seqObj "list" #[] e1):=⟨_,get?_update_seq ho fun _=>#[]⟩
 have keep:∀b o,b≠a->s.heap.get? b=some o->(((s.heap.update a (Obj.mapSeq fun _=>#[])).push (seqObj "tuple" vs.toArray 0)).push (seqObj "list" #[] 0)).get? b=some o:=
  fun b o nb e=>Heap.get?_push_of_some _ (Heap.get?_push_of_some _ ((Heap.get?_update_other _ _ (Ne.symm nb)).trans e))
 have ho6:(((s.heap.update a (Obj.mapSeq fun _=>#[])).push (seqObj "tuple" vs.toArray 0)).push (seqObj "list" #[] 0)).get? a=some (seqObj "list" #[] e1):=Heap.get?_push_of_some _ (Heap.get?_push_of_some _ ho1)
 have z1:vs.toArray.size<=sizeLine:=by rw[List.size_toArray,sizeLine_eq];lia
 have n2:¬vs.toArray.size<2:=by rw[List.size_toArray];lia
 rw[list_sort_plain]
 refine wpAny_bind (listItems_at ho rfl (wpAny_bind (listUpdate_at ho rfl (wpAny_bind (seqEpoch_at ho1 rfl (wpAny_bind (wpAny_newTuple (wpAny_bind (wpAny_newList (wpAny_holding ?_) (Nat.zero_le _))) (by simpa using z1))))) z1 (Nat.zero_le _))))
 dsimp only
 rw[if_neg n2,if_neg n2]
 refine wpAny_bind (hk _ keep _ ?_)
 have hz:(vs.toArray.zip vs.toArray)=pairsOf vs:=rfl
 refine wpAny_bind (wpAny_mono (kat_run (ks:=vs) (vs:=vs) (κ:=κ) (Q:=fun st' s'=>p.size=vs.length/\arrOf st'=p.map (kas_item (vs.toArray.zip vs.toArray))/\failedOf st'=none/\s'=_) (G:=fun p' s'=>p'=p/\s'=_) rfl h2 h64
  (fun p' st' s' a1 a2 a3 a4=>by obtain⟨rfl,e⟩:=a4;exact⟨a1,a2,a3,e⟩) (Hg (hq _ keep) _ hp ⟨rfl,rfl⟩)) ?_ fun _ _ x=>x)
 rintro⟨⟨⟩,st'⟩ s' ⟨zz,har,hf,rfl⟩
 dsimp only
 have hout:=kat_snds (ks:=vs) (vs:=vs) rfl har
 refine wpAny_bind (seqEpoch_at ho6 rfl (wpAny_bind (listUpdate_at ho6 rfl ?_ (Nat.zero_le _) (by rw[hout,List.size_toArray,List.length_map,Array.length_toList,zz,sizeLine_eq];lia))))
 rw[hf]
 simp only[bne_self_eq_false,Bool.false_eq_true,if_false]
 rw[hout]
 exact wpAny_pure (h zz)
def Cj {t:Bool}{l:Addr}{vs:List Value}{Q:List Value->Shared->Prop}(hl:SqK t s.heap l vs.toArray) (h:Q vs {s with heap:=(s.heap.push (seqObj "list" #[] 0)).update s.heap.objs.size (Obj.mapSeq (·++vs.toArray))}) (hz:vs.length<=sizeLine):
  wpAny (model prog w) A (collect (.ref l)) Q E s:=by
 cases t with
 |false=>exact collect_list (show s.heap.IsList l vs.toArray from hl) h hz
 |true=>
  obtain⟨o,ho,hc,n,hd⟩:=id hl
  have ho':(s.heap.push (seqObj "list" #[] 0)).get? l=some o:=Heap.get?_push_of_some _ ho
  have hn:(s.heap.push (seqObj "list" #[] 0)).get? s.heap.objs.size=some (seqObj "list" #[] 0):=Heap.get?_push_size _ rfl
  unfold collect
  refine wpAny_bind (wpAny_runValue (codeAny_builtin entry_proto_collect' (wpAny_bind (m:=newList []) (wpAny_newList (wpAny_pure ⟨Code.quiet_builtin _ (by decide +kernel),codeAny_builtin entry_list_iadd' ?_⟩)))))
  change wpAny _ _ (Builtin.List.listExtendWith _ _ _) _ _ _
  unfold Builtin.List.listExtendWith
  refine wpAny_bind (wpAny_typeOf (T:="tuple") ⟨o,ho',hc⟩ ?_)
  have ht:(Value.type "tuple"== Value.type "tuple")=true:=by rfl
  rw[if_pos (by rw[ht];simp)]
  refine wpAny_bind (listItems_at ho' hd (wpAny_bind (listItems_at hn rfl ?_)))
  rw[if_neg (by simp)]
  refine wpAny_bind (listUpdate_at hn rfl (wpAny_pure ?_) (Nat.zero_le _) (by show(#[]++vs.toArray).size<=_;simp only[Array.size_append,List.size_toArray,List.length_nil];lia))
  change wpAny _ _ (do
   let o <-load s.heap.objs.size
   match o.data with
   |.seq xs _=>pure xs.toList
   |_=>unsupported "internal:collect") Q E _
  refine wpAny_bind (wpAny_load (get?_update_seq hn _) ?_)
  change wpAny _ _ (pure ((#[]:Array Value)++vs.toArray).toList) Q E _
  have e0:((#[]:Array Value)++vs.toArray).toList=vs:=by simp
  rw[e0]
  exact wpAny_pure h
def Zf0 {t:Bool}{l:Addr}{vs:List Value}{κ:SortKind}{q:Nat->Nat->Option Bool}{p:Array Nat}{Q:Value->Shared->Prop}(hl:SqK t s.heap l vs.toArray)(h2:2<=vs.length)(h64:vs.length<64)(hk:∀A' E' h',(∀b o,s.heap.get? b=some o->h'.get? b=some o)->∀Q:SortKind->Shared->Prop,Q κ {s with heap:=h'}->wpAny (model prog w) A' (keyKind' vs.toArray) Q E' {s with heap:=h'})(hq:∀A' h',(∀b o,s.heap.get? b=some o->h'.get? b=some o)->∀i j b (C:Bool->Shared->Prop),q i j=some b->C b {s with heap:=h'}->kas_ask prog w A' κ vs i j C {s with heap:=h'})(hp:Ud q (kas_sort vs.length)=some p)(h:p.size=vs.length->Q (.ref (s.heap.objs.size+1)) {s with heap:=sortedAll s.heap vs (p.toList.map fun i=>vs.getD i Value.none).toArray}):
  wpAny (model prog w) A (call (.builtin "sorted") [.ref l]) Q E s:=by
 have z1:vs.length<=sizeLine:=by rw[sizeLine_eq];lia
 refine Calls.call_function_entry kind_sorted plain_sorted entry_sorted (args_sorted1 _) ?_
 unfold Builtin.«sorted»
 refine wpAny_bind (m:=checkCount "sorted" 1 1 _) (wpAny_pure (wpAny_bind (Cj hl (wpAny_bind (wpAny_newList ?_ z1)) z1)))
 have hsz:((s.heap.push (seqObj "list" #[] 0)).update s.heap.objs.size (Obj.mapSeq (·++vs.toArray))).objs.size=s.heap.objs.size+1:=(Heap.size_update ..).trans (size_push' ..)
 have hoL:(((s.heap.push (seqObj "list" #[] 0)).update s.heap.objs.size (Obj.mapSeq (·++vs.toArray))).push (seqObj "list" vs.toArray 0)).get? (s.heap.objs.size+1)=some (seqObj "list" vs.toArray 0):=hsz▸Heap.get?_push_size _ rfl
 have keep:∀b o,s.heap.get? b=some o->(((s.heap.push (seqObj "list" #[] 0)).update s.heap.objs.size (Obj.mapSeq (·++vs.toArray))).push (seqObj "list" vs.toArray 0)).get? b=some o:=fun b o e=>
  Heap.get?_push_of_some _ ((Heap.get?_update_other _ _ (Nat.ne_of_gt (Heap.lt_size e))).trans (Heap.get?_push_of_some _ e))
 have nb:∀b o,s.heap.get? b=some o->b≠s.heap.objs.size+1:=fun b o e=>Nat.ne_of_lt (Nat.lt_succ_of_lt (Heap.lt_size e))
 change wpAny _ _ _ _ _ {s with heap:=((s.heap.push (seqObj "list" #[] 0)).update s.heap.objs.size (Obj.mapSeq (·++vs.toArray))).push (seqObj "list" vs.toArray 0)}
 rw[hsz]
 refine wpAny_bind (wpAny_holding (wpAny_call_entry slot_list_sort ⟨_,hoL,rfl⟩ entry_list_sort (Es (κ:=κ) (q:=q) (p:=p) hoL h2 h64 (fun h' e Q hQ=>hk _ _ h' (fun b o z=>e b o (nb b o z) (keep b o z)) Q hQ)
  (fun h' e=>hq _ h' fun b o z=>e b o (nb b o z) (keep b o z)) hp fun hz=>⟨_,rfl,wpAny_pure ⟨_,rfl,h hz⟩⟩) (args_list_sort _)))
def Et {a:Addr}{vs:List Value}{n:Nat}{P:Fin->Shared->Prop} (ho:s.heap.get? a=some (seqObj "list" vs.toArray n)) (h2:vs.length<2)
  (h:P (.done (.ret .none)) {s with heap:=sortedHeap s.heap a vs vs.toArray}):wpAny (model prog w) A (Builtin.«list.sort» ⟨[.ref a],[]⟩) P E s:=by
 obtain⟨e1,ho1⟩:∃e1,(s.heap.update a (Obj.mapSeq fun _=>#[])).get? a=some (seqObj "list" #[] e1):=⟨_,get?_update_seq ho fun _=>#[]⟩
 have ho6:(((s.heap.update a (Obj.mapSeq fun _=>#[])).push (seqObj "tuple" vs.toArray 0)).push (seqObj "list" #[] 0)).get? a=some (seqObj "list" #[] e1):=Heap.get?_push_of_some _ (Heap.get?_push_of_some _ ho1)
 have z1:vs.toArray.size<=sizeLine:=by rw[List.size_toArray,sizeLine_eq];lia
 rw[list_sort_plain]
 refine wpAny_bind (listItems_at ho rfl (wpAny_bind (listUpdate_at ho rfl (wpAny_bind (seqEpoch_at ho1 rfl (wpAny_bind (wpAny_newTuple (wpAny_bind (wpAny_newList (wpAny_holding ?_) (Nat.zero_le _))) (by simpa using z1))))) z1 (Nat.zero_le _))))
 dsimp only
 have n2:vs.toArray.size<2:=by rw[List.size_toArray];exact h2
 rw[if_pos n2,if_pos n2]
 refine wpAny_bind (wpAny_pure ?_)
 rw[StateT.run_pure]
 refine wpAny_bind (wpAny_pure ?_)
 dsimp only
 have eo:(vs.toArray.zip vs.toArray).map (·.2)=vs.toArray:=by
  apply Array.toList_inj.mp
  rw[Array.toList_map,Array.toList_zip,List.map_snd_zip]
  lia
 refine wpAny_bind (seqEpoch_at ho6 rfl (wpAny_bind (listUpdate_at ho6 rfl ?_ (Nat.zero_le _) (by show((vs.toArray.zip vs.toArray).map (·.2)).size<=_;rw[eo];lia))))
 simp only[bne_self_eq_false,Bool.false_eq_true,if_false]
 change wpAny _ _ (ret .none) _ _ {s with heap:=sortedHeap s.heap a vs ((vs.toArray.zip vs.toArray).map (·.2))}
 rw[eo]
 exact wpAny_pure h
def Zf1 {t:Bool}{l:Addr}{vs:List Value}{Q:Value->Shared->Prop}(hl:SqK t s.heap l vs.toArray)(h2:vs.length<2)(h:Q (.ref (s.heap.objs.size+1)) {s with heap:=sortedAll s.heap vs vs.toArray}):
  wpAny (model prog w) A (call (.builtin "sorted") [.ref l]) Q E s:=by
 have z1:vs.length<=sizeLine:=by rw[sizeLine_eq];lia
 refine Calls.call_function_entry kind_sorted plain_sorted entry_sorted (args_sorted1 _) ?_
 unfold Builtin.«sorted»
 refine wpAny_bind (m:=checkCount "sorted" 1 1 _) (wpAny_pure (wpAny_bind (Cj hl (wpAny_bind (wpAny_newList ?_ z1)) z1)))
 have hsz:((s.heap.push (seqObj "list" #[] 0)).update s.heap.objs.size (Obj.mapSeq (·++vs.toArray))).objs.size=s.heap.objs.size+1:=(Heap.size_update ..).trans (size_push' ..)
 have hoL:(((s.heap.push (seqObj "list" #[] 0)).update s.heap.objs.size (Obj.mapSeq (·++vs.toArray))).push (seqObj "list" vs.toArray 0)).get? (s.heap.objs.size+1)=some (seqObj "list" vs.toArray 0):=hsz▸Heap.get?_push_size _ rfl
 change wpAny _ _ _ _ _ {s with heap:=((s.heap.push (seqObj "list" #[] 0)).update s.heap.objs.size (Obj.mapSeq (·++vs.toArray))).push (seqObj "list" vs.toArray 0)}
 rw[hsz]
 exact wpAny_bind (wpAny_holding (wpAny_call_entry slot_list_sort ⟨_,hoL,rfl⟩ entry_list_sort (Et hoL h2 ⟨_,rfl,wpAny_pure ⟨_,rfl,h⟩⟩) (args_list_sort _)))
end
def Gs:List V->Bool
 |.str _::_=>true
 |_=>false
def Gu:List V->Bool
 |.int _::_=>true
 |_=>false
def RowsH (h:Heap):List Value->List (List V)->Prop:=Paired fun u y=>∃a us,u=Value.ref a/\IsTup h a us.toArray/\Vals y us
def RowsH.mono {h h':Heap}{us:List Value}{ys:List (List V)}(k:∀b o,h.get? b=some o->h'.get? b=some o)(r:RowsH h us ys):RowsH h' us ys:=
 Paired.mapP r fun u y q=>by
  obtain⟨a,vs,e,⟨o,e1,e2⟩,e3⟩:=q
  exact⟨a,vs,e,⟨o,k _ _ e1,e2⟩,e3⟩
theorem RowsH.firstS {h:Heap}:∀{us:List Value}{ys:List (List V)},RowsH h us ys->ys.all Gs=true->∃fs,KatTups h us fs/\(∀v∈fs,∃x t,v=Value.str x t)/\fs.length=us.length
 |_,_,.nil,_=>⟨[],KatTups.nil,fun v hv=>(by cases hv),rfl⟩
 |_,y::ys,.cons q r,hs=>by
  rw[List.all_cons,Bool.and_eq_true] at hs
  obtain⟨fs,k1,k2,k3⟩:=RowsH.firstS r hs.2
  obtain⟨a,vs,rfl,⟨o,e1,e2,n,e3⟩,e4⟩:=q
  cases y with
  |nil=>simp[Gs] at hs
  |cons z y=>
   cases z with
   |str x=>
    cases e4 with
    |cons rx rr=>
     obtain⟨t,rfl⟩:=rx
     exact⟨Value.str x t::fs,KatTups.cons e1 e2 e3 (by simp) k1,fun v hv=>by
      rcases List.mem_cons.mp hv with rfl|hv
      ·exact⟨x,t,rfl⟩
      ·exact k2 v hv,by rw[List.length_cons,List.length_cons,k3]⟩
   |_=>simp[Gs] at hs
theorem RowsH.firstI {h:Heap}:∀{us:List Value}{ys:List (List V)},RowsH h us ys->ys.all Gu=true->∃fs,KatTups h us fs/\(∀v∈fs,∃x t,v=Value.int x t)/\fs.length=us.length
 |_,_,.nil,_=>⟨[],KatTups.nil,fun v hv=>(by cases hv),rfl⟩
 |_,y::ys,.cons q r,hs=>by
  rw[List.all_cons,Bool.and_eq_true] at hs
  obtain⟨fs,k1,k2,k3⟩:=RowsH.firstI r hs.2
  obtain⟨a,vs,rfl,⟨o,e1,e2,n,e3⟩,e4⟩:=q
  cases y with
  |nil=>simp[Gu] at hs
  |cons z y=>
   cases z with
   |int x=>
    cases e4 with
    |cons rx rr=>
     obtain⟨t,rfl⟩:=rx
     exact⟨Value.int x t::fs,KatTups.cons e1 e2 e3 (by simp) k1,fun v hv=>by
      rcases List.mem_cons.mp hv with rfl|hv
      ·exact⟨x,t,rfl⟩
      ·exact k2 v hv,by rw[List.length_cons,List.length_cons,k3]⟩
   |_=>simp[Gu] at hs
theorem RowsH.get {h:Heap}:∀{us:List Value}{ys:List (List V)}{i:Nat}{y:List V},RowsH h us ys->ys[i]?=some y->∃a vs,us.getD i Value.none=Value.ref a/\IsTup h a vs.toArray/\Vals y vs
 |_,_,_,_,.nil,e=>by simp at e
 |_,_,0,_,.cons q _,e=>by
  simp at e
  subst e
  obtain⟨a,vs,rfl,e1,e2⟩:=q
  exact⟨a,vs,rfl,e1,e2⟩
 |_,_,i+1,_,.cons _ r,e=>by
  obtain⟨a,vs,e1,e2,e3⟩:=RowsH.get (i:=i) r (by simpa using e)
  exact⟨a,vs,by simpa using e1,e2,e3⟩
def Tv (ys:List (List V))(i j:Nat):Option Bool:=match ys[i]?,ys[j]? with
 |some x,some y=>if x.length=y.length then Zfz x y else none
 |_,_=>none
def Zf2 {prog:Program}{w:World}{A:Around}{s:Shared}{o:Bool}{us:List Value}{ys:List (List V)}(r:RowsH s.heap us ys){i j:Nat}{b:Bool}{C:Bool->Shared->Prop}(e:Tv ys i j=some b)(h:C b s):kas_ask prog w A (tuples' o) us i j C s:=by
 unfold Tv at e
 split at e
 ·rename_i x y ex ey
  split at e
  ·rename_i hl
   obtain⟨a,vs,e1,⟨o1,e2,_,n,e3⟩,e4⟩:=r.get ex
   obtain⟨a',vs',e1',⟨o1',e2',_,n',e3'⟩,e4'⟩:=r.get ey
   unfold kas_ask
   rw[e1,e1']
   refine kat_lt e2 e3 e2' e3' ?_
   have l1:=e4.length
   have l2:=e4'.length
   have:decide (vs.toArray.size<vs'.toArray.size)=false:=decide_eq_false (by rw[List.size_toArray,List.size_toArray];lia)
   rw[this]
   exact Zcq 0 e e4 e4' h
  ·cases e
 ·cases e
def RowsT (H:Hp):List V->List (List V)->Prop:=Paired fun z y=>∃a,z=V.ref a/\H a=some (.tup y)
theorem Zcr {X:Cx}{pins:List (Addr×Obj)}{σ:L2.St}{H:Hp}{s:Shared}(I:Inv X pins σ H s):∀{zs:List V}{ys:List (List V)}{us:List Value},RowsT H zs ys->Vals zs us->RowsH s.heap us ys
 |_,_,_,.nil,.nil=>.nil
 |_,_,_,.cons q r,.cons v t=>.cons (by
   obtain⟨a,rfl,e⟩:=q
   cases v
   obtain⟨its,rv,p,_⟩:=I.tuple (SqT.of e)
   exact⟨a,its,rfl,p,rv⟩) (Zcr I r t)
theorem L5 {zs:List V}{us:List Value}(r:Vals zs us):∀l:List Nat,Vals (l.map fun i=>zs.getD i .non) (l.map fun i=>us.getD i Value.none)
 |[]=>.nil
 |i::l=>.cons (by
   by_cases h:i<zs.length
   ·obtain⟨u,e1,e2⟩:=r.get (List.getElem?_eq_getElem h)
    dsimp only
    rw[List.getD_eq_getElem?_getD,List.getD_eq_getElem?_getD,e1,List.getElem?_eq_getElem h]
    exact e2
   ·have h1:zs[i]?=none:=List.getElem?_eq_none_iff.mpr (by lia)
    have h2:us[i]?=none:=r.none_of h1
    dsimp only
    rw[List.getD_eq_getElem?_getD,List.getD_eq_getElem?_getD,h1,h2]
    exact rfl) (L5 r l)
section
variable {X:Cx}{E:XK}
def Eu:CallR X (.builtin "sorted") (fun xs H Q=>∃(t:Bool) (p:Addr) (zs:List V) (ys:List (List V)) (q:Array Nat),xs=[.ref p]/\Sh t X.K H p zs/\RowsT H zs ys/\2<=zs.length/\zs.length<64/\(ys.all Gs||ys.all Gu)=true /\
  Ud (Tv ys) (kas_sort zs.length)=some q/\∀l,H l=none->Q (.ref l) (upd H l (.lst (q.toList.map fun i=>zs.getD i .non)))):=by
 intro pins s σ H xs us Q I r h
 obtain⟨t,p,zs,ys,q,rfl,hp,hr,h2,h64,hh,hq,k⟩:=h
 obtain⟨u,rfl,rx⟩:=Wq r
 cases rx
 obtain⟨its,rv,pl⟩:=Vc I hp
 have hl:=rv.length
 have rows:=Zcr I hr rv
 have kind:∃o:Bool,∀A' E' h',(∀b o,s.heap.get? b=some o->h'.get? b=some o)->∀Q:SortKind->Shared->Prop,Q (tuples' o) {s with heap:=h'}->wpAny (model X.prog X.w) A' (keyKind' its.toArray) Q E' {s with heap:=h'}:=by
  rcases Bool.or_eq_true _ _▸hh with hh|hh
  ·refine⟨Value.type "str" != Value.type "tuple", fun A' E' h' e Q hQ=>?_⟩
   obtain⟨fs,k1,k2,k3⟩:=(rows.mono e).firstS hh
   exact kat_kind (s:={s with heap:=h'}) (T:=Value.type "str") k1 (by lia) (fun v hv=>by obtain⟨x,t,rfl⟩:=k2 v hv;exact Looks.of_pure rfl) (by rfl) hQ
  ·refine⟨Value.type "int" != Value.type "tuple", fun A' E' h' e Q hQ=>?_⟩
   obtain⟨fs,k1,k2,k3⟩:=(rows.mono e).firstI hh
   exact kat_kind (s:={s with heap:=h'}) (T:=Value.type "int") k1 (by lia) (fun v hv=>by obtain⟨x,t,rfl⟩:=k2 v hv;exact Looks.of_pure rfl) (by rfl) hQ
 obtain⟨o,kind⟩:=kind
 refine Zf0 (κ:=tuples' o) (q:=Tv ys) (p:=q) pl (by lia) (by lia) kind (fun A' h' e i j b C z c=>Zf2 (s:={s with heap:=h'}) (rows.mono e) z c) (by rw[<-hl];exact hq) fun hz=>?_
 obtain⟨n,he⟩:=sortedAll_at s.heap its (q.toList.map fun i=>its.getD i Value.none).toArray
 refine⟨.ref (s.heap.objs.size+1),_,I.laid (t':=s.toks) (o:=.lst (q.toList.map fun i=>zs.getD i .non)) (fun b o e=>sortedAll_old e) (Nat.le_succ _) ?_,rfl,k _ (I.hok.fresh (Nat.le_succ _))⟩
 refine⟨?_,(q.toList.map fun i=>its.getD i Value.none),n,L5 rv _,by simpa using he⟩
 rw[List.length_map,Array.length_toList,hz,sizeLine_eq]
 lia
def Ck:CallR X (.builtin "sorted") (fun xs H Q=>(∃(t:Bool) (p:Addr) (zs:List V),xs=[.ref p]/\Sh t X.K H p zs/\zs.length<2/\∀l,H l=none->Q (.ref l) (upd H l (.lst zs))) \/
  ∃(t:Bool) (p:Addr) (zs:List V) (ys:List (List V)) (q:Array Nat),xs=[.ref p]/\Sh t X.K H p zs/\RowsT H zs ys/\2<=zs.length/\zs.length<64/\(ys.all Gs||ys.all Gu)=true /\
  Ud (Tv ys) (kas_sort zs.length)=some q/\∀l,H l=none->Q (.ref l) (upd H l (.lst (q.toList.map fun i=>zs.getD i .non)))):=by
 intro pins s σ H xs us Q I r h
 rcases h with h|h
 ·obtain⟨t,p,zs,rfl,hp,h2,k⟩:=h
  obtain⟨u,rfl,rx⟩:=Wq r
  cases rx
  obtain⟨its,rv,pl⟩:=Vc I hp
  have hl:=rv.length
  refine Zf1 pl (by lia) ?_
  obtain⟨n,he⟩:=sortedAll_at s.heap its its.toArray
  refine⟨.ref (s.heap.objs.size+1),_,I.laid (t':=s.toks) (o:=.lst zs) (fun b o e=>sortedAll_old e) (Nat.le_succ _) ?_,rfl,k _ (I.hok.fresh (Nat.le_succ _))⟩
  refine⟨?_,its,n,rv,by simpa using he⟩
  rw[sizeLine_eq]
  lia
 ·exact Eu _ _ _ _ _ _ _ I r h
def Zcs:D->Option V
 |.int i=>some (.int i)
 |.str x=>some (.str x)
 |_=>none
def Bn:List D->Option (List V)
 |[]=>some []
 |d::r=>match Zcs d,Bn r with
  |some v,some vs=>some (v::vs)
  |_,_=>none
def Si:List D->Option (List (List V))
 |[]=>some []
 |.tup ds::r=>match Bn ds,Si r with
  |some v,some vs=>some (v::vs)
  |_,_=>none
 |_::_=>none
def Zab {K:PySem.W.Frag}{H:Hp}{d:D}{v x:V}(e:Zcs d=some v)(r:Rep K H d x):x=v:=by
 unfold Zcs at e
 split at e
 ·cases e;exact rep_int.mp r
 ·cases e;exact rep_str.mp r
 ·cases e
theorem Ps {K:PySem.W.Frag}{H:Hp}:∀{ds:List D}{vs xs:List V},Bn ds=some vs->Reps K H ds xs->xs=vs
 |[],vs,xs,e,r=>by
  cases e
  exact reps_nil.mp r
 |d::ds,vs,xs,e,r=>by
  obtain⟨x,t,rfl,h1,h2⟩:=reps_cons.mp r
  unfold Bn at e
  split at e
  ·rename_i a b ea eb
   cases e
   rw[Zab ea h1,Ps eb h2]
  ·cases e
theorem Sj {K:PySem.W.Frag}{H:Hp}:∀{ds:List D}{ys:List (List V)}{xs:List V},Si ds=some ys->Reps K H ds xs->RowsT H xs ys
 |[],ys,xs,e,r=>by
  cases e
  rw[reps_nil.mp r]
  exact .nil
 |d::ds,ys,xs,e,r=>by
  obtain⟨x,t,rfl,h1,h2⟩:=reps_cons.mp r
  cases d with
  |tup es=>
   unfold Si at e
   split at e
   ·rename_i a b ea eb
    cases e
    obtain⟨p,us,rfl,hp,hr⟩:=rep_tup.mp h1
    have:=Ps ea hr
    subst this
    exact .cons ⟨p,rfl,hp⟩ (Sj eb h2)
   ·cases e
  |_=>cases e
def RowsT.mono {H H':Hp}{xs:List V}{ys:List (List V)}(e:Same H H')(r:RowsT H xs ys):RowsT H' xs ys:=Paired.mapP r fun _ _ q=>by
 obtain⟨a,h1,h2⟩:=q
 exact⟨a,h1,e _ _ h2⟩
theorem L6 {K:PySem.W.Frag}{H:Hp}{ds:List D}{zs:List V}(r:Reps K H ds zs):∀l:List Nat,Reps K H (l.map fun i=>ds.getD i .non) (l.map fun i=>zs.getD i .non)
 |[]=>Reps.nil
 |i::l=>Reps.cons (by
   by_cases h:i<ds.length
   ·obtain⟨x,e1,e2⟩:=r.get (List.getElem?_eq_getElem h)
    dsimp only
    rw[List.getD_eq_getElem?_getD,List.getD_eq_getElem?_getD,e1,List.getElem?_eq_getElem h]
    exact e2
   ·have h1:ds[i]?=none:=List.getElem?_eq_none_iff.mpr (by lia)
    have h2:zs[i]?=none:=r.none_of h1
    dsimp only
    rw[List.getD_eq_getElem?_getD,List.getD_eq_getElem?_getD,h1,h2]
    exact rep_non.mpr rfl) (L6 r l)
def Bo (ds:List D):M D:=match Si ds with
 |some ys=>if 2<=ds.length/\ds.length<64/\(ys.all Gs||ys.all Gu)=true then(match Ud (Tv ys) (kas_sort ds.length) with
   |some p=>.ok (.lst (p.toList.map fun i=>ds.getD i .non))
   |none=>.bad) else .bad
 |none=>.bad
def N5 (ds:List D):M D:=if ds.length<2 then .ok (.lst ds) else Bo ds
def Sk:List D->M D
 |[.lst ds]=>N5 ds
 |[.tup ds]=>N5 ds
 |_=>.bad
def Zac {t:Bool}{Hf H:Hp}{p:Addr}{zs:List V}{ds:List D}{Q:VK}(e:Same Hf H)(hp:Sh t X.K Hf p zs)(hr:Reps X.K Hf ds zs)(q:Po X.K E (rV X.K) Hf H (Bo ds) Q):
  ∃(t:Bool) (p':Addr) (zs:List V) (ys:List (List V)) (q:Array Nat),[V.ref p]=[V.ref p']/\Sh t X.K H p' zs/\RowsT H zs ys/\2<=zs.length/\zs.length<64/\(ys.all Gs||ys.all Gu)=true /\
  Ud (Tv ys) (kas_sort zs.length)=some q/\∀l,H l=none->Q (.ref l) (upd H l (.lst (q.toList.map fun i=>zs.getD i .non))):=by
 unfold Bo at q
 have hl:=hr.length
 split at q
 ·rename_i ys ey
  split at q
  ·rename_i hc
   split at q
   ·rename_i a ea
    exact⟨t,p,zs,ys,a,rfl,Jn e hp,(Sj ey hr).mono e,by lia,by lia,hc.2.2,by rw[<-hl];exact ea,fun l hl=>q _ _ _ (Gr.alloc e hl _) (Gr.lst e hl (L6 hr _))⟩
   ·exact q.elim
  ·exact q.elim
 ·exact q.elim
def L7 {t:Bool}{Hf H:Hp}{p:Addr}{zs:List V}{ds:List D}{Q:VK}(e:Same Hf H)(hp:Sh t X.K Hf p zs)(hr:Reps X.K Hf ds zs)(q:Po X.K E (rV X.K) Hf H (N5 ds) Q):
  (∃(t:Bool) (p':Addr) (zs:List V),[V.ref p]=[V.ref p']/\Sh t X.K H p' zs/\zs.length<2/\∀l,H l=none->Q (.ref l) (upd H l (.lst zs))) \/
  ∃(t:Bool) (p':Addr) (zs:List V) (ys:List (List V)) (q:Array Nat),[V.ref p]=[V.ref p']/\Sh t X.K H p' zs/\RowsT H zs ys/\2<=zs.length/\zs.length<64/\(ys.all Gs||ys.all Gu)=true /\
  Ud (Tv ys) (kas_sort zs.length)=some q/\∀l,H l=none->Q (.ref l) (upd H l (.lst (q.toList.map fun i=>zs.getD i .non))):=by
 unfold N5 at q
 split at q
 ·rename_i h
  have hl:=hr.length
  exact .inl ⟨t,p,zs,rfl,Jn e hp,by lia,fun l hl=>q _ _ _ (Gr.alloc e hl _) (Gr.lst e hl hr)⟩
 ·exact .inr (Zac e hp hr q)
def Zct:Uk X E (.builtin "sorted") Sk:=by
 refine⟨_,Ck,fun Hf H xs ds Q e r q=>?_⟩
 unfold Sk at q
 split at q
 ·obtain⟨x,rfl,h⟩:=K8 r
  obtain⟨p,ys,rfl,hp,hr⟩:=rep_lst.mp h
  exact L7 (t:=false) e hp hr q
 ·obtain⟨x,rfl,h⟩:=K8 r
  obtain⟨p,ys,rfl,hp,hr⟩:=Qc h
  exact L7 (t:=true) e hp hr q
 ·exact q.elim
def Zf3 (K:PySem.W.Frag)(a:Addr)(cs:List V):Bool:=match K.lookup a with
 |some o=>(match o.cls,o.data with
  |.type n,.seq its _=>decide (n="tuple")&&decide (its.size<=1000)&&decide (its.toList.map Zez=cs.map some)&&cs.all Zbr
  |_,_=>false)
 |none=>false
theorem Pt:∀{cs:List V}{us:List Value},us.map Zez=cs.map some->cs.all Zbr=true->Vals cs us
 |[],[],_,_=>.nil
 |c::cs,u::us,e,f=>by
  rw[List.map_cons,List.map_cons] at e
  injection e with e1 e2
  rw[List.all_cons,Bool.and_eq_true] at f
  refine .cons ?_ (Pt e2 f.2)
  cases u<;>simp[Zez] at e1<;>subst e1<;>first|exact rfl|exact⟨_,rfl⟩
 |[],_::_,e,_=>by simp at e
 |_::_,[],e,_=>by simp at e
def Hh {K:PySem.W.Frag}{H:Hp}{a:Addr}{cs:List V}(h:Zf3 K a cs=true):SqT K H a cs/\cs.all Zbr=true:=by
 unfold Zf3 at h
 split at h
 ·rename_i o eo
  split at h
  ·rename_i n its m e1 e2
   rw[Bool.and_eq_true,Bool.and_eq_true,Bool.and_eq_true] at h
   obtain⟨⟨⟨h1,h2⟩,h3⟩,h4⟩:=h
   have h1:=of_decide_eq_true h1
   subst h1
   refine⟨.inr ⟨o,its,m,eo,e1,e2,?_,Pt (of_decide_eq_true h3) h4⟩,h4⟩
   have:=of_decide_eq_true h2
   rw[sizeLine_eq]
   lia
  ·cases h
 ·cases h
variable {e:Expr}{x:Str}{pos p2:Pos}{a:Addr}{cs:List V}{f:Zf->M D}
def Zmr (to ti tv:TE):TS:=fun D σ H=>tv σ H fun v H1=>to σ H1 fun o H2=>ti σ H2 fun i H3=>Zhy o i v H3 fun H4=>D.nx σ H4
def Zf4 {o i value:Expr}{to ti tv:TE}{pos':Pos}(ho:PE X o to)(hi:PE X i ti)(hv:PE X value tv)(hs:swapsWith value (some (.Subscript o i pos')) pos.line X.env=pure false):PS X (.Assign [.Subscript o i pos'] value pos) (Zmr to ti tv):=by
 intro pins s σ H D I h
 refine wpAny_Assign_Subscript (Yb (hv pins s σ H _ I h) fun r s1 ⟨v,H1,I1,rv,q1⟩=>Yb (ho pins s1 σ H1 _ I1 q1) fun u s2 ⟨x,H2,I2,rx,q2⟩=>Yb (hi pins s2 σ H2 _ I2 q2) fun iv s3 ⟨y,H3,I3,ry,q3⟩=>?_) hs
 exact Yb (Zbq pins s3 σ H3 x y v u iv r _ I3 rx ry rv q3) fun _ s4 ⟨H4,I4,q4⟩=>⟨σ,H4,I4,q4⟩
theorem Reps.set {K:PySem.W.Frag}{H:Hp}{d:D}{x:V}(h:Rep K H d x):∀{ds:List D}{xs:List V} (j:Nat),Reps K H ds xs->Reps K H (ds.set j d) (xs.set j x)
 |[],_,_,r=>by rw[reps_nil.mp r];exact Reps.nil
 |_::ds,_,0,r=>by
  obtain⟨y,t,rfl,_,q⟩:=reps_cons.mp r
  exact Reps.cons h q
 |_::ds,_,j+1,r=>by
  obtain⟨y,t,rfl,z,q⟩:=reps_cons.mp r
  exact Reps.cons z (Reps.set h j q)
def Hi (i:Nat)(fk fv:Zf->M D)(sd:Zf):M O:=match sd[i]? with
 |some (some (.ow ds))=>(fv sd).bind fun v=>(fk sd).bind fun k=>match k with
  |.int n=>(match Zfc ds.length n with
   |some j=>.ok (.nx (sd.set i (some (.ow (ds.set j v)))))
   |none=>.bad)
  |_=>.bad
 |_=>.bad
def Zcu (i:Nat){key value:Expr}{p1 pos':Pos}{fk fv:Zf->M D}(hk:Yn X E key fk)(hv:Yn X E value fv)(hi:X.N[i]?=some x:=by rfl)(hvis:Pz X.env.scope x:=by trivial)
  (hd:(x==("__debug__":Str))=false:=by decide) (hcd:(x==("__classdict__":Str))=false:=by decide) (hs:swapsWith value (some (.Subscript (.Name x p1) key pos')) pos.line X.env=pure false:=by rfl):
  Ga X E (.Assign [.Subscript (.Name x p1) key pos'] value pos) (Hi i fk fv):=by
 obtain⟨tk,pk,qk⟩:=hk
 obtain⟨tv,pv,qv⟩:=hv
 refine⟨_,Zf4 (Z9 hi hvis hd hcd) pk pv hs,fun H0 B Hf sd σ H D sr h=>?_⟩
 unfold Hi at h
 split at h
 ·rename_i ds et
  obtain⟨p,z1,z2,z3,xs0,z4,z5⟩:=sr.ow i _ et rfl
  refine qv H0 B Hf sd σ H _ sr (PoS.bind sr h fun dv v Hf1 H1 _ g1 sr1 rv h1=>?_)
  refine⟨_,z1,?_⟩
  refine qk H0 B Hf1 sd σ H1 _ sr1 (PoS.bind sr1 h1 fun dk y Hf2 H2 _ g2 sr2 ry h2=>?_)
  obtain⟨p',z1',_,_,xs,w4,w5⟩:=sr2.ow i _ et rfl
  rw[z1] at z1'
  cases z1'
  split at h2
  ·rename_i n _
   split at h2
   ·rename_i j ej
    have hl:=w5.length
    exact⟨p,xs,n,j,rfl,rep_int.mp ry,w4,by rw[<-hl];exact ej,h2 _ Hf2 _ (Same.refl _) (sr2.change et rfl z1 rfl ⟨_,Zo,Reps.set (Rep.mono g2.fz rv) j w5⟩)⟩
   ·exact h2.elim
  ·exact h2.elim
 ·exact h.elim
def Zj9 {f:Zf->M D}{sd:Zf}{Hf H:Hp}{Q:Bool->Hp->Prop}(h:Po X.K E rQ Hf H (DL.tB f sd) Q):Po X.K E (rV X.K) Hf H (f sd) (fun v H'=>∃k,v=.bl k/\Q k H'):=
 Po.bind h fun d v Hf1 H1 _ g1 rv h1=>by
  unfold asB at h1
  split at h1
  ·exact⟨_,rep_bl.mp rv,Po.ret (R:=rQ) g1.sub h1 rfl⟩
  ·exact h1.elim
end
section
variable {q:Nat->Nat->Option Bool}{n:Nat}
theorem L8 {α β:Type}{f:α->KasT β}:∀t:KasT α,Ud q (t.bind f)=(Ud q t).bind fun a=>Ud q (f a)
 |.ret _=>rfl
 |.ask i j k=>by
  have e1:∀{γ:Type} (k:Bool->KasT γ),Ud q (.ask i j k)=(q i j).bind fun b=>Ud q (k b):=fun k=>by
   rw[Ud]
   cases q i j<;>rfl
  have e2:(KasT.ask i j k).bind f=.ask i j fun b=>(k b).bind f:=rfl
  rw[e2,e1,e1]
  cases q i j with
  |none=>rfl
  |some b=>exact L8 (k b)
def Rn (q:Nat->Nat->Option Bool){α:Type}(t:KasT α)(P:α->Prop):Prop:=∃a,Ud q t=some a/\P a
theorem Rn.bind {α β:Type}{t:KasT α}{f:α->KasT β}{P:α->Prop}{Q:β->Prop}(h:Rn q t P)(k:∀a,P a->Rn q (f a) Q):Rn q (t.bind f) Q:=by
 obtain⟨a,e,p⟩:=h
 obtain⟨b,e2,p2⟩:=k a p
 exact⟨b,by rw[L8,e];exact e2,p2⟩
theorem Rn.ret {α:Type}{a:α}{P:α->Prop}(h:P a):Rn q (.ret a) P:=⟨a,rfl,h⟩
def Gp (n:Nat)(p:Array Nat):Prop:=p.Perm (List.toArray (List.range n))
def Gp.at {p:Array Nat}(h:Gp n p)(n0:0<n)(i:Nat):p.getD i 0<n:=by
 rw[Array.getD_eq_getD_getElem?]
 cases e:p[i]? with
 |none=>exact n0
 |some x=>
  have:=h.mem_iff.mp (Array.mem_of_getElem? e)
  simpa using this
def Gp.rev {p:Array Nat}(h:Gp n p)(i j:Nat):Gp n (kas_rev p i j):=(mirror_perm _ _ _ _).trans h
section
variable (n0:0<n) (ht:∀i j,i<n->j<n->∃b,q i j=some b)
theorem Rn.ask {α:Type}{i j:Nat}{k:Bool->KasT α}{P:α->Prop}(hi:i<n)(hj:j<n)(ht:∀i j,i<n->j<n->∃b,q i j=some b)(h:∀b,Rn q (k b) P):Rn q (.ask i j k) P:=by
 obtain⟨b,e⟩:=ht i j hi hj
 obtain⟨a,e2,p⟩:=h b
 refine⟨a,?_,p⟩
 unfold Ud
 rw[e]
 exact e2
include n0 ht
theorem Ev {p:Array Nat}(h:Gp n p):∀f k,Rn q (kas_asc p f k) fun _=>True
 |0,k=>.ret trivial
 |f+1,k=>by
  refine .ask (h.at n0 _) (h.at n0 _) ht fun c=>?_
  cases c
  ·exact Ev h f (k+1)
  ·exact .ret trivial
theorem Rg:∀f (p:Array Nat) k r,Gp n p->Rn q (kas_desc f p k r) fun a=>Gp n a.1
 |0,p,k,r,h=>.ret h
 |f+1,p,k,r,h=>by
  refine .ask (h.at n0 _) (h.at n0 _) ht fun c=>?_
  cases c
  ·refine .ask (h.at n0 _) (h.at n0 _) ht fun d=>?_
   cases d
   ·exact Rg f p _ _ h
   ·exact .ret h
  ·show Rn q (if r > 0 then _ else _) _
   split
   ·exact Rg f _ _ _ (h.rev _ _)
   ·exact Rg f _ _ _ h
def Hj {p:Array Nat}(h:Gp n p)(k m:Nat):Rn q (kas_tail3 k m p) fun a=>Gp n a.2:=(Ev n0 ht (h.rev _ _) _ _).bind fun _ _=>.ret (h.rev _ _)
def Hl {p:Array Nat}(h:Gp n p)(k m:Nat):Rn q (kas_descPart k m p) fun a=>Gp n a.2:=(Rg n0 ht _ _ _ _ h).bind fun r hr=>by
 split
 ·exact Hj n0 ht (Gp.rev hr _ _) _ _
 ·exact Hj n0 ht hr _ _
def Zcv {p:Array Nat}(h:Gp n p)(m:Nat):Rn q (kas_count m p) fun a=>Gp n a.2:=(Ev n0 ht h _ _).bind fun k _=>by
 split
 ·exact .ret h
 ·split
  ·refine .ask (h.at n0 _) (h.at n0 _) ht fun c=>?_
   cases c
   ·exact Hl n0 ht (h.rev _ _) _ _
   ·exact .ret h
  ·exact Hl n0 ht h _ _
theorem Sl {p:Array Nat}(h:Gp n p)(k:Nat):∀f l r,Rn q (kas_place p k f l r) fun _=>True
 |0,l,r=>.ret trivial
 |f+1,l,r=>by
  unfold kas_place
  split
  ·exact .ret trivial
  ·refine .ask (h.at n0 _) (h.at n0 _) ht fun c=>?_
   cases c
   ·exact Sl h k f _ _
   ·exact Sl h k f _ _
theorem Zcw:∀f (p:Array Nat) k,Gp n p->Rn q (kas_bin f p k) fun p=>Gp n p
 |0,p,k,h=>.ret h
 |f+1,p,k,h=>(Sl n0 ht h k _ _ _).bind fun l _=>Zcw f _ _ ((bubble_perm _ _ _).trans h)
def Zf5:Rn q (kas_sort n) fun p=>Gp n p:=(Zcv n0 ht (Array.Perm.refl _) _).bind fun r hr=>by
 split
 ·exact Zcw n0 ht _ _ _ hr
 ·exact .ret hr
end
end
def Ew {ds:List D}{ys:List (List V)}(hr:Si ds=some ys)(hl:ds.length<64)(hh:(ys.all Gs||ys.all Gu)=true)(hy:ys.length=ds.length)(hc:∀x∈ys,∀y∈ys,x.length=y.length/\∃b,Zfz x y=some b):∃es:List D,es.Perm ds/\Sk [.lst ds]=.ok (.lst es):=by
 show ∃es:List D,es.Perm ds/\N5 ds=.ok (.lst es)
 unfold N5
 by_cases h2:ds.length<2
 ·exact⟨ds,List.Perm.refl _,if_pos h2⟩
 ·rw[if_neg h2]
  obtain⟨p,e,hp⟩:=Zf5 (q:=Tv ys) (n:=ds.length) (by lia) fun i j hi hj=>by
   unfold Tv
   rw[List.getElem?_eq_getElem (by lia),List.getElem?_eq_getElem (by lia)]
   obtain⟨e,b,h⟩:=hc ys[i] (List.getElem_mem _) ys[j] (List.getElem_mem _)
   exact⟨b,by dsimp only;rw[if_pos e,h]⟩
  refine⟨p.toList.map fun i=>ds.getD i .non,?_,?_⟩
  ·have h1:p.toList.Perm (List.range ds.length):=by
    have:=Array.perm_iff_toList_perm.mp hp
    simpa using this
   have h3:=h1.map fun i=>ds.getD i D.non
   refine h3.trans (List.Perm.of_eq ?_)
   apply List.ext_getElem?
   intro i
   rw[List.getElem?_map]
   by_cases hi:i<ds.length
   ·rw[List.getElem?_range hi,List.getElem?_eq_getElem hi]
    simp[hi]
   ·rw[List.getElem?_eq_none (by rw[List.length_range];lia),List.getElem?_eq_none (by lia)]
    rfl
  ·unfold Bo
   rw[hr]
   dsimp only
   rw[if_pos ⟨by lia,hl,hh⟩,e]
end DL
namespace DL
open PySem PySem.Spec PyProof.Rows L2
def PoX (K:PySem.W.Frag)(E:XK)(H0:Hp)(B:Addr->Prop)(σ:L2.St)(Hf:Hp){α β:Type}(R:Hp->Hp->α->β->Prop)(r:M (α×Zf))(Q:β->Hp->Prop):Prop:=match r with
 |.ok (a,sd')=>∀b Hf' H',Same Hf Hf'->SR K H0 B Hf' sd' σ H'->R Hf' H' a b->Q b H'
 |.ex x=>∀c dx Hf' H',Same Hf Hf'->Fin' H0 B Hf' H'->Zfk K Hf' H' x c dx->E c dx H'
 |.bad=>False
def Zka (X:Cx)(E:XK)(e:Expr)(f:Zf->M (D×Zf)):Prop:=
 ∃t:TE,PE X e t/\∀(H0:Hp) (B:Addr->Prop) (Hf:Hp) (sd:Zf) (σ:L2.St) (H:Hp) (Q:VK),SR X.K H0 B Hf sd σ H->PoX X.K E H0 B σ Hf (rV X.K) (f sd) Q->t σ H Q
def Zcx (X:Cx)(E:XK)(es:List Expr)(f:Zf->M (List D×Zf)):Prop:=
 ∃t:TA,PA X es t/\∀(H0:Hp) (B:Addr->Prop) (Hf:Hp) (sd:Zf) (σ:L2.St) (H:Hp) (Q:List V->Hp->Prop),SR X.K H0 B Hf sd σ H->PoX X.K E H0 B σ Hf (rA X.K) (f sd) Q->t σ H Q
section
variable {K:PySem.W.Frag}{E:XK}{H0:Hp}{B:Addr->Prop}{σ:L2.St}{Hf H Hf1:Hp}{α β γ δ:Type}{R:Hp->Hp->α->β->Prop}{T:Hp->Hp->γ->δ->Prop}
def PoX.weak {r:M (α×Zf)}{Q:β->Hp->Prop}(g:Same Hf Hf1)(h:PoX K E H0 B σ Hf R r Q):PoX K E H0 B σ Hf1 R r Q:=by
 cases r with
 |ok a=>exact fun b Hf' H' e q=>h b Hf' H' (g.trans e) q
 |ex x=>exact fun c dx Hf' H' e q=>h c dx Hf' H' (g.trans e) q
 |bad=>exact h
theorem PoX.bind {sd:Zf}{r:M γ}{k:γ->M (α×Zf)}{Q:β->Hp->Prop}{Q1:δ->Hp->Prop}(sr:SR K H0 B Hf sd σ H)(h:PoX K E H0 B σ Hf R (r.bind k) Q)(s:∀a b Hf1 H1,r=.ok a->Gr Hf H Hf1 H1->SR K H0 B Hf1 sd σ H1->T Hf1 H1 a b->PoX K E H0 B σ Hf1 R (k a) Q->Q1 b H1):Po K E T Hf H r Q1:=by
 cases r with
 |ok a=>exact fun b Hf' H' g q=>s a b Hf' H' rfl g (sr.gr g) q (PoX.weak g.fz h)
 |ex x=>exact fun c dx Hf' H' g q=>h c dx Hf' H' g.fz (sr.gr g).fin q
 |bad=>exact h
def PoX.bindX {r:M (γ×Zf)}{k:γ×Zf->M (α×Zf)}{Q:β->Hp->Prop}{Q1:δ->Hp->Prop}(h:PoX K E H0 B σ Hf R (r.bind k) Q)(s:∀a sd' b Hf1 H1,r=.ok (a,sd')->Same Hf Hf1->SR K H0 B Hf1 sd' σ H1->T Hf1 H1 a b->PoX K E H0 B σ Hf1 R (k (a,sd')) Q->Q1 b H1):PoX K E H0 B σ Hf T r Q1:=by
 cases r with
 |ok a=>exact fun b Hf' H' e sr q=>s a.1 a.2 b Hf' H' rfl e sr q (PoX.weak e h)
 |ex x=>exact h
 |bad=>exact h
def PoX.bindS {r:M (γ×Zf)}{k:γ×Zf->M O}{D:Ends}{Q1:δ->Hp->Prop}(h:PoS K E H0 B Hf (r.bind k) D)(s:∀a sd' b Hf1 H1,r=.ok (a,sd')->Same Hf Hf1->SR K H0 B Hf1 sd' σ H1->T Hf1 H1 a b->PoS K E H0 B Hf1 (k (a,sd')) D->Q1 b H1):PoX K E H0 B σ Hf T r Q1:=by
 cases r with
 |ok a=>exact fun b Hf' H' e sr q=>s a.1 a.2 b Hf' H' rfl e sr q (PoS.weak e h)
 |ex x=>exact h
 |bad=>exact h
end
section
variable {X:Cx}{E:XK}{pos:Pos}{a b:Expr}
def Cn (i:Nat)(sd:Zf):M (D×Zf):=match sd[i]? with
 |some (some (.ow ds))=>(match ds[ds.length-1]? with
  |some d=>.ok (d,sd.set i (some (.ow ds.dropLast)))
  |none=>.bad)
 |_=>.bad
def Tw {K:PySem.W.Frag}{H:Hp}{ds:List D}{xs:List V}(r:Reps K H ds xs):Reps K H ds.dropLast xs.dropLast:=by
 rw[List.dropLast_eq_take,List.dropLast_eq_take,r.length]
 exact r.take _
def Zcy (i:Nat){x:Str}{p1 p2 p3:Pos}(hi:X.N[i]?=some x:=by rfl)(hv:Pz X.env.scope x:=by trivial)
  (hd:(x==("__debug__":Str))=false:=by decide) (hcd:(x==("__classdict__":Str))=false:=by decide)
  (hbase:attributeBase (.Name x p1) "pop" X.env (eval (.Name x p1) X.env)=eval (.Name x p1) X.env:=by rfl) (hline:(p2.endLine==p3.line)=true:=by rfl):
  Zka X E (.Call (.Attribute (.Name x p1) "pop" p2) [] [] p3) (Cn i):=by
 refine⟨_,Zjh PySem.F.plainAttrs_list PySem.F.slot_list_pop PySem.F.type_list_pop Zji (Z9 hi hv hd hcd) hbase hline,fun H0 B Hf sd σ H Q sr h=>?_⟩
 unfold Cn at h
 split at h
 ·rename_i ds ei
  obtain⟨p,z1,z2,z3,xs,z4,z5⟩:=sr.ow i _ ei rfl
  split at h
  ·rename_i d ed
   obtain⟨v,ev,rv⟩:=z5.get ed
   refine⟨_,z1,.inl ⟨rfl,xs,SqL.of z4⟩,p,xs,v,rfl,rfl,z4,by rw[<-z5.length];exact ev,?_⟩
   exact h v Hf _ (Same.refl _) (sr.change ei rfl z1 rfl ⟨_,Zo,Tw z5⟩) rv
  ·exact h.elim
 ·exact h.elim
def N6 (f:Zf->M (D×Zf))(sd:Zf):M (List D×Zf):=(f sd).bind fun r=>.ok ([r.1],r.2)
def Yg (fa:Zf->M D)(fr:Zf->M (List D×Zf))(sd:Zf):M (List D×Zf):=(fa sd).bind fun d=>(fr sd).bind fun r=>.ok (d::r.1,r.2)
def Co {f:Zf->M (D×Zf)}(h:Zka X E a f)(hs:starEach [a] X.env=(false,eval a X.env)::starEach [] X.env:=by rfl):Zcx X E [a] (N6 f):=by
 obtain⟨t,p,q⟩:=h
 refine⟨_,Qk p Xz hs,fun H0 B Hf sd σ H Q sr h=>?_⟩
 refine q H0 B Hf sd σ H _ sr (PoX.bindX h fun d sd' v Hf1 H1 _ e1 sr1 rv h1=>?_)
 exact h1 [v] Hf1 H1 (Same.refl _) sr1 (Reps.cons rv Reps.nil)
def Xx {es:List Expr}{fa:Zf->M D}{fr:Zf->M (List D×Zf)}(ha:Yn X E a fa)(hr:Zcx X E es fr)(hs:starEach (a::es) X.env=(false,eval a X.env)::starEach es X.env:=by rfl):Zcx X E (a::es) (Yg fa fr):=by
 obtain⟨ta,pa,qa⟩:=ha
 obtain⟨tr,pr,qr⟩:=hr
 refine⟨_,Qk pa pr hs,fun H0 B Hf sd σ H Q sr h=>?_⟩
 refine qa H0 B Hf sd σ H _ sr (PoX.bind sr h fun d v Hf1 H1 _ g1 sr1 rv h1=>?_)
 refine qr H0 B Hf1 sd σ H1 _ sr1 (PoX.bindX h1 fun ds sd' vs Hf2 H2 _ e2 sr2 rs h2=>?_)
 exact h2 (v::vs) Hf2 H2 (Same.refl _) sr2 (Reps.cons (Rep.mono e2 rv) rs)
def L9 (F:List D->M S)(fs:Zf->M (List D×Zf))(sd:Zf):M (D×Zf):=(fs sd).bind fun r=>match F r.1 with
 |.ok s=>s.toD.bind fun d=>.ok (d,r.2)
 |_=>.bad
def Zf6 {k:Nat}{f:Addr}{fd:FuncData}{ps:List Str}{F:List D->M S}{x:Str}{p:Pos}{es:List Expr}{fs:Zf->M (List D×Zf)}(G:FnOk X.prog X.w X.K X.mg X.base Ye k f fd ps (Tl X.K F))(hr:Room k X.A)(hm:X.mg x=some (.ref f))(hk:PySem.W.keepIn X.K (.ref f)=true)(hb:Binds X.K fd ps [])(ha:Zcx X E (a::es) fs)(hg:Gl X x:=by rfl) (hdb:(x==("__debug__":Str))=false:=by decide) (he:starEach (a::es) X.env=(false,eval a X.env)::starEach es X.env:=by rfl) (hpl:(backTo pos (starEach es X.env)).any (·.1)=false:=by rfl):
  Zka X E (.Call (.Name x p) (a::es) [] pos) (L9 F fs):=by
 obtain⟨t,pt,qt⟩:=ha
 refine⟨_,Jy (dvs:=[]) (E:=E0) G hr hg hm hk hb .nil Jl pt hdb he hpl,fun H0 B Hf sd σ H Q sr h=>?_⟩
 refine qt H0 B Hf sd σ H _ sr (PoX.bindX h fun ds sd' vs Hf1 H1 _ e1 sr1 rs h1=>?_)
 dsimp only at h1
 split at h1
 ·rename_i s e
  refine⟨Hf1,ds,s,sr1.sub,by rw[List.append_nil];exact rs,e,fun v Hf' H' g2 rv=>?_⟩
  cases s with
  |im d=>exact h1 v Hf' H' g2.fz (sr1.gr g2) rv
  |ow es=>
   obtain⟨p,rfl,w1,w2,xs,w3,w4⟩:=rv
   have g3:Gr Hf1 H1 (upd Hf' p (.lst xs)) H':=by
    refine⟨g2.fz.trans (Z8 w2 _),fun b u q=>?_,g2.all,fun a h1 h2=>?_⟩
    ·by_cases hb:b=p
     ·subst hb;rw[Zo] at q;rw[w3];exact q
     ·rw[Zj hb] at q;exact g2.sub b u q
    ·have:a≠p:=fun z=>h1.nn (z▸w1)
     rw[Zj this];exact g2.ban a h1 h2
   exact h1 _ (upd Hf' p (.lst xs)) H' g3.fz (sr1.gr g3) (rep_lst.mpr ⟨p,xs,rfl,SqL.of Zo,w4.mono (Z8 w2 _)⟩)
  |od kvs=>exact h1.elim
  |dk kvs=>exact h1.elim
  |xc x=>exact h1.elim
  |fn x=>exact h1.elim
  |ob a c r=>exact h1.elim
  |fl a g q=>exact h1.elim
 ·exact h1.elim
def Zms (g:D->D->M D)(fa:Zf->M D)(fb:Zf->M (D×Zf))(sd:Zf):M (D×Zf):=(fa sd).bind fun x=>(fb sd).bind fun y=>(g x y.1).bind fun z=>.ok (z,y.2)
def Zh6 {op:Operator}{g:D->D->M D}{fa:Zf->M D}{fb:Zf->M (D×Zf)}(ho:Nt X E (binaryOp op) g)(ha:Yn X E a fa)(hb:Zka X E b fb):Zka X E (.BinOp a op b pos) (Zms g fa fb):=by
 obtain⟨r,hr,qr⟩:=ho
 obtain⟨ta,pa,qa⟩:=ha
 obtain⟨tb,pb,qb⟩:=hb
 refine⟨_,Zbd hr pa pb,fun H0 B Hf sd σ H Q sr h=>?_⟩
 refine qa H0 B Hf sd σ H _ sr (PoX.bind sr h fun dx x Hf1 H1 _ g1 sr1 rx h1=>?_)
 refine qb H0 B Hf1 sd σ H1 _ sr1 (PoX.bindX h1 fun dy sd' y Hf2 H2 _ e2 sr2 ry h2=>?_)
 refine qr Hf2 H2 x y dx dy Q sr2.sub (Rep.mono e2 rx) ry (PoX.bind sr2 h2 fun d v Hf3 H3 _ g3 sr3 rv h3=>?_)
 exact h3 v Hf3 H3 (Same.refl _) sr3 rv
def Cp (i:Nat)(f:Zf->M (D×Zf))(sd:Zf):M O:=(f sd).bind fun r=>.ok (.nx (r.2.set i (some (.im r.1))))
def Hm (i:Nat){x:Str}{e:Expr}{f:Zf->M (D×Zf)}{pos':Pos}(hN:X.N.Nodup)(h:Zka X E e f)(hi:X.N[i]?=some x:=by rfl)(hx:Fv X.env.scope x:=by trivial)(hs:swapsWith e (some (.Name x pos')) pos.line X.env=pure false:=by rfl)(hf:X.fn x=true\/X.env.scope.names.lookup x=some .local:=by first|exact .inl rfl|exact .inr rfl|assumption):
  Ga X E (.Assign [.Name x pos'] e pos) (Cp i f):=by
 obtain⟨t,p,q⟩:=h
 refine⟨_,Kl hN hi hx p hs hf,fun H0 B Hf sd σ H D sr h=>?_⟩
 refine q H0 B Hf sd σ H _ sr (PoX.bindS h fun d sd' v Hf1 H1 _ e1 sr1 rv h1=>?_)
 exact h1 _ Hf1 H1 (Same.refl _) (sr1.set_im i rv)
end
end DL
namespace DL
open PySem PySem.Spec PySem.Calls PySem.Builtin PySem.Builtin.ObjectAttr PyProof.Rows L2 PySem.W
def Zcz (i:Nat){X:Cx}{E:XK}{pos py spos:Pos}{tg elt iter:Expr}{scope:Scope}{Nc:List Str}{n0:Nat}{caps:List Nat}{cl:List (Str×Addr)}{fi:Zf->M (List D)}{gt:D->Zf->M Zf}{fe:Zf->M D}{y:Str}(hN:X.N.Nodup)(hc:X.calm=true)(hclos:closureFor scope X.env=pure cl)(cap:CapOk X Nc n0 caps scope cl)(hkind:scope.kind=.function)(hcell:∀y∈scope.names,y.2≠.cell)(hnames:∀y∈scope.names,y.2=.local->scope.names.lookup y.1=some .local)(hk:Zj0 n0 gt)(hi:Zju X E tg iter fi)(hg:∀s3 H3 C ex,Zh3 (Up X Nc scope cl s3 H3 C ex) tg gt)(he:∀s3 H3 C ex,Yn (Up X Nc scope cl s3 H3 C ex) E0 elt fe)(hs:∀x,foldedSetIterable iter X.env x=pure x:=by intro _;rfl)(hy:X.N[i]?=some y:=by rfl)(hloc:Fv X.env.scope y:=by trivial)(hfy:X.fn y=true\/X.env.scope.names.lookup y=some .local:=by first|exact .inl rfl|exact .inr rfl)(hsw:swapsWith (.ListComp elt [⟨tg,iter,[],0⟩] scope pos) (some (.Name y py)) spos.line X.env=pure true:=by rfl):
  Ga X E (.Assign [.Name y py] (.ListComp elt [⟨tg,iter,[],0⟩] scope pos) spos) (Z4 i (Tt (Uq fi n0 caps gt fe))):=by
 refine⟨fun D' σ H=>∃H0 B Hf sd,SR X.K H0 B Hf sd σ H/\PoS X.K E H0 B Hf (Z4 i (Tt (Uq fi n0 caps gt fe)) sd) D',?_,fun H0 B Hf sd σ H D' sr h=>⟨H0,B,Hf,sd,sr,h⟩⟩
 rintro pins s σ H D' I ⟨H0,B,Hf,sd,sr,h⟩
 obtain⟨wi,pw,qw⟩:=hi
 rw[exec_Assign_Name_used _ _ _ _ hsw]
 refine wpAny_bind (wpAny_standAt (wpAny_bind ?_))
 show wpAny _ _ (do let _ <-comprehension (.ListComp elt [⟨tg,iter,[],0⟩] scope pos) scope X.env _ (newList []) false (eval iter X.env) (some (assign (.Name y py) X.env))) _ _ s
 refine wpAny_bind (wpAny_mono (wpAny_comprehension_free (use:=some (assign (.Name y py) X.env)) (Q:=fun _ s'=>SP X pins D' .next s') rfl hs hclos hkind hnames ?_) (fun _ s' hq=>wpAny_pure (wpAny_pure hq)) fun _ _ e=>e)
 have h':PoS X.K E H0 B Hf ((fi sd).bind fun ds=>(if few ds then Jz gt fe (Uh n0 caps sd) ds else .bad).bind fun es=>.ok (.nx (sd.set i (some (.im (.lst es)))))) D':=by
  unfold Z4 Tt Uq at h
  cases q:fi sd with
  |ok ds=>
   rw[q] at h
   rw[M.bind_ok] at h ⊢
   cases q2:(if few ds then Jz gt fe (Uh n0 caps sd) ds else M.bad) with
   |ok es=>rw[q2] at h;exact h
   |ex x=>rw[q2] at h;exact h
   |bad=>rw[q2] at h;exact h
  |ex x=>rw[q] at h;exact h
  |bad=>rw[q] at h;exact h
 have step:=pw pins s σ H (fun J H2=>∃ds Hf2,Gr Hf H Hf2 H2/\R9 X.K Hf2 H2 ds J/\PoS X.K E H0 B Hf2 ((if few ds then Jz gt fe (Uh n0 caps sd) ds else .bad).bind fun es=>.ok (.nx (sd.set i (some (.im (.lst es)))))) D') I
  (qw H0 B Hf sd σ H _ sr (PoS.bind sr h' fun ds J Hf2 H2 _ g2 _ jok h2=>⟨ds,Hf2,g2,jok,h2⟩))
 refine Yb step fun v s1 h1=>Yb h1 fun itv s2 h2=>?_
 obtain⟨it,fp,tn,J,H2,rfl,I2,T,Za3,f2,ds,Hf2,g2,jok,hq⟩:=h2
 have sr2:=sr.gr g2
 split at hq
 case isFalse=>exact hq.elim
 case isTrue hfew=>
 have fresh:H2 s2.heap.objs.size=none:=I2.hok.fresh (Nat.le_refl _)
 have holdf:∀b∈fp,∃o,s2.heap.get? b=some o:=fun b hb=>let ⟨o,e,_⟩:=T.obj 0 _ Za3 b hb;⟨o,e⟩
 refine wpAny_newObj_type (wpAny_newFunctionEnv hcell (by intro y hy;simp at hy) (fun h₁ hns₁ hsb₁=>?_) hkind)
 have hC:(s2.heap.push Qz).objs.size=s2.heap.objs.size+1:=Heap.size_push _ _
 have hns:h₁.Ns (s2.heap.objs.size+1) (fun x=>([]:List (Str×Value)).reverse.lookup x):=hC▸hns₁
 have hsb:Heap.SameBut (s2.heap.objs.size+1) ((s2.heap.push Qz).push {cls:=.type "dict", data:=.dict #[]}) h₁:=hC▸hsb₁
 have hold1:∀b o,s2.heap.get? b=some o->h₁.get? b=some o:=fun b o e=>by
  have hb:b<s2.heap.objs.size:=Heap.lt_size e
  exact(hsb.2 b (Nat.ne_of_lt (Nat.lt_succ_of_lt hb))).trans (Heap.get?_push_of_some _ (Heap.get?_push_of_some _ e))
 have hD:h₁.get? s2.heap.objs.size=some Qz:=(hsb.2 _ (Nat.ne_of_lt (Nat.lt_succ_self _))).trans (Heap.get?_push_of_some _ (Heap.get?_push_size _ rfl))
 have J0:=Cc I2 f2 holdf hkind cap (tk:=s2.toks+([]:List (Str×Value)).length) hns hold1 hD
 have hg:=hg {s2 with heap:=s2.heap.push Qz} (upd H2 s2.heap.objs.size (.lst [])) (s2.heap.objs.size+1) fp
 have he:=he {s2 with heap:=s2.heap.push Qz} (upd H2 s2.heap.objs.size (.lst [])) (s2.heap.objs.size+1) fp
 generalize hXc:Up X Nc scope cl {s2 with heap:=s2.heap.push Qz} (upd H2 s2.heap.objs.size (.lst [])) (s2.heap.objs.size+1) fp=Xc at J0 hg he
 have eP:Xc.prog=X.prog:=by subst hXc;rfl
 have eW:Xc.w=X.w:=by subst hXc;rfl
 have eK:Xc.K=X.K:=by subst hXc;rfl
 have eA:Xc.A=X.A:=by subst hXc;rfl
 have eX:Xc.xe=fun _ _=>False:=by subst hXc;rfl
 have eE:Xc.env=compEnvC scope cl (s2.heap.objs.size+1) X.env:=by subst hXc;rfl
 have eC:Xc.calm=true:=by subst hXc;exact hc
 have fpc:∀{H':Hp},(∀b∈fp,H' b=none)->∀b∈fp,P0 Xc [] H' b:=fun {H'} hn b hb=>by
  subst hXc
  obtain⟨f0,f1,f2',f3,f4,f5⟩:=f2 b hb
  obtain⟨o,eo⟩:=holdf b hb
  refine⟨hn b hb,Nat.ne_of_lt (Nat.lt_succ_of_lt (Heap.lt_size eo)),fun hz=>?_,.inl hb,fun x c e=>f4 x c (cap.sub x c e),fun p hp=>absurd (show p∈([]:List (Addr×Obj)) from hp) (by simp)⟩
  rcases List.mem_cons.mp (I2.stkSub b hz) with e|hz
  ·exact f1 e
  ·exact f2' hz
 have nfp:∀b∈fp,b≠s2.heap.objs.size:=fun b hb=>by
  obtain⟨o,eo⟩:=holdf b hb
  exact Nat.ne_of_lt (Heap.lt_size eo)
 obtain⟨tg',pg,qg⟩:=hg
 obtain⟨te,pe,qe⟩:=he
 have loop:∀s₃:Shared,s₃={s2 with heap:=h₁,toks:=s2.toks+([]:List (Str×Value)).length} ->
   codeAny (model X.prog X.w) X.A (.compLoop (.ListComp elt [⟨tg,iter,[],0⟩] scope pos) 0 (.ref it) (.ref s2.heap.objs.size) (compEnvC scope cl (s2.heap.objs.size+1) X.env))
    (compPost (model X.prog X.w) X.A X.xe (some (assign (.Name y py) X.env)) (fun _ s'=>SP X pins D' .next s') (.ref s2.heap.objs.size) (s2.heap.objs.size+1)) s₃:=by
  rintro s₃ rfl
  refine Vo (fun n s'=>∃k vs es H' Hf' σ',n=ds.length-k/\k<=ds.length/\Inv Xc [] σ' H' s'/\tn k s'.heap/\(∀b∈fp,H' b=none) /\
   H' s2.heap.objs.size=some (.lst vs)/\Hf' s2.heap.objs.size=none/\Gr Hf2 H2 Hf' H'/\Reps X.K Hf' es vs/\vs.length=k /\
   (Uh n0 caps sd).length=σ'.length/\(∀(j:Nat) (d:D),(Uh n0 caps sd)[j]?=some (some (.im d))->∃v,σ'[j]?=some (some v)/\Rep X.K Hf' d v) /\
   PoS X.K E H0 B Hf2 ((Jz gt fe (Uh n0 caps sd) (ds.drop k)).bind fun fs=>.ok (.nx (sd.set i (some (.im (.lst (es++fs))))))) D') ?_ ds.length ?_
  ·rintro n s' ⟨k,vs,es,H',Hf',σ',rfl,hil,J1,st1,fr1,hd1,hf1,g1,rs1,hl1,hlen1,him1,hq1⟩
   have jj:=jok k Hf' H' g1.fz g1.sub
   cases q:ds[k]? with
   |none=>
    rw[q] at jj
    have tdone:=T.done Xc eP eW eK eC k [] s' _ H' (fun _ _=>False) J1 (fpc fr1) st1 jj
    rw[eA] at tdone
    refine wpAny_mono tdone (fun r s4 hr=>?_) fun _ _ z=>z
    obtain⟨rfl,J4⟩:=hr
    rw[List.drop_eq_nil_of_le (List.getElem?_eq_none_iff.mp q)] at hq1
    subst hXc
    obtain⟨m,hn4,_⟩:=J4.loc
    have I4:Inv X pins σ H' s4:=Ly I2 f2 J4 (h':=s4.heap) ⟨rfl,fun _ _=>rfl⟩
    have fC:Fresh X pins (s2.heap.objs.size+1):=Zco I2 (Nat.le_succ _)
    have nC:H' (s2.heap.objs.size+1)=none:=J4.free
    show wpAny (model X.prog X.w) X.A (assign (.Name y py) X.env (.ref s2.heap.objs.size)) _ _ s4
    refine wpAny_assign_Name (Li (v:=.ref s2.heap.objs.size) I4 hN hy hloc rfl (fun s5 I5 hw=>?_) hfy)
    obtain⟨a5,sb5,ha5⟩:=hw
    have neC:s2.heap.objs.size+1≠a5:=by
     rcases ha5 with e|e
     ·rw[e];exact fC.nl
     ·exact(fC.nc _ _ e).symm
    refine⟨m,hn4.sameBut sb5 neC,fun h6 sb6=>?_⟩
    have I6:Inv X pins (σ.set i (some (.ref s2.heap.objs.size))) H' {s5 with heap:=h6}:=Zj4 (a:=s2.heap.objs.size+1) (T:=s2.heap.objs.size+1) I5 ⟨fun b o n1 n2 _ e=>(sb6.2 b n1).trans e,fun b o n1 n2 e=>⟨o.slots,(sb6.2 b n1).trans e⟩⟩ nC nC fC fC
    have hq2:PoS X.K E H0 B Hf2 (.ok (.nx (sd.set i (some (.im (.lst es)))))) D':=by
     have:es++([]:List D)=es:=List.append_nil es
     rw[<-this];exact hq1
    have g:Gr Hf2 H2 (upd Hf' s2.heap.objs.size (.lst vs)) H':=by
     refine⟨g1.fz.trans (Z8 hf1 _),fun b u z=>?_,g1.all,fun a h1 h2=>?_⟩
     ·by_cases hb:b=s2.heap.objs.size
      ·subst hb;rw[Zo] at z;rw[hd1];exact z
      ·rw[Zj hb] at z;exact g1.sub b u z
     ·have:a≠s2.heap.objs.size:=fun z=>h1.nn (z▸fresh)
      rw[Zj this];exact g1.ban a h1 h2
    exact⟨_,H',I6,hq2 _ _ H' g.fz ((sr2.gr g).set_im i (rep_lst.mpr ⟨_,vs,rfl,SqL.of Zo,rs1.mono (Z8 hf1 _)⟩))⟩
   |some d=>
    rw[q] at jj
    obtain⟨go,yl⟩:=jj
    have hlt:k<ds.length:=(List.getElem?_eq_some_iff.mp q).1
    have hdr:ds.drop k=d::ds.drop (k+1):=by
     rw[List.drop_eq_getElem_cons hlt]
     congr 1
     exact(List.getElem?_eq_some_iff.mp q).2
    obtain⟨sd1,e1,eg,ee,hq2⟩:∃sd1 e1,gt d (Uh n0 caps sd)=.ok sd1/\fe sd1=.ok e1/\PoS X.K E H0 B Hf2 ((Jz gt fe (Uh n0 caps sd) (ds.drop (k+1))).bind fun fs=>.ok (.nx (sd.set i (some (.im (.lst ((es++[e1])++fs))))))) D':=by
     rw[hdr] at hq1
     unfold Jz at hq1
     split at hq1
     ·rename_i sd1 eg
      split at hq1
      ·rename_i e1 ee
       refine⟨sd1,e1,eg,ee,?_⟩
       cases em:Jz gt fe (Uh n0 caps sd) (ds.drop (k+1)) with
       |ok fs=>
        rw[em] at hq1
        have:(es++[e1])++fs=es++e1::fs:=by simp
        rw[M.bind_ok,this]
        exact hq1
       |ex x=>exact(Lz em).elim
       |bad=>rw[em] at hq1;exact hq1.elim
      ·exact hq1.elim
     ·exact hq1.elim
    have titem:=T.item Xc eP eW eK eC k [] s' _ H' (fun _ _=>False) J1 (fpc fr1) st1 go
    rw[eA] at titem
    refine wpAny_mono titem (fun r s4 hr=>?_) fun _ _ z=>z
    obtain⟨u,rfl,h4⟩:=hr
    refine wpAny_mono h4 (fun _ s5 h5=>?_) fun _ _ z=>z
    obtain⟨x,H5,J5,r5,y5,st5,fr5⟩:=h5
    obtain⟨Hf5,g5,rx⟩:=yl x H5 y5
    have J5':=J5.pinned (fpc fr5) (T.obj _ _ st5)
    have hD5:H5 s2.heap.objs.size=some (.lst vs):=g5.all _ _ hd1
    have hf5:Hf5 s2.heap.objs.size=none:=g5.ban _ (Lv.lst hd1) hf1
    have him5:∀(j:Nat) (d:D),(Uh n0 caps sd)[j]?=some (some (.im d))->∃v,σ'[j]?=some (some v)/\Rep X.K Hf5 d v:=fun j d z=>let ⟨v,z1,z2⟩:=him1 j d z;⟨v,z1,z2.mono g5.fz⟩
    have sr5:SR Xc.K H5 (fun a=>Lv H5 a/\Hf5 a=none) Hf5 (Uh n0 caps sd) σ' H5:=eK▸SR.ofIm g5.sub hlen1 him5 Zb9
    obtain⟨kl,kk,kn⟩:=hk d _ sd1 eg
    have hg2:=pg _ s5 σ' H5 x u (fun σ6 H6=>te σ6 H6 fun v7 H7=>∃Hf7,Gr Hf5 H5 Hf7 H7/\Rep X.K Hf7 e1 v7/\(Uh n0 caps sd).length=σ6.length/\(∀(j:Nat) (d:D),(Uh n0 caps sd)[j]?=some (some (.im d))->∃v,σ6[j]?=some (some v)/\Rep X.K Hf7 d v)) J5' r5
     (qg H5 _ Hf5 _ σ' H5 x d sd1 _ sr5 (eK▸rx) eg fun σ6 sr6=>qe H5 _ Hf5 sd1 σ6 H5 _ sr6 (by
      rw[ee]
      intro v7 Hf7 H7 g7 r7
      have r7:Rep Xc.K Hf7 e1 v7:=r7
      rw[eK] at r7
      refine⟨Hf7,g7,r7,by rw[<-kl];exact sr6.len,fun j d z=>?_⟩
      have z2:sd1[j]?=some (some (.im d)):=by rw[kk j (El z)];exact z
      obtain⟨v,z3,z4⟩:=sr6.im j d z2
      rw[eK] at z4
      exact⟨v,z3,z4.mono g7.fz⟩))
    rw[eP,eW,eA,eX,eE] at hg2
    refine wpAny_mono hg2 (fun _ s6 h6=>?_) fun _ _ z=>z
    obtain⟨σ6,H6,J6,q6⟩:=h6
    have he2:=pe _ s6 σ6 H6 _ J6 q6
    rw[eP,eW,eA,eX,eE] at he2
    refine wpAny_mono he2 (fun y s7 h7=>?_) fun _ _ z=>z
    obtain⟨v7,H7,J7,r7,Hf7,g7,rv7,hl7,him7⟩:=h7
    have hD7:H7 s2.heap.objs.size=some (.lst vs):=g7.all _ _ hD5
    have hf7:Hf7 s2.heap.objs.size=none:=g7.ban _ (Lv.lst hD5) hf5
    have happ:=Wa (X:=Xc) _ s7 σ6 H7 (.ref s2.heap.objs.size) [v7] (.ref s2.heap.objs.size) [y] (fun _ H8=>H8=upd H7 s2.heap.objs.size (.lst (vs++[v7]))) J7 rfl (.cons r7 .nil)
     ⟨_,vs,v7,rfl,rfl,hD7,by
      have h1:=of_decide_eq_true hfew
      have h2:=sizeLine_eq
      lia,rfl⟩
    rw[eP,eW,eA,eX] at happ
    refine wpAny_mono happ (fun _ s8 h8=>?_) fun _ _ z=>z
    obtain⟨_,H8,J8,_,e8⟩:=h8
    subst e8
    have g17:=(g1.trans g5).trans g7
    refine⟨ds.length-(k+1),by lia,k+1,vs++[v7],es++[e1],_,Hf7,σ6,rfl,hlt,J8.unpinned,?_,fun b hb=>?_,Zo,hf7,⟨g17.fz,fun b o z=>?_,fun b o z=>?_,g17.ban⟩,?_,by rw[List.length_append,hl1];rfl,hl7,him7,hq2⟩
    ·exact T.keep _ _ _ st5 fun b hb o e=>(J8.pin (b,o) (List.mem_append_right _ (List.mem_append_right _ (Jf hb e)))).1
    ·obtain⟨o,e,_⟩:=T.obj _ _ st5 b hb
     exact(J8.pin (b,o) (List.mem_append_right _ (List.mem_append_right _ (Jf hb e)))).2.1
    ·have:b≠s2.heap.objs.size:=Zu z hf7
     rw[Zj this];exact g17.sub b o z
    ·have:b≠s2.heap.objs.size:=Zu z fresh
     rw[Zj this];exact g17.all b o z
    ·exact(rs1.mono (g5.fz.trans g7.fz)).append (Reps.cons rv7 Reps.nil)
  ·refine⟨0,[],[],_,Hf2,_,by simp,Nat.zero_le _,J0,T.keep 0 _ _ Za3 fun b hb o e=>hold1 b o e,fun b hb=>?_,Zo,g2.sub.free fresh,⟨Same.refl _,fun b o z=>?_,Z8 fresh _,fun _ _ z=>z⟩,Reps.nil,rfl,?_,fun j d z=>?_,?_⟩
   ·rw[Zj (nfp b hb)];exact(f2 b hb).1
   ·have:b≠s2.heap.objs.size:=Zu (g2.sub b o z) fresh
    rw[Zj this];exact g2.sub b o z
   ·unfold Uh;simp only[List.length_append,List.length_replicate,List.length_map]
   ·obtain⟨k,j',d',rfl,ej,es,ed⟩:=Em z
    cases ed
    obtain⟨v,z1,z2⟩:=sr2.im j' d es
    refine⟨v,?_,z2⟩
    rw[List.getElem?_append_right (by simp),List.length_replicate,Nat.add_sub_cancel_left,List.getElem?_map,ej]
    simp[z1]
   ·rw[List.drop_zero]
    exact hq
 show codeAny (model X.prog X.w) X.A (.compStart (.ListComp elt [⟨tg,iter,[],0⟩] scope pos) 0 (.ref it) (.ref s2.heap.objs.size) (compEnvC scope cl (s2.heap.push Qz).objs.size X.env))
  (compPost (model X.prog X.w) X.A X.xe (some (assign (.Name y py) X.env)) (fun _ s'=>SP X pins D' .next s') (.ref s2.heap.objs.size) (s2.heap.push Qz).objs.size) {s2 with heap:=h₁,toks:=s2.toks+([]:List (Str×Value)).length}
 rw[hC]
 exact codeAny_compStart_list (loop _ rfl) (T.self X.A 0 _ _ _ (T.keep 0 _ _ Za3 fun b hb o e=>hold1 b o e) (loop _ rfl))
end DL
namespace DL
open PySem PySem.Spec PyProof.Rows L2 HT
def Zf7 (i:Nat)(fk:Zf->M D)(sd:Zf):M D:=match sd[i]? with
 |some (some (.ow ds))=>(fk sd).bind fun k=>(match k with
  |.int j=>(match P3 ds j with
   |some d=>.ok d
   |none=>.bad)
  |_=>.bad)
 |_=>.bad
def Zkb (i:Nat){X:Cx}{E:XK}{x:Str}{key:Expr}{p1 pos:Pos}{fk:Zf->M D}(hk:Yn X E key fk)(hs:M7 key)(hi:X.N[i]?=some x:=by rfl)(hvis:Pz X.env.scope x:=by trivial)
  (hd:(x==("__debug__":Str))=false:=by decide) (hcd:(x==("__classdict__":Str))=false:=by decide):Yn X E (.Subscript (.Name x p1) key pos) (Zf7 i fk):=by
 obtain⟨tk,pk,qk⟩:=hk
 refine⟨_,Zhx Zbp (Z9 hi hvis hd hcd) pk hs,fun H0 B Hf sd σ H Q sr h=>?_⟩
 unfold Zf7 at h
 split at h
 case h_2=>exact h.elim
 rename_i ds ei
 obtain⟨p,z1,_,_,_⟩:=sr.ow i _ ei rfl
 refine⟨_,z1,qk H0 B Hf sd σ H _ sr (Po.bind h fun k y Hf1 H1 _ g1 ry h1=>?_)⟩
 split at h1
 ·rename_i j _
  split at h1
  ·rename_i d ed
   obtain⟨p',z1',_,_,xs,z4,z5⟩:=(sr.gr g1).ow i _ ei rfl
   rw[z1] at z1'
   cases z1'
   obtain⟨v,e1,e2⟩:=Bb z5 ed
   exact .inl ⟨p,xs,j,v,rfl,rep_int.mp ry,SqL.of z4,e1,Po.ret (R:=rV X.K) g1.sub h1 e2⟩
  ·exact h1.elim
 ·exact h1.elim
end DL
namespace DL
open PySem PySem.Spec PyProof.Rows L2 PySem.W
def Zad (p q r t:Int):D->M D
 |.tup [.tup [.int a,.int b],.tup [.int c,.int d]]=>.ok (.bl (!(decide (a=p)&&decide (b=q)&&decide (c=r)&&decide (d=t))))
 |_=>.bad
end DL
namespace DL
open PySem PySem.Spec PyProof.Rows L2
theorem Sm {α β:Type}{F:α->β->Prop}:∀{l:List α}{m:List β},Paired F l m->∀{i:Nat}{a:α},l[i]?=some a->∃b,m[i]?=some b/\F a b
 |_,_,.nil,i,a,e=>by simp at e
 |_,_,.cons h t,0,a,e=>by simp at e;subst e;exact⟨_,rfl,h⟩
 |_,_,.cons h t,i+1,a,e=>by
  obtain⟨b,e1,e2⟩:=Sm t (i:=i) (by simpa using e)
  exact⟨b,by simpa using e1,e2⟩
section
variable {X:Cx}{E:XK}{pos p apos cpos:Pos}
def Ma (K:PySem.W.Frag)(T:Addr)(p q r t:Int):Bool:=match K.lookup T with
 |some o=>(match o.cls,o.data with
  |.type n,.seq its _=>decide (n="tuple")&&(match its.toList with
   |[.ref a,.ref b]=>Zf3 K a [.int p,.int q]&&Zf3 K b [.int r,.int t]
   |_=>false)
  |_,_=>false)
 |none=>false
def Zc0 {K:PySem.W.Frag}{T:Addr}{p q r t:Int}(h:Ma K T p q r t=true)(H:Hp):∃a b,SqT K H T [.ref a,.ref b]/\SqT K H a [.int p,.int q]/\SqT K H b [.int r,.int t]:=by
 unfold Ma at h
 split at h
 ·rename_i o eo
  split at h
  ·rename_i n its m e1 e2
   rw[Bool.and_eq_true] at h
   obtain⟨h1,h2⟩:=h
   have h1:=of_decide_eq_true h1
   subst h1
   split at h2
   ·rename_i a b el
    rw[Bool.and_eq_true] at h2
    have hs:its.size=2:=by rw[<-Array.length_toList,el];rfl
    refine⟨a,b,.inr ⟨o,its,m,eo,e1,e2,?_,?_⟩,(Hh h2.1).1,(Hh h2.2).1⟩
    ·rw[hs,sizeLine_eq];decide
    ·rw[el]
     exact .cons rfl (.cons rfl .nil)
   ·cases h2
  ·cases h
 ·cases h
section
variable {pins:List (Addr×Obj)}{σ:L2.St}{H:Hp}{s:Shared}
def Hn (I:Inv X pins σ H s){A:Around}(hu:A.units+2<cLine){a b:Addr}{x y u v:Int}(ha:SqT X.K H a [.int x,.int y])(hb:SqT X.K H b [.int u,.int v]):SeqAt.EqAt A s (.ref a) (.ref b) (decide (x=u)&&decide (y=v)):=by
 obtain⟨i1,v1,t1,_⟩:=I.tuple ha
 obtain⟨i2,v2,t2,_⟩:=I.tuple hb
 obtain⟨a1,a2,rfl,r1,r2⟩:=Ru v1
 obtain⟨b1,b2,rfl,r3,r4⟩:=Ru v2
 obtain⟨k1,rfl⟩:=(show ∃t,a1=Value.int x t from r1)
 obtain⟨k2,rfl⟩:=(show ∃t,a2=Value.int y t from r2)
 obtain⟨k3,rfl⟩:=(show ∃t,b1=Value.int u t from r3)
 obtain⟨k4,rfl⟩:=(show ∃t,b2=Value.int v t from r4)
 have rc:=SeqAt.RcAt.tuples (e:=fun j=>if j=0 then x==u else y==v) t1 t2 (show A.units<cLine by lia) fun j h1 h2=>by
  have:j=0\/j=1:=by simp at h1;lia
  rcases this with rfl|rfl
  ·exact .int_int x k1 u k3
  ·exact .int_int y k2 v k4
 have e:(decide (x=u)&&decide (y=v))=((List.range (min [Value.int x k1,Value.int y k2].toArray.size [Value.int u k3,Value.int v k4].toArray.size)).all (fun j=>if j=0 then x==u else y==v)&&([Value.int x k1,Value.int y k2].toArray.size==[Value.int u k3,Value.int v k4].toArray.size)):=by
  show _=((List.range 2).all _&&true)
  rw[Bool.eq_iff_iff]
  simp[List.range_succ]
 rw[e]
 by_cases hp:a=b
 ·subst hp
  have q:=I.tuple_inj ha hb
  injection q with q1 q2
  injection q2 with q2 _
  injection q1 with q1
  injection q2 with q2
  rw[<-e,q1,q2,decide_eq_true rfl,decide_eq_true rfl]
  exact .same _
 ·exact .of_refs hp rc
def Zf8 (I:Inv X pins σ H s)(hu:X.A.units+64<cLine){p T a b c d:Addr}{x y z w p' q' r' t':Int}(h1:SqT X.K H p [.ref a,.ref b])(h2:SqT X.K H a [.int x,.int y])(h3:SqT X.K H b [.int z,.int w])(g1:SqT X.K H T [.ref c,.ref d])(g2:SqT X.K H c [.int p',.int q'])(g3:SqT X.K H d [.int r',.int t']):SeqAt.RcNeAt X.A s (.ref p) (.ref T) (!(decide (x=p')&&decide (y=q')&&decide (z=r')&&decide (w=t'))):=by
 obtain⟨i1,v1,t1,_⟩:=I.tuple h1
 obtain⟨i2,v2,t2,_⟩:=I.tuple g1
 obtain⟨a1,a2,rfl,r1,r2⟩:=Ru v1
 obtain⟨b1,b2,rfl,r3,r4⟩:=Ru v2
 obtain rfl:a1=Value.ref a:=r1
 obtain rfl:a2=Value.ref b:=r2
 obtain rfl:b1=Value.ref c:=r3
 obtain rfl:b2=Value.ref d:=r4
 have hu1:X.A.in1.units+2<cLine:=by show X.A.units+1+2<_;lia
 have e1:=Hn I (A:=X.A.in1) hu1 h2 g2
 have e2:=Hn I (A:=X.A.in1) hu1 h3 g3
 have ne:=SeqAt.RcNeAt.tuples (e:=fun j=>if j=0 then(decide (x=p')&&decide (y=q')) else(decide (z=r')&&decide (w=t'))) t1 t2 (show X.A.units<cLine by lia) fun j k1 k2=>by
  have:j=0\/j=1:=by simp at k1;lia
  rcases this with rfl|rfl
  ·exact e1
  ·exact e2
 have e:(!(decide (x=p')&&decide (y=q')&&decide (z=r')&&decide (w=t')))=!((List.range (min [Value.ref a,Value.ref b].toArray.size [Value.ref c,Value.ref d].toArray.size)).all (fun j=>if j=0 then(decide (x=p')&&decide (y=q')) else(decide (z=r')&&decide (w=t')))&&([Value.ref a,Value.ref b].toArray.size==[Value.ref c,Value.ref d].toArray.size)):=by
  show _=!((List.range 2).all _&&true)
  simp[List.range_succ,Bool.and_assoc]
 rw[e]
 exact ne
end
def Zo1 (K:PySem.W.Frag)(T:Addr)(p q r t:Int):R2:=fun x y H Q=>∃c a b k l m n,x=.ref c/\y=.ref T/\SqT K H c [.ref a,.ref b]/\SqT K H a [.int k,.int l]/\SqT K H b [.int m,.int n]/\Q (.bl (!(decide (k=p)&&decide (l=q)&&decide (m=r)&&decide (n=t)))) H
def Zkc {T:Addr}{p q r t:Int}(hu:X.A.units+64<cLine)(hT:Ma X.K T p q r t=true):OpR X (compareOp .NotEq) (Zo1 X.K T p q r t):=by
 intro pins s σ H x y v u Q I rx ry h
 obtain⟨c,a,b,k,l,m,n,rfl,rfl,h1,h2,h3,q⟩:=h
 obtain rfl:v=Value.ref c:=rx
 obtain rfl:u=Value.ref T:=ry
 obtain⟨d,e,g1,g2,g3⟩:=Zc0 hT H
 exact Zf8 I hu h1 h2 h3 g1 g2 g3 _ _ _ _ ⟨.bl _,H,I,rfl,q⟩
def Zf9 {x:Str}{e:Expr}{p2:Pos}{T:Addr}{p q r t:Int}{f:Zf->M D}(hu:X.A.units+64<cLine)(hm:X.mg x=some (.ref T))(ht:Ma X.K T p q r t=true)(he:Yn X E e f)(hg:Gl X x:=by rfl) (hd:(x==("__debug__":Str))=false:=by decide):
  Ls X E (.Compare e [.NotEq] [.Name x p2] pos) (DL.tB (Eo (Zad p q r t) f)):=by
 obtain⟨te,pe,qe⟩:=he
 refine⟨_,Mz (Zkc hu ht) pe (Zew (v:=.ref T) hg hm rfl hd) (by with_unfolding_all rfl),fun H0 B Hf sd σ H Q sr h=>?_⟩
 refine qe H0 B Hf sd σ H _ sr (Po.bind (Zj9 h) fun d v Hf1 H1 _ g1 rv h1=>?_)
 unfold Zad at h1
 split at h1
 ·rename_i k l m n _
  obtain⟨c,xs,rfl,hc,hr⟩:=Qc rv
  obtain⟨v1,v2,rfl,r1,r2⟩:=A6 hr
  obtain⟨a,as,rfl,ha,hra⟩:=Qc r1
  obtain⟨b,bs,rfl,hb,hrb⟩:=Qc r2
  obtain⟨w1,w2,rfl,s1,s2⟩:=A6 hra
  obtain⟨w3,w4,rfl,s3,s4⟩:=A6 hrb
  rw[rep_int] at s1 s2 s3 s4
  subst s1 s2 s3 s4
  exact⟨c,a,b,k,l,m,n,rfl,rfl,Same.seqT g1.sub hc,Same.seqT g1.sub ha,Same.seqT g1.sub hb,Po.ret g1.sub h1 (rep_bl.mpr rfl)⟩
 ·exact h1.elim
end
section
variable {X:Cx}{E:XK}{pos p1 p2 pos':Pos}{key value:Expr}{x:Str}
def Zo2 {σ:L2.St}{i:Nat}{v:Option V}(hi:i≠0):(σ.set i v)[0]?=σ[0]?:=List.getElem?_set_ne hi
end
def Gb (H:Hp)(a:Addr):Hp:=fun b=>if b=a then none else H b
def Ks (H:Hp)(a:Addr):Same (Gb H a) H:=fun b u q=>by
 unfold Gb at q
 split at q
 ·cases q
 ·exact q
def Kt (H:Hp)(a:Addr):Gb H a a=none:=if_pos rfl
def X9 {H:Hp}{a b:Addr}(h:b≠a):Gb H a b=H b:=if_neg h
structure GrM (a:Addr) (Hf H Hf' H':Hp):Prop where
 fz:Same Hf Hf'
 sub:Same Hf' H'
 all:∀b u,b≠a->H b=some u->H' b=some u
 ban:∀b,Lv H b->Hf b=none->Hf' b=none
def Zlj (K:PySem.W.Frag)(Hf:Hp):List S->List V->Prop:=Paired fun s v=>s.own=false/\RepS K Hf s v
def Zmt (K:PySem.W.Frag)(Hf _H:Hp)(ss:List S)(vs:List V):Prop:=Zlj K Hf ss vs
def Zh7 (X:Cx)(E:XK)(es:List Expr)(f:Zf->M (List S)):Prop:=
 ∃t:TA,PA X es t/\∀(H0:Hp) (B:Addr->Prop) (Hf:Hp) (sd:Zf) (σ:L2.St) (H:Hp) (Q:List V->Hp->Prop),SR X.K H0 B Hf sd σ H->Po X.K E (Zmt X.K) Hf H (f sd) Q->t σ H Q
def Wx:S->Bool
 |.ob _ _ _=>true
 |.fl _ _ _=>true
 |_=>false
def Jp {s:S}(h:Wx s=true):s.own=false:=by
 cases s<;>first|rfl|cases h
def Mb (_:Zf):M (List S):=.ok []
def Vp (i:Nat)(fr:Zf->M (List S))(sd:Zf):M (List S):=match sd[i]? with
 |some (some s)=>if Wx s then(fr sd).bind fun ss=>.ok (s::ss) else .bad
 |_=>.bad
def Gv (fa:Zf->M D)(fr:Zf->M (List S))(sd:Zf):M (List S):=(fa sd).bind fun d=>(fr sd).bind fun ss=>.ok (.im d::ss)
section
variable {X:Cx}{E:XK}{pos p p1 p2 apos:Pos}{a:Expr}{es:List Expr}{x:Str}
def Rh:Zh7 X E [] Mb:=⟨_,Xz,fun _ _ _ _ _ _ _ sr h=>Po.ret (R:=Zmt X.K) sr.sub h .nil⟩
def Wi {fa:Zf->M D}{fr:Zf->M (List S)}(ha:Yn X E a fa)(hr:Zh7 X E es fr)(hs:starEach (a::es) X.env=(false,eval a X.env)::starEach es X.env:=by rfl):Zh7 X E (a::es) (Gv fa fr):=by
 obtain⟨ta,pa,qa⟩:=ha
 obtain⟨tr,pr,qr⟩:=hr
 refine⟨_,Qk pa pr hs,fun H0 B Hf sd σ H Q sr h=>?_⟩
 refine qa H0 B Hf sd σ H _ sr (Po.bind h fun d v Hf1 H1 _ g1 rv h1=>?_)
 refine qr H0 B Hf1 sd σ H1 _ (sr.gr g1) (Po.bind h1 fun ds vs Hf2 H2 _ g2 rs h2=>?_)
 exact Po.ret (R:=Zmt X.K) g2.sub h2 (.cons ⟨rfl,Rep.mono g2.fz rv⟩ rs)
def J9 (i:Nat){fr:Zf->M (List S)}(hr:Zh7 X E es fr)(hN:X.N[i]?=some x:=by rfl)(hv:Pz X.env.scope x:=by trivial) (hd:(x==("__debug__":Str))=false:=by decide)
  (hcd:(x==("__classdict__":Str))=false:=by decide) (hs:starEach (.Name x p::es) X.env=(false,eval (.Name x p) X.env)::starEach es X.env:=by rfl):Zh7 X E (.Name x p::es) (Vp i fr):=by
 obtain⟨tr,pr,qr⟩:=hr
 refine⟨_,Qk (Z9 hN hv hd hcd) pr hs,fun H0 B Hf sd σ H Q sr h=>?_⟩
 unfold Vp at h
 split at h
 ·rename_i s ei
  split at h
  ·rename_i ho
   obtain⟨v,e1,e2⟩:=sr.imS i s ei (Jp ho)
   refine⟨v,e1,qr H0 B Hf sd σ H _ sr (Po.bind h fun ss vs Hf1 H1 _ g1 rs h1=>?_)⟩
   exact Po.ret (R:=Zmt X.K) g1.sub h1 (.cons ⟨Jp ho,e2.mono g1.fz⟩ rs)
  ·exact h.elim
 ·exact h.elim
end
def Pu (K:PySem.W.Frag)(F:List S->M S):Sp:=fun vs H Q _=>∃Hf ss s,Same Hf H/\Zlj K Hf ss vs/\F ss=.ok s/\∀v Hf' H',Gr Hf H Hf' H'->RS K H Hf' H' s v->Q v H'
def Ho (n m:Nat)(f:Zf->M O)(ss:List S):M S:=if ss.length=n then Nx (f (ss.map some++List.replicate m none)) else .bad
def Wj {K:PySem.W.Frag}{N:List Str}{Hf H:Hp}{ss:List S}{vs:List V}{m:Nat}(e:Same Hf H)(r:Zlj K Hf ss vs)(hN:N.length=ss.length+m):
  SR K H (fun a=>Lv H a/\Hf a=none) Hf (ss.map some++List.replicate m none) (L2.Xu N vs) H:=by
 have hlen:=Paired.length r
 have es:L2.Xu N vs=vs.map some++List.replicate m none:=by
  unfold L2.Xu
  rw[show N.length-vs.length=m by lia]
 rw[es]
 refine SR.ofS e (by simp[hlen]) fun i t h=>?_
 by_cases hl:i<ss.length
 ·rw[List.getElem?_append_left (by simpa using hl),List.getElem?_map] at h
  cases q:ss[i]? with
  |none=>rw[q] at h;cases h
  |some s=>
   rw[q] at h
   cases h
   obtain⟨v,e1,e2,e3⟩:=Sm r q
   have:i<vs.length:=(List.getElem?_eq_some_iff.mp e1).1
   exact⟨e2,v,by rw[List.getElem?_append_left (by simpa using this),List.getElem?_map,e1];rfl,e3⟩
 ·rw[List.getElem?_append_right (by simpa using hl),List.getElem?_replicate] at h
  split at h<;>cases h
def Ex {P:Program}{w:World}{K:PySem.W.Frag}{mg:Str->Option Value}{base:Heap}{x qual:Str}{st:Stmt}{f:Addr}{fd:FuncData}{N ps:List Str}{k m n:Nat}{fb:Zf->M O}(F:Fun K x qual st f fd)(sc:FnScope N ps (Zg st))(hn:ps.length=n)(hN:N.length=n+m)(hbody:∀(cdv:Value) (A:Around) (outer:List Env) (s:Shared) (H:Hp) (E:XK),Room k (A.deeper (envOfC qual (Zg st) s.heap.objs.size f cdv)) ->
   Nr (X0 Ye P w K mg base N qual (Zg st) f cdv A outer s H E).nox E0 (Yy st) fb):FnOk P w K mg base Ye (k+1) f fd ps (Pu K (Ho n m fb)):=by
 refine F.ok sc (fun vs H Q E h=>?_) (fun cdv A outer s H vs Q E hr h=>?_)
 ·obtain⟨Hf,ss,s,e,r,hF,_⟩:=h
  unfold Ho at hF
  split at hF
  ·rename_i hl
   rw[<-Paired.length r,hl,hn]
  ·cases hF
 ·obtain⟨Hf,ss,s',e,r,hF,q⟩:=h
  obtain⟨t,p,qt⟩:=hbody cdv A outer s H E hr
  unfold Ho at hF
  split at hF
  ·rename_i hl
   refine⟨t,p,qt H _ Hf _ (L2.Xu N vs) H _ (Wj (N:=N) (m:=m) e r (by lia)) ?_⟩
   generalize fb (ss.map some++List.replicate m none)=ro at hF
   have back:∀{v:V}{Hf' H':Hp}{s:DL.S},Same Hf Hf'->Fin' H (fun a=>Lv H a/\Hf a=none) Hf' H'->RS K H Hf' H' s v->s=s'->Q v H':=fun {v Hf' H' s} e1 e2 e3 e4=>by
    subst e4
    exact q v Hf' H' ⟨e1,e2.sub,e2.all,fun a h1 h2=>e2.ban a ⟨h1,h2⟩⟩ e3
   cases ro with
   |ok o=>
    cases o with
    |rt s2=>
     have e':s2=s':=by cases hF;rfl
     exact fun v Hf' H' e1 e2 e3=>back e1 e2 e3 e'
    |nx sd'=>
     have e':DL.S.im .non=s':=by cases hF;rfl
     exact fun σ' Hf' H' e1 sr'=>back (v:=.non) (s:=DL.S.im .non) e1 sr'.fin (show Rep K Hf' .non .non from rep_non.mpr rfl) e'
    |bk sd'=>cases hF
    |ct sd'=>cases hF
   |ex x=>cases hF
   |bad=>cases hF
  ·cases hF
def Gw:M S->M D
 |.ok (.im d)=>.ok d
 |_=>.bad
def Sn (F:List S->M S)(fs:Zf->M (List S))(sd:Zf):M D:=(fs sd).bind fun ss=>Gw (F ss)
def Bp {K:PySem.W.Frag}{E:XK}{Hf1 H1:Hp}{F:List S->M S}{ss:List S}{vs:List V}{Q:VK}(e:Same Hf1 H1)(rs:Zlj K Hf1 ss vs)(h:Po K E (rV K) Hf1 H1 (Gw (F ss)) Q){E':XK}:Pu K F vs H1 Q E':=by
 cases q:F ss with
 |ok s=>
  rw[q] at h
  cases s with
  |im d=>exact⟨Hf1,ss,.im d,e,rs,q,fun v Hf' H' g rv=>h v Hf' H' g rv⟩
  |ow ds=>exact h.elim
  |od kvs=>exact h.elim
  |dk kvs=>exact h.elim
  |xc x=>exact h.elim
  |fn x=>exact h.elim
  |ob a c r=>exact h.elim
  |fl a g q=>exact h.elim
 |ex x=>rw[q] at h;exact h.elim
 |bad=>rw[q] at h;exact h.elim
section
variable {X:Cx}{E:XK}{pos p p1 p2 apos:Pos}{a:Expr}{es:List Expr}{x vn m:Str}{k:Nat}{f:Addr}{fd:FuncData}{ps:List Str}{F:List S->M S}
def Cq {fs:Zf->M (List S)}(G:FnOk X.prog X.w X.K X.mg X.base Ye k f fd ps (Pu X.K F))(hr:Room k X.A)(hm:X.mg x=some (.ref f))(hk:PySem.W.keepIn X.K (.ref f)=true)(hb:Binds X.K fd ps [])(ha:Zh7 X E (a::es) fs)(hg:Gl X x:=by rfl) (hdb:(x==("__debug__":Str))=false:=by decide) (he:starEach (a::es) X.env=(false,eval a X.env)::starEach es X.env:=by rfl) (hpl:(backTo pos (starEach es X.env)).any (·.1)=false:=by rfl):
  Yn X E (.Call (.Name x p) (a::es) [] pos) (Sn F fs):=by
 obtain⟨t,pt,qt⟩:=ha
 refine⟨_,Jy (dvs:=[]) (E:=E0) G hr hg hm hk hb .nil Jl pt hdb he hpl,fun H0 B Hf sd σ H Q sr h=>?_⟩
 refine qt H0 B Hf sd σ H _ sr (Po.bind h fun ss vs Hf1 H1 _ g1 rs h1=>?_)
 show Pu X.K F (vs++[]) H1 Q _
 rw[List.append_nil]
 exact Bp g1.sub rs h1
structure ObC (K:PySem.W.Frag) (c:Str) (C:Addr):Prop where
 at_:PySem.W.nsIn K mainGlobals c=some (some (.ref C))
 cls:Cls K C
def Gx {K:PySem.W.Frag}{H:Hp}{r:List (Str×D)}{gs:List (Str×V)}(h:RepKV K H r gs)(n:Str):match r.lookup n with
  |some d=>∃v,gs.lookup n=some v/\Rep K H d v
  |none=>gs.lookup n=none:=by
 induction h with
 |nil=>rfl
 | @cons p q l l' hp ht ih=>
  obtain⟨p1,p2⟩:=p
  obtain⟨q1,q2⟩:=q
  obtain⟨e,rp⟩:=hp
  have e:p1=q1:=e
  subst e
  rw[List.lookup_cons,List.lookup_cons]
  cases n==p1 with
  |true=>exact⟨q2,rfl,rp⟩
  |false=>exact ih
def Q2 (i:Nat)(c n:Str)(sd:Zf):M D:=match sd[i]? with
 |some (some (.ob _ c' r))=>if c'=c then(match r.lookup n with|some d=>.ok d|none=>.bad) else .bad
 |_=>.bad
def Ql (i:Nat){c n:Str}{C:Addr}(oc:ObC X.K c C)(na:NoAttr X.K C n)(hN:X.N[i]?=some vn:=by rfl)(hv:Pz X.env.scope vn:=by trivial) (hd:(vn==("__debug__":Str))=false:=by decide)
  (hcd:(vn==("__classdict__":Str))=false:=by decide) (hb:attributeBase (.Name vn p) n X.env (eval (.Name vn p) X.env)=eval (.Name vn p) X.env:=by rfl):Yn X E (.Attribute (.Name vn p) n pos) (Q2 i c n):=by
 refine⟨_,Ui (Z9 hN hv hd hcd) hb,fun H0 B Hf sd σ H Q sr h=>?_⟩
 unfold Q2 at h
 split at h
 ·rename_i a c' r ei
  split at h
  ·rename_i ec
   subst ec
   obtain⟨v,e1,C',dx,gs,rfl,e2,e3,e4⟩:=sr.imS i _ ei rfl
   rw[oc.at_] at e2
   cases e2
   have kl:=Gx e4 n
   split at h
   ·rename_i d el
    rw[el] at kl
    obtain⟨v,l,rv⟩:=kl
    exact⟨.ref a,e1,a,C,dx,gs,v,rfl,sr.sub _ _ e3,oc.cls,na,l,Po.ret (R:=rV X.K) sr.sub h rv⟩
   ·exact h.elim
  ·exact h.elim
 ·exact h.elim
def Xk (i:Nat)(c n:Str)(F:List S->M S)(fs:Zf->M (List D))(sd:Zf):M D:=match sd[i]? with
 |some (some (.ob a c' r))=>if c'=c/\r.lookup n=none then(fs sd).bind fun ds=>Gw (F (.ob a c' r::ds.map S.im)) else .bad
 |_=>.bad
theorem Bq {K:PySem.W.Frag}{H:Hp}:∀{ds:List D}{vs:List V},Reps K H ds vs->Zlj K H (ds.map S.im) vs
 |[],_,r=>by rw[reps_nil.mp r];exact .nil
 |d::ds,_,r=>by
  obtain⟨x,t,rfl,h,q⟩:=reps_cons.mp r
  exact .cons ⟨rfl,h⟩ (Bq q)
def Mc {c n:Str}{C:Addr}{t:TA}{fs:Zf->M (List D)}{i:Nat}(oc:ObC X.K c C)(qt:∀(H0:Hp) (B:Addr->Prop) (Hf:Hp) (sd:Zf) (σ:L2.St) (H:Hp) (Q:List V->Hp->Prop),SR X.K H0 B Hf sd σ H->Po X.K E (rA X.K) Hf H (fs sd) Q->t σ H Q){H0:Hp}{B:Addr->Prop}{Hf:Hp}{sd:Zf}{σ:L2.St}{H:Hp}{Q:VK}{E':XK}(sr:SR X.K H0 B Hf sd σ H)(h:Po X.K E (rV X.K) Hf H (Xk i c n F fs sd) Q):Zbm C n (Pu X.K F) [] E' (Za8 i) t σ H Q:=by
 unfold Xk at h
 split at h
 ·rename_i a c' r ei
  split at h
  ·rename_i ec
   obtain⟨ec,el⟩:=ec
   subst ec
   obtain⟨v,e1,C',dx,gs,rfl,e2,e3,e4⟩:=sr.imS i _ ei rfl
   rw[oc.at_] at e2
   cases e2
   have kl:=Gx e4 n
   rw[el] at kl
   refine⟨.ref a,e1,a,dx,gs,rfl,sr.sub _ _ e3,kl,qt H0 B Hf sd σ H _ sr (Po.bind h fun ds vs Hf1 H1 _ g1 rs h1=>?_)⟩
   rw[List.append_nil]
   have ro:RepS X.K Hf1 (.ob a c' r) (.ref a):=RepO.mono g1.fz ⟨C,dx,gs,rfl,oc.at_,e3,e4⟩
   exact Bp g1.sub (.cons ⟨rfl,ro⟩ (Bq rs)) h1
  ·exact h.elim
 ·exact h.elim
def Uv (i:Nat){c:Str}{C:Addr}{fs:Zf->M (List D)}{pl:Sem Bool}(oc:ObC X.K c C)(hm:Meth X.K C m f)(G:FnOk X.prog X.w X.K X.mg X.base Ye k f fd ps (Pu X.K F))(hr:Room k X.A)(hb:Binds X.K fd ps [])(ha:Tp X E (a::es) fs)(hN:X.N[i]?=some vn:=by rfl)(hv:Pz X.env.scope vn:=by trivial) (hd:(vn==("__debug__":Str))=false:=by decide) (hcd:(vn==("__classdict__":Str))=false:=by decide)
  (Nk:starEach (a::es) X.env=(false,eval a X.env)::starEach es X.env:=by rfl) (hpl:(backTo pos (starEach es X.env)).any (·.1)=false:=by rfl)
  (ht:eval (.Call (.Attribute (.Name vn p) m apos) (a::es) [] pos) X.env=(do
   let ov <-eval (.Name vn p) X.env
   standAt apos.atName
   let (f,first) <-holding [ov] (getMethod ov m pl)
   callWith pos f first (backTo pos (starEach (a::es) X.env)) (backToKw pos (keywordEach [] X.env))):=by rfl):Yn X E (.Call (.Attribute (.Name vn p) m apos) (a::es) [] pos) (Xk i c m F fs):=by
 obtain⟨t,pt,qt⟩:=ha
 exact⟨_,M4 (dvs:=[]) (E:=E0) (pl:=pl) (Z9 hN hv hd hcd) oc.cls hm G hr hb .nil Jl pt Nk hpl ht,fun H0 B Hf sd σ H Q sr h=>Mc oc qt sr h⟩
def Kh (i:Nat){c:Str}{C:Addr}{pl:Sem Bool}(oc:ObC X.K c C)(hm:Meth X.K C m f)(G:FnOk X.prog X.w X.K X.mg X.base Ye k f fd ps (Pu X.K F))(hr:Room k X.A)(hb:Binds X.K fd ps [])(hN:X.N[i]?=some vn:=by rfl)(hv:Pz X.env.scope vn:=by trivial) (hd:(vn==("__debug__":Str))=false:=by decide) (hcd:(vn==("__classdict__":Str))=false:=by decide)
  (ht:eval (.Call (.Attribute (.Name vn p) m apos) [] [] pos) X.env=(do
   let ov <-eval (.Name vn p) X.env
   standAt apos.atName
   let (f,first) <-holding [ov] (getMethod ov m pl)
   callWith pos f first (backTo pos (starEach [] X.env)) (backToKw pos (keywordEach [] X.env))):=by rfl):Yn X E (.Call (.Attribute (.Name vn p) m apos) [] [] pos) (Xk i c m F Zk):=
 ⟨_,Au (dvs:=[]) (E:=E0) (pl:=pl) (Z9 hN hv hd hcd) oc.cls hm G hr hb .nil Jl ht,fun H0 B Hf sd σ H Q sr h=>Mc oc (fun _ _ _ _ _ _ _ sr h=>Po.ret sr.sub h Reps.nil) sr h⟩
end
def Vd (it ip:Nat)(f:Zf->M O):List (S×D)->Zf->M O
 |[],sd=>.ok (.nx sd)
 |od::r,sd=>(f ((sd.set it (some od.1)).set ip (some (.im od.2)))).bind fun x=>match x with
  |.nx sd2=>Vd it ip f r sd2
  |.ct sd2=>Vd it ip f r sd2
  |.bk sd2=>.ok (.nx sd2)
  |.rt s=>.ok (.rt s)
def Gy (it ip i1 i2:Nat)(f1 f2:Zf->M D)(f:Zf->M O)(sd:Zf):M O:=match sd[i1]?,sd[i2]? with
 |some (some o1),some (some o2)=>if Wx o1&&Wx o2 then(f1 sd).bind fun d1=>(f2 sd).bind fun d2=>Vd it ip f [(o1,d1),(o2,d2)] sd else .bad
 |_,_=>.bad
def PrV (K:PySem.W.Frag)(Hf:Hp)(od:S×D)(v:V):Prop:=∃p a b,v=.ref p/\Hf p=some (.tup [a,b])/\od.1.own=false/\RepS K Hf od.1 a/\Rep K Hf od.2 b
theorem PrV.mono {K:PySem.W.Frag}{H H':Hp}(e:Same H H'){od:S×D}{v:V}(h:PrV K H od v):PrV K H' od v:=by
 obtain⟨p,a,b,e1,e2,e3,e4,e5⟩:=h
 exact⟨p,a,b,e1,e _ _ e2,e3,e4.mono e,e5.mono e⟩
section
variable {X:Cx}{E:XK}{pos q0 q1 q2 pt pp p1 p2 pg:Pos}{x1 x2 xt xp:Str}{e1 e2:Expr}{k0 k1 k2 kt:Nat}
def Zc1 (it ip i1 i2:Nat){body:List Stmt}{f1 f2:Zf->M D}{f:Zf->M O}(hp:PassesOwn (model X.prog X.w) X.A X.env X.xe)(hc:X.calm=true)(hN:X.N.Nodup)(h1:Yn X E e1 f1)(h2:Yn X E e2 f2)(hb:Nr X E body f)(n1:X.N[i1]?=some x1:=by rfl)(n2:X.N[i2]?=some x2:=by rfl)(nt:X.N[it]?=some xt:=by rfl)(np:X.N[ip]?=some xp:=by rfl)(v1:Pz X.env.scope x1:=by trivial)(v2:Pz X.env.scope x2:=by trivial)(lt:Fv X.env.scope xt:=by trivial)(lp:Fv X.env.scope xp:=by trivial)(ft:X.fn xt=true\/X.env.scope.names.lookup xt=some .local:=by first|exact .inl rfl|exact .inr rfl)(fp:X.fn xp=true\/X.env.scope.names.lookup xp=some .local:=by first|exact .inl rfl|exact .inr rfl)
  (d1:(x1==("__debug__":Str))=false:=by decide) (c1:(x1==("__classdict__":Str))=false:=by decide) (d2:(x2==("__debug__":Str))=false:=by decide) (c2:(x2==("__classdict__":Str))=false:=by decide)
  (s1:starEach [.Name x1 p1,e1] X.env=(false,eval (.Name x1 p1) X.env)::starEach [e1] X.env:=by rfl) (s1':starEach [e1] X.env=(false,eval e1 X.env)::starEach [] X.env:=by rfl)
  (s2:starEach [.Name x2 p2,e2] X.env=(false,eval (.Name x2 p2) X.env)::starEach [e2] X.env:=by rfl) (s2':starEach [e2] X.env=(false,eval e2 X.env)::starEach [] X.env:=by rfl)
  (s3:starEach [.Tuple [.Name x1 p1,e1] k1 q1,.Tuple [.Name x2 p2,e2] k2 q2] X.env=(false,eval (.Tuple [.Name x1 p1,e1] k1 q1) X.env)::starEach [.Tuple [.Name x2 p2,e2] k2 q2] X.env:=by rfl)
  (s4:starEach [.Tuple [.Name x2 p2,e2] k2 q2] X.env=(false,eval (.Tuple [.Name x2 p2,e2] k2 q2) X.env)::starEach [] X.env:=by rfl)
  (g1:(assignEach [.Name xt pt,.Name xp pp] X.env).map (·.2)=assign (.Name xt pt) X.env::(assignEach [.Name xp pp] X.env).map (·.2):=by rfl) (g2:(assignEach [.Name xp pp] X.env).map (·.2)=assign (.Name xp pp) X.env::(assignEach [] X.env).map (·.2):=by rfl)
  (gn:(assignEach [.Name xt pt,.Name xp pp] X.env).length=2:=by rfl) (gs:(assignEach [.Name xt pt,.Name xp pp] X.env).findIdx? (·.1)=none:=by rfl)
  (hs:∀x,foldedSetIterable (.Tuple [.Tuple [.Name x1 p1,e1] k1 q1,.Tuple [.Name x2 p2,e2] k2 q2] k0 q0) X.env x=pure x:=by intro _;rfl):
  Ga X E (.For (.Tuple [.Name xt pt,.Name xp pp] kt pg) (.Tuple [.Tuple [.Name x1 p1,e1] k1 q1,.Tuple [.Name x2 p2,e2] k2 q2] k0 q0) body [] pos) (Gy it ip i1 i2 f1 f2 f):=by
 obtain⟨t1,pe1,qe1⟩:=h1
 obtain⟨t2,pe2,qe2⟩:=h2
 obtain⟨tb,pb,qb⟩:=hb
 refine⟨_,Rt hp hc (Zi7 (M3 (Qk (M3 (Qk (Z9 n1 v1 d1 c1) (Qk pe1 Xz s1') s1)) (Qk (M3 (Qk (Z9 n2 v2 d2 c2) (Qk pe2 Xz s2') s2)) Xz s4) s3))) (Zb5 hc (Rr (Ge hN nt lt ft) (Rr (Ge hN np lp fp) Fy g2) g1) gn gs) pb hs,fun H0 B Hf sd σ H D sr h=>?_⟩
 unfold Gy at h
 split at h
 ·rename_i o1 o2 eo1 eo2
  split at h
  ·rename_i ho
   rw[Bool.and_eq_true] at ho
   obtain⟨w1,a1,a2⟩:=sr.imS i1 o1 eo1 (Jp ho.1)
   refine⟨w1,a1,qe1 H0 B Hf sd σ H _ sr (PoS.bind sr h fun y1 u1 Hf1 H1 _ g1 sr1 r1 h1=>?_)⟩
   refine⟨by rw[sizeLine_eq];simp,fun a hl=>?_⟩
   have G1:=Gr.alloc g1.sub hl (.tup [w1,u1])
   have sr2:=sr1.gr G1
   obtain⟨w2,b1,b2⟩:=sr2.imS i2 o2 eo2 (Jp ho.2)
   refine⟨w2,b1,qe2 H0 B _ sd σ _ _ sr2 (PoS.bind sr2 (PoS.weak G1.fz h1) fun y2 u2 Hf2 H2 _ g2 sr3 r2 h2=>?_)⟩
   refine⟨by rw[sizeLine_eq];simp,fun b hl2=>?_⟩
   have G2:=Gr.alloc g2.sub hl2 (.tup [w2,u2])
   have sr4:=sr3.gr G2
   refine⟨by rw[sizeLine_eq];simp,fun z hl3=>?_⟩
   have G3:=Gr.alloc sr4.sub hl3 (.tup [V.ref a,V.ref b])
   have sr5:=sr4.gr G3
   have m2:=g2.fz.trans (G2.fz.trans G3.fz)
   have P1:PrV X.K (upd (upd Hf2 b (.tup [w2,u2])) z (.tup [.ref a,.ref b])) (o1,y1) (.ref a):=⟨a,w1,u1,rfl,m2 _ _ Zo,Jp ho.1,(a2.mono (g1.fz.trans G1.fz)).mono m2,(r1.mono G1.fz).mono m2⟩
   have P2:PrV X.K (upd (upd Hf2 b (.tup [w2,u2])) z (.tup [.ref a,.ref b])) (o2,y2) (.ref b):=⟨b,w2,u2,rfl,G3.fz _ _ Zo,Jp ho.2,b2.mono m2,r2.mono (G2.fz.trans G3.fz)⟩
   have hz:(upd (upd Hf2 b (.tup [w2,u2])) z (.tup [V.ref a,V.ref b])) z=some (.tup [V.ref a,V.ref b]):=Zo
   have h3:=PoS.weak (G2.fz.trans G3.fz) h2
   generalize upd (upd Hf2 b (.tup [w2,u2])) z (.tup [.ref a,.ref b])=Hf3 at *
   generalize upd (upd H2 b (.tup [w2,u2])) z (.tup [.ref a,.ref b])=H3 at *
   refine⟨z,rfl,⟨_,SqT.of (sr5.sub _ _ hz)⟩,?_⟩
   refine⟨fun i m σ' H'=>m=2-i/\∃Hf' sd',Same Hf3 Hf'/\SR X.K H0 B Hf' sd' σ' H'/\PoS X.K E H0 B Hf' (Vd it ip f ([(o1,y1),(o2,y2)].drop i) sd') D,⟨2,rfl,Hf3,sd,Same.refl _,sr5,h3⟩,?_⟩
   rintro i m σ' H' ⟨rfl,Hf',sd',e',sr',h'⟩
   have sq:SqT X.K H' z [V.ref a,V.ref b]:=SqT.of (sr'.sub _ _ (e' _ _ hz))
   have one:∀(od:S×DL.D) (v:V) (r:List (S×DL.D)) (n:Nat),[(o1,y1),(o2,y2)].drop i=od::r->[V.ref a,V.ref b][i]?=some v->PrV X.K Hf3 od v->r=[(o1,y1),(o2,y2)].drop (i+1)->2-(i+1)<2-i ->
     (Zlg X.K z).go i H'/\∃N:L2.St->Hp->Prop,(∀σ' H',N σ' H'->∃m',m'<2-i/\(m'=2-(i+1)/\∃Hf' sd',Same Hf3 Hf'/\SR X.K H0 B Hf' sd' σ' H'/\PoS X.K E H0 B Hf' (Vd it ip f ([(o1,y1),(o2,y2)].drop (i+1)) sd') D))/\∀x H'',(Zlg X.K z).yld i H' x H''->Zmk X.K 2 (Zba (Fw it) (Zba (Fw ip) Zlw)) x σ' H'' fun σ2 H2=>tb {D with nx:=N,ct:=N,bk:=D.nx} σ2 H2:=fun od v r n ed ev pv er hl=>by
    refine⟨⟨_,_,sq,ev⟩,fun σ' H'=>∃Hf' sd',Same Hf3 Hf'/\SR X.K H0 B Hf' sd' σ' H'/\PoS X.K E H0 B Hf' (Vd it ip f ([(o1,y1),(o2,y2)].drop (i+1)) sd') D,fun σ2 H2 w=>⟨2-(i+1),hl,rfl,w⟩,fun x H'' hy=>?_⟩
    obtain⟨e,hy⟩:=hy
    subst e
    have ex:=hy _ sq
    rw[ev] at ex
    cases ex
    obtain⟨p,va,vb,rfl,q1,q2,q3,q4⟩:=pv.mono e'
    refine .inl ⟨p,[va,vb],rfl,.inl (SqT.of (sr'.sub _ _ q1)),rfl,va,[vb],rfl,vb,[],rfl,rfl,?_⟩
    have sr6:=(sr'.set_st it q2 q3).set_im ip q4
    refine qb H0 B Hf' _ _ H'' _ sr6 ?_
    rw[ed] at h'
    unfold Vd at h'
    cases ef:f ((sd'.set it (some od.1)).set ip (some (.im od.2))) with
    |ok o=>
     rw[ef] at h'
     cases o with
     |nx s'=>rw[<-er];exact fun σ' Hf2 H2 e2 sr2=>⟨Hf2,s',e'.trans e2,sr2,PoS.weak e2 h'⟩
     |ct s'=>rw[<-er];exact fun σ' Hf2 H2 e2 sr2=>⟨Hf2,s',e'.trans e2,sr2,PoS.weak e2 h'⟩
     |bk s'=>exact h'
     |rt s=>exact h'
    |ex x=>rw[ef] at h';exact h'
    |bad=>rw[ef] at h';exact h'
   match i,sq,h',one with
   |0,sq,h',one=>exact .inr (one (o1,y1) (.ref a) [(o2,y2)] 0 rfl rfl P1 rfl (by decide))
   |1,sq,h',one=>exact .inr (one (o2,y2) (.ref b) [] 0 rfl rfl P2 rfl (by decide))
   |i+2,sq,h',one=>
    have h2:PoS X.K E H0 B Hf' (.ok (.nx sd')) D:=by simpa[Vd] using h'
    exact .inl ⟨⟨_,sq,by simp⟩,h2 σ' Hf' H' (Same.refl _) sr'⟩
  ·exact h.elim
 ·exact h.elim
end
def Ey (i:Nat)(fk fd:Zf->M D)(sd:Zf):M D:=match sd[i]? with
 |some (some (.fl _ _ q))=>(fk sd).bind fun k=>(fd sd).bind fun d=>(match k with
  |.tup ds=>(match Kr ds with
   |some ks=>.ok ((Yu q ks).getD d)
   |none=>.bad)
  |_=>.bad)
 |_=>.bad
section
variable {X:Cx}{E:XK}{pos p p1 p2 apos bpos cpos:Pos}{a key dflt:Expr}{es:List Expr}{x vn m:Str}{k:Nat}{f:Addr}{fd:FuncData}{ps:List Str}{F:List S->M S}
def Zc2 (i:Nat){C:Addr}{fk fd:Zf->M D}(hu:X.A.units+64<cLine) (oc:ObC X.K "Floor" C) (na:NoAttr X.K C "by_square") (hk:Yn X E key fk) (hf:Yn X E dflt fd)
  (hN:X.N[i]?=some vn:=by rfl) (hv:Pz X.env.scope vn:=by trivial) (hd:(vn==("__debug__":Str))=false:=by decide) (hcd:(vn==("__classdict__":Str))=false:=by decide)
  (hb:attributeBase (.Name vn p) "by_square" X.env (eval (.Name vn p) X.env)=eval (.Name vn p) X.env:=by rfl) (mm:M2 X (.Attribute (.Name vn p) "by_square" bpos) "get" apos key dflt cpos:=by exact⟨rfl,rfl,rfl,rfl⟩):
  Yn X E (.Call (.Attribute (.Attribute (.Name vn p) "by_square" bpos) "get" apos) [key,dflt] [] cpos) (Ey i fk fd):=by
 obtain⟨tk,pk,qk⟩:=hk
 obtain⟨td,pd,qd⟩:=hf
 refine⟨_,Zbx (by lia) (Ui (Z9 hN hv hd hcd) hb) pk pd mm,fun H0 B Hf sd σ H Q sr h=>?_⟩
 unfold Ey at h
 split at h
 ·rename_i a g q ei
  obtain⟨v,e1,C',dx,gs,d,kq,ys,rfl,e2,e3,e4,e6,e7⟩:=sr.imS i _ ei rfl
  rw[oc.at_] at e2
  cases e2
  refine⟨.ref a,e1,a,C,dx,gs,.ref d,rfl,sr.sub _ _ e3,oc.cls,na,e4.sq,d,rfl,.inr ⟨ys,.inl (sr.sub _ _ e6)⟩,?_⟩
  refine qk H0 B Hf sd σ H _ sr (Po.bind h fun dk y Hf1 H1 _ g1 ry h1=>?_)
  refine qd H0 B Hf1 sd σ H1 _ (sr.gr g1) (Po.bind h1 fun dd z Hf2 H2 _ g2 rz h2=>?_)
  split at h2
  ·rename_i ds
   split at h2
   ·rename_i ks ek
    obtain⟨b,rfl,hb2⟩:=Bj ek g2.sub (ry.mono g2.fz)
    have r2:=(e7.mono g1.fz).mono g2.fz
    refine⟨_,DGet.t (g2.sub _ _ (g2.fz _ _ (g1.fz _ _ e6))) hb2,?_⟩
    cases eg:Yu q ks with
    |some d'=>
     obtain⟨v,ev,rv⟩:=r2.get ks eg
     rw[ev]
     rw[eg] at h2
     exact Po.ret (R:=rV X.K) g2.sub h2 rv
    |none=>
     rw[r2.none ks eg]
     rw[eg] at h2
     exact Po.ret (R:=rV X.K) g2.sub h2 rz
   ·exact h2.elim
  ·exact h2.elim
 ·exact h.elim
def So (i:Nat)(F:List S->M S)(fs:Zf->M (List D))(sd:Zf):M D:=match sd[i]? with
 |some (some (.fl a g q))=>(fs sd).bind fun ds=>Gw (F (.fl a g q::ds.map S.im))
 |_=>.bad
def Zc3 (i:Nat){C:Addr}{fs:Zf->M (List D)}{pl:Sem Bool} (oc:ObC X.K "Floor" C) (hm:Meth X.K C "people_at" f) (G:FnOk X.prog X.w X.K X.mg X.base Ye k f fd ps (Pu X.K F)) (hr:Room k X.A) (hb:Binds X.K fd ps []) (ha:Tp X E (a::es) fs)
  (hN:X.N[i]?=some vn:=by rfl) (hv:Pz X.env.scope vn:=by trivial) (hd:(vn==("__debug__":Str))=false:=by decide) (hcd:(vn==("__classdict__":Str))=false:=by decide)
  (Nk:starEach (a::es) X.env=(false,eval a X.env)::starEach es X.env:=by rfl) (hpl:(backTo pos (starEach es X.env)).any (·.1)=false:=by rfl)
  (ht:eval (.Call (.Attribute (.Name vn p) "people_at" apos) (a::es) [] pos) X.env=(do
   let ov <-eval (.Name vn p) X.env
   standAt apos.atName
   let (f,first) <-holding [ov] (getMethod ov "people_at" pl)
   callWith pos f first (backTo pos (starEach (a::es) X.env)) (backToKw pos (keywordEach [] X.env))):=by rfl):Yn X E (.Call (.Attribute (.Name vn p) "people_at" apos) (a::es) [] pos) (So i F fs):=by
 obtain⟨t,pt,qt⟩:=ha
 refine⟨_,M4 (dvs:=[]) (E:=E0) (pl:=pl) (Z9 hN hv hd hcd) oc.cls hm G hr hb .nil Jl pt Nk hpl ht,fun H0 B Hf sd σ H Q sr h=>?_⟩
 unfold So at h
 split at h
 ·rename_i a g q ei
  obtain⟨v,e1,rv⟩:=sr.imS i _ ei rfl
  obtain⟨C',dx,gs,d,kq,ys,rfl,e2,e3,e4,e6,e7⟩:=id rv
  rw[oc.at_] at e2
  cases e2
  refine⟨.ref a,e1,a,dx,gs,rfl,sr.sub _ _ e3,e4.m1,qt H0 B Hf sd σ H _ sr (Po.bind h fun ds vs Hf1 H1 _ g1 rs h1=>?_)⟩
  rw[List.append_nil]
  have ro:RepS X.K Hf1 (.fl a g q) (.ref a):=RepS.mono g1.fz rv
  exact Bp g1.sub (.cons ⟨rfl,ro⟩ (Bq rs)) h1
 ·exact h.elim
end
def Cr (n:Str)(d:D):List (Str×D)->List (Str×D)
 |[]=>[(n,d)]
 |(g,x)::r=>if g=n then(g,d)::r else(g,x)::Cr n d r
def Zc4 {K:PySem.W.Frag}{H:Hp}{r:List (Str×D)}{gs:List (Str×V)}(h:RepKV K H r gs)(n:Str){d:D}{v:V}(rv:Rep K H d v):RepKV K H (Cr n d r) (Yc n v gs):=by
 induction h with
 |nil=>exact .cons ⟨rfl,rv⟩ .nil
 | @cons p q l l' hp ht ih=>
  obtain⟨p1,p2⟩:=p
  obtain⟨q1,q2⟩:=q
  obtain⟨e,rp⟩:=hp
  have e:p1=q1:=e
  subst e
  unfold Cr Yc
  by_cases z:p1=n
  ·rw[if_pos z,if_pos z];exact .cons ⟨rfl,rv⟩ ht
  ·rw[if_neg z,if_neg z];exact .cons ⟨rfl,rp⟩ ih
def Zga (K:PySem.W.Frag)(C:Addr)(Hf H:Hp)(a:Addr)(r:List (Str×D)):Prop:=∃dx gs,H a=some (.ins C dx gs)/\RepKV K Hf r gs
def P7 (K:PySem.W.Frag)(C:Addr)(F:List (Str×D)->List D->Option (List (Str×D))):Sp:=fun vs H Q _=>∃Hf r ds a rest r',vs=.ref a::rest/\Same Hf H/\Hf a=none/\Zga K C Hf H a r/\Reps K Hf ds rest/\F r ds=some r' /\
 ∀Hf' H',GrM a Hf H Hf' H'->Zga K C Hf' H' a r'->Q .non H'
theorem GrM.refl {a:Addr}{Hf H:Hp}(e:Same Hf H):GrM a Hf H Hf H:=⟨Same.refl _,e,fun _ _ _ q=>q,fun _ _ q=>q⟩
theorem GrM.trans {a:Addr}{Hf H Hf1 H1 Hf2 H2:Hp}(x:GrM a Hf H Hf1 H1)(y:GrM a Hf1 H1 Hf2 H2)(hl:Lv H a->Lv H1 a):GrM a Hf H Hf2 H2:=
 ⟨x.fz.trans y.fz,y.sub,fun b u hb q=>y.all b u hb (x.all b u hb q),fun b hb hn=>y.ban b (by
  by_cases e:b=a
  ·subst e;exact hl hb
  ·obtain⟨o,ho,n⟩:=hb
   exact⟨o,x.all b o e ho,n⟩) (x.ban b hb hn)⟩
def Sq {H:Hp}{a C dx:Addr}{gs:List (Str×V)}(h:H a=some (.ins C dx gs)):Lv H a:=⟨_,h,fun _ q=>by cases q⟩
def GrM.of_gr {a:Addr}{Hf H Hf' H':Hp}(g:Gr Hf H Hf' H'):GrM a Hf H Hf' H':=⟨g.fz,g.sub,fun b u _ q=>g.all b u q,g.ban⟩
structure TkC (K:PySem.W.Frag) (C:Addr):Prop where
 oc:ObC K "Track" C
 n1:NoAttr K C "begin"
 n2:NoAttr K C "square"
 n3:NoAttr K C "heading"
 n4:NoAttr K C "due"
 n5:NoAttr K C "lap"
def Zo3 (r:List (Str×D))(n:Str):Option Int:=match r.lookup n with
 |some (.int i)=>some i
 |_=>none
def Zkd {K:PySem.W.Frag}{H:Hp}{r:List (Str×D)}{gs:List (Str×V)}(h:RepKV K H r gs){n:Str}{i:Int}(e:Zo3 r n=some i):gs.lookup n=some (.int i):=by
 unfold Zo3 at e
 split at e
 ·rename_i j ej
  cases e
  have k:=Gx h n
  rw[ej] at k
  obtain⟨v,e1,e2⟩:=k
  rw[rep_int] at e2
  rw[e1,e2]
 ·cases e
structure ISt (K:PySem.W.Frag) (C a:Addr) (H0:Hp) (B:Addr->Prop) (Hb Hf:Hp) (sd:Zf) (σ:L2.St) (H:Hp) (r:List (Str×D)):Prop where
 fb:Same Hb Hf
 sr:SR K H0 B Hf sd σ H
 s0:σ[0]?=some (some (.ref a))
 h0:H0 a=none
 hf:Hf a=none
 im:∀(i:Nat) (t:S),sd[i]?=some (some t)->t.own=false
 at_:Zga K C Hf H a r
section
variable {K:PySem.W.Frag}{C a:Addr}{H0:Hp}{B:Addr->Prop}{Hb Hf H Hf' H':Hp}{sd:Zf}{σ:L2.St}{r:List (Str×D)}
theorem ISt.gr (x:ISt K C a H0 B Hb Hf sd σ H r)(g:Gr Hf H Hf' H'):ISt K C a H0 B Hb Hf' sd σ H' r:=by
 obtain⟨dx,gs,e1,e2⟩:=x.at_
 exact⟨x.fb.trans g.fz,x.sr.gr g,x.s0,x.h0,g.ban a (Sq e1) x.hf,x.im,dx,gs,g.all _ _ e1,e2.mono g.fz⟩
theorem ISt.upd (x:ISt K C a H0 B Hb Hf sd σ H r){dx:Addr}{gs:List (Str×V)}{r':List (Str×D)}(h:RepKV K Hf r' gs):ISt K C a H0 B Hb Hf sd σ (L2.upd H a (.ins C dx gs)) r':=by
 have sr:=x.sr
 refine⟨x.fb,⟨fun b u q=>?_,fun b u q=>?_,sr.ban,sr.bt,sr.len,sr.imS,fun i t e o=>?_,fun i j t u p hij e1 o1 _ _ _ _=>?_⟩,x.s0,x.h0,x.hf,x.im,dx,gs,Zo,h⟩
 ·rw[Zj (Zu q x.hf)];exact sr.sub b u q
 ·rw[Zj (Zu q x.h0)];exact sr.all b u q
 ·rw[x.im i t e] at o;cases o
 ·rw[x.im i t e1] at o1;cases o1
theorem ISt.set (x:ISt K C a H0 B Hb Hf sd σ H r)(i:Nat)(hi:i≠0){d:D}{v:V}(h:Rep K Hf d v):ISt K C a H0 B Hb Hf (sd.set i (some (.im d))) (σ.set i (some v)) H r:=by
 refine⟨x.fb,x.sr.set_im i h,(Zo2 hi).trans x.s0,x.h0,x.hf,fun j t e=>?_,x.at_⟩
 by_cases hj:i=j
 ·subst hj
  have hl:i<sd.length:=by
   have:=(List.getElem?_eq_some_iff.mp e).1
   simpa using this
  rw[List.getElem?_set_self hl] at e
  cases e
  rfl
 ·rw[List.getElem?_set_ne hj] at e
  exact x.im j t e
end
def Md {K:PySem.W.Frag}{N:List Str}{C:Addr}{Hf H:Hp}{r:List (Str×D)}{ds:List D}{a:Addr}{vs:List V}{m:Nat}(e:Same Hf H)(ea:Hf a=none)(ta:Zga K C Hf H a r)(rs:Reps K Hf ds vs)(hN:N.length=ds.length+1+m):
  ISt K C a (Gb H a) (fun b=>Lv (Gb H a) b/\Hf b=none) Hf Hf (none::(ds.map (fun d=>some (S.im d))++List.replicate m none)) (L2.Xu N (.ref a::vs)) H r:=by
 have hlen:=rs.length
 have es:L2.Xu N (V.ref a::vs)=some (V.ref a)::(vs.map some++List.replicate m none):=by
  unfold L2.Xu
  rw[List.map_cons,List.cons_append,show N.length-(V.ref a::vs).length=m by rw[List.length_cons];lia]
 rw[es]
 have tl:∀(i:Nat) (t:S),(none::(ds.map (fun d=>some (S.im d))++List.replicate m none))[i]?=some (some t)->t.own=false/\∃v,(some (V.ref a)::(vs.map some++List.replicate m none))[i]?=some (some v)/\RepS K Hf t v:=fun i t h=>by
  cases i with
  |zero=>rw[List.getElem?_cons_zero] at h;cases h
  |succ i=>
   rw[List.getElem?_cons_succ] at h ⊢
   by_cases hl:i<ds.length
   ·rw[List.getElem?_append_left (by simpa using hl),List.getElem?_map] at h
    cases q:ds[i]? with
    |none=>rw[q] at h;cases h
    |some d=>
     rw[q] at h
     cases h
     obtain⟨y,e1,e2⟩:=rs.get q
     have:i<vs.length:=(List.getElem?_eq_some_iff.mp e1).1
     exact⟨rfl,y,by rw[List.getElem?_append_left (by simpa using this),List.getElem?_map,e1];rfl,e2⟩
   ·rw[List.getElem?_append_right (by simpa using hl),List.getElem?_replicate] at h
    split at h<;>cases h
 refine⟨Same.refl _,⟨e,Ks H a,fun _ h=>h.2,fun _ h=>h.1,by simp[hlen],fun i t h _=>(tl i t h).2,fun i t h ho=>?_,fun i j t u p hij h ho h' ho' _ _=>?_⟩,rfl,Kt H a,ea,fun i t h=>(tl i t h).1,ta⟩
 ·rw[(tl i t h).1] at ho;cases ho
 ·rw[(tl i t h).1] at ho;cases ho
def ISt.back {K:PySem.W.Frag}{C a:Addr}{Hf H Hf' H':Hp}{sd:Zf}{σ:L2.St}{r:List (Str×D)}(x:ISt K C a (Gb H a) (fun b=>Lv (Gb H a) b/\Hf b=none) Hf Hf' sd σ H' r):GrM a Hf H Hf' H':=by
 refine⟨x.fb,x.sr.sub,fun b u hb hu=>x.sr.all b u ((X9 hb).trans hu),fun b hb hn=>?_⟩
 by_cases hba:b=a
 ·subst hba;exact x.hf
 ·obtain⟨o,ho,hno⟩:=hb
  exact x.sr.ban b ⟨⟨o,(X9 hba).trans ho,hno⟩,hn⟩
abbrev Qm:=List (Str×D)
def Ez (X:Cx)(C:Addr)(e:Expr)(g:Zf->Qm->M D):Prop:=
 ∃t:TE,PE X e t/\∀(a:Addr) (H0:Hp) (B:Addr->Prop) (Hb Hf:Hp) (sd:Zf) (σ:L2.St) (H:Hp) (r:Qm) (Q:VK),ISt X.K C a H0 B Hb Hf sd σ H r->Po X.K E0 (rV X.K) Hf H (g sd r) Q->t σ H Q
def Zn1 (X:Cx)(C:Addr)(e:Expr)(g:Zf->Qm->M Bool):Prop:=
 ∃t:TT,PT X e t/\∀(a:Addr) (H0:Hp) (B:Addr->Prop) (Hb Hf:Hp) (sd:Zf) (σ:L2.St) (H:Hp) (r:Qm) (Q:Bool->Hp->Prop),ISt X.K C a H0 B Hb Hf sd σ H r->Po X.K E0 rQ Hf H (g sd r) Q->t σ H Q
def Zo4 (K:PySem.W.Frag)(C a:Addr)(H0:Hp)(B:Addr->Prop)(Hb:Hp)(o:Option (Zf×Qm))(D':Ends):Prop:=match o with
 |some x=>∀σ' Hf' H',ISt K C a H0 B Hb Hf' x.1 σ' H' x.2->D'.nx σ' H'
 |none=>False
def Zke (X:Cx)(C:Addr)(st:Stmt)(g:Zf->Qm->Option (Zf×Qm)):Prop:=
 ∃t:TS,PS X st t/\∀(a:Addr) (H0:Hp) (B:Addr->Prop) (Hb Hf:Hp) (sd:Zf) (σ:L2.St) (H:Hp) (r:Qm) (D':Ends),ISt X.K C a H0 B Hb Hf sd σ H r->Zo4 X.K C a H0 B Hb (g sd r) D'->t D' σ H
def E2 (X:Cx)(C:Addr)(st:List Stmt)(g:Zf->Qm->Option (Zf×Qm)):Prop:=
 ∃t:TS,PSs X st t/\∀(a:Addr) (H0:Hp) (B:Addr->Prop) (Hb Hf:Hp) (sd:Zf) (σ:L2.St) (H:Hp) (r:Qm) (D':Ends),ISt X.K C a H0 B Hb Hf sd σ H r->Zo4 X.K C a H0 B Hb (g sd r) D'->t D' σ H
def Zo5 {α:Type}:M α->Option α
 |.ok a=>some a
 |_=>none
def Zkf (sd:Zf)(r:Qm):Option (Zf×Qm):=some (sd,r)
def Ku (f g:Zf->Qm->Option (Zf×Qm))(sd:Zf)(r:Qm):Option (Zf×Qm):=(f sd r).bind fun x=>g x.1 x.2
def Zes (c:Zf->Qm->M Bool)(f g:Zf->Qm->Option (Zf×Qm))(sd:Zf)(r:Qm):Option (Zf×Qm):=(Zo5 (c sd r)).bind fun b=>if b then f sd r else g sd r
def N7 (n:Str)(e:Zf->Qm->M D)(sd:Zf)(r:Qm):Option (Zf×Qm):=(Zo5 (e sd r)).bind fun d=>if r.length<=900 then some (sd,Cr n d r) else none
def Zae (i:Nat)(e:Zf->Qm->M D)(sd:Zf)(r:Qm):Option (Zf×Qm):=(Zo5 (e sd r)).bind fun d=>some (sd.set i (some (.im d)),r)
def Zc5 (n:Str)(e:Zf->Qm->M D)(sd:Zf)(r:Qm):Option (Zf×Qm):=match Zo3 r n,e sd r with
 |some i,.ok (.int j)=>if r.length<=900 then some (sd,Cr n (.int (i+j)) r) else none
 |_,_=>none
def Hq (m:Str)(F:Qm->List D->Option Qm)(sd:Zf)(r:Qm):Option (Zf×Qm):=if r.lookup m=none then(F r []).map fun r'=>(sd,r') else none
def Ka (f:Zf->M D)(sd:Zf)(_:Qm):M D:=f sd
def Ue (n:Str)(_:Zf)(r:Qm):M D:=match r.lookup n with
 |some d=>.ok d
 |none=>.bad
def D2 (g:D->D->M D)(fa fb:Zf->Qm->M D)(sd:Zf)(r:Qm):M D:=(fa sd r).bind fun x=>(fb sd r).bind fun y=>g x y
def Zgb (c:Zf->Qm->M Bool)(fa fb:Zf->Qm->M D)(sd:Zf)(r:Qm):M D:=(c sd r).bind fun b=>if b then fa sd r else fb sd r
def gB (f:Zf->Qm->M D)(sd:Zf)(r:Qm):M Bool:=(f sd r).bind asB
section
variable {X:Cx}{C:Addr}{pos pos' p p1 apos tpos:Pos}{e e1 e2:Expr}{x vn n m:Str}
def Xf {f:Zf->M D}(h:Yn X E0 e f):Ez X C e (Ka f):=by
 obtain⟨t,pt,q⟩:=h
 exact⟨t,pt,fun a H0 B Hb Hf sd σ H r Q x h=>q H0 B Hf sd σ H Q x.sr h⟩
def Vz (cl:Cls X.K C)(na:NoAttr X.K C n)(hN:X.N[0]?=some vn:=by rfl)(hv:Pz X.env.scope vn:=by trivial) (hd:(vn==("__debug__":Str))=false:=by decide)
  (hcd:(vn==("__classdict__":Str))=false:=by decide) (hb:attributeBase (.Name vn p) n X.env (eval (.Name vn p) X.env)=eval (.Name vn p) X.env:=by rfl):Ez X C (.Attribute (.Name vn p) n pos) (Ue n):=by
 refine⟨_,Ui (Z9 hN hv hd hcd) hb,fun a H0 B Hb Hf sd σ H r Q x h=>?_⟩
 obtain⟨dx,gs,e1,e2⟩:=x.at_
 have k:=Gx e2 n
 unfold Ue at h
 split at h
 ·rename_i d ed
  rw[ed] at k
  obtain⟨v,l,rv⟩:=k
  exact⟨.ref a,x.s0,a,C,dx,gs,v,rfl,e1,cl,na,l,Po.ret (R:=rV X.K) x.sr.sub h rv⟩
 ·exact h.elim
def Zmu {fa fb:Zf->Qm->M D}{g:D->D->M D}{ta tb:TE}{rr:R2}{a:Addr}{H0:Hp}{B:Addr->Prop}{Hb Hf:Hp}{sd:Zf}{σ:L2.St}{H:Hp}{r:Qm}{Q:VK}(qa:∀(a:Addr) (H0:Hp) (B:Addr->Prop) (Hb Hf:Hp) (sd:Zf) (σ:L2.St) (H:Hp) (r:Qm) (Q:VK),ISt X.K C a H0 B Hb Hf sd σ H r->Po X.K E0 (rV X.K) Hf H (fa sd r) Q->ta σ H Q)(qb:∀(a:Addr) (H0:Hp) (B:Addr->Prop) (Hb Hf:Hp) (sd:Zf) (σ:L2.St) (H:Hp) (r:Qm) (Q:VK),ISt X.K C a H0 B Hb Hf sd σ H r->Po X.K E0 (rV X.K) Hf H (fb sd r) Q->tb σ H Q)(hr:∀(Hf H:Hp) (x y:V) (dx dy:D) (Q:VK),Same Hf H->Rep X.K Hf dx x->Rep X.K Hf dy y->Po X.K E0 (rV X.K) Hf H (g dx dy) Q->rr x y H Q)(x:ISt X.K C a H0 B Hb Hf sd σ H r)(h:Po X.K E0 (rV X.K) Hf H (D2 g fa fb sd r) Q):Zlh rr ta tb σ H Q:=by
 refine qa a H0 B Hb Hf sd σ H r _ x (Po.bind h fun d1 v1 Hf1 H1 _ g1 r1 h1=>?_)
 refine qb a H0 B Hb Hf1 sd σ H1 r _ (x.gr g1) (Po.bind h1 fun d2 v2 Hf2 H2 _ g2 r2 h2=>?_)
 exact hr Hf2 H2 v1 v2 d1 d2 Q g2.sub (Rep.mono g2.fz r1) r2 h2
def Zc6 {op:Operator}{g:D->D->M D}{fa fb:Zf->Qm->M D}(ho:Nt X E0 (binaryOp op) g)(ha:Ez X C e1 fa)(hb:Ez X C e2 fb):Ez X C (.BinOp e1 op e2 pos) (D2 g fa fb):=by
 obtain⟨r,hr,qr⟩:=ho
 obtain⟨ta,pa,qa⟩:=ha
 obtain⟨tb,pb,qb⟩:=hb
 exact⟨_,Zbd hr pa pb,fun a H0 B Hb Hf sd σ H r Q x h=>Zmu qa qb qr x h⟩
def Zpm (g:D->M D)(fa:Zf->Qm->M D)(sd:Zf)(r:Qm):M D:=(fa sd r).bind g
def Zkg {op:UnaryOp}{g:D->M D}{fa:Zf->Qm->M D}(ho:Zoy X E0 (unaryOp op) g)(ha:Ez X C e1 fa):Ez X C (.UnaryOp op e1 pos) (Zpm g fa):=by
 obtain⟨r,hr,qr⟩:=ho
 obtain⟨ta,pa,qa⟩:=ha
 refine⟨_,Zbe hr pa,fun a H0 B Hb Hf sd σ H r Q x h=>?_⟩
 refine qa a H0 B Hb Hf sd σ H r _ x (Po.bind h fun d v Hf1 H1 _ g1 rv h1=>?_)
 exact qr Hf1 H1 v d Q g1.sub rv h1
def Hr {op:CmpOp}{g:D->D->M D}{fa fb:Zf->Qm->M D}(ho:Nt X E0 (compareOp op) g)(ha:Ez X C e1 fa)(hb:Ez X C e2 fb)(hm:behindInMarks op e2=false):Zn1 X C (.Compare e1 [op] [e2] pos) (gB (D2 g fa fb)):=by
 obtain⟨r,hr,qr⟩:=ho
 obtain⟨ta,pa,qa⟩:=ha
 obtain⟨tb,pb,qb⟩:=hb
 refine⟨_,Mz hr pa pb hm,fun a H0 B Hb Hf sd σ H r Q x h=>?_⟩
 refine Zmu qa qb qr x (Po.bind h fun d v Hf1 H1 _ g1 rv h1=>?_)
 unfold asB at h1
 split at h1
 ·exact⟨_,rep_bl.mp rv,Po.ret (R:=rQ) g1.sub h1 rfl⟩
 ·exact h1.elim
def Ht {f:Zf->M Bool}(h:Ls X E0 e f):Zn1 X C e (fun sd _=>f sd):=by
 obtain⟨t,pt,q⟩:=h
 exact⟨t,pt,fun a H0 B Hb Hf sd σ H r Q x h=>q H0 B Hf sd σ H Q x.sr h⟩
def Zkh {c:Zf->Qm->M Bool}{fa fb:Zf->Qm->M D}{ce:Expr}(hc:Zn1 X C ce c)(ha:Ez X C e1 fa)(hb:Ez X C e2 fb):Ez X C (.IfExp ce e1 e2 pos) (Zgb c fa fb):=by
 obtain⟨tc,pc,qc⟩:=hc
 obtain⟨ta,pa,qa⟩:=ha
 obtain⟨tb,pb,qb⟩:=hb
 refine⟨_,Aq pc pa pb,fun a H0 B Hb Hf sd σ H r Q x h=>?_⟩
 refine qc a H0 B Hb Hf sd σ H r _ x (Po.bind (R:=rQ) h fun b v Hf1 H1 _ g1 rv h1=>?_)
 have e:b=v:=rv
 subst e
 cases b with
 |true=>rw[if_pos rfl] at h1 ⊢;exact qa a H0 B Hb Hf1 sd σ H1 r Q (x.gr g1) h1
 |false=>rw[if_neg Bool.false_ne_true] at h1 ⊢;exact qb a H0 B Hb Hf1 sd σ H1 r Q (x.gr g1) h1
def Hu:E2 X C [] Zkf:=⟨_,Gd,fun _ _ _ _ Hf _ _ _ _ _ x h=>h _ Hf _ x⟩
def Ve {st:Stmt}{g:Zf->Qm->Option (Zf×Qm)}(h:Zke X C st g):E2 X C [st] g:=by
 obtain⟨t,pt,q⟩:=h
 exact⟨t,Y9 pt,q⟩
def Xl {st:Stmt}{rest:List Stmt}{f g:Zf->Qm->Option (Zf×Qm)}(h:Zke X C st f)(h2:E2 X C rest g):E2 X C (st::rest) (Ku f g):=by
 obtain⟨t,pt,q⟩:=h
 obtain⟨t2,pt2,q2⟩:=h2
 refine⟨_,Qg pt pt2,fun a H0 B Hb Hf sd σ H r D' x h=>?_⟩
 refine q a H0 B Hb Hf sd σ H r _ x ?_
 unfold Ku at h
 cases e:f sd r with
 |none=>rw[e] at h;exact h.elim
 |some y=>
  rw[e] at h
  exact fun σ' Hf' H' x'=>q2 a H0 B Hb Hf' y.1 σ' H' y.2 D' x' h
def E3 {c:Expr}{xs ys:List Stmt}{k:Zf->Qm->M Bool}{f g:Zf->Qm->Option (Zf×Qm)}(hc:Zn1 X C c k)(h:E2 X C xs f)(h2:E2 X C ys g):Zke X C (.If c xs ys pos) (Zes k f g):=by
 obtain⟨t,pt,q⟩:=hc
 obtain⟨t1,pt1,q1⟩:=h
 obtain⟨t2,pt2,q2⟩:=h2
 refine⟨_,Ar pt pt1 pt2,fun a H0 B Hb Hf sd σ H r D' x h=>?_⟩
 refine q a H0 B Hb Hf sd σ H r _ x ?_
 unfold Zes at h
 cases ek:k sd r with
 |ok b=>
  rw[ek] at h
  intro v Hf1 H1 g1 rv
  have e:b=v:=rv
  subst e
  cases b with
  |true=>exact q1 a H0 B Hb Hf1 sd σ H1 r D' (x.gr g1) h
  |false=>exact q2 a H0 B Hb Hf1 sd σ H1 r D' (x.gr g1) h
 |ex z=>rw[ek] at h;exact h.elim
 |bad=>rw[ek] at h;exact h.elim
def Kb {g:Zf->Qm->M D}(cl:Cls X.K C)(na:NoAttr X.K C n)(he:Ez X C e g)(hN:X.N[0]?=some vn:=by rfl)(hv:Pz X.env.scope vn:=by trivial) (hd:(vn==("__debug__":Str))=false:=by decide)
  (hcd:(vn==("__classdict__":Str))=false:=by decide) (hs:swapsWith e (some (.Attribute (.Name vn p) n pos')) pos.line X.env=pure false:=by rfl):Zke X C (.Assign [.Attribute (.Name vn p) n pos'] e pos) (N7 n g):=by
 obtain⟨t,pt,q⟩:=he
 refine⟨_,M1 (Z9 hN hv hd hcd) pt hs,fun a H0 B Hb Hf sd σ H r D' x h=>?_⟩
 refine q a H0 B Hb Hf sd σ H r _ x ?_
 unfold N7 at h
 cases ek:g sd r with
 |ok d=>
  rw[ek] at h
  intro v Hf1 H1 g1 rv
  have y:=x.gr g1
  obtain⟨dx,gs,e1,e2⟩:=y.at_
  have hl:=RepKV.length e2
  have h:Zo4 X.K C a H0 B Hb (if r.length<=900 then some (sd,Cr n d r) else none) D':=h
  split at h
  ·exact⟨.ref a,x.s0,a,C,dx,gs,rfl,e1,cl,na,by lia,h σ Hf1 _ (y.upd (Zc4 e2 n rv))⟩
  ·exact h.elim
 |ex z=>rw[ek] at h;exact h.elim
 |bad=>rw[ek] at h;exact h.elim
def Hv (i:Nat){g:Zf->Qm->M D}(hN:X.N.Nodup)(he:Ez X C e g)(h0:i≠0:=by decide)(hi:X.N[i]?=some x:=by rfl)(hx:Fv X.env.scope x:=by trivial)(hs:swapsWith e (some (.Name x pos')) pos.line X.env=pure false:=by rfl)(hf:X.fn x=true\/X.env.scope.names.lookup x=some .local:=by first|exact .inl rfl|exact .inr rfl|assumption):Zke X C (.Assign [.Name x pos'] e pos) (Zae i g):=by
 obtain⟨t,pt,q⟩:=he
 refine⟨_,Kl hN hi hx pt hs hf,fun a H0 B Hb Hf sd σ H r D' x h=>?_⟩
 refine q a H0 B Hb Hf sd σ H r _ x ?_
 unfold Zae at h
 cases ek:g sd r with
 |ok d=>
  rw[ek] at h
  intro v Hf1 H1 g1 rv
  exact h _ Hf1 H1 ((x.gr g1).set i h0 rv)
 |ex z=>rw[ek] at h;exact h.elim
 |bad=>rw[ek] at h;exact h.elim
def Br {g:Zf->Qm->M D}(cl:Cls X.K C)(na:NoAttr X.K C n)(he:Ez X C e g)(hN:X.N[0]?=some vn:=by rfl)(hv:Pz X.env.scope vn:=by trivial) (hd:(vn==("__debug__":Str))=false:=by decide)
  (hcd:(vn==("__classdict__":Str))=false:=by decide):Zke X C (.AugAssign (.Attribute (.Name vn p) n tpos) .Add e pos) (Zc5 n g):=by
 obtain⟨t,pt,q⟩:=he
 refine⟨_,Ow (Z9 hN hv hd hcd) pt Zjc,fun a H0 B Hb Hf sd σ H r D' x h=>?_⟩
 unfold Zc5 at h
 split at h
 ·rename_i i j ei ej
  obtain⟨dx,gs,e1,e2⟩:=x.at_
  refine⟨.ref a,x.s0,a,C,dx,gs,.int i,rfl,e1,cl,na,Zkd e2 ei,q a H0 B Hb Hf sd σ H r _ x ?_⟩
  rw[ej]
  intro v Hf1 H1 g1 rv
  have y:=x.gr g1
  obtain⟨dx',gs',e1',e2'⟩:=y.at_
  have hl:=RepKV.length e2'
  split at h
  ·exact⟨i,j,rfl,rep_int.mp rv,dx',gs',e1',by lia,h σ Hf1 _ (y.upd (Zc4 e2' n (rep_int.mpr rfl)))⟩
  ·exact h.elim
 ·exact h.elim
end
def Zet (n m:Nat)(g:Zf->Qm->Option (Zf×Qm))(r:Qm)(ds:List D):Option Qm:=if ds.length=n then(g (none::(ds.map (fun d=>some (S.im d))++List.replicate m none)) r).map (·.2) else none
def Zgc {P:Program}{w:World}{K:PySem.W.Frag}{mg:Str->Option Value}{base:Heap}{x qual:Str}{st:Stmt}{f C:Addr}{fd:FuncData}{N ps:List Str}{k m n:Nat}{fb:Zf->Qm->Option (Zf×Qm)}(F:Fun K x qual st f fd)(sc:FnScope N ps (Zg st))(hn:ps.length=n+1)(hN:N.length=n+1+m)(hbody:∀(cdv:Value) (A:Around) (outer:List Env) (s:Shared) (H:Hp) (E:XK),Room k (A.deeper (envOfC qual (Zg st) s.heap.objs.size f cdv)) ->
   E2 (X0 Ye P w K mg base N qual (Zg st) f cdv A outer s H E).nox C (Yy st) fb):FnOk P w K mg base Ye (k+1) f fd ps (P7 K C (Zet n m fb)):=by
 refine F.ok sc (fun vs H Q E h=>?_) (fun cdv A outer s H vs Q E hr h=>?_)
 ·obtain⟨Hf,r,ds,a,rest,r',rfl,e,ea,ta,rs,hF,q⟩:=h
  unfold Zet at hF
  split at hF
  ·rename_i hl
   rw[List.length_cons,<-rs.length,hl,hn]
  ·cases hF
 ·obtain⟨Hf,r,ds,a,rest,r',rfl,e,ea,ta,rs,hF,q⟩:=h
  obtain⟨t,p,qt⟩:=hbody cdv A outer s H E hr
  unfold Zet at hF
  split at hF
  ·rename_i hl
   obtain⟨y,ey,er⟩:=Option.map_eq_some_iff.mp hF
   refine⟨t,p,qt a _ _ Hf Hf _ (L2.Xu N (.ref a::rest)) H r _ (Md (N:=N) (m:=m) e ea ta rs (by lia)) ?_⟩
   rw[ey]
   intro σ' Hf' H' x'
   rw[er] at x'
   exact q Hf' H' x'.back x'.at_
  ·cases hF
section
variable {X:Cx}{C:Addr}{pos p apos spos:Pos}{vn m:Str}{k:Nat}{f:Addr}{fd:FuncData}{ps:List Str}{F:Qm->List D->Option Qm}
def Cs {pl:Sem Bool}(cl:Cls X.K C)(hm:Meth X.K C m f)(G:FnOk X.prog X.w X.K X.mg X.base Ye k f fd ps (P7 X.K C F))(hr:Room k X.A)(hb:Binds X.K fd ps [])(hN:X.N[0]?=some vn:=by rfl)(hv:Pz X.env.scope vn:=by trivial) (hd:(vn==("__debug__":Str))=false:=by decide) (hcd:(vn==("__classdict__":Str))=false:=by decide)
  (ht:eval (.Call (.Attribute (.Name vn p) m apos) [] [] pos) X.env=(do
   let ov <-eval (.Name vn p) X.env
   standAt apos.atName
   let (f,first) <-holding [ov] (getMethod ov m pl)
   callWith pos f first (backTo pos (starEach [] X.env)) (backToKw pos (keywordEach [] X.env))):=by rfl)
  (hs:swapsWith (.Call (.Attribute (.Name vn p) m apos) [] [] pos) none spos.line X.env=pure false:=by rfl):Zke X C (.Expr (.Call (.Attribute (.Name vn p) m apos) [] [] pos) spos) (Hq m F):=by
 refine⟨_,U8 (Au (dvs:=[]) (E:=E0) (pl:=pl) (Z9 hN hv hd hcd) cl hm G hr hb .nil Jl ht) hs,fun a H0 B Hb Hf sd σ H r D' x h=>?_⟩
 unfold Hq at h
 split at h
 ·rename_i hl
  obtain⟨dx,gs,e1,e2⟩:=x.at_
  have kl:=Gx e2 m
  rw[hl] at kl
  cases eF:F r [] with
  |none=>rw[eF] at h;exact h.elim
  |some r'=>
   rw[eF] at h
   refine⟨.ref a,x.s0,a,dx,gs,rfl,e1,kl,Hf,r,[],a,[],r',rfl,x.sr.sub,x.hf,⟨dx,gs,e1,e2⟩,Reps.nil,eF,fun Hf' H' g ta=>?_⟩
   have sr:=x.sr
   refine h σ Hf' H' ⟨x.fb.trans g.fz,⟨g.sub,fun b u q=>g.all b u (Zu q x.h0) (sr.all b u q),fun b hb=>g.ban b (sr.all.lv (sr.bt b hb)) (sr.ban b hb),sr.bt,sr.len,fun i t e z=>?_,fun i t e o=>?_,fun i j t u p hij e1 o1 _ _ _ _=>?_⟩,x.s0,x.h0,g.ban a (Sq e1) x.hf,x.im,ta⟩
   ·obtain⟨v,z1,z2⟩:=sr.imS i t e z
    exact⟨v,z1,z2.mono g.fz⟩
   ·rw[x.im i t e] at o;cases o
   ·rw[x.im i t e1] at o1;cases o1
 ·exact h.elim
end
section
variable {K:PySem.W.Frag}{H:Hp}{a:Addr}{o:HO}
def Zgd (o:HO):Prop:=(∀xs:List V,o≠HO.tup xs)/\(∀xs:List V,o≠HO.lst xs)/\∀(u:Obj) (v:HO),o≠HO.frz u v
def Ja {C dx:Addr}{gs:List (Str×V)}:Zgd (.ins C dx gs):=⟨fun _ z=>HO.noConfusion z,fun _ z=>HO.noConfusion z,fun _ _ z=>HO.noConfusion z⟩
def Hw {b:Addr}{u:HO}(h:H a=some o)(e:H b=some u)(ne:u≠o):Gb H a b=some u:=by
 rw[X9 fun z=>by subst z;rw[h] at e;cases e;exact ne rfl]
 exact e
mutual
theorem Rep.rm (h:H a=some o)(n:Zgd o):∀{d:D}{v:V},Rep K H d v->Rep K (Gb H a) d v
 |.non,_,q=>by unfold Rep at q ⊢;exact q
 |.bl _,_,q=>by unfold Rep at q ⊢;exact q
 |.int _,_,q=>by unfold Rep at q ⊢;exact q
 |.str _,_,q=>by unfold Rep at q ⊢;exact q
 |.tup ds,_,q=>by
  unfold Rep at q ⊢
  obtain⟨b,xs,e1,e2,e3⟩:=q
  exact⟨b,xs,e1,Hw h e2 (Ne.symm (n.1 xs)),Reps.rm h n e3⟩
 |.lst ds,_,q=>by
  unfold Rep at q ⊢
  obtain⟨b,xs,e1,e2,e3⟩:=q
  refine⟨b,xs,e1,?_,Reps.rm h n e3⟩
  rcases e2 with(z|⟨u,z⟩)|z
  ·exact .inl (.inl (Hw h z (Ne.symm (n.2.1 xs))))
  ·exact .inl (.inr ⟨u,Hw h z (Ne.symm (n.2.2 _ _))⟩)
  ·exact .inr z
theorem Reps.rm (h:H a=some o)(n:Zgd o):∀{ds:List D}{xs:List V},Reps K H ds xs->Reps K (Gb H a) ds xs
 |[],_,q=>by unfold Reps at q ⊢;exact q
 |d::ds,_,q=>by
  unfold Reps at q ⊢
  obtain⟨x,r,e1,e2,e3⟩:=q
  exact⟨x,r,e1,Rep.rm h n e2,Reps.rm h n e3⟩
end
theorem RepKV.rm {κ:Type}{l:List (κ×D)}{m:List (κ×V)}(h:H a=some o)(n:Zgd o)(r:RepKV K H l m):RepKV K (Gb H a) l m:=Paired.mapP r fun _ _ q=>⟨q.1,q.2.rm h n⟩
end
def S.adr:S->Option Addr
 |.ob a _ _=>some a
 |.fl a _ _=>some a
 |_=>none
section
variable {K:PySem.W.Frag}{H0 Hf H:Hp}{B:Addr->Prop}{sd:Zf}{σ:L2.St}{a C dx:Addr}{gs:List (Str×V)}
theorem RepS.rm (h:Hf a=some (.ins C dx gs)){t:S}{v:V}(ht:t.adr≠some a)(hx:∀x,t≠.xc x)(q:RepS K Hf t v):RepS K (Gb Hf a) t v:=by
 cases t with
 |im d=>exact Rep.rm h Ja q
 |xc x=>exact absurd rfl (hx x)
 |fn x=>exact q
 |ob b c r=>
  obtain⟨C',dx',gs',e1,e2,e3,e4⟩:=q
  have:b≠a:=fun z=>ht (by rw[z];rfl)
  exact⟨C',dx',gs',e1,e2,(X9 this).trans e3,e4.rm h Ja⟩
 |fl b g q'=>
  obtain⟨C',dx',gs',d,k,ys,e1,e2,e3,e4,e5,e6⟩:=q
  have:b≠a:=fun z=>ht (by rw[z];rfl)
  exact⟨C',dx',gs',d,k,ys,e1,e2,(X9 this).trans e3,⟨let ⟨v,z1,z2⟩:=e4.hall;⟨v,z1,z2.rm h Ja⟩,e4.sq,e4.kn,e4.m1,e4.m2⟩,Hw h e5 (by intro z;cases z),e6.rm h Ja⟩
 |ow ds=>trivial
 |od kvs=>trivial
 |dk kvs=>trivial
def Zmv (h:Hf a=some (.ins C dx gs)){p:Addr}{t:S}(q:S.at K Hf H p t):S.at K (Gb Hf a) H p t:=by
 cases t with
 |im d=>exact q.elim
 |xc x=>exact q.elim
 |fn x=>exact q.elim
 |ob b c r=>exact q.elim
 |fl b g q'=>exact q.elim
 |ow ds=>obtain⟨xs,e1,e2⟩:=q;exact⟨xs,e1,e2.rm h Ja⟩
 |od kvs=>obtain⟨ys,e1,e2⟩:=q;exact⟨ys,e1,e2.rm h Ja⟩
 |dk kvs=>obtain⟨ys,e1,e2⟩:=q;exact⟨ys,e1,e2.rm h Ja⟩
def Ct {p:Addr}{t:S}(q:S.at K Hf H p t)(h:H a=some (.ins C dx gs)):p≠a:=by
 rintro rfl
 cases t with
 |im d=>exact q.elim
 |xc x=>exact q.elim
 |fn x=>exact q.elim
 |ob b c r=>exact q.elim
 |fl b g q'=>exact q.elim
 |ow ds=>obtain⟨xs,e1,_⟩:=q;rw[h] at e1;cases e1
 |od kvs=>obtain⟨ys,e1,_⟩:=q;rw[h] at e1;cases e1
 |dk kvs=>obtain⟨ys,e1,_⟩:=q;rw[h] at e1;cases e1
def SR.fzO (r:SR K H0 B Hf sd σ H){i:Nat}{c:Str}{rr:Qm}(hs:sd[i]?=some none)(hσ:σ[i]?=some (some (.ref a)))(hC:PySem.W.nsIn K mainGlobals c=some (some (.ref C)))(h:H a=some (.ins C dx gs))(rk:RepKV K Hf rr gs)(h0:H0 a=none)(hf:Hf a=none):
  SR K H0 B (upd Hf a (.ins C dx gs)) (sd.set i (some (.ob a c rr))) σ H:=by
 have sm:=Z8 hf (.ins C dx gs)
 have hl:i<sd.length:=(List.getElem?_eq_some_iff.mp hs).1
 have back:∀{j:Nat}{w:S},i≠j->(sd.set i (some (S.ob a c rr)))[j]?=some (some w)->sd[j]?=some (some w):=fun {j w} n e=>by rwa[List.getElem?_set_ne n] at e
 have own:∀{j:Nat}{w:S},(sd.set i (some (S.ob a c rr)))[j]?=some (some w)->w.own=true->i≠j:=fun {j w} e o z=>by
  subst z
  rw[List.getElem?_set_self hl] at e
  cases e
  cases o
 refine⟨fun b u q=>?_,r.all,fun b hb=>?_,r.bt,by rw[List.length_set];exact r.len,fun j t e z=>?_,fun j t e o=>?_,fun j k t u p hjk e1 o1 e2 o2 e3 e4=>r.sep j k t u p hjk (back (own e1 o1) e1) o1 (back (own e2 o2) e2) o2 e3 e4⟩
 ·by_cases hb:b=a
  ·subst hb;rw[Zo] at q;rw[h];exact q
  ·rw[Zj hb] at q;exact r.sub b u q
 ·have:b≠a:=fun z=>(r.bt b hb).nn (z▸h0)
  rw[Zj this];exact r.ban b hb
 ·by_cases n:i=j
  ·subst n
   rw[List.getElem?_set_self hl] at e
   cases e
   exact⟨_,hσ,(⟨C,dx,gs,rfl,hC,Zo,rk.mono sm⟩:RepO K _ a c rr (.ref a))⟩
  ·obtain⟨v,e1,e2⟩:=r.imS j t (back n e) z
   exact⟨v,e1,e2.mono sm⟩
 ·obtain⟨p,e1,e2,e3,e4⟩:=r.ow j t (back (own e o) e) o
  exact⟨p,e1,e2,by rw[Zj (Ct e4 h)];exact e3,Wb e4 sm fun _ z=>z⟩
def SR.thO (r:SR K H0 B Hf sd σ H){i:Nat}{c:Str}{rr:Qm}(hs:sd[i]?=some (some (.ob a c rr)))(hu:∀(j:Nat) (t:S),j≠i->sd[j]?=some (some t)->t.adr≠some a/\∀x,t≠.xc x):
  σ[i]?=some (some (.ref a))/\∃C dx gs,PySem.W.nsIn K mainGlobals c=some (some (.ref C))/\H a=some (.ins C dx gs)/\RepKV K (Gb Hf a) rr gs/\SR K H0 B (Gb Hf a) (sd.set i none) σ H:=by
 obtain⟨v,e1,C,dx,gs,rfl,e2,e3,e4⟩:=r.imS i _ hs rfl
 have hl:i<sd.length:=(List.getElem?_eq_some_iff.mp hs).1
 have ne:∀{j:Nat}{w:S},(sd.set i none)[j]?=some (some w)->i≠j:=fun {j w} e z=>by
  subst z
  rw[List.getElem?_set_self hl] at e
  cases e
 have back:∀{j:Nat}{w:S},(sd.set i none)[j]?=some (some w)->sd[j]?=some (some w):=fun {j w} e=>by
  have n:=ne e
  rwa[List.getElem?_set_ne n] at e
 refine⟨e1,C,dx,gs,e2,r.sub _ _ e3,e4.rm e3 Ja,?_⟩
 refine⟨fun b u q=>r.sub b u (Ks Hf a b u q),r.all,fun b hb=>?_,r.bt,by rw[List.length_set];exact r.len,fun j t e z=>?_,fun j t e o=>?_,fun j k t u p hjk e1 o1 e2 o2 e3 e4=>r.sep j k t u p hjk (back e1) o1 (back e2) o2 e3 e4⟩
 ·by_cases z:b=a
  ·subst z;exact Kt Hf b
  ·rw[X9 z];exact r.ban b hb
 ·obtain⟨v,z1,z2⟩:=r.imS j t (back e) z
  obtain⟨u1,u2⟩:=hu j t (Ne.symm (ne e)) (back e)
  exact⟨v,z1,z2.rm e3 u1 u2⟩
 ·obtain⟨p,z1,z2,z3,z4⟩:=r.ow j t (back e) o
  refine⟨p,z1,z2,?_,Zmv e3 z4⟩
  by_cases z:p=a
  ·subst z;exact Kt Hf p
  ·rw[X9 z];exact z3
end
def Cu:List D->M D
 |[.int a,.int b]=>.ok (.int (if b > a then b else a))
 |_=>.bad
def Zc7:List D->M D
 |[.int a,.int b,.int c]=>.ok (.int (min (min a b) c))
 |_=>.bad
section
variable {X:Cx}{E:XK}
def Zge (hc:X.calm=true):Uk X E (.builtin "max") Cu:=by
 refine⟨_,Os hc,fun Hf H xs ds Q e r q=>?_⟩
 unfold Cu at q
 split at q
 ·rename_i a b
  obtain⟨x,r1,rfl,h1,h2⟩:=reps_cons.mp r
  obtain⟨y,r2,rfl,h3,h4⟩:=reps_cons.mp h2
  rw[reps_nil.mp h4,rep_int.mp h1,rep_int.mp h3]
  exact⟨a,b,rfl,Po.ret (R:=rV X.K) e q (rep_int.mpr rfl)⟩
 ·exact q.elim
def Zaf (hc:X.calm=true):CallR X (.builtin "min") (fun xs H Q=>∃a b c,xs=[.int a,.int b,.int c]/\Q (.int (min (min a b) c)) H):=by
 intro pins s σ H xs us Q I r h
 obtain⟨a,b,c,rfl,q⟩:=h
 cases r with
 |cons r1 r=>
  cases r with
  |cons r2 r=>
   cases r with
   |cons r3 r=>
    cases r
    obtain⟨t,rfl⟩:=r1
    obtain⟨u,rfl⟩:=r2
    obtain⟨v,rfl⟩:=r3
    refine min_three_ints (I.ok.hd hc) fun h' tk keep=>?_
    refine⟨.int (min (min a b) c),H,I.kept keep,?_,q⟩
    by_cases h1:b<a
    ·by_cases h2:c<b
     ·simp only[h1,h2,if_true]
      exact⟨_,by rw[show min (min a b) c=c by omega]⟩
     ·simp only[h1,h2,if_true,if_false]
      exact⟨_,by rw[show min (min a b) c=b by omega]⟩
    ·by_cases h2:c<a
     ·simp only[h1,h2,if_true,if_false]
      exact⟨_,by rw[show min (min a b) c=c by omega]⟩
     ·simp only[h1,h2,if_false]
      exact⟨_,by rw[show min (min a b) c=a by omega]⟩
def Zgf (hc:X.calm=true):Uk X E (.builtin "min") Zc7:=by
 refine⟨_,Zaf hc,fun Hf H xs ds Q e r q=>?_⟩
 unfold Zc7 at q
 split at q
 ·rename_i a b c
  obtain⟨x,r1,rfl,h1,h2⟩:=reps_cons.mp r
  obtain⟨y,r2,rfl,h3,h4⟩:=reps_cons.mp h2
  obtain⟨z,r3,rfl,h5,h6⟩:=reps_cons.mp h4
  rw[reps_nil.mp h6,rep_int.mp h1,rep_int.mp h3,rep_int.mp h5]
  exact⟨a,b,c,rfl,Po.ret (R:=rV X.K) e q (rep_int.mpr rfl)⟩
 ·exact q.elim
end
def FlK (K:PySem.W.Frag)(Hf:Hp)(a:Addr)(g:D)(q:List (List Yh×D))(k:Addr):Prop:=∃C dx gs d ys,PySem.W.nsIn K mainGlobals "Floor"=some (some (.ref C))/\Hf a=some (.ins C dx gs)/\FlG K Hf g d k gs/\Hf d=some (.dT ys)/\RepKV K Hf q ys
theorem FlK.fl {K:PySem.W.Frag}{Hf:Hp}{a k:Addr}{g:D}{q:List (List Yh×D)}(h:FlK K Hf a g q k):RepS K Hf (.fl a g q) (.ref a):=by
 obtain⟨C,dx,gs,d,ys,e1,e2,e3,e4,e5⟩:=h
 exact⟨C,dx,gs,d,k,ys,rfl,e1,e2,e3,e4,e5⟩
theorem FlK.mono {K:PySem.W.Frag}{Hf Hf':Hp}(e:Same Hf Hf'){a k:Addr}{g:D}{q:List (List Yh×D)}(h:FlK K Hf a g q k):FlK K Hf' a g q k:=by
 obtain⟨C,dx,gs,d,ys,e1,e2,e3,e4,e5⟩:=h
 exact⟨C,dx,gs,d,ys,e1,e _ _ e2,e3.mono e,e _ _ e4,e5.mono e⟩
def CaAt (K:PySem.W.Frag)(Fc:List D->M D)(n:Nat)(Hf H:Hp)(k:Addr):Prop:=∃c ys,H k=some (.dT ys)/\RepKV K Hf c ys/\ys.length<=n/\∀ds ks d,Kr ds=some ks->Yu c ks=some d->Fc ds=.ok d
theorem CaAt.mono {K:PySem.W.Frag}{Fc:List D->M D}{n:Nat}{Hf H Hf' H':Hp}{k:Addr}(e:Same Hf Hf')(he:∀o,H k=some o->H' k=some o)(h:CaAt K Fc n Hf H k):CaAt K Fc n Hf' H' k:=by
 obtain⟨c,ys,e1,e2,e3,e4⟩:=h
 exact⟨c,ys,he _ e1,e2.mono e,e3,e4⟩
def CaAt.le {K:PySem.W.Frag}{Fc:List D->M D}{n m:Nat}{Hf H:Hp}{k:Addr}(hl:n<=m)(h:CaAt K Fc n Hf H k):CaAt K Fc m Hf H k:=by
 obtain⟨c,ys,e1,e2,e3,e4⟩:=h
 exact⟨c,ys,e1,e2,by lia,e4⟩
def Zc8 {d d':D}{k:Yh}(h:Zfw d=some k)(h':Zfw d'=some k):d=d':=by
 cases d<;>cases h<;>cases d'<;>cases h'<;>rfl
theorem Me:∀{ds ds':List D}{ks:List Yh},Kr ds=some ks->Kr ds'=some ks->ds=ds'
 |[],[],_,_,_=>rfl
 |[],d'::r',ks,h,h'=>by
  cases h
  unfold Kr at h'
  split at h'<;>cases h'
 |d::r,[],ks,h,h'=>by
  cases h'
  unfold Kr at h
  split at h<;>cases h
 |d::r,d'::r',ks,h,h'=>by
  unfold Kr at h h'
  split at h
  ·rename_i k1 k2 e1 e2
   cases h
   split at h'
   ·rename_i k3 k4 e3 e4
    cases h'
    rw[Zc8 e1 e3,Me e2 e4]
   ·cases h'
  ·cases h
def Zc9 {κ:Type}[DecidableEq κ]{c:List (κ×D)}{k k':κ}{d:D}(hn:Yu c k=none):Yu (Zcg c k d) k'=if k'=k then some d else Yu c k':=by
 have hany:(c.any fun kv=>decide (kv.1=k))=false:=by
  cases h:(c.any fun kv=>decide (kv.1=k)) with
  |false=>rfl
  |true=>
   obtain⟨kv,h1,h2⟩:=List.any_eq_true.mp h
   have hf:(c.find? fun kv=>decide (kv.1=k))=none:=Option.map_eq_none_iff.mp hn
   exact absurd h2 (List.find?_eq_none.mp hf kv h1)
 unfold Zcg
 rw[hany]
 show((c++[(k,d)]).find? fun kv=>decide (kv.1=k')).map (·.2)=_
 rw[List.find?_append]
 by_cases e:k'=k
 ·subst e
  rw[if_pos rfl,Option.map_eq_none_iff.mp hn]
  simp
 ·rw[if_neg e]
  have:([(k,d)].find? fun kv=>decide (kv.1=k'))=none:=by
   rw[List.find?_cons]
   simp[Ne.symm e]
  rw[this]
  simp[Yu]
def Ri (i:Nat)(sd:Zf):M D:=match sd[i]? with
 |some (some (.fl _ g _))=>.ok g
 |_=>.bad
section
variable {X:Cx}{E:XK}{p pos:Pos}{vn:Str}
def Mf (i:Nat){C:Addr} (oc:ObC X.K "Floor" C) (na:NoAttr X.K C "hall") (hN:X.N[i]?=some vn:=by rfl) (hv:Pz X.env.scope vn:=by trivial) (hd:(vn==("__debug__":Str))=false:=by decide)
  (hcd:(vn==("__classdict__":Str))=false:=by decide) (hb:attributeBase (.Name vn p) "hall" X.env (eval (.Name vn p) X.env)=eval (.Name vn p) X.env:=by rfl):Yn X E (.Attribute (.Name vn p) "hall" pos) (Ri i):=by
 refine⟨_,Ui (Z9 hN hv hd hcd) hb,fun H0 B Hf sd σ H Q sr h=>?_⟩
 unfold Ri at h
 split at h
 ·rename_i a g q ei
  obtain⟨v,e1,C',dx,gs,d,k,ys,rfl,e2,e3,e4,e5,e6⟩:=sr.imS i _ ei rfl
  rw[oc.at_] at e2
  cases e2
  obtain⟨v,l,rv⟩:=e4.hall
  exact⟨.ref a,e1,a,C,dx,gs,v,rfl,sr.sub _ _ e3,oc.cls,na,l,Po.ret (R:=rV X.K) sr.sub h rv⟩
 ·exact h.elim
end
def V0 (F:List D->M S)(g:D)(ds:List D):M D:=Gw (F (g::ds))
def Zki (K:PySem.W.Frag)(F:List D->M S):Sp:=fun vs H Q _=>∃Hf a g q k n ds ks d v,vs=[.ref a,v]/\Same Hf H/\FlK K Hf a g q k/\Hf k=none/\CaAt K (V0 F g) n Hf H k/\n<sizeLine/\Rep K Hf (.tup ds) v/\Kr ds=some ks/\ds.length=3/\V0 F g ds=.ok d /\
 ∀v' Hf' H',GrM k Hf H Hf' H'->CaAt K (V0 F g) (n+1) Hf' H' k->Rep K Hf' d v'->Q v' H'
def Zkj {m:M S}{d:D}(h:Gw m=.ok d):(match m with | .ok s=>s.toD|_=>M.bad)=.ok d:=by
 cases m with
 |ok s=>cases s<;>first|exact h|cases h
 |ex x=>cases h
 |bad=>cases h
structure HSt (K:PySem.W.Frag) (Ff:List D->M S) (a:Addr) (g:D) (q:List (List Yh×D)) (k:Addr) (n:Nat) (H0:Hp) (B:Addr->Prop) (Hf:Hp) (sd:Zf) (σ:L2.St) (H:Hp):Prop where
 sr:SR K H0 B Hf sd σ H
 s0:sd[0]?=some (some (.fl a g q))
 fl:FlK K Hf a g q k
 hk:Hf k=none
 ca:CaAt K (V0 Ff g) n Hf H k
 hn:n<sizeLine
section
variable {K:PySem.W.Frag}{Ff:List D->M S}{a k:Addr}{g:D}{q:List (List Yh×D)}{n:Nat}{H0:Hp}{B:Addr->Prop}{Hf H Hf1 H1:Hp}{sd:Zf}{σ:L2.St}{Fc:List D->M D}
def CaAt.lv (h:CaAt K Fc n Hf H k):Lv H k:=by
 obtain⟨c,ys,e1,_⟩:=h
 exact⟨_,e1,fun _ q=>by cases q⟩
theorem HSt.gr (x:HSt K Ff a g q k n H0 B Hf sd σ H)(y:Gr Hf H Hf1 H1):HSt K Ff a g q k n H0 B Hf1 sd σ H1:=
 ⟨x.sr.gr y,x.s0,x.fl.mono y.fz,y.ban k x.ca.lv x.hk,x.ca.mono y.fz fun o z=>y.all _ _ z,x.hn⟩
def Kon (K:PySem.W.Frag)(Fc:List D->M D)(k:Addr)(n:Nat)(Hf H:Hp)(d:D)(Q:VK):Prop:=∀v' Hf' H',GrM k Hf H Hf' H'->CaAt K Fc (n+1) Hf' H' k->Rep K Hf' d v'->Q v' H'
def Kon.gr {d:D}{Q:VK}(h:Kon K Fc k n Hf H d Q)(y:Gr Hf H Hf1 H1):Kon K Fc k n Hf1 H1 d Q:=fun v' Hf' H' gm ca rv=>
 h v' Hf' H' ((GrM.of_gr y).trans gm fun⟨o,e1,e2⟩=>⟨o,y.all _ _ e1,e2⟩) ca rv
end
def Zlk (X:Cx)(Ff:List D->M S)(st:List Stmt)(f:Zf->M D):Prop:=
 ∃t:TS,PSs X st t/\∀(a k:Addr) (g:D) (q:List (List Yh×D)) (n:Nat) (H0:Hp) (B:Addr->Prop) (Hf:Hp) (sd:Zf) (σ:L2.St) (H:Hp) (D':Ends) (d:D),HSt X.K Ff a g q k n H0 B Hf sd σ H->f sd=.ok d->Kon X.K (V0 Ff g) k n Hf H d D'.rt->t D' σ H
def Wk (Ff:List D->M S)(Fa:List S->M S)(i:Nat)(fk:Zf->M D)(sd:Zf):M D:=match (sd[0]?:Option (Option S)),(sd[i]?:Option (Option S)) with
 |some (some (S.fl _ g _)),some (some o)=>if Wx o then(fk sd).bind fun kd=>(match kd with
  |.tup ds=>if ds.length=3/\(Kr ds).isSome=true then(V0 Ff g ds).bind fun pr=>Gw (Fa [o,.im pr]) else .bad
  |_=>.bad) else .bad
 |_,_=>.bad
def Zh8 (c:Zf->M Bool)(f g:Zf->M D)(sd:Zf):M D:=(c sd).bind fun b=>if b then f sd else g sd
def bind_ok {α β:Type}{m:M α}{f:α->M β}{b:β}(h:m.bind f=.ok b):∃a,m=.ok a/\f a=.ok b:=by
 cases m with
 |ok a=>exact⟨a,rfl,h⟩
 |ex x=>cases h
 |bad=>cases h
section
variable {X:Cx}{Ff:List D->M S}{pos p p1 p2 apos cpos:Pos}{e key:Expr}{x vn fl fn:Str}
def Hy {f:Zf->M D}(h:Yn X E0 e f):Zlk X Ff [.Return (some e) pos] f:=by
 obtain⟨t,pt,qt⟩:=h
 refine⟨_,Y9 (Nl pt),fun a k g q n H0 B Hf sd σ H D' d x ed kk=>?_⟩
 refine qt H0 B Hf sd σ H _ x.sr ?_
 rw[ed]
 intro v Hf1 H1 g1 rv
 exact kk v Hf1 H1 (.of_gr g1) ((x.gr g1).ca.le (by lia)) rv
def E4 {c:Expr}{xs rest:List Stmt}{kc:Zf->M Bool}{f g:Zf->M D}(hc:Ls X E0 c kc)(h:Zlk X Ff xs f)(h2:Zlk X Ff rest g):Zlk X Ff (.If c xs [] pos::rest) (Zh8 kc f g):=by
 obtain⟨tc,pc,qc⟩:=hc
 obtain⟨t1,p1,q1⟩:=h
 obtain⟨t2,p2,q2⟩:=h2
 refine⟨_,Qg (Ar pc p1 Gd) p2,fun a k g' q n H0 B Hf sd σ H D' d x ed kk=>?_⟩
 obtain⟨b,eb,ed⟩:=bind_ok ed
 refine qc H0 B Hf sd σ H _ x.sr ?_
 rw[eb]
 intro v Hf1 H1 gr rv
 have e:b=v:=rv
 subst e
 cases b with
 |true=>
  rw[if_pos rfl] at ed ⊢
  exact q1 a k g' q n H0 B Hf1 sd σ H1 _ d (x.gr gr) ed (kk.gr gr)
 |false=>
  rw[if_neg Bool.false_ne_true] at ed ⊢
  exact q2 a k g' q n H0 B Hf1 sd σ H1 D' d (x.gr gr) ed (kk.gr gr)
def Cv (i:Nat){Fa:List S->M S}{fk:Zf->M D}{CF fA fB:Addr}{fdA fdB:FuncData}{psA psB:List Str}{kA kB:Nat}{pl:Sem Bool} (oc:ObC X.K "Floor" CF) (hm:Meth X.K CF "faces_at" fB) (GB:FnOk X.prog X.w X.K X.mg X.base Ye kB fB fdB psB (Zki X.K Ff)) (hrB:Room kB X.A) (bB:Binds X.K fdB psB [])
  (GA:FnOk X.prog X.w X.K X.mg X.base Ye kA fA fdA psA (Pu X.K Fa)) (hrA:Room kA X.A) (mA:X.mg fn=some (.ref fA)) (keA:PySem.W.keepIn X.K (.ref fA)=true) (bA:Binds X.K fdA psA []) (hk:Yn X E0 key fk)
  (n0:X.N[0]?=some fl:=by rfl) (v0:Pz X.env.scope fl:=by trivial) (d0:(fl==("__debug__":Str))=false:=by decide) (c0:(fl==("__classdict__":Str))=false:=by decide)
  (ni:X.N[i]?=some vn:=by rfl) (vi:Pz X.env.scope vn:=by trivial) (di:(vn==("__debug__":Str))=false:=by decide) (ci:(vn==("__classdict__":Str))=false:=by decide)
  (hgA:Gl X fn:=by rfl) (hdA:(fn==("__debug__":Str))=false:=by decide)
  (s1:starEach [.Name vn p,.Call (.Attribute (.Name fl p1) "faces_at" apos) [key] [] cpos] X.env=(false,eval (.Name vn p) X.env)::starEach [.Call (.Attribute (.Name fl p1) "faces_at" apos) [key] [] cpos] X.env:=by rfl)
  (s2:starEach [.Call (.Attribute (.Name fl p1) "faces_at" apos) [key] [] cpos] X.env=(false,eval (.Call (.Attribute (.Name fl p1) "faces_at" apos) [key] [] cpos) X.env)::starEach [] X.env:=by rfl)
  (s3:starEach [key] X.env=(false,eval key X.env)::starEach [] X.env:=by rfl) (hpl:(backTo cpos (starEach [] X.env)).any (·.1)=false:=by rfl) (hplA:(backTo pos (starEach [.Call (.Attribute (.Name fl p1) "faces_at" apos) [key] [] cpos] X.env)).any (·.1)=false:=by rfl)
  (ht:eval (.Call (.Attribute (.Name fl p1) "faces_at" apos) [key] [] cpos) X.env=(do
   let ov <-eval (.Name fl p1) X.env
   standAt apos.atName
   let (f,first) <-holding [ov] (getMethod ov "faces_at" pl)
   callWith cpos f first (backTo cpos (starEach [key] X.env)) (backToKw cpos (keywordEach [] X.env))):=by rfl) {rpos:Pos}:
  Zlk X Ff [.Return (some (.Call (.Name fn p2) [.Name vn p,.Call (.Attribute (.Name fl p1) "faces_at" apos) [key] [] cpos] [] pos)) rpos] (Wk Ff Fa i fk):=by
 obtain⟨tk,pk,qk⟩:=hk
 refine⟨_,Y9 (Nl (Jy (dvs:=[]) (E:=E0) GA hrA hgA mA keA bA .nil Jl (Qk (Z9 ni vi di ci) (Qk (M4 (dvs:=[]) (E:=E0) (pl:=pl) (Z9 n0 v0 d0 c0) oc.cls hm GB hrB bB .nil Jl (Qk pk Xz s3) s3 hpl ht) Xz s2) s1) hdA s1 hplA)),fun a k g q n H0 B Hf sd σ H D' d x ed kk=>?_⟩
 unfold Wk at ed
 rw[x.s0] at ed
 split at ed
 ·rename_i a' g' q' o h0 hi
  cases h0
  split at ed
  ·rename_i ho
   obtain⟨kd,ek,ed⟩:=bind_ok ed
   split at ed
   ·rename_i ds
    split at ed
    ·rename_i hd
     obtain⟨pr,e1,e2⟩:=bind_ok ed
     obtain⟨ks,eks⟩:=Option.isSome_iff_exists.mp hd.2
     obtain⟨vi',si,ri⟩:=x.sr.imS i o hi (Jp ho)
     obtain⟨v0',s0',r0⟩:=x.sr.imS 0 _ x.s0 rfl
     obtain⟨C',dx,gs,dd,k',ys,rfl,c1,c2,c3,c4,c5⟩:=id r0
     rw[oc.at_] at c1
     cases c1
     refine⟨vi',si,.ref a,s0',a,dx,gs,rfl,x.sr.sub _ _ c2,c3.m2,?_⟩
     refine qk H0 B Hf sd σ H _ x.sr ?_
     rw[ek]
     intro v Hf1 H1 g1 rv
     have y:=x.gr g1
     refine⟨Hf1,a,g,q,k,n,ds,ks,pr,v,rfl,g1.sub,y.fl,y.hk,y.ca,y.hn,rv,eks,hd.1,e1,fun v' Hf' H' gm ca' rv'=>?_⟩
     have ro:RepS X.K Hf' o vi':=(ri.mono g1.fz).mono gm.fz
     show Pu X.K Fa ([vi',v']++[]) H' D'.rt E0
     rw[List.append_nil]
     refine Bp (E:=E0) (ss:=[o,.im pr]) (vs:=[vi',v']) gm.sub (.cons ⟨Jp ho,ro⟩ (.cons ⟨rfl,rv'⟩ .nil)) ?_
     rw[e2]
     intro v2 Hf2 H2 g2 rv2
     have kg:=kk.gr g1
     refine kg v2 Hf2 H2 (gm.trans (.of_gr g2) fun _=>ca'.lv) (ca'.mono g2.fz fun o z=>g2.all _ _ z) rv2
    ·cases ed
   ·cases ed
  ·cases ed
 ·cases ed
end
def Zgg (K:PySem.W.Frag)(Ff:List D->M S)(F:List S->M D):Sp:=fun vs H Q _=>∃Hf ss a g q k n d,ss[0]?=some (.fl a g q)/\Same Hf H/\Zlj K Hf ss vs/\FlK K Hf a g q k/\Hf k=none/\CaAt K (V0 Ff g) n Hf H k/\n<sizeLine/\F ss=.ok d/\Kon K (V0 Ff g) k n Hf H d Q
def Zmw (n:Nat)(f:Zf->M D)(ss:List S):M D:=if ss.length=n then f (ss.map some) else .bad
def Zo6 {P:Program}{w:World}{K:PySem.W.Frag}{mg:Str->Option Value}{base:Heap}{x qual:Str}{st:Stmt}{f:Addr}{fd:FuncData}{N:List Str}{k n:Nat}{Ff:List D->M S}{fb:Zf->M D}(F:Fun K x qual st f fd)(sc:FnScope N N (Zg st))(hn:N.length=n)(hbody:∀(cdv:Value) (A:Around) (outer:List Env) (s:Shared) (H:Hp) (E:XK),Room k (A.deeper (envOfC qual (Zg st) s.heap.objs.size f cdv)) ->
   Zlk (X0 Ye P w K mg base N qual (Zg st) f cdv A outer s H E).nox Ff (Yy st) fb):FnOk P w K mg base Ye (k+1) f fd N (Zgg K Ff (Zmw n fb)):=by
 refine F.ok sc (fun vs H Q E h=>?_) (fun cdv A outer s H vs Q E hr h=>?_)
 ·obtain⟨Hf,ss,a,g,q,k,n',d,h0,e,r,fl,hk,ca,hn',hF,_⟩:=h
  unfold Zmw at hF
  split at hF
  ·rename_i hl
   rw[<-Paired.length r,hl,hn]
  ·cases hF
 ·obtain⟨Hf,ss,a,g,q,k,n',d,h0,e,r,fl,hk,ca,hn',hF,kk⟩:=h
  obtain⟨t,p,qt⟩:=hbody cdv A outer s H E hr
  unfold Zmw at hF
  split at hF
  ·rename_i hl
   have sr:=Wj (N:=N) (m:=0) e r (by rw[hn,hl];rfl)
   rw[List.replicate_zero,List.append_nil] at sr
   refine⟨t,p,qt a k g q n' H _ Hf _ (L2.Xu N vs) H _ d ⟨sr,?_,fl,hk,ca,hn'⟩ hF kk⟩
   rw[List.getElem?_map,h0]
   rfl
  ·cases hF
section
variable {K:PySem.W.Frag}{H0 H0' Hf Hf' H H':Hp}{B B':Addr->Prop}{sd:Zf}{σ:L2.St}{x k:Addr}
def Zll (sd:Zf)(σ:L2.St)(x:Addr):Prop:=∀(i:Nat) (t:S),sd[i]?=some (some t)->t.own=true->σ[i]?≠some (some (.ref x))
def SR.less (r:SR K H0 B Hf sd σ H)(s:Same H0' H0)(hb:∀b,B' b->B b/\Lv H0' b):SR K H0' B' Hf sd σ H:=
 ⟨r.sub,s.trans r.all,fun b h=>r.ban b (hb b h).1,fun b h=>(hb b h).2,r.len,r.imS,fun i t e o=>by
  obtain⟨p,e1,e2,e3,e4⟩:=r.ow i t e o
  refine⟨p,e1,?_,e3,e4⟩
  cases q:H0' p with
  |none=>rfl
  |some u=>exact absurd e2 (by rw[s _ _ q];exact fun z=>nomatch z),r.sep⟩
def SR.keep (r:SR K H0 B Hf sd σ H){o:HO}(hk:H k=some o)(hl:Lv H k)(hf:Hf k=none)(off:Zll sd σ k):SR K (upd H0 k o) (fun b=>B b\/b=k) Hf sd σ H:=by
 refine⟨r.sub,fun b u q=>?_,fun b h=>?_,fun b h=>?_,r.len,r.imS,fun i t e ow=>?_,r.sep⟩
 ·by_cases e:b=k
  ·subst e;rw[Zo] at q;rw[hk];exact q
  ·rw[Zj e] at q;exact r.all b u q
 ·rcases h with h|rfl
  ·exact r.ban b h
  ·exact hf
 ·by_cases e:b=k
  ·subst e
   obtain⟨u,e1,e2⟩:=hl
   rw[hk] at e1
   cases e1
   exact⟨o,Zo,e2⟩
  ·rcases h with h|h
   ·obtain⟨u,e1,e2⟩:=r.bt b h
    exact⟨u,(Zj e).trans e1,e2⟩
   ·exact absurd h e
 ·obtain⟨p,e1,e2,e3,e4⟩:=r.ow i t e ow
  exact⟨p,e1,(Zj fun z=>off i t e ow (by rw[e1,z])).trans e2,e3,e4⟩
def SR.back {o:HO}(r:SR K (upd H0 k o) (fun b=>B b\/b=k) Hf sd σ H)(h0:H0 k=none)(bt:∀b,B b->Lv H0 b):H k=some o/\Hf k=none/\SR K H0 B Hf sd σ H:=
 ⟨r.all _ _ Zo,r.ban k (.inr rfl),r.less (fun b u q=>by rw[Zj (Zu q h0)];exact q) fun b h=>⟨.inl h,bt b h⟩⟩
def SR.grM (r:SR K H0 B Hf sd σ H)(g:GrM x Hf H Hf' H')(h0:H0 x=none)(off:Zll sd σ x):SR K H0 B Hf' sd σ H':=
 ⟨g.sub,fun b u q=>g.all b u (Zu q h0) (r.all b u q),fun b hb=>g.ban b (r.all.lv (r.bt b hb)) (r.ban b hb),r.bt,r.len,fun i t e z=>by
  obtain⟨v,z1,z2⟩:=r.imS i t e z
  exact⟨v,z1,z2.mono g.fz⟩,fun i t e o=>by
  obtain⟨p,e1,e2,e3,e4⟩:=r.ow i t e o
  exact⟨p,e1,e2,g.ban p (Zh1 e4) e3,Wb e4 g.fz fun u h=>g.all _ _ (fun z=>off i t e o (by rw[e1,z])) h⟩,r.sep⟩
def SR.set_none (r:SR K H0 B Hf sd σ H)(i:Nat)(v:V)(hi:sd[i]?=some none):SR K H0 B Hf sd (σ.set i (some v)) H:=by
 have ne:∀{j:Nat}{t:S},sd[j]?=some (some t)->i≠j:=fun {j t} e z=>by subst z;rw[hi] at e;cases e
 refine⟨r.sub,r.all,r.ban,r.bt,by rw[List.length_set];exact r.len,fun j t e z=>?_,fun j t e o=>?_,fun j l t u p h e1 o1 e2 o2 e3 e4=>?_⟩
 ·rw[List.getElem?_set_ne (ne e)];exact r.imS j t e z
 ·rw[List.getElem?_set_ne (ne e)];exact r.ow j t e o
 ·rw[List.getElem?_set_ne (ne e1)] at e3
  rw[List.getElem?_set_ne (ne e2)] at e4
  exact r.sep j l t u p h e1 o1 e2 o2 e3 e4
def SR.offI (r:SR K H0 B Hf sd σ H){C dx:Addr}{gs:List (Str×V)}(hx:H x=some (.ins C dx gs)):Zll sd σ x:=by
 intro i t e ow z
 obtain⟨p,e1,_,_,e4⟩:=r.ow i t e ow
 rw[z] at e1
 cases e1
 exact Ct e4 hx rfl
def SR.offD (r:SR K H0 B Hf sd σ H){ys:List (List Yh×V)}(hx:H x=some (.dT ys))(ho:∀(i:Nat) (t:S),sd[i]?=some (some t)->t.own=true->∃ds,t=.ow ds):Zll sd σ x:=by
 intro i t e ow z
 obtain⟨p,e1,_,_,e4⟩:=r.ow i t e ow
 rw[z] at e1
 cases e1
 obtain⟨ds,rfl⟩:=ho i t e ow
 obtain⟨xs,h,_⟩:=e4
 rw[hx] at h
 cases h
end
section
variable {K:PySem.W.Frag}{E:XK}{H0 Hf H:Hp}{B:Addr->Prop}{sd:Zf}{σ:L2.St}{D':Ends}
def Kv {r:M O}{sd':Zf}(h:r=.ok (.nx sd'))(k:∀σ' Hf' H',Same Hf Hf'->SR K H0 B Hf' sd' σ' H'->D'.nx σ' H'):PoS K E H0 B Hf r D':=by rw[h];exact k
def Zda {r:M O}{d:D}(h:r=.ok (.rt (.im d)))(k:∀v Hf' H',Same Hf Hf'->Fin' H0 B Hf' H'->Rep K Hf' d v->D'.rt v H'):PoS K E H0 B Hf r D':=by rw[h];exact k
def Rj {f:Zf->M D}{d:D}{i:Nat}(h:f sd=.ok d):Z4 i f sd=.ok (.nx (sd.set i (some (.im d)))):=by
 unfold Z4
 rw[h]
 rfl
def Zdb {k:Addr}{o:HO}{Hf' H':Hp}(s:Same Hf Hf')(fin:Fin' (upd (Gb H k) k o) (fun b=>(Lv (Gb H k) b/\Hf b=none)\/b=k) Hf' H'):GrM k Hf H Hf' H':=
 ⟨s,fin.sub,fun b u hb hu=>fin.all b u (by rw[Zj hb,X9 hb];exact hu),fun b hb hn=>by
  by_cases e:b=k
  ·subst e;exact fin.ban b (.inr rfl)
  ·obtain⟨o',h1,h2⟩:=hb
   exact fin.ban b (.inl ⟨⟨o',(X9 e).trans h1,h2⟩,hn⟩)⟩
def none_of {H H':Hp}(s:Same H H'){x:Addr}(h:H' x=none):H x=none:=by
 cases q:H x with
 |none=>rfl
 |some u=>rw[s _ _ q] at h;cases h
def Zdc {C:Addr}{t:TA}{f:Zf->M (List D)}{F:Qm->List D->Option Qm}{l:List D}{r:Qm}{i:Nat}{c:Str}{Dn:L2.St->Hp->Prop}(qt:∀(H0:Hp) (B:Addr->Prop) (Hf:Hp) (sd:Zf) (σ:L2.St) (H:Hp) (Q:List V->Hp->Prop),SR K H0 B Hf sd σ H->Po K E0 (rA K) Hf H (f sd) Q->t σ H Q)(sr:SR K H0 B Hf sd σ H)(ef:f sd=.ok l)(hi:sd[i]?=some none)(eF:F [] l=some r)(hC:PySem.W.nsIn K mainGlobals c=some (some (.ref C)))(k:∀x σ' Hf' H',Same Hf Hf'->H x=none->SR K H0 B Hf' (sd.set i (some (.ob x c r))) σ' H'->Dn σ' H'):Zhw C (P7 K C F) [] E0 t σ H fun v H1=>Dn (σ.set i (some v)) H1:=by
 refine qt H0 B Hf sd σ H _ sr ?_
 rw[ef]
 intro vs Hf1 H1 g1 rs x dx hx hdx hne
 have hf1:Hf1 x=none:=none_of g1.sub hx
 have sm:Same H1 (upd (upd H1 dx (.own x)) x (.ins C dx [])):=(Z8 hdx _).trans (Z8 ((Zj hne.symm).trans hx) _)
 have g2:Gr Hf1 H1 Hf1 (upd (upd H1 dx (.own x)) x (.ins C dx [])):=⟨Same.refl _,g1.sub.trans sm,sm,fun _ _ h=>h⟩
 have h0:H0 x=none:=none_of (sr.all.trans g1.all) hx
 refine⟨Hf1,[],l,x,vs++[],r,rfl,g2.sub,hf1,⟨dx,[],Zo,.nil⟩,by rw[List.append_nil];exact rs,eF,fun Hf3 H3 gm ta=>⟨rfl,?_⟩⟩
 have hf3:Hf3 x=none:=gm.ban x (Sq Zo) hf1
 have sr2:=(sr.gr g1).gr g2
 have sr3:=sr2.grM gm h0 (sr2.offI Zo)
 obtain⟨dx',gs,e1,e2⟩:=ta
 have sr4:=sr3.set_none i (.ref x) hi
 have hl:i<σ.length:=by
  rw[<-sr.len]
  exact(List.getElem?_eq_some_iff.mp hi).1
 exact k x _ _ _ (g1.fz.trans (gm.fz.trans (Z8 hf3 _))) (none_of g1.all hx) (sr4.fzO hi (List.getElem?_set_self hl) hC e1 e2 h0 hf3)
def Zh9 {C x k:Addr}{F:Qm->List D->Option Qm}{Fc:List D->M D}{m i i1 i2:Nat}{r r':Qm}{now th:D}{c:Str}{Dn:L2.St->Hp->Prop}(sr:SR K H0 B Hf sd σ H)(hs:sd[i]?=some (some (.ob x c r)))(hu:∀(j:Nat) (t:S),j≠i->sd[j]?=some (some t)->t.adr≠some x/\∀z,t≠.xc z)(hC:PySem.W.nsIn K mainGlobals c=some (some (.ref C)))(h0:H0 x=none)(eF:F r [now,th]=some r')(n1:i≠i1)(n2:i≠i2)(s1:sd[i1]?=some (some (.im now)))(s2:sd[i2]?=some (some (.im th)))(hk:Hf k=none)(ca:CaAt K Fc m Hf H k)(kon:∀Hf' H',(∀Hs,Same Hs Hf->Hs x=none->Same Hs Hf')->SR K H0 B Hf' (sd.set i (some (.ob x c r'))) σ H'->Hf' k=none->CaAt K Fc m Hf' H' k->Dn σ H'):
  Zhs (Zhv (P7 K C F) [] E0 (F2 (Za8 i) (F2 (Za8 i1) (F2 (Za8 i2) Zjd)))) {nx:=Dn,rt:=fun _ _=>False} σ H:=by
 obtain⟨z1,C',dx,gs,zc,z2,z3,sr1⟩:=sr.thO hs hu
 rw[hC] at zc
 cases zc
 obtain⟨v1,a1,a2⟩:=sr1.im i1 now (by rw[List.getElem?_set_ne n1];exact s1)
 obtain⟨v2,b1,b2⟩:=sr1.im i2 th (by rw[List.getElem?_set_ne n2];exact s2)
 refine⟨_,z1,_,a1,_,b1,Gb Hf x,r,[now,th],x,[v1,v2],r',rfl,sr1.sub,Kt Hf x,⟨dx,gs,z2,z3⟩,Reps.cons a2 (Reps.cons b2 Reps.nil),eF,fun Hf3 H3 gm ta=>?_⟩
 obtain⟨dx',gs',e1,e2⟩:=ta
 have hl:i<sd.length:=(List.getElem?_eq_some_iff.mp hs).1
 have hi:(sd.set i none)[i]?=some none:=List.getElem?_set_self hl
 have sr2:=sr1.grM gm h0 (sr1.offI z2)
 have hf3:Hf3 x=none:=gm.ban x (Sq z2) (Kt Hf x)
 have sr3:=sr2.fzO hi z1 hC e1 e2 h0 hf3
 rw[List.set_set] at sr3
 obtain⟨cc,ys,c1,c2,c3,c4⟩:=ca
 have kx:k≠x:=fun z=>by rw[z,z2] at c1;cases c1
 have hkr:Gb Hf x k=none:=(X9 kx).trans hk
 have hfx:Hf x=some (.ins C dx gs):=by
  obtain⟨v,y1,C'',dx'',gs'',rfl,y2,y3,y4⟩:=sr.imS i _ hs rfl
  rw[sr.sub _ _ y3] at z2
  cases z2
  exact y3
 refine kon _ H3 (fun Hs s n=>?_) sr3 ?_ ?_
 ·have:Same Hs (Gb Hf x):=fun b u q=>by
   rw[X9 (Zu q n)]
   exact s b u q
  exact this.trans (gm.fz.trans (Z8 hf3 _))
 ·rw[Zj kx]
  exact gm.ban k ⟨_,c1,fun _ q=>by cases q⟩ hkr
 ·exact⟨cc,ys,gm.all _ _ kx c1,((c2.rm hfx Ja).mono gm.fz).mono (Z8 hf3 _),c3,c4⟩
end
section
variable {prog:Program}{w:World}{K:Type} [DecidableEq K] {knd:HeapKind prog w K}{A:Around}{E:Value->Shared->Prop}{s:Shared}
def P8 {d a:Addr}{xs:List (K×Addr×Value)}{k:K}{dflt:Value}{Q:Value->Shared->Prop}(hu:knd.room A)(hkey:knd.is s.heap k a)(hm:s.heap.DictOfH knd d xs)(h1:∀v,(atKey xs k).map (·.2)=some v->Q v {s with toks:=s.toks+knd.draws k})(h2:(atKey xs k).map (·.2)=none->∀h',h'.DictOfH knd d (storedH xs k a dflt)->Heap.SameBut d s.heap h'->Q dflt {s with heap:=h',toks:=s.toks+knd.draws k})(hsz:xs.length<=sizeLine):wpAny (model prog w) A (dictSetDefault d (.ref a) dflt) Q E s:=by
 obtain⟨o,es,ep,ho,hc,hd,he,his,hn⟩:=hm
 unfold dictSetDefault
 try with_reducible refine wpAny_holding ?_
 refine wpAny_bind (knd.pyHash hu hkey (wpAny_bind (wpAny_dictFind_heap (s:={s with toks:=s.toks+knd.draws k}) hu hkey ho hd he his hn ?_ ?_)))
 ·intro hno
  have hnot:k ∉ xs.map (·.1):=not_mem_keys_of_get hno
  refine wpAny_bind (wpAny_rule (wpAny_bind (wpAny_updateDictKeys (hz:=by have e:=size_of_entries he;omega) (s:={s with toks:=s.toks+knd.draws k}) ho hd (wpAny_pure (h2 (by rw[atKey_none_of_get hno];rfl) _ ⟨_,_,ep+1,Heap.get?_update_self _ ho (Obj.isFreed_of_dict (Obj.data_mapDictKeys hd _)),
   hc.mapDictKeys _,Obj.data_mapDictKeys hd _,?_,?_,?_⟩ (Heap.SameBut.update ..))))))
  ·rw[storedH_new (atKey_none_of_get hno)]
   simp[he,entryOfKey]
  ·rw[storedH_new (atKey_none_of_get hno)]
   intro x hx
   rcases List.mem_append.mp hx with hx|hx
   ·exact knd.keeps (his x hx) ho hd (Heap.SameBut.update ..)
   ·simp only[List.mem_singleton] at hx
    subst hx
    exact knd.keeps hkey ho hd (Heap.SameBut.update ..)
  ·rw[storedH_new (atKey_none_of_get hno)]
   rw[List.map_append,List.nodup_append]
   refine⟨hn,by simp,?_⟩
   intro x hx y hy
   simp only[List.map_cons,List.map_nil,List.mem_singleton] at hy
   subst hy
   exact fun e=>hnot (e▸hx)
 ·intro j p hj
  refine wpAny_bind (wpAny_dictEntries (s:={s with toks:=s.toks+knd.draws k}) ho hd ?_)
  rw[PySem.entry_at he j,hj]
  exact wpAny_bind (wpAny_rule (wpAny_pure (h1 _ (by rw[atKey_of_get hn hj];rfl))))
def Gz {d a:Addr}{k:K}(hd:(d==sysModules)=false)(dflt:Value):
  MeetsIn prog w (Builtin.«dict.setdefault» ⟨[.ref d,.ref a,dflt],[]⟩) (fun A R s=>knd.room A.in1/\∃xs,knd.is s.heap k a/\s.heap.DictOfH knd d xs/\xs.length<=sizeLine /\
   (∀v,(atKey xs k).map (·.2)=some v->R (.ok (.ret v)) {s with toks:=s.toks+knd.draws k}) /\
   ((atKey xs k).map (·.2)=none->∀h',h'.DictOfH knd d (storedH xs k a dflt)->Heap.SameBut d s.heap h'->R (.ok (.ret dflt)) {s with heap:=h',toks:=s.toks+knd.draws k})):=
 .of_wp fun A R s ⟨hu,xs,hkey,hm,hz,h1,h2⟩=>by
  unfold Builtin.«dict.setdefault»
  refine wpAny_bind ?_
  unfold Builtin.Dict.keyAndDefault
  refine wpAny_bind (wpAny_notOrdered_dict hm.typeIs ?_)
  show wpAny _ _ (pure (d,Value.ref a,some dflt)) _ _ s
  refine wpAny_pure ?_
  show wpAny _ _ (if(d==sysModules)=true then _ else(dictSetDefault d (.ref a) dflt>>=_)) _ _ s
  rw[if_neg (by rw[hd];exact Bool.false_ne_true)]
  exact wpAny_bind (P8 hu hkey hm (fun v hv=>wpAny_pure ⟨v,rfl,h1 v hv⟩) (fun hn h' hm' hs'=>wpAny_pure ⟨dflt,rfl,h2 hn h' hm' hs'⟩) hz)
end
section
variable {X:Cx}{pins:List (Addr×Obj)}{σ:L2.St}{H:Hp}{s:Shared}{a b:Addr}{d:V}{r:Value}{A:Around}{E:Value->Shared->Prop}{kvs:List (List Yh×V)}{k:List Yh}
def Zdd {Q:Value->Shared->Prop}(hu:A.units+1<cLine)(I:Inv X pins σ H s)(e:H a=some (.dT kvs))(eb:H b=some (.tup (k.map kV)))(l:kvs.length<sizeLine)(rd:RelV d r)(h1:∀v w' s',Xo kvs k=some v->Inv X pins σ H s'->RelV v w'->Q w' s')(h2:Xo kvs k=none->∀s',Inv X pins σ (upd H a (.dT (Jg kvs k d))) s'->Q r s'):
  wpAny (model X.prog X.w) A (call (.builtin "dict.setdefault") [.ref a,.ref b,r]) Q E s:=by
 obtain⟨z,hd,xs,rel,dd⟩:=Zh0 I.hok e
 have hz:xs.length<=sizeLine:=by rw[<-Paired.length rel];exact z
 have rv:=rel.val k
 refine call_meetsIn PySem.F.slot_dict_setdefault dd.typeIs PySem.F.entry_dict_setdefault (PySem.F.args_dict_setdefault_3 _ _ _) (Gz (k:=k) hd r) ⟨tupleKind_room_in1 hu,xs,Np I.hok eb,dd,hz,fun v hv=>?_,fun hn h' dd' hs=>?_⟩
 ·rw[hv] at rv
  cases q:Xo kvs k with
  |none=>rw[q] at rv;exact rv.elim
  |some v0=>rw[q] at rv;exact h1 v0 v _ q (I.tok _) rv
 ·rw[hn] at rv
  cases q:Xo kvs k with
  |some v0=>rw[q] at rv;exact rv.elim
  |none=>
   refine h2 q _ ?_
   have hl:(Jg kvs k d).length<=sizeLine:=by have:=K6 kvs k d;omega
   obtain⟨o,es,ep,hq,g2,g3,g4,_,g5⟩:=dd'
   refine Ba I (by rw[e];exact True.intro) hs ⟨o,hq⟩ ⟨hl,hd,_,(rel.put k eb rd).keeps fun c ys ec=>?_,o,es,ep,hq,g2,g3,g4,g5⟩
   rw[Zj (Zhr ec e (fun z=>nomatch z))]
   exact ec
end
def Zkk (td ty tx:TE):TE:=fun σ H Q=>td σ H fun x H1=>∃a,x=.ref a/\Zou H1 a/\ty σ H1 fun y H2=>tx σ H2 fun z H3=>∃kvs k b,y=.ref b/\H3 a=some (.dT kvs)/\H3 b=some (.tup (k.map kV))/\kvs.length<sizeLine /\
 (∀v,Xo kvs k=some v->Q v H3)/\(Xo kvs k=none->Q z (upd H3 a (.dT (Jg kvs k z))))
def Zde {X:Cx}{o e f:Expr}{apos cpos:Pos}{td ty tx:TE}(hu:X.A.units+1<cLine)(ho:PE X o td)(he:PE X e ty)(hf:PE X f tx) (m:M2 X o "setdefault" apos e f cpos):PE X (.Call (.Attribute o "setdefault" apos) [e,f] [] cpos) (Zkk td ty tx):=by
 intro pins s σ H Q I h
 refine wpAny_Call_method m.base m.few m.line PySem.F.plainAttrs_dict PySem.F.slot_dict_setdefault PySem.F.type_dict_setdefault (Yb (ho pins s σ H _ I h) fun u s1 ⟨x,H1,I1,rx,a,ex,d,q1⟩=>?_)
 subst ex
 obtain rfl:u=Value.ref a:=rx
 obtain⟨t1,t2,_⟩:=Zbw I1 d
 refine⟨t1,t2,?_⟩
 rw[m.trees]
 refine Calls.callWith_builtin rfl (Calls.evalArgs_plain (Calls.spliced_cons (Yb (he pins s1 σ H1 _ I1 q1) fun iv s2 ⟨y,H2,I2,ry,q2⟩=>
  Calls.spliced_cons (Yb (hf pins s2 σ H2 _ I2 q2) fun fv s3 ⟨z,H3,I3,rz,kvs,k,b,ey,ea,eb,hl,h1,h2⟩=>Calls.spliced_nil ?_))))
 subst ey
 cases (show iv=Value.ref b from ry)
 exact Zdd hu I3 ea eb hl rz (fun v w' s4 ev I4 rw'=>⟨v,H3,I4,rw',h1 v ev⟩) fun ev s4 I4=>⟨z,_,I4,rz,h2 ev⟩
abbrev Nj:=List (List Yh×List D)
def Uf (ks:List Yh)(p:D):Nj->Nj
 |[]=>[(ks,[p])]
 |(k,l)::r=>if k=ks then(k,l++[p])::r else(k,l)::Uf ks p r
def OwnP (K:PySem.W.Frag)(H0 Hf H:Hp)(p:List Yh×List D)(q:List Yh×V):Prop:=p.1=q.1/\∃a xs,q.2=.ref a/\H a=some (.lst xs)/\Hf a=none/\H0 a=none/\Reps K Hf p.2 xs
def OwnL (K:PySem.W.Frag)(H0 Hf H:Hp)(acc:Nj)(ys:List (List Yh×V)):Prop:=Paired (OwnP K H0 Hf H) acc ys/\(ys.map (·.2)).Nodup
section
variable {K:PySem.W.Frag}{H0 Hf H Hf' H':Hp}{acc:Nj}{ys:List (List Yh×V)}{ks:List Yh}
theorem Sr {α β:Type}{F G:α->β->Prop}:∀{l₁:List α}{l₂:List β},Paired F l₁ l₂->(∀a b,F a b->b∈l₂->G a b)->Paired G l₁ l₂
 |_,_,.nil,_=>.nil
 |_,_,.cons h t,f=>.cons (f _ _ h (List.mem_cons_self ..)) (Sr t fun a b x y=>f a b x (List.mem_cons_of_mem _ y))
theorem Kc {α β:Type}{F:α->β->Prop}:∀{l₁:List α}{l₂:List β},Paired F l₁ l₂->∀{b},b∈l₂->∃a,F a b
 |_,_,.nil,b,h=>by cases h
 |_,_,.cons h t,b,hb=>by
  rcases List.mem_cons.mp hb with rfl|hb
  ·exact⟨_,h⟩
  ·exact Kc t hb
def OwnP.move {p:List Yh×List D}{q:List Yh×V}(h:OwnP K H0 Hf H p q)(e:Same Hf Hf')(he:∀a xs,q.2=.ref a->H a=some (.lst xs)->H' a=some (.lst xs))(hb:∀a,Lv H a->Hf a=none->Hf' a=none):OwnP K H0 Hf' H' p q:=by
 obtain⟨e1,a,xs,e2,e3,e4,e5,e6⟩:=h
 exact⟨e1,a,xs,e2,he a xs e2 e3,hb a (Lv.lst e3) e4,e5,e6.mono e⟩
def OwnL.gr (h:OwnL K H0 Hf H acc ys)(g:Gr Hf H Hf' H'):OwnL K H0 Hf' H' acc ys:=
 ⟨Paired.mapP h.1 fun _ _ q=>q.move g.fz (fun a xs _ z=>g.all _ _ z) g.ban,h.2⟩
def Zdf {v:V}(h:Xo ys ks=some v):v∈ys.map (·.2):=by
 obtain⟨kv,h1,h2⟩:=Option.map_eq_some_iff.mp h
 rw[<-h2]
 exact List.mem_map_of_mem (List.mem_of_find?_eq_some h1)
def Mg {p:List Yh×V}:Xo (p::ys) ks=if p.1=ks then some p.2 else Xo ys ks:=by
 unfold Xo
 rw[List.find?_cons]
 by_cases e:p.1=ks
 ·simp[e]
 ·simp[e]
def OwnL.there (h:OwnL K H0 Hf H acc ys){v:V}(hv:Xo ys ks=some v):∃a xs,v=.ref a/\H a=some (.lst xs)/\Hf a=none/\H0 a=none/\(∃p∈acc,xs.length=p.2.length)/\∀(p:D) (y:V),Rep K Hf p y->Paired (OwnP K H0 Hf (upd H a (.lst (xs++[y])))) (Uf ks p acc) ys:=by
 obtain⟨h,n⟩:=h
 induction h with
 |nil=>cases hv
 | @cons x q l l' hp ht ih=>
  rw[List.map_cons,List.nodup_cons] at n
  rw[Mg] at hv
  obtain⟨x1,x2⟩:=x
  obtain⟨e1,a,xs,e2,e3,e4,e5,e6⟩:=id hp
  have e1:x1=q.1:=e1
  by_cases e:q.1=ks
  ·rw[if_pos e] at hv
   cases hv
   refine⟨a,xs,e2,e3,e4,e5,⟨_,List.mem_cons_self ..,e6.length.symm⟩,fun p y ry=>?_⟩
   unfold Uf
   rw[if_pos (e1.trans e)]
   refine .cons ⟨e1,a,xs++[y],e2,Zo,e4,e5,e6.append (Reps.cons ry Reps.nil)⟩ ?_
   refine Sr ht fun z z' hz hm=>?_
   refine hz.move (Same.refl _) (fun b zs e7 e8=>?_) fun _ _ z=>z
   rw[Zj]
   ·exact e8
   ·rintro rfl
    exact n.1 (by rw[e2,<-e7];exact List.mem_map_of_mem hm)
  ·rw[if_neg e] at hv
   obtain⟨a',xs',f1,f2,f3,f4,⟨pp,g1,g2⟩,f5⟩:=ih hv n.2
   refine⟨a',xs',f1,f2,f3,f4,⟨pp,List.mem_cons_of_mem _ g1,g2⟩,fun p y ry=>?_⟩
   unfold Uf
   rw[if_neg (fun z=>e (e1.symm.trans z))]
   refine .cons (hp.move (Same.refl _) (fun b zs e7 e8=>?_) fun _ _ z=>z) (f5 p y ry)
   rw[Zj]
   ·exact e8
   ·rintro rfl
    exact n.1 (by rw[e7,<-f1];exact Zdf hv)
def OwnL.new (h:OwnL K H0 Hf H acc ys)(hv:Xo ys ks=none){p:D}{y:V}{a d:Addr}{u:List (List Yh×V)}{o:HO}(hd:H d=some (.dT u))(ha:H a=none)(h0:H0 a=none)(hf:Hf a=none)(ry:Rep K Hf p y):
  OwnL K H0 Hf (upd (upd H d o) a (.lst [y])) (Uf ks p acc) (Jg ys ks (.ref a)):=by
 have ep:Jg ys ks (V.ref a)=ys++[(ks,.ref a)]:=by
  unfold Jg
  rw[if_neg]
  intro hany
  obtain⟨kv,h1,h2⟩:=List.any_eq_true.mp hany
  exact absurd h2 (List.find?_eq_none.mp (Option.map_eq_none_iff.mp hv) kv h1)
 have ne:∀{x:List Yh×List D}{q:List Yh×V},OwnP K H0 Hf H x q->OwnP K H0 Hf (upd (upd H d o) a (.lst [y])) x q:=fun {x q} hp=>hp.move (Same.refl _) (fun b zs e7 e8=>by
  have n1:b≠a:=fun z=>by rw[z,ha] at e8;cases e8
  have n2:b≠d:=fun z=>by rw[z,hd] at e8;cases e8
  rw[Zj n1,Zj n2];exact e8) fun _ _ z=>z
 rw[ep]
 obtain⟨h,n⟩:=h
 refine⟨?_,?_⟩
 ·clear n ep
  induction h with
  |nil=>exact .cons ⟨rfl,a,[y],rfl,Zo,hf,h0,Reps.cons ry Reps.nil⟩ .nil
  | @cons x q l l' hp ht ih=>
   rw[Mg] at hv
   obtain⟨x1,x2⟩:=x
   have e1:x1=q.1:=hp.1
   by_cases e:q.1=ks
   ·rw[if_pos e] at hv;cases hv
   ·rw[if_neg e] at hv
    unfold Uf
    rw[if_neg (fun z=>e (e1.symm.trans z))]
    exact .cons (ne hp) (ih hv)
 ·rw[List.map_append,List.nodup_append]
  refine⟨n,by simp,fun v hv' w hw=>?_⟩
  simp only[List.map_cons,List.map_nil,List.mem_singleton] at hw
  subst hw
  rintro rfl
  obtain⟨q,hq,eq⟩:=List.mem_map.mp hv'
  obtain⟨x,hx⟩:=Kc h hq
  obtain⟨_,b,xs,e2,e3,_⟩:=hx
  rw[eq] at e2
  cases e2
  rw[ha] at e3
  cases e3
theorem N8 {p:D}{n:Nat}:∀{acc:Nj},(∀x∈acc,x.2.length<=n)->∀x∈Uf ks p acc,x.2.length<=n+1
 |[],_,x,hx=>by
  unfold Uf at hx
  rw[List.mem_singleton] at hx
  rw[hx]
  simp
 |(k,l)::r,h,x,hx=>by
  unfold Uf at hx
  split at hx
  ·rcases List.mem_cons.mp hx with rfl|hx
   ·have:=h _ (List.mem_cons_self ..)
    simp only[List.length_append,List.length_cons,List.length_nil] at this ⊢
    lia
   ·exact Nat.le_succ_of_le (h x (List.mem_cons_of_mem _ hx))
  ·rcases List.mem_cons.mp hx with rfl|hx
   ·exact Nat.le_succ_of_le (h _ (List.mem_cons_self ..))
   ·exact N8 (fun y hy=>h y (List.mem_cons_of_mem _ hy)) x hx
theorem Ss {p:D}:∀{acc:Nj},(Uf ks p acc).length<=acc.length+1
 |[]=>Nat.le_refl _
 |(k,l)::r=>by
  unfold Uf
  split
  ·simp
  ·have:=Ss (p:=p) (acc:=r)
   simp only[List.length_cons]
   lia
open Classical in
noncomputable def Zeu (Hf H:Hp)(S:Addr->Prop):Hp:=fun b=>match Hf b with
 |some u=>some u
 |none=>if S b then H b else none
def Su {S:Addr->Prop}:Same Hf (Zeu Hf H S):=fun b u q=>by unfold Zeu;rw[q]
def Zgh {S:Addr->Prop}(e:Same Hf H):Same (Zeu Hf H S) H:=fun b u q=>by
 unfold Zeu at q
 split at q
 ·rename_i u' eu;cases q;exact e _ _ eu
 ·split at q
  ·exact q
  ·cases q
def E5 {S:Addr->Prop}(e:Same Hf H){b:Addr}(h:S b){o:HO}(ho:H b=some o):Zeu Hf H S b=some o:=by
 unfold Zeu
 split
 ·rename_i u' eu;rw[<-ho];exact(e _ _ eu).symm
 ·rw[if_pos h];exact ho
def Cw {S:Addr->Prop}{b:Addr}(h:¬S b)(hf:Hf b=none):Zeu Hf H S b=none:=by
 unfold Zeu
 rw[hf]
 exact if_neg h
variable {sd:Zf}{σ:L2.St}{B:Addr->Prop}
def SR.mut (r:SR K H0 B Hf sd σ H){b:Addr}{o:HO}(h0:H0 b=none)(hf:Hf b=none)(off:Zll sd σ b):SR K H0 B Hf sd σ (upd H b o):=
 ⟨fun c u q=>by rw[Zj (Zu q hf)];exact r.sub c u q,fun c u q=>by rw[Zj (Zu q h0)];exact r.all c u q,r.ban,r.bt,r.len,r.imS,fun i t e ow=>by
  obtain⟨p,e1,e2,e3,e4⟩:=r.ow i t e ow
  refine⟨p,e1,e2,e3,Wb e4 (Same.refl _) fun u h=>?_⟩
  rw[Zj]
  ·exact h
  ·rintro rfl
   exact off i t e ow e1,r.sep⟩
def Gr.new (e:Same Hf H){b:Addr}(h:H b=none)(o:HO):Gr Hf H Hf (upd H b o):=⟨Same.refl _,e.trans (Z8 h o),Z8 h o,fun _ _ z=>z⟩
end
def qD (q:Nj):List (List Yh×D):=q.map fun p=>(p.1,D.lst p.2)
def Zmx (K:PySem.W.Frag)(CF:Addr)(Fb:List D->Option Nj):Sp:=fun vs H Q _=>∃Hf x dx hall ppl q vh vp,vs=[.ref x,vh,vp]/\Same Hf H/\Hf x=none/\H x=some (.ins CF dx [])/\Rep K Hf hall vh/\Rep K Hf (.lst ppl) vp/\ppl.length<=1000000/\Fb ppl=some q /\
 ∀Hf' H' k,Same Hf Hf'->Same Hf' H'->(∀b u,b≠x->H b=some u->H' b=some u)->(∀b,Lv H b->Hf b=none->b≠x->Hf' b=none)->FlK K Hf' x hall (qD q) k->Hf' k=none->H' k=some (.dT [])->H k=none->Q .non H'
section
variable {X:Cx}{E:XK}{p p2 pos:Pos}{es:List Expr}{k:Nat}
def E6 (fs:Zf->M (List D))(sd:Zf):M (List D):=(fs sd).bind fun ds=>match ds with
 |[.tup xs,.tup ys]=>.ok (Zfv xs ys)
 |_=>.bad
def Zag {l m:Expr}{fs:Zf->M (List D)} (hg:Gl X "zip") (hm:X.mg "zip"=none) (h:Tp X E [l,m] fs) (hs:starEach [l,m] X.env=[(false,eval l X.env),(false,eval m X.env)]:=by rfl) (hs2:starEach [m] X.env=[(false,eval m X.env)]:=by rfl):
  Zju X E (.Tuple es k p2) (.Call (.Name "zip" p) [l,m] [] pos) (E6 fs):=by
 obtain⟨t,pt,q⟩:=h
 refine⟨_,Zfy true true hg hm pt hs hs2,fun H0 B Hf sd σ H R sr h=>?_⟩
 refine q H0 B Hf sd σ H _ sr (Po.bind h fun ds vs Hf1 H1 _ g1 rs h1=>?_)
 split at h1
 ·rename_i xs ys
  obtain⟨v,w',rfl,rv,rw'⟩:=A6 rs
  obtain⟨a,us,rfl,ha,hr⟩:=Qc rv
  obtain⟨b,ws,rfl,hb,hr'⟩:=Qc rw'
  exact⟨a,b,rfl,⟨us,Jn (t:=true) g1.sub ha⟩,⟨ws,Jn (t:=true) g1.sub hb⟩,Po.ret (R:=R9 X.K) g1.sub h1 (Zj6 (t1:=true) (t2:=true) ha hr hb hr')⟩
 ·exact h1.elim
end
structure Dm (K:PySem.W.Frag) (mg:Str->Option Value) (x:Str) (st:Stmt):Prop where
 ex:∃f fd,Fun K x x st f fd/\mg x=some (.ref f)
structure Mm (K:PySem.W.Frag) (C:Addr) (m q:Str) (st:Stmt):Prop where
 ex:∃f fd,Meth K C m f/\Fun K m q st f fd
structure Cl (P:Program) (w:World) (K:PySem.W.Frag) (mg:Str->Option Value) (base:Heap) (n:Nat) (x:Str) (ps:List Str) (F:List D->M S):Prop where
 ex:∃f fd,FnOk P w K mg base Ye n f fd ps (Tl K F)/\Binds K fd ps []/\PySem.W.keepIn K (.ref f)=true/\mg x=some (.ref f)
section
variable {P:Program}{w:World}{K:PySem.W.Frag}{mg:Str->Option Value}{base:Heap}
def dm_mk {h:Heap}{x:Str}{st:Stmt}{f:Addr}{oc:Value}{od an:Option Addr}{sl:Array (Option Value)}{kV dc pm cd ct:Value}(X:K.In h)(G:h.Ns mainGlobals mg)(a:PySem.W.nsIn K mainGlobals x=some (some (.ref f)))(l:K.lookup f=some ⟨oc,od,.func (PySem.W.fnOf x x (K7 st) (Yy st) (Zg st) .none kV dc pm an cd ct),sl⟩)(c:PySem.W.codeIn K cd x=true)(k:PySem.W.keepIn K (.ref f)=true):Dm K mg x st:=⟨_,_,Zbz l c k,PySem.W.mg_of X G a⟩
def mm_mk {C:Addr}{m q:Str}{st:Stmt}{f:Addr}{oc:Value}{od an:Option Addr}{sl:Array (Option Value)}{kV dc pm cd ct:Value}(a:PySem.W.findIn K (.ref C) m=some (some (.ref f)))(n:PySem.W.isFn K (.ref f)=true)(l:K.lookup f=some ⟨oc,od,.func (PySem.W.fnOf m q (K7 st) (Yy st) (Zg st) .none kV dc pm an cd ct),sl⟩)(c:PySem.W.codeIn K cd q=true)(k:PySem.W.keepIn K (.ref f)=true):Mm K C m q st:=⟨_,_,⟨a,n,k⟩,Zbz l c k⟩
def Dm.cl {x:Str}{st:Stmt}{n:Nat}{ps:List Str}{F:List D->M S}(d:Dm K mg x st)(hb:∀(kV doc pm:Value) (an:Option Addr) (cdv ct:Value) (us:List Value),us.length=ps.length->bindArgs (PySem.W.fnOf x x (K7 st) (Yy st) (Zg st) .none kV doc pm an cdv ct) ⟨us,[]⟩=pure (ps.zip us))(h:∀f fd,Fun K x x st f fd->FnOk P w K mg base Ye n f fd ps (Tl K F)):Cl P w K mg base n x ps F:=
 let ⟨f,fd,F,m⟩:=d.ex
 ⟨f,fd,h f fd F,F.binds hb,F.kp,m⟩
end
def Qa {X:Cx}{E:XK}{pos:Pos}{k:Nat}{ps:List Str}{F:List D->M S}{x:Str}{p:Pos}{a:Expr}{es:List Expr}{fs:Zf->M (List D)}(c:Cl X.prog X.w X.K X.mg X.base k x ps F)(hr:Room k X.A)(ha:Tp X E (a::es) fs)(hg:Gl X x:=by rfl) (hdb:(x==("__debug__":Str))=false:=by decide) (he:starEach (a::es) X.env=(false,eval a X.env)::starEach es X.env:=by rfl) (hpl:(backTo pos (starEach es X.env)).any (·.1)=false:=by rfl):
  Yn X E (.Call (.Name x p) (a::es) [] pos) (Z5 F fs):=
 let ⟨_,_,G,b,k,m⟩:=c.ex
 Xa G hr m k b ha hg hdb he hpl
def Zgi (its:List Value):slicePick its.toArray none none (some (-1))=its.reverse.toArray:=by
 have hb:sliceBounds none none (some (-1)) its.toArray.size=((its.toArray.size:Int)-1,-1,-1):=by
  simp[sliceBounds]
 have hr:sliceRange ((its.toArray.size:Int)-1) (-1) (-1)=(List.range its.toArray.size).map fun(k:Nat)=>(((its.toArray.size:Int)-1)+(-1)*(k:Int)).toNat:=by
  unfold sliceRange
  have:((if(-1:Int) > 0 then(if((its.toArray.size:Int)-1) < -1 then(-1-((its.toArray.size:Int)-1) + -1-1) / -1 else 0) else(if((its.toArray.size:Int)-1) > -1 then(((its.toArray.size:Int)-1) - -1 - -1-1)/(- -1) else 0)):Int).toNat=its.toArray.size:=by
   rw[if_neg (by decide)]
   split
   ·rw[show(- -1:Int)=1 from rfl,Int.ediv_one]
    omega
   ·rename_i h
    have:its.toArray.size=0:=by omega
    rw[this]
    rfl
  dsimp only
  rw[this]
 unfold slicePick
 rw[hb]
 dsimp only
 rw[hr,List.filterMap_map]
 have:=Zcn its.toArray
 simp only[List.toList_toArray] at this
 rw[<-this]
 congr 1
 refine Sg fun m hm=>?_
 show its.toArray[(((its.toArray.size:Int)-1)+(-1)*(m:Int)).toNat]?=_
 rw[Int.mul_comm (-1) (m:Int)]
section
variable {X:Cx}{E:XK}{pos p2 p3 p4:Pos}{e:Expr}
def Zmy (K:PySem.W.Frag)(te:TE):TE:=fun σ H Q=>te σ H fun x H1=>∃a xs,x=.ref a/\SqL K H1 a xs/\∀p,H1 p=none->Q (.ref p) (upd H1 p (.lst xs.reverse))
def Zgj {te:TE}{j}(he:PE X e te):PE X (.Subscript e (.Slice none none (some (.UnaryOp .USub (.Constant (.int 1) j p3) p4)) p2) pos) (Zmy X.K te):=by
 intro pins s σ H Q I h
 refine Subscript_ (Yb (he pins s σ H _ I h) fun v s1 ⟨x,H1,I1,r1,q1⟩=>?_)
 refine wpAny_Slice ?_
 rw[evalPart_none]
 refine wpAny_pure (wpAny_pure ?_)
 rw[evalPart_some]
 refine Yb (Zbe (Zbf (X:=X)) (Za9 (X:=X)) pins s1 σ H1 (fun y H2=>y=.int (-1)/\H2=H1) I1 ⟨1,rfl,rfl,rfl⟩) fun vst s2 ⟨y,H2,I2,ry,ey,eH⟩=>?_
 subst ey eH
 obtain⟨tk,rfl⟩:=(show ∃t,vst=Value.int (-1) t from ry)
 have I4:Inv X pins σ H2 {s2 with heap:=s2.heap.push {cls:=.type "slice", data:=.fields #[.none,.none,.int (-1) tk]}}:=I2.kept (t':=s2.toks) fun b ob q=>Heap.get?_push_of_some _ q
 obtain⟨a,xs,rfl,hx,q⟩:=q1
 cases r1
 obtain⟨its,r,ht,hz⟩:=I4.list hx
 have hlen:=r.length
 show wpAny (model X.prog X.w) X.A (subscriptTail e _ _ (.ref s2.heap.objs.size)) (EP X pins σ Q) X.xe {s2 with heap:=s2.heap.push {cls:=.type "slice", data:=.fields #[.none,.none,.int (-1) tk]}}
 refine tail_any (ops:=[.ref a,.ref s2.heap.objs.size]) ht.isList.typeIs slot_list_getitem.lookup (wpAny_getItem_list_slice ht.isList (Heap.IsSliceOf.new ..) .none .none (.int (-1) tk) (by decide) ?_ (by rw[List.size_toArray]<;>omega)) (by with_unfolding_all rfl)
 rw[Zgi]
 refine⟨.ref _,_,I4.laid (t':=s2.toks) (o:=.lst xs.reverse) (fun b ob q=>Heap.get?_push_of_some _ q) (Nat.le_refl _) ?_,rfl,q _ (I4.hok.fresh (Nat.le_refl _))⟩
 exact⟨by rw[List.length_reverse];exact hz,_,0,Vals.rev r,Heap.get?_push_size _ rfl⟩
def Hz (f:Zf->M D)(sd:Zf):M D:=(f sd).bind fun d=>match d with
 |.lst ds=>.ok (.lst ds.reverse)
 |_=>.bad
def Zgk {f:Zf->M D}{j}(h:Yn X E e f):Yn X E (.Subscript e (.Slice none none (some (.UnaryOp .USub (.Constant (.int 1) j p3) p4)) p2) pos) (Hz f):=by
 obtain⟨t,p,q⟩:=h
 refine⟨_,Zgj p,fun H0 B Hf sd σ H Q sr h=>?_⟩
 refine q H0 B Hf sd σ H _ sr (Po.bind h fun d v Hf1 H1 _ g1 rv h1=>?_)
 split at h1
 ·obtain⟨a,xs,rfl,ha,hr⟩:=rep_lst.mp rv
  exact⟨a,xs,rfl,g1.sub.seq ha,fun p hp=>h1 _ _ _ (Gr.alloc g1.sub hp _) (Gr.lst g1.sub hp (Reps.rev hr))⟩
 ·exact h1.elim
end
end DL
namespace DL
open PySem PySem.Spec PyProof.Rows L2 PySem.W
def Pv (a b c:Int):Nat:=if a<b then((b-a-1)/c+1).toNat else 0
def Al (a c:Int)(n:Nat):List Int:=(List.range n).map fun(i:Nat)=>a+(i:Int)*c
def Ia {a b c:Int}(hc:0<c):Builtin.Range.rangeSize a b c=(Pv a b c:Int):=by
 unfold Builtin.Range.rangeSize Pv
 rw[if_pos hc]
 split
 ·rename_i h
  have:0<=(b-a-1)/c:=Int.ediv_nonneg (by lia) (by lia)
  lia
 ·rfl
def Zmz {a b c:Int}(hc:0<c):(Pv a b c:Int)<=max 0 (b-a):=by
 unfold Pv
 split
 ·have h0:0<=(b-a-1)/c:=Int.ediv_nonneg (by lia) (by lia)
  have h1:(b-a-1)/c<=b-a-1:=Int.ediv_le_self _ (by lia)
  lia
 ·lia
def Zgl {a b c:Int}(ha:-(2 ^ 60)<=a)(ha':a<2 ^ 60)(hb:-(2 ^ 60)<=b)(hb':b<2 ^ 60)(hc:0<c)(hc':c<2 ^ 60):Builtin.Range.small a b c=true:=by
 have h:=Ia (a:=a) (b:=b) hc
 have h2:=Zmz (a:=a) (b:=b) hc
 unfold Builtin.Range.small
 rw[h]
 simp only[Builtin.Range.rangeFitsLong,Bool.and_eq_true,Bool.or_eq_true,decide_eq_true_eq,beq_iff_eq,hc,if_true]
 refine⟨⟨⟨⟨?_,?_⟩,?_⟩,?_⟩,?_⟩<;>lia
def E7 {a c:Int}{n:Nat}{acc:Array Value}(h:ItemsOf (fun i v=>∃t,v=Value.int (a+i*c) t) acc n):Vals ((Al a c n).map V.int) acc.toList:=by
 obtain⟨h1,h2⟩:=h
 have:∀(l:List Value) (k:Nat),(∀j v,l[j]?=some v->∃t,v=Value.int (a+((k+j:Nat):Int)*c) t)->Vals (((List.range' k l.length).map fun(i:Nat)=>a+(i:Int)*c).map V.int) l:=by
  intro l
  induction l with
  |nil=>intro k _;exact .nil
  |cons v l ih=>
   intro k hv
   rw[List.length_cons,List.range'_succ,List.map_cons,List.map_cons]
   refine .cons ?_ (ih (k+1) fun j w hj=>?_)
   ·obtain⟨t,e⟩:=hv 0 v rfl
    exact⟨t,by rw[e,Nat.add_zero]⟩
   ·obtain⟨t,e⟩:=hv (j+1) w (by simpa using hj)
    exact⟨t,by rw[e];congr 4;lia⟩
 have h3:=this acc.toList 0 fun j v hj=>by
  rw[Nat.zero_add]
  exact h2 j v (by rw[<-Array.getElem?_toList];exact hj)
 have e:acc.toList.length=n:=by rw[Array.length_toList];exact h1
 rw[e] at h3
 unfold Al
 rw[List.range_eq_range']
 exact h3
section
variable {X:Cx}{E:XK}{pos pos' p p':Pos}{e1 e2 e3:Expr}
def Zkl (a b c:Int):Prop:=-(2 ^ 60)<=a/\a<2 ^ 60/\-(2 ^ 60)<=b/\b<2 ^ 60/\0<c/\c<2 ^ 60/\Pv a b c<=1000000
def Zp5 (xs:List V)(H:Hp)(Q:VK):Prop:=∃a b c:Int,xs=[.int a,.int b,.int c]/\Zkl a b c/\∀l,H l=none->Q (.ref l) (upd H l (.lst ((Al a c (Pv a b c)).map V.int)))
def Bs (a c:Int)(n:Nat):(Al a c n).length=n:=by unfold Al;rw[List.length_map,List.length_range]
def Zkm {pins:List (Addr×Obj)}{s s1:Shared}{σ:L2.St}{H:Hp}{Q:VK}{a b c:Int}{t u v:Tok}{tk:Nat}(hc:X.calm=true)(I1:Inv X pins σ H s1)(ok:Zkl a b c)(q:∀l,H l=none->Q (.ref l) (upd H l (.lst ((Al a c (Pv a b c)).map V.int)))):
  wpAny (model X.prog X.w) X.A (call (.type "list") [.ref s1.heap.objs.size]) (EP X pins σ Q) X.xe {s1 with heap:=s1.heap.push {cls:=.type "range", data:=.fields #[.int a t,.int b u,.int c v]},toks:=tk}:=by
 obtain⟨o1,o2,o3,o4,o5,o6,o7⟩:=ok
 have I2:Inv X pins σ H {s1 with heap:=s1.heap.push {cls:=.type "range", data:=.fields #[.int a t,.int b u,.int c v]},toks:=tk}:=I1.kept fun b o e=>Heap.get?_push_of_some _ e
 refine call_list_range (n:=Pv a b c) (I1.ok.hd hc) (IsRange.new ..) (Zgl o1 o2 o3 o4 o5 o6) (Ia o5) (Nat.le_trans o7 (by decide)) fun h' tk' acc' c' kp eS hacc=>?_
 refine⟨.ref _,_,I2.laid (t':=tk') (o:=.lst ((Al a c (Pv a b c)).map V.int)) kp (Nat.le_refl _) ⟨?_,acc'.toList,c',E7 hacc,?_⟩,rfl,q _ (I2.hok.fresh (Nat.le_refl _))⟩
 ·rw[List.length_map,Bs,sizeLine_eq]
  exact Nat.le_trans o7 (by decide)
 ·rw[Array.toArray_toList]
  exact eS
def Zkn {t:TA}(hc:X.calm=true) (hg:Gl X "list") (hm:X.mg "list"=none) (hv:bootBuiltins "list"=some (.type "list")) (hg2:Gl X "range") (hm2:X.mg "range"=none) (ha:PA X [e1,e2,e3] t)
  (he:starEach [Expr.Call (.Name "range" p') [e1,e2,e3] [] pos'] X.env=(false,eval (Expr.Call (.Name "range" p') [e1,e2,e3] [] pos') X.env)::starEach [] X.env:=by rfl) (hpl:(backTo pos (starEach [] X.env)).any (·.1)=false:=by rfl)
  (he2:starEach [e1,e2,e3] X.env=(false,eval e1 X.env)::starEach [e2,e3] X.env:=by rfl) (hpl2:(backTo pos' (starEach [e2,e3] X.env)).any (·.1)=false:=by rfl):
  PE X (.Call (.Name "list" p) [.Call (.Name "range" p') [e1,e2,e3] [] pos'] [] pos) (Zon Zp5 t):=by
 intro pins s σ H Q I h
 refine wpAny_Call_Name_kw (Wr I hg hm hv ?_ (by decide) (by decide))
 refine PyProof.Rows.callWith_type1 ?_ he hpl
 rw[he]
 show wpAny _ _ (spliced ((false,eval (Expr.Call (.Name "range" p') [e1,e2,e3] [] pos') X.env)::backTo pos (starEach [] X.env))) _ _ s
 refine Calls.spliced_cons ?_
 refine wpAny_Call_Name_kw (Wr I hg2 hm2 boot_range ?_ (by decide) (by decide))
 refine PyProof.Rows.callWith_type1 (Yb (ha pos' pins s σ H _ I h) fun us s1 ⟨vs,H1,I1,r1,q1⟩=>?_) he2 hpl2
 obtain⟨a,b,c,rfl,ok,q⟩:=q1
 rcases r1 with _|⟨⟨ta,rfl⟩,_|⟨⟨tb,rfl⟩,_|⟨⟨tc,rfl⟩,_|_⟩⟩⟩
 have hc0:c≠0:=by have:=ok.2.2.2.2.1;lia
 refine call_range_3 hc0 ?_ (.inl (PyProof.noPylong_of_log2 (Zb0 ?_)))
 ·refine Calls.spliced_nil ?_
  exact Zkm (s:=s) hc I1 ok q
 ·have h1:=ok.2.2.2.2.1
  have h2:=ok.2.2.2.2.2.1
  have:(2:Nat) ^ 60<2 ^ 4000:=Nat.pow_lt_pow_right (by decide) (by decide)
  have e60:(2:Int) ^ 60=((2 ^ 60:Nat):Int):=by decide
  lia
def Zm0 (a b c:Int):Bool:=decide (-(2 ^ 60)<=a/\a<2 ^ 60/\-(2 ^ 60)<=b/\b<2 ^ 60/\0<c/\c<2 ^ 60/\Pv a b c<=1000000)
def Zko {a b c:Int}(h:Zm0 a b c=true):Zkl a b c:=by
 unfold Zm0 at h
 have:=of_decide_eq_true h
 exact this
def Zkp:List D->M D
 |[.int a,.int b,.int c]=>if Zm0 a b c=true then .ok (.lst ((Al a c (Pv a b c)).map D.int)) else .bad
 |_=>.bad
def Zkq (fs:Zf->M (List D))(sd:Zf):M D:=(fs sd).bind Zkp
theorem reps_ints {K:Frag}{H:Hp}:∀l:List Int,Reps K H (l.map D.int) (l.map V.int)
 |[]=>Reps.nil
 |i::l=>Reps.cons (rep_int.mpr rfl) (reps_ints l)
def Zkr {fs:Zf->M (List D)}(hc:X.calm=true) (z1:X.mg "list"=none) (z2:X.mg "range"=none) (h:Tp X E [e1,e2,e3] fs) (hg:Gl X "list":=by rfl) (hg2:Gl X "range":=by rfl)
  (he:starEach [Expr.Call (.Name "range" p') [e1,e2,e3] [] pos'] X.env=(false,eval (Expr.Call (.Name "range" p') [e1,e2,e3] [] pos') X.env)::starEach [] X.env:=by rfl) (hpl:(backTo pos (starEach [] X.env)).any (·.1)=false:=by rfl)
  (he2:starEach [e1,e2,e3] X.env=(false,eval e1 X.env)::starEach [e2,e3] X.env:=by rfl) (hpl2:(backTo pos' (starEach [e2,e3] X.env)).any (·.1)=false:=by rfl):
  Yn X E (.Call (.Name "list" p) [.Call (.Name "range" p') [e1,e2,e3] [] pos'] [] pos) (Zkq fs):=by
 obtain⟨t,pt,qt⟩:=h
 refine⟨_,Zkn hc hg z1 (by rfl) hg2 z2 pt he hpl he2 hpl2,fun H0 B Hf sd σ H Q sr h=>?_⟩
 refine qt H0 B Hf sd σ H _ sr (Po.bind h fun ds vs Hf1 H1 _ g1 rs h1=>?_)
 have hlen:=rs.length
 unfold Zkp at h1
 split at h1
 ·split at h1
  ·rename_i a b c _ hb
   obtain⟨x,_,rfl,r1,rs⟩:=reps_cons.mp rs
   obtain⟨y,_,rfl,r2,rs⟩:=reps_cons.mp rs
   obtain⟨z,_,rfl,r3,rs⟩:=reps_cons.mp rs
   cases reps_nil.mp rs
   cases rep_int.mp r1
   cases rep_int.mp r2
   cases rep_int.mp r3
   exact⟨a,b,c,rfl,Zko hb,fun l hl=>h1 _ _ _ (Gr.alloc g1.sub hl _) (Gr.lst g1.sub hl (reps_ints _))⟩
  ·exact h1.elim
 ·exact h1.elim
end
section
variable {X:Cx}{E:XK}{pos:Pos}
def Uw {α:Type}(k:Nat)(y:α)(xs:List α):List α:=xs.take k++y::xs.drop k
def Zo7:V->List V->Hp->VK->Prop:=fun x vs H Q=>∃(l:Addr) (xs:List V) (k:Nat) (y:V),x=.ref l/\vs=[.int (k:Int),y]/\H l=some (.lst xs)/\k<=xs.length/\xs.length<=1000000/\Q .non (upd H l (.lst (Uw k y xs)))
theorem Vals.take:∀{xs:List V}{us:List Value} (k:Nat),Vals xs us->Vals (xs.take k) (us.take k)
 |_,_,0,_=>.nil
 |_,_,k+1,.nil=>.nil
 |_,_,k+1,.cons r t=>.cons r (Vals.take k t)
theorem Vals.drop:∀{xs:List V}{us:List Value} (k:Nat),Vals xs us->Vals (xs.drop k) (us.drop k)
 |_,_,0,h=>h
 |_,_,k+1,.nil=>.nil
 |_,_,k+1,.cons r t=>Vals.drop k t
def Zah:Zos X "list.insert" Zo7:=by
 intro pins s σ H x vs v us Q I rx rv h
 obtain⟨l,xs,k,y,rfl,rfl,hH,hk,hl,q⟩:=h
 cases rx
 rcases rv with _|⟨⟨t,rfl⟩,_|⟨ru,_|_⟩⟩
 rename_i u
 obtain⟨z,its,n,r,hl',e⟩:=I.lstM hH
 have hlen:=r.length
 have hfit:¬((!Builtin.List.listFitsIndex (k:Int))=true):=by
  have:Builtin.List.listFitsIndex (k:Int)=true:=by
   unfold Builtin.List.listFitsIndex
   rw[Bool.and_eq_true,decide_eq_true_iff,decide_eq_true_iff]
   have h63:(2:Int) ^ 63=9223372036854775808:=by decide
   rw[h63]
   constructor<;>lia
  rw[this]
  decide
 have key:∀x:Int,x=(k:Int)->wpAny (model X.prog X.w) X.A (call (.builtin "list.insert") [.ref l,.int x t,u]) (EP X pins σ Q) X.xe s:=fun x hx=>by
  have hfit':¬((!Builtin.List.listFitsIndex x)=true):=by rw[hx];exact hfit
  refine call_meets F.slot_list_insert ⟨_,e,rfl⟩ F.entry_list_insert (F.args_list_insert_3 _ _ _) (PySem.AutoSeq1.list_insert_list_int_val_1 l _ n x t u hfit' (by rw[List.size_toArray,sizeLine_eq];lia)) ⟨e,?_⟩
  refine⟨.non,_,I.lset (its':=Uw k u its) hH e ?_ ((Vals.take k r).append (.cons ru (Vals.drop k r))) ?_,rfl,q⟩
  ·have e1:(if x<0 then(x+(its.toArray.size:Int)).toNat else min x.toNat its.toArray.size)=k:=by
    rw[if_neg (by lia),List.size_toArray]
    lia
   show(its.toArray.extract 0 (if x<0 then(x+(its.toArray.size:Int)).toNat else min x.toNat its.toArray.size)).push u++its.toArray.extract (if x<0 then(x+(its.toArray.size:Int)).toNat else min x.toNat its.toArray.size)=_
   rw[e1]
   apply Array.ext'
   simp[Uw]
   exact List.take_of_length_le (by rw[List.length_drop];exact Nat.le_refl _)
  ·show(Uw k y xs).length<=_
   unfold Uw
   rw[sizeLine_eq,List.length_append,List.length_cons,List.length_take,List.length_drop]
   lia
 exact key _ rfl
def Zgm (i:Nat)(f g:Zf->M D)(sd:Zf):M O:=match sd[i]? with
 |some (some (.ow ds))=>(f sd).bind fun k=>(g sd).bind fun d=>match k with
  |.int k=>if 0<=k/\k<=(ds.length:Int)/\ds.length<=1000000 then .ok (.nx (sd.set i (some (.ow (Uw k.toNat d ds))))) else .bad
  |_=>.bad
 |_=>.bad
def Reps.ins {K:Frag}{H:Hp}{ds:List D}{xs:List V}{d:D}{v:V}(k:Nat)(r:Reps K H ds xs)(h:Rep K H d v):Reps K H (Uw k d ds) (Uw k v xs):=(r.take k).append (Reps.cons h (r.drop k))
def Zgn (i:Nat){x:Str}{e e2:Expr}{f g:Zf->M D}{p1 p2 p3:Pos}(h:Yn X E e f)(h':Yn X E e2 g)(hi:X.N[i]?=some x:=by rfl)(hv:Pz X.env.scope x:=by trivial)
  (hd:(x==("__debug__":Str))=false:=by decide) (hcd:(x==("__classdict__":Str))=false:=by decide)
  (hse:starEach [e,e2] X.env=(false,eval e X.env)::starEach [e2] X.env:=by rfl) (hse2:starEach [e2] X.env=(false,eval e2 X.env)::starEach [] X.env:=by rfl)
  (hbase:attributeBase (.Name x p1) "insert" X.env (eval (.Name x p1) X.env)=eval (.Name x p1) X.env:=by rfl)
  (hfew:((backTo p3 (starEach [e,e2] X.env)).all (fun x=>!x.1)&&(backToKw p3 (keywordEach [] X.env)).all (fun x=>x.1.isSome)
   && decide ([e,e2].length+([]:List Keyword).length+(if([]:List Keyword).isEmpty then 0 else 1)<30))=true:=by rfl)
  (hline:(p2.endLine==p3.line)=true:=by rfl) (hplain:(backTo p3 (starEach [e2] X.env)).any (·.1)=false:=by rfl)
  (hsw:swapsWith (.Call (.Attribute (.Name x p1) "insert" p2) [e,e2] [] p3) none pos.line X.env=pure false:=by rfl):
  Ga X E (.Expr (.Call (.Attribute (.Name x p1) "insert" p2) [e,e2] [] p3) pos) (Zgm i f g):=by
 obtain⟨t,pt,q⟩:=h
 obtain⟨t',pt',q'⟩:=h'
 refine⟨_,U8 (Zbt PySem.F.plainAttrs_list PySem.F.slot_list_insert PySem.F.type_list_insert Zah (Z9 hi hv hd hcd) (Qk pt (Qk pt' Xz hse2) hse) hbase hfew hline hse hplain) hsw,fun H0 B Hf sd σ H D sr h=>?_⟩
 unfold Zgm at h
 split at h
 ·rename_i ds ei
  obtain⟨p,z1,z2,z3,xs,z4,z5⟩:=sr.ow i _ ei rfl
  refine⟨_,z1,.inl ⟨rfl,xs,SqL.of z4⟩,?_⟩
  refine q H0 B Hf sd σ H _ sr (PoS.bind sr h fun k v Hf1 H1 _ g1 sr1 rv h1=>?_)
  refine q' H0 B Hf1 sd σ H1 _ sr1 (PoS.bind sr1 h1 fun d v' Hf2 H2 _ g2 sr2 rv' h2=>?_)
  split at h2
  ·split at h2
   ·rename_i k _ hf
    obtain⟨f1,f2,f3⟩:=hf
    have z5':=(z5.mono g1.fz).mono g2.fz
    have hl:=z5.length
    cases rep_int.mp rv
    refine⟨p,xs,k.toNat,v',rfl,by rw[Int.toNat_of_nonneg f1],g2.all _ _ (g1.all _ _ z4),by lia,by lia,?_⟩
    exact h2 _ Hf2 _ (Same.refl _) (sr2.change ei rfl z1 rfl ⟨_,Zo,Reps.ins _ z5' rv'⟩)
   ·exact h2.elim
  ·exact h2.elim
 ·exact h.elim
end
def Zai {X:Cx}{E:XK}{pos:Pos}{k:Nat}{ps:List Str}{F:List D->M S}{x:Str}{p:Pos}{a:Expr}{es:List Expr}{fs:Zf->M (List D)}(c:Cl X.prog X.w X.K X.mg X.base k x ps F)(hr:Room k X.A)(ha:Tp X E (a::es) fs)(hg:Gl X x:=by rfl) (hdb:(x==("__debug__":Str))=false:=by decide) (he:starEach (a::es) X.env=(false,eval a X.env)::starEach es X.env:=by rfl) (hpl:(backTo pos (starEach es X.env)).any (·.1)=false:=by rfl):
  Zjz X E (.Call (.Name x p) (a::es) [] pos) (Cd F fs):=
 let ⟨_,_,G,b,k,m⟩:=c.ex
 Zca G hr m k b ha hg hdb he hpl
def Cy {X:Cx}{E:XK}{pos:Pos}{k:Nat}{ps:List Str}{F:List D->M S}{x:Str}{p:Pos}{a:Expr}{es:List Expr}{fs:Zf->M (List D×Zf)}(c:Cl X.prog X.w X.K X.mg X.base k x ps F)(hr:Room k X.A)(ha:Zcx X E (a::es) fs)(hg:Gl X x:=by rfl) (hdb:(x==("__debug__":Str))=false:=by decide) (he:starEach (a::es) X.env=(false,eval a X.env)::starEach es X.env:=by rfl) (hpl:(backTo pos (starEach es X.env)).any (·.1)=false:=by rfl):
  Zka X E (.Call (.Name x p) (a::es) [] pos) (L9 F fs):=
 let ⟨_,_,G,b,k,m⟩:=c.ex
 Zf6 G hr m k b ha hg hdb he hpl
def Tx (j k:Nat)(fT:Zf->M Bool)(fE:Zf->M D):List D->Zf->M Zf
 |[],sd=>.ok sd
 |d::r,sd=>match fT (sd.set j (some (.im d))) with
  |.ok true=>(match fE (sd.set j (some (.im d))) with
   |.ok v=>Tx j k fT fE r ((sd.set j (some (.im d))).set k (some (.im v)))
   |_=>.bad)
  |.ok false=>Tx j k fT fE r (sd.set j (some (.im d)))
  |_=>.bad
def Zgo (i j k:Nat)(fT:Zf->M Bool)(fE:Zf->M D)(sd:Zf):M O:=match sd[i]? with
 |some (some (.ow ds))=>(match Tx j k fT fE ds sd with
  |.ok sd'=>.ok (.nx sd')
  |_=>.bad)
 |_=>.bad
section
variable {X:Cx}{E:XK}{pos:Pos}
def Zgp (i j k:Nat){x y z:Str}{e e2:Expr}{fT:Zf->M Bool}{fE:Zf->M D}{p1 p2 p3 p4 p5:Pos}(hp:PassesOwn (model X.prog X.w) X.A X.env X.xe)(hc:X.calm=true)(hN:X.N.Nodup)(ij:j≠i)(ik:k≠i)(hT:Ls X E e fT)(hE:Yn X E e2 fE)(hi:X.N[i]?=some x:=by rfl)(hv:Pz X.env.scope x:=by trivial) (hd:(x==("__debug__":Str))=false:=by decide) (hcd:(x==("__classdict__":Str))=false:=by decide)
  (hj:X.N[j]?=some y:=by rfl) (hxj:Fv X.env.scope y:=by trivial) (hfj:X.fn y=true\/X.env.scope.names.lookup y=some .local:=by first|exact .inl rfl|exact .inr rfl|assumption)
  (hk:X.N[k]?=some z:=by rfl) (hxk:Fv X.env.scope z:=by trivial) (hfk:X.fn z=true\/X.env.scope.names.lookup z=some .local:=by first|exact .inl rfl|exact .inr rfl|assumption)
  (hs:swapsWith e2 (some (.Name z p3)) p4.line X.env=pure false:=by rfl) (hfs:∀u,foldedSetIterable (.Name x p2) X.env u=pure u:=by intro _;rfl):
  Ga X E (.For (.Name y p1) (.Name x p2) [.If e [.Assign [.Name z p3] e2 p4] [] p5] [] pos) (Zgo i j k fT fE):=by
 obtain⟨tT,pT,qT⟩:=hT
 obtain⟨tE,pE,qE⟩:=hE
 refine⟨_,Rt hp hc (Fz (Z9 hi hv hd hcd)) (Ge hN hj hxj hfj) (Y9 (Ar pT (Y9 (Kl hN hk hxk pE hs hfk)) Gd)) hfs,fun H0 B Hf sd σ H D sr h=>?_⟩
 unfold Zgo at h
 split at h
 ·rename_i ds ei
  split at h
  ·rename_i sd2 e2
   obtain⟨p,z1,z2,z3,xs,z4,z5⟩:=sr.ow i _ ei rfl
   refine⟨.ref p,z1,p,rfl,⟨xs,SqL.of z4⟩,fun n m σ' H'=>m=ds.length-n/\∃Hf' sd',Same Hf Hf'/\SR X.K H0 B Hf' sd' σ' H'/\sd'[i]?=some (some (.ow ds))/\σ'[i]?=some (some (.ref p))/\Tx j k fT fE (ds.drop n) sd'=.ok sd2,⟨_,rfl,Hf,sd,Same.refl _,sr,ei,z1,by simpa using e2⟩,?_⟩
   rintro n m σ1 H1 ⟨rfl,Hf1,sd1,s1,sr1,ei1,zi1,e1⟩
   obtain⟨p',y1,y2,y3,xs1,y4,y5⟩:=sr1.ow i _ ei1 rfl
   rw[zi1] at y1
   cases y1
   have hlen:=y5.length
   cases qn:ds[n]? with
   |none=>
    have hl:=List.getElem?_eq_none_iff.mp qn
    rw[List.drop_eq_nil_of_le hl] at e1
    cases e1
    exact .inl ⟨⟨xs1,SqL.of y4,by lia⟩,h σ1 Hf1 H1 s1 sr1⟩
   |some d=>
    have hlt:n<ds.length:=(List.getElem?_eq_some_iff.mp qn).1
    have hdr:ds.drop n=d::ds.drop (n+1):=by
     rw[List.drop_eq_getElem_cons hlt]
     congr 1
     exact(List.getElem?_eq_some_iff.mp qn).2
    rw[hdr] at e1
    obtain⟨v,ev,rv⟩:=y5.get qn
    refine .inr ⟨⟨xs1,v,SqL.of y4,ev⟩,fun σ' H'=>∃Hf' sd',Same Hf Hf'/\SR X.K H0 B Hf' sd' σ' H'/\sd'[i]?=some (some (.ow ds))/\σ'[i]?=some (some (.ref p))/\Tx j k fT fE (ds.drop (n+1)) sd'=.ok sd2,fun σ' H' w=>⟨ds.length-(n+1),by lia,rfl,w⟩,fun v' H2 hy=>?_⟩
    obtain⟨rfl,hy⟩:=hy
    have ev':=hy _ (SqL.of y4)
    rw[ev] at ev'
    cases ev'
    have sr2:=sr1.set_im j rv
    have ei2:(sd1.set j (some (.im d)))[i]?=some (some (.ow ds)):=by rw[List.getElem?_set_ne ij];exact ei1
    have zi2:(σ1.set j (some v))[i]?=some (some (.ref p)):=by rw[List.getElem?_set_ne ij];exact zi1
    unfold Tx at e1
    show tT _ _ _
    refine qT H0 B Hf1 _ _ _ _ sr2 ?_
    split at e1
    ·rename_i et
     rw[et]
     intro b Hf3 H3 g3 eb
     have eb:true=b:=eb
     subst eb
     rw[if_pos rfl]
     have sr3:=sr2.gr g3
     split at e1
     ·rename_i w ew
      refine qE H0 B Hf3 _ _ _ _ sr3 ?_
      rw[ew]
      intro v4 Hf4 H4 g4 r4
      exact⟨Hf4,_,s1.trans (g3.fz.trans g4.fz),(sr3.gr g4).set_im k r4,by rw[List.getElem?_set_ne ik];exact ei2,by rw[List.getElem?_set_ne ik];exact zi2,e1⟩
     ·cases e1
    ·rename_i et
     rw[et]
     intro b Hf3 H3 g3 eb
     have eb:false=b:=eb
     subst eb
     rw[if_neg (by decide)]
     exact⟨Hf3,_,s1.trans g3.fz,sr2.gr g3,ei2,zi2,e1⟩
    ·cases e1
  ·exact h.elim
 ·exact h.elim
end
end DL
namespace Law
open PySem L2 DL
def top (i:Nat):Stmt:=PySem.Challenge.pw_selfsight_k25_whole_the_same_way_back.main.body.getD i (.Pass ⟨0,0,0,0⟩)
abbrev Ji:Stmt:=top 1
abbrev Sv:Stmt:=top 2
abbrev Bt:Stmt:=top 3
abbrev Wy:Stmt:=top 6
abbrev V1:Stmt:=top 7
abbrev Kw:Stmt:=top 8
abbrev Bu:Stmt:=top 9
abbrev X5:Stmt:=top 10
abbrev Ux:Stmt:=top 14
abbrev Jt:Stmt:=top 15
abbrev N9:Stmt:=top 16
abbrev Kx:Stmt:=top 17
abbrev V2:Stmt:=top 18
abbrev Wz:Stmt:=top 19
abbrev Vj:Stmt:=top 20
abbrev Uy:Stmt:=top 21
abbrev Qt:Stmt:=top 22
abbrev Q3:Stmt:=top 24
abbrev Jb:Stmt:=top 25
abbrev Sw:Stmt:=top 26
abbrev Ky:Stmt:=top 27
abbrev Sx:Stmt:=top 29
abbrev Uz:Stmt:=top 30
abbrev W0:Stmt:=top 31
abbrev W1:Stmt:=top 32
abbrev Sy:Stmt:=top 33
abbrev Sz:Stmt:=top 34
abbrev S0:Stmt:=top 35
abbrev W2:Stmt:=top 36
abbrev S1:Stmt:=top 37
abbrev S2:Stmt:=top 38
abbrev Vq:Stmt:=top 39
abbrev V3:Stmt:=top 40
abbrev Mh:Stmt:=top 41
abbrev Kd:Stmt:=Gq (top 12) 0
abbrev U0:Stmt:=Gq (top 12) 1
abbrev V4:Stmt:=Gq (top 12) 2
abbrev V5:Stmt:=Gq (top 13) 0
abbrev V6:Stmt:=Gq (top 13) 1
abbrev W3:Stmt:=Gq (top 13) 2
abbrev Pa:Stmt:=Gq (top 13) 3
abbrev Bv:Stmt:=Gq (top 13) 4
abbrev U1:Stmt:=Gq (top 13) 5
section
variable {P:Program}{w:World}{K:PySem.W.Frag}{mg:Str->Option Value}{base:Heap}
noncomputable def Xs:List D->M S:=Ug 2 3
  (Zx (Z4 2 (Vl Ul (Zc (Zd 0) Zk)))
   (Zx (Z4 3 (Vl Ul (Zc (Zd 1) Zk)))
   (Zx (Wu (tB (Zp Bh (Zd 3) ↑0)) (Zx (Z4 4 (Zp Yd (Zd 2) (Zd 3)))
   (Zx (Z4 2 (Zd 3))
   (Z4 3 (Zd 4)))))
   (Q0 (Zd 2)))))
def sc_common_divisor:FnScope ["one","other","greater","lesser","rest"] ["one","other"] (Zg Ji):=⟨rfl,rfl,rfl,by decide +kernel,rfl,by decide +kernel,by decide +kernel⟩
def G0 (d:Dm K mg "common_divisor" Ji) (z_abs:mg "abs"=none):Cl P w K mg base 1 "common_divisor" ["one","other"] Xs:=
 d.cl (by trivial) fun _ _ F=>Jh F sc_common_divisor rfl rfl fun cdv A outer s H E hr=>
  (Zh (Zr 2 sc_common_divisor.nd (Q6 Wt (by rfl) z_abs (by rfl) (Za (Zb 0) Ze)))
   (Zh (Zr 3 sc_common_divisor.nd (Q6 Wt (by rfl) z_abs (by rfl) (Za (Zb 1) Ze)))
   (Zh (Lw PassesOwn.never (Zz (F9 hr.units) (Zb 3) Zi (Z0 _)) (Zh (Zr 4 sc_common_divisor.nd (Zs Yl (Zb 2) (Zb 3)))
   (Zh (Zr 2 sc_common_divisor.nd (Zb 3))
   (Zn (Zr 3 sc_common_divisor.nd (Zb 4))))))
   (Zn (Zv (Zb 2))))))
noncomputable def Jc:List D->M S:=Ug 2 1
  (Zx (Z4 2 (Z5 Xs (Zc (Zd 0) (Zc (Zd 1) Zk))))
   (Q0 (Qv (Zc (Zp Xj (Zd 0) (Zd 2)) (Zc (Zp Xj (Zd 1) (Zd 2)) Zk)))))
def sc_amount:FnScope ["top","bottom","divisor"] ["top","bottom"] (Zg Sv):=⟨rfl,rfl,rfl,by decide +kernel,rfl,by decide +kernel,by decide +kernel⟩
def Zaj (d:Dm K mg "amount" Sv) (c_common_divisor:Cl P w K mg base 1 "common_divisor" ["one","other"] Xs):Cl P w K mg base 2 "amount" ["top","bottom"] Jc:=
 d.cl (by trivial) fun _ _ F=>Jh F sc_amount rfl rfl fun cdv A outer s H E hr=>
  (Zh (Zr 2 sc_amount.nd (Qa c_common_divisor (hr.mono (by decide)) (Za (Zb 0) (Za (Zb 1) Ze))))
   (Zn (Zv (Qf (Za (Zs Xp (Zb 0) (Zb 2)) (Za (Zs Xp (Zb 1) (Zb 2)) Ze))))))
noncomputable def Ke:List D->M S:=Ug 2 0
  (Q0 (Zp Tq (Zp Zt 0[0]! 1[1]!) (Zp Zt 1[0]! 0[1]!)))
def Zdg:FnScope ["one","other"] ["one","other"] (Zg Bt):=⟨rfl,rfl,rfl,by decide +kernel,rfl,by decide +kernel,by decide +kernel⟩
def Zdh (d:Dm K mg "below" Bt)  : Cl P w K mg base 1 "below" ["one","other"] Ke:=
 d.cl (by trivial) fun _ _ F=>Jh F Zdg rfl rfl fun cdv A outer s H E hr=>
  (Zn (Zv (Jr Gg (Zs Z2 (Zw (Zb 0)) (Zw (Zb 1))) (Zs Z2 (Zw (Zb 1)) (Zw (Zb 0))) (Z0 _))))
noncomputable def V7:List D->M S:=Ug 1 0
  (Q0 (Ts (Zml "int" (Zd 0)) (Zmj (Zml "bool" (Zd 0)))))
def Cz:FnScope ["value"] ["value"] (Zg Wy):=⟨rfl,rfl,rfl,by decide +kernel,rfl,by decide +kernel,by decide +kernel⟩
def C2 (d:Dm K mg "is_whole" Wy) (z_isinstance:mg "isinstance"=none) (z_int:mg "int"=none) (z_bool:mg "bool"=none):Cl P w K mg base 1 "is_whole" ["value"] V7:=
 d.cl (by trivial) fun _ _ F=>Jh F Cz rfl rfl fun cdv A outer s H E hr=>
  (Zn (Zv (Be (We "int" (by rfl) z_isinstance z_int (by rfl) (by rfl) (Zb 0)) (Ef (Zjr (We "bool" (by rfl) z_isinstance z_bool (by rfl) (by rfl) (Zb 0)))))))
noncomputable def Y0:List D->M S:=Ug 3 0
  (Q0 (Ts (Z5 V7 (Zc (Zd 0) Zk)) (Ts (Zp Zov (Zd 1) (Zd 0)) (Zp Zov (Zd 0) (Zd 2)))))
def Ty:FnScope ["value","least","greatest"] ["value","least","greatest"] (Zg V1):=⟨rfl,rfl,rfl,by decide +kernel,rfl,by decide +kernel,by decide +kernel⟩
def Tz (d:Dm K mg "is_from_to" V1) (c_is_whole:Cl P w K mg base 1 "is_whole" ["value"] V7):Cl P w K mg base 2 "is_from_to" ["value","least","greatest"] Y0:=
 d.cl (by trivial) fun _ _ F=>Jh F Ty rfl rfl fun cdv A outer s H E hr=>
  (Zn (Zv (Be (Qa c_is_whole (hr.mono (by decide)) (Za (Zb 0) Ze)) (Be (Jr Zh2 (Zb 1) (Zb 0) (Z0 _)) (Ef (Jr Zh2 (Zb 0) (Zb 2) (Z0 _)))))))
noncomputable def Xm:List D->M S:=Ug 5 2
  (Zx (Z4 5 (D0 (tB (Zp Jq (Zd 2) ↑"up")) (Zd 3) (Zd 4)))
   (Zx (Z4 6 (D0 (tB (Zp Jq (Zd 2) ↑"up")) (Zd 0) (Zd 1)))
   (Zx (Jw (tB (Zp Jq (Zd 5) ↑0)) (Q0 ↑3) Y7)
   (Zx (Jw (tB (Zp Jq (Zd 5) (Zd 6))) (Q0 ↑4) Y7)
   (Q0 (eC .non))))))
def sc_outward_face:FnScope ["width","height","kind","x","y","line","last"] ["width","height","kind","x","y"] (Zg Kw):=⟨rfl,rfl,rfl,by decide +kernel,rfl,by decide +kernel,by decide +kernel⟩
def P9 (d:Dm K mg "outward_face" Kw)  : Cl P w K mg base 1 "outward_face" ["width","height","kind","x","y"] Xm:=
 d.cl (by trivial) fun _ _ F=>Jh F sc_outward_face rfl rfl fun cdv A outer s H E hr=>
  (Zh (Zr 5 sc_outward_face.nd (Ko (Zz (Yt hr.units) (Zb 2) Qu (Z0 _)) (Zb 3) (Zb 4)))
   (Zh (Zr 6 sc_outward_face.nd (Ko (Zz (Yt hr.units) (Zb 2) Qu (Z0 _)) (Zb 0) (Zb 1)))
   (Zh (Qw (Zz (Yt hr.units) (Zb 5) Zi (Z0 _)) (Zn (Zv Zi)) Qh)
   (Zh (Qw (Zz (Yt hr.units) (Zb 5) (Zb 6) (Z0 _)) (Zn (Zv Zi)) Qh)
   (Zn (Zv X7))))))
noncomputable def Qp:List D->M S:=Ug 4 1
  (Zx (Jm (Vn 0[2]!) (X4 4) (Jw (tB (Zp Jq (Zb7 (Zd 4) R7 (Kq ↑3)) (Qv (Zc (Zd 1) (Zc (Zd 2) (Zc (Zd 3) Zk)))))) (Q0 (Zb7 (Zd 4) (Kq ↑3) R7)) Y7))
   (Zx (Jw (tB (Zp Zfu (Z5 Xm (Zc 0[0]! (Zc 0[1]! (Zc (Zd 1) (Zc (Zd 2) (Zc (Zd 3) Zk)))))) (eC .non))) (Q0 (eC .non)) Y7)
   (Q0 (Qv (Zc ↑"p" (Zc ↑"p" Zk))))))
def sc_faces:FnScope ["hall","kind","x","y","side"] ["hall","kind","x","y"] (Zg Bu):=⟨rfl,rfl,rfl,by decide +kernel,rfl,by decide +kernel,by decide +kernel⟩
def Zdi (d:Dm K mg "faces" Bu) (c_outward_face:Cl P w K mg base 1 "outward_face" ["width","height","kind","x","y"] Xm):Cl P w K mg base 2 "faces" ["hall","kind","x","y"] Qp:=
 d.cl (by trivial) fun _ _ F=>Jh F sc_faces rfl rfl fun cdv A outer s H E hr=>
  (Zh (Xe PassesOwn.never rfl (X8 (Zw (Zb 0))) (Qd 4 sc_faces.nd) (Zn (Qw (Zz (Yt hr.units) (Gm (Zb 4) R8 (Uo Zi)) (Qf (Za (Zb 1) (Za (Zb 2) (Za (Zb 3) Ze)))) (Z0 _)) (Zn (Zv (Gm (Zb 4) (Uo Zi) R8))) Qh)))
   (Zh (Qw (Zz Zcd (Qa c_outward_face (hr.mono (by decide)) (Za (Zw (Zb 0)) (Za (Zw (Zb 0)) (Za (Zb 1) (Za (Zb 2) (Za (Zb 3) Ze)))))) X7 (Z0 _)) (Zn (Zv X7)) Qh)
   (Zn (Zv (Qf (Za Qu (Za Qu Ze)))))))
noncomputable def Vf:List D->M S:=Ug 3 3
  (Zx (Z4 3 0[0]!)
   (Zx (Z4 4 0[1]!)
   (Zx (Jw (tO (tN (tB (Z5 Y0 (Zc (Zd 1) (Zc ↑0 (Zc (Zd 3) Zk)))))) (tN (tB (Z5 Y0 (Zc (Zd 2) (Zc ↑0 (Zc (Zd 4) Zk))))))) (Q0 (eC (.bl false))) Y7)
   (Zx (Jw (tO (tB (Zp Zft (Zd 1) (Qv (Zc ↑0 (Zc (Zd 3) Zk))))) (tB (Zp Zft (Zd 2) (Qv (Zc ↑0 (Zc (Zd 4) Zk)))))) (Q0 (eC (.bl true))) Y7)
   (Zx (Z4 5 (Wo (Zc (Qv (Zc ↑"up" (Zc (Zd 1) (Zc (Zp Vt (Zd 2) ↑1) Zk)))) (Zc (Qv (Zc ↑"up" (Zc (Zd 1) (Zc (Zd 2) Zk)))) (Zc (Qv (Zc ↑"flat" (Zc (Zp Vt (Zd 1) ↑1) (Zc (Zd 2) Zk)))) (Zc (Qv (Zc ↑"flat" (Zc (Zd 1) (Zc (Zd 2) Zk)))) Zk))))))
   (Q0 (Vl Zfs (Zc (Tt (Uq (Vn 0[2]!) 1 [5] (X4 0) (Zp Zft (Zb7 (Zd 0) R7 (Kq ↑3)) (Zd 1)))) Zk))))))))
def sc_is_corner:FnScope ["hall","x","y","width","height","edges"] ["hall","x","y"] (Zg X5):=⟨rfl,rfl,rfl,by decide +kernel,rfl,by decide +kernel,by decide +kernel⟩
def Bw (d:Dm K mg "is_corner" X5) (c_is_from_to:Cl P w K mg base 2 "is_from_to" ["value","least","greatest"] Y0) (z_any:mg "any"=none):Cl P w K mg base 3 "is_corner" ["hall","x","y"] Vf:=
 d.cl (by trivial) fun _ _ F=>Jh F sc_is_corner rfl rfl fun cdv A outer s H E hr=>
  (Zh (Zr 3 sc_is_corner.nd (Zw (Zb 0)))
   (Zh (Zr 4 sc_is_corner.nd (Zw (Zb 0)))
   (Zh (Qw ((Nu (Wc (Xq (Qa c_is_from_to (hr.mono (by decide)) (Za (Zb 1) (Za Zi (Za (Zb 3) Ze)))))) (Wd (Wc (Xq (Qa c_is_from_to (hr.mono (by decide)) (Za (Zb 2) (Za Zi (Za (Zb 4) Ze))))))))).pt (Zn (Zv F6)) Qh)
   (Zh (Qw ((Nu (Zz (Zcb (by exact hr.units)) (Zb 1) (Qf (Za Zi (Za (Zb 3) Ze))) (by with_unfolding_all rfl)) (Wd (Zz (Zcb (by exact hr.units)) (Zb 2) (Qf (Za Zi (Za (Zb 4) Ze))) (by with_unfolding_all rfl))))).pt (Zn (Zv F6)) Qh)
   (Zh (Zr 5 sc_is_corner.nd (Vu (Za (Qf (Za Qu (Za (Zb 1) (Za (Zs Js (Zb 2) Zi) Ze)))) (Za (Qf (Za Qu (Za (Zb 1) (Za (Zb 2) Ze)))) (Za (Qf (Za Qu (Za (Zs Js (Zb 1) Zi) (Za (Zb 2) Ze)))) (Za (Qf (Za Qu (Za (Zb 1) (Za (Zb 2) Ze)))) Ze))))))
   (Zn (Zv (Q6 (Zjt rfl) (by rfl) z_any (by rfl) (Za (Zb8 (Sb (Nc:=["side","edges"]) rfl (Wv (fun y hy hf=>Jk (Bl (sc:=Zg X5) (by decide +kernel) y hy hf))) (Zj2 (sc:=Zg X5) rfl rfl (by decide +kernel) (Bl (by decide +kernel)) (fun y hy hf=>Jk (Bl (sc:=Zg X5) (by decide +kernel) y hy hf)) rfl (Bm (N:=["hall","x","y","width","height","edges"]) rfl (by decide +kernel))) rfl (by decide +kernel) (by decide +kernel) (Wf (by decide)) (X8 (Zw (Zb 0))) (fun s3 H3 C ex=>Qd 0 (show(["side","edges"]:List Str).Nodup by decide +kernel)) (fun s3 H3 C ex=>(Jr (Zcb (by exact hr.units)) (Gm (Zb 0) R8 (Uo Zi)) (Zb 1) (by with_unfolding_all rfl))))) Ze)))))))))
noncomputable def Yv:List D->M S:=Ug 1 0
  (Q0 (Zp Xj 0[0]! 0[1]!))
def Bx:FnScope ["place"] ["place"] (Zg Ux):=⟨rfl,rfl,rfl,by decide +kernel,rfl,by decide +kernel,by decide +kernel⟩
def By (d:Dm K mg "square_of" Ux)  : Cl P w K mg base 1 "square_of" ["place"] Yv:=
 d.cl (by trivial) fun _ _ F=>Jh F Bx rfl rfl fun cdv A outer s H E hr=>
  (Zn (Zv (Zs Xp (Zw (Zb 0)) (Zw (Zb 0)))))
noncomputable def Y3:List D->M S:=Ug 2 3
  (Zx (Z4 2 ↑1)
   (Zx (Jm (E6 (Zc (Zd 0) (Zc (Zd 1) Zk))) (Pm 2 (Yz (X4 3) (Yz (X4 4) R3))) (Z4 2 (Zp Zt (Zp Zt (Zd 2) 3[1]!) (Vl Cu (Zc ↑1 (Zc (Vl Ul (Zc 4[0]! Zk)) Zk))))))
   (Q0 (Zd 2))))
def sc_whole_time_of:FnScope ["point","step","time","begin","part"] ["point","step"] (Zg Jt):=⟨rfl,rfl,rfl,by decide +kernel,rfl,by decide +kernel,by decide +kernel⟩
def Pb (d:Dm K mg "whole_time_of" Jt) (z_zip:mg "zip"=none) (z_abs:mg "abs"=none) (z_max:mg "max"=none):Cl P w K mg base 1 "whole_time_of" ["point","step"] Y3:=
 d.cl (by trivial) fun _ _ F=>Jh F sc_whole_time_of rfl rfl fun cdv A outer s H E hr=>
  (Zh (Zr 2 sc_whole_time_of.nd Zi)
   (Zh (Xe PassesOwn.never rfl (Zag (by rfl) z_zip (Za (Zb 0) (Za (Zb 1) Ze))) (Bf rfl (Xr (Qd 3 sc_whole_time_of.nd) (Xr (Qd 4 sc_whole_time_of.nd) R4))) (Zn (Zr 2 sc_whole_time_of.nd (Zs Z2 (Zs Z2 (Zb 2) (Zw (Zb 3))) (Q6 (Zge rfl) (by rfl) z_max (by rfl) (Za Zi (Za (Q6 Wt (by rfl) z_abs (by rfl) (Za (Zw (Zb 4)) Ze)) Ze)))))))
   (Zn (Zv (Zb 2)))))
noncomputable def Xy:List D->M S:=Ug 3 0
  (Zx (Jw (tB (Zp Jq (Zd 0) ↑"corner")) (Q0 ↑"corner") Y7)
   (Zx (Jw (tB (Zd 1)) (Q0 ↑"end") Y7)
   (Zx (Jw (tB (Zp Jq (Zd 0) ↑"p")) (Q0 ↑"plain") Y7)
   (Zx (Jw (tA (tB (Zp Jq (Zd 0) ↑"m")) (tN (tB (Zd 2)))) (Q0 ↑"many") Y7)
   (Q0 (eC .non))))))
def S3:FnScope ["thing","is_over","may_turn"] ["thing","is_over","may_turn"] (Zg Vj):=⟨rfl,rfl,rfl,by decide +kernel,rfl,by decide +kernel,by decide +kernel⟩
def S4 (d:Dm K mg "how_it_ends" Vj)  : Cl P w K mg base 1 "how_it_ends" ["thing","is_over","may_turn"] Xy:=
 d.cl (by trivial) fun _ _ F=>Jh F S3 rfl rfl fun cdv A outer s H E hr=>
  (Zh (Qw (Zz (Yt hr.units) (Zb 0) Qu (Z0 _)) (Zn (Zv Qu)) Qh)
   (Zh (Qw (Xq (Zb 1)) (Zn (Zv Qu)) Qh)
   (Zh (Qw (Zz (Yt hr.units) (Zb 0) Qu (Z0 _)) (Zn (Zv Qu)) Qh)
   (Zh (Qw ((Vw (Zz (Yt hr.units) (Zb 0) Qu (Z0 _)) (Vm (Wc (Xq (Zb 2)))))).pt (Zn (Zv Qu)) Qh)
   (Zn (Zv X7))))))
end
section
variable {P:Program}{w:World}{K:PySem.W.Frag}{mg:Str->Option Value}{base:Heap}
def Bz:FnScope ["self"] ["self"] (Zg U1):=⟨rfl,rfl,rfl,by decide +kernel,rfl,by decide +kernel,by decide +kernel⟩
noncomputable def U2:Qm->List D->Option Qm:=Zet 0 0 (Ku (N7 "heading" (Zpm P6 (Ue "heading"))) (Zc5 "due" (Ue "lap")))
def B2 {f:Addr}{fd:FuncData}{C:Addr} (F:Fun K "turn_back" "Track.turn_back" U1 f fd) (tc:TkC K C):FnOk P w K mg base Ye 1 f fd ["self"] (P7 K C U2):=
 Zgc F Bz rfl rfl fun cdv A outer s H E hr=>(Xl (Kb tc.oc.cls tc.n3 (Zkg N4 (Vz tc.oc.cls tc.n3))) (Ve (Br tc.oc.cls tc.n4 (Vz tc.oc.cls tc.n5))))
def Zdj:FnScope ["self"] ["self"] (Zg Bv):=⟨rfl,rfl,rfl,by decide +kernel,rfl,by decide +kernel,by decide +kernel⟩
noncomputable def B3:Qm->List D->Option Qm:=Zet 0 0 (Ku (Zc5 "square" (Ue "heading")) (Zc5 "due" (Ue "lap")))
def Zdk {f:Addr}{fd:FuncData}{C:Addr} (F:Fun K "go_on" "Track.go_on" Bv f fd) (tc:TkC K C):FnOk P w K mg base Ye 1 f fd ["self"] (P7 K C B3):=
 Zgc F Zdj rfl rfl fun cdv A outer s H E hr=>(Xl (Br tc.oc.cls tc.n2 (Vz tc.oc.cls tc.n3)) (Ve (Br tc.oc.cls tc.n4 (Vz tc.oc.cls tc.n5))))
def B4:FnScope ["track","now","thing"] ["track","now","thing"] (Zg Uy):=⟨rfl,rfl,rfl,by decide +kernel,rfl,by decide +kernel,by decide +kernel⟩
noncomputable def F_pass_line:Qm->List D->Option Qm:=Zet 2 0 (Zes (gB (D2 Jq (Ue "due") (Ka (Zd 1)))) (Zes (fun sd _=>DL.tB (Zp Jq (Zd 2) ↑"m") sd) (Hq "turn_back" U2) (Hq "go_on" B3)) Zkf)
def B5 {f:Addr}{fd:FuncData}{C f1 f2:Addr}{fd1 fd2:FuncData} (F:Fun K "pass_line" "pass_line" Uy f fd) (tc:TkC K C) (m1:Meth K C "turn_back" f1) (G1:FnOk P w K mg base Ye 1 f1 fd1 ["self"] (P7 K C U2)) (b1:Binds K fd1 ["self"] []) (m2:Meth K C "go_on" f2) (G2:FnOk P w K mg base Ye 1 f2 fd2 ["self"] (P7 K C B3)) (b2:Binds K fd2 ["self"] []):
  FnOk P w K mg base Ye 2 f fd ["track","now","thing"] (P7 K C F_pass_line):=
 Zgc F B4 rfl rfl fun cdv A outer s H E hr=>(Ve (E3 (Hr (Yt hr.units) (Vz tc.oc.cls tc.n4) (Xf (Zb 1)) (Z0 _)) (Ve (E3 (Ht (Zz (Yt hr.units) (Zb 2) Qu (Z0 _))) (Ve (Cs tc.oc.cls m1 G1 (hr.mono (by decide)) b1)) (Ve (Cs tc.oc.cls m2 G2 (hr.mono (by decide)) b2)))) Hu))
def sc_Track_init:FnScope ["self","begin","part","whole_time","behind","left"] ["self","begin","part","whole_time"] (Zg V5):=⟨rfl,rfl,rfl,by decide +kernel,rfl,by decide +kernel,by decide +kernel⟩
noncomputable def Jd:Qm->List D->Option Qm:=Zet 3 2
 (Ku (N7 "begin" (Ka (Zd 1)))
 (Ku (N7 "square" (Ka (Z5 Yv (Zc (Zd 1) Zk))))
 (Ku (N7 "heading" (Ka ↑0))
 (Ku (N7 "due" (Ka (Zp Qe (Zd 3) ↑1)))
 (Ku (N7 "lap" (Ka ↑0))
 (Zes (fun sd _=>DL.tB (Zp Bh 2[0]! ↑0) sd)
  (Ku (N7 "heading" (Ka (D0 (DL.tB (Zp Rc 2[0]! ↑0)) ↑1 (Eo P6 ↑1))))
  (Ku (N7 "lap" (Ka (Zp Zt 2[1]! (Zp Xj (Zd 3) (Vl Ul (Zc 2[0]! Zk))))))
  (Ku (Zae 4 (Ka (Zp Yd 1[0]! 1[1]!)))
  (Ku (Zae 5 (Zgb (gB (D2 Rc (Ue "heading") (Ka ↑0))) (Ka (Zp Vt 1[1]! (Zd 4))) (Ka (Zd 4))))
   (N7 "due" (D2 Zt (Ka (Zd 5)) (D2 Xj (Ue "lap") (Ka 1[1]!)))))))) Zkf))))))
def T3 {f:Addr}{fd:FuncData}{C:Addr} (F:Fun K "__init__" "Track.__init__" V5 f fd) (tc:TkC K C) {f1:Addr}{fd1:FuncData} (G1:FnOk P w K mg base Ye 1 f1 fd1 ["place"] (Tl K Yv)) (b1:Binds K fd1 ["place"] []) (k1:PySem.W.keepIn K (.ref f1)=true) (m1:mg "square_of"=some (.ref f1)) (z_abs:mg "abs"=none):
  FnOk P w K mg base Ye 2 f fd ["self","begin","part","whole_time"] (P7 K C Jd):=
 Zgc F sc_Track_init rfl rfl fun cdv A outer s H E hr=>
  (Xl (Kb tc.oc.cls tc.n1 (Xf (Zb 1)))
  (Xl (Kb tc.oc.cls tc.n2 (Xf (Xa G1 (hr.mono (by decide)) m1 k1 b1 (Za (Zb 1) Ze))))
  (Xl (Kb tc.oc.cls tc.n3 (Xf Zi))
  (Xl (Kb tc.oc.cls tc.n4 (Xf (Zs Qo (Zb 3) Zi)))
  (Xl (Kb tc.oc.cls tc.n5 (Xf Zi))
  (Ve (E3 (Ht (Zz (F9 hr.units) (Zw (Zb 2)) Zi (Z0 _)))
   (Xl (Kb tc.oc.cls tc.n3 (Xf (Ko (Zz R0 (Zw (Zb 2)) Zi (Z0 _)) Zi (Ci N4 Zi))))
   (Xl (Kb tc.oc.cls tc.n5 (Xf (Zs Z2 (Zw (Zb 2)) (Zs Xp (Zb 3) (Q6 Wt (by rfl) z_abs (by rfl) (Za (Zw (Zb 2)) Ze))))))
   (Xl (Hv 4 sc_Track_init.nd (Xf (Zs Yl (Zw (Zb 1)) (Zw (Zb 1)))))
   (Xl (Hv 5 sc_Track_init.nd (Zkh (Hr R0 (Vz tc.oc.cls tc.n3) (Xf Zi) (Z0 _)) (Xf (Zs Js (Zw (Zb 1)) (Zb 4))) (Xf (Zb 4))))
   (Ve (Kb tc.oc.cls tc.n4 (Zc6 Z2 (Xf (Zb 5)) (Zc6 Xp (Vz tc.oc.cls tc.n5) (Xf (Zw (Zb 1))))))))))) Hu)))))))
def T4:FnScope ["self"] ["self"] (Zg V6):=⟨rfl,rfl,rfl,by decide +kernel,rfl,by decide +kernel,by decide +kernel⟩
noncomputable def Qi:List S->M S:=Ho 1 0 (Q0 (D0 (DL.tB (Zp Rc (Q2 0 "Track" "heading") ↑0)) (Zp Qe (Q2 0 "Track" "square") ↑1) (Q2 0 "Track" "square")))
def T5 {f:Addr}{fd:FuncData}{C:Addr} (F:Fun K "line_ahead" "Track.line_ahead" V6 f fd) (tc:TkC K C):FnOk P w K mg base Ye 1 f fd ["self"] (Pu K Qi):=
 Ex F T4 rfl rfl fun cdv A outer s H E hr=>
  (Zn (Zv (Ko (Zz R0 (Ql 0 tc.oc tc.n3) Zi (Z0 _)) (Zs Qo (Ql 0 tc.oc tc.n2) Zi) (Ql 0 tc.oc tc.n2))))
end
section
variable {P:Program}{w:World}{K:PySem.W.Frag}{mg:Str->Option Value}{base:Heap}
def C3:FnScope ["self","time"] ["self","time"] (Zg W3):=⟨rfl,rfl,rfl,by decide +kernel,rfl,by decide +kernel,by decide +kernel⟩
noncomputable def Q7:List S->M S:=Ho 2 0
 (Zx (Jw (DL.tB (Zp Jq (Q2 0 "Track" "heading") ↑0)) (Q0 (Q2 0 "Track" "begin")) Y7)
  (Q0 (Z5 Jc (Zc (Zp Vt (Zp Zt (Xk 0 "Track" "line_ahead" Qi Zk) (Q2 0 "Track" "lap")) (Zp Zt (Q2 0 "Track" "heading") (Zp Vt (Q2 0 "Track" "due") (Zd 1)))) (Zc (Q2 0 "Track" "lap") Zk)))))
def C4 {f:Addr}{fd:FuncData}{C:Addr} (F:Fun K "place_at" "Track.place_at" W3 f fd) (tc:TkC K C) {f1 f2:Addr}{fd1 fd2:FuncData}
  (m1:Meth K C "line_ahead" f1) (G1:FnOk P w K mg base Ye 1 f1 fd1 ["self"] (Pu K Qi)) (b1:Binds K fd1 ["self"] [])
  (G2:FnOk P w K mg base Ye 2 f2 fd2 ["top","bottom"] (Tl K Jc)) (b2:Binds K fd2 ["top","bottom"] []) (k2:PySem.W.keepIn K (.ref f2)=true) (m2:mg "amount"=some (.ref f2)):FnOk P w K mg base Ye 3 f fd ["self","time"] (Pu K Q7):=
 Ex F C3 rfl rfl fun cdv A outer s H E hr=>
  (Zh (Qw (Zz (Yt hr.units) (Ql 0 tc.oc tc.n3) Zi (Z0 _)) (Zn (Zv (Ql 0 tc.oc tc.n1))) Qh)
   (Zn (Zv (Xa G2 (hr.mono (by decide)) m2 k2 b2 (Za (Zs Js (Zs Z2 (Kh 0 tc.oc m1 G1 (hr.mono (by decide)) b1) (Ql 0 tc.oc tc.n5)) (Zs Z2 (Ql 0 tc.oc tc.n3) (Zs Js (Ql 0 tc.oc tc.n4) (Zb 1)))) (Za (Ql 0 tc.oc tc.n5) Ze))))))
def sc_time_at:FnScope ["self","place","left"] ["self","place"] (Zg Pa):=⟨rfl,rfl,rfl,by decide +kernel,rfl,by decide +kernel,by decide +kernel⟩
noncomputable def Ki:List S->M S:=Ho 2 1
 (Zx (Z4 2 (Zp Zt (Q2 0 "Track" "heading") (Zp Vt (Zp Zt (Xk 0 "Track" "line_ahead" Qi Zk) 1[1]!) 1[0]!)))
  (Q0 (Z5 Jc (Zc (Zp Vt (Zp Zt (Q2 0 "Track" "due") 1[1]!) (Zp Zt (Zd 2) (Q2 0 "Track" "lap"))) (Zc 1[1]! Zk)))))
def E8 {f:Addr}{fd:FuncData}{C:Addr} (F:Fun K "time_at" "Track.time_at" Pa f fd) (tc:TkC K C) {f1 f2:Addr}{fd1 fd2:FuncData}
  (m1:Meth K C "line_ahead" f1) (G1:FnOk P w K mg base Ye 1 f1 fd1 ["self"] (Pu K Qi)) (b1:Binds K fd1 ["self"] [])
  (G2:FnOk P w K mg base Ye 2 f2 fd2 ["top","bottom"] (Tl K Jc)) (b2:Binds K fd2 ["top","bottom"] []) (k2:PySem.W.keepIn K (.ref f2)=true) (m2:mg "amount"=some (.ref f2)):FnOk P w K mg base Ye 3 f fd ["self","place"] (Pu K Ki):=
 Ex F sc_time_at rfl rfl fun cdv A outer s H E hr=>
  (Zh (Zr 2 sc_time_at.nd (Zs Z2 (Ql 0 tc.oc tc.n3) (Zs Js (Zs Z2 (Kh 0 tc.oc m1 G1 (hr.mono (by decide)) b1) (Zw (Zb 1))) (Zw (Zb 1)))))
   (Zn (Zv (Xa G2 (hr.mono (by decide)) m2 k2 b2 (Za (Zs Js (Zs Z2 (Ql 0 tc.oc tc.n4) (Zw (Zb 1))) (Zs Z2 (Zb 2) (Ql 0 tc.oc tc.n5))) (Za (Zw (Zb 1)) Ze))))))
def T6:FnScope ["track","pair"] ["track","pair"] (Zg V2):=⟨rfl,rfl,rfl,by decide +kernel,rfl,by decide +kernel,by decide +kernel⟩
noncomputable def F_face_ahead:List S->M S:=Ho 2 0
 (Zx (Jw (DL.tB (Zp Zfu (Zd 1) (eC .non))) (Q0 (eC .non)) Y7)
  (Q0 (D0 (DL.tB (Zp Rc (Q2 0 "Track" "heading") ↑0)) 1[0]! 1[1]!)))
def T7 {f:Addr}{fd:FuncData}{C:Addr} (F:Fun K "face_ahead" "face_ahead" V2 f fd) (tc:TkC K C):FnOk P w K mg base Ye 1 f fd ["track","pair"] (Pu K F_face_ahead):=
 Ex F T6 rfl rfl fun cdv A outer s H E hr=>
  (Zh (Qw (Zz Zcd (Zb 1) X7 (Z0 _)) (Zn (Zv X7)) Qh)
   (Zn (Zv (Ko (Zz R0 (Ql 0 tc.oc tc.n3) Zi (Z0 _)) (Zw (Zb 1)) (Zw (Zb 1))))))
def sc_time_to:FnScope ["across","upward","person","times","track","place"] ["across","upward","person"] (Zg N9):=⟨rfl,rfl,rfl,by decide +kernel,rfl,by decide +kernel,by decide +kernel⟩
noncomputable def F_time_to:List S->M S:=Ho 3 3
 (Zx (Nz 3 (Tu Zk))
 (Zx (Gy 4 5 0 1 2[0]! 2[1]!
  (Jw (DL.tB (Zp Bh (Q2 4 "Track" "heading") ↑0)) (Ur 3 (Xk 4 "Track" "time_at" Ki (Zc (Zd 5) Zk)))
   (Jw (DL.tB (Zp Bh (Zd 5) (Q2 4 "Track" "begin"))) (Q0 (eC .non)) Y7)))
 (Ce 3 (Q0 (D0 (DL.tB (Zp Jq 3[0]! (Zp Km (Zd 3) (Eo P6 ↑1)))) 3[0]! (eC .non))))))
def E9 {f:Addr}{fd:FuncData}{C:Addr} (F:Fun K "time_to" "time_to" N9 f fd) (tc:TkC K C) {f1:Addr}{fd1:FuncData}
  (m1:Meth K C "time_at" f1) (G1:FnOk P w K mg base Ye 3 f1 fd1 ["self","place"] (Pu K Ki)) (b1:Binds K fd1 ["self","place"] []):FnOk P w K mg base Ye 4 f fd ["across","upward","person"] (Pu K F_time_to):=
 Ex F sc_time_to rfl rfl fun cdv A outer s H E hr=>
  (Zh (J2 3 sc_time_to.nd (Vb Ze))
  (Zh (Zc1 4 5 0 1 PassesOwn.never rfl sc_time_to.nd (Zw (Zb 2)) (Zw (Zb 2))
   (Zn (Qw (Zz (F9 hr.units) (Ql 4 tc.oc tc.n3) Zi (Z0 _)) (Zn (Wg 3 (Uv 4 tc.oc m1 G1 (hr.mono (by decide)) b1 (Za (Zb 5) Ze))))
    (Zn (Qw (Zz (F9 hr.units) (Zb 5) (Ql 4 tc.oc tc.n1) (Z0 _)) (Zn (Zv X7)) Qh)))))
  (Rf 3 (Zn (Zv (Ko (Zz (Yt hr.units) (Zw (Zb 3)) (Kn (Zb 3) (Ci N4 Zi) (fun _ _=>rfl)) (Z0 _)) (Zw (Zb 3)) X7))))))
def B6:FnScope ["self","square"] ["self","square"] (Zg U0):=⟨rfl,rfl,rfl,by decide +kernel,rfl,by decide +kernel,by decide +kernel⟩
noncomputable def X6:List S->M S:=Ho 2 0 (Q0 (Ey 0 (Zd 1) (Qv Zk)))
def B7 {f:Addr}{fd:FuncData}{C:Addr} (F:Fun K "people_at" "Floor.people_at" U0 f fd) (oc:ObC K "Floor" C) (na:NoAttr K C "by_square"):FnOk P w K mg base Ye 1 f fd ["self","square"] (Pu K X6):=
 Ex F B6 rfl rfl fun cdv A outer s H E hr=>
  (Zn (Zv (Zc2 0 hr.units oc na (Zb 1) (Qf Ze))))
def sc_person_ahead:FnScope ["floor","across","upward","whole_time","first","soonest","person","time"] ["floor","across","upward","whole_time"] (Zg Kx):=⟨rfl,rfl,rfl,by decide +kernel,rfl,by decide +kernel,by decide +kernel⟩
noncomputable def F_person_ahead:List S->M S:=Ho 4 4
 (Zx (Z4 4 (eC .non))
 (Zx (Z4 5 (Qv (Zc (Zd 3) (Zc ↑1 Zk))))
 (Zx (Jm (Vn (So 0 X6 (Zc (Qv (Zc (Q2 1 "Track" "square") (Zc (Q2 2 "Track" "square") Zk))) Zk))) (X4 6)
  (Zx (Z4 7 (Sn F_time_to (Vp 1 (Vp 2 (Gv (Zd 6) Mb)))))
   (Jw (tA (DL.tB (Zp J3 (Zd 7) (eC .non))) (tA (DL.tB (Z5 Ke (Zc (Qv (Zc ↑0 (Zc ↑1 Zk))) (Zc (Zd 7) Zk)))) (DL.tB (Z5 Ke (Zc (Zd 7) (Zc (Zd 5) Zk))))))
    (Zx (Z4 4 (Zd 6)) (Z4 5 (Zd 7))) Y7)))
 (Q0 (Zd 4)))))
def Ra {f:Addr}{fd:FuncData}{C CF:Addr} (F:Fun K "person_ahead" "person_ahead" Kx f fd) (tc:TkC K C) (oc:ObC K "Floor" CF) {f1 f2 f3:Addr}{fd1 fd2 fd3:FuncData}
  (m1:Meth K CF "people_at" f1) (G1:FnOk P w K mg base Ye 1 f1 fd1 ["self","square"] (Pu K X6)) (b1:Binds K fd1 ["self","square"] [])
  (G2:FnOk P w K mg base Ye 4 f2 fd2 ["across","upward","person"] (Pu K F_time_to)) (b2:Binds K fd2 ["across","upward","person"] []) (k2:PySem.W.keepIn K (.ref f2)=true) (m2:mg "time_to"=some (.ref f2))
  (G3:FnOk P w K mg base Ye 1 f3 fd3 ["one","other"] (Tl K Ke)) (b3:Binds K fd3 ["one","other"] []) (k3:PySem.W.keepIn K (.ref f3)=true) (m3:mg "below"=some (.ref f3)):
  FnOk P w K mg base Ye 5 f fd ["floor","across","upward","whole_time"] (Pu K F_person_ahead):=
 Ex F sc_person_ahead rfl rfl fun cdv A outer s H E hr=>
  (Zh (Zr 4 sc_person_ahead.nd X7)
  (Zh (Zr 5 sc_person_ahead.nd (Qf (Za (Zb 3) (Za Zi Ze))))
  (Zh (Xe PassesOwn.never rfl (X8 (Zc3 0 oc m1 G1 (hr.mono (by decide)) b1 (Za (Qf (Za (Ql 1 tc.oc tc.n2) (Za (Ql 2 tc.oc tc.n2) Ze))) Ze))) (Qd 6 sc_person_ahead.nd)
   (Zh (Zr 7 sc_person_ahead.nd (Cq G2 (hr.mono (by decide)) m2 k2 b2 (J9 1 (J9 2 (Wi (Zb 6) Rh)))))
    (Zn (Qw ((Vw (Zz N2 (Zb 7) X7 (Z0 _)) (Vw (Xq (Xa G3 (hr.mono (by decide)) m3 k3 b3 (Za (Qf (Za Zi (Za Zi Ze))) (Za (Zb 7) Ze)))) (Vm (Xq (Xa G3 (hr.mono (by decide)) m3 k3 b3 (Za (Zb 7) (Za (Zb 5) Ze)))))))).pt
     (Zh (Zr 4 sc_person_ahead.nd (Zb 6)) (Zn (Zr 5 sc_person_ahead.nd (Zb 7)))) Qh))))
  (Zn (Zv (Zb 4))))))
end
section
variable {P:Program}{w:World}{K:PySem.W.Frag}{mg:Str->Option Value}{base:Heap}
def Zgq {n c:Nat}(h:n+64<c):n+1<c:=by omega
def C5:FnScope ["self","edge"] ["self","edge"] (Zg V4):=⟨rfl,rfl,rfl,by decide +kernel,rfl,by decide +kernel,by decide +kernel⟩
def C6 {f:Addr}{fd:FuncData}{C:Addr} (F:Fun K "faces_at" "Floor.faces_at" V4 f fd) (oc:ObC K "Floor" C) (na1:NoAttr K C "hall") (na2:NoAttr K C "known_faces") {f1:Addr}{fd1:FuncData}
  (G1:FnOk P w K mg base Ye 2 f1 fd1 ["hall","kind","x","y"] (Tl K Qp)) (b1:Binds K fd1 ["hall","kind","x","y"] []) (k1:PySem.W.keepIn K (.ref f1)=true) (m1:mg "faces"=some (.ref f1)):
  FnOk P w K mg base Ye 3 f fd ["self","edge"] (Zki K Qp):=by
 refine F.ok C5 (fun vs H Q E h=>?_) (fun cdv A outer s H vs Q E hr h=>?_)
 ·obtain⟨Hf,a,g,q,k,n,ds,ks,d,v,rfl,_⟩:=h
  rfl
 ·obtain⟨Hf,a,g,q,k,n,ds,ks,d,v,rfl,e,fl,hk,ca,hn,rv,ek,el,ed,q'⟩:=h
  obtain⟨tF,pF,qF⟩:Yn (X0 Ye P w K mg base ["self","edge"] "Floor.faces_at" (Zg V4) f cdv A outer s H E).nox E0 _ _:=Xa G1 (hr.mono (by decide)) m1 k1 b1 (Za (Mf 0 oc na1) (Za (Zw (Zb 1)) (Za (Zw (Zb 1)) (Za (Zw (Zb 1)) Ze))))
  refine⟨_,Qg (Ar (Ziw (O1 (Zgq hr.units) (Z9 (i:=1) rfl (.inl rfl) (by decide) (by decide)) (Ui (Z9 (i:=0) rfl (.inl rfl) (by decide) (by decide)) rfl)) (by rfl)) (Y9 (Zfi (Zgq hr.units) (Ui (Z9 (i:=0) rfl (.inl rfl) (by decide) (by decide)) rfl) (Z9 (i:=1) rfl (.inl rfl) (by decide) (by decide)) pF rfl)) Gd) (Y9 (Nl (Zfh (Zgq hr.units) (Ui (Z9 (i:=0) rfl (.inl rfl) (by decide) (by decide)) rfl) (Z9 (i:=1) rfl (.inl rfl) (by decide) (by decide)) (fun _ _=>rfl)))),?_⟩
  obtain⟨C',dx,gs,dq,ys,c1,c2,c3,c4,c5⟩:=id fl
  rw[oc.at_] at c1
  cases c1
  obtain⟨cc,zs,h1,h2,h3,h4⟩:=ca
  obtain⟨b,rfl,hb⟩:=Bj ek e rv
  match ds,el with
  |[d0,d1,d2],_=>
  refine⟨_,rfl,_,rfl,a,C,dx,gs,.ref k,rfl,e _ _ c2,oc.cls,na2,c3.kn,k,_,rfl,DGet.t h1 hb,_,rfl,?_⟩
  cases eg:Yu cc ks with
  |some d'=>
   obtain⟨v',ev,rv'⟩:=h2.get ks eg
   have:=h4 _ _ _ ek eg
   rw[ed] at this
   cases this
   rw[ev]
   rw[if_neg (by simp)]
   refine⟨_,rfl,a,C,dx,gs,.ref k,rfl,e _ _ c2,oc.cls,na2,c3.kn,_,rfl,k,v',rfl,by rw[<-ev];exact DGet.t h1 hb,?_⟩
   exact q' v' Hf H (GrM.refl e) ⟨cc,zs,h1,h2,by lia,h4⟩ rv'
  |none=>
   rw[h2.none ks eg,if_pos (by rfl)]
   have sr:=Wj (K:=K) (N:=["self","edge"]) (ss:=[.fl a g q,.im (.tup [d0,d1,d2])]) (vs:=[.ref a,.ref b]) (m:=0) e (.cons ⟨rfl,fl.fl⟩ (.cons ⟨rfl,rv⟩ .nil)) rfl
   refine qF H _ Hf _ _ H _ sr ?_
   have ef:(Z5 Qp (Zc (Ri 0) (Zc 1[0]! (Zc 1[1]! (Zc 1[2]! Zk))))) [some (.fl a g q),some (.im (.tup [d0,d1,d2]))]=.ok d:=by
    show(match Qp [g,d0,d1,d2] with | .ok s=>s.toD|_=>M.bad)=.ok d
    exact Zkj ed
   rw[show([DL.S.fl a g q,DL.S.im (.tup [d0,d1,d2])].map some++List.replicate 0 none)=[some (.fl a g q),some (.im (.tup [d0,d1,d2]))] from rfl,ef]
   intro v1 Hf1 H1 g1 rv1
   have hs1:H1 k=some (.dT zs):=g1.all _ _ h1
   have hz:zs.length<sizeLine:=by lia
   refine⟨_,rfl,a,C,dx,gs,.ref k,rfl,g1.all _ _ (e _ _ c2),oc.cls,na2,c3.kn,_,rfl,k,_,rfl,DPut.t hs1 (g1.all _ _ hb) hz,?_⟩
   have hk1:Hf1 k=none:=g1.ban k ⟨_,h1,fun _ q=>by cases q⟩ hk
   have nka:a≠k:=fun z=>by rw[z,hk] at c2;cases c2
   have nkb:b≠k:=fun z=>by rw[z,h1] at hb;cases hb
   refine⟨_,rfl,a,C,dx,gs,.ref k,rfl,(Zj nka).trans (g1.all _ _ (e _ _ c2)),oc.cls,na2,c3.kn,_,rfl,k,v1,rfl,?_,?_⟩
   ·have:=DGet.t (H:=upd H1 k (.dT (Jg zs ks v1))) (a:=k) (k:=ks) Zo ((Zj nkb).trans (g1.all _ _ hb))
    rw[L2.Zbu,if_pos rfl] at this
    exact this
   ·refine q' v1 Hf1 _ ⟨g1.fz,fun x u hx=>?_,fun x u hx hu=>(Zj hx).trans (g1.all _ _ hu),g1.ban⟩ ⟨Zcg cc ks d,_,Zo,(h2.mono g1.fz).put ks rv1,?_,fun ds' ks' d' e1 e2=>?_⟩ rv1
    ·rw[Zj (Zu hx hk1)];exact g1.sub _ _ hx
    ·have:=K6 zs ks v1
     lia
    ·rw[Zc9 eg] at e2
     split at e2
     ·rename_i ee
      subst ee
      cases e2
      rw[Me e1 ek]
      exact ed
     ·exact h4 _ _ _ e1 e2
end
section
variable {P:Program}{w:World}{K:PySem.W.Frag}{mg:Str->Option Value}{base:Heap}
def C7:FnScope ["floor","across","upward","now"] ["floor","across","upward","now"] (Zg Wz):=⟨rfl,rfl,rfl,by decide +kernel,rfl,by decide +kernel,by decide +kernel⟩
noncomputable def F_thing_at:List S->M D:=Zmw 4
 (Zh8 (tA (DL.tB (Zp Jq (Q2 1 "Track" "due") (Zd 3))) (DL.tB (Zp Jq (Q2 2 "Track" "due") (Zd 3))))
  (D0 (DL.tB (Z5 Vf (Zc (Ri 0) (Zc (Xk 1 "Track" "line_ahead" Qi Zk) (Zc (Xk 2 "Track" "line_ahead" Qi Zk) Zk))))) ↑"corner" (eC .non))
 (Zh8 (DL.tB (Zp Jq (Q2 1 "Track" "due") (Zd 3)))
  (Wk Qp F_face_ahead 1 (Qv (Zc ↑"up" (Zc (Xk 1 "Track" "line_ahead" Qi Zk) (Zc (Q2 2 "Track" "square") Zk)))))
 (Zh8 (DL.tB (Zp Jq (Q2 2 "Track" "due") (Zd 3)))
  (Wk Qp F_face_ahead 2 (Qv (Zc ↑"flat" (Zc (Q2 1 "Track" "square") (Zc (Xk 2 "Track" "line_ahead" Qi Zk) Zk)))))
 (eC .non))))
def C8 {f:Addr}{fd:FuncData}{C CF:Addr} (F:Fun K "thing_at" "thing_at" Wz f fd) (tc:TkC K C) (oc:ObC K "Floor" CF) (na1:NoAttr K CF "hall") {f1 f2 f3 f4:Addr}{fd1 fd2 fd3 fd4:FuncData}
  (m1:Meth K C "line_ahead" f1) (G1:FnOk P w K mg base Ye 1 f1 fd1 ["self"] (Pu K Qi)) (b1:Binds K fd1 ["self"] [])
  (G2:FnOk P w K mg base Ye 3 f2 fd2 ["hall","x","y"] (Tl K Vf)) (b2:Binds K fd2 ["hall","x","y"] []) (k2:PySem.W.keepIn K (.ref f2)=true) (m2:mg "is_corner"=some (.ref f2))
  (m3:Meth K CF "faces_at" f3) (G3:FnOk P w K mg base Ye 3 f3 fd3 ["self","edge"] (Zki K Qp)) (b3:Binds K fd3 ["self","edge"] [])
  (G4:FnOk P w K mg base Ye 1 f4 fd4 ["track","pair"] (Pu K F_face_ahead)) (b4:Binds K fd4 ["track","pair"] []) (k4:PySem.W.keepIn K (.ref f4)=true) (m4:mg "face_ahead"=some (.ref f4)):
  FnOk P w K mg base Ye 4 f fd ["floor","across","upward","now"] (Zgg K Qp F_thing_at):=
 Zo6 F C7 rfl fun cdv A outer s H E hr=>
  (E4 ((Vw (Zz (Yt hr.units) (Ql 1 tc.oc tc.n4) (Zb 3) (Z0 _)) (Vm (Zz (Yt hr.units) (Ql 2 tc.oc tc.n4) (Zb 3) (Z0 _))))).pt
   (Hy (Ko (Xq (Xa G2 (hr.mono (by decide)) m2 k2 b2 (Za (Mf 0 oc na1) (Za (Kh 1 tc.oc m1 G1 (hr.mono (by decide)) b1) (Za (Kh 2 tc.oc m1 G1 (hr.mono (by decide)) b1) Ze))))) Qu X7))
  (E4 (Zz (Yt hr.units) (Ql 1 tc.oc tc.n4) (Zb 3) (Z0 _))
   (Cv 1 oc m3 G3 (hr.mono (by decide)) b3 G4 (hr.mono (by decide)) m4 k4 b4 (Qf (Za Qu (Za (Kh 1 tc.oc m1 G1 (hr.mono (by decide)) b1) (Za (Ql 2 tc.oc tc.n2) Ze)))))
  (E4 (Zz (Yt hr.units) (Ql 2 tc.oc tc.n4) (Zb 3) (Z0 _))
   (Cv 2 oc m3 G3 (hr.mono (by decide)) b3 G4 (hr.mono (by decide)) m4 k4 b4 (Qf (Za Qu (Za (Ql 1 tc.oc tc.n2) (Za (Kh 2 tc.oc m1 G1 (hr.mono (by decide)) b1) Ze)))))
  (Hy X7))))
end
abbrev Zgr:=List (List Yh×D)
def Pc (a a1 a2:Addr)(g:D)(q:Zgr)(pt st mo wt:D)(r1 r2:Qm)(tn:List D)(t8 t9 t10 t11:Option S):Zf:=
 [some (.fl a g q),some (.im pt),some (.im st),some (.im mo),some (.im wt),some (.ob a1 "Track" r1),some (.ob a2 "Track" r2),some (.ow tn),t8,t9,t10,t11]
noncomputable def Fd:Zf->M D:=Sn F_person_ahead (Vp 0 (Vp 5 (Vp 6 (Gv (Zd 4) Mb))))
noncomputable def Zks:Zf->M D:=Vl Zc7 (Zc (Q2 5 "Track" "due") (Zc (Q2 6 "Track" "due") (Zc (Zd 4) Zk)))
noncomputable def Ib:Zf->M D:=Hc 7 (Z5 Xy (Zc (Zd 10) (Zc (Zp Jq (Zd 9) (Zd 4)) (Zc (Zp Tq (Vl Tr (Zc (Zd 7) Zk)) (Zd 3)) Zk))))
noncomputable def Vg:Zf->M D:=Qv (Zc (Xk 5 "Track" "place_at" Q7 (Zc (Zd 9) Zk)) (Zc (Xk 6 "Track" "place_at" Q7 (Zc (Zd 9) Zk)) Zk))
noncomputable def Zgs:Zf->M Bool:=DL.tB (Zp Jq (Zd 10) ↑"m")
noncomputable def S5 (a a1 a2:Addr)(g:D)(q:Zgr)(pt st mo wt:D):Nat->Qm->Qm->List D->M D
 |0,_,_,_=>.bad
 |n+1,r1,r2,tn=>
  (Fd (Pc a a1 a2 g q pt st mo wt r1 r2 tn none none none none)).bind fun p=>if p.isN=true then
   (Zks (Pc a a1 a2 g q pt st mo wt r1 r2 tn none none none none)).bind fun now=>
   (F_thing_at [.fl a g q,.ob a1 "Track" r1,.ob a2 "Track" r2,.im now]).bind fun th=>
   (Ib (Pc a a1 a2 g q pt st mo wt r1 r2 tn none (some (.im now)) (some (.im th)) none)).bind fun wd=>if wd.isN=true then
    (Zgs (Pc a a1 a2 g q pt st mo wt r1 r2 tn none none (some (.im th)) none)).bind fun b=>
    (if b=true then(Vg (Pc a a1 a2 g q pt st mo wt r1 r2 tn none (some (.im now)) none none)).bind fun pl=>if few tn=true then .ok (tn++[pl]) else .bad else .ok tn).bind fun tn'=>
    (match F_pass_line r1 [now,th],F_pass_line r2 [now,th] with
    |some r1',some r2'=>S5 a a1 a2 g q pt st mo wt n r1' r2' tn'
    |_,_=>.bad)
   else(Vg (Pc a a1 a2 g q pt st mo wt r1 r2 tn none (some (.im now)) none none)).bind fun pl=>.ok (.tup [wd,pl,.lst tn])
  else .ok (.tup [.str (Str.ofString "person"),p,.lst tn])
noncomputable def fW (a a1 a2:Addr)(g:D)(q:Zgr)(pt st mo:D):M D:=
 (Z5 Y3 (Zc (Zd 0) (Zc (Zd 1) Zk)) [some (.im pt),some (.im st)]).bind fun wt=>
 (Zc 0[0]! (Zc 1[0]! (Zc (Zd 2) Zk)) [some (.im pt),some (.im st),some (.im wt)]).bind fun l1=>
 (Zc 0[1]! (Zc 1[1]! (Zc (Zd 2) Zk)) [some (.im pt),some (.im st),some (.im wt)]).bind fun l2=>
 match Jd [] l1,Jd [] l2 with
 |some r1,some r2=>S5 a a1 a2 g q pt st mo wt 3000 r1 r2 []
 |_,_=>.bad
def Zo8 (K:PySem.W.Frag)(F:Addr->Addr->Addr->D->Zgr->D->D->D->M D):Sp:=fun vs H Q _=>∃Hf a g q k pt st mo d rest m,vs=.ref a::rest/\Same Hf H/\FlK K Hf a g q k/\Hf k=none/\CaAt K (V0 Qp g) m Hf H k/\m+3000<=16000000/\Reps K Hf [pt,st,mo] rest/\(∀a1 a2,F a a1 a2 g q pt st mo=.ok d) /\
 ∀v' Hf' H',GrM k Hf H Hf' H'->CaAt K (V0 Qp g) (m+3000) Hf' H' k->Rep K Hf' d v'->Q v' H'
def Zgt:Stmt->List Stmt
 |.While _ b _ _=>b
 |_=>[]
abbrev wA (i:Nat):Stmt:=(Yy Qt).getD i (.Pass ⟨0,0,0,0⟩)
abbrev wB (i:Nat):Stmt:=(Zgt (wA 4)).getD i (.Pass ⟨0,0,0,0⟩)
def G8 {i:Nat}{f:Zf->M O}{sd:Zf}{p:D}(h:sd[i]?=some (some (.im p))):Jw (DL.tB (Zp J3 (Zd i) (eC .non))) f Y7 sd=if p.isN=true then .ok (.nx sd) else f sd:=by
 have e:DL.tB (Zp J3 (Zd i) (eC .non)) sd=.ok (!p.isN):=by
  unfold DL.tB Zp Zd eC
  rw[h]
  cases p<;>rfl
 unfold Jw
 rw[e]
 cases p.isN<;>rfl
def S6 {f:Zf->M D}{g:Zf->M (List D)}{sd:Zf}{d:D}{l:List D}(h1:f sd=.ok d)(h2:g sd=.ok l):Zc f g sd=.ok (d::l):=by
 unfold Zc
 rw[h1]
 show M.bind (g sd) _=_
 rw[h2]
 rfl
def Pl (t:Option S):Prop:=∀s,t=some s->∃d,s=.im d
def Xg:Pl none:=fun _ h=>by cases h
def Q4 {d:D}:Pl (some (.im d)):=fun _ h=>by cases h;exact⟨d,rfl⟩
def Pd {a a1 a2:Addr}{g:D}{q:Zgr}{pt st mo wt:D}{r1 r2:Qm}{tn:List D}{t8 t9 t10 t11:Option S}(h8:Pl t8)(h9:Pl t9)(h10:Pl t10)(h11:Pl t11){i:Nat}{t:S}(h:(Pc a a1 a2 g q pt st mo wt r1 r2 tn t8 t9 t10 t11)[i]?=some (some t)):
  (i=0/\t=.fl a g q)\/(i=5/\t=.ob a1 "Track" r1)\/(i=6/\t=.ob a2 "Track" r2)\/t=.ow tn\/∃d,t=.im d:=by
 match i,h with
 |0,h=>cases h;exact .inl ⟨rfl,rfl⟩
 |1,h=>cases h;exact .inr (.inr (.inr (.inr ⟨_,rfl⟩)))
 |2,h=>cases h;exact .inr (.inr (.inr (.inr ⟨_,rfl⟩)))
 |3,h=>cases h;exact .inr (.inr (.inr (.inr ⟨_,rfl⟩)))
 |4,h=>cases h;exact .inr (.inr (.inr (.inr ⟨_,rfl⟩)))
 |5,h=>cases h;exact .inr (.inl ⟨rfl,rfl⟩)
 |6,h=>cases h;exact .inr (.inr (.inl ⟨rfl,rfl⟩))
 |7,h=>cases h;exact .inr (.inr (.inr (.inl rfl)))
 |8,h=>exact .inr (.inr (.inr (.inr (h8 t (Option.some.inj h)))))
 |9,h=>exact .inr (.inr (.inr (.inr (h9 t (Option.some.inj h)))))
 |10,h=>exact .inr (.inr (.inr (.inr (h10 t (Option.some.inj h)))))
 |11,h=>exact .inr (.inr (.inr (.inr (h11 t (Option.some.inj h)))))
 |i+12,h=>cases h
section
variable {a a1 a2:Addr}{g:D}{q:Zgr}{pt st mo wt:D}{r1 r2:Qm}{tn:List D}{t8 t9 t10 t11:Option S}
def B8 (h8:Pl t8)(h9:Pl t9)(h10:Pl t10)(h11:Pl t11)(i:Nat)(t:S)(h:(Pc a a1 a2 g q pt st mo wt r1 r2 tn t8 t9 t10 t11)[i]?=some (some t))(o:t.own=true):∃ds,t=.ow ds:=by
 rcases Pd h8 h9 h10 h11 h with⟨_,rfl⟩|⟨_,rfl⟩|⟨_,rfl⟩|rfl|⟨d,rfl⟩
 ·cases o
 ·cases o
 ·cases o
 ·exact⟨_,rfl⟩
 ·cases o
def Zm1 (h8:Pl t8)(h9:Pl t9)(h10:Pl t10)(h11:Pl t11)(n1:a≠a1)(n2:a2≠a1)(i:Nat)(t:S)(hi:i≠5)(h:(Pc a a1 a2 g q pt st mo wt r1 r2 tn t8 t9 t10 t11)[i]?=some (some t)):t.adr≠some a1/\∀z,t≠.xc z:=by
 rcases Pd h8 h9 h10 h11 h with⟨_,rfl⟩|⟨e,rfl⟩|⟨_,rfl⟩|rfl|⟨d,rfl⟩
 ·exact⟨fun z=>n1 (Option.some.inj z),fun _ z=>by cases z⟩
 ·exact absurd e hi
 ·exact⟨fun z=>n2 (Option.some.inj z),fun _ z=>by cases z⟩
 ·exact⟨(fun z=>by cases z),(fun _ z=>by cases z)⟩
 ·exact⟨(fun z=>by cases z),(fun _ z=>by cases z)⟩
def Zm2 (h8:Pl t8)(h9:Pl t9)(h10:Pl t10)(h11:Pl t11)(n1:a≠a2)(n2:a1≠a2)(i:Nat)(t:S)(hi:i≠6)(h:(Pc a a1 a2 g q pt st mo wt r1 r2 tn t8 t9 t10 t11)[i]?=some (some t)):t.adr≠some a2/\∀z,t≠.xc z:=by
 rcases Pd h8 h9 h10 h11 h with⟨_,rfl⟩|⟨_,rfl⟩|⟨e,rfl⟩|rfl|⟨d,rfl⟩
 ·exact⟨fun z=>n1 (Option.some.inj z),fun _ z=>by cases z⟩
 ·exact⟨fun z=>n2 (Option.some.inj z),fun _ z=>by cases z⟩
 ·exact absurd e hi
 ·exact⟨(fun z=>by cases z),(fun _ z=>by cases z)⟩
 ·exact⟨(fun z=>by cases z),(fun _ z=>by cases z)⟩
end
def WI (K:PySem.W.Frag)(H Hf:Hp)(a a1 a2 k:Addr)(g:D)(q:Zgr)(pt st mo wt d:D)(m0 n:Nat)(σ':L2.St)(H':Hp):Prop:=
 ∃Hf' r1 r2 tn t8 t9 t10 t11 m,Same Hf Hf'/\SR K (Gb H k) (fun b=>Lv (Gb H k) b/\Hf b=none) Hf' (Pc a a1 a2 g q pt st mo wt r1 r2 tn t8 t9 t10 t11) σ' H'/\Hf' k=none/\CaAt K (V0 Qp g) m Hf' H' k/\m+n<=m0+3000/\Pl t8/\Pl t9/\Pl t10/\Pl t11/\S5 a a1 a2 g q pt st mo wt n r1 r2 tn=.ok d
section
variable {P:Program}{w:World}{K:PySem.W.Frag}{mg:Str->Option Value}{base:Heap}
abbrev Xh:List Str:=["floor","point","step","most","whole_time","across","upward","turns","person","now","thing","word"]
def sc_walk_on:FnScope Xh ["floor","point","step","most"] (Zg Qt):=⟨rfl,rfl,rfl,by decide +kernel,rfl,by decide +kernel,by decide +kernel⟩
def Fe {f:Addr}{fd:FuncData}{C CF:Addr} (F:Fun K "walk_on" "walk_on" Qt f fd) (tc:TkC K C) (oc:ObC K "Floor" CF) {f1 f2 f3 f4 f5 f6 f7:Addr}{fd1 fd2 fd3 fd4 fd5 fd6 fd7:FuncData}
  (G1:FnOk P w K mg base Ye 1 f1 fd1 ["point","step"] (Tl K Y3)) (b1:Binds K fd1 ["point","step"] []) (k1:PySem.W.keepIn K (.ref f1)=true) (m1:mg "whole_time_of"=some (.ref f1))
  (Mk2:Mk K C f2) (G2:FnOk P w K mg base Ye 2 f2 fd2 ["self","begin","part","whole_time"] (P7 K C Jd)) (b2:Binds K fd2 ["self","begin","part","whole_time"] []) (m2:mg "Track"=some (.ref C))
  (G3:FnOk P w K mg base Ye 5 f3 fd3 ["floor","across","upward","whole_time"] (Pu K F_person_ahead)) (b3:Binds K fd3 ["floor","across","upward","whole_time"] []) (k3:PySem.W.keepIn K (.ref f3)=true) (m3:mg "person_ahead"=some (.ref f3))
  (G4:FnOk P w K mg base Ye 4 f4 fd4 ["floor","across","upward","now"] (Zgg K Qp F_thing_at)) (b4:Binds K fd4 ["floor","across","upward","now"] []) (k4:PySem.W.keepIn K (.ref f4)=true) (m4:mg "thing_at"=some (.ref f4))
  (G5:FnOk P w K mg base Ye 1 f5 fd5 ["thing","is_over","may_turn"] (Tl K Xy)) (b5:Binds K fd5 ["thing","is_over","may_turn"] []) (k5:PySem.W.keepIn K (.ref f5)=true) (m5:mg "how_it_ends"=some (.ref f5))
  (m6:Meth K C "place_at" f6) (G6:FnOk P w K mg base Ye 3 f6 fd6 ["self","time"] (Pu K Q7)) (b6:Binds K fd6 ["self","time"] [])
  (G7:FnOk P w K mg base Ye 2 f7 fd7 ["track","now","thing"] (P7 K C F_pass_line)) (b7:Binds K fd7 ["track","now","thing"] []) (k7:PySem.W.keepIn K (.ref f7)=true) (m7:mg "pass_line"=some (.ref f7))
  (z_min:mg "min"=none) (z_len:mg "len"=none):
  FnOk P w K mg base Ye 6 f fd ["floor","point","step","most"] (Zo8 K fW):=by
 refine F.ok sc_walk_on (fun vs H Q E h=>?_) (fun cdv A outer s H vs Q E hr h=>?_)
 ·obtain⟨Hf,a,g,q,k,pt,st,mo,d,rest,m,rfl,_,_,_,_,_,rs,_⟩:=h
  have:=rs.length
  rw[List.length_cons,<-this]
  rfl
 ·obtain⟨Hf,a,g,q,k,pt,st,mo,d,rest,m0,rfl,e,fl,hk,ck,hm0,rs,hF,kk⟩:=h
  obtain⟨tT,pT,qT⟩:Ls (X0 Ye P w K mg base Xh "walk_on" (Zg Qt) f cdv A outer s H E).nox E0 _ (DL.tB (eC (.bl true))):=Xq F6
  obtain⟨t1,p1,q1⟩:Ga (X0 Ye P w K mg base Xh "walk_on" (Zg Qt) f cdv A outer s H E).nox E0 (wA 0) _:=Zr 4 sc_walk_on.nd (Xa G1 (hr.mono (by decide)) m1 k1 b1 (Za (Zb 1) (Za (Zb 2) Ze)))
  obtain⟨t2,p2,q2⟩:Tp (X0 Ye P w K mg base Xh "walk_on" (Zg Qt) f cdv A outer s H E).nox E0 _ _:=Za (Zw (Zb 1)) (Za (Zw (Zb 2)) (Za (Zb 4) Ze))
  obtain⟨t3,p3,q3⟩:Tp (X0 Ye P w K mg base Xh "walk_on" (Zg Qt) f cdv A outer s H E).nox E0 _ _:=Za (Zw (Zb 1)) (Za (Zw (Zb 2)) (Za (Zb 4) Ze))
  obtain⟨t4,p4,q4⟩:Ga (X0 Ye P w K mg base Xh "walk_on" (Zg Qt) f cdv A outer s H E).nox E0 (wA 3) _:=J2 7 sc_walk_on.nd (Vb Ze)
  obtain⟨t5,p5,q5⟩:Ga (X0 Ye P w K mg base Xh "walk_on" (Zg Qt) f cdv A outer s H E).nox E0 (wB 0) (Z4 8 Fd):=Zr 8 sc_walk_on.nd (Cq G3 (hr.mono (by decide)) m3 k3 b3 (J9 0 (J9 5 (J9 6 (Wi (Zb 4) Rh)))))
  obtain⟨t6,p6,q6⟩:Ga (X0 Ye P w K mg base Xh "walk_on" (Zg Qt) f cdv A outer s H E).nox E0 (wB 1) _:=Qw (Zz N2 (Zb 8) X7 (Z0 _)) (Rf 7 (Zn (Zv (Qf (Za Qu (Za (Zb 8) (Za (Zb 7) Ze))))))) Qh
  obtain⟨t7,p7,q7⟩:Ga (X0 Ye P w K mg base Xh "walk_on" (Zg Qt) f cdv A outer s H E).nox E0 (wB 2) (Z4 9 Zks):=Zr 9 sc_walk_on.nd (Q6 (Zgf rfl) (by rfl) z_min (by rfl) (Za (Ql 5 tc.oc tc.n4) (Za (Ql 6 tc.oc tc.n4) (Za (Zb 4) Ze))))
  obtain⟨t8,p8,q8⟩:Zh7 (X0 Ye P w K mg base Xh "walk_on" (Zg Qt) f cdv A outer s H E).nox E0 _ _:=J9 0 (J9 5 (J9 6 (Wi (Zb 9) Rh)))
  obtain⟨t9,p9,q9⟩:Ga (X0 Ye P w K mg base Xh "walk_on" (Zg Qt) f cdv A outer s H E).nox E0 (wB 4) (Z4 11 Ib):=Zr 11 sc_walk_on.nd (Zfx 7 (Xa G5 (hr.mono (by decide)) m5 k5 b5 (Za (Zb 10) (Za (Jr (Yt hr.units) (Zb 9) (Zb 4) (Z0 _)) (Za (Jr Gg (Q6 Bd (by rfl) z_len (by rfl) (Za (Zb 7) Ze)) (Zb 3) (Z0 _)) Ze)))))
  obtain⟨t10,p10,q10⟩:Ga (X0 Ye P w K mg base Xh "walk_on" (Zg Qt) f cdv A outer s H E).nox E0 (wB 5) (Jw _ (Ce 7 (Q0 (Qv (Zc (Zd 11) (Zc Vg (Zc (Zd 7) Zk)))))) Y7):=Qw (Zz N2 (Zb 11) X7 (Z0 _)) (Rf 7 (Zn (Zv (Qf (Za (Zb 11) (Za (Qf (Za (Uv 5 tc.oc m6 G6 (hr.mono (by decide)) b6 (Za (Zb 9) Ze)) (Za (Uv 6 tc.oc m6 G6 (hr.mono (by decide)) b6 (Za (Zb 9) Ze)) Ze))) (Za (Zb 7) Ze))))))) Qh
  obtain⟨t11,p11,q11⟩:Ga (X0 Ye P w K mg base Xh "walk_on" (Zg Qt) f cdv A outer s H E).nox E0 (wB 6) (Jw Zgs (Ur 7 Vg) Y7):=Qw (Zz (Yt hr.units) (Zb 10) Qu (Z0 _)) (Zn (Wg 7 (Qf (Za (Uv 5 tc.oc m6 G6 (hr.mono (by decide)) b6 (Za (Zb 9) Ze)) (Za (Uv 6 tc.oc m6 G6 (hr.mono (by decide)) b6 (Za (Zb 9) Ze)) Ze))))) Qh
  refine⟨_,Qg p1 (Qg (Kl sc_walk_on.nd (i:=5) rfl (.inl rfl) (M5 (dvs:=[]) (E:=E0) Mk2 G2 (hr.mono (by decide)) (by rfl) m2 b2 .nil Jl p2) rfl (.inl rfl))
   (Qg (Kl sc_walk_on.nd (i:=6) rfl (.inl rfl) (M5 (dvs:=[]) (E:=E0) Mk2 G2 (hr.mono (by decide)) (by rfl) m2 b2 .nil Jl p3) rfl (.inl rfl))
   (Qg p4 (Y9 (As PassesOwn.never pT
    (Qg p5 (Qg p6 (Qg p7
    (Qg (Kl sc_walk_on.nd (i:=10) rfl (.inl rfl) (Jy (dvs:=[]) (E:=E0) G4 (hr.mono (by decide)) (by rfl) m4 k4 b4 .nil Jl p8) rfl (.inl rfl))
    (Qg p9 (Qg p10 (Qg p11
    (Qg (U8 (Jy (dvs:=[]) (E:=E0) G7 (hr.mono (by decide)) (by rfl) m7 k7 b7 .nil Jl (Qk (Z9 (i:=5) rfl (.inl rfl) (by decide) (by decide)) (Qk (Z9 (i:=9) rfl (.inl rfl) (by decide) (by decide)) (Qk (Z9 (i:=10) rfl (.inl rfl) (by decide) (by decide)) Xz rfl) rfl) rfl)) rfl)
    (Y9 (U8 (Jy (dvs:=[]) (E:=E0) G7 (hr.mono (by decide)) (by rfl) m7 k7 b7 .nil Jl (Qk (Z9 (i:=6) rfl (.inl rfl) (by decide) (by decide)) (Qk (Z9 (i:=9) rfl (.inl rfl) (by decide) (by decide)) (Qk (Z9 (i:=10) rfl (.inl rfl) (by decide) (by decide)) Xz rfl) rfl) rfl)) rfl))))))))))))))),?_⟩
  have hF0:=hF 0 0
  unfold fW at hF0
  obtain⟨wt,ew,hF0⟩:=bind_ok hF0
  obtain⟨l1,el1,hF0⟩:=bind_ok hF0
  obtain⟨l2,el2,hF0⟩:=bind_ok hF0
  split at hF0
  case h_2=>cases hF0
  rename_i r1 r2 er1 er2
  have hL:∀a1 a2,S5 a a1 a2 g q pt st mo wt 3000 r1 r2 []=.ok d:=fun a1 a2=>by
   have h:=hF a1 a2
   unfold fW at h
   rw[ew] at h
   simp only[M.bind] at h
   rw[el1] at h
   simp only[M.bind] at h
   rw[el2] at h
   simp only[M.bind] at h
   rw[er1,er2] at h
   exact h
  clear hF0 hF
  have hlen:=rs.length
  have sr0:=Wj (K:=K) (N:=Xh) (ss:=[.fl a g q,.im pt,.im st,.im mo]) (vs:=.ref a::rest) (m:=8) e (.cons ⟨rfl,fl.fl⟩ (Bq rs)) rfl
  refine q1 _ _ _ _ _ _ _ sr0 (Kv (Rj ew) fun σ1 Hf1 H1 s1 sr1=>?_)
  refine Zdc (i:=5) q2 sr1 el1 rfl er1 tc.oc.at_ fun a1 σ2 Hf2 H2 s2 n1 sr2=>?_
  refine Zdc (i:=6) q3 sr2 el2 rfl er2 tc.oc.at_ fun a2 σ3 Hf3 H3 s3 n2 sr3=>?_
  refine q4 _ _ _ _ _ _ _ sr3 (Kv (show _=M.ok (O.nx _) from rfl) fun σ4 Hf4 H4 s4 sr4=>?_)
  have na1:H a1=none:=none_of sr1.all n1
  have na2:H a2=none:=none_of sr2.all n2
  have fa1:Hf a1=none:=none_of e na1
  have fa2:Hf a2=none:=none_of e na2
  have n12:a1≠a2:=fun z=>by
   obtain⟨v,y1,C'',dx'',gs'',rfl,y2,y3,y4⟩:=sr2.imS 5 (.ob a1 "Track" r1) rfl rfl
   rw[z] at y3
   rw[sr2.sub _ _ y3] at n2
   cases n2
  obtain⟨x0,x1,x2,x3,x4,x5,x6,x7⟩:=id fl
  have nA1:a≠a1:=fun z=>by rw[z,fa1] at x6;cases x6
  have nA2:a≠a2:=fun z=>by rw[z,fa2] at x6;cases x6
  have lk:Lv H k:=ck.lv
  have w0:WI K H Hf a a1 a2 k g q pt st mo wt d m0 3000 σ4 H4:=⟨Hf4,r1,r2,[],none,none,none,none,m0,s1.trans (s2.trans (s3.trans s4)),sr4.less (Ks H k) fun b hb=>⟨⟨(Ks H k).lv hb.1,hb.2⟩,hb.1⟩,sr4.ban k ⟨lk,hk⟩,
   ck.mono (s1.trans (s2.trans (s3.trans s4))) (fun o z=>sr4.all _ _ z),Nat.le_refl _,Xg,Xg,Xg,Xg,hL a1 a2⟩
  refine⟨WI K H Hf a a1 a2 k g q pt st mo wt d m0,⟨_,w0⟩,fun n σ5 H5 hW=>?_⟩
  clear w0 sr0 sr1 sr2 sr3 sr4 s1 s2 s3 s4 hL er1 er2 n1 n2
  obtain⟨Hf5,r1,r2,tn,t8,t9,t10,t11,m,s5,sr5,hk5,ca5,hm,h8,h9,h10,h11,hl⟩:=hW
  cases n with
  |zero=>cases hl
  |succ n=>
  refine qT _ _ _ _ _ _ _ sr5 ?_
  show Po K E0 rQ Hf5 H5 (M.ok true) _
  intro v Hf6 H6 g6 rv
  have ev:true=v:=rv
  subst ev
  rw[if_pos rfl]
  refine⟨WI K H Hf a a1 a2 k g q pt st mo wt d m0 n,fun σ' H' w=>⟨n,Nat.lt_succ_self n,w⟩,?_⟩
  have sr6:=sr5.gr g6
  have hk6:Hf6 k=none:=g6.ban k ca5.lv hk5
  have ca6:=ca5.mono g6.fz (fun o z=>g6.all _ _ z)
  have s6:=s5.trans g6.fz
  clear sr5 ca5 hk5 s5 g6
  unfold S5 at hl
  obtain⟨p,ep,hl⟩:=bind_ok hl
  obtain⟨c6,y6,hc6,rc6,lc6,gc6⟩:=id ca6
  have srk:=sr6.keep hc6 ca6.lv hk6 (sr6.offD hc6 (B8 h8 h9 h10 h11))
  refine q5 _ _ _ _ _ _ _ srk (Kv (Rj ep) fun σ7 Hf7 H7 s7 sr7=>?_)
  have sr7:SR K _ _ Hf7 (Pc a a1 a2 g q pt st mo wt r1 r2 tn (some (.im p)) t9 t10 t11) σ7 H7:=sr7
  refine q6 _ _ _ _ _ _ _ sr7 ?_
  by_cases hp:p.isN=true
  case neg=>
   rw[if_neg hp] at hl
   cases hl
   refine Zda (d:=.tup [.str (Str.ofString "person"),p,.lst tn]) ?_ fun v Hf' H' s fin rv=>kk v Hf' H' (Zdb (s6.trans (s7.trans s)) fin) ⟨c6,y6,fin.all _ _ Zo,rc6.mono (s7.trans s),by lia,gc6⟩ rv
   rw[G8 (p:=p) rfl,if_neg hp]
   rfl
  rw[if_pos hp] at hl
  obtain⟨now,en,hl⟩:=bind_ok hl
  obtain⟨th,eth,hl⟩:=bind_ok hl
  obtain⟨wd,ewd,hl⟩:=bind_ok hl
  refine Kv (by rw[G8 (p:=p) rfl,if_pos hp]) fun σ8 Hf8 H8 s8 sr8=>?_
  refine q7 _ _ _ _ _ _ _ sr8 (Kv (Rj en) fun σ9 Hf9 H9 s9 sr9=>?_)
  have sr9:SR K _ _ Hf9 (Pc a a1 a2 g q pt st mo wt r1 r2 tn (some (.im p)) (some (.im now)) t10 t11) σ9 H9:=sr9
  obtain⟨hc9,hk9,sr9⟩:=sr9.back (Kt H k) fun b hb=>hb.1
  have s69:=s6.trans (s7.trans (s8.trans s9))
  have ca9:CaAt K (V0 Qp g) m Hf9 H9 k:=⟨c6,y6,hc9,rc6.mono (s7.trans (s8.trans s9)),lc6,gc6⟩
  clear srk sr6 sr7 sr8 ca6 hk6 hc6 rc6
  refine q8 _ _ _ _ _ _ _ sr9 ?_
  show Po K E0 (Zmt K) Hf9 H9 (M.ok [.fl a g q,.ob a1 "Track" r1,.ob a2 "Track" r2,.im now]) _
  intro vs Hf10 H10 g10 rs10
  show Zgg K Qp F_thing_at (vs++[]) H10 _ E0
  rw[List.append_nil]
  have ca10:=ca9.mono g10.fz (fun o z=>g10.all _ _ z)
  have hk10:Hf10 k=none:=g10.ban k ca9.lv hk9
  have sr10:=sr9.gr g10
  have s10:=s69.trans g10.fz
  refine⟨Hf10,_,a,g,q,k,m,th,rfl,g10.sub,rs10,fl.mono s10,hk10,ca10,by rw[sizeLine_eq];lia,eth,fun v' Hf11 H11 gm ca11 rv'=>?_⟩
  have hk11:Hf11 k=none:=gm.ban k ca10.lv hk10
  obtain⟨c10,y10,hc10,_⟩:=id ca10
  have sr11:SR K _ _ Hf11 (Pc a a1 a2 g q pt st mo wt r1 r2 tn (some (.im p)) (some (.im now)) (some (.im th)) t11) _ H11:=(sr10.grM gm (Kt H k) (sr10.offD hc10 (B8 Q4 Q4 h10 h11))).set_im 10 rv'
  have s11:=s10.trans gm.fz
  clear sr9 sr10 ca9 ca10 hk9 hk10 s69 s10 rs10 gm hc9 g10 hc10 rv'
  obtain⟨c6,y6,hc6,rc6,lc6,gc6⟩:=id ca11
  have srk:=sr11.keep hc6 ca11.lv hk11 (sr11.offD hc6 (B8 Q4 Q4 Q4 h11))
  refine q9 _ _ _ _ _ _ _ srk (Kv (Rj ewd) fun σ12 Hf12 H12 s12 sr12=>?_)
  have sr12:SR K _ _ Hf12 (Pc a a1 a2 g q pt st mo wt r1 r2 tn (some (.im p)) (some (.im now)) (some (.im th)) (some (.im wd))) σ12 H12:=sr12
  refine q10 _ _ _ _ _ _ _ sr12 ?_
  by_cases hw:wd.isN=true
  case neg=>
   rw[if_neg hw] at hl
   obtain⟨pl,epl,hl⟩:=bind_ok hl
   cases hl
   refine Zda (d:=.tup [wd,pl,.lst tn]) ?_ fun v Hf' H' s fin rv=>kk v Hf' H' (Zdb (s11.trans (s12.trans s)) fin) ⟨c6,y6,fin.all _ _ Zo,rc6.mono (s12.trans s),by lia,gc6⟩ rv
   rw[G8 (p:=wd) rfl,if_neg hw]
   have e3:=S6 (f:=Zd 11) (g:=Zc Vg (Zc (Zd 7) Zk)) (sd:=frz 7 (Pc a a1 a2 g q pt st mo wt r1 r2 tn (some (.im p)) (some (.im now)) (some (.im th)) (some (.im wd)))) (d:=wd) rfl (S6 (d:=pl) epl (S6 (d:=.lst tn) (l:=[]) rfl rfl))
   unfold Ce Q0 Qv
   rw[e3]
   rfl
  rw[if_pos hw] at hl
  obtain⟨b,eb,hl⟩:=bind_ok hl
  obtain⟨tn',etn,hl⟩:=bind_ok hl
  split at hl
  case h_2=>cases hl
  rename_i r1' r2' er1 er2
  refine Kv (by rw[G8 (p:=wd) rfl,if_pos hw]) fun σ13 Hf13 H13 s13 sr13=>?_
  refine q11 _ _ _ _ _ _ _ sr13 (Kv (sd':=Pc a a1 a2 g q pt st mo wt r1 r2 tn' (some (.im p)) (some (.im now)) (some (.im th)) (some (.im wd))) ?_ fun σ14 Hf14 H14 s14 sr14=>?_)
  ·have eb':Zgs (Pc a a1 a2 g q pt st mo wt r1 r2 tn (some (.im p)) (some (.im now)) (some (.im th)) (some (.im wd)))=.ok b:=eb
   unfold Jw
   rw[eb']
   cases b with
   |false=>cases etn;rfl
   |true=>
    rw[if_pos rfl] at etn
    obtain⟨pl,epl,etn⟩:=bind_ok etn
    split at etn
    ·rename_i hfew
     cases etn
     have e2:Vg (Pc a a1 a2 g q pt st mo wt r1 r2 tn (some (.im p)) (some (.im now)) (some (.im th)) (some (.im wd)))=.ok pl:=epl
     show(Vg (Pc a a1 a2 g q pt st mo wt r1 r2 tn (some (.im p)) (some (.im now)) (some (.im th)) (some (.im wd)))).bind (fun d=>if few tn=true then _ else _)=_
     rw[e2]
     show(if few tn=true then _ else _)=_
     rw[if_pos hfew]
     rfl
    ·cases etn
  obtain⟨hc14,hk14,sr14⟩:=sr14.back (Kt H k) fun b hb=>hb.1
  have s6_14:=s11.trans (s12.trans (s13.trans s14))
  have ca14:CaAt K (V0 Qp g) (m+1) Hf14 H14 k:=⟨c6,y6,hc14,rc6.mono (s12.trans (s13.trans s14)),lc6,gc6⟩
  clear srk sr11 sr12 sr13 ca11 hk11 hc6 rc6
  refine Zh9 (i:=5) (i1:=9) (i2:=10) sr14 rfl (Zm1 Q4 Q4 Q4 Q4 nA1 n12.symm) tc.oc.at_ (none_of (Ks H k) na1) er1 (by decide) (by decide) rfl rfl hk14 ca14 fun Hf15 H15 s15 sr15 hk15 ca15=>?_
  have sr15:SR K _ _ Hf15 (Pc a a1 a2 g q pt st mo wt r1' r2 tn' (some (.im p)) (some (.im now)) (some (.im th)) (some (.im wd))) _ H15:=sr15
  refine Zh9 (i:=6) (i1:=9) (i2:=10) sr15 rfl (Zm2 Q4 Q4 Q4 Q4 nA2 n12) tc.oc.at_ (none_of (Ks H k) na2) er2 (by decide) (by decide) rfl rfl hk15 ca15 fun Hf16 H16 s16 sr16 hk16 ca16=>?_
  exact⟨Hf16,r1',r2',tn',_,_,_,_,m+1,s16 Hf (s15 Hf s6_14 fa1) fa2,sr16,hk16,ca16,by lia,Q4,Q4,Q4,Q4,hl⟩
end
noncomputable def Zn2:Zf->M D:=Qv (Zc (Z5 Yv (Zc 3[0]! Zk)) (Zc (Z5 Yv (Zc 3[1]! Zk)) Zk))
noncomputable def Ic (p:D):Option (List Yh):=match Zn2 [none,none,none,some (.im p),none] with
 |.ok (.tup ds)=>Kr ds
 |_=>none
noncomputable def Zdl:Nj->List D->Option Nj
 |acc,[]=>some acc
 |acc,p::r=>match Ic p with
  |some ks=>Zdl (Uf ks p acc) r
  |none=>none
theorem G9 (f:Str)(v:V):∀fs:List (Str×V),(Yc f v fs).length<=fs.length+1
 |[]=>Nat.le_refl _
 |(g,x)::r=>by
  unfold Yc
  split
  ·simp
  ·have:=G9 f v r
   simp only[List.length_cons]
   lia
section
variable {P:Program}{w:World}{K:PySem.W.Frag}{mg:Str->Option Value}{base:Heap}
abbrev Zn3:List Str:=["self","hall","people","person","square"]
def sc_Floor_init:FnScope Zn3 ["self","hall","people"] (Zg Kd):=⟨rfl,rfl,rfl,by decide +kernel,rfl,by decide +kernel,by decide +kernel⟩
def Zlm (hall:D)(ppl:List D)(t3 t4:Option S):Zf:=[none,some (.im hall),some (.im (.lst ppl)),t3,t4]
def Pe {hall:D}{ppl:List D}{t3 t4:Option S}(h3:Pl t3)(h4:Pl t4){σ:L2.St}{b:Addr}:Zll (Zlm hall ppl t3 t4) σ b:=by
 intro i t h o
 have:∃d,t=.im d:=by
  match i,h with
  |0,h=>cases h
  |1,h=>cases h;exact⟨_,rfl⟩
  |2,h=>cases h;exact⟨_,rfl⟩
  |3,h=>exact h3 t (Option.some.inj h)
  |4,h=>exact h4 t (Option.some.inj h)
  |i+5,h=>cases h
 obtain⟨d,rfl⟩:=this
 cases o
def FI (K:PySem.W.Frag)(CF dx x k d:Addr)(gs:List (Str×V))(H Hf:Hp)(hall:D)(ppl:List D)(q:Nj)(i m:Nat)(σ':L2.St)(H':Hp):Prop:=
 m=ppl.length-i/\i<=ppl.length/\∃Hf' t3 t4 ys acc,Same Hf Hf'/\SR K (Gb H x) (fun b=>Lv (Gb H x) b/\Hf b=none) Hf' (Zlm hall ppl t3 t4) σ' H'/\Pl t3/\Pl t4/\σ'[0]?=some (some (.ref x))/\Hf' x=none/\H' x=some (.ins CF dx gs)/\H' k=some (.dT [])/\Hf' k=none /\
  H' d=some (.dT ys)/\Hf' d=none/\OwnL K (Gb H x) Hf' H' acc ys/\acc.length<=i/\(∀p∈acc,p.2.length<=i)/\Zdl acc (ppl.drop i)=some q
def T9 {f:Addr}{fd:FuncData}{CF:Addr} (F:Fun K "__init__" "Floor.__init__" Kd f fd) (oc:ObC K "Floor" CF) (na1:NoAttr K CF "hall") (na2:NoAttr K CF "known_faces") (na3:NoAttr K CF "by_square") {f1:Addr}{fd1:FuncData}
  (G1:FnOk P w K mg base Ye 1 f1 fd1 ["place"] (Tl K Yv)) (b1:Binds K fd1 ["place"] []) (k1:PySem.W.keepIn K (.ref f1)=true) (m1:mg "square_of"=some (.ref f1)):
  FnOk P w K mg base Ye 2 f fd ["self","hall","people"] (Zmx K CF (Zdl [])):=by
 refine F.ok sc_Floor_init (fun vs H Q E h=>?_) (fun cdv A outer s H vs Q E hr h=>?_)
 ·obtain⟨Hf,x,dx,hall,ppl,q,vh,vp,rfl,_⟩:=h
  rfl
 ·obtain⟨Hf,x,dx,hall,ppl,q,vh,vp,rfl,e,hfx,hx,rh,rp,hlen,hq,kk⟩:=h
  obtain⟨tk,pk,qk⟩:Yn (X0 Ye P w K mg base Zn3 "Floor.__init__" (Zg Kd) f cdv A outer s H E).nox E0 _ Zn2:=Qf (Za (Xa G1 (hr.mono (by decide)) m1 k1 b1 (Za (Zw (Zb 3)) Ze)) (Za (Xa G1 (hr.mono (by decide)) m1 k1 b1 (Za (Zw (Zb 3)) Ze)) Ze))
  refine⟨_,Qg (M1 (Z9 (i:=0) rfl (.inl rfl) (by decide) (by decide)) (Z9 (i:=1) rfl (.inl rfl) (by decide) (by decide)) rfl)
   (Qg (M1 (Z9 (i:=0) rfl (.inl rfl) (by decide) (by decide)) A3 rfl)
   (Qg (M1 (Z9 (i:=0) rfl (.inl rfl) (by decide) (by decide)) A3 rfl)
   (Y9 (Rt PassesOwn.never rfl (Fz (Z9 (i:=2) rfl (.inl rfl) (by decide) (by decide))) (Ge (i:=3) sc_Floor_init.nd rfl (.inl rfl) (.inl rfl))
    (Qg (Kl sc_Floor_init.nd (i:=4) rfl (.inl rfl) pk rfl (.inl rfl))
    (Y9 (U8 (Zbt PySem.F.plainAttrs_list PySem.F.slot_list_append PySem.F.type_list_append Wa (Zde (Zgq hr.units) (Ui (Z9 (i:=0) rfl (.inl rfl) (by decide) (by decide)) rfl) (Z9 (i:=4) rfl (.inl rfl) (by decide) (by decide)) (D7 Xz) ⟨rfl,rfl,rfl,rfl⟩) (Qk (Z9 (i:=3) rfl (.inl rfl) (by decide) (by decide)) Xz rfl)) rfl))))))),?_⟩
  obtain⟨ap,xs,rfl,hap,rxs⟩:=rep_lst.mp rp
  have st:=Md (K:=K) (N:=Zn3) (C:=CF) (Hf:=Hf) (H:=H) (r:=[]) (ds:=[hall,.lst ppl]) (a:=x) (vs:=[vh,.ref ap]) (m:=2) e hfx ⟨dx,[],hx,.nil⟩ (Reps.cons rh (Reps.cons rp Reps.nil)) rfl
  have sr0:SR K (Gb H x) (fun b=>Lv (Gb H x) b/\Hf b=none) Hf (Zlm hall ppl none none) (Xu Zn3 [.ref x,vh,.ref ap]) H:=st.sr
  refine⟨vh,rfl,.ref x,rfl,x,CF,dx,[],rfl,hx,oc.cls,na1,by decide,?_⟩
  have sr1:=sr0.mut (b:=x) (o:=.ins CF dx (Yc "hall" vh [])) (Kt H x) hfx (Pe Xg Xg)
  intro k hk
  have xk:x≠k:=by rintro rfl;rw[Zo] at hk;cases hk
  have hk0:H k=none:=by rw[Zj xk.symm] at hk;exact hk
  refine⟨.ref x,rfl,x,CF,dx,_,rfl,(Zj xk).trans Zo,oc.cls,na2,by have:=G9 "hall" vh [];simp only[List.length_nil] at this;lia,?_⟩
  have sr2:=sr1.gr (Gr.new sr1.sub hk (.dT []))
  have sr3:=sr2.mut (b:=x) (o:=.ins CF dx (Yc "known_faces" (.ref k) (Yc "hall" vh []))) (Kt H x) hfx (Pe Xg Xg)
  intro d hd
  have xd:x≠d:=by rintro rfl;rw[Zo] at hd;cases hd
  have kd:k≠d:=by rintro rfl;rw[Zj xk.symm,Zo] at hd;cases hd
  have hd0:H d=none:=by rw[Zj xd.symm,Zj kd.symm,Zj xd.symm] at hd;exact hd
  refine⟨.ref x,rfl,x,CF,dx,_,rfl,(Zj xd).trans Zo,oc.cls,na3,by have:=G9 "hall" vh [];have:=G9 "known_faces" (.ref k) (Yc "hall" vh []);simp only[List.length_nil] at *;lia,?_⟩
  have sr4:=sr3.gr (Gr.new sr3.sub hd (.dT []))
  have sr5:=sr4.mut (b:=x) (o:=.ins CF dx (Yc "by_square" (.ref d) (Yc "known_faces" (.ref k) (Yc "hall" vh [])))) (Kt H x) hfx (Pe Xg Xg)
  have g1:(Yc "by_square" (.ref d) (Yc "known_faces" (.ref k) (Yc "hall" vh []))).lookup ("hall":Str)=some vh:=by
   rw[Qj,if_neg (by decide),Qj,if_neg (by decide),Qj,if_pos rfl]
  have g2:(Yc "by_square" (.ref d) (Yc "known_faces" (.ref k) (Yc "hall" vh []))).lookup ("by_square":Str)=some (.ref d):=by rw[Qj,if_pos rfl]
  have g3:(Yc "by_square" (.ref d) (Yc "known_faces" (.ref k) (Yc "hall" vh []))).lookup ("known_faces":Str)=some (.ref k):=by rw[Qj,if_neg (by decide),Qj,if_pos rfl]
  have g4:(Yc "by_square" (.ref d) (Yc "known_faces" (.ref k) (Yc "hall" vh []))).lookup ("people_at":Str)=none:=by
   rw[Qj,if_neg (by decide),Qj,if_neg (by decide),Qj,if_neg (by decide)];rfl
  have g5:(Yc "by_square" (.ref d) (Yc "known_faces" (.ref k) (Yc "hall" vh []))).lookup ("faces_at":Str)=none:=by
   rw[Qj,if_neg (by decide),Qj,if_neg (by decide),Qj,if_neg (by decide)];rfl
  generalize Yc "by_square" (.ref d) (Yc "known_faces" (.ref k) (Yc "hall" vh []))=gs at *
  refine⟨.ref ap,rfl,ap,rfl,⟨xs,sr5.sub.seq hap⟩,FI K CF dx x k d gs H Hf hall ppl q,⟨_,rfl,Nat.zero_le _,Hf,none,none,[],[],Same.refl _,sr5,Xg,Xg,rfl,hfx,Zo,?_,none_of e hk0,?_,none_of e hd0,⟨.nil,by simp⟩,Nat.le_refl _,(fun _ h=>by cases h),hq⟩,fun i m σ' H' hI=>?_⟩
  ·rw[Zj xk.symm,Zj kd,Zj xk.symm,Zo]
  ·rw[Zj xd.symm,Zo]
  clear sr0 sr1 sr2 sr3 sr4 sr5 st hk hd
  obtain⟨rfl,hi,Hf',t3,t4,ys,acc,s',sr,h3,h4,σ0,fx,Hx,Hk,fk,Hd,fdd,own,la,ll,hb⟩:=hI
  have sq:SqL K H' ap xs:=sr.sub.seq (s'.seq hap)
  have lx:=rxs.length
  by_cases hlt:i<ppl.length
  case neg=>
   have ei:i=ppl.length:=by lia
   left
   refine⟨⟨xs,sq,by lia⟩,?_⟩
   rw[ei,List.drop_length] at hb
   cases hb
   have nS:∀b,Lv H b->b≠x->¬(b=x\/b=d\/∃p∈ys,p.2=V.ref b):=fun b hb hx' z=>by
    rcases z with z|z|⟨p,z1,z2⟩
    ·exact hx' z
    ·rw[z] at hb;exact hb.nn hd0
    ·obtain⟨y,_,a',xs',e2,_,_,e5,_⟩:=Kc own.1 z1
     rw[z2] at e2
     cases e2
     rw[X9 hx'] at e5
     exact hb.nn e5
   refine kk (Zeu Hf' H' fun b=>b=x\/b=d\/∃p∈ys,p.2=V.ref b) H' k (s'.trans Su) (Zgh sr.sub) (fun b u hb hu=>sr.all b u ((X9 hb).trans hu)) (fun b hl hf hne=>?_) ?_ ?_ Hk hk0
   ·obtain⟨o,o1,o2⟩:=id hl
    exact Cw (nS b hl hne) (sr.ban b ⟨⟨o,(X9 hne).trans o1,o2⟩,hf⟩)
   ·have sm:=s'.trans (Su (Hf:=Hf') (H:=H') (S:=fun b=>b=x\/b=d\/∃p∈ys,p.2=V.ref b))
    refine⟨CF,dx,gs,d,ys,oc.at_,E5 sr.sub (.inl rfl) Hx,⟨⟨vh,g1,rh.mono sm⟩,g2,g3,g4,g5⟩,E5 sr.sub (.inr (.inl rfl)) Hd,?_⟩
    have:∀{l:Nj}{l':List (List Yh×V)},Paired (OwnP K (Gb H x) Hf' H') l l'->(∀p∈l',p∈ys)->RepKV K (Zeu Hf' H' fun b=>b=x\/b=d\/∃p∈ys,p.2=V.ref b) (qD l) l':=by
     intro l l' hl hm
     induction hl with
     |nil=>exact .nil
     | @cons y z r r' hp ht ih=>
      obtain⟨e1,a',xs',e2,e3,e4,e5,e6⟩:=hp
      refine .cons ⟨e1,?_⟩ (ih fun p hp=>hm p (List.mem_cons_of_mem _ hp))
      show Rep K _ (.lst y.2) z.2
      rw[e2]
      exact rep_lst.mpr ⟨a',xs',rfl,SqL.of (E5 sr.sub (.inr (.inr ⟨z,hm z (List.mem_cons_self ..),e2⟩)) e3),e6.mono Su⟩
    exact this own.1 fun _ h=>h
   ·refine Cw (fun z=>?_) fk
    rcases z with z|z|⟨p,z1,z2⟩
    ·exact xk z.symm
    ·exact kd z
    ·obtain⟨y,_,a',xs',e2,e3,_⟩:=Kc own.1 z1
     rw[z2] at e2
     cases e2
     rw[Hk] at e3
     cases e3
  right
  have hb':Zdl acc (ppl[i]::ppl.drop (i+1))=some q:=by rw[<-List.drop_eq_getElem_cons hlt];exact hb
  unfold Zdl at hb'
  split at hb'
  case h_2=>cases hb'
  rename_i ks eks
  unfold Ic at eks
  split at eks
  case h_2=>cases eks
  rename_i ds eds
  obtain⟨y,ey,ry⟩:=rxs.get (List.getElem?_eq_getElem hlt)
  refine⟨⟨xs,y,sq,ey⟩,FI K CF dx x k d gs H Hf hall ppl q (i+1) (ppl.length-(i+1)),fun σ' H' w=>⟨_,by lia,w⟩,fun v H'' hy=>?_⟩
  obtain⟨rfl,hy⟩:=hy
  have ev:=hy _ sq
  rw[ey] at ev
  cases ev
  have ry':=ry.mono s'
  have sr1:SR K _ _ Hf' (Zlm hall ppl (some (.im ppl[i])) t4) _ H'':=sr.set_im 3 ry'
  refine qk _ _ _ _ _ _ _ sr1 ?_
  rw[show Zn2 (Zlm hall ppl (some (.im ppl[i])) t4)=.ok (.tup ds) from eds]
  intro v4 Hf2 H2 g6 rv4
  have sr2:SR K _ _ Hf2 (Zlm hall ppl (some (.im ppl[i])) (some (.im (.tup ds)))) _ H2:=(sr1.gr g6).set_im 4 rv4
  obtain⟨b,rfl,hb4⟩:=Bj eks g6.sub rv4
  have own2:=own.gr g6
  have hsz:=sizeLine_eq
  have lk:Lv H'' k:=⟨_,Hk,fun _ q=>by cases q⟩
  have ldd:Lv H'' d:=⟨_,Hd,fun _ q=>by cases q⟩
  have lys:=Paired.length own.1
  obtain⟨w3,sw3,rw3⟩:=sr2.im 3 ppl[i] rfl
  obtain⟨w4,sw4,rw4⟩:=sr2.im 4 (.tup ds) rfl
  obtain⟨b',rfl,hb4⟩:=Bj eks sr2.sub rw4
  have σ0':(List.set (List.set σ' 3 (some y)) 4 (some (V.ref b)))[0]?=some (some (.ref x)):=by rw[List.getElem?_set_ne (by decide),List.getElem?_set_ne (by decide)];exact σ0
  refine⟨.ref x,σ0',x,CF,dx,gs,.ref d,rfl,g6.all _ _ Hx,oc.cls,na3,g2,d,rfl,.inr ⟨ys,.inl (g6.all _ _ Hd)⟩,_,sw4,?_⟩
  refine⟨Nat.zero_le _,fun pl hpl=>?_⟩
  have own3:=own2.gr (Gr.new sr2.sub hpl (.lst []))
  have sr3:=sr2.gr (Gr.new sr2.sub hpl (.lst []))
  have nx:x≠pl:=fun z=>by rw[<-z,g6.all _ _ Hx] at hpl;cases hpl
  have nk:k≠pl:=fun z=>by rw[<-z,g6.all _ _ Hk] at hpl;cases hpl
  have nd:d≠pl:=fun z=>by rw[<-z,g6.all _ _ Hd] at hpl;cases hpl
  have nb:b'≠pl:=fun z=>by rw[<-z,hb4] at hpl;cases hpl
  have Hx3:upd H2 pl (.lst []) x=some (.ins CF dx gs):=(Zj nx).trans (g6.all _ _ Hx)
  have Hk3:upd H2 pl (.lst []) k=some (.dT []):=(Zj nk).trans (g6.all _ _ Hk)
  have Hd3:upd H2 pl (.lst []) d=some (.dT ys):=(Zj nd).trans (g6.all _ _ Hd)
  have s2:=s'.trans g6.fz
  have fx2:Hf2 x=none:=g6.ban x (Sq Hx) fx
  have fk2:Hf2 k=none:=g6.ban k lk fk
  have fd2:Hf2 d=none:=g6.ban d ldd fdd
  refine⟨ys,ks,b',rfl,Hd3,(Zj nb).trans hb4,by lia,fun v ev=>?_,fun en=>?_⟩
  ·obtain⟨a',xs1,rfl,e3,e4,e5,⟨pp,g1',g2'⟩,fut⟩:=own3.there ev
   have l1:=ll pp g1'
   refine⟨.inl ⟨rfl,xs1,SqL.of e3⟩,w3,sw3,a',xs1,w3,rfl,rfl,e3,by lia,?_⟩
   have n1:x≠a':=fun z=>by rw[<-z,Hx3] at e3;cases e3
   have n2:k≠a':=fun z=>by rw[<-z,Hk3] at e3;cases e3
   have n3:d≠a':=fun z=>by rw[<-z,Hd3] at e3;cases e3
   exact⟨rfl,hlt,Hf2,_,_,ys,Uf ks ppl[i] acc,s2,sr3.mut e5 e4 (Pe Q4 Q4),Q4,Q4,σ0',fx2,(Zj n1).trans Hx3,(Zj n2).trans Hk3,fk2,(Zj n3).trans Hd3,fd2,⟨fut _ _ rw3,own3.2⟩,by have:=Ss (ks:=ks) (p:=ppl[i]) (acc:=acc);lia,N8 ll,hb'⟩
  ·have epl:upd (upd H2 pl (.lst [])) d (.dT (Jg ys ks (.ref pl))) pl=some (.lst []):=(Zj nd.symm).trans Zo
   refine⟨.inl ⟨rfl,[],SqL.of epl⟩,w3,sw3,pl,[],w3,rfl,rfl,epl,by rw[sizeLine_eq];decide,?_⟩
   have h0:Gb H x pl=none:=none_of sr2.all hpl
   have hfp:Hf2 pl=none:=none_of sr2.sub hpl
   have eH:upd (upd (upd H2 pl (.lst [])) d (.dT (Jg ys ks (.ref pl)))) pl (.lst ([]++[w3]))=upd (upd H2 d (.dT (Jg ys ks (.ref pl)))) pl (.lst [w3]):=by
    funext c
    by_cases c1:c=pl
    ·subst c1;rw[Zo,Zo];rfl
    ·rw[Zj c1,Zj c1]
     by_cases c2:c=d
     ·subst c2;rw[Zo,Zo]
     ·rw[Zj c2,Zj c2,Zj c1]
   have sr4:=(sr3.mut (b:=d) (o:=.dT (Jg ys ks (.ref pl))) (none_of (Ks H x) hd0) fd2 (Pe Q4 Q4)).mut (b:=pl) (o:=.lst ([]++[w3])) h0 hfp (Pe Q4 Q4)
   refine⟨rfl,hlt,Hf2,_,_,Jg ys ks (.ref pl),Uf ks ppl[i] acc,s2,sr4,Q4,Q4,σ0',fx2,?_,?_,fk2,?_,fd2,?_,by have:=Ss (ks:=ks) (p:=ppl[i]) (acc:=acc);lia,N8 ll,hb'⟩
   ·rw[Zj nx,Zj xd];exact Hx3
   ·rw[Zj nk,Zj kd];exact Hk3
   ·rw[Zj nd,Zo]
   ·rw[eH]
    exact own2.new en (g6.all _ _ Hd) hpl h0 hfp rw3
end
section
variable {P:Program}{w:World}{K:PySem.W.Frag}{mg:Str->Option Value}{base:Heap}
noncomputable def Yj:List D->M S:=Ug 3 7
  (Zx (Z4 3 (Zp Zt 0[1]! 1[1]!))
   (Zx (Z4 4 (Zp Zt 0[0]! 1[1]!))
   (Zx (Z4 5 (Zp Zt 1[0]! 0[1]!))
   (Zx (Z4 6 (Zp Zt (Zd 2) (Zd 3)))
   (Zx (Z4 7 (Wo Zk))
   (Zx (Jm (Vn (Qv (Zc (Zd 5) (Zc (Eo P6 (Zd 5)) Zk)))) (X4 8) (Zx (Z4 9 (Zp Vt (Zp Yd (Zp Qe (Zp Vt (Zd 8) (Zd 4)) (Zd 6)) (Zp Zt ↑2 (Zd 3))) (Zd 6)))
   (Z4 7 (Zp Qe (Zd 7) (Zkq (Zc (Zd 9) (Zc (Zp Qe (Zd 6) ↑1) (Zc (Zp Zt ↑2 (Zd 3)) Zk))))))))
   (Zcl (Uq (Vn (Vl Re (Zc (Zd 7) Zk))) 1 [3] (X4 0) (Z5 Jc (Zc (Zd 0) (Zc (Zd 1) Zk)))))))))))
def sc_parts_to_images:FnScope ["one","other","reach","bottom","begin","end","farthest","tops","image","least"] ["one","other","reach"] (Zg Q3):=⟨rfl,rfl,rfl,by decide +kernel,rfl,by decide +kernel,by decide +kernel⟩
def W4 (d:Dm K mg "parts_to_images" Q3) (c_amount:Cl P w K mg base 2 "amount" ["top","bottom"] Jc) (z_list:mg "list"=none) (z_range:mg "range"=none) (z_sorted:mg "sorted"=none):Cl P w K mg base 3 "parts_to_images" ["one","other","reach"] Yj:=
 d.cl (by trivial) fun _ _ F=>Jh F sc_parts_to_images rfl rfl fun cdv A outer s H E hr=>
  (Zh (Zr 3 sc_parts_to_images.nd (Zs Z2 (Zw (Zb 0)) (Zw (Zb 1))))
   (Zh (Zr 4 sc_parts_to_images.nd (Zs Z2 (Zw (Zb 0)) (Zw (Zb 1))))
   (Zh (Zr 5 sc_parts_to_images.nd (Zs Z2 (Zw (Zb 1)) (Zw (Zb 0))))
   (Zh (Zr 6 sc_parts_to_images.nd (Zs Z2 (Zb 2) (Zb 3)))
   (Zh (Zr 7 sc_parts_to_images.nd (Vu Ze))
   (Zh (Xe PassesOwn.never rfl (X8 (Qf (Za (Zb 5) (Za (Ci N4 (Zb 5)) Ze)))) (Qd 8 sc_parts_to_images.nd) (Zh (Zr 9 sc_parts_to_images.nd (Zs Js (Zs Yl (Zs Qo (Zs Js (Zb 8) (Zb 4)) (Zb 6)) (Zs Z2 Zi (Zb 3))) (Zb 6)))
   (Zn (Zr 7 sc_parts_to_images.nd (Zs Qo (Zb 7) (Zkr rfl z_list z_range (Za (Zb 9) (Za (Zs Qo (Zb 6) Zi) (Za (Zs Z2 Zi (Zb 3)) Ze)))))))))
   (Zn (Zcm (Sb (Nc:=["top","bottom"]) rfl (Wv (fun y hy hf=>Jk (Bl (sc:=Zg Q3) (by decide +kernel) y hy hf))) (Zj2 (sc:=Zg Q3) rfl rfl (by decide +kernel) (Bl (by decide +kernel)) (fun y hy hf=>Jk (Bl (sc:=Zg Q3) (by decide +kernel) y hy hf)) rfl (Bm (N:=["one","other","reach","bottom","begin","end","farthest","tops","image","least"]) rfl (by decide +kernel))) rfl (by decide +kernel) (by decide +kernel) (Wf (by decide)) (X8 (Q6 O6 (by rfl) z_sorted (by rfl) (Za (Zb 7) Ze))) (fun s3 H3 C ex=>Qd 0 (show(["top","bottom"]:List Str).Nodup by decide +kernel)) (fun s3 H3 C ex=>(Qa c_amount (hr.mono (by decide)) (Za (Zb 0) (Za (Zb 1) Ze)))))))))))))
noncomputable def Xi:List D->M S:=Ug 4 4
  (Zx (Nz 4 (Tu Zk))
   (Zx (Z4 5 (Z5 Yj (Zc 0[1]! (Zc 1[1]! (Zc (Zd 3) Zk)))))
   (Zx (Jm (Vn (Z5 Yj (Zc 0[0]! (Zc 1[0]! (Zc (Zd 2) Zk))))) (X4 6) (Jm (Vn (Zd 5)) (X4 7) (Jw (tB (Eo (Zad 0 1 0 1) (Qv (Zc (Zd 6) (Zc (Zd 7) Zk))))) (Ur 4 (Qv (Zc (Zd 6) (Zc (Zd 7) Zk)))) Y7)))
   (L1 4))))
def sc_steps_to_images:FnScope ["one","other","reach_across","reach_upward","steps","parts_upward","dx","dy"] ["one","other","reach_across","reach_upward"] (Zg Jb):=⟨rfl,rfl,rfl,by decide +kernel,rfl,by decide +kernel,by decide +kernel⟩
def W5 (d:Dm K mg "steps_to_images" Jb) (c_parts_to_images:Cl P w K mg base 3 "parts_to_images" ["one","other","reach"] Yj) {at_NO_STEP:Addr} (mt_NO_STEP:mg "NO_STEP"=some (.ref at_NO_STEP)) (tb_NO_STEP:Ma K at_NO_STEP 0 1 0 1=true):Cl P w K mg base 4 "steps_to_images" ["one","other","reach_across","reach_upward"] Xi:=
 d.cl (by trivial) fun _ _ F=>Jh F sc_steps_to_images rfl rfl fun cdv A outer s H E hr=>
  (Zh (J2 4 sc_steps_to_images.nd (Vb Ze))
   (Zh (Zr 5 sc_steps_to_images.nd (Qa c_parts_to_images (hr.mono (by decide)) (Za (Zw (Zb 0)) (Za (Zw (Zb 1)) (Za (Zb 3) Ze)))))
   (Zh (Xe PassesOwn.never rfl (X8 (Qa c_parts_to_images (hr.mono (by decide)) (Za (Zw (Zb 0)) (Za (Zw (Zb 1)) (Za (Zb 2) Ze))))) (Qd 6 sc_steps_to_images.nd) (Zn (Xe PassesOwn.never rfl (X8 (Zb 5)) (Qd 7 sc_steps_to_images.nd) (Zn (Qw (Zf9 hr.units mt_NO_STEP tb_NO_STEP (Qf (Za (Zb 6) (Za (Zb 7) Ze)))) (Zn (Wg 4 (Qf (Za (Zb 6) (Za (Zb 7) Ze))))) Qh)))))
   (Zn (Us 4)))))
noncomputable def Na:List D->M S:=Ug 2 0
  (Q0 (Ts (Zp Jq 0[0]! ↑"end") (Zp Jq 0[1]! (Zd 1))))
def Zak:FnScope ["told","person"] ["told","person"] (Zg Sw):=⟨rfl,rfl,rfl,by decide +kernel,rfl,by decide +kernel,by decide +kernel⟩
def Zal (d:Dm K mg "is_way" Sw)  : Cl P w K mg base 1 "is_way" ["told","person"] Na:=
 d.cl (by trivial) fun _ _ F=>Jh F Zak rfl rfl fun cdv A outer s H E hr=>
  (Zn (Zv (Be (Jr (Yt hr.units) (Zw (Zb 0)) Qu (Z0 _)) (Ef (Jr (Yt hr.units) (Zw (Zb 0)) (Zb 1) (Z0 _))))))
end
open Classical in
noncomputable def wD (hall:D)(q:Nj)(pt st mo:D):M D:=if h:∃d,∀a a1 a2,fW a a1 a2 hall (qD q) pt st mo=.ok d then .ok h.choose else .bad
def Zm3 {hall pt st mo d:D}{q:Nj}(h:wD hall q pt st mo=.ok d)(a a1 a2:Addr):fW a a1 a2 hall (qD q) pt st mo=.ok d:=by
 unfold wD at h
 split at h
 ·rename_i hh
  cases h
  exact hh.choose_spec a a1 a2
 ·cases h
def Zm4 {hall pt st mo d:D}{q:Nj}(h:∀a a1 a2,fW a a1 a2 hall (qD q) pt st mo=.ok d):wD hall q pt st mo=.ok d:=by
 have hh:∃d,∀a a1 a2,fW a a1 a2 hall (qD q) pt st mo=.ok d:=⟨d,h⟩
 unfold wD
 rw[dif_pos hh,<-hh.choose_spec 0 0 0]
 exact h 0 0 0
def Tm (hall:D)(ppl:List D)(one other most:D)(fl fo t7 t8:Option S):Zf:=[some (.im hall),some (.im (.lst ppl)),some (.im one),some (.im other),some (.im most),fl,fo,t7,t8]
noncomputable def iY:Zf->M (List D):=Vn (Z5 Xi (Zc (Zp Km (Zd 1) (Zd 2)) (Zc (Zp Km (Zd 1) (Zd 3)) (Zc (Zp Zt (Zp Qe (Zd 4) ↑1) 0[0]!) (Zc (Zp Zt (Zp Qe (Zd 4) ↑1) 0[1]!) Zk)))))
noncomputable def tY:Zf->M Bool:=DL.tB (Z5 Na (Zc (Zd 8) (Zc (Zp Km (Zd 1) (Zd 3)) Zk)))
def Zdm:Zf->M D:=Qv (Zc 7[0]! (Zc 7[1]! (Zc 8[2]! Zk)))
noncomputable def Ub (hall:D)(ppl:List D)(q:Nj)(one other most:D):List D->List D->M (List D)
 |[],fo=>.ok fo
 |st::r,fo=>(Km (.lst ppl) one).bind fun pt=>(wD hall q pt st most).bind fun d=>
  (tY (Tm hall ppl one other most none none (some (.im st)) (some (.im d)))).bind fun b=>
  if b=true then(Zdm (Tm hall ppl one other most none none (some (.im st)) (some (.im d)))).bind fun row=>if few fo=true then Ub hall ppl q one other most r (fo++[row]) else .bad
  else Ub hall ppl q one other most r fo
noncomputable def F_ways:List D->M S
 |[hall,.lst ppl,one,other,most]=>(match Zdl [] ppl with
  |some q=>if ppl.length<=1000000 then(iY (Tm hall ppl one other most none none none none)).bind fun steps=>if steps.length<=5000 then(Ub hall ppl q one other most steps []).bind fun fo=>.ok (.ow fo) else .bad else .bad
  |none=>.bad)
 |_=>.bad
def Mi {ds:List D}{s:S}(h:F_ways ds=.ok s):∃hall ppl one other most q steps fo,ds=[hall,.lst ppl,one,other,most]/\Zdl [] ppl=some q/\ppl.length<=1000000/\iY (Tm hall ppl one other most none none none none)=.ok steps/\steps.length<=5000/\Ub hall ppl q one other most steps []=.ok fo/\s=.ow fo:=by
 unfold F_ways at h
 split at h
 ·rename_i hall ppl one other most
  split at h
  ·rename_i q hq
   split at h
   ·rename_i hl
    obtain⟨steps,e1,h⟩:=bind_ok h
    split at h
    ·rename_i hs
     obtain⟨fo,e2,h⟩:=bind_ok h
     cases h
     exact⟨hall,ppl,one,other,most,q,steps,fo,rfl,hq,hl,e1,hs,e2,rfl⟩
    ·cases h
   ·cases h
  ·cases h
 ·cases h
def Id {hall:D}{ppl:List D}{one other most:D}{a:Addr}{g:D}{kv:Zgr}{fo:List D}{t7 t8:Option S}(h7:Pl t7)(h8:Pl t8)(i:Nat)(t:S)(h:(Tm hall ppl one other most (some (.fl a g kv)) (some (.ow fo)) t7 t8)[i]?=some (some t))(o:t.own=true):∃ds,t=.ow ds:=by
 match i,h with
 |0,h=>cases h;cases o
 |1,h=>cases h;cases o
 |2,h=>cases h;cases o
 |3,h=>cases h;cases o
 |4,h=>cases h;cases o
 |5,h=>cases h;cases o
 |6,h=>cases h;exact⟨_,rfl⟩
 |7,h=>obtain⟨d,rfl⟩:=h7 t (Option.some.inj h);cases o
 |8,h=>obtain⟨d,rfl⟩:=h8 t (Option.some.inj h);cases o
 |i+9,h=>cases h
section
variable {P:Program}{w:World}{K:PySem.W.Frag}{mg:Str->Option Value}{base:Heap}
abbrev Nb:List Str:=["hall","people","one","other","most","floor","found","step","told"]
def sc_ways:FnScope Nb ["hall","people","one","other","most"] (Zg Ky):=⟨rfl,rfl,rfl,by decide +kernel,rfl,by decide +kernel,by decide +kernel⟩
abbrev yA (i:Nat):Stmt:=(Yy Ky).getD i (.Pass ⟨0,0,0,0⟩)
def Zm5:Stmt->List Stmt
 |.For _ _ b _ _=>b
 |_=>[]
abbrev yB (i:Nat):Stmt:=(Zm5 (yA 2)).getD i (.Pass ⟨0,0,0,0⟩)
def Zdn {H Hf Hf1 H1 Hf' H':Hp}{sd:Zf}{σ:L2.St}{CF x dx k:Addr}{g:D}{kv:Zgr}{i:Nat}(sr:SR K H (fun b=>Lv H b/\Hf b=none) Hf1 sd σ H1)(im:∀(j:Nat) (t:S),sd[j]?=some (some t)->t.own=false)(hx:H1 x=none)(hdx:H1 dx=none)(hne:dx≠x)(s1:Same Hf1 Hf')(s2:Same Hf' H')(al:∀b u,b≠x->upd (upd H1 dx (.own x)) x (.ins CF dx []) b=some u->H' b=some u)(ba:∀b,Lv (upd (upd H1 dx (.own x)) x (.ins CF dx [])) b->Hf1 b=none->b≠x->Hf' b=none)(fl:FlK K Hf' x g kv k):
  SR K H (fun b=>Lv H b/\Hf b=none) Hf' (sd.set i (some (.fl x g kv))) (σ.set i (some (.ref x))) H':=by
 have sm:Same H1 (upd (upd H1 dx (.own x)) x (.ins CF dx [])):=(Z8 hdx _).trans (Z8 ((Zj hne.symm).trans hx) _)
 have ne:∀{b u},H b=some u->b≠x:=fun {b u} hb z=>by
  have:=sr.all _ _ hb
  rw[z,hx] at this
  cases this
 have r:SR K H (fun b=>Lv H b/\Hf b=none) Hf' sd σ H':=⟨s2,fun b u hb=>al b u (ne hb) (sm _ _ (sr.all _ _ hb)),fun b hb=>by
   obtain⟨o,ho,_⟩:=id hb.1
   exact ba b (sm.lv (sr.all.lv hb.1)) (sr.ban b hb) (ne ho),sr.bt,sr.len,fun j t e o=>by
   obtain⟨v,z1,z2⟩:=sr.imS j t e o
   exact⟨v,z1,z2.mono s1⟩,fun j t e o=>(by rw[im j t e] at o;cases o),fun j l t u p _ e o=>(by rw[im j t e] at o;cases o)⟩
 exact r.set_st (d:=.fl x g kv) i rfl fl.fl
def Zgu {f:Addr}{fd:FuncData}{CF:Addr} (F:Fun K "ways" "ways" Ky f fd) {f1 f2 f3 f4:Addr}{fd1 fd2 fd3 fd4:FuncData}{l3 l4:Nat}
  (Mk1:Mk K CF f1) (G1:FnOk P w K mg base Ye 2 f1 fd1 ["self","hall","people"] (Zmx K CF (Zdl []))) (b1:Binds K fd1 ["self","hall","people"] []) (m1:mg "Floor"=some (.ref CF))
  (G2:FnOk P w K mg base Ye 6 f2 fd2 ["floor","point","step","most"] (Zo8 K fW)) (b2:Binds K fd2 ["floor","point","step","most"] []) (k2:PySem.W.keepIn K (.ref f2)=true) (m2:mg "walk_on"=some (.ref f2))
  (h3:l3<=6) (G3:FnOk P w K mg base Ye l3 f3 fd3 ["one","other","reach_across","reach_upward"] (Tl K Xi)) (b3:Binds K fd3 ["one","other","reach_across","reach_upward"] []) (k3:PySem.W.keepIn K (.ref f3)=true) (m3:mg "steps_to_images"=some (.ref f3))
  (h4:l4<=6) (G4:FnOk P w K mg base Ye l4 f4 fd4 ["told","person"] (Tl K Na)) (b4:Binds K fd4 ["told","person"] []) (k4:PySem.W.keepIn K (.ref f4)=true) (m4:mg "is_way"=some (.ref f4)):
  FnOk P w K mg base Ye 7 f fd ["hall","people","one","other","most"] (Tl K F_ways):=by
 refine F.ok sc_ways (fun vs H Q E h=>?_) (fun cdv A outer s H vs Q E hr h=>?_)
 ·obtain⟨Hf,ds,s,e,rs,hF,_⟩:=h
  obtain⟨hall,ppl,one,other,most,q,steps,fo,rfl,_⟩:=Mi hF
  rw[<-rs.length]
  rfl
 ·obtain⟨Hf,ds,s',e,rs,hF,kk⟩:=h
  obtain⟨hall,ppl,one,other,most,q,steps,fo,rfl,hq,hl,est,hls,hlo,rfl⟩:=Mi hF
  obtain⟨tF,pF,qF⟩:Tp (X0 Ye P w K mg base Nb "ways" (Zg Ky) f cdv A outer s H E).nox E0 _ _:=Za (Zb 0) (Za (Zb 1) Ze)
  obtain⟨t2,p2,q2⟩:Ga (X0 Ye P w K mg base Nb "ways" (Zg Ky) f cdv A outer s H E).nox E0 (yA 1) _:=J2 6 sc_ways.nd (Vb Ze)
  obtain⟨wi,pI,qI⟩:Zju (X0 Ye P w K mg base Nb "ways" (Zg Ky) f cdv A outer s H E).nox E0 _ _ iY:=X8 (Xa G3 (hr.mono (by lia)) m3 k3 b3 (Za (Kn (Zb 1) (Zb 2) (fun _ _=>rfl)) (Za (Kn (Zb 1) (Zb 3) (fun _ _=>rfl)) (Za (Zs Z2 (Zs Qo (Zb 4) Zi) (Zw (Zb 0))) (Za (Zs Z2 (Zs Qo (Zb 4) Zi) (Zw (Zb 0))) Ze)))))
  obtain⟨tg,pG,qG⟩:Zh3 (X0 Ye P w K mg base Nb "ways" (Zg Ky) f cdv A outer s H E).nox _ (X4 7):=Qd 7 sc_ways.nd
  obtain⟨tA,pA,qA⟩:Zh7 (X0 Ye P w K mg base Nb "ways" (Zg Ky) f cdv A outer s H E).nox E0 _ _:=J9 5 (Wi (Kn (Zb 1) (Zb 2) (fun _ _=>rfl)) (Wi (Zb 7) (Wi (Zb 4) Rh)))
  obtain⟨tR,pR,qR⟩:Ga (X0 Ye P w K mg base Nb "ways" (Zg Ky) f cdv A outer s H E).nox E0 (yB 1) (Jw tY (Ur 6 Zdm) Y7):=Qw (Xq (Xa G4 (hr.mono (by lia)) m4 k4 b4 (Za (Zb 8) (Za (Kn (Zb 1) (Zb 3) (fun _ _=>rfl)) Ze)))) (Zn (Wg 6 (Qf (Za (Zw (Zb 7)) (Za (Zw (Zb 7)) (Za (Zw (Zb 8)) Ze)))))) Qh
  obtain⟨tE,pE,qE⟩:Ga (X0 Ye P w K mg base Nb "ways" (Zg Ky) f cdv A outer s H E).nox E0 (yA 3) _:=Us 6
  refine⟨_,Qg (Kl sc_ways.nd (i:=5) rfl (.inl rfl) (M5 (dvs:=[]) (E:=E0) Mk1 G1 (hr.mono (by decide)) (by rfl) m1 b1 .nil Jl pF) rfl (.inl rfl))
   (Qg p2 (Qg (Rt PassesOwn.never rfl pI pG (Qg (Kl sc_ways.nd (i:=8) rfl (.inl rfl) (Jy (dvs:=[]) (E:=E0) G2 (hr.mono (by decide)) (by rfl) m2 k2 b2 .nil Jl pA) rfl (.inl rfl)) (Y9 pR))) (Y9 pE))),?_⟩
  have sr0:=A9 (K:=K) (N:=Nb) (m:=4) e rs rfl
  refine qF _ _ _ _ _ _ _ sr0 ?_
  show Po K E0 (rA K) Hf H (M.ok [hall,.lst ppl]) _
  intro vs1 Hf1 H1 g1 rs1 x dx hx hdx hne
  obtain⟨vh,_,rfl,rh,rs1⟩:=reps_cons.mp rs1
  obtain⟨vp,_,rfl,rp,rs1⟩:=reps_cons.mp rs1
  cases reps_nil.mp rs1
  have sm:Same H1 (upd (upd H1 dx (.own x)) x (.ins CF dx [])):=(Z8 hdx _).trans (Z8 ((Zj hne.symm).trans hx) _)
  refine⟨Hf1,x,dx,hall,ppl,q,vh,vp,rfl,g1.sub.trans sm,none_of g1.sub hx,Zo,rh,rp,hl,hq,fun Hf2 H2 k s1 s2 al ba fl hk ck nk=>⟨rfl,?_⟩⟩
  have sr1:=sr0.gr g1
  have sr2:SR K H _ Hf2 (Tm hall ppl one other most (some (.fl x hall (qD q))) none none none) _ H2:=Zdn (i:=5) sr1 (fun j t h=>by
   match j,h with
   |0,h=>cases h;rfl
   |1,h=>cases h;rfl
   |2,h=>cases h;rfl
   |3,h=>cases h;rfl
   |4,h=>cases h;rfl
   |5,h=>cases h
   |6,h=>cases h
   |7,h=>cases h
   |8,h=>cases h
   |j+9,h=>cases h) hx hdx hne s1 s2 al ba fl
  have hk0:H k=none:=none_of (g1.all.trans sm) nk
  have ca2:CaAt K (V0 Qp hall) 0 Hf2 H2 k:=⟨[],[],ck,.nil,Nat.le_refl _,fun _ _ _ _ h=>by cases h⟩
  have bt:∀b,(Lv H b/\Hf b=none)->Lv H b:=fun b hb=>hb.1
  have srk:=sr2.keep ck ca2.lv hk (sr2.offD ck fun i t h o=>by
   match i,h with
   |0,h=>cases h;cases o
   |1,h=>cases h;cases o
   |2,h=>cases h;cases o
   |3,h=>cases h;cases o
   |4,h=>cases h;cases o
   |5,h=>cases h;cases o
   |6,h=>cases h
   |7,h=>cases h
   |8,h=>cases h
   |i+9,h=>cases h)
  refine q2 _ _ _ _ _ _ _ srk (Kv (sd':=Tm hall ppl one other most (some (.fl x hall (qD q))) (some (.ow [])) none none) rfl fun σ3 Hf3 H3 s3 sr3=>?_)
  obtain⟨hc3,hk3,sr3⟩:=sr3.back hk0 bt
  have ca3:CaAt K (V0 Qp hall) 0 Hf3 H3 k:=⟨[],[],hc3,.nil,Nat.le_refl _,fun _ _ _ _ h=>by cases h⟩
  have fl3:=fl.mono s3
  have sA:=g1.fz.trans (s1.trans s3)
  clear srk sr2 sr1 ca2
  refine qI _ _ _ _ _ _ _ sr3 ?_
  rw[show iY (Tm hall ppl one other most (some (.fl x hall (qD q))) (some (.ow [])) none none)=.ok steps from est]
  intro J Hf4 H4 g4 J4
  refine⟨fun i m σ' H'=>m=steps.length-i/\∃Hf' fo' t7 t8,Same Hf4 Hf'/\SR K H (fun b=>Lv H b/\Hf b=none) Hf' (Tm hall ppl one other most (some (.fl x hall (qD q))) (some (.ow fo')) t7 t8) σ' H'/\Hf' k=none/\CaAt K (V0 Qp hall) (3000*i) Hf' H' k/\Pl t7/\Pl t8/\Ub hall ppl q one other most (steps.drop i) fo'=.ok fo,
   ⟨_,rfl,Hf4,[],none,none,Same.refl _,sr3.gr g4,g4.ban k ca3.lv hk3,ca3.mono g4.fz (fun o z=>g4.all _ _ z),Xg,Xg,hlo⟩,?_⟩
  rintro i m σ5 H5 ⟨rfl,Hf5,fo',t7,t8,s5,sr5,hk5,ca5,h7,h8,hl5⟩
  have jj:=J4 i Hf5 H5 s5 sr5.sub
  cases qi:steps[i]? with
  |none=>
   rw[qi] at jj
   refine .inl ⟨jj,?_⟩
   rw[List.drop_eq_nil_of_le (List.getElem?_eq_none_iff.mp qi)] at hl5
   cases hl5
   refine qE _ _ _ _ _ _ _ sr5 ?_
   show PoS K E0 _ _ Hf5 (M.ok (O.rt (.ow fo))) _
   intro v Hf' H' s6 fin rv
   exact kk v Hf' H' ⟨sA.trans (g4.fz.trans (s5.trans s6)),fin.sub,fin.all,fun b hb hn=>fin.ban b ⟨hb,hn⟩⟩ rv
  |some st=>
   rw[qi] at jj
   obtain⟨go,yl⟩:=jj
   have hlt:i<steps.length:=(List.getElem?_eq_some_iff.mp qi).1
   have hd:steps.drop i=st::steps.drop (i+1):=by
    rw[List.drop_eq_getElem_cons hlt]
    congr 1
    exact(List.getElem?_eq_some_iff.mp qi).2
   rw[hd] at hl5
   refine .inr ⟨go,fun σ' H'=>∃Hf' fo' t7 t8,Same Hf4 Hf'/\SR K H (fun b=>Lv H b/\Hf b=none) Hf' (Tm hall ppl one other most (some (.fl x hall (qD q))) (some (.ow fo')) t7 t8) σ' H'/\Hf' k=none/\CaAt K (V0 Qp hall) (3000*(i+1)) Hf' H' k/\Pl t7/\Pl t8/\Ub hall ppl q one other most (steps.drop (i+1)) fo'=.ok fo,
    fun σ' H' w=>⟨steps.length-(i+1),by lia,rfl,w⟩,fun y H6 y6=>?_⟩
   obtain⟨Hf6,g6,ry⟩:=yl y H6 y6
   have sr6:=sr5.gr g6
   have hk6:Hf6 k=none:=g6.ban k ca5.lv hk5
   have ca6:=ca5.mono g6.fz (fun o z=>g6.all _ _ z)
   refine qG _ _ Hf6 _ σ5 H6 y st (Tm hall ppl one other most (some (.fl x hall (qD q))) (some (.ow fo')) (some (.im st)) t8) _ sr6 ry rfl fun σ7 sr7=>?_
   unfold Ub at hl5
   obtain⟨pt,ept,hl5⟩:=bind_ok hl5
   obtain⟨d,ed,hl5⟩:=bind_ok hl5
   obtain⟨b,eb,hl5⟩:=bind_ok hl5
   refine qA _ _ _ _ _ _ _ sr7 ?_
   have ea:Vp 5 (Gv (Zp Km (Zd 1) (Zd 2)) (Gv (Zd 7) (Gv (Zd 4) Mb))) (Tm hall ppl one other most (some (.fl x hall (qD q))) (some (.ow fo')) (some (.im st)) t8)=.ok [.fl x hall (qD q),.im pt,.im st,.im most]:=by
    have:Zp Km (Zd 1) (Zd 2) (Tm hall ppl one other most (some (.fl x hall (qD q))) (some (.ow fo')) (some (.im st)) t8)=.ok pt:=ept
    unfold Vp Gv
    rw[this]
    rfl
   rw[ea]
   intro vs8 Hf8 H8 g8 rs8
   show Zo8 K fW (vs8++[]) H8 _ E0
   rw[List.append_nil]
   rcases rs8 with _|⟨⟨_,r0⟩,_|⟨⟨_,r1⟩,_|⟨⟨_,r2⟩,_|⟨⟨_,r3⟩,_|_⟩⟩⟩⟩
   have fl8:FlK K Hf8 x hall (qD q) k:=fl3.mono (g4.fz.trans (s5.trans (g6.fz.trans g8.fz)))
   obtain⟨_,_,_,_,_,_,rfl,_⟩:=id r0
   have sr8:=sr7.gr g8
   have hk8:Hf8 k=none:=g8.ban k ca6.lv hk6
   have ca8:=ca6.mono g8.fz (fun o z=>g8.all _ _ z)
   refine⟨Hf8,x,hall,qD q,k,pt,st,most,d,_,3000*i,rfl,g8.sub,fl8,hk8,ca8,by lia,Reps.cons r1 (Reps.cons r2 (Reps.cons r3 Reps.nil)),fun a1 a2=>Zm3 ed x a1 a2,fun v' Hf9 H9 gm ca9 rv'=>?_⟩
   obtain⟨c8,y8,hc8,_⟩:=id ca8
   have hk9:Hf9 k=none:=gm.ban k ca8.lv hk8
   have sr9:SR K _ _ Hf9 (Tm hall ppl one other most (some (.fl x hall (qD q))) (some (.ow fo')) (some (.im st)) (some (.im d))) _ H9:=(sr8.grM gm hk0 (sr8.offD hc8 (Id Q4 h8))).set_im 8 rv'
   obtain⟨c9,y9,hc9,rc9,lc9,gc9⟩:=id ca9
   have srk:=sr9.keep hc9 ca9.lv hk9 (sr9.offD hc9 (Id Q4 Q4))
   have eb':tY (Tm hall ppl one other most (some (.fl x hall (qD q))) (some (.ow fo')) (some (.im st)) (some (.im d)))=.ok b:=eb
   have sAll:=s5.trans (g6.fz.trans (g8.fz.trans gm.fz))
   cases b with
   |false=>
    rw[if_neg (by decide)] at hl5
    refine qR _ _ _ _ _ _ _ srk (Kv (sd':=Tm hall ppl one other most (some (.fl x hall (qD q))) (some (.ow fo')) (some (.im st)) (some (.im d))) (by unfold Jw;rw[eb'];rfl) fun σ10 Hf10 H10 s10 sr10=>?_)
    obtain⟨hc10,hk10,sr10⟩:=sr10.back hk0 bt
    exact⟨Hf10,fo',_,_,sAll.trans s10,sr10,hk10,⟨c9,y9,hc10,rc9.mono s10,by lia,gc9⟩,Q4,Q4,hl5⟩
   |true=>
    rw[if_pos rfl] at hl5
    obtain⟨row,erow,hl5⟩:=bind_ok hl5
    split at hl5
    case isFalse=>cases hl5
    rename_i hfew
    refine qR _ _ _ _ _ _ _ srk (Kv (sd':=Tm hall ppl one other most (some (.fl x hall (qD q))) (some (.ow (fo'++[row]))) (some (.im st)) (some (.im d))) ?_ fun σ10 Hf10 H10 s10 sr10=>?_)
    ·have er':Zdm (Tm hall ppl one other most (some (.fl x hall (qD q))) (some (.ow fo')) (some (.im st)) (some (.im d)))=.ok row:=erow
     unfold Jw
     rw[eb']
     show(Zdm (Tm hall ppl one other most (some (.fl x hall (qD q))) (some (.ow fo')) (some (.im st)) (some (.im d)))).bind (fun d=>if few fo'=true then _ else _)=_
     rw[er']
     show(if few fo'=true then _ else _)=_
     rw[if_pos hfew]
     rfl
    obtain⟨hc10,hk10,sr10⟩:=sr10.back hk0 bt
    exact⟨Hf10,_,_,_,sAll.trans s10,sr10,hk10,⟨c9,y9,hc10,rc9.mono s10,by lia,gc9⟩,Q4,Q4,hl5⟩
end
section
variable {P:Program}{w:World}{K:PySem.W.Frag}{mg:Str->Option Value}{base:Heap}
noncomputable def Y4:List D->M S:=Ug 2 0
  (Zx (Jw (tB (Zp Tq (Zd 1) (Vl Tr (Zc (Zd 0) Zk)))) (Q0 (Zp Km (Zd 0) (Zd 1))) Y7)
   (Q0 ↑0))
def Zam:FnScope ["_law_script","_law_k"] ["_law_script","_law_k"] (Zg Sx):=⟨rfl,rfl,rfl,by decide +kernel,rfl,by decide +kernel,by decide +kernel⟩
def Zan (d:Dm K mg "_law_cell" Sx) (z_len:mg "len"=none):Cl P w K mg base 1 "_law_cell" ["_law_script","_law_k"] Y4:=
 d.cl (by trivial) fun _ _ F=>Jh F Zam rfl rfl fun cdv A outer s H E hr=>
  (Zh (Qw (Zz Gg (Zb 1) (Q6 Bd (by rfl) z_len (by rfl) (Za (Zb 0) Ze)) (Z0 _)) (Zn (Zv (Kn (Zb 0) (Zb 1) (fun _ _=>rfl)))) Qh)
   (Zn (Zv Zi)))
noncomputable def Xn:List D->M S:=Ug 2 4
  (Zx (Nz 2 (Tu Zk))
   (Zx (Z4 3 (Zp Yd (Zp Zt (Zp Qe (Zp Yd (Zd 0) ↑1999999973) ↑31) ↑765432101) ↑1999999973))
   (Zx (Z4 4 ↑0)
   (Zx (Jw (tO (tB (Zp Tq (Zd 0) ↑0)) (tB (Zp Zmg (Zd 0) (Zp Zfn ↑10 ↑18)))) (Z4 4 (Vl Ul (Zc (Zd 0) Zk))) Y7)
   (Zx (Jm (Xb (Zc (Zd 1) Zk)) (X4 5) (Zx (Z4 3 (Zp Yd (Zp Qe (Zp Qe (Zp Zt (Zd 3) (Zp Qe (Zp Yd (Zd 3) ↑65521) ↑40487)) (Zp Zt ↑7 (Zd 5))) ↑5) ↑1999999973))
   (Zx (Ur 2 (Zp Km (Wo (Zc (Zd 3) (Zc (Zp Yd (Zd 4) ↑1000000) Zk))) (Vl Bc (Zc (Zp Rc (Zd 4) ↑0) Zk))))
   (Z4 4 (Zp Xj (Zd 4) ↑1000000)))))
   (L1 2))))))
def sc_l_numbers:FnScope ["_law_cell_here","_law_many","_law_found","_law_number","_law_digits","_law_k"] ["_law_cell_here","_law_many"] (Zg Uz):=⟨rfl,rfl,rfl,by decide +kernel,rfl,by decide +kernel,by decide +kernel⟩
def B9 (d:Dm K mg "_law_numbers" Uz) (z_abs:mg "abs"=none) (z_range:mg "range"=none) (z_int:mg "int"=none):Cl P w K mg base 1 "_law_numbers" ["_law_cell_here","_law_many"] Xn:=
 d.cl (by trivial) fun _ _ F=>Jh F sc_l_numbers rfl rfl fun cdv A outer s H E hr=>
  (Zh (J2 2 sc_l_numbers.nd (Vb Ze))
   (Zh (Zr 3 sc_l_numbers.nd (Zs Yl (Zs Z2 (Zs Qo (Zs Yl (Zb 0) Zi) Zi) Zi) Zi))
   (Zh (Zr 4 sc_l_numbers.nd Zi)
   (Zh (Qw ((Nu (Zz Gg (Zb 0) Zi (Z0 _)) (Wd (Zz Zmh (Zb 0) (Zs Zjp Zi Zi) (Z0 _))))).pt (Zn (Zr 4 sc_l_numbers.nd (Q6 Wt (by rfl) z_abs (by rfl) (Za (Zb 0) Ze)))) Qh)
   (Zh (Xe PassesOwn.never rfl (X1 (by rfl) z_range (Za (Zb 1) Ze)) (Qd 5 sc_l_numbers.nd) (Zh (Zr 3 sc_l_numbers.nd (Zs Yl (Zs Qo (Zs Qo (Zs Z2 (Zb 3) (Zs Qo (Zs Yl (Zb 3) Zi) Zi)) (Zs Z2 Zi (Zb 5))) Zi) Zi))
   (Zh (Wg 2 (Kn (Vu (Za (Zb 3) (Za (Zs Yl (Zb 4) Zi) Ze))) (R1 Zb2 (by rfl) z_int (by rfl) (Za (Jr R0 (Zb 4) Zi (Z0 _)) Ze)) (fun _ _=>rfl)))
   (Zn (Zr 4 sc_l_numbers.nd (Zs Xp (Zb 4) Zi))))))
   (Zn (Us 2)))))))
noncomputable def V8:List D->M S:=Ug 2 0
  (Zx (Z4 0 (Vl Ul (Zc (Zd 0) Zk)))
   (Zx (Z4 1 (Vl Ul (Zc (Zd 1) Zk)))
   (Zx (Wu (tB (Zp Rc (Zd 1) ↑0)) (O4 0 1 (Zc (Zd 1) (Zc (Zp Yd (Zd 0) (Zd 1)) Zk))))
   (Q0 (Zd 0)))))
def sc_l_common:FnScope ["_law_one","_law_other"] ["_law_one","_law_other"] (Zg W0):=⟨rfl,rfl,rfl,by decide +kernel,rfl,by decide +kernel,by decide +kernel⟩
def C9 (d:Dm K mg "_law_common" W0) (z_abs:mg "abs"=none):Cl P w K mg base 1 "_law_common" ["_law_one","_law_other"] V8:=
 d.cl (by trivial) fun _ _ F=>Jh F sc_l_common rfl rfl fun cdv A outer s H E hr=>
  (Zh (Zr 0 sc_l_common.nd (Q6 Wt (by rfl) z_abs (by rfl) (Za (Zb 0) Ze)))
   (Zh (Zr 1 sc_l_common.nd (Q6 Wt (by rfl) z_abs (by rfl) (Za (Zb 1) Ze)))
   (Zh (Lw PassesOwn.never (Zz R0 (Zb 1) Zi (Z0 _)) (Zn (Zfp 0 1 rfl sc_l_common.nd (Za (Zb 1) (Za (Zs Yl (Zb 0) (Zb 1)) Ze)) (by rfl))))
   (Zn (Zv (Zb 0))))))
noncomputable def Kz:List D->M S:=Ug 2 1
  (Zx (Z4 2 (Z5 V8 (Zc (Zd 0) (Zc (Zd 1) Zk))))
   (Q0 (Qv (Zc (Zp Xj (Zd 0) (Zd 2)) (Zc (Zp Xj (Zd 1) (Zd 2)) Zk)))))
def sc_l_lowest:FnScope ["_law_top","_law_bottom","_law_shared"] ["_law_top","_law_bottom"] (Zg W1):=⟨rfl,rfl,rfl,by decide +kernel,rfl,by decide +kernel,by decide +kernel⟩
def Da (d:Dm K mg "_law_lowest" W1) (c_l_common:Cl P w K mg base 1 "_law_common" ["_law_one","_law_other"] V8):Cl P w K mg base 2 "_law_lowest" ["_law_top","_law_bottom"] Kz:=
 d.cl (by trivial) fun _ _ F=>Jh F sc_l_lowest rfl rfl fun cdv A outer s H E hr=>
  (Zh (Zr 2 sc_l_lowest.nd (Qa c_l_common (hr.mono (by decide)) (Za (Zb 0) (Za (Zb 1) Ze))))
   (Zn (Zv (Qf (Za (Zs Xp (Zb 0) (Zb 2)) (Za (Zs Xp (Zb 1) (Zb 2)) Ze))))))
noncomputable def Vr:List D->M S:=Ug 6 2
  (Zx (Z4 6 (Zp Km ↑"mpm" (Zp Yd (Zd 5) ↑3)))
   (Zx (Z4 7 (Zp Km ↑"mmp" (Zp Yd (Zp Xj (Zd 5) ↑3) ↑3)))
   (Zx (Jw (tO (tA (tB (Uu Tq Tq ↑0 (Zd 3) (Zd 4))) (tB (Zp Rc (Zp Yd (Zp Xj (Zd 5) ↑9) ↑3) ↑0))) (tA (tN (tB (Uu Tq Tq ↑0 (Zd 3) (Zd 4)))) (tB (Zp Jq (Zp Yd (Zp Xj (Zd 5) ↑9) ↑6) ↑5)))) (Q0 (Wo Zk)) Y7)
   (Zx (Jw (tB (Zp Jq (Zd 3) ↑0)) (Z4 6 ↑"p") Y7)
   (Zx (Jw (tB (Zp Jq (Zd 3) (Zd 4))) (Z4 7 ↑"p") Y7)
   (Q0 (Wo (Zc (Qv (Zc (Zd 0) (Zc (Zd 1) (Zc (Zd 2) (Zc (Zd 6) (Zc (Zd 7) Zk)))))) Zk))))))))
def sc_l_side:FnScope ["_law_kind","_law_x","_law_y","_law_at","_law_end","_law_number","_law_one","_law_other"] ["_law_kind","_law_x","_law_y","_law_at","_law_end","_law_number"] (Zg Sy):=⟨rfl,rfl,rfl,by decide +kernel,rfl,by decide +kernel,by decide +kernel⟩
def Zao (d:Dm K mg "_law_side" Sy)  : Cl P w K mg base 1 "_law_side" ["_law_kind","_law_x","_law_y","_law_at","_law_end","_law_number"] Vr:=
 d.cl (by trivial) fun _ _ F=>Jh F sc_l_side rfl rfl fun cdv A outer s H E hr=>
  (Zh (Zr 6 sc_l_side.nd (Kn Qu (Zs Yl (Zb 5) Zi) (fun _ _=>rfl)))
   (Zh (Zr 7 sc_l_side.nd (Kn Qu (Zs Yl (Zs Xp (Zb 5) Zi) Zi) (fun _ _=>rfl)))
   (Zh (Qw ((Nu ((Vw (L3 Gg Gg Zi (Zb 3) (Zb 4)) (Vm (Zz R0 (Zs Yl (Zs Xp (Zb 5) Zi) Zi) Zi (Z0 _))))).pt (Wd ((Vw (Wc (L3 Gg Gg Zi (Zb 3) (Zb 4))) (Vm (Zz (Yt hr.units) (Zs Yl (Zs Xp (Zb 5) Zi) Zi) Zi (Z0 _))))).pt))).pt (Zn (Zv (Vu Ze))) Qh)
   (Zh (Qw (Zz (Yt hr.units) (Zb 3) Zi (Z0 _)) (Zn (Zr 6 sc_l_side.nd Qu)) Qh)
   (Zh (Qw (Zz (Yt hr.units) (Zb 3) (Zb 4) (Z0 _)) (Zn (Zr 7 sc_l_side.nd Qu)) Qh)
   (Zn (Zv (Vu (Za (Qf (Za (Zb 0) (Za (Zb 1) (Za (Zb 2) (Za (Zb 6) (Za (Zb 7) Ze)))))) Ze)))))))))
noncomputable def Nd:List D->M S:=Ug 3 4
  (Zx (Nz 3 (Cd Xn (Zc (Zd 0) (Zc (Zp Qe (Zp Qe (Zp Zt (Zp Zt ↑2 (Zd 1)) (Zd 2)) (Zd 1)) (Zd 2)) Zk))))
   (Zx (Z4 4 (Wo Zk))
   (Zx (Jm (Xb (Zc (Zp Qe (Zd 1) ↑1) Zk)) (X4 5) (Jm (Xb (Zc (Zd 2) Zk)) (X4 6) (Cp 4 (Zms Qe (Zd 4) (L9 Vr (Yg ↑"up" (Yg (Zd 5) (Yg (Zd 6) (Yg (Zd 5) (Yg (Zd 1) (N6 (Cn 3))))))))))))
   (Zx (Jm (Xb (Zc (Zd 1) Zk)) (X4 5) (Jm (Xb (Zc (Zp Qe (Zd 2) ↑1) Zk)) (X4 6) (Cp 4 (Zms Qe (Zd 4) (L9 Vr (Yg ↑"flat" (Yg (Zd 5) (Yg (Zd 6) (Yg (Zd 6) (Yg (Zd 2) (N6 (Cn 3))))))))))))
   (Q0 (Qv (Zc (Zd 1) (Zc (Zd 2) (Zc (Vl Ee (Zc (Vl Sk (Zc (Zd 4) Zk)) Zk)) Zk)))))))))
def sc_l_hall:FnScope ["_law_cell_here","_law_width","_law_height","_law_xs","_law_sides","_law_x","_law_y"] ["_law_cell_here","_law_width","_law_height"] (Zg Sz):=⟨rfl,rfl,rfl,by decide +kernel,rfl,by decide +kernel,by decide +kernel⟩
def Zap (d:Dm K mg "_law_hall" Sz) (c_l_numbers:Cl P w K mg base 1 "_law_numbers" ["_law_cell_here","_law_many"] Xn) (c_l_side:Cl P w K mg base 1 "_law_side" ["_law_kind","_law_x","_law_y","_law_at","_law_end","_law_number"] Vr) (z_range:mg "range"=none) (z_sorted:mg "sorted"=none) (z_tuple:mg "tuple"=none):Cl P w K mg base 2 "_law_hall" ["_law_cell_here","_law_width","_law_height"] Nd:=
 d.cl (by trivial) fun _ _ F=>Jh F sc_l_hall rfl rfl fun cdv A outer s H E hr=>
  (Zh (J2 3 sc_l_hall.nd (Zai c_l_numbers (hr.mono (by decide)) (Za (Zb 0) (Za (Zs Qo (Zs Qo (Zs Z2 (Zs Z2 Zi (Zb 1)) (Zb 2)) (Zb 1)) (Zb 2)) Ze))))
   (Zh (Zr 4 sc_l_hall.nd (Vu Ze))
   (Zh (Xe PassesOwn.never rfl (X1 (by rfl) z_range (Za (Zs Qo (Zb 1) Zi) Ze)) (Qd 5 sc_l_hall.nd) (Zn (Xe PassesOwn.never rfl (X1 (by rfl) z_range (Za (Zb 2) Ze)) (Qd 6 sc_l_hall.nd) (Zn (Hm 4 sc_l_hall.nd (Zh6 Qo (Zb 4) (Cy c_l_side (hr.mono (by decide)) (Xx Qu (Xx (Zb 5) (Xx (Zb 6) (Xx (Zb 5) (Xx (Zb 1) (Co (Zcy 3))))))))))))))
   (Zh (Xe PassesOwn.never rfl (X1 (by rfl) z_range (Za (Zb 1) Ze)) (Qd 5 sc_l_hall.nd) (Zn (Xe PassesOwn.never rfl (X1 (by rfl) z_range (Za (Zs Qo (Zb 2) Zi) Ze)) (Qd 6 sc_l_hall.nd) (Zn (Hm 4 sc_l_hall.nd (Zh6 Qo (Zb 4) (Cy c_l_side (hr.mono (by decide)) (Xx Qu (Xx (Zb 5) (Xx (Zb 6) (Xx (Zb 6) (Xx (Zb 2) (Co (Zcy 3))))))))))))))
   (Zn (Zv (Qf (Za (Zb 1) (Za (Zb 2) (Za (R1 Zb3 (by rfl) z_tuple (by rfl) (Za (Q6 Zct (by rfl) z_sorted (by rfl) (Za (Zb 4) Ze)) Ze)) Ze))))))))))
noncomputable def K0:List D->M S:=Ug 3 2
  (Zx (Z4 3 (Zp Qe ↑2 (Zp Yd (Zd 0) (Zp Km (Wo (Zc ↑4 (Zc ↑8 (Zc ↑30 (Zc ↑999 Zk))))) (Zp Yd (Zp Xj (Zd 0) ↑1000) ↑4)))))
   (Zx (Z4 4 (Zp Qe ↑1 (Zp Yd (Zd 1) (Zp Vt (Zp Zt (Zd 2) (Zd 3)) ↑1))))
   (Zx (Jw (tB (Zp Jq (Zp Yd (Zd 4) (Zd 3)) ↑0)) (Z4 4 (Zp Vt (Zd 4) ↑1)) Y7)
   (Q0 (Z5 Kz (Zc (Zd 4) (Zc (Zd 3) Zk)))))))
def sc_l_part:FnScope ["_law_number","_law_other","_law_size_here","_law_bottom","_law_top"] ["_law_number","_law_other","_law_size_here"] (Zg S0):=⟨rfl,rfl,rfl,by decide +kernel,rfl,by decide +kernel,by decide +kernel⟩
def Zaq (d:Dm K mg "_law_part" S0) (c_l_lowest:Cl P w K mg base 2 "_law_lowest" ["_law_top","_law_bottom"] Kz):Cl P w K mg base 3 "_law_part" ["_law_number","_law_other","_law_size_here"] K0:=
 d.cl (by trivial) fun _ _ F=>Jh F sc_l_part rfl rfl fun cdv A outer s H E hr=>
  (Zh (Zr 3 sc_l_part.nd (Zs Qo Zi (Zs Yl (Zb 0) (Kn (Vu (Za Zi (Za Zi (Za Zi (Za Zi Ze))))) (Zs Yl (Zs Xp (Zb 0) Zi) Zi) (fun _ _=>rfl)))))
   (Zh (Zr 4 sc_l_part.nd (Zs Qo Zi (Zs Yl (Zb 1) (Zs Js (Zs Z2 (Zb 2) (Zb 3)) Zi))))
   (Zh (Qw (Zz (Yt hr.units) (Zs Yl (Zb 4) (Zb 3)) Zi (Z0 _)) (Zn (Zr 4 sc_l_part.nd (Zs Js (Zb 4) Zi))) Qh)
   (Zn (Zv (Qa c_l_lowest (hr.mono (by decide)) (Za (Zb 4) (Za (Zb 3) Ze))))))))
noncomputable def V9:List D->M S:=Ug 4 8
  (Zx (Z4 4 (Z5 Xn (Zc (Zd 0) (Zc (Zp Zt ↑4 (Zd 1)) Zk))))
   (Zx (Nz 5 (Tu Zk))
   (Zx (Jm (Xb (Zc (Zd 1) Zk)) (X4 6) (Zx (Eh (Zb7 (Zd 4) (Kq (Zp Zt ↑4 (Zd 6))) (Kq (Zp Qe (Zp Zt ↑4 (Zd 6)) ↑4))) (Pm 4 (Yz (X4 7) (Yz (X4 8) (Yz (X4 9) (Yz (X4 10) R3))))))
   (Zx (Z4 11 (Qv (Zc (Z5 K0 (Zc (Zd 7) (Zc (Zd 8) (Zc (Zd 2) Zk)))) (Zc (Z5 K0 (Zc (Zd 9) (Zc (Zd 10) (Zc (Zd 3) Zk)))) Zk))))
   (Jw (Pq 5 (tB (Zp N0 (Zd 11) (Zd 5)))) (Ur 5 (Zd 11)) Y7))))
   (L1 5))))
def sc_l_people:FnScope ["_law_cell_here","_law_many","_law_width","_law_height","_law_xs","_law_found","_law_k","_law_a","_law_b","_law_c","_law_d","_law_point"] ["_law_cell_here","_law_many","_law_width","_law_height"] (Zg W2):=⟨rfl,rfl,rfl,by decide +kernel,rfl,by decide +kernel,by decide +kernel⟩
def Db (d:Dm K mg "_law_people" W2) (c_l_numbers:Cl P w K mg base 1 "_law_numbers" ["_law_cell_here","_law_many"] Xn) (c_l_part:Cl P w K mg base 3 "_law_part" ["_law_number","_law_other","_law_size_here"] K0) (z_range:mg "range"=none):Cl P w K mg base 4 "_law_people" ["_law_cell_here","_law_many","_law_width","_law_height"] V9:=
 d.cl (by trivial) fun _ _ F=>Jh F sc_l_people rfl rfl fun cdv A outer s H E hr=>
  (Zh (Zr 4 sc_l_people.nd (Qa c_l_numbers (hr.mono (by decide)) (Za (Zb 0) (Za (Zs Z2 Zi (Zb 1)) Ze))))
   (Zh (J2 5 sc_l_people.nd (Vb Ze))
   (Zh (Xe PassesOwn.never rfl (X1 (by rfl) z_range (Za (Zb 1) Ze)) (Qd 6 sc_l_people.nd) (Zh (F8 (Gm (Zb 4) (Uo (Zs Z2 Zi (Zb 6))) (Uo (Zs Qo (Zs Z2 Zi (Zb 6)) Zi))) (Bf rfl (Xr (Qd 7 sc_l_people.nd) (Xr (Qd 8 sc_l_people.nd) (Xr (Qd 9 sc_l_people.nd) (Xr (Qd 10 sc_l_people.nd) R4))))))
   (Zh (Zr 11 sc_l_people.nd (Qf (Za (Qa c_l_part (hr.mono (by decide)) (Za (Zb 7) (Za (Zb 8) (Za (Zb 2) Ze)))) (Za (Qa c_l_part (hr.mono (by decide)) (Za (Zb 9) (Za (Zb 10) (Za (Zb 3) Ze)))) Ze))))
   (Zn (Qw (Zcj 5 (Zz (Zcc (by exact hr.units)) (Zb 11) (Zb 5) (by with_unfolding_all rfl))) (Zn (Wg 5 (Zb 11))) Qh)))))
   (Zn (Us 5)))))
noncomputable def U3:List D->M S:=Ug 1 1
  (Zx (Z4 1 (Wo (Zc (Qv (Zc ↑1 (Zc ↑1 (Zc ↑2 Zk)))) (Zc (Qv (Zc ↑2 (Zc ↑1 (Zc ↑1 Zk)))) (Zc (Qv (Zc ↑1 (Zc ↑2 (Zc ↑1 Zk)))) (Zc (Qv (Zc ↑2 (Zc ↑2 (Zc ↑1 Zk)))) (Zc (Qv (Zc ↑1 (Zc ↑1 (Zc ↑3 Zk)))) Zk)))))))
   (Zx (Z4 1 (Zp Qe (Zd 1) (Wo (Zc (Qv (Zc ↑2 (Zc ↑1 (Zc ↑2 Zk)))) (Zc (Qv (Zc ↑3 (Zc ↑1 (Zc ↑1 Zk)))) (Zc (Qv (Zc ↑3 (Zc ↑2 (Zc ↑0 Zk)))) (Zc (Qv (Zc ↑3 (Zc ↑3 (Zc ↑0 Zk)))) (Zc (Qv (Zc ↑1 (Zc ↑3 (Zc ↑1 Zk)))) Zk))))))))
   (Q0 (Zp Km (Zd 1) (Zp Yd (Zd 0) ↑10)))))
def sc_l_size:FnScope ["_law_cell_here","_law_some"] ["_law_cell_here"] (Zg S1):=⟨rfl,rfl,rfl,by decide +kernel,rfl,by decide +kernel,by decide +kernel⟩
def Zar (d:Dm K mg "_law_size" S1)  : Cl P w K mg base 1 "_law_size" ["_law_cell_here"] U3:=
 d.cl (by trivial) fun _ _ F=>Jh F sc_l_size rfl rfl fun cdv A outer s H E hr=>
  (Zh (Zr 1 sc_l_size.nd (Vu (Za (Qf (Za Zi (Za Zi (Za Zi Ze)))) (Za (Qf (Za Zi (Za Zi (Za Zi Ze)))) (Za (Qf (Za Zi (Za Zi (Za Zi Ze)))) (Za (Qf (Za Zi (Za Zi (Za Zi Ze)))) (Za (Qf (Za Zi (Za Zi (Za Zi Ze)))) Ze)))))))
   (Zh (Zr 1 sc_l_size.nd (Zs Qo (Zb 1) (Vu (Za (Qf (Za Zi (Za Zi (Za Zi Ze)))) (Za (Qf (Za Zi (Za Zi (Za Zi Ze)))) (Za (Qf (Za Zi (Za Zi (Za Zi Ze)))) (Za (Qf (Za Zi (Za Zi (Za Zi Ze)))) (Za (Qf (Za Zi (Za Zi (Za Zi Ze)))) Ze))))))))
   (Zn (Zv (Kn (Zb 1) (Zs Yl (Zb 0) Zi) (fun _ _=>rfl))))))
noncomputable def K1:List D->M S:=Ug 2 0
  (Q0 (Zp Tq (Zp Zt 0[0]! 1[1]!) (Zp Zt 1[0]! 0[1]!)))
def Zas:FnScope ["_law_one","_law_other"] ["_law_one","_law_other"] (Zg S2):=⟨rfl,rfl,rfl,by decide +kernel,rfl,by decide +kernel,by decide +kernel⟩
def Zat (d:Dm K mg "_law_less" S2)  : Cl P w K mg base 1 "_law_less" ["_law_one","_law_other"] K1:=
 d.cl (by trivial) fun _ _ F=>Jh F Zas rfl rfl fun cdv A outer s H E hr=>
  (Zn (Zv (Jr Gg (Zs Z2 (Zw (Zb 0)) (Zw (Zb 1))) (Zs Z2 (Zw (Zb 1)) (Zw (Zb 0))) (Z0 _))))
noncomputable def U4:List D->M S:=Ug 1 4
  (Zx (Nz 1 (Tu (Zc (Eo P6 ↑1) (Zc (Eo P6 ↑1) Zk))))
   (Zx (Jm (Vn 0[2]!) (X4 2) (Zx (Z4 3 (Vl Bc (Zc (Zp Jq (Zp Km 2[1]! ↑1) ↑1) Zk)))
   (Hi 1 (Zd 3) (Zp Vt ↑0 (Zf7 1 (Zd 3))))))
   (Ce 1 (Zx (Z4 4 (Tt (Uq (Xb (Zc ↑2 Zk)) 1 [1,0] (X4 0) (Qv (Zc (Zp Zt (Zp Km (Zp Km (Zd 2) (Zd 0)) ↑0) (Zp Km (Zd 1) (Zd 0))) (Zc (Zp Km (Zp Km (Zd 2) (Zd 0)) ↑1) Zk))))))
   (Q0 (Qv (Zc 4[0]! (Zc 4[1]! (Zc (Hz 0[2]!) Zk)))))))))
def sc_l_back:FnScope ["_law_way","_law_heads","_law_spot","_law_axis","_law_step"] ["_law_way"] (Zg Vq):=⟨rfl,rfl,rfl,by decide +kernel,rfl,by decide +kernel,by decide +kernel⟩
def Zau (d:Dm K mg "_law_back" Vq) (z_int:mg "int"=none) (z_range:mg "range"=none):Cl P w K mg base 1 "_law_back" ["_law_way"] U4:=
 d.cl (by trivial) fun _ _ F=>Jh F sc_l_back rfl rfl fun cdv A outer s H E hr=>
  (Zh (J2 1 sc_l_back.nd (Vb (Za (Ci N4 Zi) (Za (Ci N4 Zi) Ze))))
   (Zh (Xe PassesOwn.never rfl (X8 (Zw (Zb 0))) (Qd 2 sc_l_back.nd) (Zh (Zr 3 sc_l_back.nd (R1 Zb2 (by rfl) z_int (by rfl) (Za (Jr (Yt hr.units) (Zw (Zw (Zb 2))) Zi (Z0 _)) Ze)))
   (Zn (Zcu 1 (Zb 3) (Zs Js Zi (Zkb 1 (Zb 3) (fun _ _=>rfl)))))))
   (Rf 1 (Zh (Zcz 4 sc_l_back.nd (Nc:=["_law_k","_law_heads","_law_way"]) rfl (Wv (fun y hy hf=>Jk (Bl (sc:=Zg Vq) (by decide +kernel) y hy hf))) (Zj2 (sc:=Zg Vq) rfl rfl (by decide +kernel) (Bl (by decide +kernel)) (fun y hy hf=>Jk (Bl (sc:=Zg Vq) (by decide +kernel) y hy hf)) rfl (Bm (N:=["_law_way","_law_heads","_law_spot","_law_axis","_law_step"]) rfl (by decide +kernel))) rfl (by decide +kernel) (by decide +kernel) (Wf (by decide)) (X1 (by rfl) z_range (Za Zi Ze)) (fun s3 H3 C ex=>Qd 0 (show(["_law_k","_law_heads","_law_way"]:List Str).Nodup by decide +kernel)) (fun s3 H3 C ex=>(Qf (Za (Zs Z2 (Zw (Kn (Zb 2) (Zb 0) (fun _ _=>rfl))) (Kn (Zb 1) (Zb 0) (fun _ _=>rfl))) (Za (Zw (Kn (Zb 2) (Zb 0) (fun _ _=>rfl))) Ze)))))
   (Zn (Zv (Qf (Za (Zw (Zb 4)) (Za (Zw (Zb 4)) (Za (Zgk (Zw (Zb 0))) Ze))))))))))
noncomputable def Kf:List D->M S:=Ug 1 4
  (Zx (Nz 1 (Tu Zk))
   (Zx (Jm (Vn (Zd 0)) (X4 2) (Zx (Z4 3 ↑0)
   (Zx (Zgo 1 4 3 (tO (tB (Z5 K1 (Zc 4[0]! (Zc 2[0]! Zk)))) (tA (tB (Zp Jq 4[0]! 2[0]!)) (tB (Z5 K1 (Zc 4[1]! (Zc 2[1]! Zk)))))) (Zp Qe (Zd 3) ↑1))
   (Zgm 1 (Zd 3) (Zd 2)))))
   (L1 1)))
def sc_l_in_order:FnScope ["_law_found","_law_rising","_law_way","_law_place","_law_other"] ["_law_found"] (Zg V3):=⟨rfl,rfl,rfl,by decide +kernel,rfl,by decide +kernel,by decide +kernel⟩
def La (d:Dm K mg "_law_in_order" V3) (c_l_less:Cl P w K mg base 1 "_law_less" ["_law_one","_law_other"] K1):Cl P w K mg base 2 "_law_in_order" ["_law_found"] Kf:=
 d.cl (by trivial) fun _ _ F=>Jh F sc_l_in_order rfl rfl fun cdv A outer s H E hr=>
  (Zh (J2 1 sc_l_in_order.nd (Vb Ze))
   (Zh (Xe PassesOwn.never rfl (X8 (Zb 0)) (Qd 2 sc_l_in_order.nd) (Zh (Zr 3 sc_l_in_order.nd Zi)
   (Zh (Zgp 1 4 3 PassesOwn.never rfl sc_l_in_order.nd (by decide) (by decide) ((Nu (Xq (Qa c_l_less (hr.mono (by decide)) (Za (Zw (Zb 4)) (Za (Zw (Zb 2)) Ze)))) (Wd ((Vw (Zz (Yt hr.units) (Zw (Zb 4)) (Zw (Zb 2)) (Z0 _)) (Vm (Xq (Qa c_l_less (hr.mono (by decide)) (Za (Zw (Zb 4)) (Za (Zw (Zb 2)) Ze))))))).pt))).pt (Zs Qo (Zb 3) Zi))
   (Zn (Zgn 1 (Zb 3) (Zb 2))))))
   (Zn (Us 1))))
noncomputable def Mj:List D->M S:=Ug 1 9
  (Zx (Eh (Z5 U3 (Zc (Z5 Y4 (Zc (Zd 0) (Zc ↑0 Zk))) Zk)) (Pm 3 (Yz (X4 1) (Yz (X4 2) (Yz (X4 3) R3)))))
   (Zx (Z4 4 (Z5 Nd (Zc (Z5 Y4 (Zc (Zd 0) (Zc ↑1 Zk))) (Zc (Zd 1) (Zc (Zd 2) Zk)))))
   (Zx (Z4 5 (Z5 V9 (Zc (Z5 Y4 (Zc (Zd 0) (Zc ↑2 Zk))) (Zc (Zp Qe ↑1 (Zp Yd (Z5 Y4 (Zc (Zd 0) (Zc ↑3 Zk))) ↑4)) (Zc (Zd 1) (Zc (Zd 2) Zk))))))
   (Zx (Z4 6 (Zp Yd (Z5 Y4 (Zc (Zd 0) (Zc ↑4 Zk))) (Vl Tr (Zc (Zd 5) Zk))))
   (Zx (Z4 7 (Zp Yd (Zp Xj (Z5 Y4 (Zc (Zd 0) (Zc ↑4 Zk))) ↑8) (Vl Tr (Zc (Zd 5) Zk))))
   (Zx (Z4 8 (Z5 F_ways (Zc (Zd 4) (Zc (Zd 5) (Zc (Zd 6) (Zc (Zd 7) (Zc (Zd 3) Zk)))))))
   (Zx (Z4 9 (Z5 F_ways (Zc (Zd 4) (Zc (Zd 5) (Zc (Zd 7) (Zc (Zd 6) (Zc (Zd 3) Zk)))))))
   (Zx (Jw (tO (tN (tB (Zml "list" (Zd 8)))) (tN (tB (Zml "list" (Zd 9))))) (Q0 (eC (.bl false))) Y7)
   (Q0 (Zp Jq (Z5 Kf (Zc (Tt (Uq (Vn (Zd 8)) 1 [] (X4 0) (Z5 U4 (Zc (Zd 0) Zk)))) Zk)) (Zd 9)))))))))))
def sc_law:FnScope ["_law_script","_law_width","_law_height","_law_most","_law_hall_here","_law_people_here","_law_one","_law_other","_law_there","_law_back_here"] ["_law_script"] (Zg Mh):=⟨rfl,rfl,rfl,by decide +kernel,rfl,by decide +kernel,by decide +kernel⟩
def Zkt {f:Addr}{fd:FuncData} (F:Fun K "law" "law" Mh f fd) (c_l_size:Cl P w K mg base 1 "_law_size" ["_law_cell_here"] U3) (c_l_cell:Cl P w K mg base 1 "_law_cell" ["_law_script","_law_k"] Y4) (c_l_hall:Cl P w K mg base 2 "_law_hall" ["_law_cell_here","_law_width","_law_height"] Nd) (c_l_people:Cl P w K mg base 4 "_law_people" ["_law_cell_here","_law_many","_law_width","_law_height"] V9) (c_ways:Cl P w K mg base 7 "ways" ["hall","people","one","other","most"] F_ways) (c_l_in_order:Cl P w K mg base 2 "_law_in_order" ["_law_found"] Kf) (c_l_back:Cl P w K mg base 1 "_law_back" ["_law_way"] U4) (z_len:mg "len"=none) (z_isinstance:mg "isinstance"=none) (z_list:mg "list"=none):FnOk P w K mg base Ye 8 f fd ["_law_script"] (Tl K Mj):=
 Jh F sc_law rfl rfl fun cdv A outer s H E hr=>
  (Zh (F8 (Qa c_l_size (hr.mono (by decide)) (Za (Qa c_l_cell (hr.mono (by decide)) (Za (Zb 0) (Za Zi Ze))) Ze)) (Bf rfl (Xr (Qd 1 sc_law.nd) (Xr (Qd 2 sc_law.nd) (Xr (Qd 3 sc_law.nd) R4)))))
   (Zh (Zr 4 sc_law.nd (Qa c_l_hall (hr.mono (by decide)) (Za (Qa c_l_cell (hr.mono (by decide)) (Za (Zb 0) (Za Zi Ze))) (Za (Zb 1) (Za (Zb 2) Ze)))))
   (Zh (Zr 5 sc_law.nd (Qa c_l_people (hr.mono (by decide)) (Za (Qa c_l_cell (hr.mono (by decide)) (Za (Zb 0) (Za Zi Ze))) (Za (Zs Qo Zi (Zs Yl (Qa c_l_cell (hr.mono (by decide)) (Za (Zb 0) (Za Zi Ze))) Zi)) (Za (Zb 1) (Za (Zb 2) Ze))))))
   (Zh (Zr 6 sc_law.nd (Zs Yl (Qa c_l_cell (hr.mono (by decide)) (Za (Zb 0) (Za Zi Ze))) (Q6 Bd (by rfl) z_len (by rfl) (Za (Zb 5) Ze))))
   (Zh (Zr 7 sc_law.nd (Zs Yl (Zs Xp (Qa c_l_cell (hr.mono (by decide)) (Za (Zb 0) (Za Zi Ze))) Zi) (Q6 Bd (by rfl) z_len (by rfl) (Za (Zb 5) Ze))))
   (Zh (Zr 8 sc_law.nd (Qa c_ways (hr.mono (by decide)) (Za (Zb 4) (Za (Zb 5) (Za (Zb 6) (Za (Zb 7) (Za (Zb 3) Ze)))))))
   (Zh (Zr 9 sc_law.nd (Qa c_ways (hr.mono (by decide)) (Za (Zb 4) (Za (Zb 5) (Za (Zb 7) (Za (Zb 6) (Za (Zb 3) Ze)))))))
   (Zh (Qw ((Nu (Wc (Xq (We "list" (by rfl) z_isinstance z_list (by rfl) (by rfl) (Zb 8)))) (Wd (Wc (Xq (We "list" (by rfl) z_isinstance z_list (by rfl) (by rfl) (Zb 9))))))).pt (Zn (Zv F6)) Qh)
   (Zn (Zv (Jr (Yt hr.units) (Qa c_l_in_order (hr.mono (by decide)) (Za (Zb8 (Sb (Nc:=["_law_way"]) rfl (closureFor_none (by decide +kernel)) (Zox rfl (by decide +kernel)) rfl (by decide +kernel) (by decide +kernel) (Wf (by decide)) (X8 (Zb 8)) (fun s3 H3 C ex=>Qd 0 (show(["_law_way"]:List Str).Nodup by decide +kernel)) (fun s3 H3 C ex=>(Qa c_l_back (hr.mono (by decide)) (Za (Zb 0) Ze))))) Ze)) (Zb 9) (Z0 _))))))))))))
end
def all_mk {l:PySem.W.OpenLaw}{w:World}{K:PySem.W.Frag}{h:Heap}{mg:Str->Option Value}{fa:Addr}(X:K.In h)(G:h.Ns mainGlobals mg) (hfa:mg "law"=some (.ref fa))
  (d_common_divisor:Dm K mg "common_divisor" Ji)
  (d_amount:Dm K mg "amount" Sv)
  (d_below:Dm K mg "below" Bt)
  (d_is_whole:Dm K mg "is_whole" Wy)
  (d_is_from_to:Dm K mg "is_from_to" V1)
  (d_outward_face:Dm K mg "outward_face" Kw)
  (d_faces:Dm K mg "faces" Bu)
  (d_is_corner:Dm K mg "is_corner" X5)
  (d_square_of:Dm K mg "square_of" Ux)
  (d_whole_time_of:Dm K mg "whole_time_of" Jt)
  (d_time_to:Dm K mg "time_to" N9)
  (d_person_ahead:Dm K mg "person_ahead" Kx)
  (d_face_ahead:Dm K mg "face_ahead" V2)
  (d_thing_at:Dm K mg "thing_at" Wz)
  (d_how_it_ends:Dm K mg "how_it_ends" Vj)
  (d_pass_line:Dm K mg "pass_line" Uy)
  (d_walk_on:Dm K mg "walk_on" Qt)
  (d_parts_to_images:Dm K mg "parts_to_images" Q3)
  (d_steps_to_images:Dm K mg "steps_to_images" Jb)
  (d_is_way:Dm K mg "is_way" Sw)
  (d_ways:Dm K mg "ways" Ky)
  (d_l_cell:Dm K mg "_law_cell" Sx)
  (d_l_numbers:Dm K mg "_law_numbers" Uz)
  (d_l_common:Dm K mg "_law_common" W0)
  (d_l_lowest:Dm K mg "_law_lowest" W1)
  (d_l_side:Dm K mg "_law_side" Sy)
  (d_l_hall:Dm K mg "_law_hall" Sz)
  (d_l_part:Dm K mg "_law_part" S0)
  (d_l_people:Dm K mg "_law_people" W2)
  (d_l_size:Dm K mg "_law_size" S1)
  (d_l_less:Dm K mg "_law_less" S2)
  (d_l_back:Dm K mg "_law_back" Vq)
  (d_l_in_order:Dm K mg "_law_in_order" V3)
  (d_law:Dm K mg "law" Mh)
  {C_Floor C_Track:Addr}
  (ya_Floor:PySem.W.nsIn K mainGlobals "Floor"=some (some (.ref C_Floor)))
  (ya_Track:PySem.W.nsIn K mainGlobals "Track"=some (some (.ref C_Track)))
  (e_Floor_init:Mm K C_Floor "__init__" "Floor.__init__" Kd)
  (e_people_at:Mm K C_Floor "people_at" "Floor.people_at" U0)
  (e_faces_at:Mm K C_Floor "faces_at" "Floor.faces_at" V4)
  (e_Track_init:Mm K C_Track "__init__" "Track.__init__" V5)
  (e_line_ahead:Mm K C_Track "line_ahead" "Track.line_ahead" V6)
  (e_place_at:Mm K C_Track "place_at" "Track.place_at" W3)
  (e_time_at:Mm K C_Track "time_at" "Track.time_at" Pa)
  (e_go_on:Mm K C_Track "go_on" "Track.go_on" Bv)
  (e_turn_back:Mm K C_Track "turn_back" "Track.turn_back" U1)
  (og_Floor:PySem.W.plainGet K C_Floor Str.empty=true) (oh_Floor:PySem.W.hasDictIn K C_Floor=true) (oo_Floor:PySem.W.plainOver K C_Floor=true) (os_Floor:PySem.W.findIn K (.ref C_Floor) "__setattr__"=some (some (.builtin "object.__setattr__"))) (om_Floor:PySem.W.makesIn K C_Floor=true) (op_Floor:PySem.W.keepIn K (.ref C_Floor)=true)
  (on_Floor_hall:PySem.W.findIn K (.ref C_Floor) "hall"=some none)
  (on_Floor_known_faces:PySem.W.findIn K (.ref C_Floor) "known_faces"=some none)
  (on_Floor_by_square:PySem.W.findIn K (.ref C_Floor) "by_square"=some none)
  (og_Track:PySem.W.plainGet K C_Track Str.empty=true) (oh_Track:PySem.W.hasDictIn K C_Track=true) (oo_Track:PySem.W.plainOver K C_Track=true) (os_Track:PySem.W.findIn K (.ref C_Track) "__setattr__"=some (some (.builtin "object.__setattr__"))) (om_Track:PySem.W.makesIn K C_Track=true) (op_Track:PySem.W.keepIn K (.ref C_Track)=true)
  (on_Track_begin:PySem.W.findIn K (.ref C_Track) "begin"=some none)
  (on_Track_square:PySem.W.findIn K (.ref C_Track) "square"=some none)
  (on_Track_heading:PySem.W.findIn K (.ref C_Track) "heading"=some none)
  (on_Track_due:PySem.W.findIn K (.ref C_Track) "due"=some none)
  (on_Track_lap:PySem.W.findIn K (.ref C_Track) "lap"=some none)
  (z_abs:PySem.W.nsIn K mainGlobals "abs"=some none)
  (z_isinstance:PySem.W.nsIn K mainGlobals "isinstance"=some none)
  (z_int:PySem.W.nsIn K mainGlobals "int"=some none)
  (z_bool:PySem.W.nsIn K mainGlobals "bool"=some none)
  (z_any:PySem.W.nsIn K mainGlobals "any"=some none)
  (z_zip:PySem.W.nsIn K mainGlobals "zip"=some none)
  (z_max:PySem.W.nsIn K mainGlobals "max"=some none)
  (z_min:PySem.W.nsIn K mainGlobals "min"=some none)
  (z_len:PySem.W.nsIn K mainGlobals "len"=some none)
  (z_list:PySem.W.nsIn K mainGlobals "list"=some none)
  (z_range:PySem.W.nsIn K mainGlobals "range"=some none)
  (z_sorted:PySem.W.nsIn K mainGlobals "sorted"=some none)
  (z_tuple:PySem.W.nsIn K mainGlobals "tuple"=some none)
  {at_NO_STEP:Addr} (yg_NO_STEP:PySem.W.nsIn K mainGlobals "NO_STEP"=some (some (.ref at_NO_STEP))) (yb_NO_STEP:Ma K at_NO_STEP 0 1 0 1=true)
  : ∃fd:FuncData,(∀(s:Shared) (v:Value),BindsTo s fd ⟨[v],[]⟩ [("_law_script", v)])/\∀base:Heap,K.In base->base.Ns mainGlobals mg->FnOk l.prog w K mg base Ye 8 fa fd ["_law_script"] (Tl K Mj):=by
 obtain⟨_,fdL,FL,mL⟩:=d_law.ex
 obtain⟨oc,od,kV,dc,pm,an,cd,ct,sl,rfl,lk,hcd⟩:=FL.ex
 cases hfa.symm.trans mL
 refine⟨PySem.W.fnOf "law" "law" (K7 Mh) (Yy Mh) (Zg Mh) .none kV dc pm an cd ct,fun s v=>.of_eq rfl,fun base _ _=>?_⟩
 have z_abs:=PySem.W.mg_none_of X G z_abs
 have z_isinstance:=PySem.W.mg_none_of X G z_isinstance
 have z_int:=PySem.W.mg_none_of X G z_int
 have z_bool:=PySem.W.mg_none_of X G z_bool
 have z_any:=PySem.W.mg_none_of X G z_any
 have z_zip:=PySem.W.mg_none_of X G z_zip
 have z_max:=PySem.W.mg_none_of X G z_max
 have z_min:=PySem.W.mg_none_of X G z_min
 have z_len:=PySem.W.mg_none_of X G z_len
 have z_list:=PySem.W.mg_none_of X G z_list
 have z_range:=PySem.W.mg_none_of X G z_range
 have z_sorted:=PySem.W.mg_none_of X G z_sorted
 have z_tuple:=PySem.W.mg_none_of X G z_tuple
 have c_common_divisor:=G0 (P:=l.prog) (w:=w) (base:=base) d_common_divisor z_abs
 have c_amount:=Zaj d_amount c_common_divisor
 have c_below:=Zdh (P:=l.prog) (w:=w) (base:=base) d_below
 have c_is_whole:=C2 (P:=l.prog) (w:=w) (base:=base) d_is_whole z_isinstance z_int z_bool
 have c_is_from_to:=Tz d_is_from_to c_is_whole
 have c_outward_face:=P9 (P:=l.prog) (w:=w) (base:=base) d_outward_face
 have c_faces:=Zdi d_faces c_outward_face
 have c_is_corner:=Bw d_is_corner c_is_from_to z_any
 have c_square_of:=By (P:=l.prog) (w:=w) (base:=base) d_square_of
 have c_whole_time_of:=Pb (P:=l.prog) (w:=w) (base:=base) d_whole_time_of z_zip z_abs z_max
 have tcT:TkC K C_Track:=⟨⟨ya_Track,⟨og_Track,oh_Track,oo_Track,os_Track⟩⟩,on_Track_begin,on_Track_square,on_Track_heading,on_Track_due,on_Track_lap⟩
 have ocF:ObC K "Floor" C_Floor:=⟨ya_Floor,⟨og_Floor,oh_Floor,oo_Floor,os_Floor⟩⟩
 obtain⟨_,_,mM_Floor_init,FM_Floor_init⟩:=e_Floor_init.ex
 have bM_Floor_init:=FM_Floor_init.binds (ps:=["self","hall","people"]) fun _ _ _ _ _ _ us hl=>match us,hl with | [_,_,_],_=>rfl
 obtain⟨_,_,mM_people_at,FM_people_at⟩:=e_people_at.ex
 have bM_people_at:=FM_people_at.binds (ps:=["self","square"]) fun _ _ _ _ _ _ us hl=>match us,hl with | [_,_],_=>rfl
 obtain⟨_,_,mM_faces_at,FM_faces_at⟩:=e_faces_at.ex
 have bM_faces_at:=FM_faces_at.binds (ps:=["self","edge"]) fun _ _ _ _ _ _ us hl=>match us,hl with | [_,_],_=>rfl
 obtain⟨_,_,mM_Track_init,FM_Track_init⟩:=e_Track_init.ex
 have bM_Track_init:=FM_Track_init.binds (ps:=["self","begin","part","whole_time"]) fun _ _ _ _ _ _ us hl=>match us,hl with | [_,_,_,_],_=>rfl
 obtain⟨_,_,mM_line_ahead,FM_line_ahead⟩:=e_line_ahead.ex
 have bM_line_ahead:=FM_line_ahead.binds (ps:=["self"]) fun _ _ _ _ _ _ us hl=>match us,hl with | [_],_=>rfl
 obtain⟨_,_,mM_place_at,FM_place_at⟩:=e_place_at.ex
 have bM_place_at:=FM_place_at.binds (ps:=["self","time"]) fun _ _ _ _ _ _ us hl=>match us,hl with | [_,_],_=>rfl
 obtain⟨_,_,mM_time_at,FM_time_at⟩:=e_time_at.ex
 have bM_time_at:=FM_time_at.binds (ps:=["self","place"]) fun _ _ _ _ _ _ us hl=>match us,hl with | [_,_],_=>rfl
 obtain⟨_,_,mM_go_on,FM_go_on⟩:=e_go_on.ex
 have bM_go_on:=FM_go_on.binds (ps:=["self"]) fun _ _ _ _ _ _ us hl=>match us,hl with | [_],_=>rfl
 obtain⟨_,_,mM_turn_back,FM_turn_back⟩:=e_turn_back.ex
 have bM_turn_back:=FM_turn_back.binds (ps:=["self"]) fun _ _ _ _ _ _ us hl=>match us,hl with | [_],_=>rfl
 obtain⟨f_square_of,fd_square_of,g_square_of,b_square_of,k_square_of,m_square_of⟩:=c_square_of.ex
 obtain⟨Ng,fd_amount,g_amount,b_amount,k_amount,m_amount⟩:=c_amount.ex
 obtain⟨Iu,fd_faces,g_faces,b_faces,k_faces,m_faces⟩:=c_faces.ex
 have gM_turn_back:=B2 (P:=l.prog) (w:=w) (mg:=mg) (base:=base) FM_turn_back tcT
 have gM_go_on:=Zdk (P:=l.prog) (w:=w) (mg:=mg) (base:=base) FM_go_on tcT
 have gM_Track_init:=T3 (P:=l.prog) (w:=w) (mg:=mg) (base:=base) FM_Track_init tcT g_square_of b_square_of k_square_of m_square_of z_abs
 have gM_line_ahead:=T5 (P:=l.prog) (w:=w) (mg:=mg) (base:=base) FM_line_ahead tcT
 have gM_place_at:=C4 (P:=l.prog) (w:=w) (mg:=mg) (base:=base) FM_place_at tcT mM_line_ahead gM_line_ahead bM_line_ahead g_amount b_amount k_amount m_amount
 have gM_time_at:=E8 (P:=l.prog) (w:=w) (mg:=mg) (base:=base) FM_time_at tcT mM_line_ahead gM_line_ahead bM_line_ahead g_amount b_amount k_amount m_amount
 have gM_people_at:=B7 (P:=l.prog) (w:=w) (mg:=mg) (base:=base) FM_people_at ocF on_Floor_by_square
 have gM_faces_at:=C6 (P:=l.prog) (w:=w) (mg:=mg) (base:=base) FM_faces_at ocF on_Floor_hall on_Floor_known_faces g_faces b_faces k_faces m_faces
 have gM_Floor_init:=T9 (P:=l.prog) (w:=w) (mg:=mg) (base:=base) FM_Floor_init ocF on_Floor_hall on_Floor_known_faces on_Floor_by_square g_square_of b_square_of k_square_of m_square_of
 obtain⟨Mo,fd_time_to,F_time_to,m_time_to⟩:=d_time_to.ex
 have k_time_to:=F_time_to.kp
 have b_time_to:=F_time_to.binds (ps:=["across","upward","person"]) fun _ _ _ _ _ _ us hl=>match us,hl with | [_,_,_],_=>rfl
 have g_time_to:=E9 (P:=l.prog) (w:=w) (mg:=mg) (base:=base) F_time_to tcT mM_time_at gM_time_at bM_time_at
 obtain⟨Rm,fd_below,g_below,b_below,k_below,m_below⟩:=c_below.ex
 obtain⟨f_person_ahead,fd_person_ahead,F_person_ahead,m_person_ahead⟩:=d_person_ahead.ex
 have k_person_ahead:=F_person_ahead.kp
 have b_person_ahead:=F_person_ahead.binds (ps:=["floor","across","upward","whole_time"]) fun _ _ _ _ _ _ us hl=>match us,hl with | [_,_,_,_],_=>rfl
 have g_person_ahead:=Ra (P:=l.prog) (w:=w) (mg:=mg) (base:=base) F_person_ahead tcT ocF mM_people_at gM_people_at bM_people_at g_time_to b_time_to k_time_to m_time_to g_below b_below k_below m_below
 obtain⟨f_face_ahead,fd_face_ahead,F_face_ahead,m_face_ahead⟩:=d_face_ahead.ex
 have k_face_ahead:=F_face_ahead.kp
 have b_face_ahead:=F_face_ahead.binds (ps:=["track","pair"]) fun _ _ _ _ _ _ us hl=>match us,hl with | [_,_],_=>rfl
 have g_face_ahead:=T7 (P:=l.prog) (w:=w) (mg:=mg) (base:=base) F_face_ahead tcT
 obtain⟨f_is_corner,fd_is_corner,g_is_corner,b_is_corner,k_is_corner,m_is_corner⟩:=c_is_corner.ex
 obtain⟨f_thing_at,fd_thing_at,F_thing_at,m_thing_at⟩:=d_thing_at.ex
 have k_thing_at:=F_thing_at.kp
 have b_thing_at:=F_thing_at.binds (ps:=["floor","across","upward","now"]) fun _ _ _ _ _ _ us hl=>match us,hl with | [_,_,_,_],_=>rfl
 have g_thing_at:=C8 (P:=l.prog) (w:=w) (mg:=mg) (base:=base) F_thing_at tcT ocF on_Floor_hall mM_line_ahead gM_line_ahead bM_line_ahead g_is_corner b_is_corner k_is_corner m_is_corner mM_faces_at gM_faces_at bM_faces_at g_face_ahead b_face_ahead k_face_ahead m_face_ahead
 have c_how_it_ends:=S4 (P:=l.prog) (w:=w) (base:=base) d_how_it_ends
 obtain⟨f_pass_line,fd_pass_line,F_pass_line,m_pass_line⟩:=d_pass_line.ex
 have k_pass_line:=F_pass_line.kp
 have b_pass_line:=F_pass_line.binds (ps:=["track","now","thing"]) fun _ _ _ _ _ _ us hl=>match us,hl with | [_,_,_],_=>rfl
 have g_pass_line:=B5 (P:=l.prog) (w:=w) (mg:=mg) (base:=base) F_pass_line tcT mM_turn_back gM_turn_back bM_turn_back mM_go_on gM_go_on bM_go_on
 obtain⟨f_whole_time_of,fd_whole_time_of,g_whole_time_of,b_whole_time_of,k_whole_time_of,m_whole_time_of⟩:=c_whole_time_of.ex
 obtain⟨f_how_it_ends,fd_how_it_ends,g_how_it_ends,b_how_it_ends,k_how_it_ends,m_how_it_ends⟩:=c_how_it_ends.ex
 obtain⟨f_walk_on,fd_walk_on,F_walk_on,m_walk_on⟩:=d_walk_on.ex
 have k_walk_on:=F_walk_on.kp
 have b_walk_on:=F_walk_on.binds (ps:=["floor","point","step","most"]) fun _ _ _ _ _ _ us hl=>match us,hl with | [_,_,_,_],_=>rfl
 have g_walk_on:=Fe (P:=l.prog) (w:=w) (mg:=mg) (base:=base) F_walk_on tcT ocF g_whole_time_of b_whole_time_of k_whole_time_of m_whole_time_of ⟨om_Track,mM_Track_init.at_,mM_Track_init.fn,op_Track⟩ gM_Track_init bM_Track_init (PySem.W.mg_of X G ya_Track) g_person_ahead b_person_ahead k_person_ahead m_person_ahead g_thing_at b_thing_at k_thing_at m_thing_at g_how_it_ends b_how_it_ends k_how_it_ends m_how_it_ends mM_place_at gM_place_at bM_place_at g_pass_line b_pass_line k_pass_line m_pass_line z_min z_len
 have c_parts_to_images:=W4 d_parts_to_images c_amount z_list z_range z_sorted
 have c_steps_to_images:=W5 d_steps_to_images c_parts_to_images (PySem.W.mg_of X G yg_NO_STEP) yb_NO_STEP
 have c_is_way:=Zal (P:=l.prog) (w:=w) (base:=base) d_is_way
 obtain⟨f_steps_to_images,fd_steps_to_images,g_steps_to_images,b_steps_to_images,k_steps_to_images,m_steps_to_images⟩:=c_steps_to_images.ex
 obtain⟨Dw,fd_is_way,g_is_way,b_is_way,k_is_way,m_is_way⟩:=c_is_way.ex
 obtain⟨Fs,fd_ways,F_ways,m_ways⟩:=d_ways.ex
 have k_ways:=F_ways.kp
 have b_ways:=F_ways.binds (ps:=["hall","people","one","other","most"]) fun _ _ _ _ _ _ us hl=>match us,hl with | [_,_,_,_,_],_=>rfl
 have g_ways:=Zgu (P:=l.prog) (w:=w) (mg:=mg) (base:=base) F_ways ⟨om_Floor,mM_Floor_init.at_,mM_Floor_init.fn,op_Floor⟩ gM_Floor_init bM_Floor_init (PySem.W.mg_of X G ya_Floor) g_walk_on b_walk_on k_walk_on m_walk_on (by decide) g_steps_to_images b_steps_to_images k_steps_to_images m_steps_to_images (by decide) g_is_way b_is_way k_is_way m_is_way
 have c_ways:Cl l.prog w K mg base 7 "ways" ["hall","people","one","other","most"] Law.F_ways:=⟨_,_,g_ways,b_ways,k_ways,m_ways⟩
 have c_l_cell:=Zan (P:=l.prog) (w:=w) (base:=base) d_l_cell z_len
 have c_l_numbers:=B9 (P:=l.prog) (w:=w) (base:=base) d_l_numbers z_abs z_range z_int
 have c_l_common:=C9 (P:=l.prog) (w:=w) (base:=base) d_l_common z_abs
 have c_l_lowest:=Da d_l_lowest c_l_common
 have c_l_side:=Zao (P:=l.prog) (w:=w) (base:=base) d_l_side
 have c_l_hall:=Zap d_l_hall c_l_numbers c_l_side z_range z_sorted z_tuple
 have c_l_part:=Zaq d_l_part c_l_lowest
 have c_l_people:=Db d_l_people c_l_numbers c_l_part z_range
 have c_l_size:=Zar (P:=l.prog) (w:=w) (base:=base) d_l_size
 have c_l_less:=Zat (P:=l.prog) (w:=w) (base:=base) d_l_less
 have c_l_back:=Zau (P:=l.prog) (w:=w) (base:=base) d_l_back z_int z_range
 have c_l_in_order:=La d_l_in_order c_l_less
 exact Zkt FL c_l_size c_l_cell c_l_hall c_l_people c_ways c_l_in_order c_l_back z_len z_isinstance z_list
theorem reps_ints {K:PySem.W.Frag}{H:Hp}:∀ns:List Int,Reps K H (ns.map D.int) (ns.map V.int)
 |[]=>Reps.nil
 |_::ns=>Reps.cons (rep_int.mpr rfl) (reps_ints ns)
def walk {l:PySem.W.OpenLaw}{q:Program}{loose:List Str}{XP:(Str->Option Value)->Heap->Prop}{YP:World->Heap->Prop}{d:DefRec}{K:Params->PySem.W.Frag}(hn:l.most=some 63)(hdf:d.params.defaults=[])(hT:∀ns:List Int,ns.length<=63->Mj [.lst (ns.map D.int)]=.ok (.im (.bl true)))(hY:∀(w:World) (h:Heap),YP w h->(K w.params).In h)
  (F:∀(w:World) (mg:Str->Option Value) (fa:Addr) (h:Heap),(K w.params).In h->h.Ns mainGlobals mg->mg d.name=some (.ref fa) ->
   ∃fd:FuncData,(∀(s:Shared) (u:Value),BindsTo s fd ⟨[u],[]⟩ [("_law_script", u)])/\∀base:Heap,(K w.params).In base->base.Ns mainGlobals mg->FnOk l.prog w (K w.params) mg base Ye 8 fa fd ["_law_script"] (Tl (K w.params) Mj)):
  PySem.W.WalkO q loose XP YP l.row.toRowW d [] (fun f vs=>PySem.call f vs):=
 L2.Zfj (n:=63) (k:=8) (x:="_law_script") (CX:=fun w=>Ye) (sp:=fun w=>Tl (K w.params) Mj) hn (by decide) hdf ⟨rfl,by decide,by decide⟩ hY F
  (fun w H a ns hl _ hS=>⟨H,[.lst (ns.map D.int)],.im (.bl true),Same.refl _,Reps.cons (rep_lst.mpr ⟨a,ns.map V.int,rfl,hS,reps_ints ns⟩) Reps.nil,hT ns hl,fun v Hf' H' _ r=>(rep_bl (K:=K w.params) (H:=Hf')).mp r⟩) fun _ _ _ _ _ z=>z
def Zgv {k:Nat}(h:k<=900):10 ^ k<2 ^ 4000:=by
 have h1:(10:Nat) ^ k<=16 ^ k:=Nat.pow_le_pow_left (by decide) k
 have h2:(16:Nat) ^ k=2 ^ (4*k):=by rw[show(16:Nat)=2 ^ 4 from rfl,<-Nat.pow_mul]
 have h3:(2:Nat) ^ (4*k)<2 ^ 4000:=Nat.pow_lt_pow_right (by decide) (by lia)
 lia
def Q8 {x:Int}{k:Nat}(h:x.natAbs<=10 ^ k)(hk:k<=900):sm x=true:=sm_iff.mpr (Nat.lt_of_le_of_lt h (Zgv hk))
def Qq {x y:Int}{j k:Nat}(hx:x.natAbs<=10 ^ j)(hy:y.natAbs<=10 ^ k):(x*y).natAbs<=10 ^ (j+k):=by
 rw[Int.natAbs_mul,Nat.pow_add]
 exact Nat.mul_le_mul hx hy
def Nf {x y:Int}{k:Nat}(hx:x.natAbs<=10 ^ k)(hy:y.natAbs<=10 ^ k):(x-y).natAbs<=10 ^ (k+1):=by
 have:=Int.natAbs_sub_le x y
 rw[Nat.pow_succ]
 lia
def Zku (n:Nat):Sa 0 n=(List.range n).map fun(k:Nat)=>D.int (k:Int):=by
 unfold Sa;simp
def Zkv {fs:Zf->M (List D)}{sd:Zf}{n:Nat}(h:fs sd=.ok [.int (n:Int)])(hn:n<=1000):Xb fs sd=.ok ((List.range n).map fun(k:Nat)=>D.int (k:Int)):=by
 simp[Xb,h,Zku]
 lia
def K2 {ds:List D}(h:ds.length<=1000000):few ds=true:=decide_eq_true h
def Zln (m:Nat)(f:Zf->M O)(a0:D):Ug 1 m f [a0]=Nx (f ([some (S.im a0)]++List.replicate m none)):=rfl
def Zdo (m:Nat)(f:Zf->M O)(a0 a1:D):Ug 2 m f [a0,a1]=Nx (f ([some (S.im a0),some (S.im a1)]++List.replicate m none)):=rfl
def Zkw (m:Nat)(f:Zf->M O)(a0 a1 a2:D):Ug 3 m f [a0,a1,a2]=Nx (f ([some (S.im a0),some (S.im a1),some (S.im a2)]++List.replicate m none)):=rfl
def Zm6 (m:Nat)(f:Zf->M O)(a0 a1 a2 a3:D):Ug 4 m f [a0,a1,a2,a3]=Nx (f ([some (S.im a0),some (S.im a1),some (S.im a2),some (S.im a3)]++List.replicate m none)):=rfl
def Zo9 (m:Nat)(f:Zf->M O)(a0 a1 a2 a3 a4:D):Ug 5 m f [a0,a1,a2,a3,a4]=Nx (f ([some (S.im a0),some (S.im a1),some (S.im a2),some (S.im a3),some (S.im a4)]++List.replicate m none)):=rfl
def Zgw {f g:Zf->M O}{sd sd':Zf}(h:f sd=.ok (.nx sd')):Zx f g sd=g sd':=by unfold Zx;rw[h];rfl
def Yp {f g:Zf->M O}{sd:Zf}{s:S}(h:f sd=.ok (.rt s)):Zx f g sd=.ok (.rt s):=by unfold Zx;rw[h];rfl
def Yq {fi:Zf->M (List D)}{g:D->Zf->M Zf}{f:Zf->M O}{sd:Zf}{ds:List D}(h:fi sd=.ok ds):Jm fi g f sd=Xd g f ds sd:=by unfold Jm;rw[h];rfl
def go {f g:Zf->M O}{sd sd':Zf}{r:M O}(h:f sd=.ok (.nx sd'))(k:g sd'=r):Zx f g sd=r:=(Zgw h).trans k
def Z7 {r:M O}{s:S}(h:r=.ok (.rt s)):Nx r=.ok s:=by rw[h];rfl
def Kg (i:Nat)(sd:Zf):Nz i (Tu Zk) sd=.ok (.nx (sd.set i (some (.ow [])))):=by
 unfold Nz Tu Zk
 rw[M.bind_ok,K2 (Nat.zero_le _),if_pos rfl,M.bind_ok]
def Zm7 {n:Nat}(h:n<=10 ^ 30):n<2 ^ 4000:=by
 have h1:(10:Nat) ^ 30<=16 ^ 30:=Nat.pow_le_pow_left (by decide) 30
 have h2:(16:Nat) ^ 30=2 ^ 120:=by rw[show(16:Nat)=2 ^ 4 from rfl,<-Nat.pow_mul]
 have h3:(2:Nat) ^ 120<2 ^ 4000:=Nat.pow_lt_pow_right (by decide) (by decide)
 lia
def Dc {x:Int}(h:-1000000000000000000000000000000<=x)(h':x<=1000000000000000000000000000000):sm x=true:=sm_iff.mpr (Zm7 (by have:(10:Nat) ^ 30=1000000000000000000000000000000:=rfl;lia))
def gT {i j:Int}(hi:sm i=true)(hj:sm j=true):Zt (.int i) (.int j)=.ok (.int (i*j)):=by
 show(if(sm i&&sm j)=true then _ else _)=_
 rw[hi,hj];rfl
def Ie {i j:Int}(hj:0<j)(hs:sm j=true):Xj (.int i) (.int j)=.ok (.int (i/j)):=by
 show(if(j != 0&&sm j)=true then M.ok (D.int (i.fdiv j)) else _)=_
 have:(j != 0)=true:=by simp;lia
 rw[this,hs,Int.fdiv_eq_ediv_of_nonneg i (by lia)];rfl
def gM {i j:Int}(hj:0<j):Yd (.int i) (.int j)=.ok (.int (i%j)):=by
 show(if(j != 0)=true then M.ok (D.int (i.fmod j)) else _)=_
 have:(j != 0)=true:=by simp;lia
 rw[this,Int.fmod_eq_emod_of_nonneg i (by lia)];rfl
def Zy {i:Nat}{f:Zf->M D}{sd:Zf}{d:D}(h:f sd=.ok d):Z4 i f sd=.ok (.nx (sd.set i (some (.im d)))):=by unfold Z4;rw[h];rfl
def Z3 {F:List D->M S}{fs:Zf->M (List D)}{sd:Zf}{ds:List D}{s:S}{d:D}(h1:fs sd=.ok ds)(h2:F ds=.ok s)(h3:s.toD=.ok d):Z5 F fs sd=.ok d:=by
 unfold Z5;rw[h1,M.bind_ok,h2];exact h3
def a1 {fa:Zf->M D}{sd:Zf}{d:D}(h:fa sd=.ok d):Zc fa Zk sd=.ok [d]:=by unfold Zc Zk;rw[h];rfl
def aC {fa:Zf->M D}{fr:Zf->M (List D)}{sd:Zf}{d:D}{ds:List D}(h:fa sd=.ok d)(h2:fr sd=.ok ds):Zc fa fr sd=.ok (d::ds):=by unfold Zc;rw[h,M.bind_ok,h2];rfl
def Z1 {f:Zf->M D}{sd:Zf}{d:D}(h:f sd=.ok d):Q0 f sd=.ok (.rt (.im d)):=by unfold Q0;rw[h];rfl
def K3 {g:List D->M D}{fs:Zf->M (List D)}{sd:Zf}{ds:List D}{r:M D}(h1:fs sd=.ok ds)(h2:g ds=r):Vl g fs sd=r:=by unfold Vl;rw[h1];exact h2
def Yr {g:D->Zf->M Zf}{f:Zf->M O}{d:D}{r:List D}{sd sd1 sd2:Zf}(h1:g d sd=.ok sd1)(h2:f sd1=.ok (.nx sd2)):Xd g f (d::r) sd=Xd g f r sd2:=by
 simp only[Xd,h1,h2,M.bind_ok]
def Yk {α:Type}(x:α)(r:List α):P3 (x::r) 0=some x:=by
 have:=U9 (xs:=x::r) (j:=0) (v:=x) rfl
 exact this
def Yo {α:Type}(x y:α)(r:List α):P3 (x::y::r) 1=some y:=by
 have:=U9 (xs:=x::y::r) (j:=1) (v:=y) rfl
 exact this
def W6 {x:Int}(h:-1000000000<=x)(h':x<=1000000000):sm x=true:=Dc (by lia) (by lia)
def Z6 {c:Zf->M Bool}{f:Zf->M O}{sd:Zf}(h:c sd=.ok false):Jw c f Y7 sd=.ok (.nx sd):=by unfold Jw;rw[h];rfl
def Zia {f g:Zf->M Bool}{sd:Zf}(h1:f sd=.ok false)(h2:g sd=.ok false):DL.tO f g sd=.ok false:=by unfold DL.tO;rw[h1];exact h2
def Zdp {f:Zf->M Bool}{sd:Zf}(h:f sd=.ok true):DL.tN f sd=.ok false:=by unfold DL.tN;rw[h];rfl
def Qn {f:Zf->M D}{sd:Zf}{b:Bool}(h:f sd=.ok (.bl b)):DL.tB f sd=.ok b:=by unfold DL.tB;rw[h];rfl
def Zm {g:D->D->M D}{fa fb:Zf->M D}{sd:Zf}{x y:D}{r:M D}(h1:fa sd=.ok x)(h2:fb sd=.ok y)(h3:g x y=r):Zp g fa fb sd=r:=by unfold Zp;rw[h1,M.bind_ok,h2,M.bind_ok,h3]
def Zdq {f g:Zf->M D}{sd:Zf}{r:M D}(h1:f sd=.ok (.bl true))(h2:g sd=r):Ts f g sd=r:=by unfold Ts;rw[h1,M.bind_ok];exact h2
def Qr {c:Zf->M Bool}{f g:Zf->M O}{sd:Zf}{r:M O}(h:c sd=.ok true)(k:f sd=r):Jw c f g sd=r:=by unfold Jw;rw[h];exact k
def Ig {c:Zf->M Bool}{f g:Zf->M O}{sd:Zf}{r:M O}(h:c sd=.ok false)(k:g sd=r):Jw c f g sd=r:=by unfold Jw;rw[h];exact k
def Zpa {f g:Zf->M Bool}{sd:Zf}(h1:f sd=.ok true):DL.tO f g sd=.ok true:=by unfold DL.tO;rw[h1];rfl
def Zpb {f g:Zf->M Bool}{sd:Zf}{r:M Bool}(h1:f sd=.ok false)(h2:g sd=r):DL.tO f g sd=r:=by unfold DL.tO;rw[h1];exact h2
def Zm8 {f:Zf->M Bool}{sd:Zf}{b:Bool}(h:f sd=.ok b):DL.tN f sd=.ok (!b):=by unfold DL.tN;rw[h];rfl
def Zav {f g:Zf->M Bool}{sd:Zf}(h1:f sd=.ok false):DL.tA f g sd=.ok false:=by unfold DL.tA;rw[h1];rfl
def Lb {f g:Zf->M Bool}{sd:Zf}{r:M Bool}(h1:f sd=.ok true)(h2:g sd=r):DL.tA f g sd=r:=by unfold DL.tA;rw[h1];exact h2
def Zm9 {f g:Zf->M D}{sd:Zf}(h1:f sd=.ok (.bl false)):Ts f g sd=.ok (.bl false):=by unfold Ts;rw[h1];rfl
def Pw {c:Zf->M Bool}{f g:Zf->M D}{sd:Zf}{r:M D}(h:c sd=.ok true)(k:f sd=r):D0 c f g sd=r:=by unfold D0;rw[h];exact k
def S7 {c:Zf->M Bool}{f g:Zf->M D}{sd:Zf}{r:M D}(h:c sd=.ok false)(k:g sd=r):D0 c f g sd=r:=by unfold D0;rw[h];exact k
def Zdr {α:Type}(x y z:α)(r:List α):P3 (x::y::z::r) 2=some z:=U9 (xs:=x::y::z::r) (j:=2) (v:=z) rfl
def Zds:Zf->M O:=(Zx (Z4 3 (Zp Yd (Zp Qe (Zp Qe (Zp Zt (Zd 3) (Zp Qe (Zp Yd (Zd 3) ↑65521) ↑40487)) (Zp Zt ↑7 (Zd 5))) ↑5) ↑1999999973))
   (Zx (Ur 2 (Zp Km (Wo (Zc (Zd 3) (Zc (Zp Yd (Zd 4) ↑1000000) Zk))) (Vl Bc (Zc (Zp Rc (Zd 4) ↑0) Zk))))
   (Z4 4 (Zp Xj (Zd 4) ↑1000000))))
def Zgx (d:Int):Prop:=0<=d/\d<1999999973
def Zgy (s0 s1:Option S)(ds:List D)(hd:ds.length<=1000)(N R K:Int)(hN:0<=N)(hN':N<1999999973)(hK:0<=K)(hK':K<=1000):
  ∃d N':Int,0<=N'/\N'<1999999973/\Zgx d/\Zds [s0,s1,some (.ow ds),some (.im (.int N)),some (.im (.int R)),some (.im (.int K))] =
   .ok (.nx [s0,s1,some (.ow (ds++[.int d])),some (.im (.int N')),some (.im (.int (R/1000000))),some (.im (.int K))]):=by
 have q1:0<=N%65521:=Int.emod_nonneg _ (by decide)
 have q2:N%65521<65521:=Int.emod_lt_of_pos _ (by decide)
 have g1:=gM (i:=N) (j:=65521) (by decide)
 have g2:=gT (i:=N) (j:=N%65521+40487) (Dc (by lia) (by lia)) (Dc (by lia) (by lia))
 have g3:=gT (i:=7) (j:=K) (Dc (by lia) (by lia)) (Dc (by lia) (by lia))
 have g4:=gM (i:=N*(N%65521+40487)+7*K+5) (j:=1999999973) (by decide)
 have e1:Z4 3 (Zp Yd (Zp Qe (Zp Qe (Zp Zt (Zd 3) (Zp Qe (Zp Yd (Zd 3) ↑65521) ↑40487)) (Zp Zt ↑7 (Zd 5))) ↑5) ↑1999999973)
   [s0,s1,some (.ow ds),some (.im (.int N)),some (.im (.int R)),some (.im (.int K))] =
   .ok (.nx [s0,s1,some (.ow ds),some (.im (.int ((N*(N%65521+40487)+7*K+5)%1999999973))),some (.im (.int R)),some (.im (.int K))]):=by
  simp[Z4,Zp,Zd,eC,g1,Qe,g2,g3,g4]
 have b1:0<=(N*(N%65521+40487)+7*K+5)%1999999973:=Int.emod_nonneg _ (by decide)
 have b2:(N*(N%65521+40487)+7*K+5)%1999999973<1999999973:=Int.emod_lt_of_pos _ (by decide)
 generalize (N*(N%65521+40487)+7*K+5)%1999999973=N' at e1 b1 b2
 have f1:few ds=true:=K2 (by lia)
 have g5:=gM (i:=R) (j:=1000000) (by decide)
 have g8:=Ie (i:=R) (j:=1000000) (by decide) (Dc (by decide) (by decide))
 have f2:few [D.int N',D.int (R%1000000)]=true:=K2 (by simp)
 by_cases hR:R > 0
 ·have p1:0<=R%1000000:=Int.emod_nonneg _ (by decide)
  have p2:R%1000000<1000000:=Int.emod_lt_of_pos _ (by decide)
  refine⟨R%1000000,N',b1,b2,⟨p1,by lia⟩,go e1 ?_⟩
  simp[Zx,Ur,Zp,Wo,Zc,Zk,Zd,eC,g5,f2,Vl,Rc,A4,hR,Bc,Km,Yo,f1,Z4,g8]
 ·refine⟨N',N',b1,b2,⟨b1,b2⟩,go e1 ?_⟩
  simp[Zx,Ur,Zp,Wo,Zc,Zk,Zd,eC,g5,f2,Vl,Rc,A4,hR,Bc,Km,Yk,f1,Z4,g8]
theorem Ih (s0 s1:Option S):∀(ks:List Nat) (ds:List Int) (N R:Int) (v:Option S),ds.length+ks.length<=1000->(∀k∈ks,k<=1000)->0<=N->N<1999999973->(∀d∈ds,Zgx d) ->
  ∃(es:List Int) (N' R':Int) (v':Option S),es.length=ds.length+ks.length/\(∀d∈es,Zgx d)/\Xd (X4 5) Zds (ks.map fun(k:Nat)=>D.int (k:Int)) [s0,s1,some (.ow (ds.map D.int)),some (.im (.int N)),some (.im (.int R)),v] =
   .ok (.nx [s0,s1,some (.ow (es.map D.int)),some (.im (.int N')),some (.im (.int R')),v'])
 |[],ds,N,R,v,_,_,_,_,hd=>⟨ds,N,R,v,by simp,hd,by simp[Xd]⟩
 |k::ks,ds,N,R,v,h,hk,hN,hN',hd=>by
  rw[List.length_cons] at h
  have hk0:=hk k List.mem_cons_self
  obtain⟨d,N1,h1,h2,h3,e⟩:=Zgy s0 s1 (ds.map D.int) (by simp;lia) N R (k:Int) hN hN' (by lia) (by lia)
  obtain⟨es,N',R',v',hl,ho,ih⟩:=Ih s0 s1 ks (ds++[d]) N1 (R/1000000) (some (.im (.int (k:Int)))) (by simp;lia) (fun k hk'=>hk k (List.mem_cons_of_mem _ hk')) h1 h2 (fun d' hd'=>by
   rcases List.mem_append.mp hd' with q|q
   ·exact hd d' q
   ·have:d'=d:=by simpa using q
    rw[this];exact h3)
  refine⟨es,N',R',v',by rw[hl];simp;lia,ho,?_⟩
  rw[List.map_append,List.map_cons,List.map_nil] at ih
  rw[<-ih]
  simp[Xd,X4,e]
def Ml (c:Int)(n:Nat)(hn:n<=1000):∃es:List Int,es.length=n/\(∀d∈es,Zgx d)/\Xn [.int c,.int (n:Int)]=.ok (.ow (es.map D.int)):=by
 have g1:=gM (i:=c) (j:=1999999973) (by decide)
 have q1:0<=c%1999999973:=Int.emod_nonneg _ (by decide)
 have q2:c%1999999973<1999999973:=Int.emod_lt_of_pos _ (by decide)
 have g2:=gT (i:=c%1999999973+31) (j:=765432101) (Dc (by lia) (by lia)) (Dc (by lia) (by lia))
 have g3:=gM (i:=(c%1999999973+31)*765432101) (j:=1999999973) (by decide)
 have g4:Zfn (.int 10) (.int 18)=.ok (.int 1000000000000000000):=rfl
 have b1:0<=(c%1999999973+31)*765432101%1999999973:=Int.emod_nonneg _ (by decide)
 have b2:(c%1999999973+31)*765432101%1999999973<1999999973:=Int.emod_lt_of_pos _ (by decide)
 have e2:Z4 3 (Zp Yd (Zp Zt (Zp Qe (Zp Yd (Zd 0) ↑1999999973) ↑31) ↑765432101) ↑1999999973) [some (.im (.int c)),some (.im (.int (n:Int))),some (.ow []),none,none,none] =
   .ok (.nx [some (.im (.int c)),some (.im (.int (n:Int))),some (.ow []),some (.im (.int ((c%1999999973+31)*765432101%1999999973))),none,none]):=by
  simp[Z4,Zp,Zd,eC,g1,Qe,g2,g3]
 generalize (c%1999999973+31)*765432101%1999999973=N at e2 b1 b2
 obtain⟨R,e4⟩:∃R:Int,(Jw (DL.tO (DL.tB (Zp Tq (Zd 0) ↑0)) (DL.tB (Zp Zmg (Zd 0) (Zp Zfn ↑10 ↑18)))) (Z4 4 (Vl Ul (Zc (Zd 0) Zk))) Y7) [some (.im (.int c)),some (.im (.int (n:Int))),some (.ow []),some (.im (.int N)),some (.im (.int 0)),none] =
   .ok (.nx [some (.im (.int c)),some (.im (.int (n:Int))),some (.ow []),some (.im (.int N)),some (.im (.int R)),none]):=by
  by_cases h1:c<0
  ·exact⟨-c,by simp[Jw,DL.tO,DL.tB,Zp,Zd,eC,Tq,A4,h1,asB,Z4,Vl,Ul,Zc,Zk]⟩
  ·by_cases h2:1000000000000000000<=c
   ·exact⟨c,by simp[Jw,DL.tO,DL.tB,Zp,Zd,eC,Tq,Zmg,A4,h1,h2,g4,asB,Z4,Vl,Ul,Zc,Zk]⟩
   ·exact⟨0,by simp[Jw,DL.tO,DL.tB,Zp,Zd,eC,Tq,Zmg,A4,h1,h2,g4,asB,Z4,Vl,Ul,Zc,Zk,Y7]⟩
 obtain⟨es,N',R',v',hl,ho,e5⟩:=Ih (some (.im (.int c))) (some (.im (.int (n:Int)))) (List.range n) [] N R none (by simp;lia) (fun k hk=>by have:=List.mem_range.mp hk;lia) b1 b2 (fun d hd=>by simp at hd)
 refine⟨es,by simpa using hl,ho,?_⟩
 have r1:∀s0 s,Xb (Zc (Zd 1) Zk) (s0::some (.im (.int (n:Int)))::s)=.ok ((List.range n).map fun(k:Nat)=>D.int (k:Int)):=fun s0 s=>Zkv (by simp[Zc,Zk,Zd]) hn
 exact(Zdo _ _ _ _).trans (Z7 (go (Kg 2 _) (go e2 (go rfl (go e4 (go ((Yq (r1 _ _)).trans e5) rfl))))))
def W7 {fa fb:Zf->M D}{sd:Zf}{a b:D}(h1:fa sd=.ok a)(h2:fb sd=.ok b):Qv (Zc fa (Zc fb Zk)) sd=.ok (.tup [a,b]):=by
 unfold Qv;rw[aC h1 (a1 h2)];rfl
def Fg {fs:Zf->M (List D)}{sd:Zf}{ds:List D}(h:fs sd=.ok ds)(hf:few ds=true):Wo fs sd=.ok (.lst ds):=by
 unfold Wo
 rw[h,M.bind_ok,if_pos hf]
def Jx {x y:D}(h:x.dep<=60):Jq x y=.ok (.bl (D.eq x y)):=if_pos h
def Mn {x y:D}(h:x.dep<=60):Bh x y=.ok (.bl (!D.eq x y)):=if_pos h
def X2 (a b:Int):Jq (.int a) (.int b)=.ok (.bl (a==b)):=by rw[Jx (by simp[D.dep])];simp only[D.eq]
def Zkx {f g:Zf->M Bool}{sd:Zf}{a b:Bool}(h1:f sd=.ok a)(h2:g sd=.ok b):DL.tO f g sd=.ok (a||b):=by
 cases a
 ·exact Zpb h1 h2
 ·exact Zpa h1
def Zky {f g:Zf->M Bool}{sd:Zf}{a b:Bool}(h1:f sd=.ok a)(h2:g sd=.ok b):DL.tA f g sd=.ok (a&&b):=by
 cases a
 ·exact Zav h1
 ·exact Lb h1 h2
def Zdt {f g:Zf->M D}{sd:Zf}{a b:Bool}(h1:f sd=.ok (.bl a))(h2:g sd=.ok (.bl b)):Ts f g sd=.ok (.bl (a&&b)):=by
 cases a
 ·exact Zm9 h1
 ·exact Zdq h1 h2
theorem Wl {n:Nat}:∀{l:List D},(∀d∈l,d.dep<=n)->D.deps l<=n
 |[],_=>by simp[D.deps]
 |a::r,h=>by
  simp only[D.deps]
  have:=h a (by simp)
  have:=Wl (l:=r) fun d hd=>h d (by simp[hd])
  lia
def Fh {i:Nat}{f:Zf->M D}{sd:Zf}{ds:List D}{d:D}(h:sd[i]?=some (some (.ow ds)))(hf:f sd=.ok d)(hl:ds.length<=1000):Ur i f sd=.ok (.nx (sd.set i (some (.ow (ds++[d]))))):=by
 unfold Ur
 rw[h]
 dsimp only
 rw[hf,M.bind_ok,K2 (by lia),if_pos rfl]
def Ii {f:Zf->M D}{sd:Zf}{ds:List D}(h:f sd=.ok (.tup ds)):Vn f sd=.ok ds:=by
 unfold Vn
 rw[h]
 rfl
def Px {f:Zf->M D}{sd:Zf}{ds:List D}(h:f sd=.ok (.lst ds)):Vn f sd=.ok ds:=by
 unfold Vn
 rw[h]
 rfl
theorem Zgz {α:Type}{gt:D->Zf->M Zf}{fe:Zf->M D}{sd0:Zf}(e g:α->D):∀l:List α,(∀a∈l,∃sd1,gt (e a) sd0=.ok sd1/\fe sd1=.ok (g a))->Jz gt fe sd0 (l.map e)=.ok (l.map g)
 |[],_=>rfl
 |a::l,h=>by
  obtain⟨sd1,h1,h2⟩:=h a (by simp)
  rw[List.map_cons,List.map_cons]
  simp only[Jz,h1,h2,Zgz e g l fun b hb=>h b (by simp[hb])]
def Zdu {xs ys:List D}(h:xs.length+ys.length<=1000):Qe (.lst xs) (.lst ys)=.ok (.lst (xs++ys)):=by
 show(if few (xs++ys) then M.ok (D.lst (xs++ys)) else .bad)=_
 rw[K2 (by rw[List.length_append];lia),if_pos rfl]
def Dd {g l:Int}(hg:0<=g)(hl:0<l):Int.gcd l (g%l)=Int.gcd g l:=by
 obtain⟨g',rfl⟩:=Int.eq_ofNat_of_zero_le hg
 obtain⟨l',rfl⟩:=Int.eq_ofNat_of_zero_le (Int.le_of_lt hl)
 rw[<-Int.natCast_emod]
 simp only[Int.gcd,Int.natAbs_natCast]
 rw[Nat.gcd_comm l',<-Nat.gcd_rec,Nat.gcd_comm]
def Zaw {g:Int}(hg:0<=g):((Int.gcd g 0:Nat):Int)=g:=by
 rw[Int.gcd_zero_right];lia
theorem Ij (x y:Option S):∀(n:Nat) (g l:Int) (r:Option S),0<=g->0<=l->l.toNat<n ->
  ∃r',Ym (DL.tB (Zp Bh (Zd 3) ↑0)) (Zx (Z4 4 (Zp Yd (Zd 2) (Zd 3))) (Zx (Z4 2 (Zd 3)) (Z4 3 (Zd 4)))) n [x,y,some (.im (.int g)),some (.im (.int l)),r] =
   .ok (.nx [x,y,some (.im (.int (Int.gcd g l:Nat))),some (.im (.int 0)),r'])
 |0,_,_,_,_,_,h=>by lia
 |n+1,g,l,r,hg,hl,h=>by
  by_cases hz:l=0
  ·subst hz
   refine⟨r,?_⟩
   simp[Ym,DL.tB,Zp,Zd,eC,Bh,D.dep,D.eq,asB,Zaw hg]
   lia
  ·have hp:0<l:=by lia
   have hm0:0<=g%l:=Int.emod_nonneg g (by lia)
   have hm1:g%l<l:=Int.emod_lt_of_pos g hp
   obtain⟨r',e⟩:=Ij x y n l (g%l) (some (.im (.int (g%l)))) hl hm0 (by lia)
   refine⟨r',?_⟩
   rw[Dd hg hp] at e
   rw[<-e]
   simp[Ym,DL.tB,Zp,Zd,eC,Bh,D.dep,D.eq,asB,Zx,Z4,gM hp,hz]
def ab (a:Int):(if a<0 then -a else a)=(a.natAbs:Int):=by split<;>lia
def Pf (a:Int):Ul [.int a]=.ok (.int (a.natAbs:Int)):=by
 show M.ok (D.int (if a<0 then -a else a))=_
 rw[ab]
def Zpc (a b:Int):Xs [.int a,.int b]=.ok (.im (.int (Int.gcd a b:Nat))):=by
 obtain⟨r',e⟩:=Ij (some (.im (.int a))) (some (.im (.int b))) (b.natAbs+1) a.natAbs b.natAbs none (by lia) (by lia) (by lia)
 have e2:=Lu (c:=DL.tB (Zp Bh (Zd 3) ↑0)) (f:=Zx (Z4 4 (Zp Yd (Zd 2) (Zd 3))) (Zx (Z4 2 (Zd 3)) (Z4 3 (Zd 4)))) (n:=b.natAbs+1) (sd:=[some (.im (.int a)),some (.im (.int b)),some (.im (.int a.natAbs)),some (.im (.int b.natAbs)),none]) (by rw[e];simp)
 rw[e] at e2
 refine(Zdo _ _ _ _).trans (Z7 (go (Zy (K3 (a1 rfl) (Pf a))) (go (Zy (K3 (a1 rfl) (Pf b))) (go e2 (Z1 ?_)))))
 show M.ok (D.int ((Int.gcd (a.natAbs:Int) (b.natAbs:Int):Nat):Int))=_
 simp[Int.gcd]
def nD (p q:Int):D:=.tup [.int p,.int q]
def Yw (t b:Int):D:=nD (t/(Int.gcd t b:Nat)) (b/(Int.gcd t b:Nat))
def Aa {t b:Int}(hb:b≠0\/t≠0):(0:Int)<(Int.gcd t b:Nat):=by
 have:0<Int.gcd t b:=Nat.pos_of_ne_zero fun z=>by
  have:=Int.gcd_eq_zero_iff.mp z
  lia
 lia
def Vs {fa fb:Zf->M D}{sd:Zf}{ds:List D}{i:Int}{d:D}(h:fa sd=.ok (.lst ds))(h2:fb sd=.ok (.int i))(e:P3 ds i=some d):Zp Km fa fb sd=.ok d:=by
 refine Zm h h2 ?_
 show(match P3 ds i with|some d=>M.ok d|none=>.bad)=_
 rw[e]
def Zq {fa fb:Zf->M D}{sd:Zf}{ds:List D}{i:Int}{d:D}(h:fa sd=.ok (.tup ds))(h2:fb sd=.ok (.int i))(e:P3 ds i=some d):Zp Km fa fb sd=.ok d:=by
 refine Zm h h2 ?_
 show(match P3 ds i with|some d=>M.ok d|none=>.bad)=_
 rw[e]
def Fi {f:Zf->M (List D)}{sd:Zf}{ds:List D}(h:f sd=.ok ds):Tt f sd=.ok (.lst ds):=by
 unfold Tt;rw[h];rfl
def Rk {fi:Zf->M (List D)}{n0:Nat}{caps:List Nat}{gt:D->Zf->M Zf}{fe:Zf->M D}{sd:Zf}{ds:List D}{r:M (List D)}(h:fi sd=.ok ds)(hf:ds.length<=1000)(hr:Jz gt fe (Uh n0 caps sd) ds=r):Uq fi n0 caps gt fe sd=r:=by
 unfold Uq
 rw[h,M.bind_ok,K2 (by lia),if_pos rfl,hr]
def Zg0 {i:Nat}{f:Zf->M Bool}{sd:Zf}{b:Bool}(h:f (frz i sd)=.ok b):Pq i f sd=.ok b:=by
 unfold Pq
 rw[h]
def Rl {i:Nat}{f:Zf->M O}{sd:Zf}{r:M O}(h:f (frz i sd)=r):Ce i f sd=r:=h
def Fj {ds:List D}:Tr [.lst ds]=.ok (.int (ds.length:Int)):=rfl
def m4 (a b c d:Int):a*b*(c*d)=a*c*(b*d):=by rw[Int.mul_assoc,Int.mul_assoc,Int.mul_left_comm b]
def Qx {t b:Int}(hb:0<b):∃p q,Yw t b=nD p q/\0<q/\p*b=t*q/\Int.gcd p q=1/\p.natAbs<=t.natAbs/\q<=b:=by
 obtain⟨u,eu⟩:((Int.gcd t b:Nat):Int) ∣ t:=Int.gcd_dvd_left t b
 obtain⟨v,ev⟩:((Int.gcd t b:Nat):Int) ∣ b:=Int.gcd_dvd_right t b
 have gp:=Aa (t:=t) (b:=b) (by lia)
 have hg:Int.gcd u v=1:=by
  have h1:Int.gcd ((Int.gcd t b:Nat)*u) ((Int.gcd t b:Nat)*v)=Int.gcd t b:=by rw[<-eu,<-ev]
  rw[Int.gcd_mul_left,Int.natAbs_natCast] at h1
  have h0:0<Int.gcd t b:=by lia
  exact Nat.eq_of_mul_eq_mul_left h0 (by rw[h1,Nat.mul_one])
 refine⟨t/(Int.gcd t b:Nat),b/(Int.gcd t b:Nat),rfl,?_⟩
 generalize ((Int.gcd t b:Nat):Int)=g at eu ev gp ⊢
 rw[eu,ev,Int.mul_ediv_cancel_left _ (by lia),Int.mul_ediv_cancel_left _ (by lia)]
 have v1:0<v:=by
  rcases Int.lt_or_le 0 v with h|h
  ·exact h
  ·have:=Int.mul_nonpos_of_nonneg_of_nonpos (Int.le_of_lt gp) h;lia
 refine⟨v1,by rw[Int.mul_left_comm,Int.mul_assoc],hg,?_,?_⟩
 ·rw[Int.natAbs_mul]
  exact Nat.le_mul_of_pos_left _ (by lia)
 ·have:=Int.mul_le_mul_of_nonneg_right (show(1:Int)<=g by lia) (Int.le_of_lt v1)
  lia
def Zax {p q p' q':Int}(hq:0<q)(hq':0<q')(c:Int.gcd p q=1)(c':Int.gcd p' q'=1)(e:p*q'=p'*q):p=p'/\q=q':=by
 have half:∀{p q p' q':Int},Int.gcd p q=1->p*q'=p'*q->q ∣ q':=fun {p q p' q'} c e=>by
  have:q ∣ p*q':=by rw[e];exact Int.dvd_mul_left _ _
  have c2:Int.gcd q p=1:=by rw[Int.gcd_comm];exact c
  have h1:q.natAbs ∣ p.natAbs*q'.natAbs:=by rw[<-Int.natAbs_mul];exact Int.natAbs_dvd_natAbs.mpr this
  have h2:q.natAbs ∣ q'.natAbs:=Nat.Coprime.dvd_of_dvd_mul_left (show Nat.Coprime q.natAbs p.natAbs from c2) h1
  exact Int.natAbs_dvd_natAbs.mp h2
 have d1:=half c e
 have d2:=half c' e.symm
 have eq:q=q':=by
  have h1:=Int.le_of_dvd hq' d1
  have h2:=Int.le_of_dvd hq d2
  lia
 subst eq
 exact⟨Int.eq_of_mul_eq_mul_right (by lia) e,rfl⟩
def Kj {t b t' b':Int}(hb:0<b)(hb':0<b')(e:t*b'=t'*b):Yw t b=Yw t' b':=by
 obtain⟨p,q,e1,q1,r1,c1,_⟩:=Qx (t:=t) hb
 obtain⟨p',q',e2,q2,r2,c2,_⟩:=Qx (t:=t') hb'
 have:p=p'/\q=q':=by
  refine Zax q1 q2 c1 c2 ?_
  have h:(p*q')*(b*b')=(p'*q)*(b*b'):=by
   have a1:(p*q')*(b*b')=(p*b)*(q'*b'):=by rw[m4]
   have a2:(p'*q)*(b*b')=(p'*b')*(q*b):=by rw[Int.mul_comm b b',m4]
   have a3:(t*q)*(q'*b')=(t*b')*(q*q'):=by rw[Int.mul_comm q' b',m4]
   have a4:(t'*q')*(q*b)=(t'*b)*(q*q'):=by rw[Int.mul_comm q b,m4,Int.mul_comm q' q]
   rw[a1,a2,r1,r2,a3,a4,e]
  exact Int.eq_of_mul_eq_mul_right (Int.mul_ne_zero (by lia) (by lia)) h
 rw[e1,e2,this.1,this.2]
structure Fr (k:Nat) (p q:Int):Prop where
 pos:0<q
 top:p.natAbs<=10 ^ k
 bot:q.natAbs<=10 ^ k
def Fr.mono {j k:Nat}{p q:Int}(h:Fr j p q)(hk:j<=k):Fr k p q:=
 have:=Nat.pow_le_pow_right (show 0<10 by decide) hk
 ⟨h.pos,by have:=h.top;lia,by have:=h.bot;lia⟩
def Fk {k:Nat}{t b:Int}(h:Fr k t b):∃p q,Yw t b=nD p q/\Fr k p q/\p*b=t*q/\Int.gcd p q=1:=by
 obtain⟨p,q,e,q1,r,c,h1,h2⟩:=Qx (t:=t) h.pos
 have:=h.top
 have:=h.bot
 exact⟨p,q,e,⟨q1,by lia,by lia⟩,r,c⟩
def Zdv {k:Nat}{t b:Int}(h:t.natAbs<=10 ^ k)(h2:b.natAbs<=10 ^ k):(((Int.gcd t b:Nat):Int)).natAbs<=10 ^ k:=by
 rw[Int.natAbs_natCast]
 by_cases hz:b=0
 ·subst hz;simpa using h
 ·have h1:((Int.gcd t b:Nat):Int) ∣ b:=Int.gcd_dvd_right t b
  have h2:=Nat.le_of_dvd (by lia) (Int.natAbs_dvd_natAbs.mpr h1)
  rw[Int.natAbs_natCast] at h2
  lia
def Ng {k:Nat}{t b:Int}(h:Fr k t b)(hk:k<=900):Jc [.int t,.int b]=.ok (.im (Yw t b)):=by
 have gp:=Aa (t:=t) (b:=b) (by have:=h.pos;lia)
 have gs:sm ((Int.gcd t b:Nat):Int)=true:=Q8 (Zdv h.top h.bot) hk
 exact(Zdo _ _ _ _).trans (Z7 (go (Zy (Z3 (aC rfl (a1 rfl)) (Zpc t b) rfl)) (Z1 (W7 (Zm rfl rfl (Ie gp gs)) (Zm rfl rfl (Ie gp gs))))))
def Vk {j k:Nat}(h:j<=k):(10:Nat) ^ j<=10 ^ k:=Nat.pow_le_pow_right (by decide) h
def Rm {k:Nat}{a b c d:Int}(h1:Fr k a b)(h2:Fr k c d)(hk:k<=400):Ke [nD a b,nD c d]=.ok (.im (.bl (decide (a*d<c*b)))):=by
 have sa:=Q8 h1.top (by lia)
 have sb:=Q8 h1.bot (by lia)
 have sc:=Q8 h2.top (by lia)
 have sd:=Q8 h2.bot (by lia)
 exact(Zdo _ _ _ _).trans (Z7 (Z1 (Zm (Zm (Zq rfl rfl (Yk _ _)) (Zq rfl rfl (Yo _ _ _)) (gT sa sd)) (Zm (Zq rfl rfl (Yk _ _)) (Zq rfl rfl (Yo _ _ _)) (gT sc sb)) rfl)))
theorem Ik:∀(n:Nat) (hi lo:Int),0<=hi->0<=lo->lo.toNat<n ->
  Ym (DL.tB (Zp Rc (Zd 1) ↑0)) (O4 0 1 (Zc (Zd 1) (Zc (Zp Yd (Zd 0) (Zd 1)) Zk))) n [some (.im (.int hi)),some (.im (.int lo))] =
   .ok (.nx [some (.im (.int (Int.gcd hi lo:Nat))),some (.im (.int 0))])
 |0,_,_,_,_,h=>by lia
 |n+1,hi,lo,hg,hl,h=>by
  by_cases hz:lo=0
  ·subst hz
   simp[Ym,DL.tB,Zp,Zd,eC,Rc,A4,asB]
   lia
  ·have hp:0<lo:=by lia
   have hm0:0<=hi%lo:=Int.emod_nonneg hi (by lia)
   have hm1:hi%lo<lo:=Int.emod_lt_of_pos hi hp
   have e:=Ik n lo (hi%lo) hl hm0 (by lia)
   rw[Dd hg hp] at e
   rw[<-e]
   simp[Ym,DL.tB,Zp,Zd,eC,Rc,A4,asB,O4,Zc,Zk,gM hp,hp]
def Zdw {hi lo:Int}(h1:0<=hi)(h2:0<=lo):Wu (DL.tB (Zp Rc (Zd 1) ↑0)) (O4 0 1 (Zc (Zd 1) (Zc (Zp Yd (Zd 0) (Zd 1)) Zk))) [some (.im (.int hi)),some (.im (.int lo))]=.ok (.nx [some (.im (.int (Int.gcd hi lo:Nat))),some (.im (.int 0))]):=by
 have e:=Ik (lo.toNat+1) hi lo h1 h2 (by lia)
 have e2:=Lu (c:=DL.tB (Zp Rc (Zd 1) ↑0)) (f:=O4 0 1 (Zc (Zd 1) (Zc (Zp Yd (Zd 0) (Zd 1)) Zk))) (n:=lo.toNat+1) (sd:=[some (.im (.int hi)),some (.im (.int lo))]) (by rw[e];simp)
 exact e2.trans e
def Zkz (t b:Int):V8 [.int t,.int b]=.ok (.im (.int (Int.gcd t b:Nat))):=by
 have eg:((Int.gcd (t.natAbs:Int) (b.natAbs:Int):Nat):Int)=(Int.gcd t b:Nat):=by simp[Int.gcd]
 have w:=Zdw (hi:=(t.natAbs:Int)) (lo:=(b.natAbs:Int)) (by lia) (by lia)
 rw[eg] at w
 exact(Zdo _ _ _ _).trans (Z7 (go (Zy (K3 (a1 rfl) (Pf t))) (go (Zy (K3 (a1 rfl) (Pf b))) (go w (Z1 rfl)))))
def Zna {k:Nat}{t b:Int}(h:Fr k t b)(hk:k<=900):Kz [.int t,.int b]=.ok (.im (Yw t b)):=by
 have gp:=Aa (t:=t) (b:=b) (by have:=h.pos;lia)
 have gs:sm ((Int.gcd t b:Nat):Int)=true:=Q8 (Zdv h.top h.bot) hk
 exact(Zdo _ _ _ _).trans (Z7 (go (Zy (Z3 (aC rfl (a1 rfl)) (Zkz t b) rfl)) (Z1 (W7 (Zm rfl rfl (Ie gp gs)) (Zm rfl rfl (Ie gp gs))))))
abbrev Io (d:D):Option S:=some (.im d)
abbrev Jo (i:Int):Option S:=some (.im (.int i))
section
variable {k:Nat}{a b c d:Int}
def S8 {p q p' q':Int}(hb:0<b)(hd:0<d)(hq:0<q)(hq':0<q')(m1:p*b=a*q)(m2:p'*d=c*q'):p*q'<p'*q↔a*d<c*b:=by
 have e1:p*q'*(b*d)=a*d*(q*q'):=by grind
 have e2:p'*q*(b*d)=c*b*(q*q'):=by grind
 have h1:=Int.mul_pos hb hd
 have h2:=Int.mul_pos hq hq'
 constructor
 ·intro h
  have:=Int.mul_lt_mul_of_pos_right h h1
  rw[e1,e2] at this
  exact Int.lt_of_mul_lt_mul_right this (Int.le_of_lt h2)
 ·intro h
  have:=Int.mul_lt_mul_of_pos_right h h2
  rw[<-e1,<-e2] at this
  exact Int.lt_of_mul_lt_mul_right this (Int.le_of_lt h1)
end
def Zg1 {t b t' b':Int}(hb:0<b)(hb':0<b'):Yw t b=Yw t' b'↔t*b'=t'*b:=by
 constructor
 ·intro h
  obtain⟨p,q,e1,f1,m1,_⟩:=Qx (t:=t) hb
  obtain⟨p',q',e2,f2,m2,_⟩:=Qx (t:=t') hb'
  rw[e1,e2] at h
  unfold nD at h
  injection h with h
  injection h with h1 h
  injection h with h2 _
  injection h1 with h1
  injection h2 with h2
  subst h1
  subst h2
  have:t*b'*q=t'*b*q:=by grind
  exact Int.eq_of_mul_eq_mul_right (by lia) this
 ·exact Kj hb hb'
def Nh {p q:Int}(hq:0<q)(g:Int.gcd p q=1):Yw p q=nD p q:=by
 unfold Yw
 rw[g]
 simp
def Zp6 (m:Nat)(f:Zf->M O)(a0:S):Ho 1 m f [a0]=Nx (f ([some a0]++List.replicate m none)):=rfl
def Zn4 (m:Nat)(f:Zf->M O)(a0 a1:S):Ho 2 m f [a0,a1]=Nx (f ([some a0,some a1]++List.replicate m none)):=rfl
def Znb (m:Nat)(f:Zf->M O)(a0 a1 a2:S):Ho 3 m f [a0,a1,a2]=Nx (f ([some a0,some a1,some a2]++List.replicate m none)):=rfl
def Zp7 (m:Nat)(f:Zf->M O)(a0 a1 a2 a3:S):Ho 4 m f [a0,a1,a2,a3]=Nx (f ([some a0,some a1,some a2,some a3]++List.replicate m none)):=rfl
def trk (b:D)(sq h due lap:Int):Qm:=[("begin", b),("square", .int sq),("heading", .int h),("due", .int due),("lap", .int lap)]
def Zk0 (b th:D)(sq h due lap now:Int)(ht:th.dep<=60):F_pass_line (trk b sq h due lap) [.int now,th]=some (if due=now then(if D.eq th (.str (Str.ofString "m"))=true then trk b sq (-h) (due+lap) lap else trk b (sq+h) h (due+lap) lap) else trk b sq h due lap):=by
 unfold F_pass_line Zet
 rw[if_pos (by rfl)]
 have e1:gB (D2 Jq (Ue "due") (Ka (Zd 1))) (none::([D.int now,th].map (fun d=>Io d)++List.replicate 0 none)) (trk b sq h due lap)=.ok (due==now):=by
  show(Jq (.int due) (.int now)).bind asB=_
  rw[X2]
  rfl
 have e2:(DL.tB (Zp Jq (Zd 2) ↑"m") (none::([D.int now,th].map (fun d=>Io d)++List.replicate 0 none)))=.ok (D.eq th (.str (Str.ofString "m"))):=by
  show(Jq th (.str (Str.ofString "m"))).bind asB=_
  rw[Jx ht]
  rfl
 unfold Zes
 rw[e1]
 by_cases hd:due=now
 ·rw[if_pos hd,show(due==now)=true by simp[hd]]
  dsimp only[]
  rw[e2]
  cases D.eq th (.str (Str.ofString "m")) with
  |true=>rfl
  |false=>rfl
 ·rw[if_neg hd,show(due==now)=false by simp[hd]]
  rfl
def Qy (sq h:Int):Int:=if 0<h then sq+1 else sq
def Zk1 (a:Addr)(b:D)(sq h due lap:Int):Qi [.ob a "Track" (trk b sq h due lap)]=.ok (.im (.int (Qy sq h))):=by
 unfold Qy
 refine(Zp6 _ _ _).trans (Z7 (Z1 ?_))
 by_cases hh:0<h
 ·rw[if_pos hh]
  exact Pw (Qn (Zm rfl rfl (show Rc (.int h) (.int 0)=.ok (.bl true) by show M.ok (D.bl (decide (h > 0)))=_;rw[decide_eq_true hh]))) rfl
 ·rw[if_neg hh]
  exact S7 (Qn (Zm rfl rfl (show Rc (.int h) (.int 0)=.ok (.bl false) by show M.ok (D.bl (decide (h > 0)))=_;rw[decide_eq_false hh]))) rfl
def U5 (i:Nat){sd:Zf}{a:Addr}{b:D}{sq h due lap:Int} (e:sd[i]?=some (some (.ob a "Track" (trk b sq h due lap)))):Xk i "Track" "line_ahead" Qi Zk sd=.ok (.int (Qy sq h)):=by
 unfold Xk
 rw[e]
 show(if _/\_ then _ else _)=_
 rw[if_pos ⟨rfl,rfl⟩]
 show Gw (Qi [.ob a "Track" (trk b sq h due lap)])=_
 rw[Zk1]
 rfl
def Zdx (a:Addr)(b:D)(sq due lap now:Int):Q7 [.ob a "Track" (trk b sq 0 due lap),.im (.int now)]=.ok (.im b):=by
 refine(Zn4 _ _ _ _).trans ?_
 exact Z7 (Yp (Qr (Qn (Zm rfl rfl (show Jq (.int 0) (.int 0)=.ok (.bl true) by rw[X2];rfl))) (Z1 rfl)))
def Zg2 {k:Nat}(a:Addr)(b:D){sq h due lap now:Int}(hh:h≠0)(hl:0<lap)(bl:lap.natAbs<=10 ^ k)(b1:(Qy sq h).natAbs<=10 ^ k)(b2:h.natAbs<=10 ^ k)(b3:(due-now).natAbs<=10 ^ k)(hk:k<=300):
  Q7 [.ob a "Track" (trk b sq h due lap),.im (.int now)]=.ok (.im (Yw (Qy sq h*lap-h*(due-now)) lap)):=by
 have hf:Fr (k+k+1) (Qy sq h*lap-h*(due-now)) lap:=⟨hl,Nf (Qq b1 bl) (Qq b2 b3),Nat.le_trans bl (Vk (by lia))⟩
 refine(Zn4 _ _ _ _).trans ?_
 refine Z7 (go (Z6 (Qn (Zm rfl rfl (show Jq (.int h) (.int 0)=.ok (.bl false) by rw[X2];simp[hh])))) (Z1 (Z3 (aC (d:=.int (Qy sq h*lap-h*(due-now))) ?_ (a1 (d:=.int lap) rfl)) (Ng hf (by lia)) rfl)))
 exact Zm (Zm (U5 0 rfl) rfl (gT (Q8 b1 (by lia)) (Q8 bl (by lia)))) (Zm rfl (Zm rfl rfl rfl) (gT (Q8 b2 (by lia)) (Q8 b3 (by lia)))) rfl
def Zay {k:Nat}(a:Addr)(b:D){sq h due lap n d:Int}(hd:Fr k n d)(bl:lap.natAbs<=10 ^ k)(b1:(Qy sq h).natAbs<=10 ^ k)(b2:h.natAbs<=10 ^ k)(b3:due.natAbs<=10 ^ k)(hk:k<=100):
  Ki [.ob a "Track" (trk b sq h due lap),.im (nD n d)]=.ok (.im (Yw (due*d-h*(Qy sq h*d-n)*lap) d)):=by
 have s1:=Q8 hd.top (by lia)
 have s2:=Q8 hd.bot (by lia)
 have s3:=Q8 bl (by lia)
 have s4:=Q8 b1 (by lia)
 have s5:=Q8 b2 (by lia)
 have s6:=Q8 b3 (by lia)
 have h1:(Qy sq h*d-n).natAbs<=10 ^ (k+k+1):=Nf (Qq b1 hd.bot) (Nat.le_trans hd.top (Vk (by lia)))
 have h2:(h*(Qy sq h*d-n)).natAbs<=10 ^ (k+(k+k+1)):=Qq b2 h1
 have h3:(h*(Qy sq h*d-n)*lap).natAbs<=10 ^ (k+(k+k+1)+k):=Qq h2 bl
 have hf:Fr (k+(k+k+1)+k+1) (due*d-h*(Qy sq h*d-n)*lap) d:=⟨hd.pos,Nf (Nat.le_trans (Qq b3 hd.bot) (Vk (by lia))) h3,Nat.le_trans hd.bot (Vk (by lia))⟩
 refine(Zn4 _ _ _ _).trans ?_
 refine Z7 (go (Zy (d:=.int (h*(Qy sq h*d-n))) (Zm rfl (Zm (Zm (U5 0 rfl) (Zq rfl rfl (Yo _ _ _)) (gT s4 s2)) (Zq rfl rfl (Yk _ _)) rfl) (gT s5 (Q8 h1 (by lia))))) (Z1 (Z3 (aC (d:=.int (due*d-h*(Qy sq h*d-n)*lap)) ?_ (a1 (d:=.int d) (Zq rfl rfl (Yo _ _ _)))) (Ng hf (by lia)) rfl)))
 exact Zm (Zm rfl (Zq rfl rfl (Yo _ _ _)) (gT s6 s2)) (Zm rfl rfl (gT (Q8 h2 (by lia)) s3)) rfl
structure Po4 where
 a:Int
 b:Int
 c:Int
 d:Int
def Po4.D (p:Po4):D:=.tup [nD p.a p.b,nD p.c p.d]
structure PoOk (k:Nat) (p:Po4):Prop where
 x:Fr k p.a p.b
 y:Fr k p.c p.d
structure PIn (z:Nat) (p q:Int):Prop where
 fr:Fr 4 p q
 p0:0<p
 p1:p<(z:Int)*q
 g:Int.gcd p q=1
 nw:∀k:Int,k*q≠p
 q3:q<=1000
def Zib {z:Nat}{t b:Int}(hb:2<=b)(hb':b<=1000)(h0:0<t)(h1:t<(z:Int)*b)(z8:z<=8)(hm:t%b≠0):∃p q,PIn z p q/\Kz [.int t,.int b]=.ok (.im (nD p q)):=by
 have p4:(10:Nat) ^ 4=10000:=rfl
 have wb:(z:Int)*b<=8*1000:=Int.mul_le_mul (by lia) hb' (by lia) (by lia)
 have hf:Fr 4 t b:=⟨by lia,by rw[p4];lia,by rw[p4];lia⟩
 have b0:0<b:=by lia
 obtain⟨p,q,el,q0,m,g,h3,h4⟩:=Qx (t:=t) b0
 refine⟨p,q,⟨⟨q0,by rw[p4];lia,by rw[p4];lia⟩,?_,?_,g,fun k e=>hm ?_,by lia⟩,by rw[Zna hf (by decide),el]⟩
 ·have:0<p*b:=by rw[m];exact Int.mul_pos h0 q0
  exact Int.pos_of_mul_pos_left this b0
 ·have h3:=Int.mul_lt_mul_of_pos_right h1 q0
  rw[<-m,Int.mul_right_comm] at h3
  exact Int.lt_of_mul_lt_mul_right h3 (Int.le_of_lt b0)
 ·have:t*q=(k*b)*q:=by rw[<-m,<-e];grind
  have:=Int.eq_of_mul_eq_mul_right (by lia) this
  rw[this]
  exact Int.mul_emod_left k b
def Zdy {W:Nat}(hW:1<=W)(hW':W<=8)(a b:Int):∃p q,PIn W p q/\K0 [.int a,.int b,.int (W:Int)]=.ok (.im (nD p q)):=by
 have k0:=Int.emod_nonneg (a/1000) (show(4:Int)≠0 by decide)
 have k1:=Int.emod_lt_of_pos (a/1000) (show(0:Int)<4 by decide)
 obtain⟨m,hm,hm',em⟩:∃m:Int,4<=m/\m<=999/\Km (.lst [.int 4,.int 8,.int 30,.int 999]) (.int (a/1000%4))=.ok (.int m):=by
  generalize a/1000%4=k at *
  have:k=0\/k=1\/k=2\/k=3:=by lia
  rcases this with rfl|rfl|rfl|rfl
  ·exact⟨4,by decide,by decide,rfl⟩
  ·exact⟨8,by decide,by decide,rfl⟩
  ·exact⟨30,by decide,by decide,rfl⟩
  ·exact⟨999,by decide,by decide,rfl⟩
 have r1:0<=a%m:=Int.emod_nonneg _ (by lia)
 have r2:a%m<m:=Int.emod_lt_of_pos _ (by lia)
 generalize hB:2+a%m=B
 have hB2:2<=B:=by lia
 have hB3:B<=1000:=by lia
 have wb1:1*B<=(W:Int)*B:=Int.mul_le_mul_of_nonneg_right (by lia) (by lia)
 have wb2:(W:Int)*B<=8*1000:=Int.mul_le_mul (by lia) hB3 (by lia) (by lia)
 have r3:0<=b%(W*B-1):=Int.emod_nonneg _ (by lia)
 have r4:b%(W*B-1)<W*B-1:=Int.emod_lt_of_pos _ (by lia)
 generalize hT:1+b%(W*B-1)=T
 have s1000:sm 1000=true:=W6 (by decide) (by decide)
 have sW:sm (W:Int)=true:=W6 (by lia) (by lia)
 have sB:sm B=true:=W6 (by lia) (by lia)
 have g1:∀r:List (Option S),Zp Qe ↑2 (Zp Yd (Zd 0) (Zp Km (Wo (Zc ↑4 (Zc ↑8 (Zc ↑30 (Zc ↑999 Zk))))) (Zp Yd (Zp Xj (Zd 0) ↑1000) ↑4))) (Jo a::r)=.ok (.int B):=fun r=>by
  refine(Zm rfl (Zm rfl (Zm rfl (Zm (Zm rfl rfl (Ie (by decide) s1000)) rfl (gM (by decide))) em) (gM (by lia))) rfl).trans ?_
  show M.ok (D.int (2+a%m))=_
  rw[hB]
 have g2:∀r:List (Option S),Zp Qe ↑1 (Zp Yd (Zd 1) (Zp DL.Vt (Zp Zt (Zd 2) (Zd 3)) ↑1)) (Jo a::Jo b::Jo (W:Int)::Jo B::r)=.ok (.int T):=fun r=>by
  refine(Zm rfl (Zm rfl (Zm (Zm rfl rfl (gT sW sB)) rfl rfl) (gM (by lia))) rfl).trans ?_
  show M.ok (D.int (1+b%(W*B-1)))=_
  rw[hT]
 have tt:DL.tB (Zp Jq (Zp Yd (Zd 4) (Zd 3)) ↑0) [Jo a,Jo b,Jo (W:Int),Jo B,Jo T]=.ok (T%B==0):=Qn (Zm (Zm rfl rfl (gM (by lia))) rfl (X2 _ _))
 by_cases q:T%B=0
 ·have q':(T%B==0)=true:=by simp[q]
  rw[q'] at tt
  have tb:B<=T:=by
   have:=Int.emod_add_mul_ediv T B
   rw[q] at this
   have h0:0<T/B:=Int.pos_of_mul_pos_right (show 0<B*(T/B) by lia) (by lia)
   have:=Int.mul_le_mul_of_nonneg_left (show 1<=T/B by lia) (show 0<=B by lia)
   lia
  have nm:(T-1)%B≠0:=fun z=>by
   have h1:=Int.sub_emod T 1 B
   rw[z,q,Int.emod_eq_of_lt (show(0:Int)<=1 by decide) (show 1<B by lia)] at h1
   have:(0-1)%B=B-1:=by
    rw[show(0-1:Int)=(B-1)+B*(-1) by lia,Int.add_mul_emod_self_left,Int.emod_eq_of_lt (by lia) (by lia)]
   lia
  obtain⟨p,z,n,e⟩:=Zib (z:=W) hB2 hB3 (show 0<T-1 by lia) (by lia) hW' nm
  exact⟨p,z,n,(Zkw _ _ _ _ _).trans (Z7 (go (Zy (g1 _)) (go (Zy (g2 _)) (go (Qr tt (Zy (Zm rfl rfl rfl))) (Z1 (Z3 (aC rfl (Law.a1 rfl)) e rfl))))))⟩
 ·have q':(T%B==0)=false:=by simp[q]
  rw[q'] at tt
  obtain⟨p,z,n,e⟩:=Zib (z:=W) hB2 hB3 (show 0<T by lia) (by lia) hW' q
  exact⟨p,z,n,(Zkw _ _ _ _ _).trans (Z7 (go (Zy (g1 _)) (go (Zy (g2 _)) (go (Z6 tt) (Z1 (Z3 (aC rfl (Law.a1 rfl)) e rfl))))))⟩
structure PtOk (W H:Nat) (p:Po4):Prop where
 x:PIn W p.a p.b
 y:PIn H p.c p.d
def PtOk.ok {W H:Nat}{p:Po4}(h:PtOk W H p):PoOk 4 p:=⟨h.x.fr,h.y.fr⟩
def Fl (p q:Po4):D.eq p.D q.D=true↔p=q:=by
 cases p;cases q
 simp[Po4.D,nD,D.eq,D.eqs]
 constructor
 ·rintro⟨⟨a,b⟩,c,d⟩;exact⟨a,b,c,d⟩
 ·rintro⟨a,b,c,d⟩;exact⟨⟨a,b⟩,c,d⟩
def Zdz (p:Po4)(ps:List Po4):D1 p.D (ps.map Po4.D)=true↔p∈ps:=by
 unfold D1
 rw[List.any_map,List.any_eq_true]
 constructor
 ·rintro⟨q,hq,e⟩
  rw[<-(Fl q p).mp e];exact hq
 ·intro h
  exact⟨p,h,(Fl p p).mpr rfl⟩
def cz (ns:List Int)(k:Nat):Int:=(ns[k]?).getD 0
def S9 (ns:List Int)(k:Nat)(hl:ns.length<=63):Y4 [.lst (ns.map D.int),.int (k:Int)]=.ok (.im (.int (cz ns k))):=by
 have c:DL.tB (Zp Tq (Zd 1) (Vl Tr (Zc (Zd 0) Zk))) [Io (.lst (ns.map D.int)),Jo (k:Int)]=.ok (decide (k<ns.length)):=by
  refine Qn (Zm (x:=.int (k:Int)) (y:=.int (ns.length:Int)) rfl (K3 (Law.a1 rfl) (by rw[Fj,List.length_map])) ?_)
  show M.ok (D.bl (decide ((k:Int)<(ns.length:Int))))=_
  congr 2
  rw[Bool.eq_iff_iff]
  simp
 unfold cz
 by_cases h:k<ns.length
 ·rw[decide_eq_true h] at c
  rw[List.getElem?_eq_getElem h]
  have e:(ns.map D.int)[k]?=some (.int ns[k]):=by rw[List.getElem?_map,List.getElem?_eq_getElem h];rfl
  generalize ns.map D.int=N at *
  exact(Zdo _ _ _ _).trans (Z7 (Yp (Qr c (Z1 (Vs (i:=(k:Int)) rfl rfl (U9 e))))))
 ·rw[decide_eq_false h] at c
  rw[List.getElem?_eq_none (by lia)]
  generalize ns.map D.int=N at *
  exact(Zdo _ _ _ _).trans (Z7 (go (Z6 c) (Z1 rfl)))
noncomputable def Znc:Zf->M O:=(Zx (Eh (Zb7 (Zd 4) (Kq (Zp Zt ↑4 (Zd 6))) (Kq (Zp Qe (Zp Zt ↑4 (Zd 6)) ↑4))) (Pm 4 (Yz (X4 7) (Yz (X4 8) (Yz (X4 9) (Yz (X4 10) R3))))))
   (Zx (Z4 11 (Qv (Zc (Z5 K0 (Zc (Zd 7) (Zc (Zd 8) (Zc (Zd 2) Zk)))) (Zc (Z5 K0 (Zc (Zd 9) (Zc (Zd 10) (Zc (Zd 3) Zk)))) Zk))))
   (Jw (Pq 5 (DL.tB (Zp N0 (Zd 11) (Zd 5)))) (Ur 5 (Zd 11)) Y7)))
def Zpd (es:List Int)(k:Nat)(h:4*k+4<=es.length):∃a b c d:Int,Ek (es.map D.int) (some ((4*k:Nat):Int)) (some ((4*k+4:Nat):Int))=[.int a,.int b,.int c,.int d]:=by
 unfold Ek
 rw[HT.sIx_nat,HT.sIx_nat,List.length_map,Nat.min_eq_left (by lia),Nat.min_eq_left (by lia),<-List.map_drop,<-List.map_take,show 4*k+4-4*k=4 by lia]
 have hl:((es.drop (4*k)).take 4).length=4:=by rw[List.length_take,List.length_drop];lia
 generalize (es.drop (4*k)).take 4=l at hl
 match l,hl with
 |[a,b,c,d],_=>exact⟨a,b,c,d,rfl⟩
def Zg3 (v0 v1:Option S){W H:Nat}(hW:1<=W)(hW':W<=8)(hH:1<=H)(hH':H<=8){es:List Int}(k:Nat)(he:4*k+4<=es.length)(hk:k<=100)(ps:List Po4)(hp:∀p∈ps,PtOk W H p)(nd:ps.Nodup)(hl:ps.length<=900)(v7 v8 v9 v10 v11:Option S):
  ∃(ps':List Po4) (w7 w8 w9 w10 w11:Option S),(∀p∈ps',PtOk W H p)/\ps'.Nodup/\ps'.length<=ps.length+1/\1<=ps'.length/\Znc [v0,v1,Jo (W:Int),Jo (H:Int),Io (.lst (es.map D.int)),some (.ow (ps.map Po4.D)),Jo (k:Int),v7,v8,v9,v10,v11] =
   .ok (.nx [v0,v1,Jo (W:Int),Jo (H:Int),Io (.lst (es.map D.int)),some (.ow (ps'.map Po4.D)),Jo (k:Int),w7,w8,w9,w10,w11]):=by
 obtain⟨a,b,c,d,ec⟩:=Zpd es k he
 obtain⟨p1,q1,n1,e1⟩:=Zdy hW hW' a b
 obtain⟨p2,q2,n2,e2⟩:=Zdy hH hH' c d
 have s4:sm 4=true:=W6 (by decide) (by decide)
 have sk:sm (k:Int)=true:=W6 (by lia) (by lia)
 have g4:Zt (.int 4) (.int (k:Int))=.ok (.int ((4*k:Nat):Int)):=by rw[gT s4 sk];congr 2
 generalize es.map D.int=ds at ec ⊢
 have sl:Zb7 (Zd 4) (Kq (Zp Zt ↑4 (Zd 6))) (Kq (Zp Qe (Zp Zt ↑4 (Zd 6)) ↑4)) [v0,v1,Jo (W:Int),Jo (H:Int),Io (.lst ds),some (.ow (ps.map Po4.D)),Jo (k:Int),v7,v8,v9,v10,v11]=.ok (.lst [.int a,.int b,.int c,.int d]):=by
  unfold Zb7
  show(Kq (Zp Zt ↑4 (Zd 6)) _).bind _=_
  unfold Kq
  rw[Zm (x:=.int 4) (y:=.int (k:Int)) rfl rfl g4,M.bind_ok]
  dsimp only
  rw[M.bind_ok,Zm (x:=.int ((4*k:Nat):Int)) (y:=.int 4) (Zm (x:=.int 4) (y:=.int (k:Int)) rfl rfl g4) rfl rfl]
  show M.ok (D.lst (Ek ds (some ((4*k:Nat):Int)) (some (((4*k:Nat):Int)+4))))=_
  rw[show((4*k:Nat):Int)+4=((4*k+4:Nat):Int) by lia,ec]
 have st:Pq 5 (DL.tB (Zp N0 (Zd 11) (Zd 5))) [v0,v1,Jo (W:Int),Jo (H:Int),Io (.lst ds),some (.ow (ps.map Po4.D)),Jo (k:Int),Jo a,Jo b,Jo c,Jo d,Io (Po4.D ⟨p1,q1,p2,q2⟩)]=.ok (!D1 (Po4.D ⟨p1,q1,p2,q2⟩) (ps.map Po4.D)):=by
  refine Zg0 ?_
  refine Qn (Zm (x:=Po4.D ⟨p1,q1,p2,q2⟩) (y:=.lst (ps.map Po4.D)) rfl rfl ?_)
  have:D.deps (ps.map Po4.D)<=5:=Wl fun d hd=>by
   obtain⟨q,_,rfl⟩:=List.mem_map.mp hd
   simp[Po4.D,nD,D.dep,D.deps]
  exact if_pos (by lia)
 have pre:∀r,(Jw (Pq 5 (DL.tB (Zp N0 (Zd 11) (Zd 5)))) (Ur 5 (Zd 11)) Y7) [v0,v1,Jo (W:Int),Jo (H:Int),Io (.lst ds),some (.ow (ps.map Po4.D)),Jo (k:Int),Jo a,Jo b,Jo c,Jo d,Io (Po4.D ⟨p1,q1,p2,q2⟩)]=r->Znc [v0,v1,Jo (W:Int),Jo (H:Int),Io (.lst ds),some (.ow (ps.map Po4.D)),Jo (k:Int),v7,v8,v9,v10,v11]=r:=fun r hr=>by
  unfold Znc
  refine go (sd':=[v0,v1,Jo (W:Int),Jo (H:Int),Io (.lst ds),some (.ow (ps.map Po4.D)),Jo (k:Int),Jo a,Jo b,Jo c,Jo d,v11]) ?_ (go (Zy (W7 (Z3 (aC rfl (aC rfl (Law.a1 rfl))) e1 rfl) (Z3 (aC rfl (aC rfl (Law.a1 rfl))) e2 rfl))) hr)
  unfold Eh
  rw[sl]
  rfl
 cases q:D1 (Po4.D ⟨p1,q1,p2,q2⟩) (ps.map Po4.D) with
 |false=>
  rw[q] at st
  have ni:(⟨p1,q1,p2,q2⟩:Po4) ∉ ps:=fun z=>by rw[(Zdz _ _).mpr z] at q;cases q
  refine⟨ps++[⟨p1,q1,p2,q2⟩],Jo a,Jo b,Jo c,Jo d,Io (Po4.D ⟨p1,q1,p2,q2⟩),fun p hm=>?_,?_,by rw[List.length_append,List.length_singleton];lia,by rw[List.length_append,List.length_singleton];lia,pre _ (Qr st ?_)⟩
  ·rcases List.mem_append.mp hm with z|z
   ·exact hp p z
   ·rw[show p=⟨p1,q1,p2,q2⟩ by simpa using z];exact⟨n1,n2⟩
  ·refine List.nodup_append.mpr ⟨nd,by simp,fun a ha b hb=>?_⟩
   rw[List.mem_singleton.mp hb]
   exact fun z=>ni (z▸ha)
  ·rw[List.map_append]
   exact Fh rfl rfl (by rw[List.length_map];lia)
 |true=>
  rw[q] at st
  have hm:=(Zdz _ _).mp q
  exact⟨ps,_,_,_,_,_,hp,nd,by lia,List.length_pos_of_mem hm,pre _ (Z6 st)⟩
theorem Il (v0 v1:Option S){W H:Nat}(hW:1<=W)(hW':W<=8)(hH:1<=H)(hH':H<=8){es:List Int}{n:Nat}(he:es.length=4*n)(hn:n<=8):∀(ks:List Nat) (ps:List Po4) (v6 v7 v8 v9 v10 v11:Option S),(∀k∈ks,k<n)->(∀p∈ps,PtOk W H p)->ps.Nodup->ps.length+ks.length<=900 ->
  ∃(ps':List Po4) (w6 w7 w8 w9 w10 w11:Option S),(∀p∈ps',PtOk W H p)/\ps'.Nodup/\ps'.length<=ps.length+ks.length/\(ks≠[]\/ps≠[]->1<=ps'.length)/\Xd (X4 6) Znc (ks.map fun(k:Nat)=>D.int (k:Int)) [v0,v1,Jo (W:Int),Jo (H:Int),Io (.lst (es.map D.int)),some (.ow (ps.map Po4.D)),v6,v7,v8,v9,v10,v11] =
   .ok (.nx [v0,v1,Jo (W:Int),Jo (H:Int),Io (.lst (es.map D.int)),some (.ow (ps'.map Po4.D)),w6,w7,w8,w9,w10,w11])
 |[],ps,v6,v7,v8,v9,v10,v11,_,hp,nd,_=>⟨ps,v6,v7,v8,v9,v10,v11,hp,nd,by lia,fun z=>by
   rcases z with z|z
   ·exact absurd rfl z
   ·cases ps with
    |nil=>exact absurd rfl z
    |cons=>simp,rfl⟩
 |k::ks,ps,v6,v7,v8,v9,v10,v11,hk,hp,nd,hl=>by
  rw[List.length_cons] at hl
  have:=hk k (by simp)
  obtain⟨p1,a7,a8,a9,a10,a11,h1,nd1,l1,g1,e1⟩:=Zg3 v0 v1 hW hW' hH hH' k (es:=es) (by lia) (by lia) ps hp nd (by lia) v7 v8 v9 v10 v11
  obtain⟨p2,w6,w7,w8,w9,w10,w11,h2,nd2,l2,g2,e2⟩:=Il v0 v1 hW hW' hH hH' he hn ks p1 (Jo (k:Int)) a7 a8 a9 a10 a11 (fun j hj=>hk j (by simp[hj])) h1 nd1 (by lia)
  refine⟨p2,w6,w7,w8,w9,w10,w11,h2,nd2,by rw[List.length_cons];lia,fun _=>g2 (.inr fun z=>by rw[z] at g1;simp at g1),?_⟩
  rw[List.map_cons]
  exact(Yr (sd1:=[v0,v1,Jo (W:Int),Jo (H:Int),Io (.lst (es.map D.int)),some (.ow (ps.map Po4.D)),Jo (k:Int),v7,v8,v9,v10,v11]) rfl e1).trans e2
def Zd0 (c:Int){n W H:Nat}(n0:1<=n)(n1:n<=8)(hW:1<=W)(hW':W<=8)(hH:1<=H)(hH':H<=8):∃ps:List Po4,(∀p∈ps,PtOk W H p)/\ps.Nodup/\ps.length<=n/\1<=ps.length/\V9 [.int c,.int (n:Int),.int (W:Int),.int (H:Int)]=.ok (.ow (ps.map Po4.D)):=by
 obtain⟨es,hes,_,en⟩:=Ml c (4*n) (by lia)
 obtain⟨ps,w6,w7,w8,w9,w10,w11,hp,nd,hl,g,e⟩:=Il (Jo c) (Jo (n:Int)) hW hW' hH hH' hes n1 (List.range n) [] none none none none none none (fun k hk=>List.mem_range.mp hk) (fun p hp=>by cases hp) List.nodup_nil (by simp;lia)
 refine⟨ps,hp,nd,by simpa using hl,g (.inl (by intro z;have:=congrArg List.length z;simp at this;lia)),(Zm6 _ _ _ _ _ _).trans (Z7 (go (Zy (Z3 (aC rfl (Law.a1 (d:=.int ((4*n:Nat):Int)) ?_)) en rfl)) (go (Kg 5 _) (go (f:=Jm _ (X4 6) Znc) ((Yq (Zkv (n:=n) (Law.a1 rfl) (by lia))).trans e) rfl))))⟩
 refine Zm (x:=.int 4) (y:=.int (n:Int)) rfl rfl ?_
 rw[gT (W6 (by decide) (by decide)) (W6 (by lia) (by lia))]
 congr 2
structure Tk where
 n:Int
 m:Int
 sq:Int
 h:Int
 due:Int
 lap:Int
def Tk.r (t:Tk):Qm:=trk (nD t.n t.m) t.sq t.h t.due t.lap
def Tk.line (t:Tk):Int:=Qy t.sq t.h
structure TB (k:Nat) (t:Tk):Prop where
 fr:Fr k t.n t.m
 li:t.line.natAbs<=10 ^ k
 h:t.h.natAbs<=10 ^ k
 due:t.due.natAbs<=10 ^ k
 lap:t.lap.natAbs<=10 ^ k
def Tk.tm (t:Tk)(n d:Int):Int:=t.due*d-t.h*(t.line*d-n)*t.lap
def Fm (a b:Int):(nD a b).dep<=60:=by simp[nD,D.dep,D.deps]
def Ab (a b:Int):(Yw a b).dep<=60:=Fm _ _
def Im (a b c d:Int):D.eq (nD a b) (nD c d)=decide (a=c/\b=d):=by
 simp only[nD,D.eq,D.eqs]
 by_cases h1:a=c<;>by_cases h2:b=d<;>simp[h1,h2]
def Zd1 {t b t' b':Int}(hb:0<b)(hb':0<b'):D.eq (Yw t b) (Yw t' b')=decide (t*b'=t'*b):=by
 have:=Zg1 (t:=t) (t':=t') hb hb'
 unfold Yw at this ⊢
 rw[Im]
 refine decide_eq_decide.mpr ?_
 rw[<-this]
 unfold nD
 constructor
 ·rintro⟨h1,h2⟩;rw[h1,h2]
 ·intro h
  injection h with h
  injection h with h1 h
  injection h with h2 _
  injection h1 with h1
  injection h2 with h2
  exact⟨h1,h2⟩
noncomputable def Zic:Zf->M O:=Jw (DL.tB (Zp Bh (Q2 4 "Track" "heading") ↑0)) (Ur 3 (Xk 4 "Track" "time_at" Ki (Zc (Zd 5) Zk)))
   (Jw (DL.tB (Zp Bh (Zd 5) (Q2 4 "Track" "begin"))) (Q0 (eC .non)) Y7)
def Zid {k:Nat}{a:Addr}{t:Tk}(o0 o1 o2:Option S)(ts:List D){n d:Int}(hb:TB k t)(hd:Fr k n d)(hk:k<=100)(hh:t.h≠0)(hl:ts.length<=10):
  Zic [o0,o1,o2,some (.ow ts),some (.ob a "Track" t.r),Io (nD n d)]=.ok (.nx [o0,o1,o2,some (.ow (ts++[Yw (t.tm n d) d])),some (.ob a "Track" t.r),Io (nD n d)]):=by
 refine Qr (Qn (Zm rfl rfl (show Bh (.int t.h) (.int 0)=.ok (.bl true) by rw[Mn (by simp[D.dep])];simp[D.eq,hh]))) (Fh rfl ?_ (by lia))
 unfold Xk
 simp only[List.getElem?_cons_succ,List.getElem?_cons_zero]
 rw[if_pos ⟨trivial,rfl⟩]
 show Gw (Ki [.ob a "Track" (trk (nD t.n t.m) t.sq t.h t.due t.lap),.im (nD n d)])=_
 rw[Zay a (nD t.n t.m) hd hb.lap hb.li hb.h hb.due hk]
 rfl
def De {a:Addr}{t:Tk}(o0 o1 o2:Option S)(ts:List D){n d:Int}(hh:t.h=0)(he:n=t.n/\d=t.m):
  Zic [o0,o1,o2,some (.ow ts),some (.ob a "Track" t.r),Io (nD n d)]=.ok (.nx [o0,o1,o2,some (.ow ts),some (.ob a "Track" t.r),Io (nD n d)]):=by
 refine Ig (Qn (Zm rfl rfl (show Bh (.int t.h) (.int 0)=.ok (.bl false) by rw[Mn (by simp[D.dep])];simp[D.eq,hh]))) (Z6 (Qn (Zm rfl rfl (show Bh (nD n d) (nD t.n t.m)=.ok (.bl false) by rw[Mn (Fm _ _),Im,decide_eq_true he];rfl))))
def Zd2 {a:Addr}{t:Tk}(o0 o1 o2:Option S)(ts:List D){n d:Int}(hh:t.h=0)(he:¬(n=t.n/\d=t.m)):
  Zic [o0,o1,o2,some (.ow ts),some (.ob a "Track" t.r),Io (nD n d)]=.ok (.rt (.im .non)):=by
 refine Ig (Qn (Zm rfl rfl (show Bh (.int t.h) (.int 0)=.ok (.bl false) by rw[Mn (by simp[D.dep])];simp[D.eq,hh]))) (Qr (Qn (Zm rfl rfl (show Bh (nD n d) (nD t.n t.m)=.ok (.bl true) by rw[Mn (Fm _ _),Im,decide_eq_false he];rfl))) (Z1 rfl))
inductive At (t u:Tk) (p:Po4):Int->Int->Prop
 |two:t.h≠0->u.h≠0->t.tm p.a p.b*p.d=u.tm p.c p.d*p.b->At t u p (t.tm p.a p.b) p.b
 |one:t.h≠0->u.h=0->p.c=u.n/\p.d=u.m->At t u p (t.tm p.a p.b) p.b
 |oth:t.h=0->p.a=t.n/\p.b=t.m->u.h≠0->At t u p (u.tm p.c p.d) p.d
def Df (a b:Int):D.eq (Yw a b) (Yw a b)=true:=by
 unfold Yw
 rw[Im,decide_eq_true ⟨rfl,rfl⟩]
def Znd (x:D):P3 [x] (-1)=some x:=rfl
def Zie (x y:D):P3 [x,y] (-1)=some y:=rfl
noncomputable def Zpn:Zf->M O:=Ce 3 (Q0 (D0 (DL.tB (Zp Jq 3[0]! (Zp Km (Zd 3) (Eo P6 ↑1)))) 3[0]! (eC .non)))
def Zne (o0 o1 o2 o4 o5:Option S)(a b:Int):Zpn [o0,o1,o2,some (.ow [Yw a b]),o4,o5]=.ok (.rt (.im (Yw a b))):=by
 refine Rl (Z1 (Pw (Qn (Zm (Vs rfl rfl (Yk _ _)) (Vs rfl rfl (Znd _)) (by rw[Jx (Ab _ _),Df]))) (Vs rfl rfl (Yk _ _))))
def Zpe (o0 o1 o2 o4 o5:Option S){a b c d:Int}(hb:0<b)(hd:0<d):Zpn [o0,o1,o2,some (.ow [Yw a b,Yw c d]),o4,o5]=.ok (.rt (.im (if a*d=c*b then Yw a b else .non))):=by
 by_cases h:a*d=c*b
 ·rw[if_pos h]
  exact Rl (Z1 (Pw (Qn (Zm (Vs rfl rfl (Yk _ _)) (Vs rfl rfl (Zie _ _)) (by rw[Jx (Ab _ _),Zd1 hb hd,decide_eq_true h]))) (Vs rfl rfl (Yk _ _))))
 ·rw[if_neg h]
  exact Rl (Z1 (S7 (Qn (Zm (Vs rfl rfl (Yk _ _)) (Vs rfl rfl (Zie _ _)) (by rw[Jx (Ab _ _),Zd1 hb hd,decide_eq_false h]))) rfl))
def Zg4 {it ip i1 i2:Nat}{f1 f2:Zf->M D}{f:Zf->M O}{sd s1 s2:Zf}{o1 o2:S}{d1 d2:D}(e1:sd[i1]?=some (some o1))(e2:sd[i2]?=some (some o2))(h1:Wx o1=true)(h2:Wx o2=true)(g1:f1 sd=.ok d1)(g2:f2 sd=.ok d2)(k1:f ((sd.set it (some o1)).set ip (Io d1))=.ok (.nx s1)){r:M O}(k2:f ((s1.set it (some o2)).set ip (Io d2))=r)(hr:(∃s2,r=.ok (.nx s2))\/∃s,r=.ok (.rt s)):Gy it ip i1 i2 f1 f2 f sd=r:=by
 unfold Gy
 rw[e1,e2]
 show(if(Wx o1&&Wx o2)=true then _ else _)=_
 rw[h1,h2,if_pos (show(true&&true)=true from rfl),g1]
 show(f2 sd).bind _=_
 rw[g2]
 show Vd it ip f [(o1,d1),(o2,d2)] sd=_
 unfold Vd
 rw[k1]
 show Vd it ip f [(o2,d2)] s1=_
 unfold Vd
 rw[k2]
 rcases hr with⟨s2,rfl⟩|⟨s,rfl⟩
 ·rfl
 ·rfl
def Zg5 {it ip i1 i2:Nat}{f1 f2:Zf->M D}{f:Zf->M O}{sd:Zf}{o1 o2:S}{d1 d2:D}{s:S}(e1:sd[i1]?=some (some o1))(e2:sd[i2]?=some (some o2))(h1:Wx o1=true)(h2:Wx o2=true)(g1:f1 sd=.ok d1)(g2:f2 sd=.ok d2)(k1:f ((sd.set it (some o1)).set ip (Io d1))=.ok (.rt s)):Gy it ip i1 i2 f1 f2 f sd=.ok (.rt s):=by
 unfold Gy
 rw[e1,e2]
 show(if(Wx o1&&Wx o2)=true then _ else _)=_
 rw[h1,h2,if_pos (show(true&&true)=true from rfl),g1]
 show(f2 sd).bind _=_
 rw[g2]
 show Vd it ip f [(o1,d1),(o2,d2)] sd=_
 unfold Vd
 rw[k1]
 rfl
section
variable {k:Nat}{a1 a2:Addr}{t u:Tk}{p:Po4}
def Ac {s1:Zf}{r:M O} (k1:Zic [some (.ob a1 "Track" t.r),some (.ob a2 "Track" u.r),Io p.D,some (.ow []),some (.ob a1 "Track" t.r),Io (nD p.a p.b)]=.ok (.nx s1)) (k2:Zic ((s1.set 4 (some (.ob a2 "Track" u.r))).set 5 (Io (nD p.c p.d)))=r) (hr:(∃s2,r=.ok (.nx s2))\/∃s,r=.ok (.rt s)):
  Gy 4 5 0 1 2[0]! 2[1]! Zic [some (.ob a1 "Track" t.r),some (.ob a2 "Track" u.r),Io p.D,some (.ow []),none,none]=r:=
 Zg4 (s2:=[]) (sd:=[some (.ob a1 "Track" t.r),some (.ob a2 "Track" u.r),Io p.D,some (.ow []),none,none]) (o1:=.ob a1 "Track" t.r) (o2:=.ob a2 "Track" u.r) (d1:=nD p.a p.b) (d2:=nD p.c p.d) rfl rfl rfl rfl (Zq rfl rfl (Yk _ _)) (Zq rfl rfl (Yo _ _ _)) k1 k2 hr
def Zg6 {s:S} (k1:Zic [some (.ob a1 "Track" t.r),some (.ob a2 "Track" u.r),Io p.D,some (.ow []),some (.ob a1 "Track" t.r),Io (nD p.a p.b)]=.ok (.rt s)):
  Gy 4 5 0 1 2[0]! 2[1]! Zic [some (.ob a1 "Track" t.r),some (.ob a2 "Track" u.r),Io p.D,some (.ow []),none,none]=.ok (.rt s):=
 Zg5 (sd:=[some (.ob a1 "Track" t.r),some (.ob a2 "Track" u.r),Io p.D,some (.ow []),none,none]) (o1:=.ob a1 "Track" t.r) (o2:=.ob a2 "Track" u.r) (d1:=nD p.a p.b) (d2:=nD p.c p.d) rfl rfl rfl rfl (Zq rfl rfl (Yk _ _)) (Zq rfl rfl (Yo _ _ _)) k1
def Mo (ht:TB k t)(hu:TB k u)(hp:PoOk k p)(hk:k<=100)(hm:t.h≠0\/u.h≠0):∃d,F_time_to [.ob a1 "Track" t.r,.ob a2 "Track" u.r,.im p.D]=.ok (.im d)/\((d=.non/\∀x y,¬At t u p x y)\/∃x y,At t u p x y/\d=Yw x y):=by
 have tA:=@Zid k a1 t (some (.ob a1 "Track" t.r)) (some (.ob a2 "Track" u.r)) (Io p.D) [] p.a p.b ht hp.x hk
 have tB:=@Zid k a2 u (some (.ob a1 "Track" t.r)) (some (.ob a2 "Track" u.r)) (Io p.D)
 by_cases h1:t.h=0
 ·have h2:u.h≠0:=hm.resolve_left (fun z=>z h1)
  by_cases he:p.a=t.n/\p.b=t.m
  ·refine⟨Yw (u.tm p.c p.d) p.d,(Znb _ _ _ _ _).trans (Z7 (go (Kg 3 _) (go (Ac (De _ _ _ [] h1 he) (tB [] hu hp.y hk h2 (by decide)) (.inl ⟨_,rfl⟩)) (Zne _ _ _ _ _ _ _)))),.inr ⟨_,_,.oth h1 he h2,rfl⟩⟩
  ·refine⟨.non,(Znb _ _ _ _ _).trans (Z7 (go (Kg 3 _) (Yp (Zg6 (Zd2 _ _ _ [] h1 he))))),.inl ⟨rfl,fun x y h=>?_⟩⟩
   cases h with
   |two a b c=>exact a h1
   |one a b c=>exact a h1
   |oth a b c=>exact he b
 ·by_cases h2:u.h=0
  ·by_cases he:p.c=u.n/\p.d=u.m
   ·refine⟨Yw (t.tm p.a p.b) p.b,(Znb _ _ _ _ _).trans (Z7 (go (Kg 3 _) (go (Ac (tA h1 (by decide)) (De _ _ _ _ h2 he) (.inl ⟨_,rfl⟩)) (Zne _ _ _ _ _ _ _)))),.inr ⟨_,_,.one h1 h2 he,rfl⟩⟩
   ·refine⟨.non,(Znb _ _ _ _ _).trans (Z7 (go (Kg 3 _) (Yp (Ac (tA h1 (by decide)) (Zd2 _ _ _ _ h2 he) (.inr ⟨_,rfl⟩))))),.inl ⟨rfl,fun x y h=>?_⟩⟩
    cases h with
    |two a b c=>exact b h2
    |one a b c=>exact he c
    |oth a b c=>exact h1 a
  ·refine⟨_,(Znb _ _ _ _ _).trans (Z7 (go (Kg 3 _) (go (Ac (tA h1 (by decide)) (tB _ hu hp.y hk h2 (by simp)) (.inl ⟨_,rfl⟩)) (Zpe _ _ _ _ _ hp.x.pos hp.y.pos)))),?_⟩
   by_cases he:t.tm p.a p.b*p.d=u.tm p.c p.d*p.b
   ·rw[if_pos he]
    exact .inr ⟨_,_,.two h1 h2 he,rfl⟩
   ·rw[if_neg he]
    refine .inl ⟨rfl,fun x y h=>?_⟩
    cases h with
    |two a b c=>exact he c
    |one a b c=>exact h2 b
    |oth a b c=>exact h1 a
end
def tval (t u:Tk)(p:Po4):Option (Int×Int):=
 if t.h≠0 then(if u.h≠0 then(if t.tm p.a p.b*p.d=u.tm p.c p.d*p.b then some (t.tm p.a p.b,p.b) else none) else if p.c=u.n/\p.d=u.m then some (t.tm p.a p.b,p.b) else none)
 else if p.a=t.n/\p.b=t.m then some (u.tm p.c p.d,p.d) else none
def tD:Option (Int×Int)->D
 |some xy=>Yw xy.1 xy.2
 |none=>.non
def Zg7 {k:Nat}{a1 a2:Addr}{t u:Tk}{p:Po4}(ht:TB k t)(hu:TB k u)(hp:PoOk k p)(hk:k<=100)(hm:t.h≠0\/u.h≠0):F_time_to [.ob a1 "Track" t.r,.ob a2 "Track" u.r,.im p.D]=.ok (.im (tD (tval t u p))):=by
 obtain⟨d,e,h⟩:=Mo (a1:=a1) (a2:=a2) ht hu hp hk hm
 rw[e]
 congr 2
 unfold tval
 rcases h with⟨rfl,h⟩|⟨x,y,h,rfl⟩
 ·by_cases h1:t.h=0
  ·have h2:=hm.resolve_left (fun z=>z h1)
   rw[if_neg (fun z=>z h1)]
   by_cases he:p.a=t.n/\p.b=t.m
   ·exact absurd (.oth h1 he h2) (h _ _)
   ·rw[if_neg he];rfl
  ·rw[if_pos h1]
   by_cases h2:u.h=0
   ·rw[if_neg (fun z=>z h2)]
    by_cases he:p.c=u.n/\p.d=u.m
    ·exact absurd (.one h1 h2 he) (h _ _)
    ·rw[if_neg he];rfl
   ·rw[if_pos h2]
    by_cases he:t.tm p.a p.b*p.d=u.tm p.c p.d*p.b
    ·exact absurd (.two h1 h2 he) (h _ _)
    ·rw[if_neg he];rfl
 ·cases h with
  |two a b c=>rw[if_pos a,if_pos b,if_pos c];rfl
  |one a b c=>rw[if_pos a,if_neg (fun z=>z b),if_pos c];rfl
  |oth a b c=>rw[if_neg (fun z=>z a),if_pos b];rfl
def Zd3 {k:Nat}{t:Tk}{n d:Int}(ht:TB k t)(h:Fr k n d):Fr (k+(k+k+1)+k+1) (t.tm n d) d:=by
 have h1:(t.line*d-n).natAbs<=10 ^ (k+k+1):=Nf (Qq ht.li h.bot) (Nat.le_trans h.top (Vk (by lia)))
 have h3:(t.h*(t.line*d-n)*t.lap).natAbs<=10 ^ (k+(k+k+1)+k):=Qq (Qq ht.h h1) ht.lap
 exact⟨h.pos,Nf (Nat.le_trans (Qq ht.due h.bot) (Vk (by lia))) h3,Nat.le_trans h.bot (Vk (by lia))⟩
def Ip {k:Nat}{t u:Tk}{p:Po4}{xy:Int×Int}(ht:TB k t)(hu:TB k u)(hp:PoOk k p)(h:tval t u p=some xy):Fr (k+(k+k+1)+k+1) xy.1 xy.2:=by
 unfold tval at h
 split at h
 ·split at h
  ·split at h
   ·cases h;exact Zd3 ht hp.x
   ·cases h
  ·split at h
   ·cases h;exact Zd3 ht hp.x
   ·cases h
 ·split at h
  ·cases h;exact Zd3 hu hp.y
  ·cases h
abbrev Iq:=Option (Po4×Int×Int)
def Y5 (c:Po4->Option (Int×Int))(s:Iq)(p:Po4):Iq:=match c p with
 |none=>s
 |some (x,y)=>match s with
  |none=>some (p,x,y)
  |some (q,x',y')=>if x*y'<x'*y then some (p,x,y) else some (q,x',y')
def Q9 (c:Option (Int×Int))(lo hi:Int):Option (Int×Int):=match c with
 |some (x,y)=>if lo*y<x/\x<hi*y then some (x,y) else none
 |none=>none
def Ua {c:Option (Int×Int)}{lo hi x y:Int}(h:c=some (x,y))(a:lo*y<x/\x<hi*y):Q9 c lo hi=some (x,y):=by rw[h];exact if_pos a
def K4 {c:Option (Int×Int)}{lo hi x y:Int}(h:c=some (x,y))(a:¬(lo*y<x/\x<hi*y)):Q9 c lo hi=none:=by rw[h];exact if_neg a
def X3 {c:Po4->Option (Int×Int)}{s:Iq}{p:Po4}(h:c p=none):Y5 c s p=s:=by unfold Y5;rw[h]
def Pg {c:Po4->Option (Int×Int)}{p:Po4}{x y:Int}(h:c p=some (x,y)):Y5 c none p=some (p,x,y):=by unfold Y5;rw[h]
def Dg {c:Po4->Option (Int×Int)}{p q:Po4}{x y x' y':Int}(h:c p=some (x,y))(hl:x*y'<x'*y):Y5 c (some (q,x',y')) p=some (p,x,y):=by unfold Y5;rw[h];exact if_pos hl
def Dh {c:Po4->Option (Int×Int)}{p q:Po4}{x y x' y':Int}(h:c p=some (x,y))(hl:¬x*y'<x'*y):Y5 c (some (q,x',y')) p=some (q,x',y'):=by unfold Y5;rw[h];exact if_neg hl
def Lc:Iq->D
 |none=>.non
 |some (p,_,_)=>p.D
def Di (wt:Int):Iq->D
 |none=>nD wt 1
 |some (_,x,y)=>Yw x y
noncomputable def Zpo:Zf->M O:=Zx (Z4 7 (Sn F_time_to (Vp 1 (Vp 2 (Gv (Zd 6) Mb)))))
   (Jw (tA (DL.tB (Zp J3 (Zd 7) (eC .non))) (tA (DL.tB (Z5 Ke (Zc (Qv (Zc ↑0 (Zc ↑1 Zk))) (Zc (Zd 7) Zk)))) (DL.tB (Z5 Ke (Zc (Zd 7) (Zc (Zd 5) Zk))))))
    (Zx (Z4 4 (Zd 6)) (Z4 5 (Zd 7))) Y7)
def Znf (k:Nat):Iq->Prop
 |none=>True
 |some (_,x,y)=>Fr k x y
section
variable {k:Nat}{ad1 ad2:Addr}{t u:Tk}{wt:Int}
def Zd4 (sd:Zf)(x y:Int)(e:sd[7]?=some (Io (Yw x y))):DL.tB (Zp J3 (Zd 7) (eC .non)) sd=.ok true:=by
 refine Qn (Zm (x:=Yw x y) (y:=.non) ?_ rfl rfl)
 unfold Zd;rw[e]
def Zg8 (fl:S)(ht:TB k t)(hu:TB k u)(hk:k<=60)(hm:t.h≠0\/u.h≠0)(hw:Fr k wt 1){p:Po4}(hp:PoOk k p){s:Iq}(hs:Znf (k+(k+k+1)+k+1) s)(hs':∀q x y,s=some (q,x,y)->x<wt*y)(v7:Option S):
  ∃w7,Zpo [some fl,some (.ob ad1 "Track" t.r),some (.ob ad2 "Track" u.r),Jo wt,Io (Lc s),Io (Di wt s),Io p.D,v7] =
   .ok (.nx [some fl,some (.ob ad1 "Track" t.r),some (.ob ad2 "Track" u.r),Jo wt,Io (Lc (Y5 (fun p=>Q9 (tval t u p) 0 wt) s p)),Io (Di wt (Y5 (fun p=>Q9 (tval t u p) 0 wt) s p)),Io p.D,w7]):=by
 have e1:Sn F_time_to (Vp 1 (Vp 2 (Gv (Zd 6) Mb))) [some fl,some (.ob ad1 "Track" t.r),some (.ob ad2 "Track" u.r),Jo wt,Io (Lc s),Io (Di wt s),Io p.D,v7]=.ok (tD (tval t u p)):=by
  show Gw (F_time_to [.ob ad1 "Track" t.r,.ob ad2 "Track" u.r,.im p.D])=_
  rw[Zg7 ht hu hp (by lia) hm]
  rfl
 refine⟨Io (tD (tval t u p)),go (Zy e1) ?_⟩
 cases ev:tval t u p with
 |none=>
  rw[X3 (show Q9 (tval t u p) 0 wt=none by rw[ev];rfl)]
  exact Z6 (Zav (Qn (Zm (g:=J3) (x:=.non) (y:=.non) rfl rfl rfl)))
 |some xy=>
  obtain⟨x,y⟩:=xy
  have hf:=Ip ht hu hp ev
  obtain⟨n,d,el,hnd,em,_⟩:=Fk hf
  have b0:DL.tB (Z5 Ke (Zc (Qv (Zc ↑0 (Zc ↑1 Zk))) (Zc (Zd 7) Zk))) [some fl,some (.ob ad1 "Track" t.r),some (.ob ad2 "Track" u.r),Jo wt,Io (Lc s),Io (Di wt s),Io p.D,Io (Yw x y)]=.ok (decide (0<x)):=by
   refine Qn (Z3 (aC (W7 rfl rfl) (a1 (d:=nD n d) ?_)) (Rm (k:=k+(k+k+1)+k+1) ⟨by decide,by simp,Nat.pow_pos (by decide)⟩ hnd (by lia)) ?_)
   ·show M.ok (Yw x y)=_
    rw[el]
   ·show M.ok (D.bl (decide (0*d<n*1)))=_
    congr 3
    have:=S8 (a:=0) (b:=1) (c:=x) (d:=y) (p:=0) (q:=1) (p':=n) (q':=d) (by decide) hf.pos (by decide) hnd.pos rfl em
    simp only[Int.zero_mul,Int.mul_one] at this ⊢
    exact propext this
  have b1:∃sx sy,0<sy/\(s=none->sx=wt/\sy=1)/\(∀q x' y',s=some (q,x',y')->sx=x'/\sy=y')/\DL.tB (Z5 Ke (Zc (Zd 7) (Zc (Zd 5) Zk))) [some fl,some (.ob ad1 "Track" t.r),some (.ob ad2 "Track" u.r),Jo wt,Io (Lc s),Io (Di wt s),Io p.D,Io (Yw x y)]=.ok (decide (x*sy<sx*y)):=by
   cases s with
   |none=>
    refine⟨wt,1,by decide,fun _=>⟨rfl,rfl⟩,(fun _ _ _ h=>by cases h),Qn (Z3 (aC (d:=nD n d) ?_ (a1 (d:=nD wt 1) rfl)) (Rm hnd (hw.mono (by lia)) (by lia)) ?_)⟩
    ·show M.ok (Yw x y)=_
     rw[el]
    ·show M.ok (D.bl (decide (n*1<wt*d)))=_
     congr 3
     exact propext (S8 (a:=x) (b:=y) (c:=wt) (d:=1) hf.pos (by decide) hnd.pos (by decide) em rfl)
   |some z=>
    obtain⟨q,x',y'⟩:=z
    have hs:Fr _ x' y':=hs
    obtain⟨n',d',el',hnd',em',_⟩:=Fk hs
    refine⟨x',y',hs.pos,(fun h=>by cases h),(fun _ _ _ h=>by cases h;exact⟨rfl,rfl⟩),Qn (Z3 (aC (d:=nD n d) ?_ (a1 (d:=nD n' d') ?_)) (Rm hnd hnd' (by lia)) ?_)⟩
    ·show M.ok (Yw x y)=_
     rw[el]
    ·show M.ok (Yw x' y')=_
     rw[el']
    ·show M.ok (D.bl (decide (n*d'<n'*d)))=_
     congr 3
     exact propext (S8 hf.pos hs.pos hnd.pos hnd'.pos em em')
  obtain⟨sx,sy,psy,n1,n2,b1⟩:=b1
  have nn:DL.tB (Zp J3 (Zd 7) (eC .non)) [some fl,some (.ob ad1 "Track" t.r),some (.ob ad2 "Track" u.r),Jo wt,Io (Lc s),Io (Di wt s),Io p.D,Io (Yw x y)]=.ok true:=Zd4 _ x y rfl
  by_cases h0:0<x
  ·by_cases h1:x*sy<sx*y
   ·have acc:0*y<x/\x<wt*y:=by
     refine⟨by lia,?_⟩
     cases hs0:s with
     |none=>obtain⟨rfl,rfl⟩:=n1 hs0;lia
     |some z=>
      obtain⟨q,x',y'⟩:=z
      obtain⟨rfl,rfl⟩:=n2 _ _ _ hs0
      have h2:=hs' _ _ _ hs0
      have h3:=Int.mul_lt_mul_of_pos_right h2 hf.pos
      have h4:x*sy<wt*y*sy:=by
       refine Int.lt_trans h1 ?_
       rw[Int.mul_right_comm]
       exact h3
      exact Int.lt_of_mul_lt_mul_right h4 (Int.le_of_lt psy)
    refine(Qr (Lb nn (Lb (b0.trans (by rw[decide_eq_true h0])) (b1.trans (by rw[decide_eq_true h1])))) (go (Zy rfl) (Zy rfl))).trans ?_
    have hw':=Ua ev acc
    cases s with
    |none=>rw[Pg (c:=fun p=>Q9 (tval t u p) 0 wt) hw'];rfl
    |some z=>
     obtain⟨q,x',y'⟩:=z
     obtain⟨rfl,rfl⟩:=n2 _ _ _ rfl
     rw[Dg (c:=fun p=>Q9 (tval t u p) 0 wt) hw' h1]
     rfl
   ·refine(Z6 (Lb nn (Lb (b0.trans (by rw[decide_eq_true h0])) (b1.trans (by rw[decide_eq_false h1]))))).trans ?_
    cases s with
    |none=>
     obtain⟨rfl,rfl⟩:=n1 rfl
     rw[X3 (c:=fun p=>Q9 (tval t u p) 0 sx) (K4 ev (by lia))]
     rfl
    |some z=>
     obtain⟨q,x',y'⟩:=z
     obtain⟨rfl,rfl⟩:=n2 _ _ _ rfl
     by_cases acc:0*y<x/\x<wt*y
     ·rw[Dh (c:=fun p=>Q9 (tval t u p) 0 wt) (Ua ev acc) h1];rfl
     ·rw[X3 (c:=fun p=>Q9 (tval t u p) 0 wt) (K4 ev acc)];rfl
  ·refine(Z6 (Lb nn (Zav (b0.trans (by rw[decide_eq_false h0]))))).trans ?_
   rw[X3 (c:=fun p=>Q9 (tval t u p) 0 wt) (K4 ev (by lia))]
   rfl
def Zd5 (ht:TB k t)(hu:TB k u){p:Po4}(hp:PoOk k p){s:Iq}(hs:Znf (k+(k+k+1)+k+1) s/\∀q x y,s=some (q,x,y)->x<wt*y):
  Znf (k+(k+k+1)+k+1) (Y5 (fun p=>Q9 (tval t u p) 0 wt) s p)/\∀q x y,Y5 (fun p=>Q9 (tval t u p) 0 wt) s p=some (q,x,y)->x<wt*y:=by
 cases ev:tval t u p with
 |none=>
  rw[X3 (show Q9 (tval t u p) 0 wt=none by rw[ev];rfl)]
  exact hs
 |some xy=>
  obtain⟨x,y⟩:=xy
  have hf:=Ip ht hu hp ev
  by_cases acc:0*y<x/\x<wt*y
  ·have hw':=Ua ev acc
   have new:Znf (k+(k+k+1)+k+1) (some (p,x,y))/\∀q x' y',some (p,x,y)=some (q,x',y')->x'<wt*y':=⟨hf,fun q x' y' h=>by cases h;exact acc.2⟩
   cases s with
   |none=>rw[Pg (c:=fun p=>Q9 (tval t u p) 0 wt) hw'];exact new
   |some z=>
    obtain⟨q,x',y'⟩:=z
    by_cases hl:x*y'<x'*y
    ·rw[Dg (c:=fun p=>Q9 (tval t u p) 0 wt) hw' hl];exact new
    ·rw[Dh (c:=fun p=>Q9 (tval t u p) 0 wt) hw' hl];exact hs
  ·rw[X3 (c:=fun p=>Q9 (tval t u p) 0 wt) (K4 ev acc)]
   exact hs
theorem Ir (fl:S)(ht:TB k t)(hu:TB k u)(hk:k<=60)(hm:t.h≠0\/u.h≠0)(hw:Fr k wt 1):∀(ps:List Po4) (s:Iq) (v6 v7:Option S),(∀p∈ps,PoOk k p)->(Znf (k+(k+k+1)+k+1) s/\∀q x y,s=some (q,x,y)->x<wt*y) ->
  ∃w6 w7,Xd (X4 6) Zpo (ps.map Po4.D) [some fl,some (.ob ad1 "Track" t.r),some (.ob ad2 "Track" u.r),Jo wt,Io (Lc s),Io (Di wt s),v6,v7] =
   .ok (.nx [some fl,some (.ob ad1 "Track" t.r),some (.ob ad2 "Track" u.r),Jo wt,Io (Lc (ps.foldl (Y5 (fun p=>Q9 (tval t u p) 0 wt)) s)),Io (Di wt (ps.foldl (Y5 (fun p=>Q9 (tval t u p) 0 wt)) s)),w6,w7])
 |[],s,v6,v7,_,_=>⟨v6,v7,rfl⟩
 |p::ps,s,v6,v7,hp,hs=>by
  obtain⟨w7,e⟩:=Zg8 (ad1:=ad1) (ad2:=ad2) fl ht hu hk hm hw (hp p (List.mem_cons_self ..)) hs.1 hs.2 v7
  obtain⟨x6,x7,e2⟩:=Ir fl ht hu hk hm hw ps (Y5 (fun p=>Q9 (tval t u p) 0 wt) s p) (Io p.D) w7 (fun q hq=>hp q (List.mem_cons_of_mem _ hq)) (Zd5 ht hu (hp p (List.mem_cons_self ..)) hs)
  exact⟨x6,x7,(Yr rfl e).trans e2⟩
def Zd6 (q:List (List Yh×D))(x y:Int)(ps:List Po4):Prop:=(Yu q [.inl x,.inl y]=some (.lst (ps.map Po4.D)))\/(Yu q [.inl x,.inl y]=none/\ps=[])
def Zg9 (a:Addr)(g:D){q:List (List Yh×D)}{ps:List Po4}(hh:Zd6 q t.sq u.sq ps)(ht:TB k t)(hu:TB k u)(hk:k<=60)(hm:t.h≠0\/u.h≠0)(hw:Fr k wt 1)(hp:∀p∈ps,PoOk k p):
  F_person_ahead [.fl a g q,.ob ad1 "Track" t.r,.ob ad2 "Track" u.r,.im (.int wt)]=.ok (.im (Lc (ps.foldl (Y5 (fun p=>Q9 (tval t u p) 0 wt)) none))):=by
 obtain⟨w6,w7,e⟩:=Ir (ad1:=ad1) (ad2:=ad2) (.fl a g q) ht hu hk hm hw ps none none none hp ⟨trivial,fun _ _ _ h=>by cases h⟩
 have e1:Vn (So 0 X6 (Zc (Qv (Zc (Q2 1 "Track" "square") (Zc (Q2 2 "Track" "square") Zk))) Zk)) [some (.fl a g q),some (.ob ad1 "Track" t.r),some (.ob ad2 "Track" u.r),Jo wt,Io .non,Io (nD wt 1),none,none]=.ok (ps.map Po4.D):=by
  have e2:So 0 X6 (Zc (Qv (Zc (Q2 1 "Track" "square") (Zc (Q2 2 "Track" "square") Zk))) Zk) [some (.fl a g q),some (.ob ad1 "Track" t.r),some (.ob ad2 "Track" u.r),Jo wt,Io .non,Io (nD wt 1),none,none]=.ok ((Yu q [.inl t.sq,.inl u.sq]).getD (.tup [])):=by
   show Gw (X6 [.fl a g q,.im (.tup [.int t.sq,.int u.sq])])=_
   rfl
  rcases hh with h|⟨h,rfl⟩
  ·rw[h] at e2
   exact Px e2
  ·rw[h] at e2
   exact Ii e2
 exact(Zp7 _ _ _ _ _ _).trans (Z7 (go (Zy rfl) (go (Zy (W7 rfl rfl)) (go ((Yq e1).trans e) (Z1 rfl)))))
end
structure Sd where
 up:Bool
 x:Int
 y:Int
 f:Bool
 g:Bool
def fc (b:Bool):D:=.str (if b=true then Str.ofString "m" else Str.ofString "p")
def kd (b:Bool):D:=.str (if b=true then Str.ofString "up" else Str.ofString "flat")
def Sd.D (s:Sd):D:=.tup [kd s.up,.int s.x,.int s.y,fc s.f,fc s.g]
def Yf (W H:Int)(ss:List Sd):D:=.tup [.int W,.int H,.tup (ss.map Sd.D)]
def Sd.at (s:Sd)(u:Bool)(x y:Int):Bool:=decide (s.up=u/\s.x=x/\s.y=y)
def Vh (W H:Int)(ss:List Sd)(u:Bool)(x y:Int):Option (Bool×Bool):=match ss.find? (fun s=>s.at u x y) with
 |some s=>some (s.f,s.g)
 |none=>if(if u=true then x else y)=0\/(if u=true then x else y)=(if u=true then W else H) then some (false,false) else none
def Zd7:Option (Bool×Bool)->D
 |some (f,g)=>.tup [fc f,fc g]
 |none=>.non
def Zif (a b:Bool):D.eq (kd a) (kd b)=decide (a=b):=by cases a<;>cases b<;>rfl
def Zha (s:Sd)(u:Bool)(x y:Int):D.eq (.tup [kd s.up,.int s.x,.int s.y]) (.tup [kd u,.int x,.int y])=s.at u x y:=by
 unfold Sd.at
 simp only[D.eq,D.eqs,Zif]
 by_cases h1:s.up=u<;>by_cases h2:s.x=x<;>by_cases h3:s.y=y<;>simp[h1,h2,h3]
def Dj (b:Bool)(x y:Int):(D.tup [kd b,.int x,.int y]).dep<=60:=by cases b<;>simp[kd,D.dep,D.deps]
def fB:Zf->M O:=Jw (DL.tB (Zp Jq (Zb7 (Zd 4) R7 (Kq ↑3)) (Qv (Zc (Zd 1) (Zc (Zd 2) (Zc (Zd 3) Zk)))))) (Q0 (Zb7 (Zd 4) (Kq ↑3) R7)) Y7
def Ld {fa fb fc:Zf->M D}{sd:Zf}{a b c:D}(h1:fa sd=.ok a)(h2:fb sd=.ok b)(h3:fc sd=.ok c):Qv (Zc fa (Zc fb (Zc fc Zk))) sd=.ok (.tup [a,b,c]):=by
 unfold Qv
 rw[aC h1 (aC h2 (Law.a1 h3))]
 rfl
theorem Zd8 (h0:Option S)(u:Bool)(x y:Int):∀(ss:List Sd) (v:Option S),(∃s,ss.find? (fun s=>s.at u x y)=some s/\Xd (X4 4) fB (ss.map Sd.D) [h0,Io (kd u),Jo x,Jo y,v]=.ok (.rt (.im (.tup [fc s.f,fc s.g])))) \/
  (ss.find? (fun s=>s.at u x y)=none/\∃w,Xd (X4 4) fB (ss.map Sd.D) [h0,Io (kd u),Jo x,Jo y,v]=.ok (.nx [h0,Io (kd u),Jo x,Jo y,w]))
 |[],v=>.inr ⟨rfl,v,rfl⟩
 |s::ss,v=>by
  have e1:DL.tB (Zp Jq (Zb7 (Zd 4) R7 (Kq ↑3)) (Qv (Zc (Zd 1) (Zc (Zd 2) (Zc (Zd 3) Zk))))) [h0,Io (kd u),Jo x,Jo y,Io s.D]=.ok (s.at u x y):=by
   refine Qn (Zm (x:=.tup [kd s.up,.int s.x,.int s.y]) rfl (Ld rfl rfl rfl) ?_)
   rw[Jx (Dj _ _ _),Zha]
  by_cases h:s.at u x y=true
  ·refine .inl ⟨s,by rw[List.find?_cons,h],?_⟩
   rw[h] at e1
   have e2:fB [h0,Io (kd u),Jo x,Jo y,Io s.D]=.ok (.rt (.im (.tup [fc s.f,fc s.g]))):=Qr e1 (Z1 rfl)
   unfold List.map Xd
   show(fB [h0,Io (kd u),Jo x,Jo y,Io s.D]).bind _=_
   rw[e2]
   rfl
  ·have hf:s.at u x y=false:=by cases hh:s.at u x y;rfl;exact absurd hh h
   rw[hf] at e1
   have e2:fB [h0,Io (kd u),Jo x,Jo y,Io s.D]=.ok (.nx [h0,Io (kd u),Jo x,Jo y,Io s.D]):=Z6 e1
   rcases Zd8 h0 u x y ss (Io s.D) with⟨s',g1,g2⟩|⟨g1,w,g2⟩
   ·exact .inl ⟨s',by rw[List.find?_cons,hf];exact g1,(Yr rfl e2).trans g2⟩
   ·exact .inr ⟨by rw[List.find?_cons,hf];exact g1,w,(Yr rfl e2).trans g2⟩
def Zk2 (W H:Int)(u:Bool)(x y:Int):∃d,Xm [.int W,.int H,kd u,.int x,.int y]=.ok (.im d)/\(d=.non↔¬((if u=true then x else y)=0\/(if u=true then x else y)=(if u=true then W else H))):=by
 have e5:D0 (DL.tB (Zp Jq (Zd 2) ↑"up")) (Zd 3) (Zd 4) [Jo W,Jo H,Io (kd u),Jo x,Jo y,none,none]=.ok (.int (if u=true then x else y)):=by
  cases u
  ·exact S7 (Qn (Zm rfl rfl (by rw[Jx (by simp[kd,D.dep])];rfl))) rfl
  ·exact Pw (Qn (Zm rfl rfl (by rw[Jx (by simp[kd,D.dep])];rfl))) rfl
 have e6:∀z,D0 (DL.tB (Zp Jq (Zd 2) ↑"up")) (Zd 0) (Zd 1) [Jo W,Jo H,Io (kd u),Jo x,Jo y,z,none]=.ok (.int (if u=true then W else H)):=fun z=>by
  cases u
  ·exact S7 (Qn (Zm rfl rfl (by rw[Jx (by simp[kd,D.dep])];rfl))) rfl
  ·exact Pw (Qn (Zm rfl rfl (by rw[Jx (by simp[kd,D.dep])];rfl))) rfl
 generalize (if u=true then x else y)=l at *
 generalize (if u=true then W else H)=m at *
 by_cases h0:l=0
 ·exact⟨.int 3,(Zo9 _ _ _ _ _ _ _).trans (Z7 (go (Zy e5) (go (Zy (e6 _)) (Yp (Qr (Qn (Zm rfl rfl (by rw[X2,h0];rfl))) (Z1 rfl)))))),by simp[h0]⟩
 ·by_cases h1:l=m
  ·exact⟨.int 4,(Zo9 _ _ _ _ _ _ _).trans (Z7 (go (Zy e5) (go (Zy (e6 _)) (go (Z6 (Qn (Zm rfl rfl (by rw[X2];simp[h0])))) (Yp (Qr (Qn (Zm rfl rfl (by rw[X2];simp[h1]))) (Z1 rfl))))))),by simp[h1]⟩
  ·exact⟨.non,(Zo9 _ _ _ _ _ _ _).trans (Z7 (go (Zy e5) (go (Zy (e6 _)) (go (Z6 (Qn (Zm rfl rfl (by rw[X2];simp[h0])))) (go (Z6 (Qn (Zm rfl rfl (by rw[X2];simp[h1])))) (Z1 rfl)))))),by simp[h0,h1]⟩
def Iu (W H:Int)(ss:List Sd)(u:Bool)(x y:Int):Qp [Yf W H ss,kd u,.int x,.int y]=.ok (.im (Zd7 (Vh W H ss u x y))):=by
 have e0:Vn 0[2]! [Io (Yf W H ss),Io (kd u),Jo x,Jo y,none]=.ok (ss.map Sd.D):=Ii (Zq rfl rfl (Zdr _ _ _ _))
 unfold Vh
 rcases Zd8 (Io (Yf W H ss)) u x y ss none with⟨s,g1,g2⟩|⟨g1,w,g2⟩
 ·rw[g1]
  exact(Zm6 _ _ _ _ _ _).trans (Z7 (Yp ((Yq e0).trans g2)))
 ·rw[g1]
  obtain⟨d,ed,hd⟩:=Zk2 W H u x y
  have ec:Z5 Xm (Zc 0[0]! (Zc 0[1]! (Zc (Zd 1) (Zc (Zd 2) (Zc (Zd 3) Zk))))) [Io (Yf W H ss),Io (kd u),Jo x,Jo y,w]=.ok d:=
   Z3 (aC (Zq rfl rfl (Yk _ _)) (aC (Zq rfl rfl (Yo _ _ _)) (aC rfl (aC rfl (Law.a1 rfl))))) ed rfl
  by_cases hn:d=.non
  ·have hr:=hd.mp hn
   simp only[if_neg hr]
   subst hn
   exact(Zm6 _ _ _ _ _ _).trans (Z7 (go ((Yq e0).trans g2) (Yp (Qr (Qn (Zm ec rfl rfl)) (Z1 rfl)))))
  ·have hr:_:=Classical.not_not.mp (fun z=>hn (hd.mpr z))
   simp only[if_pos hr]
   refine(Zm6 _ _ _ _ _ _).trans (Z7 (go ((Yq e0).trans g2) (go (Z6 (Qn (Zm ec rfl ?_))) (Z1 (W7 rfl rfl)))))
   cases d<;>first|rfl|exact absurd rfl hn
def Sd.tch (s:Sd)(x y:Int):Bool:=s.at true x (y-1)||(s.at true x y||(s.at false (x-1) y||s.at false x y))
def Wm (W H:Int)(ss:List Sd)(x y:Int):Bool:=(decide (x=0\/x=W)||decide (y=0\/y=H))||ss.any (fun s=>s.tch x y)
theorem Mp {α:Type}(b:α->Bool):∀l:List α,Va (l.map fun a=>D.bl (b a))=some (l.map b)
 |[]=>rfl
 |a::l=>by
  rw[List.map_cons,List.map_cons]
  simp only[Va,Mp b l]
  rfl
def any_map {α:Type}(b:α->Bool)(l:List α):Zfs [.lst (l.map fun a=>.bl (b a))]=.ok (.bl (l.any b)):=by
 show(match Va (l.map fun a=>D.bl (b a)) with|some bs=>M.ok (D.bl (bs.any id))|none=>.bad)=_
 rw[Mp]
 simp
def Dk (x a b:Int):Y0 [.int x,.int a,.int b]=.ok (.im (.bl (decide (a<=x)&&decide (x<=b)))):=by
 have e:V7 [.int x]=.ok (.im (.bl true)):=rfl
 refine(Zkw _ _ _ _ _).trans (Z7 (Z1 (Zdq (Z3 (Law.a1 rfl) e rfl) (Zdt rfl rfl))))
def Zp8 (x a b:Int):D1 (.int x) [.int a,.int b]=decide (x=a\/x=b):=by
 have e:D1 (.int x) [.int a,.int b]=((a==x)||((b==x)||false)):=by simp only[D1,List.any_cons,List.any_nil,D.eq]
 rw[e,Bool.eq_iff_iff]
 simp only[Bool.or_false,Bool.or_eq_true,beq_iff_eq,decide_eq_true_eq]
 exact⟨fun h=>h.imp Eq.symm Eq.symm,fun h=>h.imp Eq.symm Eq.symm⟩
def Zhb (l:List Int):D.deps (l.map D.int)<=60:=Wl fun d hd=>by
 obtain⟨i,_,rfl⟩:=List.mem_map.mp hd
 simp[D.dep]
def Zig (x a b:Int):Zft (.int x) (.tup [.int a,.int b])=.ok (.bl (decide (x=a\/x=b))):=by
 show(if D.deps [.int a,.int b]<=60 then M.ok (D.bl (D1 (.int x) [.int a,.int b])) else .bad)=_
 rw[if_pos (show D.deps [D.int a,D.int b]<=60 from Zhb [a,b]),Zp8]
def Xv (u:Bool)(x y:Int):D:=.tup [kd u,.int x,.int y]
def Zp9 (s:Sd)(x y:Int):Zft (.tup [kd s.up,.int s.x,.int s.y]) (.lst [Xv true x (y-1),Xv true x y,Xv false (x-1) y,Xv false x y])=.ok (.bl (s.tch x y)):=by
 have hd:D.deps [Xv true x (y-1),Xv true x y,Xv false (x-1) y,Xv false x y]<=60:=Wl fun d hd=>by
  simp only[List.mem_cons,List.not_mem_nil,or_false] at hd
  rcases hd with rfl|rfl|rfl|rfl<;>exact Dj _ _ _
 show(if D.deps [Xv true x (y-1),Xv true x y,Xv false (x-1) y,Xv false x y]<=60 then M.ok (D.bl (D1 (.tup [kd s.up,.int s.x,.int s.y]) [Xv true x (y-1),Xv true x y,Xv false (x-1) y,Xv false x y])) else .bad)=_
 rw[if_pos hd]
 have sy:∀u a b,D.eq (Xv u a b) (.tup [kd s.up,.int s.x,.int s.y])=s.at u a b:=fun u a b=>by
  unfold Xv Sd.at
  simp only[D.eq,D.eqs,Zif]
  rw[Bool.eq_iff_iff]
  simp only[Bool.and_true,Bool.and_eq_true,beq_iff_eq,decide_eq_true_eq]
  exact⟨fun⟨h1,h2,h3⟩=>⟨h1.symm,h2.symm,h3.symm⟩,fun⟨h1,h2,h3⟩=>⟨h1.symm,h2.symm,h3.symm⟩⟩
 unfold Sd.tch D1
 simp only[List.any_cons,List.any_nil,sy,Bool.or_false]
def Zd9 {W H:Int}{ss:List Sd}(hl:ss.length<=1000){x y:Int}(x0:0<=x)(x1:x<=W)(y0:0<=y)(y1:y<=H):Vf [Yf W H ss,.int x,.int y]=.ok (.im (.bl (Wm W H ss x y))):=by
 have c1:Z5 Y0 (Zc (Zd 1) (Zc ↑0 (Zc (Zd 3) Zk))) [Io (Yf W H ss),Jo x,Jo y,Jo W,Jo H,none]=.ok (.bl true):=
  Z3 (aC rfl (aC rfl (Law.a1 rfl))) (Dk x 0 W) (by show M.ok (D.bl _)=_;rw[decide_eq_true x0,decide_eq_true x1];rfl)
 have c2:Z5 Y0 (Zc (Zd 2) (Zc ↑0 (Zc (Zd 4) Zk))) [Io (Yf W H ss),Jo x,Jo y,Jo W,Jo H,none]=.ok (.bl true):=
  Z3 (aC rfl (aC rfl (Law.a1 rfl))) (Dk y 0 H) (by show M.ok (D.bl _)=_;rw[decide_eq_true y0,decide_eq_true y1];rfl)
 have c3:DL.tO (DL.tB (Zp Zft (Zd 1) (Qv (Zc ↑0 (Zc (Zd 3) Zk))))) (DL.tB (Zp Zft (Zd 2) (Qv (Zc ↑0 (Zc (Zd 4) Zk))))) [Io (Yf W H ss),Jo x,Jo y,Jo W,Jo H,none]=.ok (decide (x=0\/x=W)||decide (y=0\/y=H)):=
  Zkx (Qn (Zm rfl (W7 rfl rfl) (Zig x 0 W))) (Qn (Zm rfl (W7 rfl rfl) (Zig y 0 H)))
 unfold Wm
 refine(Zkw _ _ _ _ _).trans (Z7 (go (Zy (Zq rfl rfl (Yk _ _))) (go (Zy (Zq rfl rfl (Yo _ _ _))) (go (Z6 (Zia (Zdp (Qn c1)) (Zdp (Qn c2)))) ?_))))
 cases hb:(decide (x=0\/x=W)||decide (y=0\/y=H)) with
 |true=>
  rw[hb] at c3
  exact Yp (Qr c3 (Z1 rfl))
 |false=>
  rw[hb] at c3
  refine go (Z6 c3) (go (Zy (d:=.lst [Xv true x (y-1),Xv true x y,Xv false (x-1) y,Xv false x y]) (Fg (aC (Ld rfl rfl rfl) (aC (Ld rfl rfl rfl) (aC (Ld rfl rfl rfl) (Law.a1 (Ld rfl rfl rfl))))) (K2 (by show(4:Nat)<=1000000;decide)))) (Z1 (K3 (Law.a1 (Fi (Rk (Ii (Zq rfl rfl (Zdr _ _ _ _))) (by rw[List.length_map];exact hl) (Zgz Sd.D (fun s=>.bl (s.tch x y)) ss fun s _=>⟨_,rfl,Zm (x:=.tup [kd s.up,.int s.x,.int s.y]) rfl rfl (Zp9 s x y)⟩)))) (any_map _ ss))))
inductive Th where
 |no|co|fa (b:Bool)
 deriving DecidableEq
def Th.D:Th->D
 |.no=>.non
 |.co=>.str (Str.ofString "corner")
 |.fa b=>fc b
def Th.mir:Th->Bool
 |.fa true=>true
 |_=>false
def Ta (h:Int):Option (Bool×Bool)->Th
 |none=>.no
 |some (f,g)=>.fa (if 0<h then f else g)
def thing (W H:Int)(ss:List Sd)(t u:Tk)(now:Int):Th:=
 if t.due=now/\u.due=now then(if Wm W H ss t.line u.line=true then .co else .no)
 else if t.due=now then Ta t.h (Vh W H ss true t.line u.sq)
 else if u.due=now then Ta u.h (Vh W H ss false t.sq u.line)
 else .no
def Fn (th:Th):th.D.dep<=60:=by cases th<;>simp[Th.D,fc,D.dep]
def Zk3 (th:Th):D.eq th.D (.str (Str.ofString "m"))=th.mir:=by
 cases th with
 |no=>rfl
 |co=>rfl
 |fa b=>cases b<;>rfl
def Zpf (th:Th):D.eq th.D (.str (Str.ofString "p"))=decide (th=.fa false):=by
 cases th with
 |no=>rfl
 |co=>rfl
 |fa b=>cases b<;>rfl
def Zpg (th:Th):D.eq th.D (.str (Str.ofString "corner"))=decide (th=.co):=by
 cases th with
 |no=>rfl
 |co=>rfl
 |fa b=>cases b<;>rfl
def Zih {x y:Int}(h:y<x):Rc (.int x) (.int y)=.ok (.bl true):=by
 show M.ok (D.bl (decide (y<x)))=_
 rw[decide_eq_true h]
def Zii {x y:Int}(h:¬y<x):Rc (.int x) (.int y)=.ok (.bl false):=by
 show M.ok (D.bl (decide (y<x)))=_
 rw[decide_eq_false h]
def Zk4 (a:Addr)(t:Tk)(o:Option (Bool×Bool)):F_face_ahead [.ob a "Track" t.r,.im (Zd7 o)]=.ok (.im (Ta t.h o).D):=by
 refine(Zn4 _ _ _ _).trans (Z7 ?_)
 cases o with
 |none=>exact Yp (Qr (Qn (Zm rfl rfl rfl)) (Z1 rfl))
 |some fg=>
  obtain⟨f,g⟩:=fg
  refine go (Z6 (Qn (Zm rfl rfl rfl))) (Z1 ?_)
  show _=M.ok (fc (if 0<t.h then f else g))
  by_cases h:0<t.h
  ·rw[if_pos h]
   exact Pw (Qn (Zm rfl rfl (Zih h))) (Zq rfl rfl (Yk _ _))
  ·rw[if_neg h]
   exact S7 (Qn (Zm rfl rfl (Zii h))) (Zq rfl rfl (Yo _ _ _))
def Zqa (f:Zf->M D)(a0 a1 a2 a3:S):Zmw 4 f [a0,a1,a2,a3]=f [some a0,some a1,some a2,some a3]:=rfl
def Zea {c:Zf->M Bool}{f g:Zf->M D}{sd:Zf}{r:M D}(h:c sd=.ok true)(k:f sd=r):Zh8 c f g sd=r:=by unfold Zh8;rw[h];exact k
def Mq {c:Zf->M Bool}{f g:Zf->M D}{sd:Zf}{r:M D}(h:c sd=.ok false)(k:g sd=r):Zh8 c f g sd=r:=by unfold Zh8;rw[h];exact k
def Iv (i:Nat){sd:Zf}{a b:Addr}{g:D}{q:List (List Yh×D)}{t:Tk}{W H:Int}{ss:List Sd}{up:Bool}{x y:Int}(e0:sd[0]?=some (some (.fl a (Yf W H ss) q))) (ei:sd[i]?=some (some (.ob b "Track" t.r))) {fk:Zf->M D} (hk:fk sd=.ok (.tup [kd up,.int x,.int y])):
  Wk Qp F_face_ahead i fk sd=.ok (Ta t.h (Vh W H ss up x y)).D:=by
 unfold Wk
 rw[e0,ei]
 show(if Wx (S.ob b "Track" t.r)=true then _ else _)=_
 rw[if_pos (show Wx (S.ob b "Track" t.r)=true from rfl),hk]
 have hs:(Kr [kd up,D.int x,D.int y]).isSome=true:=by cases up<;>rfl
 rw[M.bind_ok]
 dsimp only
 rw[if_pos ⟨rfl,hs⟩]
 have e1:V0 Qp (Yf W H ss) [kd up,.int x,.int y]=.ok (Zd7 (Vh W H ss up x y)):=by
  unfold V0
  rw[Iu]
  rfl
 rw[e1,M.bind_ok,Zk4]
 rfl
def Zeb (i:Nat){sd:Zf}{b:Addr}{t:Tk}{now:Int} (ei:sd[i]?=some (some (.ob b "Track" t.r))) (e3:sd[3]?=some (Jo now)):DL.tB (Zp Jq (Q2 i "Track" "due") (Zd 3)) sd=.ok (decide (t.due=now)):=by
 refine Qn (Zm (x:=.int t.due) (y:=.int now) ?_ ?_ (by rw[X2];rfl))
 ·unfold Q2;rw[ei];rfl
 ·unfold Zd;rw[e3]
def Zhc (a a1 a2:Addr)(q:List (List Yh×D)){W H:Int}{ss:List Sd}{t u:Tk}{now:Int}(hl:ss.length<=1000)(hc:t.due=now->u.due=now->0<=t.line/\t.line<=W/\0<=u.line/\u.line<=H):
  F_thing_at [.fl a (Yf W H ss) q,.ob a1 "Track" t.r,.ob a2 "Track" u.r,.im (.int now)]=.ok (thing W H ss t u now).D:=by
 refine(Zqa _ _ _ _ _).trans ?_
 have d1:=Zeb 1 (sd:=[some (.fl a (Yf W H ss) q),some (.ob a1 "Track" t.r),some (.ob a2 "Track" u.r),Jo now]) rfl rfl
 have d2:=Zeb 2 (sd:=[some (.fl a (Yf W H ss) q),some (.ob a1 "Track" t.r),some (.ob a2 "Track" u.r),Jo now]) rfl rfl
 unfold thing
 by_cases h1:t.due=now
 ·rw[decide_eq_true h1] at d1
  by_cases h2:u.due=now
  ·rw[decide_eq_true h2] at d2
   rw[if_pos ⟨h1,h2⟩]
   obtain⟨x0,x1,y0,y1⟩:=hc h1 h2
   refine Zea (Lb d1 d2) ?_
   have ec:=Zd9 (W:=W) (H:=H) (ss:=ss) hl x0 x1 y0 y1
   cases hb:Wm W H ss t.line u.line with
   |true=>
    rw[hb] at ec
    exact Pw (Qn (Z3 (aC rfl (aC (U5 1 rfl) (Law.a1 (U5 2 rfl)))) ec rfl)) rfl
   |false=>
    rw[hb] at ec
    exact S7 (Qn (Z3 (aC rfl (aC (U5 1 rfl) (Law.a1 (U5 2 rfl)))) ec rfl)) rfl
  ·rw[decide_eq_false h2] at d2
   rw[if_neg (fun z=>h2 z.2),if_pos h1]
   refine Mq (Lb d1 d2) (Zea d1 (Iv 1 (g:=.non) (up:=true) rfl rfl (Ld rfl (U5 1 rfl) rfl)))
 ·rw[decide_eq_false h1] at d1
  rw[if_neg (fun z=>h1 z.1),if_neg h1]
  by_cases h2:u.due=now
  ·rw[decide_eq_true h2] at d2
   rw[if_pos h2]
   exact Mq (Zav d1) (Mq d1 (Zea d2 (Iv 2 (g:=.non) (up:=false) rfl rfl (Ld rfl rfl (U5 2 rfl)))))
  ·rw[decide_eq_false h2] at d2
   rw[if_neg h2]
   exact Mq (Zav d1) (Mq d1 (Mq d2 rfl))
def Xw (th:Th)(over may:Bool):Option Str:=match th with
 |.co=>some (Str.ofString "corner")
 |.no=>if over=true then some (Str.ofString "end") else none
 |.fa false=>if over=true then some (Str.ofString "end") else some (Str.ofString "plain")
 |.fa true=>if over=true then some (Str.ofString "end") else if may=true then none else some (Str.ofString "many")
def Iw:Option Str->D
 |some s=>.str s
 |none=>.non
def Zk5 (th:Th)(over may:Bool):Xy [th.D,.bl over,.bl may]=.ok (.im (Iw (Xw th over may))):=by
 refine(Zkw _ _ _ _ _).trans (Z7 ?_)
 have c1:∀s:String,DL.tB (Zp Jq (Zd 0) (eC (.str (Str.ofString s)))) [Io th.D,Io (.bl over),Io (.bl may)]=.ok (D.eq th.D (.str (Str.ofString s))):=fun s=>Qn (Zm (x:=th.D) rfl rfl (Jx (Fn th)))
 have cc:=c1 "corner"
 have cp:=c1 "p"
 have cm:=c1 "m"
 rw[Zpg] at cc
 rw[Zpf] at cp
 rw[Zk3] at cm
 cases th with
 |co=>exact Yp (Qr cc (Z1 rfl))
 |no=>
  cases over with
  |true=>exact go (Z6 cc) (Yp (Qr rfl (Z1 rfl)))
  |false=>exact go (Z6 cc) (go (Z6 rfl) (go (Z6 cp) (go (Z6 (Zav cm)) (Z1 rfl))))
 |fa b=>
  cases over with
  |true=>cases b<;>exact go (Z6 cc) (Yp (Qr rfl (Z1 rfl)))
  |false=>
   cases b with
   |false=>exact go (Z6 cc) (go (Z6 rfl) (Yp (Qr cp (Z1 rfl))))
   |true=>
    cases may with
    |true=>exact go (Z6 cc) (go (Z6 rfl) (go (Z6 cp) (go (Z6 (Lb cm (Zdp rfl))) (Z1 rfl))))
    |false=>exact go (Z6 cc) (go (Z6 rfl) (go (Z6 cp) (Yp (Qr (Lb cm (Zm8 (b:=false) rfl)) (Z1 rfl)))))
def place (t:Tk)(now:Int):D:=if t.h=0 then nD t.n t.m else Yw (t.line*t.lap-t.h*(t.due-now)) t.lap
def Q5 (t u:Tk)(now:Int):D:=.tup [place t now,place u now]
def Qb (t:Tk)(now:Int)(th:Th):Tk:=if t.due=now then(if th.mir=true then {t with h:=-t.h,due:=t.due+t.lap} else {t with sq:=t.sq+t.h,due:=t.due+t.lap}) else t
def Ix (t:Tk)(now:Int)(th:Th):F_pass_line t.r [.int now,th.D]=some (Qb t now th).r:=by
 unfold Tk.r
 rw[Zk0 _ _ _ _ _ _ _ (Fn th),Zk3]
 unfold Qb
 by_cases h:t.due=now
 ·rw[if_pos h,if_pos h]
  cases th.mir<;>rfl
 ·rw[if_neg h,if_neg h]
def Ju:Nat:=10 ^ 54
def Tb:(10:Nat) ^ 56=100*Ju:=rfl
def Ad:10 ^ 10<=Ju:=by decide
structure PB (z:Nat) (p q:Int):Prop where
 fr:Fr 15 p q
 p0:0<p
 p1:p<(z:Int)*q
 g:Int.gcd p q=1
 nw:∀k:Int,k*q≠p
def PIn.pb {z:Nat}{p q:Int}(h:PIn z p q):PB z p q:=⟨h.fr.mono (by decide),h.p0,h.p1,h.g,h.nw⟩
structure TI (z:Nat) (T now:Int) (t:Tk):Prop where
 pn:PB z t.n t.m
 z8:z<=8
 s0:0<=t.sq
 s1:t.sq<z
 l0:0<=t.lap
 mv:(t.h=0/\t.due=T+1/\t.sq=t.n/t.m)\/((t.h=1\/t.h = -1)/\0<t.lap/\now<t.due/\t.due<=now+t.lap)
structure WS (W H:Nat) (T now:Int) (t u:Tk):Prop where
 x:TI W T now t
 y:TI H T now u
 mv:t.h≠0\/u.h≠0
 n0:0<=now
 n1:now<T
 at0:now=0\/(t.h≠0/\t.due=now+t.lap)\/(u.h≠0/\u.due=now+u.lap)
section
variable {z W H:Nat}{T now:Int}{t u:Tk}
theorem TI.line (h:TI z T now t):0<=t.line/\t.line<=z:=by
 have:=h.s0
 have:=h.s1
 unfold Tk.line Qy
 split<;>lia
def TI.tb (h:TI z T now t)(l1:t.lap<=Ju)(n0:0<=now)(n1:now<T)(t1:T<=Ju):TB 56 t:=by
 have hl:=h.line
 have:=h.z8
 have:=h.l0
 have bg:=Ad
 refine⟨h.pn.fr.mono (by decide),?_,?_,?_,?_⟩<;>rw[Tb]
 ·lia
 ·rcases h.mv with⟨a,_⟩|⟨a,_⟩<;>lia
 ·rcases h.mv with⟨_,a,_⟩|⟨_,_,_,a⟩<;>lia
 ·lia
def Zl (t u:Tk)(T:Int):Int:=min (min t.due u.due) T
def WS.nxt (h:WS W H T now t u):now<Zl t u T/\Zl t u T<=T/\Zl t u T<=t.due/\Zl t u T<=u.due:=by
 have:=h.n1
 have a:now<t.due:=by rcases h.x.mv with⟨_,a,_⟩|⟨_,_,a,_⟩<;>lia
 have b:now<u.due:=by rcases h.y.mv with⟨_,a,_⟩|⟨_,_,a,_⟩<;>lia
 unfold Zl
 lia
def Dl (a:Addr)(h:TI z T now t)(l1:t.lap<=Ju){w:Int}(n0:0<=now)(n1:now<T)(t1:T<=Ju)(w0:0<=w)(w1:w<=T):Q7 [.ob a "Track" t.r,.im (.int w)]=.ok (.im (place t w)):=by
 unfold place
 have tb:=h.tb l1 n0 n1 t1
 have bg:=Ad
 by_cases hh:t.h=0
 ·rw[if_pos hh]
  have:=Zdx a (nD t.n t.m) t.sq t.due t.lap w
  unfold Tk.r
  rw[hh]
  exact this
 ·rw[if_neg hh]
  have hl:0<t.lap:=by rcases h.mv with⟨z,_⟩|⟨_,z,_⟩;exact absurd z hh;exact z
  refine Zg2 (k:=56) a (nD t.n t.m) hh hl tb.lap tb.li tb.h ?_ (by decide)
  rw[Tb]
  rcases h.mv with⟨z,_⟩|⟨_,_,z1,z2⟩
  ·exact absurd z hh
  ·lia
def Le (x y:Int)(p:Po4):Bool:=decide (p.a/p.b=x/\p.c/p.d=y)
def K5 (ps:List Po4)(T:Int)(t u:Tk):Iq:=(ps.filter (Le t.sq u.sq)).foldl (Y5 (fun p=>Q9 (tval t u p) 0 T)) none
def wk (W H:Int)(ss:List Sd)(ps:List Po4)(T:Int)(most:Nat):Nat->Tk->Tk->List D->Option D
 |0,_,_,_=>none
 |n+1,t,u,tn=>match K5 ps T t u with
  |some (p,_)=>some (.tup [.str (Str.ofString "person"),p.D,.lst tn])
  |none=>match Xw (thing W H ss t u (Zl t u T)) (decide (Zl t u T=T)) (decide (tn.length<most)) with
   |some w=>some (.tup [.str w,Q5 t u (Zl t u T),.lst tn])
   |none=>wk W H ss ps T most n (Qb t (Zl t u T) (thing W H ss t u (Zl t u T))) (Qb u (Zl t u T) (thing W H ss t u (Zl t u T))) (if(thing W H ss t u (Zl t u T)).mir=true then tn++[Q5 t u (Zl t u T)] else tn)
def Iy {th:Th}{n':Int}(h:TI z T now t)(a:now<n')(b:n'<=t.due)(c:n'<T)(hm:t.due=n'->th.mir=false->t.line≠0/\t.line≠z):TI z T n' (Qb t n' th):=by
 have h0:=h.s0
 have h1:=h.s1
 unfold Qb
 by_cases hd:t.due=n'
 ·rw[if_pos hd]
  rcases h.mv with⟨_,z1,_⟩|⟨z1,z2,z3,z4⟩
  ·lia
  ·cases hq:th.mir with
   |true=>exact⟨h.pn,h.z8,h.s0,h.s1,h.l0,.inr ⟨by show -t.h=1 \/ -t.h = -1;lia,z2,by show n'<t.due+t.lap;lia,by show t.due+t.lap<=n'+t.lap;lia⟩⟩
   |false=>
    have hl:=hm hd hq
    unfold Tk.line Qy at hl
    refine⟨h.pn,h.z8,?_,?_,h.l0,.inr ⟨z1,z2,by show n'<t.due+t.lap;lia,by show t.due+t.lap<=n'+t.lap;lia⟩⟩
    ·show 0<=t.sq+t.h
     rcases z1 with z1|z1<;>rw[z1] at hl ⊢<;>simp at hl<;>lia
    ·show t.sq+t.h<z
     rcases z1 with z1|z1<;>rw[z1] at hl ⊢<;>simp at hl<;>lia
 ·rw[if_neg hd]
  refine⟨h.pn,h.z8,h.s0,h.s1,h.l0,?_⟩
  rcases h.mv with z1|⟨z1,z2,z3,z4⟩
  ·exact .inl z1
  ·exact .inr ⟨z1,z2,by lia,by lia⟩
def pass_h {th:Th}{n':Int}:(Qb t n' th).h≠0↔t.h≠0:=by
 unfold Qb
 split
 ·split
  ·show -t.h≠0↔_
   lia
  ·exact Iff.rfl
 ·exact Iff.rfl
def U6 {th:Th}{n':Int}(h:t.due=n'):(Qb t n' th).due=n'+(Qb t n' th).lap:=by
 unfold Qb
 rw[if_pos h]
 split
 ·show t.due+t.lap=n'+t.lap
  rw[h]
 ·show t.due+t.lap=n'+t.lap
  rw[h]
def Do {ss:List Sd}{up:Bool}{x y:Int}{W H:Int}(h:Vh W H ss up x y=none):(if up=true then x else y)≠0/\(if up=true then x else y)≠(if up=true then W else H):=by
 unfold Vh at h
 cases hf:ss.find? (fun s=>s.at up x y) with
 |some s=>rw[hf] at h;cases h
 |none=>
  rw[hf] at h
  dsimp only at h
  by_cases q:(if up=true then x else y)=0\/(if up=true then x else y)=(if up=true then W else H)
  ·rw[if_pos q] at h;cases h
  ·exact⟨fun z=>q (.inl z),fun z=>q (.inr z)⟩
def Zaz {ss:List Sd}{x y:Int}{W H:Int}(h:Wm W H ss x y=false):x≠0/\x≠W/\y≠0/\y≠H:=by
 unfold Wm at h
 simp only[Bool.or_eq_false_iff,decide_eq_false_iff_not] at h
 lia
def Tc {h:Int}{o:Option (Bool×Bool)}(e:Ta h o=.no):o=none:=by
 cases o with
 |none=>rfl
 |some p=>cases e
def Za0 {ss:List Sd}{n':Int}{th:Th}(e:thing W H ss t u n'=th)(hno:th=.no):(t.due=n'->t.line≠0/\t.line≠W)/\(u.due=n'->u.line≠0/\u.line≠H):=by
 subst e
 unfold thing at hno
 split at hno
 ·rename_i hd
  split at hno
  ·cases hno
  ·rename_i hc
   have:=Zaz (Bool.eq_false_iff.mpr hc)
   exact⟨fun _=>⟨this.1,this.2.1⟩,fun _=>this.2.2⟩
 ·rename_i hd
  split at hno
  ·rename_i h1
   have:=Do (Tc hno)
   exact⟨fun _=>this,fun z=>absurd ⟨h1,z⟩ hd⟩
  ·rename_i h1
   split at hno
   ·have:=Do (Tc hno)
    exact⟨fun z=>absurd z h1,fun _=>this⟩
   ·rename_i h2
    exact⟨fun z=>absurd z h1,fun z=>absurd z h2⟩
def Kk {th:Th}{over may:Bool}(h:Xw th over may=none):over=false/\(th=.no\/(th=.fa true/\may=true)):=by
 cases th with
 |co=>cases h
 |no=>cases over;exact⟨rfl,.inl rfl⟩;cases h
 |fa b=>
  cases over
  ·cases b
   ·cases h
   ·cases may
    ·cases h
    ·exact⟨rfl,.inr ⟨rfl,rfl⟩⟩
  ·cases b<;>cases h
def WS.step {ss:List Sd}{may:Bool}(h:WS W H T now t u)(hw:Xw (thing W H ss t u (Zl t u T)) (decide (Zl t u T=T)) may=none):
  WS W H T (Zl t u T) (Qb t (Zl t u T) (thing W H ss t u (Zl t u T))) (Qb u (Zl t u T) (thing W H ss t u (Zl t u T))):=by
 obtain⟨a1,a2,a3,a4⟩:=h.nxt
 obtain⟨w1,w2⟩:=Kk hw
 have w1:=of_decide_eq_false w1
 have lt:Zl t u T<T:=by lia
 have hrim:(thing W H ss t u (Zl t u T)).mir=false->(t.due=Zl t u T->t.line≠0/\t.line≠W)/\(u.due=Zl t u T->u.line≠0/\u.line≠H):=fun hm=>by
  rcases w2 with w2|⟨w2,_⟩
  ·exact Za0 rfl w2
  ·rw[w2] at hm;cases hm
 have du:t.due=Zl t u T\/u.due=Zl t u T:=by unfold Zl at lt ⊢;lia
 refine⟨Iy h.x a1 a3 lt fun z1 z2=>(hrim z2).1 z1,Iy h.y a1 a4 lt fun z1 z2=>(hrim z2).2 z1,?_,by have:=h.n0;lia,lt,.inr ?_⟩
 ·rw[pass_h,pass_h];exact h.mv
 ·rcases du with d|d
  ·refine .inl ⟨?_,U6 d⟩
   rw[pass_h]
   rcases h.x.mv with⟨_,z,_⟩|⟨z,_⟩<;>lia
  ·refine .inr ⟨?_,U6 d⟩
   rw[pass_h]
   rcases h.y.mv with⟨_,z,_⟩|⟨z,_⟩<;>lia
end
def Y6 {t:Tk}(w:Int)(th:Th):(Qb t w th).lap=t.lap:=by
 unfold Qb
 split
 ·split<;>rfl
 ·rfl
theorem PoOk.mono {j k:Nat}{p:Po4}(h:PoOk j p)(hk:j<=k):PoOk k p:=⟨h.x.mono hk,h.y.mono hk⟩
section
variable {W H:Nat}{T:Int}{ss:List Sd}{ps:List Po4}{most:Nat} (a a1 a2:Addr) (q:Nj) (g pt st:D)
def Zhd (mo:Nat)(r1 r2:Qm)(tn:List D)(now:Int)(th:Th):
  Ib (Pc a a1 a2 g (qD q) pt st (.int mo) (.int T) r1 r2 tn none (Jo now) (Io th.D) none)=.ok (Iw (Xw th (decide (now=T)) (decide (tn.length<mo)))):=by
 unfold Ib Hc
 have e:Z5 Xy (Zc (Zd 10) (Zc (Zp Jq (Zd 9) (Zd 4)) (Zc (Zp Tq (Vl Tr (Zc (Zd 7) Zk)) (Zd 3)) Zk))) (frz 7 (Pc a a1 a2 g (qD q) pt st (.int mo) (.int T) r1 r2 tn none (Jo now) (Io th.D) none))=.ok (Iw (Xw th (decide (now=T)) (decide (tn.length<mo)))):=by
  refine Z3 (aC rfl (aC (Zm (x:=.int now) (y:=.int T) rfl rfl (by rw[X2])) (Law.a1 (d:=.bl (decide (tn.length<mo))) (Zm (x:=.int tn.length) (y:=.int mo) (K3 (Law.a1 rfl) Fj) rfl ?_)))) (s:=.im (Iw (Xw th (decide (now=T)) (decide (tn.length<mo))))) ?_ rfl
  ·show M.ok (D.bl (decide ((tn.length:Int)<(mo:Int))))=_
   congr 2
   rw[Bool.eq_iff_iff]
   simp
  ·have:=Zk5 th (now==T) (decide (tn.length<mo))
   exact this
 rw[e]
 cases Xw th (decide (now=T)) (decide (tn.length<mo))<;>rfl
def Zk6 (mo wt:D)(r1 r2:Qm)(tn:List D)(th:Th):Zgs (Pc a a1 a2 g (qD q) pt st mo wt r1 r2 tn none none (Io th.D) none)=.ok th.mir:=
 Qn (Zm (x:=th.D) rfl rfl ((Jx (Fn th)).trans (by rw[Zk3])))
def Za1 (mo wt:D){t u:Tk}(tn:List D){w:Int}{p1 p2:D} (h1:Q7 [.ob a1 "Track" t.r,.im (.int w)]=.ok (.im p1)) (h2:Q7 [.ob a2 "Track" u.r,.im (.int w)]=.ok (.im p2)):
  Vg (Pc a a1 a2 g (qD q) pt st mo wt t.r u.r tn none (Jo w) none none)=.ok (.tup [p1,p2]):=by
 refine W7 ?_ ?_
 ·show Gw (Q7 [.ob a1 "Track" t.r,.im (.int w)])=_
  rw[h1];rfl
 ·show Gw (Q7 [.ob a2 "Track" u.r,.im (.int w)])=_
  rw[h2];rfl
theorem lw (hl:ss.length<=1000)(hp:∀p∈ps,PtOk W H p)(hq:∀x y,Zd6 (qD q) x y (ps.filter (Le x y)))(hm:most<=1000)(hT:T<=Ju):∀(n:Nat) (t u:Tk) (tn:List D) (now:Int) (d:D),WS W H T now t u->t.lap<=Ju->u.lap<=Ju->tn.length<=most->wk W H ss ps T most n t u tn=some d ->
  S5 a a1 a2 (Yf W H ss) (qD q) pt st (.int most) (.int T) n t.r u.r tn=.ok d
 |0,_,_,_,_,_,_,_,_,_,h=>by cases h
 |n+1,t,u,tn,now,d,wi,lx,ly,htn,h=>by
  have tx:=wi.x.tb lx wi.n0 wi.n1 hT
  have ty:=wi.y.tb ly wi.n0 wi.n1 hT
  have hw:Fr 56 T 1:=by
   have:=wi.n0
   have:=wi.n1
   have:=Ad
   refine⟨by decide,?_,?_⟩<;>rw[Tb]<;>lia
  have ea:Fd (Pc a a1 a2 (Yf W H ss) (qD q) pt st (.int most) (.int T) t.r u.r tn none none none none)=.ok (Lc (K5 ps T t u)):=by
   show Gw (F_person_ahead [.fl a (Yf W H ss) (qD q),.ob a1 "Track" t.r,.ob a2 "Track" u.r,.im (.int T)])=_
   rw[Zg9 a (Yf W H ss) (hq t.sq u.sq) tx ty (by decide) wi.mv hw (fun p hp'=>(hp p (List.mem_filter.mp hp').1).ok.mono (by decide))]
   rfl
  unfold S5
  rw[ea,M.bind_ok]
  unfold wk at h
  cases ha:K5 ps T t u with
  |some x=>
   rw[ha] at h
   obtain⟨p,xy⟩:=x
   cases h
   rfl
  |none=>
   rw[ha] at h
   dsimp only at h
   have en:Zks (Pc a a1 a2 (Yf W H ss) (qD q) pt st (.int most) (.int T) t.r u.r tn none none none none)=.ok (.int (Zl t u T)):=rfl
   obtain⟨n1,n2,n3,n4⟩:=wi.nxt
   have n0:=wi.n0
   have et:=Zhc a a1 a2 (qD q) (t:=t) (u:=u) (now:=Zl t u T) (W:=W) (H:=H) hl fun _ _=>⟨wi.x.line.1,wi.x.line.2,wi.y.line.1,wi.y.line.2⟩
   have ep:=Za1 a a1 a2 q (Yf W H ss) pt st (.int most) (.int T) tn (Dl a1 wi.x lx n0 wi.n1 hT (show 0<=Zl t u T by lia) n2) (Dl a2 wi.y ly n0 wi.n1 hT (show 0<=Zl t u T by lia) n2)
   have st':=fun may h=>WS.step (ss:=ss) (may:=may) wi h
   have ew:=Zhd (T:=T) a a1 a2 q (Yf W H ss) pt st most t.r u.r tn (Zl t u T) (thing W H ss t u (Zl t u T))
   have em:=Zk6 a a1 a2 q (Yf W H ss) pt st (.int most) (.int T) t.r u.r tn (thing W H ss t u (Zl t u T))
   have e1:=Ix t (Zl t u T) (thing W H ss t u (Zl t u T))
   have e2:=Ix u (Zl t u T) (thing W H ss t u (Zl t u T))
   show(if D.isN .non=true then _ else _)=_
   rw[if_pos (show D.isN .non=true from rfl),en,M.bind_ok,et,M.bind_ok,ew,M.bind_ok]
   generalize hth:thing W H ss t u (Zl t u T)=th at *
   cases hw:Xw th (decide (Zl t u T=T)) (decide (tn.length<most)) with
   |some w=>
    rw[hw] at h
    cases h
    show(if D.isN (.str w)=true then _ else _)=_
    rw[if_neg (by intro z;cases z),ep,M.bind_ok]
    rfl
   |none=>
    rw[hw] at h
    dsimp only at h
    show(if D.isN .non=true then _ else _)=_
    rw[if_pos (show D.isN .non=true from rfl),em,M.bind_ok,ep,e1,e2]
    have wi':=st' _ hw
    obtain⟨_,w2⟩:=Kk hw
    cases hb:th.mir with
    |true=>
     rw[hb] at h
     have hlt:tn.length<most:=by
      rcases w2 with rfl|⟨_,w2⟩
      ·cases hb
      ·exact of_decide_eq_true w2
     show(M.bind (if few tn=true then M.ok (tn++[D.tup [place t (Zl t u T),place u (Zl t u T)]]) else M.bad) _)=_
     rw[if_pos (K2 (by lia)),M.bind_ok]
     exact lw hl hp hq hm hT n _ _ _ _ d wi' (by rw[Y6];exact lx) (by rw[Y6];exact ly) (by rw[List.length_append,List.length_singleton];lia) h
    |false=>
     rw[hb] at h
     exact lw hl hp hq hm hT n _ _ _ _ d wi' (by rw[Y6];exact lx) (by rw[Y6];exact ly) htn h
end
theorem Ro {W H:Int}{ss:List Sd}{ps:List Po4}{T:Int}{most:Nat}:∀(n m:Nat) (t u:Tk) (tn:List D) (d:D),n<=m->wk W H ss ps T most n t u tn=some d->wk W H ss ps T most m t u tn=some d
 |0,_,_,_,_,_,_,h=>by cases h
 |n+1,0,_,_,_,_,hm,_=>by lia
 |n+1,m+1,t,u,tn,d,hm,h=>by
  unfold wk at h ⊢
  cases ha:K5 ps T t u with
  |some x=>rw[ha] at h;exact h
  |none=>
   rw[ha] at h
   dsimp only at h ⊢
   cases hw:Xw (thing W H ss t u (Zl t u T)) (decide (Zl t u T=T)) (decide (tn.length<most)) with
   |some w=>rw[hw] at h;exact h
   |none=>
    rw[hw] at h
    exact Ro n m _ _ _ d (by lia) h
theorem Iz {W H:Nat}{ss:List Sd}{ps:List Po4}{T:Int}{most:Nat}:∀(n kx ky:Nat) (t u:Tk) (tn:List D) (now:Int),WS W H T now t u->T<t.due+kx*t.lap->T<u.due+ky*u.lap->kx+ky<n->∃d,wk W H ss ps T most n t u tn=some d
 |0,_,_,_,_,_,_,_,_,_,h=>by lia
 |n+1,kx,ky,t,u,tn,now,wi,hx,hy,hn=>by
  unfold wk
  cases ha:K5 ps T t u with
  |some x=>exact⟨_,rfl⟩
  |none=>
   dsimp only
   cases hw:Xw (thing W H ss t u (Zl t u T)) (decide (Zl t u T=T)) (decide (tn.length<most)) with
   |some w=>exact⟨_,rfl⟩
   |none=>
    have wi':=wi.step hw
    have lt:=wi'.n1
    obtain⟨n1,n2,n3,n4⟩:=wi.nxt
    have hlap:∀(v:Tk) (th:Th),(Qb v (Zl t u T) th).lap=v.lap:=fun v th=>by
     unfold Qb;split
     ·split<;>rfl
     ·rfl
    have same:∀(v:Tk) (th:Th),v.due≠Zl t u T->(Qb v (Zl t u T) th).due=v.due:=fun v th h=>by unfold Qb;rw[if_neg h]
    have one:∀(v:Tk) (th:Th) (k:Nat),v.due=Zl t u T->T<v.due+k*v.lap->0<=v.lap->∃j,k=j+1/\T<(Qb v (Zl t u T) th).due+j*(Qb v (Zl t u T) th).lap:=fun v th k h hk h0=>by
     cases k with
     |zero=>simp at hk;lia
     |succ j=>
      refine⟨j,rfl,?_⟩
      have e:=U6 (th:=th) h
      rw[hlap] at e
      rw[hlap,e]
      have:((j+1:Nat):Int)*v.lap=j*v.lap+v.lap:=by rw[Int.natCast_add,Int.add_mul];simp
      lia
    have cases2:∀(v:Tk) (th:Th) (k:Nat),T<v.due+k*v.lap->0<=v.lap->∃j,j<=k/\(v.due=Zl t u T->j<k)/\T<(Qb v (Zl t u T) th).due+j*(Qb v (Zl t u T) th).lap:=fun v th k hk h0=>by
     by_cases h:v.due=Zl t u T
     ·obtain⟨j,e1,e2⟩:=one v th k h hk h0
      exact⟨j,by lia,fun _=>by lia,e2⟩
     ·refine⟨k,Nat.le_refl _,fun z=>absurd z h,?_⟩
      rw[same v th h,hlap];exact hk
    obtain⟨jx,x1,x2,x3⟩:=cases2 t (thing W H ss t u (Zl t u T)) kx hx wi.x.l0
    obtain⟨jy,y1,y2,y3⟩:=cases2 u (thing W H ss t u (Zl t u T)) ky hy wi.y.l0
    have du:t.due=Zl t u T\/u.due=Zl t u T:=by unfold Zl at lt ⊢;lia
    exact Iz n jx jy _ _ _ _ wi' x3 y3 (by rcases du with z|z;have:=x2 z;lia;have:=y2 z;lia)
def Lf:D->Bool
 |.tup [_,.int q]=>decide (q=1)
 |_=>false
def Zij (k:Nat):D->D
 |.tup ds=>(ds[k]?).getD .non
 |_=>.non
def par (k:Nat):List D->Int
 |[]=>1
 |d::l=>(if Lf (Zij k d)=true then -1 else 1)*par k l
theorem Rp (k:Nat):∀a b:List D,par k (a++b)=par k a*par k b
 |[],b=>(Int.one_mul _).symm
 |d::a,b=>by
  show _*par k (a++b)=_*par k a*par k b
  rw[Rp k a b,Int.mul_assoc]
section
variable {z W H:Nat}{T now w:Int}{t u:Tk}
def TI.whole (h:TI z T now t)(hm:t.h≠0)(hd:t.due=w):Lf (place t w)=true:=by
 have l0:0<t.lap:=by rcases h.mv with a|a;exact absurd a.1 hm;exact a.2.1
 have e:place t w=nD t.line 1:=by
  unfold place
  rw[if_neg hm,hd,<-Nh (p:=t.line) (q:=1) (by decide) Int.gcd_one]
  refine Kj l0 (by decide) ?_
  rw[Int.sub_self,Int.mul_zero,Int.sub_zero,Int.mul_one]
 rw[e]
 rfl
def TI.broken (h:TI z T now t)(a:now<=w)(b:w<=t.due)(hd:t.due≠w)(hw:t.h≠0->now<w):Lf (place t w)=false:=by
 unfold place
 by_cases hm:t.h=0
 ·rw[if_pos hm]
  refine decide_eq_false fun q=>h.pn.nw t.n ?_
  rw[q,Int.mul_one]
 ·rw[if_neg hm]
  have hw:=hw hm
  rcases h.mv with g|⟨g1,l0,g2,g3⟩
  ·exact absurd g.1 hm
  ·obtain⟨p,q,e,q0,e1,_⟩:=Qx (t:=t.line*t.lap-t.h*(t.due-w)) (b:=t.lap) l0
   rw[e]
   refine decide_eq_false fun q1=>?_
   rw[q1,Int.mul_one] at e1
   have k1:(t.line-p)*t.lap=t.h*(t.due-w):=by rw[Int.sub_mul];lia
   generalize t.line-p=c at k1
   have d1:0<t.due-w:=by lia
   have d2:t.due-w<t.lap:=by lia
   generalize t.due-w=e at *
   rcases g1 with g1|g1<;>rw[g1] at k1
   ·have c0:0<c:=Int.pos_of_mul_pos_left (show 0<c*t.lap by lia) l0
    have:=Int.mul_le_mul_of_nonneg_right (show 1<=c by lia) (Int.le_of_lt l0)
    lia
   ·have c0:0 < -c:=Int.pos_of_mul_pos_left (show 0 < -c*t.lap by rw[Int.neg_mul];lia) l0
    have:=Int.mul_le_mul_of_nonneg_right (show 1 <= -c by lia) (Int.le_of_lt l0)
    rw[Int.neg_mul] at this
    lia
def WS.turn {ss:List Sd}(h:WS W H T now t u)(hl:Zl t u T<T)(hm:(thing W H ss t u (Zl t u T)).mir=true):
  (Qb t (Zl t u T) (thing W H ss t u (Zl t u T))).h=t.h*par 0 [Q5 t u (Zl t u T)]/\(Qb u (Zl t u T) (thing W H ss t u (Zl t u T))).h=u.h*par 1 [Q5 t u (Zl t u T)]:=by
 obtain⟨n1,n2,n3,n4⟩:=h.nxt
 have p0:par 0 [Q5 t u (Zl t u T)]=if Lf (place t (Zl t u T))=true then -1 else 1:=Int.mul_one _
 have p1:par 1 [Q5 t u (Zl t u T)]=if Lf (place u (Zl t u T))=true then -1 else 1:=Int.mul_one _
 have kx:t.due=Zl t u T->t.h≠0:=fun z q=>by rcases h.x.mv with a|a;lia;lia
 have ky:u.due=Zl t u T->u.h≠0:=fun z q=>by rcases h.y.mv with a|a;lia;lia
 rw[p0,p1]
 have hm':=hm
 generalize hth:thing W H ss t u (Zl t u T)=th at *
 unfold thing at hth
 have np:∀v:Tk,v.due≠Zl t u T->(Qb v (Zl t u T) th).h=v.h:=fun v q=>by unfold Qb;rw[if_neg q]
 have yp:∀v:Tk,v.due=Zl t u T->(Qb v (Zl t u T) th).h = -v.h:=fun v q=>by unfold Qb;rw[if_pos q,if_pos hm]
 split at hth
 ·split at hth<;>rw[<-hth] at hm<;>cases hm
 ·rename_i hb
  by_cases hx:t.due=Zl t u T
  ·have hy:u.due≠Zl t u T:=fun q=>hb ⟨hx,q⟩
   rw[yp t hx,np u hy,h.x.whole (kx hx) hx,h.y.broken (Int.le_of_lt n1) n4 hy (fun _=>n1)]
   simp
  ·rw[if_neg hx] at hth
   by_cases hy:u.due=Zl t u T
   ·rw[yp u hy,np t hx,h.y.whole (ky hy) hy,h.x.broken (Int.le_of_lt n1) n3 hx (fun _=>n1)]
    simp
   ·rw[if_neg hy] at hth
    rw[<-hth] at hm
    cases hm
def Mr {th:Th}(hm:th.mir=false):(Qb t w th).h=t.h:=by
 unfold Qb
 split
 ·rw[hm];rfl
 ·rfl
end
section
variable {c1 c2 s T T':Int}{W H:Nat}{ss:List Sd}{ps:List Po4}{most:Nat}
def Dp {t:Tk}{w g h0:Int}{th:Th}(h:h0≠0->g ∣ t.due/\g ∣ t.lap)(q:h0≠0):g ∣ (Qb t w th).due/\g ∣ (Qb t w th).lap:=by
 obtain⟨a,b⟩:=h q
 rw[Y6]
 refine⟨?_,b⟩
 unfold Qb
 split
 ·split
  ·exact Int.dvd_add a b
  ·exact Int.dvd_add a b
 ·exact a
def Zec {th:Th}{may:Bool}{w:Str}(h:Xw th false may=some w):w≠Str.ofString "end":=by
 cases th with
 |co=>cases h;decide
 |no=>cases h
 |fa b=>
  cases b
  ·cases h;decide
  ·cases may
   ·cases h;decide
   ·cases h
end
def m1 (a:Int):Int:=if(a.natAbs:Int) > 1 then a.natAbs else 1
def Ms (a:Int):0<m1 a/\(a≠0->m1 a=a.natAbs):=by
 unfold m1
 split
 ·exact⟨by lia,fun _=>rfl⟩
 ·exact⟨by lia,fun _=>by lia⟩
def Mt {a:Int}{k:Nat}(h:a.natAbs<=10 ^ k):(m1 a).natAbs<=10 ^ k:=by
 have:=Nat.pow_pos (n:=k) (show 0<10 by decide)
 unfold m1
 split<;>lia
def wT (p s:Po4):Int:=1*p.b*m1 s.a*p.d*m1 s.c
structure StOk (s:Po4):Prop where
 x:Fr 12 s.a s.b
 y:Fr 12 s.c s.d
 gx:Int.gcd s.a s.b=1
 gy:Int.gcd s.c s.d=1
 n0:s.a≠0\/s.c≠0
 lx:(s.a.natAbs:Int)<=40*s.b
 ly:(s.c.natAbs:Int)<=40*s.d
def Zqb:Zf->M O:=Z4 2 (Zp Zt (Zp Zt (Zd 2) 3[1]!) (Vl Cu (Zc ↑1 (Zc (Vl Ul (Zc 4[0]! Zk)) Zk))))
def Zed (o0 o1 o3 o4:Option S){T0 n m a b:Int}(h0:T0.natAbs<=10 ^ 100)(hm:m.natAbs<=10 ^ 100)(ha:a.natAbs<=10 ^ 100):∃sd1,Pm 2 (Yz (X4 3) (Yz (X4 4) R3)) (.tup [nD n m,nD a b]) [o0,o1,Jo T0,o3,o4]=.ok sd1 /\
  Zqb sd1=.ok (.nx [o0,o1,Jo (T0*m*m1 a),Io (nD n m),Io (nD a b)]):=by
 refine⟨[o0,o1,Jo T0,Io (nD n m),Io (nD a b)],rfl,?_⟩
 have em:Vl Cu (Zc ↑1 (Zc (Vl Ul (Zc 4[0]! Zk)) Zk)) [o0,o1,Jo T0,Io (nD n m),Io (nD a b)]=.ok (.int (m1 a)):=K3 (aC rfl (Law.a1 (K3 (Law.a1 (Zq rfl rfl (Yk _ _))) (Pf a)))) rfl
 exact Zy (Zm (Zm rfl (Zq rfl rfl (Yo _ _ _)) (gT (Q8 h0 (by decide)) (Q8 hm (by decide)))) em (gT (Q8 (Qq h0 hm) (by decide)) (Q8 (Mt ha) (by decide))))
def Zhe {p s:Po4}(hp:PoOk 20 p)(hs:StOk s):Y3 [p.D,s.D]=.ok (.im (.int (wT p s))):=by
 have b1:=hp.x.bot
 have b2:=hp.y.bot
 have a1:=hs.x.top
 have a2:=hs.y.top
 have le:∀{j:Nat},j<=100->(10:Nat) ^ j<=10 ^ 100:=fun h=>Vk h
 obtain⟨s1,e1,e2⟩:=Zed (Io p.D) (Io s.D) none none (T0:=1) (n:=p.a) (m:=p.b) (a:=s.a) (b:=s.b) (Nat.pow_pos (by decide)) (Nat.le_trans b1 (le (by decide))) (Nat.le_trans a1 (le (by decide)))
 have h0:((1:Int)*p.b*m1 s.a).natAbs<=10 ^ 100:=Nat.le_trans (Qq (j:=20) (k:=12) (by rw[Int.one_mul];exact b1) (Mt a1)) (le (by decide))
 obtain⟨s2,e3,e4⟩:=Zed (Io p.D) (Io s.D) (Io (nD p.a p.b)) (Io (nD s.a s.b)) (T0:=1*p.b*m1 s.a) (n:=p.c) (m:=p.d) (a:=s.c) (b:=s.d) h0 (Nat.le_trans b2 (le (by decide))) (Nat.le_trans a2 (le (by decide)))
 have z:E6 (Zc (Zd 0) (Zc (Zd 1) Zk)) [Io p.D,Io s.D,Jo 1,none,none]=.ok [.tup [nD p.a p.b,nD s.a s.b],.tup [nD p.c p.d,nD s.c s.d]]:=rfl
 exact(Zdo _ _ _ _).trans (Z7 (go (Zy rfl) (go ((Yq z).trans ((Yr e1 e2).trans ((Yr e3 e4).trans rfl))) (Z1 rfl))))
def Vi {f g:Zf->Qm->Option (Zf×Qm)}{sd sd':Zf}{r r':Qm}{x:Option (Zf×Qm)}(h:f sd r=some (sd',r'))(k:g sd' r'=x):Ku f g sd r=x:=by
 unfold Ku;rw[h];exact k
def Xt {n:Str}{e:Zf->Qm->M D}{sd:Zf}{r r':Qm}{d:D}(h:e sd r=.ok d)(hl:r.length<=900)(hr:Cr n d r=r'):N7 n e sd r=some (sd,r'):=by
 unfold N7;rw[h]
 show(if r.length<=900 then some (sd,Cr n d r) else none)=_
 rw[if_pos hl,hr]
def I0 {i:Nat}{e:Zf->Qm->M D}{sd:Zf}{r:Qm}{d:D}(h:e sd r=.ok d):Zae i e sd r=some (sd.set i (Io d),r):=by
 unfold Zae;rw[h];rfl
def Zng {c:Zf->Qm->M Bool}{f g:Zf->Qm->Option (Zf×Qm)}{sd:Zf}{r:Qm}{x:Option (Zf×Qm)}(h:c sd r=.ok true)(k:f sd r=x):Zes c f g sd r=x:=by
 unfold Zes;rw[h];exact k
def Znh {c:Zf->Qm->M Bool}{f g:Zf->Qm->Option (Zf×Qm)}{sd:Zf}{r:Qm}{x:Option (Zf×Qm)}(h:c sd r=.ok false)(k:g sd r=x):Zes c f g sd r=x:=by
 unfold Zes;rw[h];exact k
def sg (a:Int):Int:=if a > 0 then 1 else -1
def U7 (a b T:Int):Int:=b*(T/(a.natAbs:Int))
def Ya (n m a:Int):Int:=if a > 0 then m-n%m else n%m
def Jv (n m a b T:Int):Tk:=if a=0 then⟨n,m,n/m,0,T+1,0⟩ else⟨n,m,n/m,sg a,Ya n m a*(U7 a b T/m),U7 a b T⟩
def Zee {n m a b T:Int}(hm:Fr 20 n m)(ha:Fr 12 a b)(hT:T.natAbs<=10 ^ 54):Jd [] [nD n m,nD a b,.int T]=some (Jv n m a b T).r:=by
 have sm':=Q8 hm.bot (show 20<=900 by decide)
 have esq:Z5 Yv (Zc (Zd 1) Zk) [none,Io (nD n m),Io (nD a b),Jo T,none,none]=.ok (.int (n/m)):=
  Z3 (Law.a1 rfl) ((Zln _ _ _).trans (Z7 (Z1 (Zm (Zq rfl rfl (Yk _ _)) (Zq rfl rfl (Yo _ _ _)) (Ie hm.pos sm'))))) rfl
 have c0:DL.tB (Zp Bh 2[0]! ↑0) [none,Io (nD n m),Io (nD a b),Jo T,none,none]=.ok (!(a==0)):=by
  refine Qn (Zm (Zq rfl rfl (Yk _ _)) rfl ?_)
  rw[Mn (by simp[D.dep])]
  rfl
 have fin:∀{g:Zf->Qm->Option (Zf×Qm)}{sd':Zf}{r':Qm},g [none,Io (nD n m),Io (nD a b),Jo T,none,none] []=some (sd',r')->Zet 3 2 g [] [nD n m,nD a b,.int T]=some r':=fun {g sd' r'} h=>by
  unfold Zet
  rw[if_pos (show [nD n m,nD a b,D.int T].length=3 from rfl)]
  show Option.map _ (g [none,Io (nD n m),Io (nD a b),Jo T,none,none] [])=_
  rw[h]
  rfl
 unfold Jv
 by_cases h0:a=0
 ·rw[if_pos h0]
  rw[show(!(a==0))=false by simp[h0]] at c0
  exact fin (Vi (Xt rfl (Nat.le_of_ble_eq_true rfl) rfl) (Vi (Xt esq (Nat.le_of_ble_eq_true rfl) rfl) (Vi (Xt rfl (Nat.le_of_ble_eq_true rfl) rfl) (Vi (Xt (d:=.int (T+1)) rfl (Nat.le_of_ble_eq_true rfl) rfl) (Vi (Xt rfl (Nat.le_of_ble_eq_true rfl) rfl) (Znh c0 rfl))))))
 ·rw[if_neg h0]
  rw[show(!(a==0))=true by simp[h0]] at c0
  have hn:0<(a.natAbs:Int):=by lia
  have sa:sm (a.natAbs:Int)=true:=Q8 (x:=(a.natAbs:Int)) (k:=12) (by rw[Int.natAbs_natCast];exact ha.top) (by decide)
  have hh:D0 (DL.tB (Zp Rc 2[0]! ↑0)) ↑1 (Eo P6 ↑1) [none,Io (nD n m),Io (nD a b),Jo T,none,none]=.ok (.int (sg a)):=by
   unfold sg
   by_cases hp:a > 0
   ·rw[if_pos hp];exact Pw (Qn (Zm (Zq rfl rfl (Yk _ _)) rfl (Zih hp))) rfl
   ·rw[if_neg hp];exact S7 (Qn (Zm (Zq rfl rfl (Yk _ _)) rfl (Zii hp))) rfl
  have dT:(T/(a.natAbs:Int)).natAbs<=10 ^ 54:=Nat.le_trans (Int.natAbs_ediv_le_natAbs _ _) hT
  have el:Zp Zt 2[1]! (Zp Xj (Zd 3) (Vl Ul (Zc 2[0]! Zk))) [none,Io (nD n m),Io (nD a b),Jo T,none,none]=.ok (.int (U7 a b T)):=
   Zm (Zq rfl rfl (Yo _ _ _)) (Zm rfl (K3 (Law.a1 (Zq rfl rfl (Yk _ _))) (Pf a)) (Ie hn sa)) (gT (Q8 ha.bot (by decide)) (Q8 dT (by decide)))
  have lb:(U7 a b T).natAbs<=10 ^ 66:=Qq (j:=12) (k:=54) ha.bot dT
  have em:Zp Yd 1[0]! 1[1]! [none,Io (nD n m),Io (nD a b),Jo T,none,none]=.ok (.int (n%m)):=Zm (Zq rfl rfl (Yk _ _)) (Zq rfl rfl (Yo _ _ _)) (gM hm.pos)
  have dm:(U7 a b T/m).natAbs<=10 ^ 66:=Nat.le_trans (Int.natAbs_ediv_le_natAbs _ _) lb
  have e5:∀r:Qm,r.lookup ("heading":Str)=some (D.int (sg a))->Zgb (gB (D2 Rc (Ue "heading") (Ka ↑0))) (Ka (Zp DL.Vt 1[1]! (Zd 4))) (Ka (Zd 4)) [none,Io (nD n m),Io (nD a b),Jo T,Jo (n%m),none] r=.ok (.int (Ya n m a)):=fun r hr=>by
   have hg:Ue "heading" [none,Io (nD n m),Io (nD a b),Jo T,Jo (n%m),none] r=.ok (.int (sg a)):=by unfold Ue;rw[hr]
   have hc:gB (D2 Rc (Ue "heading") (Ka ↑0)) [none,Io (nD n m),Io (nD a b),Jo T,Jo (n%m),none] r=.ok (decide (0<sg a)):=by
    unfold gB D2
    rw[hg]
    rfl
   unfold Zgb Ya
   rw[hc]
   unfold sg
   by_cases hp:a > 0
   ·rw[if_pos hp,if_pos hp]
    show Zp DL.Vt 1[1]! (Zd 4) [none,Io (nD n m),Io (nD a b),Jo T,Jo (n%m),none]=_
    exact Zm (Zq rfl rfl (Yo _ _ _)) rfl rfl
   ·rw[if_neg hp,if_neg hp]
    rfl
  have lo:(Ya n m a).natAbs<=10 ^ 21:=by
   have h1:=Int.emod_nonneg n (show m≠0 by have:=hm.pos;lia)
   have h2:=Int.emod_lt_of_pos n hm.pos
   have h3:=hm.bot
   have h4:(10:Nat) ^ 21=10*10 ^ 20:=rfl
   unfold Ya
   split<;>lia
  have e6:∀r:Qm,r.lookup ("lap":Str)=some (D.int (U7 a b T))->D2 Zt (Ka (Zd 5)) (D2 Xj (Ue "lap") (Ka 1[1]!)) [none,Io (nD n m),Io (nD a b),Jo T,Jo (n%m),Jo (Ya n m a)] r=.ok (.int (Ya n m a*(U7 a b T/m))):=fun r hr=>by
   have hg:Ue "lap" [none,Io (nD n m),Io (nD a b),Jo T,Jo (n%m),Jo (Ya n m a)] r=.ok (.int (U7 a b T)):=by unfold Ue;rw[hr]
   have h2:Ka 1[1]! [none,Io (nD n m),Io (nD a b),Jo T,Jo (n%m),Jo (Ya n m a)] r=.ok (.int m):=Zq rfl rfl (Yo _ _ _)
   have h3:D2 Xj (Ue "lap") (Ka 1[1]!) [none,Io (nD n m),Io (nD a b),Jo T,Jo (n%m),Jo (Ya n m a)] r=.ok (.int (U7 a b T/m)):=by
    unfold D2
    rw[hg,M.bind_ok,h2,M.bind_ok]
    exact Ie hm.pos sm'
   unfold D2 at h3 ⊢
   rw[h3]
   exact gT (Q8 lo (by decide)) (Q8 dm (by decide))
  exact fin (Vi (Xt rfl (Nat.le_of_ble_eq_true rfl) rfl) (Vi (Xt esq (Nat.le_of_ble_eq_true rfl) rfl) (Vi (Xt rfl (Nat.le_of_ble_eq_true rfl) rfl) (Vi (Xt (d:=.int (T+1)) rfl (Nat.le_of_ble_eq_true rfl) rfl) (Vi (Xt rfl (Nat.le_of_ble_eq_true rfl) rfl) (Zng c0 (Vi (Xt hh (Nat.le_of_ble_eq_true rfl) rfl) (Vi (Xt el (Nat.le_of_ble_eq_true rfl) rfl) (Vi (I0 em) (Vi (I0 (e5 _ rfl)) (Xt (e6 _ rfl) (Nat.le_of_ble_eq_true rfl) rfl)))))))))))
section
variable {z:Nat}{n m a b T:Int}
def Ae (h:a=0):Jv n m a b T=⟨n,m,n/m,0,T+1,0⟩:=if_pos h
def Lg {k:Int}(h:a≠0)(hm:0<m)(hT:T=m*a.natAbs*k):Jv n m a b T=⟨n,m,n/m,sg a,Ya n m a*(b*k),b*(m*k)⟩:=by
 have e1:T/(a.natAbs:Int)=m*k:=by
  rw[hT,show m*(a.natAbs:Int)*k=m*k*a.natAbs by grind]
  exact Int.mul_ediv_cancel _ (by lia)
 have e2:U7 a b T=b*(m*k):=by unfold U7;rw[e1]
 have e3:b*(m*k)/m=b*k:=by
  rw[show b*(m*k)=b*k*m by grind]
  exact Int.mul_ediv_cancel _ (by lia)
 unfold Jv
 rw[if_neg h,e2,e3]
def Af (hp:PB z n m):0<Ya n m a/\Ya n m a<m:=by
 have hm:=hp.fr.pos
 have h1:=Int.emod_nonneg n (show m≠0 by lia)
 have h2:=Int.emod_lt_of_pos n hm
 have h3:=Int.mul_ediv_add_emod n m
 have h4:=hp.nw (n/m)
 rw[Int.mul_comm] at h4
 unfold Ya
 split<;>lia
def Uc (h:a≠0):(sg a=1/\0<a)\/(sg a = -1/\a<0):=by
 unfold sg
 split<;>lia
def Zik (hp:PB z n m)(z8:z<=8)(hT:0<T)(hb:0<b)(hd:a≠0->∃k,0<k/\T=m*a.natAbs*k):TI z T 0 (Jv n m a b T):=by
 have hm:=hp.fr.pos
 have q0:0<=n/m:=Int.ediv_nonneg (Int.le_of_lt hp.p0) (Int.le_of_lt hm)
 have q1:n/m<z:=(Int.ediv_lt_iff_lt_mul hm).mpr hp.p1
 by_cases h:a=0
 ·rw[Ae h]
  exact⟨hp,z8,q0,q1,Int.le_refl _,.inl ⟨rfl,rfl,rfl⟩⟩
 ·obtain⟨k,k0,e⟩:=hd h
  rw[Lg h hm e]
  obtain⟨l0,l1⟩:=Af (a:=a) hp
  have bk:0<b*k:=Int.mul_pos hb k0
  have lp:0<b*(m*k):=Int.mul_pos hb (Int.mul_pos hm k0)
  refine⟨hp,z8,q0,q1,Int.le_of_lt lp,.inr ⟨?_,lp,Int.mul_pos l0 bk,?_⟩⟩
  ·show sg a=1\/sg a = -1
   rcases Uc h with⟨q,_⟩|⟨q,_⟩
   ·exact .inl q
   ·exact .inr q
  ·show Ya n m a*(b*k)<=0+b*(m*k)
   have:=Int.mul_le_mul_of_nonneg_right (Int.le_of_lt l1) (Int.le_of_lt bk)
   rw[show b*(m*k)=m*(b*k) by grind]
   lia
def Zpp (a:Int):Int:=if a=0 then 1 else a.natAbs
def Zk7:(Jv n m a b T).h*Zpp a=a:=by
 unfold Zpp
 by_cases h:a=0
 ·rw[Ae h,if_pos h,h];rfl
 ·rw[if_neg h]
  unfold Jv
  rw[if_neg h]
  show sg a*_=_
  rcases Uc h with⟨q,r⟩|⟨q,r⟩<;>rw[q]<;>lia
def Td (hp:PB z n m)(hb:0<b)(hd:a≠0->∃k,0<k/\T=m*a.natAbs*k):place (Jv n m a b T) 0=nD n m:=by
 have hm:=hp.fr.pos
 by_cases h:a=0
 ·rw[Ae h];rfl
 ·obtain⟨k,k0,e⟩:=hd h
  rw[Lg h hm e]
  have lp:0<b*(m*k):=Int.mul_pos hb (Int.mul_pos hm k0)
  have h3:=Int.mul_ediv_add_emod n m
  unfold place
  have hs:sg a≠0:=by rcases Uc h with⟨q,_⟩|⟨q,_⟩<;>lia
  dsimp only
  rw[if_neg hs,<-Nh hm hp.g]
  refine Kj lp hm ?_
  unfold Tk.line Qy Ya
  dsimp only
  rcases Uc h with⟨q,r⟩|⟨q,r⟩
  ·rw[q,if_pos (by decide),if_pos (show a > 0 from r)]
   have:(n/m+1)*m-(m-n%m)=n:=by grind
   grind
  ·rw[q,if_neg (by decide),if_neg (show ¬a > 0 by lia)]
   have:n/m*m+n%m=n:=by grind
   grind
def Zef (hp:PB z n m)(hb:0<b)(hl:(a.natAbs:Int)<=40*b)(hd:a≠0->∃k,0<k/\T=m*a.natAbs*k):T<(Jv n m a b T).due+(40:Nat)*(Jv n m a b T).lap:=by
 have hm:=hp.fr.pos
 by_cases h:a=0
 ·rw[Ae h]
  show T<T+1+(40:Nat)*0
  lia
 ·obtain⟨k,k0,e⟩:=hd h
  rw[Lg h hm e]
  obtain⟨l0,l1⟩:=Af (a:=a) hp
  show T<Ya n m a*(b*k)+(40:Nat)*(b*(m*k))
  have h1:=Int.mul_pos l0 (Int.mul_pos hb k0)
  have mk:0<m*k:=Int.mul_pos hm k0
  have h2:=Int.mul_le_mul_of_nonneg_right hl (Int.le_of_lt mk)
  have e1:T=a.natAbs*(m*k):=by rw[e];grind
  have e2:((40:Nat):Int)*(b*(m*k))=40*b*(m*k):=by grind
  rw[e2]
  lia
end
def look:Nj->List Yh->List D
 |[],_=>[]
 |(k,l)::r,ks=>if k=ks then l else look r ks
def Za2 (q:Nj)(ks:List Yh):Yu (qD q) ks=some (.lst (look q ks))\/(Yu (qD q) ks=none/\look q ks=[]):=by
 induction q with
 |nil=>exact .inr ⟨rfl,rfl⟩
 |cons kl r ih=>
  obtain⟨k,l⟩:=kl
  have e:look ((k,l)::r) ks=if k=ks then l else look r ks:=rfl
  rw[e]
  unfold Yu qD at *
  rw[List.map_cons,List.find?_cons]
  by_cases h:k=ks
  ·rw[decide_eq_true h,if_pos h]
   exact .inl rfl
  ·rw[decide_eq_false h,if_neg h]
   exact ih
theorem Dq (ks ks':List Yh)(p:D):∀q:Nj,look (Uf ks p q) ks'=if ks=ks' then look q ks'++[p] else look q ks'
 |[]=>by
  unfold Uf look
  split
  ·rfl
  ·rfl
 |(k,l)::r=>by
  unfold Uf
  by_cases h:k=ks
  ·rw[if_pos h]
   subst h
   unfold look
   by_cases h':k=ks'
   ·rw[if_pos h',if_pos h',if_pos h']
   ·rw[if_neg h',if_neg h',if_neg h']
  ·rw[if_neg h]
   unfold look
   rw[Dq ks ks' p r]
   by_cases h':k=ks'
   ·rw[if_pos h',if_pos h',if_neg (fun z=>h (h'.trans z.symm))]
   ·rw[if_neg h',if_neg h']
def Zk8 {p:Po4}(hp:PoOk 4 p):Ic p.D=some [.inl (p.a/p.b),.inl (p.c/p.d)]:=by
 have e:∀{x y:Int},Fr 4 x y->Yv [nD x y]=.ok (.im (.int (x/y))):=fun h=>
  (Zln _ _ _).trans (Z7 (Z1 (Zm (Zq rfl rfl (Yk _ _)) (Zq rfl rfl (Yo _ _ _)) (Ie h.pos (Q8 h.bot (by decide))))))
 have h:Zn2 [none,none,none,Io p.D,none]=.ok (.tup [.int (p.a/p.b),.int (p.c/p.d)]):=W7 (Z3 (Law.a1 (Zq rfl rfl (Yk _ _))) (e hp.x) rfl) (Z3 (Law.a1 (Zq rfl rfl (Yo _ _ _))) (e hp.y) rfl)
 unfold Ic
 rw[h]
 rfl
theorem Zni:∀(ps:List Po4) (acc:Nj),(∀p∈ps,PoOk 4 p)->∃q,Zdl acc (ps.map Po4.D)=some q/\∀x y:Int,look q [.inl x,.inl y]=look acc [.inl x,.inl y]++(ps.filter (Le x y)).map Po4.D
 |[],acc,_=>⟨acc,rfl,fun _ _=>by simp⟩
 |p::ps,acc,h=>by
  obtain⟨q,e1,e2⟩:=Zni ps (Uf [.inl (p.a/p.b),.inl (p.c/p.d)] p.D acc) (fun r hr=>h r (List.mem_cons_of_mem _ hr))
  refine⟨q,?_,fun x y=>?_⟩
  ·rw[List.map_cons]
   unfold Zdl
   rw[Zk8 (h p (List.mem_cons_self ..))]
   exact e1
  ·rw[e2,Dq]
   by_cases hs:Le x y p=true
   ·have hs':=of_decide_eq_true hs
    rw[if_pos (by rw[hs'.1,hs'.2]),List.filter_cons_of_pos hs,List.map_cons,List.append_assoc]
    rfl
   ·have hs':¬(p.a/p.b=x/\p.c/p.d=y):=of_decide_eq_false (Bool.eq_false_iff.mpr hs)
    rw[if_neg (fun z=>hs' (by injection z with z1 z2;injection z1 with z1;injection z2 with z2 _;injection z2 with z2;exact⟨z1,z2⟩)),List.filter_cons_of_neg hs]
def Zk9 {ps:List Po4}{q:Nj}(h:∀x y:Int,look q [.inl x,.inl y]=look [] [.inl x,.inl y]++(ps.filter (Le x y)).map Po4.D)(x y:Int):Zd6 (qD q) x y (ps.filter (Le x y)):=by
 have e:=h x y
 rcases Za2 q [.inl x,.inl y] with k|⟨k1,k2⟩
 ·rw[e] at k
  exact .inl k
 ·refine .inr ⟨k1,?_⟩
  rw[k2] at e
  have:=e.symm
  exact List.map_eq_nil_iff.mp this
section
variable {z:Nat}{TA TB TC N now a b a3 b3 n3 m3 k3:Int}{t t':Tk}
def Jj {a b c d:Int}(h:nD a b=nD c d):a=c/\b=d:=by
 unfold nD at h
 injection h with h
 injection h with h1 h
 injection h1 with h1
 injection h with h2 h
 injection h2 with h2
 exact⟨h1,h2⟩
def I8 {p q:Int}(q0:0<q)(g:Int.gcd p q=1){c:Int}(e:p=c*q):q=1:=by
 have h1:q ∣ p:=⟨c,by rw[e,Int.mul_comm]⟩
 have h2:=Int.dvd_coe_gcd h1 (Int.dvd_refl q)
 rw[g] at h2
 have:=Int.le_of_dvd (by decide) h2
 lia
def Dr {n m q:Int}(hm:0<m)(a:q*m<=n)(b:n<(q+1)*m):n/m=q/\n%m=n-q*m:=by
 have h1:n/m=q:=by
  have g1:q<=n/m:=(Int.le_ediv_iff_mul_le hm).mpr a
  have g2:n/m<q+1:=(Int.ediv_lt_iff_lt_mul hm).mpr b
  lia
 have:=Int.mul_ediv_add_emod n m
 rw[h1,Int.mul_comm] at this
 exact⟨h1,by lia⟩
end
def Zph {gt:D->Zf->M Zf}{fe:Zf->M D}{sd0 s0 s1:Zf}{d0 d1 r0 r1:D}(h1:gt d0 sd0=.ok s0)(h2:fe s0=.ok r0)(h3:gt d1 sd0=.ok s1)(h4:fe s1=.ok r1):Jz gt fe sd0 [d0,d1]=.ok [r0,r1]:=by
 simp only[Jz,h1,h2,h3,h4]
def W8 (d:D):Prop:=∃a b c e,d=.tup [nD a b,nD c e]/\Fr 93 a b/\Int.gcd a b=1/\Fr 93 c e/\Int.gcd c e=1
def Ds {d:D}(h:W8 d):d.dep<=10:=by
 obtain⟨a,b,c,e,rfl,_⟩:=h
 simp[nD,D.dep,D.deps]
section
variable {W H z:Nat}{T now:Int}{t u:Tk}{ss:List Sd}{ps:List Po4}{most:Nat}
def Dt (h:TI z T now t)(l1:t.lap<=Ju)(n0:0<=now)(n1:now<T)(t1:T<=Ju){w:Int}(w0:0<=w)(w1:w<=T):∃a b,place t w=nD a b/\Fr 93 a b/\Int.gcd a b=1:=by
 unfold place
 by_cases hh:t.h=0
 ·rw[if_pos hh]
  exact⟨_,_,rfl,h.pn.fr.mono (by decide),h.pn.g⟩
 ·rw[if_neg hh]
  have tb:=h.tb l1 n0 n1 t1
  have hl:0<t.lap:=by rcases h.mv with q|q;exact absurd q.1 hh;exact q.2.1
  have bg:=Ad
  have b1:(t.line*t.lap).natAbs<=10 ^ (56+56):=Qq tb.li tb.lap
  have bd:(t.due-w).natAbs<=10 ^ 56:=by
   rw[Tb]
   rcases h.mv with q|⟨_,_,q1,q2⟩
   ·exact absurd q.1 hh
   ·lia
  obtain⟨p,q,e,q0,_,g,_,_⟩:=Qx (t:=t.line*t.lap-t.h*(t.due-w)) (b:=t.lap) hl
  have hline:=h.line
  have z8:=h.z8
  have f:Fr 93 (t.line*t.lap-t.h*(t.due-w)) t.lap:=by
   have eb:(10:Nat) ^ 93=10 ^ 39*Ju:=rfl
   have e39:(1000:Nat)<=10 ^ 39:=by decide
   have k1:1000*Ju<=10 ^ 93:=by rw[eb];exact Nat.mul_le_mul_right _ e39
   have k2:t.line*t.lap<=8*t.lap:=Int.mul_le_mul_of_nonneg_right (by lia) (Int.le_of_lt hl)
   have k3:0<=t.line*t.lap:=Int.mul_nonneg hline.1 (Int.le_of_lt hl)
   rw[Tb] at bd
   refine⟨hl,?_,by lia⟩
   rcases h.mv with q|⟨q1,_⟩
   ·exact absurd q.1 hh
   ·rcases q1 with q1|q1<;>rw[q1]<;>lia
  obtain⟨p',q',e1,f1,_,g1⟩:=Fk f
  exact⟨p',q',e1,f1,g1⟩
def Mu (wi:WS W H T now t u)(lx:t.lap<=Ju)(ly:u.lap<=Ju)(t1:T<=Ju):W8 (Q5 t u (Zl t u T)):=by
 obtain⟨w0,w1,w2,w3⟩:=wi.nxt
 have n0:=wi.n0
 obtain⟨p,q,e1,f1,g1⟩:=Dt wi.x lx n0 wi.n1 t1 (show 0<=Zl t u T by lia) w1
 obtain⟨p',q',e2,f2,g2⟩:=Dt wi.y ly n0 wi.n1 t1 (show 0<=Zl t u T by lia) w1
 refine⟨p,q,p',q',?_,f1,g1,f2,g2⟩
 unfold Q5
 rw[e1,e2]
theorem Du {c:Po4->Option (Int×Int)}:∀(ps:List Po4) (s:Iq),(∀p xy,s=some (p,xy)->p∈ps\/∃q,s=some q)->∀p xy,ps.foldl (Y5 c) s=some (p,xy)->p∈ps\/∃xy',s=some (p,xy')
 |[],s,_,p,xy,h=>.inr ⟨xy,h⟩
 |q::ps,s,_,p,xy,h=>by
  rw[List.foldl_cons] at h
  rcases Du ps (Y5 c s q) (fun _ _ z=>.inr ⟨_,z⟩) p xy h with k|⟨xy',k⟩
  ·exact .inl (List.mem_cons_of_mem _ k)
  ·unfold Y5 at k
   split at k
   ·exact .inr ⟨_,k⟩
   ·split at k
    ·cases k;exact .inl (List.mem_cons_self ..)
    ·split at k
     ·cases k;exact .inl (List.mem_cons_self ..)
     ·exact .inr ⟨_,k⟩
def PtOk.is {p:Po4}(h:PtOk W H p):W8 p.D:=⟨_,_,_,_,rfl,h.x.fr.mono (by decide),h.x.g,h.y.fr.mono (by decide),h.y.g⟩
theorem Zil (hp:∀p∈ps,PtOk W H p)(t1:T<=Ju):∀(n:Nat) (t u:Tk) (tn:List D) (now:Int) (d:D),WS W H T now t u->t.lap<=Ju->u.lap<=Ju->(∀x∈tn,W8 x)->tn.length<=most->wk W H ss ps T most n t u tn=some d->∃wd pt tn',d=.tup [.str wd,pt,.lst tn']/\W8 pt/\(∀x∈tn',W8 x)/\tn'.length<=most
 |0,_,_,_,_,_,_,_,_,_,_,h=>by cases h
 |n+1,t,u,tn,now,d,wi,lx,ly,ht,hl,h=>by
  unfold wk at h
  cases ha:K5 ps T t u with
  |some x=>
   obtain⟨p,xy⟩:=x
   rw[ha] at h
   cases h
   refine⟨_,_,_,rfl,?_,ht,hl⟩
   unfold K5 at ha
   rcases Du _ none (fun _ _ z=>by cases z) p xy ha with k|⟨_,k⟩
   ·exact(hp p (List.mem_filter.mp k).1).is
   ·cases k
  |none=>
   rw[ha] at h
   dsimp only at h
   cases hw:Xw (thing W H ss t u (Zl t u T)) (decide (Zl t u T=T)) (decide (tn.length<most)) with
   |some w=>
    rw[hw] at h
    cases h
    exact⟨_,_,_,rfl,Mu wi lx ly t1,ht,hl⟩
   |none=>
    rw[hw] at h
    dsimp only at h
    refine Zil hp t1 n _ _ _ _ d (wi.step hw) (by rw[Y6];exact lx) (by rw[Y6];exact ly) ?_ ?_ h
    ·split
     ·intro x hx
      rcases List.mem_append.mp hx with k|k
      ·exact ht x k
      ·rw[List.mem_singleton.mp k];exact Mu wi lx ly t1
     ·exact ht
    ·split
     ·rename_i hmir
      obtain⟨_,w2⟩:=Kk hw
      rcases w2 with w2|⟨_,w2⟩
      ·rw[w2] at hmir;cases hmir
      ·have:=of_decide_eq_true w2
       rw[List.length_append,List.length_singleton]
       lia
     ·exact hl
end
structure St (W H:Nat) (p:Po4):Prop where
 x:PB W p.a p.b
 y:PB H p.c p.d
 bx:p.b.natAbs<=10 ^ 15
 by':p.d.natAbs<=10 ^ 15
def PtOk.st {W H:Nat}{p:Po4}(h:PtOk W H p):St W H p:=⟨h.x.pb,h.y.pb,Nat.le_trans h.x.fr.bot (Vk (by decide)),Nat.le_trans h.y.fr.bot (Vk (by decide))⟩
theorem all_map {α:Type}{f:α->D}:∀l:List D,(∀d∈l,∃s,d=f s)->∃ss:List α,l=ss.map f
 |[],_=>⟨[],rfl⟩
 |d::l,h=>by
  obtain⟨s,rfl⟩:=h d (List.mem_cons_self ..)
  obtain⟨ss,rfl⟩:=all_map l fun e he=>h e (List.mem_cons_of_mem _ he)
  exact⟨s::ss,rfl⟩
def Ag (p:Int){m:Nat}(h:1<=m):∃k:Nat,p%(m:Int)=(k:Int)/\k<m:=by
 have q1:0<=p%(m:Int):=Int.emod_nonneg _ (by lia)
 have q2:p%(m:Int)<m:=Int.emod_lt_of_pos _ (by lia)
 exact⟨(p%(m:Int)).toNat,by lia,by lia⟩
def Zhf (s:Sd):List V:=[.str (if s.up=true then Str.ofString "up" else Str.ofString "flat"),.int s.x,.int s.y,.str (if s.f=true then Str.ofString "m" else Str.ofString "p"),.str (if s.g=true then Str.ofString "m" else Str.ofString "p")]
theorem I9:∀ss:List Sd,Si (ss.map Sd.D)=some (ss.map Zhf)
 |[]=>rfl
 |s::ss=>by
  show(match some (Zhf s),Si (ss.map Sd.D) with|some v,some vs=>some (v::vs)|_,_=>none)=_
  rw[I9 ss]
  rfl
def Ni {x y:V}{xs ys:List V}(e:∃c,Zmq x y=some c)(l:∃c,Zn0 x y=some c)(r:∃b,Zfz xs ys=some b):∃b,Zfz (x::xs) (y::ys)=some b:=by
 obtain⟨c,e⟩:=e
 unfold Zfz
 rw[e]
 cases c
 ·exact l
 ·exact r
def Zla (s t:Sd):∃b,Zfz (Zhf s) (Zhf t)=some b:=Ni ⟨_,rfl⟩ ⟨_,rfl⟩ (Ni ⟨_,rfl⟩ ⟨_,rfl⟩ (Ni ⟨_,rfl⟩ ⟨_,rfl⟩ (Ni ⟨_,rfl⟩ ⟨_,rfl⟩ (Ni ⟨_,rfl⟩ ⟨_,rfl⟩ ⟨false,rfl⟩))))
def Zhg (ss:List Sd)(hl:ss.length<64):∃ts:List Sd,ts.length=ss.length/\Sk [.lst (ss.map Sd.D)]=.ok (.lst (ts.map Sd.D)):=by
 obtain⟨es,hp,e⟩:=Ew (I9 ss) (by rw[List.length_map];exact hl) (by
  rw[Bool.or_eq_true]
  refine .inl (List.all_eq_true.mpr fun y hy=>?_)
  obtain⟨s,_,rfl⟩:=List.mem_map.mp hy
  rfl) (by rw[List.length_map,List.length_map]) fun x hx y hy=>by
  obtain⟨s,_,rfl⟩:=List.mem_map.mp hx
  obtain⟨t,_,rfl⟩:=List.mem_map.mp hy
  exact⟨rfl,Zla s t⟩
 obtain⟨ts,rfl⟩:=all_map (f:=Sd.D) es fun d hd=>by
  obtain⟨s,_,rfl⟩:=List.mem_map.mp (hp.mem_iff.mp hd)
  exact⟨s,rfl⟩
 have:=hp.length_eq
 rw[List.length_map,List.length_map] at this
 exact⟨ts,this,e⟩
def Zpq (k:Nat)(tn:List D):Nat:=(tn.filter fun d=>Lf (Zij k d)).length
theorem Oa (k:Nat):∀tn:List D,par k tn=if Zpq k tn%2=0 then 1 else -1
 |[]=>rfl
 |d::l=>by
  have ih:=Oa k l
  show(if Lf (Zij k d)=true then -1 else 1)*par k l=_
  rw[ih]
  unfold Zpq
  cases h:Lf (Zij k d) with
  |true=>
   rw[List.filter_cons_of_pos (by exact h),List.length_cons,if_pos rfl]
   split<;>split<;>lia
  |false=>
   rw[List.filter_cons_of_neg (by rw[h];decide),if_neg (by decide),Int.one_mul]
def Y8 (k:Nat)(tn:List D):par k tn=1\/par k tn = -1:=by
 rw[Oa]
 split
 ·exact .inl rfl
 ·exact .inr rfl
def mk_hz {n m a b T:Int}:(Jv n m a b T).h=0↔a=0:=by
 constructor
 ·intro h
  have:=@Zk7 n m a b T
  rw[h,Int.zero_mul] at this
  exact this.symm
 ·intro h;rw[Ae h]
def Zeg {n m a b T k:Int}(hm:0<m)(e:a≠0->T=m*a.natAbs*k):(a=0->(Jv n m a b T).lap=0)/\(a≠0->(Jv n m a b T).lap*a.natAbs=b*T/\(Jv n m a b T).h=sg a):=by
 constructor
 ·intro h;rw[Ae h]
 ·intro h
  rw[Lg h hm (e h)]
  refine⟨?_,rfl⟩
  show b*(m*k)*a.natAbs=b*T
  rw[e h];grind
def Zeh {n m a b T k:Int}(hm:0<m)(e:a≠0->T=m*a.natAbs*k)(h:a≠0):k ∣ (Jv n m a b T).due/\k ∣ (Jv n m a b T).lap:=by
 rw[Lg h hm (e h)]
 exact⟨⟨Ya n m a*b,by show Ya n m a*(b*k)=_;grind⟩,⟨b*m,by show b*(m*k)=_;grind⟩⟩
def Te {c:Po4->Option (Int×Int)}{b:Iq}{p:Po4}(h:b≠none):Y5 c b p≠none:=by
 unfold Y5
 cases c p with
 |none=>exact h
 |some xy=>
  obtain⟨x,y⟩:=xy
  cases b with
  |none=>exact absurd rfl h
  |some q=>
   obtain⟨q,x0,y0⟩:=q
   dsimp only
   split<;>exact fun z=>by cases z
theorem Tf {c:Po4->Option (Int×Int)}:∀(l:List Po4) (b:Iq),b≠none->l.foldl (Y5 c) b≠none
 |[],_,h=>h
 |p::l,b,h=>Tf l _ (Te h)
theorem Tg {c:Po4->Option (Int×Int)}:∀(l:List Po4) (b:Iq),l.foldl (Y5 c) b=none->∀p∈l,c p=none
 |[],_,_,_,h=>by cases h
 |q::l,b,h,p,hp=>by
  rcases List.mem_cons.mp hp with rfl|hp
  ·cases e:c p with
   |none=>rfl
   |some xy=>
    refine absurd h (Tf l _ ?_)
    obtain⟨x,y⟩:=xy
    cases b with
    |none=>rw[Pg e];exact fun z=>by cases z
    |some b=>exact Te fun z=>by cases z
  ·exact Tg l _ h p hp
theorem mpm (s:String) (h:s="mpm" \/ s="mmp") (g:Int):∃b:Bool,Km (.str (Str.ofString s)) (.int (g%3))=.ok (fc b):=by
 have:g%3=0\/g%3=1\/g%3=2:=by lia
 rcases h with rfl|rfl<;>rcases this with e|e|e<;>rw[e]
 ·exact⟨true,rfl⟩
 ·exact⟨false,rfl⟩
 ·exact⟨true,rfl⟩
 ·exact⟨true,rfl⟩
 ·exact⟨true,rfl⟩
 ·exact⟨false,rfl⟩
def Znj (m:Nat)(f:Zf->M O)(a0 a1 a2 a3 a4 a5:D):Ug 6 m f [a0,a1,a2,a3,a4,a5]=Nx (f ([some (S.im a0),some (S.im a1),some (S.im a2),some (S.im a3),some (S.im a4),some (S.im a5)]++List.replicate m none)):=rfl
def Zhh (u:Bool)(x y t en g:Int):∃ts:List Sd,ts.length<=1/\Vr [kd u,.int x,.int y,.int t,.int en,.int g]=.ok (.im (.lst (ts.map Sd.D))):=by
 obtain⟨o,eo⟩:=mpm "mpm" (.inl rfl) g
 obtain⟨p,ep⟩:=mpm "mmp" (.inr rfl) (g/3)
 have s3:sm 3=true:=W6 (by decide) (by decide)
 have s9:sm 9=true:=W6 (by decide) (by decide)
 have g1:∀r:List (Option S),Zp Km ↑"mpm" (Zp Yd (Zd 5) ↑3) (Io (kd u)::Jo x::Jo y::Jo t::Jo en::Jo g::r)=.ok (fc o):=fun r=>Zm rfl (Zm rfl rfl (gM (by decide))) eo
 have g2:∀r:List (Option S),Zp Km ↑"mmp" (Zp Yd (Zp Xj (Zd 5) ↑3) ↑3) (Io (kd u)::Jo x::Jo y::Jo t::Jo en::Jo g::r)=.ok (fc p):=fun r=>Zm rfl (Zm (Zm rfl rfl (Ie (by decide) s3)) rfl (gM (by decide))) ep
 obtain⟨b1,c1⟩:∃b:Bool,∀r:List (Option S),DL.tB (Uu Tq Tq ↑0 (Zd 3) (Zd 4)) (Io (kd u)::Jo x::Jo y::Jo t::Jo en::Jo g::r)=.ok b:=by
  by_cases h:(0:Int)<t
  ·by_cases h2:t<en
   ·exact⟨true,fun r=>Qn (by simp[Uu,eC,Zd,Tq,A4,asB,M.bind,h,h2])⟩
   ·exact⟨false,fun r=>Qn (by simp[Uu,eC,Zd,Tq,A4,asB,M.bind,h,h2])⟩
  ·exact⟨false,fun r=>Qn (by simp[Uu,eC,Zd,Tq,A4,asB,M.bind,h])⟩
 have c2:∀r:List (Option S),DL.tB (Zp Rc (Zp Yd (Zp Xj (Zd 5) ↑9) ↑3) ↑0) (Io (kd u)::Jo x::Jo y::Jo t::Jo en::Jo g::r)=.ok (decide (0<g/9%3)):=fun r=>Qn (Zm (Zm (Zm rfl rfl (Ie (by decide) s9)) rfl (gM (by decide))) rfl rfl)
 have c3:∀r:List (Option S),DL.tB (Zp Jq (Zp Yd (Zp Xj (Zd 5) ↑9) ↑6) ↑5) (Io (kd u)::Jo x::Jo y::Jo t::Jo en::Jo g::r)=.ok (g/9%6==5):=fun r=>Qn (Zm (Zm (Zm rfl rfl (Ie (by decide) s9)) rfl (gM (by decide))) rfl (X2 _ _))
 have c4:∀r:List (Option S),DL.tB (Zp Jq (Zd 3) ↑0) (Io (kd u)::Jo x::Jo y::Jo t::Jo en::Jo g::r)=.ok (t==0):=fun r=>Qn (Zm rfl rfl (X2 _ _))
 have c5:∀r:List (Option S),DL.tB (Zp Jq (Zd 3) (Zd 4)) (Io (kd u)::Jo x::Jo y::Jo t::Jo en::Jo g::r)=.ok (t==en):=fun r=>Qn (Zm rfl rfl (X2 _ _))
 have tt:=fun r=>Zkx (Zky (c1 r) (c2 r)) (Zky (Zm8 (c1 r)) (c3 r))
 generalize ((b1&&decide (0<g/9%3))||((!b1)&&(g/9%6==5)))=b at tt
 cases b with
 |true=>exact⟨[],by simp,(Znj _ _ _ _ _ _ _ _).trans (Z7 (go (Zy (g1 _)) (go (Zy (g2 _)) (Yp (Qr (tt _) (Z1 rfl))))))⟩
 |false=>
  refine⟨[⟨u,x,y,if t==0 then false else o,if t==en then false else p⟩],by simp,(Znj _ _ _ _ _ _ _ _).trans (Z7 (go (Zy (g1 _)) (go (Zy (g2 _)) (go (Z6 (tt _)) ?_))))⟩
  cases q1:(t==0) with
  |true=>
   refine go (Qr ((c4 _).trans (by rw[q1])) rfl) ?_
   cases q2:(t==en) with
   |true=>exact go (Qr ((c5 _).trans (by rw[q2])) rfl) (Z1 rfl)
   |false=>exact go (Z6 ((c5 _).trans (by rw[q2]))) (Z1 rfl)
  |false=>
   refine go (Z6 ((c4 _).trans (by rw[q1]))) ?_
   cases q2:(t==en) with
   |true=>exact go (Qr ((c5 _).trans (by rw[q2])) rfl) (Z1 rfl)
   |false=>exact go (Z6 ((c5 _).trans (by rw[q2]))) (Z1 rfl)
def Zlb (r:List (Option S))(v0 v1 v2:Option S)(ns:List Int)(n:Int):Cn 3 (v0::v1::v2::some (.ow ((ns++[n]).map D.int))::r)=.ok (.int n,v0::v1::v2::some (.ow (ns.map D.int))::r):=by
 unfold Cn
 show(match ((ns++[n]).map D.int)[((ns++[n]).map D.int).length-1]? with|some d=>M.ok (d,_)|none=>.bad)=_
 rw[List.length_map,List.length_append,List.length_singleton,Nat.add_sub_cancel,List.map_append,List.map_cons,List.map_nil]
 rw[List.getElem?_append_right (by simp),List.length_map,Nat.sub_self]
 simp
def Nk (v0:Option S)(W H:Nat)(ns:List Int)(ss:List Sd)(v5 v6:Option S):Zf:=[v0,Jo (W:Int),Jo (H:Int),some (.ow (ns.map D.int)),Io (.lst (ss.map Sd.D)),v5,v6]
noncomputable def Zlo (k:String)(i j:Nat):Zf->M O:=(Cp 4 (Zms Qe (Zd 4) (L9 Vr (Yg (eC (.str (Str.ofString k))) (Yg (Zd 5) (Yg (Zd 6) (Yg (Zd i) (Yg (Zd j) (N6 (Cn 3))))))))))
def Ob (u:Bool)(v0:Option S){W H x y:Nat}(ns:List Int)(n:Int)(ss:List Sd)(hl:ss.length<=900):
  ∃ss',ss'.length<=ss.length+1/\Zlo (if u=true then "up" else "flat") (if u=true then 5 else 6) (if u=true then 1 else 2) (Nk v0 W H (ns++[n]) ss (Jo (x:Int)) (Jo (y:Int)))=.ok (.nx (Nk v0 W H ns ss' (Jo (x:Int)) (Jo (y:Int)))):=by
 obtain⟨ts,ht,hf⟩:=Zhh u x y (if u=true then x else y) (if u=true then W else H) n
 have pp:=Zlb [Io (.lst (ss.map Sd.D)),Jo (x:Int),Jo (y:Int)] v0 (Jo (W:Int)) (Jo (H:Int)) ns n
 refine⟨ss++ts,by rw[List.length_append];lia,?_⟩
 have ar:(Yg (eC (.str (Str.ofString (if u=true then "up" else "flat")))) (Yg (Zd 5) (Yg (Zd 6) (Yg (Zd (if u=true then 5 else 6)) (Yg (Zd (if u=true then 1 else 2)) (N6 (Cn 3))))))) (Nk v0 W H (ns++[n]) ss (Jo (x:Int)) (Jo (y:Int)))=.ok ([kd u,.int x,.int y,.int (if u=true then x else y),.int (if u=true then W else H),.int n],Nk v0 W H ns ss (Jo (x:Int)) (Jo (y:Int))):=by
  unfold Yg N6 Nk
  rw[pp]
  cases u<;>rfl
 unfold Zlo Cp Zms L9
 rw[ar]
 simp only[M.bind_ok]
 rw[hf]
 show((Qe (.lst (ss.map Sd.D)) (.lst (ts.map Sd.D))).bind fun z=>M.ok (z,Nk v0 W H ns ss (Jo (x:Int)) (Jo (y:Int)))).bind _=_
 rw[Zdu (by rw[List.length_map,List.length_map];lia),<-List.map_append]
 rfl
def Zhi {ns:List Int}{k:Nat}(h:k+1<=ns.length):∃ms n,ns=ms++[n]/\k<=ms.length:=by
 have hne:ns≠[]:=by intro q;rw[q] at h;simp at h
 exact⟨ns.dropLast,ns.getLast hne,(List.dropLast_concat_getLast hne).symm,by rw[List.length_dropLast];lia⟩
theorem Ah (v0:Option S){W H x:Nat}{B:Zf->M O}(turn:∀(y:Nat) (ns:List Int) (n:Int) (ss:List Sd),ss.length<=900->∃ss',ss'.length<=ss.length+1/\B (Nk v0 W H (ns++[n]) ss (Jo (x:Int)) (Jo (y:Int)))=.ok (.nx (Nk v0 W H ns ss' (Jo (x:Int)) (Jo (y:Int))))):
  ∀(ys:List Nat) (ns:List Int) (ss:List Sd) (v6:Option S) (j:Nat),j+ys.length<=ns.length->ss.length+ys.length<=900 ->
  ∃ns' ss' v6',ss'.length<=ss.length+ys.length/\j<=ns'.length/\Xd (X4 6) B (ys.map fun(y:Nat)=>D.int (y:Int)) (Nk v0 W H ns ss (Jo (x:Int)) v6)=.ok (.nx (Nk v0 W H ns' ss' (Jo (x:Int)) v6'))
 |[],ns,ss,v6,j,hj,hl=>⟨ns,ss,v6,by simp,by simpa using hj,rfl⟩
 |y::ys,ns,ss,v6,j,hj,hl=>by
  rw[List.length_cons] at hj hl
  obtain⟨ms,n,rfl,hm⟩:=Zhi (k:=j+ys.length) (ns:=ns) (by lia)
  obtain⟨s1,l1,e1⟩:=turn y ms n ss (by lia)
  obtain⟨ns',ss',v6',l2,l3,e2⟩:=Ah v0 turn ys ms s1 (Jo (y:Int)) j hm (by lia)
  exact⟨ns',ss',v6',by rw[List.length_cons];lia,l3,(Yr (sd1:=Nk v0 W H (ms++[n]) ss (Jo (x:Int)) (Jo (y:Int))) rfl e1).trans e2⟩
theorem Ti (v0:Option S){W H m:Nat}{F:Zf->M O}(turn:∀(x j:Nat) (ns:List Int) (ss:List Sd) (v6:Option S),j+m<=ns.length->ss.length+m<=900->∃ns' ss' v6',ss'.length<=ss.length+m/\j<=ns'.length/\F (Nk v0 W H ns ss (Jo (x:Int)) v6)=.ok (.nx (Nk v0 W H ns' ss' (Jo (x:Int)) v6'))):
  ∀(xs:List Nat) (ns:List Int) (ss:List Sd) (v5 v6:Option S) (j:Nat),j+xs.length*m<=ns.length->ss.length+xs.length*m<=900 ->
  ∃ns' ss' v5' v6',ss'.length<=ss.length+xs.length*m/\j<=ns'.length/\Xd (X4 5) F (xs.map fun(y:Nat)=>D.int (y:Int)) (Nk v0 W H ns ss v5 v6)=.ok (.nx (Nk v0 W H ns' ss' v5' v6'))
 |[],ns,ss,v5,v6,j,hj,hl=>⟨ns,ss,v5,v6,by simp,by simpa using hj,rfl⟩
 |x::xs,ns,ss,v5,v6,j,hj,hl=>by
  rw[List.length_cons,Nat.add_mul,Nat.one_mul] at hj hl
  obtain⟨n1,s1,v61,l1,j1,e1⟩:=turn x (j+xs.length*m) ns ss v6 (by lia) (by lia)
  obtain⟨ns',ss',v5',v6',l2,l3,e2⟩:=Ti v0 turn xs n1 s1 (Jo (x:Int)) v61 j j1 (by lia)
  exact⟨ns',ss',v5',v6',by rw[List.length_cons,Nat.add_mul,Nat.one_mul];lia,l3,(Yr (sd1:=Nk v0 W H ns ss (Jo (x:Int)) v6) rfl e1).trans e2⟩
def Zlc (c:Int){W H:Nat}(hW:W<=3)(hH:H<=3):∃ss:List Sd,ss.length<=400/\Nd [.int c,.int (W:Int),.int (H:Int)]=.ok (.im (Yf W H ss)):=by
 have w72:(W+1)*H<=4*3:=Nat.mul_le_mul (by lia) hH
 have w73:W*(H+1)<=3*4:=Nat.mul_le_mul hW (by lia)
 have w1:(W+1)*H=W*H+H:=by rw[Nat.add_mul,Nat.one_mul]
 have w2:W*(H+1)=W*H+W:=by rw[Nat.mul_add,Nat.mul_one]
 obtain⟨es,hes,_,en⟩:=Ml c (2*(W*H)+W+H) (by lia)
 have cnt:Zp Qe (Zp Qe (Zp Zt (Zp Zt ↑2 (Zd 1)) (Zd 2)) (Zd 1)) (Zd 2) [Jo c,Jo (W:Int),Jo (H:Int),none,none,none,none]=.ok (.int ((2*(W*H)+W+H:Nat):Int)):=by
  refine(Zm (Zm (Zm (Zm rfl rfl (gT (W6 (by decide) (by decide)) (W6 (by lia) (by lia)))) rfl (gT (W6 (by lia) (by lia)) (W6 (by lia) (by lia)))) rfl rfl) rfl rfl).trans ?_
  show M.ok (D.int (2*(W:Int)*(H:Int)+W+H))=_
  congr 2
  rw[Int.mul_assoc]
  push_cast
  rfl
 have own:Nz 3 (Cd Xn (Zc (Zd 0) (Zc (Zp Qe (Zp Qe (Zp Zt (Zp Zt ↑2 (Zd 1)) (Zd 2)) (Zd 1)) (Zd 2)) Zk))) [Jo c,Jo (W:Int),Jo (H:Int),none,none,none,none]=.ok (.nx [Jo c,Jo (W:Int),Jo (H:Int),some (.ow (es.map D.int)),none,none,none]):=by
  unfold Nz Cd
  rw[aC (d:=.int c) rfl (Law.a1 cnt),M.bind_ok,en]
  rfl
 obtain⟨n1,s1,v5,v6,l1,j1,e1⟩:=Ti (Jo c) (W:=W) (H:=H) (m:=H) (F:=Jm (Xb (Zc (Zd 2) Zk)) (X4 6) (Zlo "up" 5 1)) (fun x j ns ss v6 hj hl=>by
  obtain⟨ns',ss',v6',a2,a3,a4⟩:=Ah (Jo c) (W:=W) (H:=H) (x:=x) (B:=Zlo "up" 5 1) (fun y ns n ss hl=>Ob true _ ns n ss hl) (List.range H) ns ss v6 j (by rw[List.length_range];exact hj) (by rw[List.length_range];exact hl)
  rw[List.length_range] at a2
  exact⟨ns',ss',v6',a2,a3,(Yq (Zkv (n:=H) (Law.a1 rfl) (by lia))).trans a4⟩) (List.range (W+1)) es [] none none (W*(H+1)) (by rw[hes,List.length_range];lia) (by rw[List.length_range];simp;lia)
 rw[List.length_range] at l1
 obtain⟨n2,s2,v5',v6',l2,j2,e2⟩:=Ti (Jo c) (W:=W) (H:=H) (m:=H+1) (F:=Jm (Xb (Zc (Zp Qe (Zd 2) ↑1) Zk)) (X4 6) (Zlo "flat" 6 2)) (fun x j ns ss v6 hj hl=>by
  obtain⟨ns',ss',v6',a2,a3,a4⟩:=Ah (Jo c) (W:=W) (H:=H) (x:=x) (B:=Zlo "flat" 6 2) (fun y ns n ss hl=>Ob false _ ns n ss hl) (List.range (H+1)) ns ss v6 j (by rw[List.length_range];exact hj) (by rw[List.length_range];exact hl)
  rw[List.length_range] at a2
  exact⟨ns',ss',v6',a2,a3,(Yq (Zkv (n:=H+1) (Law.a1 rfl) (by lia))).trans a4⟩) (List.range W) n1 s1 v5 v6 0 (by rw[List.length_range];lia) (by rw[List.length_range];simp at l1;lia)
 rw[List.length_range] at l2
 have l3:s2.length<=24:=by simp at l1;lia
 obtain⟨ts,lt,et⟩:=Zhg s2 (by lia)
 exact⟨ts,by lia,(Zkw _ _ _ _ _).trans (Z7 (go own (go (Zy (d:=.lst []) (Fg rfl (K2 (by show(0:Nat)<=1000000;decide)))) (go ((Yq (Zkv (n:=W+1) (Law.a1 rfl) (by lia))).trans e1) (go ((Yq (Zkv (n:=W) (Law.a1 rfl) (by lia))).trans e2) (Z1 (Ld rfl rfl (K3 (Law.a1 (d:=.lst (ts.map Sd.D)) (K3 (Law.a1 rfl) et)) rfl))))))))⟩
def Zld {a b c t:Int}(hc:0<c):t∈Al a c (Pv a b c)↔a<=t/\t<b/\c ∣ t-a:=by
 unfold Al
 rw[List.mem_map]
 constructor
 ·rintro⟨i,hi,rfl⟩
  have hi:=List.mem_range.mp hi
  unfold Pv at hi
  split at hi
  ·have h0:0<=(b-a-1)/c:=Int.ediv_nonneg (by lia) (by lia)
   have h1:(i:Int)<=(b-a-1)/c:=by lia
   have h2:=(Int.le_ediv_iff_mul_le hc).mp h1
   have h3:=Int.mul_nonneg (show(0:Int)<=i by lia) (Int.le_of_lt hc)
   exact⟨by lia,by lia,⟨i,by rw[Int.mul_comm];lia⟩⟩
  ·lia
 ·rintro⟨h1,h2,⟨k,hk⟩⟩
  have k0:0<=k:=by
   rcases Int.lt_or_le k 0 with z|z
   ·have:=Int.mul_neg_of_pos_of_neg hc z
    lia
   ·exact z
  have k1:k<=(b-a-1)/c:=(Int.le_ediv_iff_mul_le hc).mpr (by rw[Int.mul_comm];lia)
  refine⟨k.toNat,List.mem_range.mpr ?_,?_⟩
  ·unfold Pv
   rw[if_pos (by lia)]
   lia
  ·rw[Int.toNat_of_nonneg k0,Int.mul_comm]
   lia
def Dv {a c:Int}(hc:0<c)(n:Nat):(Al a c n).Nodup:=by
 unfold Al
 refine List.pairwise_map.mpr (List.nodup_range.imp fun {i j} h z=>h ?_)
 have:(i:Int)*c=(j:Int)*c:=by lia
 have:=Int.eq_of_mul_eq_mul_right (by lia) this
 lia
def Zim {k F c:Int}(hc:0<c)(hF:0<=F)(t:Int):t∈Al ((k+F)%c-F) c (Pv ((k+F)%c-F) (F+1) c) ↔ -F<=t/\t<=F/\c ∣ t-k:=by
 have m0:=Int.emod_nonneg (k+F) (show c≠0 by lia)
 have m1:=Int.emod_lt_of_pos (k+F) hc
 have m2:=Int.emod_add_mul_ediv (k+F) c
 rw[Zld hc]
 generalize (k+F)%c=r at *
 generalize (k+F)/c=w at *
 constructor
 ·rintro⟨h1,h2,⟨x,hx⟩⟩
  refine⟨by lia,by lia,⟨x-w,?_⟩⟩
  rw[Int.mul_sub];lia
 ·rintro⟨h1,h2,⟨x,hx⟩⟩
  refine⟨?_,by lia,⟨x+w,by rw[Int.mul_add];lia⟩⟩
  have e:t-(r-F)=c*(x+w):=by rw[Int.mul_add];lia
  rcases Int.lt_or_le (x+w) 0 with z|z
  ·have:=Int.mul_le_mul_of_nonneg_left (show x+w <= -1 by lia) (Int.le_of_lt hc)
   lia
  ·have:=Int.mul_nonneg (Int.le_of_lt hc) z
   lia
def Zpr:Zf->M O:=(Zx (Z4 9 (Zp DL.Vt (Zp Yd (Zp Qe (Zp DL.Vt (Zd 8) (Zd 4)) (Zd 6)) (Zp Zt ↑2 (Zd 3))) (Zd 6)))
   (Z4 7 (Zp Qe (Zd 7) (Zkq (Zc (Zd 9) (Zc (Zp Qe (Zd 6) ↑1) (Zc (Zp Zt ↑2 (Zd 3)) Zk)))))))
def Fo {k F c:Int}{R:Nat}(hc:0<c)(hF:F+F<=(R:Int)*c):Pv ((k+F)%c-F) (F+1) c<=R+1:=by
 have m0:=Int.emod_nonneg (k+F) (show c≠0 by lia)
 unfold Pv
 split
 ·have h1:(F+1-((k+F)%c-F)-1)/c<=(R:Int):=by
   have:=Int.ediv_le_ediv hc (show F+1-((k+F)%c-F)-1<=(R:Int)*c by lia)
   rwa[Int.mul_ediv_cancel _ (by lia)] at this
  lia
 ·lia
def Oc (o0 o1 o2:Option S){B b e F im:Int}{R:Nat}(B0:0<B)(B1:B<=1000000)(bb:b.natAbs<=8000000)(ib:im.natAbs<=8000000)(hR:R<=20)(hF:F=(R:Int)*B)(ts:List Int)(hl:ts.length<=100)(v9:Option S):
  Zpr [o0,o1,o2,Jo B,Jo b,Jo e,Jo F,Io (.lst (ts.map D.int)),Jo im,v9]=.ok (.nx [o0,o1,o2,Jo B,Jo b,Jo e,Jo F,Io (.lst ((ts++Al ((im-b+F)%(2*B)-F) (2*B) (Pv ((im-b+F)%(2*B)-F) (F+1) (2*B))).map D.int)),Jo im,Jo ((im-b+F)%(2*B)-F)]):=by
 have F0:0<=F:=by rw[hF];exact Int.mul_nonneg (by lia) (by lia)
 have F1:F<=20*1000000:=by rw[hF];exact Int.mul_le_mul (by lia) B1 (by lia) (by decide)
 have m0:=Int.emod_nonneg (im-b+F) (show 2*B≠0 by lia)
 have m1:=Int.emod_lt_of_pos (im-b+F) (show 0<2*B by lia)
 have g2:∀r:List (Option S),Zp Zt ↑2 (Zd 3) (o0::o1::o2::Jo B::r)=.ok (.int (2*B)):=fun r=>Zm rfl rfl (gT (W6 (by decide) (by decide)) (W6 (by lia) (by lia)))
 have fw:=Fo (k:=im-b) (F:=F) (c:=2*B) (R:=R) (by lia) (by rw[hF];lia)
 have e60:(2:Int) ^ 60=1152921504606846976:=by decide
 refine go (Zy (d:=.int ((im-b+F)%(2*B)-F)) (Zm (Zm (Zm (Zm rfl rfl rfl) rfl rfl) (g2 _) (gM (by lia))) rfl rfl)) (Zy (Zm (x:=.lst (ts.map D.int)) rfl (y:=.lst ((Al ((im-b+F)%(2*B)-F) (2*B) (Pv ((im-b+F)%(2*B)-F) (F+1) (2*B))).map D.int)) ?_ ?_))
 ·have ea:Zc (Zd 9) (Zc (Zp Qe (Zd 6) ↑1) (Zc (Zp Zt ↑2 (Zd 3)) Zk)) [o0,o1,o2,Jo B,Jo b,Jo e,Jo F,Io (.lst (ts.map D.int)),Jo im,Jo ((im-b+F)%(2*B)-F)]=.ok [.int ((im-b+F)%(2*B)-F),.int (F+1),.int (2*B)]:=aC rfl (aC rfl (Law.a1 (g2 _)))
  show(Zc (Zd 9) (Zc (Zp Qe (Zd 6) ↑1) (Zc (Zp Zt ↑2 (Zd 3)) Zk)) [o0,o1,o2,Jo B,Jo b,Jo e,Jo F,Io (.lst (ts.map D.int)),Jo im,Jo ((im-b+F)%(2*B)-F)]).bind Zkp=_
  rw[ea,M.bind_ok]
  show(if Zm0 _ _ _=true then _ else _)=_
  rw[if_pos]
  unfold Zm0
  refine decide_eq_true ⟨?_,?_,?_,?_,?_,?_,?_⟩<;>(try rw[e60])<;>lia
 ·rw[List.map_append]
  exact Zdu (by rw[List.length_map,List.length_map,Bs];lia)
structure Tops (n1 m1 n2 m2:Int) (R:Nat) (ts:List Int):Prop where
 lt:ts.Pairwise (· < ·)
 mem:∀t,t∈ts ↔ -((R:Int)*(m1*m2))<=t/\t<=(R:Int)*(m1*m2)/\(2*(m1*m2) ∣ t-(n2*m1-n1*m2)\/2*(m1*m2) ∣ t-(-(n2*m1)-n1*m2))
 few:ts.length<=2*R+2
def Je {z:Nat}{p q:Int}(h:PIn z p q)(z8:z<=8):0<q/\q<=1000/\0<p/\p<8000:=by
 have h1:=h.fr.pos
 have h2:=h.q3
 have h3:=h.p0
 have h4:=h.p1
 have:(z:Int)*q<=8*1000:=Int.mul_le_mul (by lia) h2 (by lia) (by decide)
 exact⟨h1,h2,h3,by lia⟩
def Znk {l:List Int}(h:l.Pairwise (·<=·))(nd:l.Nodup):l.Pairwise (· < ·):=by
 refine(h.and nd).imp fun {a b} q=>?_
 have:=q.1
 have:=q.2
 lia
theorem Od:∀l:List Int,Um (l.map D.int)=some l
 |[]=>rfl
 |i::l=>by
  show(Um (l.map D.int)).map (i::·)=_
  rw[Od l]
  rfl
def Oe {z:Nat}(z8:z<=8){n1 m1 n2 m2:Int}(h1:PIn z n1 m1)(h2:PIn z n2 m2){R:Nat}(hR:R<=20):∃ts:List Int,Tops n1 m1 n2 m2 R ts/\Yj [nD n1 m1,nD n2 m2,.int (R:Int)]=.ok (.ow (ts.map fun t=>Yw t (m1*m2))):=by
 obtain⟨a1,a2,a3,a4⟩:=Je h1 z8
 obtain⟨c1,c2,c3,c4⟩:=Je h2 z8
 have B0:0<m1*m2:=Int.mul_pos a1 c1
 have B1:m1*m2<=1000*1000:=Int.mul_le_mul a2 c2 (by lia) (by decide)
 have b0:0<n1*m2:=Int.mul_pos a3 c1
 have b1:n1*m2<=8000*1000:=Int.mul_le_mul (by lia) c2 (by lia) (by decide)
 have e0:0<n2*m1:=Int.mul_pos c3 a1
 have e1:n2*m1<=8000*1000:=Int.mul_le_mul (by lia) a2 (by lia) (by decide)
 have dj:¬2*(m1*m2) ∣ 2*(n2*m1):=fun⟨k,hk⟩=>h2.nw k (by
  have:m1*(k*m2)=m1*n2:=by grind
  exact Int.eq_of_mul_eq_mul_left (by lia) this)
 have q2:m1*m2=m1*m2:=rfl
 generalize hB:m1*m2=B at *
 generalize hb:n1*m2=b at *
 generalize he:n2*m1=e at *
 have F0:0<=(R:Int)*B:=Int.mul_nonneg (by lia) (by lia)
 have F1:(R:Int)*B<=20*1000000:=Int.mul_le_mul (by lia) (by lia) (by lia) (by decide)
 generalize hF:(R:Int)*B=F at *
 have t1:=Oc (Io (nD n1 m1)) (Io (nD n2 m2)) (Jo (R:Int)) (e:=e) (im:=e) B0 (by lia) (b:=b) (by lia) (by lia) hR hF.symm [] (by simp) none
 have f1:=Fo (k:=e-b) (F:=F) (c:=2*B) (R:=R) (by lia) (by rw[<-hF];lia)
 have f2:=Fo (k:=-e-b) (F:=F) (c:=2*B) (R:=R) (by lia) (by rw[<-hF];lia)
 have mm1:=Zim (k:=e-b) (F:=F) (c:=2*B) (by lia) F0
 have mm2:=Zim (k:=-e-b) (F:=F) (c:=2*B) (by lia) F0
 have nd1:=Dv (a:=(e-b+F)%(2*B)-F) (c:=2*B) (by lia) (Pv ((e-b+F)%(2*B)-F) (F+1) (2*B))
 have nd2:=Dv (a:=(-e-b+F)%(2*B)-F) (c:=2*B) (by lia) (Pv ((-e-b+F)%(2*B)-F) (F+1) (2*B))
 have l1:=Bs ((e-b+F)%(2*B)-F) (2*B) (Pv ((e-b+F)%(2*B)-F) (F+1) (2*B))
 have l2:=Bs ((-e-b+F)%(2*B)-F) (2*B) (Pv ((-e-b+F)%(2*B)-F) (F+1) (2*B))
 have t2:=fun v9=>Oc (Io (nD n1 m1)) (Io (nD n2 m2)) (Jo (R:Int)) (e:=e) (im:=-e) B0 (by lia) (b:=b) (by lia) (by lia) hR hF.symm (Al ((e-b+F)%(2*B)-F) (2*B) (Pv ((e-b+F)%(2*B)-F) (F+1) (2*B))) (by lia) v9
 rw[List.nil_append] at t1
 generalize Al ((e-b+F)%(2*B)-F) (2*B) (Pv ((e-b+F)%(2*B)-F) (F+1) (2*B))=A1 at *
 generalize Al ((-e-b+F)%(2*B)-F) (2*B) (Pv ((-e-b+F)%(2*B)-F) (F+1) (2*B))=A2 at *
 have pm:=Vx (A1++A2)
 have nd:(A1++A2).Nodup:=List.nodup_append.mpr ⟨nd1,nd2,fun x hx y hy z=>by
  subst z
  obtain⟨_,_,⟨k1,d1⟩⟩:=(mm1 x).mp hx
  obtain⟨_,_,⟨k2,d2⟩⟩:=(mm2 x).mp hy
  exact dj ⟨k2-k1,by rw[Int.mul_sub];lia⟩⟩
 have len:(Kp (A1++A2)).length<=2*R+2:=by rw[pm.length_eq,List.length_append];lia
 have fr:∀t∈Kp (A1++A2),Fr 8 t B:=fun t ht=>by
  have e8:(10:Nat) ^ 8=100000000:=rfl
  have:-F<=t/\t<=F:=by
   rcases List.mem_append.mp (pm.mem_iff.mp ht) with z|z
   ·have:=(mm1 t).mp z;lia
   ·have:=(mm2 t).mp z;lia
  exact⟨B0,by rw[e8];lia,by rw[e8];lia⟩
 refine⟨Kp (A1++A2),⟨Znk (Vy _) (pm.nodup_iff.mpr nd),fun t=>?_,len⟩,?_⟩
 ·rw[pm.mem_iff,List.mem_append,mm1,mm2,hB,hF,he,hb]
  constructor
  ·rintro(⟨x,y,z⟩|⟨x,y,z⟩)
   ·exact⟨x,y,.inl z⟩
   ·exact⟨x,y,.inr z⟩
  ·rintro⟨x,y,z|z⟩
   ·exact .inl ⟨x,y,z⟩
   ·exact .inr ⟨x,y,z⟩
 ·have sq:∀r:List (Option S),Zp Zt 0[1]! 1[1]! (Io (nD n1 m1)::Io (nD n2 m2)::r)=.ok (.int B):=fun r=>Zm (Zq rfl rfl (Yo _ _ _)) (Zq rfl rfl (Yo _ _ _)) (by rw[gT (W6 (by lia) (by lia)) (W6 (by lia) (by lia)),hB])
  have sb:∀r:List (Option S),Zp Zt 0[0]! 1[1]! (Io (nD n1 m1)::Io (nD n2 m2)::r)=.ok (.int b):=fun r=>Zm (Zq rfl rfl (Yk _ _)) (Zq rfl rfl (Yo _ _ _)) (by rw[gT (W6 (by lia) (by lia)) (W6 (by lia) (by lia)),hb])
  have se:∀r:List (Option S),Zp Zt 1[0]! 0[1]! (Io (nD n1 m1)::Io (nD n2 m2)::r)=.ok (.int e):=fun r=>Zm (Zq rfl rfl (Yk _ _)) (Zq rfl rfl (Yo _ _ _)) (by rw[gT (W6 (by lia) (by lia)) (W6 (by lia) (by lia)),he])
  have sf:∀r:List (Option S),Zp Zt (Zd 2) (Zd 3) (Io (nD n1 m1)::Io (nD n2 m2)::Jo (R:Int)::Jo B::r)=.ok (.int F):=fun r=>Zm rfl rfl (by rw[gT (W6 (by lia) (by lia)) (W6 (by lia) (by lia)),hF])
  have es:Vl Re (Zc (Zd 7) Zk) [Io (nD n1 m1),Io (nD n2 m2),Jo (R:Int),Jo B,Jo b,Jo e,Jo F,Io (.lst ((A1++A2).map D.int)),Jo (-e),Jo ((-e-b+F)%(2*B)-F)]=.ok (.lst ((Kp (A1++A2)).map D.int)):=by
   refine K3 (Law.a1 (d:=.lst ((A1++A2).map D.int)) rfl) ?_
   show(match Um ((A1++A2).map D.int) with|some ns=>if ns.length<64 then M.ok (D.lst ((Kp ns).map D.int)) else .bad|none=>.bad)=_
   rw[Od]
   dsimp only
   rw[if_pos (by rw[List.length_append];lia)]
  have em:Jz (X4 0) (Z5 Jc (Zc (Zd 0) (Zc (Zd 1) Zk))) (Uh 1 [3] [Io (nD n1 m1),Io (nD n2 m2),Jo (R:Int),Jo B,Jo b,Jo e,Jo F,Io (.lst ((A1++A2).map D.int)),Jo (-e),Jo ((-e-b+F)%(2*B)-F)]) ((Kp (A1++A2)).map D.int)=.ok ((Kp (A1++A2)).map fun t=>Yw t B):=
   Zgz D.int (fun t=>Yw t B) (Kp (A1++A2)) fun t ht=>⟨_,rfl,Z3 (aC rfl (Law.a1 rfl)) (Ng (fr t ht) (by decide)) rfl⟩
  refine(Zkw _ _ _ _ _).trans (Z7 (go (Zy (sq _)) (go (Zy (sb _)) (go (Zy (se _)) (go (Zy (sf _)) (go (Zy (d:=.lst []) (Fg rfl (K2 (by show(0:Nat)<=1000000;decide)))) (go (f:=Jm _ (X4 8) Zpr) ((Yq (ds:=[.int e,.int (-e)]) (Ii (W7 rfl rfl))).trans ((Yr rfl t1).trans ((Yr rfl (t2 _)).trans rfl))) ?_)))))))
  unfold Zcl
  rw[Rk (Px es) (by rw[List.length_map];lia) em]
  rfl
def Fp {W H:Nat}(hW:W<=8)(hH:H<=8){ss:List Sd}(hl:ss.length<=400){ps:List Po4}(hp:∀p∈ps,PtOk W H p){q:Nj}(e2:∀x y:Int,look q [.inl x,.inl y]=look [] [.inl x,.inl y]++(ps.filter (Le x y)).map Po4.D){p s:Po4}(ho:St W H p)(hs:StOk s){most:Nat}(hm:most<=900):
  ∃d,wD (Yf W H ss) q p.D s.D (.int most)=.ok d/\wk W H ss ps (wT p s) most 81 (Jv p.a p.b s.a s.b (wT p s)) (Jv p.c p.d s.c s.d (wT p s)) []=some d/\WS W H (wT p s) 0 (Jv p.a p.b s.a s.b (wT p s)) (Jv p.c p.d s.c s.d (wT p s)) /\
   (s.a≠0->wT p s=p.b*s.a.natAbs*(p.d*m1 s.c))/\(s.c≠0->wT p s=p.d*s.c.natAbs*(p.b*m1 s.a))/\0<wT p s/\∃wd pt tn,d=.tup [.str wd,pt,.lst tn]/\W8 pt/\(∀x∈tn,W8 x)/\tn.length<=most:=by
 have px:=ho.x.fr.pos
 have py:=ho.y.fr.pos
 obtain⟨m0,m1'⟩:=Ms s.a
 obtain⟨m2,m3⟩:=Ms s.c
 have ew:wT p s=1*p.b*m1 s.a*p.d*m1 s.c:=rfl
 have tp:0<wT p s:=by rw[ew,Int.one_mul];exact Int.mul_pos (Int.mul_pos (Int.mul_pos px m0) py) m2
 have tb:(wT p s).natAbs<=10 ^ 54:=by
  rw[ew,Int.one_mul]
  exact Qq (j:=42) (k:=12) (Qq (j:=27) (k:=15) (Qq (j:=15) (k:=12) ho.bx (Mt hs.x.top)) ho.by') (Mt hs.y.top)
 have eX:s.a≠0->wT p s=p.b*s.a.natAbs*(p.d*m1 s.c):=fun h=>by rw[ew,m1' h];grind
 have eY:s.c≠0->wT p s=p.d*s.c.natAbs*(p.b*m1 s.a):=fun h=>by rw[ew,m3 h];grind
 have dx:s.a≠0->∃k,0<k/\wT p s=p.b*s.a.natAbs*k:=fun h=>⟨p.d*m1 s.c,Int.mul_pos py m2,eX h⟩
 have dy:s.c≠0->∃k,0<k/\wT p s=p.d*s.c.natAbs*k:=fun h=>⟨p.b*m1 s.a,Int.mul_pos px m0,eY h⟩
 have t54:wT p s<=Ju:=by have:(10:Nat) ^ 54=Ju:=rfl;lia
 have lx:(Jv p.a p.b s.a s.b (wT p s)).lap<=Ju:=by
  by_cases h:s.a=0
  ·rw[Ae h];show(0:Int)<=_;exact Int.natCast_nonneg _
  ·rw[Lg h px (eX h)]
   show s.b*(p.b*(p.d*m1 s.c))<=_
   have:(s.b*(p.b*(p.d*m1 s.c))).natAbs<=10 ^ (12+(15+(15+12))):=Qq hs.x.bot (Qq ho.bx (Qq ho.by' (Mt hs.y.top)))
   have e:(10:Nat) ^ (12+(15+(15+12)))=Ju:=rfl
   lia
 have ly:(Jv p.c p.d s.c s.d (wT p s)).lap<=Ju:=by
  by_cases h:s.c=0
  ·rw[Ae h];show(0:Int)<=_;exact Int.natCast_nonneg _
  ·rw[Lg h py (eY h)]
   show s.d*(p.d*(p.b*m1 s.a))<=_
   have:(s.d*(p.d*(p.b*m1 s.a))).natAbs<=10 ^ (12+(15+(15+12))):=Qq hs.y.bot (Qq ho.by' (Qq ho.bx (Mt hs.x.top)))
   have e:(10:Nat) ^ (12+(15+(15+12)))=Ju:=rfl
   lia
 have ef:=@Zhe p s ⟨ho.x.fr.mono (by decide),ho.y.fr.mono (by decide)⟩ hs
 generalize hT:wT p s=T at *
 have tx:=Zik (T:=T) ho.x hW tp hs.x.pos dx
 have ty:=Zik (T:=T) ho.y hH tp hs.y.pos dy
 have h1:(Jv p.a p.b s.a s.b T).h≠0\/(Jv p.c p.d s.c s.d T).h≠0:=by
  have e1:=@Zk7 p.a p.b s.a s.b T
  have e2:=@Zk7 p.c p.d s.c s.d T
  rcases hs.n0 with qq|qq
  ·exact .inl fun z=>qq (by rw[<-e1,z,Int.zero_mul])
  ·exact .inr fun z=>qq (by rw[<-e2,z,Int.zero_mul])
 have wi:WS W H T 0 (Jv p.a p.b s.a s.b T) (Jv p.c p.d s.c s.d T):=⟨tx,ty,h1,Int.le_refl _,tp,.inl rfl⟩
 obtain⟨d,hd⟩:=Iz (ss:=ss) (ps:=ps) (most:=most) 81 40 40 _ _ [] 0 wi (Zef ho.x hs.x.pos hs.lx dx) (Zef ho.y hs.y.pos hs.ly dy) (by decide)
 refine⟨d,?_,hd,wi,eX,eY,tp,Zil hp t54 81 _ _ [] 0 d wi lx ly (fun _ z=>by cases z) (Nat.zero_le _) hd⟩
 refine Zm4 fun a a1 a2=>?_
 unfold fW
 have e0:Z5 Y3 (Zc (Zd 0) (Zc (Zd 1) Zk)) [Io p.D,Io s.D]=.ok (.int T):=Z3 (aC rfl (Law.a1 rfl)) ef rfl
 have l1:Zc 0[0]! (Zc 1[0]! (Zc (Zd 2) Zk)) [Io p.D,Io s.D,Jo T]=.ok [nD p.a p.b,nD s.a s.b,.int T]:=aC (Zq rfl rfl (Yk _ _)) (aC (Zq rfl rfl (Yk _ _)) (Law.a1 rfl))
 have l2:Zc 0[1]! (Zc 1[1]! (Zc (Zd 2) Zk)) [Io p.D,Io s.D,Jo T]=.ok [nD p.c p.d,nD s.c s.d,.int T]:=aC (Zq rfl rfl (Yo _ _ _)) (aC (Zq rfl rfl (Yo _ _ _)) (Law.a1 rfl))
 rw[e0,M.bind_ok,l1,M.bind_ok,l2,M.bind_ok,Zee (ho.x.fr.mono (by decide)) hs.x tb,Zee (ho.y.fr.mono (by decide)) hs.y tb]
 exact lw a a1 a2 q p.D s.D (by lia) hp (Zk9 e2) (by lia) t54 3000 _ _ [] 0 _ wi lx ly (Nat.zero_le _) (Ro 81 3000 _ _ _ _ (by decide) hd)
def Y1 (t b:Int):Int×Int:=(t/(Int.gcd t b:Nat),b/(Int.gcd t b:Nat))
def Of (t b:Int):Yw t b=nD (Y1 t b).1 (Y1 t b).2:=rfl
def Rb (bx by':Int)(t:Int×Int):Po4:=⟨(Y1 t.1 bx).1,(Y1 t.1 bx).2,(Y1 t.2 by').1,(Y1 t.2 by').2⟩
def Znl (bx by':Int)(t:Int×Int):(Rb bx by' t).D=.tup [Yw t.1 bx,Yw t.2 by']:=rfl
def Znm {t b:Int}(hb:0<b):Yw t b=nD 0 1↔t=0:=by
 obtain⟨p,q,e,q0,m,g,_⟩:=Qx (t:=t) hb
 rw[e]
 constructor
 ·intro h
  obtain⟨rfl,rfl⟩:=Jj h
  rw[Int.zero_mul] at m
  lia
 ·intro h
  subst h
  rw[Int.zero_mul] at m
  have hp:p=0:=(Int.mul_eq_zero.mp m).resolve_right (by lia)
  subst hp
  rw[I8 q0 g (c:=0) (by lia)]
def Za3:Zf->M O:=(Jw (DL.tB (Eo (Zad 0 1 0 1) (Qv (Zc (Zd 6) (Zc (Zd 7) Zk))))) (Ur 4 (Qv (Zc (Zd 6) (Zc (Zd 7) Zk)))) Y7)
def nz (t:Int×Int):Bool:=!(t.1==0&&t.2==0)
def Zhj {bx by' tx ty:Int}(hbx:0<bx)(hby:0<by'):Zad 0 1 0 1 (.tup [Yw tx bx,Yw ty by'])=.ok (.bl (nz (tx,ty))):=by
 have k:∀{t b:Int},0<b->(decide ((Y1 t b).1=0)&&decide ((Y1 t b).2=1))=(t==0):=fun {t b} hb=>by
  have:=@Znm t b hb
  rw[Of] at this
  rw[<-Bool.decide_and,Bool.eq_iff_iff,decide_eq_true_iff,beq_iff_eq,<-this]
  exact⟨fun h=>by rw[h.1,h.2],fun h=>Jj h⟩
 show M.ok (D.bl (!(decide ((Y1 tx bx).1=0)&&decide ((Y1 tx bx).2=1)&&decide ((Y1 ty by').1=0)&&decide ((Y1 ty by').2=1))))=_
 rw[k hbx,Bool.and_assoc,k hby]
 rfl
theorem Zei (o0 o1 o2 o3 o5:Option S){bx by' x:Int}(hbx:0<bx)(hby:0<by'):∀(ys:List Int) (acc:List (Int×Int)) (v7:Option S),acc.length+ys.length<=1000->∃w7:Option S,
  Xd (X4 7) Za3 (ys.map fun y=>Yw y by') [o0,o1,o2,o3,some (.ow (acc.map fun t=>(Rb bx by' t).D)),o5,Io (Yw x bx),v7]=.ok (.nx [o0,o1,o2,o3,some (.ow ((acc++(ys.map fun y=>(x,y)).filter nz).map fun t=>(Rb bx by' t).D)),o5,Io (Yw x bx),w7])
 |[],acc,v7,_=>⟨v7,by rw[show acc++List.filter nz (([]:List Int).map fun y=>(x,y))=acc from List.append_nil _];rfl⟩
 |y::ys,acc,v7,hl=>by
  rw[List.length_cons] at hl
  have ne:=@Zhj bx by' x y hbx hby
  have c:DL.tB (Eo (Zad 0 1 0 1) (Qv (Zc (Zd 6) (Zc (Zd 7) Zk)))) [o0,o1,o2,o3,some (.ow (acc.map fun t=>(Rb bx by' t).D)),o5,Io (Yw x bx),Io (Yw y by')]=.ok (nz (x,y)):=by
   refine Qn ?_
   unfold Eo
   rw[W7 (a:=Yw x bx) (b:=Yw y by') rfl rfl,M.bind_ok,ne]
  cases q:nz (x,y) with
  |false=>
   rw[q] at c
   obtain⟨w7,e⟩:=Zei o0 o1 o2 o3 o5 hbx hby ys acc (Io (Yw y by')) (by lia)
   refine⟨w7,?_⟩
   rw[List.map_cons,List.map_cons,List.filter_cons_of_neg (by rw[q];decide)]
   exact(Yr rfl (Z6 c)).trans e
  |true=>
   rw[q] at c
   obtain⟨w7,e⟩:=Zei o0 o1 o2 o3 o5 hbx hby ys (acc++[(x,y)]) (Io (Yw y by')) (by rw[List.length_append,List.length_singleton];lia)
   refine⟨w7,?_⟩
   rw[List.map_cons,List.map_cons,List.filter_cons_of_pos q]
   rw[List.append_assoc] at e
   refine(Yr (sd2:=[o0,o1,o2,o3,some (.ow ((acc++[(x,y)]).map fun t=>(Rb bx by' t).D)),o5,Io (Yw x bx),Io (Yw y by')]) rfl (Qr c ?_)).trans e
   rw[List.map_append]
   exact Fh rfl (W7 rfl rfl) (by rw[List.length_map];lia)
theorem Zej (o0 o1 o2 o3:Option S){bx by':Int}(hbx:0<bx)(hby:0<by'){ys:List Int}(ly:ys.length<=42):∀(xs:List Int) (acc:List (Int×Int)) (v6 v7:Option S),acc.length+xs.length*ys.length<=1000->∃w6 w7:Option S,
  Xd (X4 6) (Jm (Vn (Zd 5)) (X4 7) Za3) (xs.map fun x=>Yw x bx) [o0,o1,o2,o3,some (.ow (acc.map fun t=>(Rb bx by' t).D)),Io (.lst (ys.map fun y=>Yw y by')),v6,v7]=.ok (.nx [o0,o1,o2,o3,some (.ow ((acc++(xs.flatMap fun x=>ys.map fun y=>(x,y)).filter nz).map fun t=>(Rb bx by' t).D)),Io (.lst (ys.map fun y=>Yw y by')),w6,w7])
 |[],acc,v6,v7,_=>⟨v6,v7,by rw[List.flatMap_nil,List.filter_nil,List.append_nil];rfl⟩
 |x::xs,acc,v6,v7,hl=>by
  rw[List.length_cons,Nat.add_mul,Nat.one_mul] at hl
  obtain⟨a7,e1⟩:=Zei o0 o1 o2 o3 (Io (.lst (ys.map fun y=>Yw y by'))) (x:=x) hbx hby ys acc v7 (by lia)
  have lf:=List.length_filter_le nz (ys.map fun y=>(x,y))
  rw[List.length_map] at lf
  obtain⟨w6,w7,e2⟩:=Zej o0 o1 o2 o3 hbx hby ly xs (acc++(ys.map fun y=>(x,y)).filter nz) (Io (Yw x bx)) a7 (by rw[List.length_append];lia)
  refine⟨w6,w7,?_⟩
  rw[List.append_assoc] at e2
  rw[List.map_cons,List.flatMap_cons,List.filter_append]
  exact(Yr rfl ((Yq (Px rfl)).trans e1)).trans e2
def Zhk {W H:Nat}(hW:W<=8)(hH:H<=8){p q:Po4}(hp:PtOk W H p)(hq:PtOk W H q){RX RY:Nat}(hx:RX<=14)(hy:RY<=14):∃xs ys:List Int,Tops p.a p.b q.a q.b RX xs/\Tops p.c p.d q.c q.d RY ys/\xs.length*ys.length<=900 /\
  Xi [p.D,q.D,.int (RX:Int),.int (RY:Int)]=.ok (.ow (((xs.flatMap fun x=>ys.map fun y=>(x,y)).filter nz).map fun t=>(Rb (p.b*q.b) (p.d*q.d) t).D)):=by
 obtain⟨xs,tx,ex⟩:=Oe hW hp.x hq.x (R:=RX) (by lia)
 obtain⟨ys,ty,ey⟩:=Oe hH hp.y hq.y (R:=RY) (by lia)
 have lx:=tx.few
 have ly:=ty.few
 have lm:xs.length*ys.length<=30*30:=Nat.mul_le_mul (by lia) (by lia)
 refine⟨xs,ys,tx,ty,by lia,?_⟩
 obtain⟨w6,w7,e⟩:=Zej (Io p.D) (Io q.D) (Jo (RX:Int)) (Jo (RY:Int)) (Int.mul_pos hp.x.fr.pos hq.x.fr.pos) (Int.mul_pos hp.y.fr.pos hq.y.fr.pos) (ys:=ys) (by lia) xs [] none none (by simp;lia)
 rw[List.nil_append] at e
 exact(Zm6 _ _ _ _ _ _).trans (Z7 (go (Kg 4 _) (go (Zy (Z3 (aC (Zq rfl rfl (Yo _ _ _)) (aC (Zq rfl rfl (Yo _ _ _)) (Law.a1 rfl))) ey rfl)) (go (f:=Jm _ (X4 6) (Jm (Vn (Zd 5)) (X4 7) Za3)) ((Yq (Px (Z3 (aC (Zq rfl rfl (Yk _ _)) (aC (Zq rfl rfl (Yk _ _)) (Law.a1 rfl))) ex rfl))).trans e) rfl))))
def Znn {pt:D}(h:W8 pt)(q:Po4):D.eq pt q.D=true↔pt=q.D:=by
 obtain⟨a,b,c,e,rfl,_⟩:=h
 have:(.tup [nD a b,nD c e]:D)=Po4.D ⟨a,b,c,e⟩:=rfl
 rw[this,Fl]
 constructor
 ·intro h;rw[h]
 ·intro h
  unfold Po4.D at h
  injection h with h
  injection h with h1 h
  injection h with h2 _
  obtain⟨rfl,rfl⟩:=Jj h1
  obtain⟨rfl,rfl⟩:=Jj h2
  rfl
def Dw {w:Str}{pt:D}{tn:List D}(h:W8 pt)(q:Po4):∃b:Bool,Na [.tup [.str w,pt,.lst tn],q.D]=.ok (.im (.bl b))/\(b=true↔w=Str.ofString "end"/\pt=q.D):=by
 have dp:pt.dep<=60:=Nat.le_trans (Ds h) (by decide)
 refine⟨decide (w=Str.ofString "end")&&D.eq pt q.D,(Zdo _ _ _ _).trans (Z7 (Z1 (Zdt (Zm (Zq rfl rfl (Yk _ _)) rfl (Jx (by simp[D.dep]))) (Zm (Zq rfl rfl (Yo _ _ _)) rfl (Jx dp))))),?_⟩
 rw[Bool.and_eq_true,decide_eq_true_iff,Znn h]
def Zek {bx by':Int}(hx:0<bx)(hx':bx<=1000000)(hy:0<by')(hy':by'<=1000000){t:Int×Int}(h1:-(14*bx)<=t.1/\t.1<=14*bx)(h2:-(14*by')<=t.2/\t.2<=14*by')(h:nz t=true):StOk (Rb bx by' t)/\(Rb bx by' t).b<=1000000/\(Rb bx by' t).d<=1000000:=by
 have e12:(10:Nat) ^ 12=1000000000000:=rfl
 have key:∀{x b:Int},0<b->b<=1000000->-(14*b)<=x/\x<=14*b->Fr 12 (Y1 x b).1 (Y1 x b).2/\Int.gcd (Y1 x b).1 (Y1 x b).2=1/\((Y1 x b).1.natAbs:Int)<=40*(Y1 x b).2/\(Y1 x b).2<=1000000/\((Y1 x b).1=0↔x=0):=fun {x b} b0 b1 hb=>by
  obtain⟨p,q,e,q0,m,g,a1,a2⟩:=Qx (t:=x) b0
  rw[Of] at e
  obtain⟨e1,e2⟩:=Jj e
  rw[e1,e2]
  refine⟨⟨q0,by rw[e12];lia,by rw[e12];lia⟩,g,?_,by lia,?_⟩
  ·have h1:(p.natAbs:Int)*b=x.natAbs*q:=by
    have:=congrArg Int.natAbs m
    rw[Int.natAbs_mul,Int.natAbs_mul] at this
    rw[show b=((b.natAbs:Nat):Int) by lia,show q=((q.natAbs:Nat):Int) by lia]
    exact_mod_cast this
   have h2:(x.natAbs:Int)*q<=14*b*q:=Int.mul_le_mul_of_nonneg_right (by lia) (Int.le_of_lt q0)
   rw[<-h1] at h2
   have h3:(p.natAbs:Int)*b<=(14*q)*b:=by rw[show 14*q*b=14*b*q by grind];exact h2
   have:=Int.le_of_mul_le_mul_right h3 b0
   lia
  ·constructor
   ·intro z;rw[z,Int.zero_mul] at m
    rcases Int.mul_eq_zero.mp m.symm with w|w
    ·exact w
    ·lia
   ·intro z;rw[z,Int.zero_mul] at m
    rcases Int.mul_eq_zero.mp m with w|w
    ·exact w
    ·lia
 obtain⟨f1,g1,l1,b1,z1⟩:=key hx hx' h1
 obtain⟨f2,g2,l2,b2,z2⟩:=key hy hy' h2
 refine⟨⟨f1,f2,g1,g2,?_,l1,l2⟩,b1,b2⟩
 by_cases q:t.1=0
 ·refine .inr fun z=>?_
  have:t.2=0:=z2.mp z
  unfold nz at h
  rw[q,this] at h
  cases h
 ·exact .inl fun z=>q (z1.mp z)
def Qs (bx by':Int)(r:(Int×Int)×List D):D:=.tup [Yw r.1.1 bx,Yw r.1.2 by',.lst r.2]
theorem Fq {hall:D}{ppl:List D}{q:Nj}{one other most:D}{p o:Po4}(hp:Km (.lst ppl) one=.ok p.D)(ho:Km (.lst ppl) other=.ok o.D){bx by':Int}:∀(L:List (Int×Int)) (fo:List D),(∀t∈L,∃w pt tn,wD hall q p.D (Rb bx by' t).D most=.ok (.tup [.str w,pt,.lst tn])/\W8 pt)->fo.length+L.length<=1000 ->
  ∃rows:List ((Int×Int)×List D),Ub hall ppl q one other most (L.map fun t=>(Rb bx by' t).D) fo=.ok (fo++rows.map (Qs bx by'))/\(rows.map (·.1)).Sublist L/\∀t tn,(t,tn)∈rows↔t∈L/\wD hall q p.D (Rb bx by' t).D most=.ok (.tup [.str (Str.ofString "end"),o.D,.lst tn])
 |[],fo,_,_=>⟨[],by rw[show fo++([]:List ((Int×Int)×List D)).map (Qs bx by')=fo from List.append_nil _];rfl,List.Sublist.refl _,fun t tn=>⟨fun h=>(by cases h),fun h=>(by cases h.1)⟩⟩
 |t::L,fo,hw,hl=>by
  rw[List.length_cons] at hl
  obtain⟨w,pt,tn,e,ip⟩:=hw t (.head _)
  obtain⟨b,eb,hb⟩:=Dw (w:=w) (tn:=tn) ip o
  have et:tY (Tm hall ppl one other most none none (Io (Rb bx by' t).D) (Io (.tup [.str w,pt,.lst tn])))=.ok b:=Qn (Z3 (aC rfl (Law.a1 (Zm rfl rfl ho))) eb rfl)
  have er:Zdm (Tm hall ppl one other most none none (Io (Rb bx by' t).D) (Io (.tup [.str w,pt,.lst tn])))=.ok (Qs bx by' (t,tn)):=Ld (Zq rfl rfl (Yk _ _)) (Zq rfl rfl (Yo _ _ _)) (Zq rfl rfl (Zdr _ _ _ _))
  have run:Ub hall ppl q one other most ((t::L).map fun t=>(Rb bx by' t).D) fo=if b=true then(if few fo=true then Ub hall ppl q one other most (L.map fun t=>(Rb bx by' t).D) (fo++[Qs bx by' (t,tn)]) else .bad) else Ub hall ppl q one other most (L.map fun t=>(Rb bx by' t).D) fo:=by
   rw[List.map_cons]
   conv=>lhs;unfold Ub
   rw[hp,M.bind_ok,e,M.bind_ok,et,M.bind_ok,er,M.bind_ok]
  cases b with
  |false=>
   obtain⟨rows,e1,e2,e3⟩:=Fq hp ho L fo (fun t ht=>hw t (.tail _ ht)) (by lia)
   refine⟨rows,by rw[run,if_neg (by decide)];exact e1,e2.cons _,fun t' tn'=>?_⟩
   rw[e3,List.mem_cons]
   constructor
   ·exact fun h=>⟨.inr h.1,h.2⟩
   ·rintro⟨h|h,h2⟩
    ·exfalso
     subst h
     rw[e] at h2
     injection h2 with h2
     injection h2 with h2
     injection h2 with h3 h2
     injection h3 with h3
     injection h2 with h4 _
     have:=hb.mpr ⟨h3,h4⟩
     cases this
    ·exact⟨h,h2⟩
  |true=>
   obtain⟨rows,e1,e2,e3⟩:=Fq hp ho L (fo++[Qs bx by' (t,tn)]) (fun t ht=>hw t (.tail _ ht)) (by rw[List.length_append,List.length_singleton];lia)
   obtain⟨rfl,rfl⟩:=hb.mp rfl
   refine⟨(t,tn)::rows,?_,e2.cons₂ _,fun t' tn'=>?_⟩
   ·rw[run,if_pos rfl,if_pos (K2 (by lia)),e1,List.append_assoc]
    rfl
   ·rw[List.mem_cons,e3,List.mem_cons]
    constructor
    ·rintro(h|h)
     ·cases h
      exact⟨.inl rfl,e⟩
     ·exact⟨.inr h.1,h.2⟩
    ·rintro⟨h|h,h2⟩
     ·subst h
      rw[e] at h2
      injection h2 with h2
      injection h2 with h2
      injection h2 with _ h2
      injection h2 with _ h2
      injection h2 with h5 _
      injection h5 with h5
      exact .inl (by rw[h5])
     ·exact .inr ⟨h,h2⟩
section
variable {W H:Nat}{ss:List Sd}{ps:List Po4}{q:Nj}{m:Nat}
structure Ways (W H:Nat) (ss:List Sd) (q:Nj) (m:Nat) (p o:Po4) (xs ys:List Int) (rows:List ((Int×Int)×List D)):Prop where
 tx:Tops p.a p.b o.a o.b ((m+1)*W) xs
 ty:Tops p.c p.d o.c o.d ((m+1)*H) ys
 sub:(rows.map (·.1)).Sublist ((xs.flatMap fun x=>ys.map fun y=>(x,y)).filter nz)
 mem:∀t tn,(t,tn)∈rows↔t∈(xs.flatMap fun x=>ys.map fun y=>(x,y)).filter nz/\wD (Yf W H ss) q p.D (Rb (p.b*o.b) (p.d*o.d) t).D (.int m)=.ok (.tup [.str (Str.ofString "end"),o.D,.lst tn])
def Rq {n1 m1 n2 m2:Int}{R:Nat}{ts:List Int}(h:Tops n1 m1 n2 m2 R ts)(hm:0<m1*m2)(hR:R<=14){t:Int}(ht:t∈ts):-(14*(m1*m2))<=t/\t<=14*(m1*m2):=by
 obtain⟨a,b,_⟩:=(h.mem t).mp ht
 have:=Int.mul_le_mul_of_nonneg_right (show(R:Int)<=14 by lia) (Int.le_of_lt hm)
 lia
def Fs (hW:W<=8)(hH:H<=8)(hl:ss.length<=400)(hp:∀p∈ps,PtOk W H p)(hq:Zdl [] (ps.map Po4.D)=some q)(e2:∀x y:Int,look q [.inl x,.inl y]=look [] [.inl x,.inl y]++(ps.filter (Le x y)).map Po4.D)(lp:ps.length<=100){i j:Nat}{p o:Po4}(hi:ps[i]?=some p)(hj:ps[j]?=some o)(hm:m<=100)(hx:(m+1)*W<=14)(hy:(m+1)*H<=14):
  ∃xs ys rows,Ways W H ss q m p o xs ys rows/\F_ways [Yf W H ss,.lst (ps.map Po4.D),.int (i:Int),.int (j:Int),.int (m:Int)]=.ok (.ow (rows.map (Qs (p.b*o.b) (p.d*o.d)))):=by
 have op:=hp p (List.mem_of_getElem? hi)
 have oo:=hp o (List.mem_of_getElem? hj)
 obtain⟨xs,ys,tx,ty,lm,es⟩:=Zhk hW hH op oo hx hy
 obtain⟨a1,a2,_⟩:=Je op.x hW
 obtain⟨a3,a4,_⟩:=Je oo.x hW
 obtain⟨a5,a6,_⟩:=Je op.y hH
 obtain⟨a7,a8,_⟩:=Je oo.y hH
 have B0:=Int.mul_pos a1 a3
 have B1:p.b*o.b<=1000*1000:=Int.mul_le_mul a2 a4 (by lia) (by decide)
 have C0:=Int.mul_pos a5 a7
 have C1:p.d*o.d<=1000*1000:=Int.mul_le_mul a6 a8 (by lia) (by decide)
 have gi:Km (.lst (ps.map Po4.D)) (.int (i:Int))=.ok p.D:=by
  show(match P3 (ps.map Po4.D) (i:Int) with|some d=>M.ok d|none=>.bad)=_
  rw[U9 (show(ps.map Po4.D)[i]?=some p.D by rw[List.getElem?_map,hi];rfl)]
 have gj:Km (.lst (ps.map Po4.D)) (.int (j:Int))=.ok o.D:=by
  show(match P3 (ps.map Po4.D) (j:Int) with|some d=>M.ok d|none=>.bad)=_
  rw[U9 (show(ps.map Po4.D)[j]?=some o.D by rw[List.getElem?_map,hj];rfl)]
 have hok:∀t∈(xs.flatMap fun x=>ys.map fun y=>(x,y)).filter nz,StOk (Rb (p.b*o.b) (p.d*o.d) t):=fun t ht=>by
  obtain⟨h1,h2⟩:=List.mem_filter.mp ht
  obtain⟨x,hx1,h1⟩:=List.mem_flatMap.mp h1
  obtain⟨y,hy1,rfl⟩:=List.mem_map.mp h1
  exact(Zek B0 (by lia) C0 (by lia) (Rq tx B0 hx hx1) (Rq ty C0 hy hy1) h2).1
 have ll:((xs.flatMap fun x=>ys.map fun y=>(x,y)).filter nz).length<=900:=by
  refine Nat.le_trans (List.length_filter_le _ _) ?_
  rw[List.length_flatMap]
  simp only[List.length_map,List.map_const',List.sum_replicate_nat]
  exact lm
 obtain⟨rows,r1,r2,r3⟩:=Fq (hall:=Yf W H ss) (q:=q) (most:=.int (m:Int)) gi gj (bx:=p.b*o.b) (by':=p.d*o.d) ((xs.flatMap fun x=>ys.map fun y=>(x,y)).filter nz) [] (fun t ht=>by
  obtain⟨d,e1,_,_,_,_,_,w,pt,tn,rfl,ip,_⟩:=Fp (ss:=ss) (most:=m) hW hH hl hp e2 op.st (hok t ht) (by lia)
  exact⟨w,pt,tn,e1,ip⟩) (by simp;lia)
 rw[List.nil_append] at r1
 refine⟨xs,ys,rows,⟨tx,ty,r2,r3⟩,?_⟩
 have ei:iY (Tm (Yf W H ss) (ps.map Po4.D) (.int (i:Int)) (.int (j:Int)) (.int (m:Int)) none none none none)=.ok (((xs.flatMap fun x=>ys.map fun y=>(x,y)).filter nz).map fun t=>(Rb (p.b*o.b) (p.d*o.d) t).D):=by
  have t1:∀z:Nat,z<=8->Zt (.int ((m:Int)+1)) (.int (z:Int))=.ok (.int (((m+1)*z:Nat):Int)):=fun z hz=>by
   rw[gT (W6 (by lia) (by lia)) (W6 (by lia) (by lia))]
   congr 2
  refine Px (Z3 (aC (Zm rfl rfl gi) (aC (Zm rfl rfl gj) (aC (Zm (Zm rfl rfl rfl) (Zq rfl rfl (Yk _ _)) (t1 W hW)) (Law.a1 (Zm (Zm rfl rfl rfl) (Zq rfl rfl (Yo _ _ _)) (t1 H hH)))))) es rfl)
 simp only[F_ways,hq]
 rw[if_pos (by rw[List.length_map];lia),ei,M.bind_ok,if_pos (by rw[List.length_map];lia),r1]
 rfl
end
structure Rv (c1 c2 T T':Int) (t t':Tk):Prop where
 sq:t'.sq=t.sq
 h:t'.h = -t.h
 lap:c2*t'.lap=c1*t.lap
 due:(t.h≠0/\c2*t'.due=c1*(T-t.due+t.lap))\/(t.h=0/\t'.n=t.n/\t'.m=t.m/\t'.due=T'+1)
def Wn {sq h:Int}(hh:h=1\/h = -1):Qy sq (-h)=Qy sq h-h:=by
 unfold Qy
 rcases hh with rfl|rfl<;>simp<;>lia
def Za4 {sq h:Int}(hh:h=1\/h = -1):Qy (sq+h) (-h)=Qy sq h:=by
 unfold Qy
 rcases hh with rfl|rfl<;>simp<;>lia
section
variable {c1 c2 T T':Int}{t u t' u':Tk}
theorem Rv.place (h1:0<c1)(h2:0<c2)(x:Rv c1 c2 T T' t t')(hh:t.h≠0->(t.h=1\/t.h = -1)/\0<t.lap){w w':Int}(hw:c2*w'=c1*(T-w)):place t' w'=place t w:=by
 unfold Law.place
 rcases x.due with⟨h,d⟩|⟨h,a,b,_⟩
 ·obtain⟨g,l0⟩:=hh h
  have l1:0<t'.lap:=by
   have:0<c2*t'.lap:=by rw[x.lap];exact Int.mul_pos h1 l0
   exact Int.pos_of_mul_pos_right this h2
  rw[if_neg h,if_neg (by rw[x.h];lia)]
  refine Kj l1 l0 ?_
  have el:t'.line=t.line-t.h:=by unfold Tk.line;rw[x.sq,x.h];exact Wn g
  have e:=x.lap
  rw[el,x.h]
  generalize t.line=L at *
  have:c2*(((L-t.h)*t'.lap - -t.h*(t'.due-w'))*t.lap)=c2*((L*t.lap-t.h*(t.due-w))*t'.lap):=by grind
  exact Int.eq_of_mul_eq_mul_left (by lia) this
 ·rw[if_pos h,if_pos (by rw[x.h,h];rfl),a,b]
theorem Rv.tm (x:Rv c1 c2 T T' t t')(hh:t.h=1\/t.h = -1)(n d:Int):c2*t'.tm n d=c1*(T*d-t.tm n d):=by
 have el:t'.line=t.line-t.h:=by unfold Tk.line;rw[x.sq,x.h];exact Wn hh
 unfold Tk.tm
 rw[el,x.h]
 generalize t.line=L at *
 rcases x.due with⟨_,e⟩|⟨z,_⟩
 ·have e2:=x.lap
  rcases hh with q|q<;>rw[q]<;>grind
 ·lia
def Vv (c1 c2 T:Int):Option (Int×Int)->Option (Int×Int)->Prop
 |none,none=>True
 |some (x,y),some (x',y')=>y'=y/\c2*x'=c1*(T*y-x)
 |_,_=>False
theorem Rv.tval (h1:0<c1)(h2:0<c2)(x:Rv c1 c2 T T' t t')(y:Rv c1 c2 T T' u u')(hx:t.h≠0->t.h=1\/t.h = -1)(hy:u.h≠0->u.h=1\/u.h = -1)(hm:t.h≠0\/u.h≠0)(p:Po4):Vv c1 c2 T (tval t u p) (tval t' u' p):=by
 unfold Law.tval
 have nx:t'.h≠0↔t.h≠0:=by rw[x.h];lia
 have ny:u'.h≠0↔u.h≠0:=by rw[y.h];lia
 by_cases ht:t.h=0
 ·have hu:=hm.resolve_left fun z=>z ht
  have nt:¬(t.h≠0):=fun z=>z ht
  rw[if_neg nt,if_neg (fun z=>nt (nx.mp z))]
  rcases x.due with⟨z,_⟩|⟨_,a,b,_⟩
  ·exact absurd ht z
  ·rw[a,b]
   by_cases q:p.a=t.n/\p.b=t.m
   ·rw[if_pos q,if_pos q];exact⟨rfl,y.tm (hy hu) _ _⟩
   ·rw[if_neg q,if_neg q];trivial
 ·rw[if_pos ht,if_pos (nx.mpr ht)]
  have ex:=x.tm (hx ht) p.a p.b
  by_cases hu:u.h=0
  ·have nu:¬(u.h≠0):=fun z=>z hu
   rw[if_neg nu,if_neg (fun z=>nu (ny.mp z))]
   rcases y.due with⟨z,_⟩|⟨_,a,b,_⟩
   ·exact absurd hu z
   ·rw[a,b]
    by_cases q:p.c=u.n/\p.d=u.m
    ·rw[if_pos q,if_pos q];exact⟨rfl,ex⟩
    ·rw[if_neg q,if_neg q];trivial
  ·rw[if_pos hu,if_pos (ny.mpr hu)]
   have ey:=y.tm (hy hu) p.c p.d
   have e:t'.tm p.a p.b*p.d=u'.tm p.c p.d*p.b↔t.tm p.a p.b*p.d=u.tm p.c p.d*p.b:=by
    generalize t'.tm p.a p.b=A' at *
    generalize u'.tm p.c p.d=B' at *
    generalize t.tm p.a p.b=A at *
    generalize u.tm p.c p.d=B at *
    constructor
    ·intro q
     have:c1*(A*p.d)=c1*(B*p.b):=by grind
     exact Int.eq_of_mul_eq_mul_left (by lia) this
    ·intro q
     have:c2*(A'*p.d)=c2*(B'*p.b):=by grind
     exact Int.eq_of_mul_eq_mul_left (by lia) this
   by_cases q:t.tm p.a p.b*p.d=u.tm p.c p.d*p.b
   ·rw[if_pos q,if_pos (e.mpr q)];exact⟨rfl,ex⟩
   ·rw[if_neg q,if_neg (fun z=>q (e.mp z))];trivial
theorem Og {c:Po4->Option (Int×Int)}:∀l:List Po4,(∀p∈l,c p=none)->l.foldl (Y5 c) none=none
 |[],_=>rfl
 |p::l,h=>by
  rw[List.foldl_cons,X3 (h p (.head _))]
  exact Og l fun q hq=>h q (.tail _ hq)
def Rv.free (h1:0<c1)(h2:0<c2)(hT:c2*T'=c1*T)(x:Rv c1 c2 T T' t t')(y:Rv c1 c2 T T' u u')(hx:t.h≠0->t.h=1\/t.h = -1)(hy:u.h≠0->u.h=1\/u.h = -1)(hm:t.h≠0\/u.h≠0){ps:List Po4}(ha:K5 ps T t u=none):K5 ps T' t' u'=none:=by
 unfold K5 at ha ⊢
 have hn:=Tg _ _ ha
 rw[x.sq,y.sq]
 refine Og _ fun p hp=>?_
 have hw:=hn p hp
 have hv:=x.tval h1 h2 y hx hy hm p
 cases e:Law.tval t u p with
 |none=>
  cases e':Law.tval t' u' p with
  |none=>rfl
  |some z=>rw[e,e'] at hv;exact hv.elim
 |some z=>
  obtain⟨a,b⟩:=z
  cases e':Law.tval t' u' p with
  |none=>rfl
  |some z'=>
   obtain⟨a',b'⟩:=z'
   rw[e,e'] at hv
   obtain⟨rfl,hv⟩:=hv
   refine K4 rfl fun q=>?_
   rw[Ua e] at hw
   ·cases hw
   ·obtain⟨q1,q2⟩:=q
    rw[Int.zero_mul] at q1 ⊢
    have k1:0<c1*(T*b'-a):=by rw[<-hv];exact Int.mul_pos h2 q1
    have k2:c1*(T*b'-a)<c1*(T*b'):=by
     rw[<-hv,<-Int.mul_assoc,<-hT,Int.mul_assoc]
     exact(Int.mul_lt_mul_left h2).mpr q2
    have k3:=Int.pos_of_mul_pos_right k1 h1
    have k4:=Int.lt_of_mul_lt_mul_left k2 (Int.le_of_lt h1)
    exact⟨by lia,by lia⟩
end
def TI.mv1 {z:Nat}{T now:Int}{t:Tk}(h:TI z T now t)(q:t.h≠0):(t.h=1\/t.h = -1)/\0<t.lap:=by
 rcases h.mv with a|a
 ·exact absurd a.1 q
 ·exact⟨a.1,a.2.1⟩
section
variable {c1 c2 T T' n' w' now:Int}{z:Nat}{t t1':Tk}{th:Th}
def Dx (h1:0<c1)(h2:0<c2)(hT:c2*T'=c1*T)(ti:TI z T now t)(a0:0<=now)(a:now<n')(b:n'<=t.due)(c:n'<T)(hw:c2*w'=c1*(T-n'))(x:Rv c1 c2 T T' (Qb t n' th) t1'):(t.due=n'->t1'.due=w')/\(t.due≠n'->w'<t1'.due):=by
 have wT:w'<T':=by
  have:c1*(T-n')<c1*T:=(Int.mul_lt_mul_left h1).mpr (by lia)
  rw[<-hw,<-hT] at this
  exact Int.lt_of_mul_lt_mul_left this (Int.le_of_lt h2)
 constructor
 ·intro d
  have hh:t.h≠0:=fun q=>by rcases ti.mv with g|g<;>lia
  rcases x.due with⟨_,e⟩|⟨g,_⟩
  ·have p1:=U6 (th:=th) d
   rw[p1] at e
   have:c2*t1'.due=c2*w':=by
    rw[e,hw]
    congr 1
    lia
   exact Int.eq_of_mul_eq_mul_left (by lia) this
  ·exact absurd g (pass_h.mpr hh)
 ·intro d
  have ep:Qb t n' th=t:=if_neg d
  rw[ep] at x
  rcases x.due with⟨g,e⟩|⟨_,_,_,e⟩
  ·rcases ti.mv with q|⟨_,_,_,q⟩
   ·exact absurd q.1 g
   ·have:c1*(T-n')<c1*(T-t.due+t.lap):=(Int.mul_lt_mul_left h1).mpr (by lia)
    rw[<-hw,<-e] at this
    exact Int.lt_of_mul_lt_mul_left this (Int.le_of_lt h2)
  ·lia
def Mv (ti:TI z T now t)(hd:t.due=n'->t1'.due=w')(hd':t.due≠n'->w'<t1'.due)(hw:c2*w'=c1*(T-n'))(c:n'<T)(x:Rv c1 c2 T T' (Qb t n' th) t1'):Rv c1 c2 T T' t (Qb t1' w' th):=by
 by_cases d:t.due=n'
 ·have d':=hd d
  have hh:t.h≠0:=fun q=>by rcases ti.mv with g|g<;>lia
  have lap:=x.lap
  rw[Y6] at lap
  have hdue:c2*(t1'.due+t1'.lap)=c1*(T-t.due+t.lap):=by
   rw[Int.mul_add,lap,d',hw,d,<-Int.mul_add]
  have sq:=x.sq
  have hx:=x.h
  unfold Qb at sq hx ⊢
  rw[if_pos d] at sq hx
  rw[if_pos d']
  cases hm:th.mir with
  |true=>
   rw[hm,if_pos rfl] at sq hx
   rw[if_pos rfl]
   dsimp only at sq hx
   exact⟨sq,by show -t1'.h = -t.h;lia,lap,.inl ⟨hh,hdue⟩⟩
  |false=>
   rw[hm,if_neg (by decide)] at sq hx
   rw[if_neg (by decide)]
   dsimp only at sq hx
   exact⟨by show t1'.sq+t1'.h=t.sq;lia,hx,lap,.inl ⟨hh,hdue⟩⟩
 ·have d':=hd' d
  have ep:Qb t n' th=t:=if_neg d
  have ep':Qb t1' w' th=t1':=if_neg (by lia)
  rw[ep] at x
  rw[ep']
  exact x
def Ph (ti:TI z T now t)(c:n'<T)(d:t.due=n')(x:Rv c1 c2 T T' (Qb t n' th) t1'):t1'.line=t.line/\(th.mir=true->t1'.h=t.h):=by
 have hh:t.h≠0:=fun q=>by rcases ti.mv with g|g<;>lia
 have g:=(ti.mv1 hh).1
 have sq:=x.sq
 have hx:=x.h
 unfold Qb at sq hx
 rw[if_pos d] at sq hx
 unfold Tk.line
 cases hm:th.mir with
 |true=>
  rw[hm,if_pos rfl] at sq hx
  dsimp only at sq hx
  rw[sq,hx,Int.neg_neg]
  exact⟨rfl,fun _=>rfl⟩
 |false=>
  rw[hm,if_neg (by decide)] at sq hx
  dsimp only at sq hx
  rw[sq,hx]
  exact⟨Za4 g,fun z=>by cases z⟩
def Tj (ti:TI z T now t)(c:n'<T):place (Qb t n' th) n'=place t n':=by
 by_cases d:t.due=n'
 ·have hh:t.h≠0:=fun q=>by rcases ti.mv with g|g<;>lia
  obtain⟨g,l0⟩:=ti.mv1 hh
  unfold Qb
  rw[if_pos d]
  cases hm:th.mir with
  |true=>
   rw[if_pos rfl]
   unfold place Tk.line
   dsimp only
   rw[if_neg hh,if_neg (by lia),Wn g]
   congr 1
   rw[d]
   grind
  |false=>
   rw[if_neg (by decide)]
   unfold place Tk.line
   dsimp only
   rw[if_neg hh,if_neg hh]
   have e:Qy (t.sq+t.h) t.h=Qy t.sq t.h+t.h:=by unfold Qy;split<;>lia
   rw[e]
   congr 1
   rw[d]
   grind
 ·rw[show Qb t n' th=t from if_neg d]
end
section
variable {c1 c2 T T':Int}{W H:Nat}{ss:List Sd}{ps:List Po4}{P:D}
def Bk (c1 c2 T T':Int)(W H:Nat)(ss:List Sd)(ps:List Po4)(P:D)(t u:Tk)(tn:List D):Prop:=
 K5 ps T t u=none->∀(most:Nat) (t' u':Tk) (tn':List D),Rv c1 c2 T T' t t'->Rv c1 c2 T T' u u'->tn'.length+tn.length<=most ->
  ∃N,wk W H ss ps T' most N t' u' tn'=some (.tup [.str (Str.ofString "end"),P,.lst (tn'++tn.reverse)])
def Zel (h1:0<c1)(h2:0<c2)(hT:c2*T'=c1*T){t u:Tk}(wi:WS W H T 0 t u)(ox:t.h≠0->t.due<t.lap)(oy:u.h≠0->u.due<u.lap):Bk c1 c2 T T' W H ss ps (Q5 t u 0) t u []:=fun ha most t' u' tn' x y _=>by
 have hf:=x.free h1 h2 hT y (fun q=>(wi.x.mv1 q).1) (fun q=>(wi.y.mv1 q).1) wi.mv ha
 have far:∀{v v':Tk},Rv c1 c2 T T' v v'->(v.h≠0->v.due<v.lap)->T'<v'.due:=fun {v v'} r o=>by
  rcases r.due with⟨g,e⟩|⟨_,_,_,e⟩
  ·have:=o g
   have:c1*T<c1*(T-v.due+v.lap):=(Int.mul_lt_mul_left h1).mpr (by lia)
   rw[<-e,<-hT] at this
   exact Int.lt_of_mul_lt_mul_left this (Int.le_of_lt h2)
  ·lia
 have fx:=far x ox
 have fy:=far y oy
 have hn:Zl t' u' T'=T':=by unfold Zl;lia
 have hth:thing W H ss t' u' T'=.no:=by
  unfold thing
  rw[if_neg (by lia),if_neg (by lia),if_neg (by lia)]
 have px:=x.place h1 h2 (fun q=>wi.x.mv1 q) (w:=0) (w':=T') (by rw[hT,Int.sub_zero])
 have py:=y.place h1 h2 (fun q=>wi.y.mv1 q) (w:=0) (w':=T') (by rw[hT,Int.sub_zero])
 refine⟨1,?_⟩
 unfold wk
 rw[hf]
 dsimp only
 rw[hn,hth,decide_eq_true rfl]
 show some (D.tup [.str (Str.ofString "end"),Q5 t' u' T',.lst tn'])=_
 unfold Q5
 rw[px,py,List.reverse_nil,List.append_nil]
def Zhl (h1:0<c1)(h2:0<c2)(hT:c2*T'=c1*T){t u:Tk}{tn:List D}{now:Int}{may:Bool}(wi:WS W H T now t u)(ha:K5 ps T t u=none)(hw:Xw (thing W H ss t u (Zl t u T)) (decide (Zl t u T=T)) may=none)(hb:Bk c1 c2 T T' W H ss ps P t u tn):
  Bk c1 c2 T T' W H ss ps P (Qb t (Zl t u T) (thing W H ss t u (Zl t u T))) (Qb u (Zl t u T) (thing W H ss t u (Zl t u T))) (if(thing W H ss t u (Zl t u T)).mir=true then tn++[Q5 t u (Zl t u T)] else tn):=fun ha1 most t1 u1 tn' x y hl=>by
 have wi':=wi.step hw
 obtain⟨n1,n2,n3,n4⟩:=wi.nxt
 obtain⟨w1,w2⟩:=Kk hw
 have nT:Zl t u T<T:=by have:=of_decide_eq_false w1;lia
 have n0:=wi.n0
 have hf:=x.free h1 h2 hT y (fun q=>(wi'.x.mv1 q).1) (fun q=>(wi'.y.mv1 q).1) wi'.mv ha1
 have hv:t.due=Zl t u T\/u.due=Zl t u T:=by unfold Zl at nT ⊢;lia
 generalize hth:thing W H ss t u (Zl t u T)=th at *
 generalize hn':Zl t u T=n' at *
 obtain⟨w',hw'⟩:∃w',c2*w'=c1*(T-n'):=by
  have key:∀{zz:Nat}{v v':Tk},TI zz T now v->v.due=n'->Rv c1 c2 T T' (Qb v n' th) v'->c2*v'.due=c1*(T-n'):=fun {zz v v'} ti d r=>by
   have hh:v.h≠0:=fun q=>by rcases ti.mv with g|g<;>lia
   rcases r.due with⟨_,e⟩|⟨g,_⟩
   ·rw[U6 (th:=th) d] at e
    rw[e]
    congr 1
    lia
   ·exact absurd g (pass_h.mpr hh)
  rcases hv with d|d
  ·exact⟨_,key wi.x d x⟩
  ·exact⟨_,key wi.y d y⟩
 obtain⟨dx1,dx2⟩:=Dx h1 h2 hT wi.x n0 n1 n3 nT hw' x
 obtain⟨dy1,dy2⟩:=Dx h1 h2 hT wi.y n0 n1 n4 nT hw' y
 have wT:w'<T':=by
  have:c1*(T-n')<c1*T:=(Int.mul_lt_mul_left h1).mpr (by lia)
  rw[<-hw',<-hT] at this
  exact Int.lt_of_mul_lt_mul_left this (Int.le_of_lt h2)
 have ix:t1.due=w'↔t.due=n':=⟨fun q=>Classical.byContradiction fun z=>by have:=dx2 z;lia,dx1⟩
 have iy:u1.due=w'↔u.due=n':=⟨fun q=>Classical.byContradiction fun z=>by have:=dy2 z;lia,dy1⟩
 have ew:Zl t1 u1 T'=w':=by
  have gx:w'<=t1.due:=by by_cases d:t.due=n';have:=dx1 d;lia;have:=dx2 d;lia
  have gy:w'<=u1.due:=by by_cases d:u.due=n';have:=dy1 d;lia;have:=dy2 d;lia
  unfold Zl
  rcases hv with d|d
  ·have:=dx1 d;lia
  ·have:=dy1 d;lia
 have sqx:t.due≠n'->t1.sq=t.sq:=fun d=>by have:=x.sq;rwa[show Qb t n' th=t from if_neg d] at this
 have sqy:u.due≠n'->u1.sq=u.sq:=fun d=>by have:=y.sq;rwa[show Qb u n' th=u from if_neg d] at this
 have et:thing W H ss t1 u1 w'=th:=by
  have hth0:=hth
  unfold thing at hth ⊢
  simp only[ix,iy]
  have fa:∀{h h':Int}{o:Option (Bool×Bool)},Ta h o=th->(th.mir=true->h'=h)->Ta h' o=th:=fun {h h' o} e k=>by
   rcases w2 with q|⟨q,_⟩
   ·rw[q] at e ⊢
    rw[Tc e]
    rfl
   ·rw[k (by rw[q];rfl)]
    exact e
  by_cases bx:t.due=n'
  ·obtain⟨lx,mx⟩:=Ph wi.x nT bx x
   by_cases by':u.due=n'
   ·obtain⟨ly,_⟩:=Ph wi.y nT by' y
    rw[if_pos ⟨bx,by'⟩] at hth ⊢
    rw[lx,ly]
    exact hth
   ·rw[if_neg (fun z=>by' z.2),if_pos bx] at hth ⊢
    rw[lx,sqy by']
    exact fa hth mx
  ·rw[if_neg (fun z=>bx z.1),if_neg bx] at hth ⊢
   by_cases by':u.due=n'
   ·obtain⟨ly,my⟩:=Ph wi.y nT by' y
    rw[if_pos by'] at hth ⊢
    rw[ly,sqx bx]
    exact fa hth my
   ·rw[if_neg by'] at hth ⊢
    exact hth
 have px:=Mv wi.x dx1 dx2 hw' nT x
 have py:=Mv wi.y dy1 dy2 hw' nT y
 have epl:Q5 t1 u1 w'=Q5 t u n':=by
  unfold Q5
  rw[x.place h1 h2 (fun q=>wi'.x.mv1 q) hw',y.place h1 h2 (fun q=>wi'.y.mv1 q) hw',Tj wi.x nT,Tj wi.y nT]
 have ow:decide (w'=T')=false:=decide_eq_false (by lia)
 rcases w2 with q|⟨q,_⟩
 ·have hm:th.mir=false:=by rw[q];rfl
  rw[hm,if_neg (by decide)] at hl ⊢
  obtain⟨N,e⟩:=hb ha most _ _ tn' px py hl
  refine⟨N+1,?_⟩
  unfold wk
  rw[hf]
  dsimp only
  rw[ew,et,ow,q]
  rw[q] at e
  exact e
 ·have hm:th.mir=true:=by rw[q];rfl
  rw[hm,if_pos rfl,List.length_append,List.length_singleton] at hl
  rw[hm,if_pos rfl]
  obtain⟨N,e⟩:=hb ha most _ _ (tn'++[Q5 t u n']) px py (by rw[List.length_append,List.length_singleton];lia)
  refine⟨N+1,?_⟩
  unfold wk
  rw[hf]
  dsimp only
  rw[ew,et,ow,epl,decide_eq_true (show tn'.length<most by lia),q]
  rw[q] at e
  rw[List.reverse_append]
  rw[List.append_assoc] at e
  exact e
end
def Zem {w:Str}{p p':D}{l l':List D} (h:D.tup [.str w,p,.lst l]=.tup [.str (Str.ofString "end"),p',.lst l']):w=Str.ofString "end"/\p=p'/\l=l':=by
 injection h with h
 injection h with h1 h
 injection h1 with h1
 injection h with h2 h
 injection h with h3 h
 injection h3 with h3
 exact⟨h1,h2,h3⟩
section
variable {z:Nat}{TA TC now a b a3 n3 m3 k3:Int}{t:Tk}
def Zhm (wi:TI z TA now t)(hd:TA<=t.due)(hn:now<TA)(hpl:place t TA=nD n3 m3)(m1:1<m3)(h:t.h≠0):t.lap*(t.line*m3-n3)=t.h*(t.due-TA)*m3/\0<t.due-TA/\t.due-TA<t.lap/\0<m3/\n3/m3=t.sq/\n3%m3=n3-t.sq*m3:=by
 obtain⟨g1,L0⟩:=wi.mv1 h
 unfold place at hpl
 rw[if_neg h] at hpl
 obtain⟨p,q,ep,q0,e1,gq,_⟩:=Qx (t:=t.line*t.lap-t.h*(t.due-TA)) (b:=t.lap) L0
 rw[ep] at hpl
 obtain⟨rfl,rfl⟩:=Jj hpl
 have e2:t.lap*(t.line*q-p)=t.h*(t.due-TA)*q:=by grind
 have E1:t.due-TA<t.lap:=by
  rcases wi.mv with g|⟨_,_,_,g⟩
  ·exact absurd g.1 h
  ·lia
 have En:t.due-TA≠0:=fun w=>by
  rw[w,Int.mul_zero,Int.zero_mul] at e2
  have:=(Int.mul_eq_zero.mp e2).resolve_left (by lia)
  have:=I8 q0 gq (c:=t.line) (by lia)
  lia
 have E0:0<t.due-TA:=by lia
 refine⟨e2,E0,E1,q0,?_⟩
 generalize t.due-TA=E at *
 have bd:∀l:Int,t.lap*l=E*q->0<l/\l<q:=fun l e=>by
  constructor
  ·have:0<t.lap*l:=by rw[e];exact Int.mul_pos E0 q0
   exact Int.pos_of_mul_pos_right this L0
  ·have:t.lap*l<t.lap*q:=by rw[e];exact Int.mul_lt_mul_of_pos_right E1 q0
   exact Int.lt_of_mul_lt_mul_left this (by lia)
 unfold Tk.line Qy at e2
 rcases g1 with g|g
 ·rw[g,if_pos (by decide),Int.one_mul] at e2
  obtain⟨b1,b2⟩:=bd _ e2
  exact Dr (n:=p) (q:=t.sq) q0 (by rw[Int.add_mul] at b2;lia) (by lia)
 ·rw[g,if_neg (by decide)] at e2
  have e3:t.lap*(p-t.sq*q)=E*q:=by grind
  obtain⟨b1,b2⟩:=bd _ e3
  exact Dr (n:=p) (q:=t.sq) q0 (by lia) (by rw[Int.add_mul];lia)
def Zno {A L b TA q k3 l E:Int}(A0:A≠0)(L0:L≠0)(hl:L*A=b*TA)(k1:L*l=E*q):TA*(l*(b*k3))=q*A*k3*E:=by
 have e:L*(TA*(l*(b*k3)))=L*(q*A*k3*E):=by
  have e1:L*(TA*(l*(b*k3)))=(L*l)*(b*TA)*k3:=by grind
  rw[e1,k1,<-hl]
  grind
 exact Int.eq_of_mul_eq_mul_left L0 e
def Zin (hTA:0<TA)(wi:TI z TA now t)(hd:TA<=t.due)(hn:now<TA)(hpl:place t TA=nD n3 m3)(m1:1<m3)(l0:t.h=0->t.lap=0)(ha:t.h=0↔a3=0)(hs:a3≠0->sg a3 = -t.h)(hl:a3≠0->t.lap*a3.natAbs=b*TA)(eC:a3≠0->TC=m3*a3.natAbs*k3):
  Rv TC TA TA TC t (Jv n3 m3 a3 b TC):=by
 by_cases h:t.h=0
 ·have h3:=ha.mp h
  rw[Ae h3]
  unfold place at hpl
  rw[if_pos h] at hpl
  obtain⟨e1,e2⟩:=Jj hpl
  refine⟨?_,by show(0:Int) = -t.h;lia,?_,.inr ⟨h,e1.symm,e2.symm,rfl⟩⟩
  ·show n3/m3=t.sq
   rcases wi.mv with⟨_,_,g⟩|⟨g,_⟩
   ·rw[g,e1,e2]
   ·lia
  ·show TA*0=TC*t.lap
   rw[l0 h,Int.mul_zero,Int.mul_zero]
 ·have a0:a3≠0:=fun q=>h (ha.mpr q)
  obtain⟨e2,E0,E1,m0,f1,f2⟩:=Zhm wi hd hn hpl m1 h
  obtain⟨g,L0⟩:=wi.mv1 h
  have hs:=hs a0
  have hl:=hl a0
  have eC:=eC a0
  rw[Lg a0 m0 eC]
  have key:t.lap*Ya n3 m3 a3=(TA-t.due+t.lap)*m3:=by
   unfold Ya
   unfold Tk.line Qy at e2
   rw[f2]
   rcases g with g|g
   ·rw[g,if_pos (by decide),Int.one_mul] at e2
    rw[if_neg (by rcases Uc a0 with⟨z1,z2⟩|⟨z1,z2⟩<;>lia)]
    grind
   ·rw[g,if_neg (by decide)] at e2
    rw[if_pos (by rcases Uc a0 with⟨z1,z2⟩|⟨z1,z2⟩<;>lia)]
    grind
  refine⟨f1,hs,?_,.inl ⟨h,?_⟩⟩
  ·show TA*(b*(m3*k3))=TC*t.lap
   rw[eC]
   have e1:TA*(b*(m3*k3))=b*TA*(m3*k3):=by grind
   rw[e1,<-hl]
   grind
  ·show TA*(Ya n3 m3 a3*(b*k3))=TC*(TA-t.due+t.lap)
   rw[eC]
   exact Zno (by lia) (by lia) hl key
end
section
variable {T:Int}{W H:Nat}{ss:List Sd}{ps:List Po4}{most:Nat}{G:Tk->Tk->List D->Prop}
theorem Znp {g1 g2:Int}(hG:∀(t u:Tk) (tn:List D) (now:Int) (may:Bool),WS W H T now t u->K5 ps T t u=none->Xw (thing W H ss t u (Zl t u T)) (decide (Zl t u T=T)) may=none->G t u tn->G (Qb t (Zl t u T) (thing W H ss t u (Zl t u T))) (Qb u (Zl t u T) (thing W H ss t u (Zl t u T))) (if(thing W H ss t u (Zl t u T)).mir=true then tn++[Q5 t u (Zl t u T)] else tn)){pt:D}{l:List D}:∀(n:Nat) (t u:Tk) (tn:List D) (now:Int),WS W H T now t u->G t u tn->(t.h≠0->g1 ∣ t.due/\g1 ∣ t.lap)->(u.h≠0->g2 ∣ u.due/\g2 ∣ u.lap) ->
  wk W H ss ps T most n t u tn=some (.tup [.str (Str.ofString "end"),pt,.lst l])->∃(t1 u1:Tk) (now1:Int) (tl:List D),l=tn++tl/\WS W H T now1 t1 u1/\G t1 u1 l/\K5 ps T t1 u1=none/\Zl t1 u1 T=T/\pt=Q5 t1 u1 T /\
   t1.h=t.h*par 0 tl/\u1.h=u.h*par 1 tl/\t1.lap=t.lap/\u1.lap=u.lap/\(t1.h≠0->g1 ∣ t1.due/\g1 ∣ t1.lap)/\(u1.h≠0->g2 ∣ u1.due/\g2 ∣ u1.lap)
 |0,_,_,_,_,_,_,_,_,h=>by cases h
 |n+1,t,u,tn,now,wi,hb,dx,dy,h=>by
  unfold wk at h
  cases ha:K5 ps T t u with
  |some x=>
   obtain⟨p,xy⟩:=x
   rw[ha] at h
   injection h with h
   exact absurd (Zem h).1 (by decide)
  |none=>
   rw[ha] at h
   dsimp only at h
   cases hw:Xw (thing W H ss t u (Zl t u T)) (decide (Zl t u T=T)) (decide (tn.length<most)) with
   |some w=>
    rw[hw] at h
    injection h with h
    obtain⟨rfl,rfl,rfl⟩:=Zem h
    have no:Zl t u T=T:=by
     cases o:decide (Zl t u T=T) with
     |true=>exact of_decide_eq_true o
     |false=>rw[o] at hw;exact absurd rfl (Zec hw)
    exact⟨t,u,now,[],(List.append_nil _).symm,wi,hb,ha,no,by rw[no],(Int.mul_one _).symm,(Int.mul_one _).symm,rfl,rfl,dx,dy⟩
   |none=>
    rw[hw] at h
    dsimp only at h
    have nx:=wi.nxt
    have nT:Zl t u T<T:=by have:=of_decide_eq_false (Kk hw).1;lia
    have tl:∃tl:List D,(if(thing W H ss t u (Zl t u T)).mir=true then tn++[Q5 t u (Zl t u T)] else tn)=tn++tl/\(Qb t (Zl t u T) (thing W H ss t u (Zl t u T))).h=t.h*par 0 tl/\(Qb u (Zl t u T) (thing W H ss t u (Zl t u T))).h=u.h*par 1 tl:=by
     cases hm:(thing W H ss t u (Zl t u T)).mir with
     |false=>exact⟨[],by rw[List.append_nil];rfl,by rw[Mr hm];exact(Int.mul_one _).symm,by rw[Mr hm];exact(Int.mul_one _).symm⟩
     |true=>
      have k:=wi.turn nT hm
      exact⟨[Q5 t u (Zl t u T)],rfl,k.1,k.2⟩
    have hb':=hG t u tn now _ wi ha hw hb
    obtain⟨tl,etl,phx,phy⟩:=tl
    rw[etl] at h hb'
    obtain⟨t1,u1,now1,tl1,i1,i2,i3,i4,i5,i6,i7,i8,i9,i10,i11,i12⟩:=Znp hG n _ _ _ _ (wi.step hw) hb' (fun q=>Dp dx (pass_h.mp q)) (fun q=>Dp dy (pass_h.mp q)) h
    exact⟨t1,u1,now1,tl++tl1,by rw[i1,List.append_assoc],i2,i3,i4,i5,i6,by rw[i7,phx,Rp,Int.mul_assoc],by rw[i8,phy,Rp,Int.mul_assoc],by rw[i9,Y6],by rw[i10,Y6],i11,i12⟩
end
def Am (s:Po4)(tn:List D):Po4:=⟨s.a * -1*par 0 tn,s.b,s.c * -1*par 1 tn,s.d⟩
def W9 {a e:Int}(he:e=1\/e = -1):(a * -1*e).natAbs=a.natAbs/\(a * -1*e=0↔a=0):=by
 rcases he with q|q<;>rw[q]<;>lia
def Zio {a e:Int}(he:e=1\/e = -1)(h:a≠0):sg (a * -1*e) = -(sg a*e):=by
 have h':a * -1*e≠0:=fun z=>h ((W9 he).2.mp z)
 rcases Uc h with⟨q,r⟩|⟨q,r⟩<;>rcases Uc h' with⟨q',r'⟩|⟨q',r'⟩<;>rcases he with g|g<;>rw[g] at r' q' ⊢<;>rw[q,q']<;>lia
def Znq {s:Po4}(hs:StOk s)(tn:List D):StOk (Am s tn):=by
 obtain⟨a1,a2⟩:=W9 (a:=s.a) (Y8 0 tn)
 obtain⟨c1,c2⟩:=W9 (a:=s.c) (Y8 1 tn)
 have gg:∀{x y z:Int},x.natAbs=y.natAbs->Int.gcd y z=1->Int.gcd x z=1:=fun {x y z} h g=>by
  unfold Int.gcd at g ⊢
  rw[h]
  exact g
 refine⟨⟨hs.x.pos,by show(s.a * -1*par 0 tn).natAbs<=_;rw[a1];exact hs.x.top,hs.x.bot⟩,⟨hs.y.pos,by show(s.c * -1*par 1 tn).natAbs<=_;rw[c1];exact hs.y.top,hs.y.bot⟩,gg a1 hs.gx,gg c1 hs.gy,?_,?_,?_⟩
 ·rcases hs.n0 with z|z
  ·exact .inl fun q=>z (a2.mp q)
  ·exact .inr fun q=>z (c2.mp q)
 ·show((s.a * -1*par 0 tn).natAbs:Int)<=_
  rw[a1];exact hs.lx
 ·show((s.c * -1*par 1 tn).natAbs:Int)<=_
  rw[c1];exact hs.ly
def Zen {z:Nat}{n m a b T k:Int}(hp:PB z n m)(hb:0<b)(hk:0<k)(e:a≠0->T=m*a.natAbs*k)(h:(Jv n m a b T).h≠0):(Jv n m a b T).due<(Jv n m a b T).lap:=by
 have a0:a≠0:=fun q=>h (mk_hz.mpr q)
 rw[Lg a0 hp.fr.pos (e a0)]
 obtain⟨l0,l1⟩:=Af (a:=a) hp
 show Ya n m a*(b*k)<b*(m*k)
 have:=Int.mul_lt_mul_of_pos_right l1 (Int.mul_pos hb hk)
 rw[show b*(m*k)=m*(b*k) by grind]
 exact this
def Tk.num (t:Tk)(w:Int):Int:=t.line*t.lap-t.h*(t.due-w)
structure Fx (t0 t:Tk):Prop where
 lap:t.lap=t0.lap
 h1:t.h≠0->t0.h*t0.h=1
 ex:t.h≠0->∃c:Int,∀w,t.num w=t.h*t0.h*t0.num w+2*c*t.lap
def Znr {z:Nat}{T now:Int}{t:Tk}(h:TI z T now t):Fx t t:=⟨rfl,fun q=>by rcases(h.mv1 q).1 with e|e<;>rw[e]<;>rfl,fun q=>⟨0,fun w=>by
 have:t.h*t.h=1:=by rcases(h.mv1 q).1 with e|e<;>rw[e]<;>rfl
 rw[this];lia⟩⟩
def Oh {z:Nat}{T now n':Int}{t0 t:Tk}{th:Th}(ti:TI z T now t)(f:Fx t0 t):Fx t0 (Qb t n' th):=by
 refine⟨by rw[Y6];exact f.lap,fun q=>f.h1 (pass_h.mp q),fun q=>?_⟩
 have q0:=pass_h.mp q
 obtain⟨c,e⟩:=f.ex q0
 obtain⟨g,_⟩:=ti.mv1 q0
 rw[Y6]
 unfold Qb
 by_cases d:t.due=n'
 ·rw[if_pos d]
  cases th.mir with
  |true=>
   rw[if_pos rfl]
   refine⟨t.line-c,fun w=>?_⟩
   have e1:=e w
   have el:=Wn (sq:=t.sq) g
   unfold Tk.num Tk.line at *
   dsimp only
   rw[el]
   generalize Qy t.sq t.h=L at *
   generalize Qy t0.sq t0.h*t0.lap-t0.h*(t0.due-w)=X at *
   grind
  |false=>
   rw[if_neg (by decide)]
   refine⟨c,fun w=>?_⟩
   have e1:=e w
   have el:Qy (t.sq+t.h) t.h=Qy t.sq t.h+t.h:=by unfold Qy;split<;>lia
   unfold Tk.num Tk.line at *
   dsimp only
   rw[el]
   generalize Qy t.sq t.h=L at *
   generalize Qy t0.sq t0.h*t0.lap-t0.h*(t0.due-w)=X at *
   grind
 ·rw[if_neg d]
  exact⟨c,e⟩
def oneW (d:D):Prop:=Lf (Zij 0 d)=!Lf (Zij 1 d)
theorem WS.oneW {W H:Nat}{T now:Int}{t u:Tk}{ss:List Sd}(h:WS W H T now t u)(hl:Zl t u T<T)(hm:(thing W H ss t u (Zl t u T)).mir=true):oneW (Q5 t u (Zl t u T)):=by
 obtain⟨n1,n2,n3,n4⟩:=h.nxt
 have kx:t.due=Zl t u T->t.h≠0:=fun z q=>by rcases h.x.mv with a|a;lia;lia
 have ky:u.due=Zl t u T->u.h≠0:=fun z q=>by rcases h.y.mv with a|a;lia;lia
 show Lf (place t (Zl t u T))=!Lf (place u (Zl t u T))
 generalize hth:thing W H ss t u (Zl t u T)=th at *
 unfold thing at hth
 split at hth
 ·split at hth<;>rw[<-hth] at hm<;>cases hm
 ·rename_i hb
  by_cases hx:t.due=Zl t u T
  ·have hy:u.due≠Zl t u T:=fun q=>hb ⟨hx,q⟩
   rw[h.x.whole (kx hx) hx,h.y.broken (Int.le_of_lt n1) n4 hy (fun _=>n1)]
   rfl
  ·rw[if_neg hx] at hth
   by_cases hy:u.due=Zl t u T
   ·rw[h.y.whole (ky hy) hy,h.x.broken (Int.le_of_lt n1) n3 hx (fun _=>n1)]
    rfl
   ·rw[if_neg hy] at hth
    rw[<-hth] at hm
    cases hm
def Dy {z:Nat}{n m a b T k n3 m3 e:Int}{t:Tk}(hm:0<m)(hb:0<b)(m0:0<m3)(hk:0<k)(a0:a≠0)(hT:T=m*a.natAbs*k)(hp:PB z n m)(f:Fx (Jv n m a b T) t)(hh:t.h=(Jv n m a b T).h*e)(he:e=1\/e = -1)(hpl:place t T=nD n3 m3):∃c:Int,n3*m*b=m3*(e*(n*b+a*m)+2*c*(m*b)):=by
 have e0:=Lg (n:=n) (b:=b) a0 hm hT
 have pl0:=Td (n:=n) (b:=b) (T:=T) hp hb (fun _=>⟨k,hk,hT⟩)
 have L0:0<b*(m*k):=Int.mul_pos hb (Int.mul_pos hm hk)
 have sg1:sg a*sg a=1:=by rcases Uc a0 with⟨q,_⟩|⟨q,_⟩<;>rw[q]<;>rfl
 have sga:sg a*a.natAbs=a:=by rcases Uc a0 with⟨q,r⟩|⟨q,r⟩<;>rw[q]<;>lia
 have h0:(Jv n m a b T).h=sg a:=by rw[e0]
 have l0:(Jv n m a b T).lap=b*(m*k):=by rw[e0]
 have hne:t.h≠0:=by rw[hh,h0];rcases Uc a0 with⟨q,_⟩|⟨q,_⟩<;>rcases he with z|z<;>rw[q,z]<;>decide
 obtain⟨c,ec⟩:=f.ex hne
 have ec:=ec T
 have lt:=f.lap
 have n0:(Jv n m a b T).num 0*m=n*(Jv n m a b T).lap:=by
  unfold place at pl0
  rw[if_neg (by rw[h0];rcases Uc a0 with⟨q,_⟩|⟨q,_⟩<;>lia)] at pl0
  obtain⟨p,q,ep,q0,e1,gq,_⟩:=Qx (t:=(Jv n m a b T).line*(Jv n m a b T).lap-(Jv n m a b T).h*((Jv n m a b T).due-0)) (b:=(Jv n m a b T).lap) (by rw[l0];exact L0)
  rw[ep] at pl0
  obtain⟨rfl,rfl⟩:=Jj pl0
  unfold Tk.num
  exact e1.symm
 have nT:(Jv n m a b T).num T=(Jv n m a b T).num 0+sg a*T:=by unfold Tk.num;rw[h0];grind
 have nt:t.num T*m3=n3*t.lap:=by
  unfold place at hpl
  rw[if_neg hne] at hpl
  obtain⟨p,q,ep,q0,e1,gq,_⟩:=Qx (t:=t.line*t.lap-t.h*(t.due-T)) (b:=t.lap) (by rw[lt,l0];exact L0)
  rw[ep] at hpl
  obtain⟨rfl,rfl⟩:=Jj hpl
  unfold Tk.num
  exact e1.symm
 rw[hh,h0,show sg a*e*sg a=e by rw[show sg a*e*sg a=sg a*sg a*e by grind,sg1,Int.one_mul]] at ec
 refine⟨c,?_⟩
 rw[lt] at ec nt
 rw[l0] at n0 ec nt
 generalize (Jv n m a b T).num 0=X at *
 rw[nT] at ec
 have key:(b*(m*k))*(n3*m*b)=(b*(m*k))*(m3*(e*(n*b+a*m)+2*c*(m*b))):=by
  have k1:(b*(m*k))*(n3*m*b)=(t.num T*m3)*(m*b):=by rw[nt];grind
  have k2:sg a*T=a*(m*k):=by
   have:∀x y:Int,x*(m*y*k)=x*y*(m*k):=fun x y=>by grind
   rw[hT,this,sga]
  rw[k1,ec,k2]
  have k3:X*m*(b*m3*e)=n*(b*(m*k))*(b*m3*e):=by rw[n0]
  grind
 exact Int.eq_of_mul_eq_mul_left (by lia) key
section
variable {W H:Nat}{ss:List Sd}{ps:List Po4}{p s o:Po4}{m:Nat}{q:Nj}
def PIn.gt {z:Nat}{a b:Int}(h:PIn z a b):1<b:=by
 have:=h.fr.pos
 rcases Int.lt_or_le 1 b with z|z
 ·exact z
 ·exact absurd (show a*b=a by rw[show b=1 by lia,Int.mul_one]) (h.nw a)
def Zns (hW:W<=8)(hH:H<=8)(hl:ss.length<=400)(hp:∀p∈ps,PtOk W H p)(e2:∀x y:Int,look q [.inl x,.inl y]=look [] [.inl x,.inl y]++(ps.filter (Le x y)).map Po4.D)(ho:PtOk W H p)(oo:PtOk W H o)(hs:StOk s)(hm:m<=900){tn:List D}
  (h:wD (Yf W H ss) q p.D s.D (.int m)=.ok (.tup [.str (Str.ofString "end"),o.D,.lst tn])):
  wD (Yf W H ss) q o.D (Am s tn).D (.int m)=.ok (.tup [.str (Str.ofString "end"),p.D,.lst tn.reverse])/\(∀d∈tn,W8 d/\oneW d)/\tn.length<=m /\
  (s.a≠0->∃c:Int,o.a*p.b*s.b=o.b*(par 0 tn*(p.a*s.b+s.a*p.b)+2*c*(p.b*s.b)))/\(s.c≠0->∃c:Int,o.c*p.d*s.d=o.d*(par 1 tn*(p.c*s.d+s.c*p.d)+2*c*(p.d*s.d))):=by
 obtain⟨dA,fA,kA,wsA,eXA,eYA,tA,w,pt,tn',qA,v1,v2,v3⟩:=Fp (ss:=ss) hW hH hl hp e2 ho.st hs hm
 rw[h] at fA
 injection fA with fA
 subst fA
 obtain⟨rfl,rfl,rfl⟩:=Zem qA.symm
 have px:=ho.x.fr.pos
 have py:=ho.y.fr.pos
 generalize hTA:wT p s=TA at *
 have kx:0<p.d*m1 s.c:=Int.mul_pos py (Ms s.c).1
 have ky:0<p.b*m1 s.a:=Int.mul_pos px (Ms s.a).1
 have tC:0<wT o (Am s tn'):=by
  show 0<1*o.b*m1 (Am s tn').a*o.d*m1 (Am s tn').c
  rw[Int.one_mul]
  exact Int.mul_pos (Int.mul_pos (Int.mul_pos oo.x.fr.pos (Ms _).1) oo.y.fr.pos) (Ms _).1
 have hbs:=Zel (ss:=ss) (ps:=ps) tC tA (Int.mul_comm _ _) wsA (Zen ho.x.pb hs.x.pos kx eXA) (Zen ho.y.pb hs.y.pos ky eYA)
 have epl:Q5 (Jv p.a p.b s.a s.b TA) (Jv p.c p.d s.c s.d TA) 0=p.D:=by
  unfold Q5
  rw[Td ho.x.pb hs.x.pos fun z=>⟨_,kx,eXA z⟩,Td ho.y.pb hs.y.pos fun z=>⟨_,ky,eYA z⟩]
  rfl
 rw[epl] at hbs
 obtain⟨t,u,now,tl,i1,i2,⟨i3,f3,g3,o3⟩,i4,i5,i6,i7,i8,i9,i10,i11,i12⟩:=Znp (W:=W) (H:=H) (ss:=ss) (ps:=ps) (most:=m) (T:=TA) (G:=fun t u tn=>Bk (wT o (Am s tn')) TA TA (wT o (Am s tn')) W H ss ps p.D t u tn/\Fx (Jv p.a p.b s.a s.b TA) t/\Fx (Jv p.c p.d s.c s.d TA) u/\∀d∈tn,oneW d) (g1:=p.d*m1 s.c) (g2:=p.b*m1 s.a)
  (fun t u tn now may wi ha hw ⟨a,b,c,d⟩=>by
   refine⟨Zhl tC tA (Int.mul_comm _ _) wi ha hw a,Oh wi.x b,Oh wi.y c,fun e he=>?_⟩
   have nx:=wi.nxt
   have nT:Zl t u TA<TA:=by have:=of_decide_eq_false (Kk hw).1;lia
   cases hmm:(thing W H ss t u (Zl t u TA)).mir with
   |false=>rw[hmm,if_neg (by decide)] at he;exact d e he
   |true=>
    rw[hmm,if_pos rfl] at he
    rcases List.mem_append.mp he with z|z
    ·exact d e z
    ·rw[List.mem_singleton.mp z];exact wi.oneW nT hmm) 81 _ _ [] 0 wsA ⟨hbs,Znr wsA.x,Znr wsA.y,fun _ z=>by cases z⟩
  (fun h=>Zeh px (fun z=>eXA z) fun q=>h (mk_hz.mpr q)) (fun h=>Zeh py (fun z=>eYA z) fun q=>h (mk_hz.mpr q)) kA
 rw[List.nil_append] at i1
 subst i1
 have pl1:place t TA=nD o.a o.b:=by unfold Q5 at i6;injection i6 with z;injection z with z1 z2;exact z1.symm
 have pl2:place u TA=nD o.c o.d:=by unfold Q5 at i6;injection i6 with z;injection z with _ z;injection z with z1 z2;exact z1.symm
 have q1:TA<=t.due:=by unfold Zl at i5;lia
 have q2:TA<=u.due:=by unfold Zl at i5;lia
 have LA:=@Zeg p.a p.b s.a s.b TA _ px eXA
 have LC:=@Zeg p.c p.d s.c s.d TA _ py eYA
 have hax:t.h=0↔s.a=0:=by
  rw[i7,<-@mk_hz p.a p.b s.a s.b TA]
  rcases Y8 0 tn' with z|z<;>rw[z]<;>lia
 have hay:u.h=0↔s.c=0:=by
  rw[i8,<-@mk_hz p.c p.d s.c s.d TA]
  rcases Y8 1 tn' with z|z<;>rw[z]<;>lia
 have ax:=W9 (a:=s.a) (Y8 0 tn')
 have ay:=W9 (a:=s.c) (Y8 1 tn')
 obtain⟨dC,fC,kC,_,eXC,eYC,_⟩:=Fp (ss:=ss) (p:=o) (most:=m) hW hH hl hp e2 oo.st (Znq hs tn') hm
 have rx:Rv (wT o (Am s tn')) TA TA (wT o (Am s tn')) t (Jv o.a o.b (Am s tn').a (Am s tn').b (wT o (Am s tn'))):=
  Zin tA i2.x q1 i2.n1 pl1 oo.x.gt (fun z=>by rw[i9];exact LA.1 (hax.mp z)) (hax.trans ax.2.symm) (fun z=>by
   have z':s.a≠0:=fun q=>z (ax.2.mpr q)
   show sg (s.a * -1*par 0 tn')=_
   rw[Zio (Y8 0 tn') z',i7,(LA.2 z').2]) (fun z=>by
   have z':s.a≠0:=fun q=>z (ax.2.mpr q)
   show t.lap*((s.a * -1*par 0 tn').natAbs:Int)=_
   rw[ax.1,i9]
   exact(LA.2 z').1) eXC
 have ry:Rv (wT o (Am s tn')) TA TA (wT o (Am s tn')) u (Jv o.c o.d (Am s tn').c (Am s tn').d (wT o (Am s tn'))):=
  Zin tA i2.y q2 i2.n1 pl2 oo.y.gt (fun z=>by rw[i10];exact LC.1 (hay.mp z)) (hay.trans ay.2.symm) (fun z=>by
   have z':s.c≠0:=fun q=>z (ay.2.mpr q)
   show sg (s.c * -1*par 1 tn')=_
   rw[Zio (Y8 1 tn') z',i8,(LC.2 z').2]) (fun z=>by
   have z':s.c≠0:=fun q=>z (ay.2.mpr q)
   show u.lap*((s.c * -1*par 1 tn').natAbs:Int)=_
   rw[ay.1,i10]
   exact(LC.2 z').1) eYC
 obtain⟨N,eN⟩:=i3 i4 m _ _ [] rx ry (by simpa using v3)
 have h1:=Ro _ (N+81) _ _ _ _ (by lia) eN
 have h2:=Ro _ (N+81) _ _ _ _ (by lia) kC
 rw[h1] at h2
 injection h2 with h2
 subst h2
 refine⟨fC,fun d hd=>⟨v2 d hd,o3 d hd⟩,v3,fun z=>?_,fun z=>?_⟩
 ·exact Dy px hs.x.pos oo.x.fr.pos kx z (eXA z) ho.x.pb f3 i7 (Y8 0 tn') pl1
 ·exact Dy py hs.y.pos oo.y.fr.pos ky z (eYA z) ho.y.pb g3 i8 (Y8 1 tn') pl2
def Dz {n m n3 m3 t a b e:Int}{R:Nat}{ts ts':List Int}(hm:0<m)(h3:0<m3)(T1:Tops n m n3 m3 R ts)(T2:Tops n3 m3 n m R ts')(he:e=1\/e = -1)(hb:0<b)(hlow:Yw t (m*m3)=nD a b)(h:t∈ts)(hc:a≠0->∃c:Int,n3*m*b=m3*(e*(n*b+a*m)+2*c*(m*b))):-(e*t)∈ts'/\Yw (-(e*t)) (m3*m)=nD (a * -1*e) b:=by
 have B0:0<m*m3:=Int.mul_pos hm h3
 have B1:0<m3*m:=Int.mul_pos h3 hm
 obtain⟨p,r,ep,r0,mm,g,_⟩:=Qx (t:=t) B0
 rw[hlow] at ep
 obtain⟨rfl,rfl⟩:=Jj ep
 have g':Int.gcd (a * -1*e) b=1:=by
  unfold Int.gcd at g ⊢
  rw[(W9 he).1]
  exact g
 constructor
 ·obtain⟨x,y,z⟩:=(T1.mem t).mp h
  rw[T2.mem,Int.mul_comm m3 m]
  refine⟨by rcases he with q|q<;>rw[q]<;>lia,by rcases he with q|q<;>rw[q]<;>lia,?_⟩
  by_cases a0:a=0
  ·have t0:t=0:=by
    rw[a0,Int.zero_mul] at mm
    rcases Int.mul_eq_zero.mp mm.symm with w|w
    ·exact w
    ·lia
   subst t0
   rw[Int.mul_zero]
   rcases z with⟨k,hk⟩|⟨k,hk⟩
   ·exact .inl ⟨-k,by rw[Int.mul_neg];lia⟩
   ·exact .inr ⟨k,by lia⟩
  ·obtain⟨c,hc⟩:=hc a0
   have e1:b*(n3*m)=b*(e*(n*m3+t)+2*c*(m*m3)):=by grind
   have e2:=Int.eq_of_mul_eq_mul_left (by lia) e1
   rcases he with q|q<;>rw[q] at e2 ⊢
   ·exact .inl ⟨c,by rw[show 2*(m*m3)*c=2*c*(m*m3) by grind];lia⟩
   ·exact .inr ⟨c,by rw[show 2*(m*m3)*c=2*c*(m*m3) by grind];lia⟩
 ·rw[<-Nh hb g']
  refine Kj B1 hb ?_
  rcases he with q|q<;>rw[q]<;>grind
end
abbrev Pi:=(Int×Int)×List D
def Wp (a b:Int×Int):Bool:=decide (a.1<b.1)||(decide (a.1=b.1)&&decide (a.2<b.2))
def ltT_iff {a b:Int×Int}:Wp a b=true↔a.1<b.1\/(a.1=b.1/\a.2<b.2):=by
 unfold Wp
 rw[Bool.or_eq_true,Bool.and_eq_true,decide_eq_true_iff,decide_eq_true_iff,decide_eq_true_iff]
def Zhn {a b:Int×Int}(h:a≠b)(n:¬Wp a b=true):Wp b a=true:=by
 rw[ltT_iff] at n ⊢
 have:¬(a.1=b.1/\a.2=b.2):=fun z=>h (Prod.ext z.1 z.2)
 lia
abbrev Zip (L:List Pi):Prop:=L.Pairwise fun a b=>Wp a.1 b.1=true
theorem Oi (r:Pi):∀L:List Pi,Zip L->(∀x∈L,x.1≠r.1)->Zip (Uw (L.countP fun x=>Wp x.1 r.1) r L)/\(Uw (L.countP fun x=>Wp x.1 r.1) r L).Perm (r::L)
 |[],_,_=>⟨List.pairwise_singleton _ _,List.Perm.refl _⟩
 |x::xs,h,hn=>by
  obtain⟨h1,h2⟩:=List.pairwise_cons.mp h
  by_cases q:Wp x.1 r.1=true
  ·obtain⟨i1,i2⟩:=Oi r xs h2 fun y hy=>hn y (.tail _ hy)
   rw[List.countP_cons_of_pos (p:=fun x:Pi=>Wp x.1 r.1) q]
   have e:Uw (List.countP (fun x=>Wp x.1 r.1) xs+1) r (x::xs)=x::Uw (List.countP (fun x=>Wp x.1 r.1) xs) r xs:=rfl
   rw[e]
   refine⟨List.pairwise_cons.mpr ⟨fun y hy=>?_,i1⟩,(i2.cons x).trans (List.Perm.swap r x xs)⟩
   rcases List.mem_cons.mp (i2.mem_iff.mp hy) with rfl|z
   ·exact q
   ·exact h1 y z
  ·have rx:Wp r.1 x.1=true:=Zhn (hn x (.head _)) q
   have c0:List.countP (fun y=>Wp y.1 r.1) (x::xs)=0:=by
    refine List.countP_eq_zero.mpr fun y hy z=>?_
    rcases List.mem_cons.mp hy with rfl|hy
    ·exact q z
    ·have a:=h1 y hy
     rw[ltT_iff] at a z rx
     lia
   rw[c0]
   refine⟨List.pairwise_cons.mpr ⟨fun y hy=>?_,h⟩,List.Perm.refl _⟩
   rcases List.mem_cons.mp hy with rfl|hy
   ·exact rx
   ·have a:=h1 y hy
    rw[ltT_iff] at a rx ⊢
    lia
theorem Zeo:∀{A B:List Pi},Zip A->Zip B->(∀x,x∈A↔x∈B)->A=B
 |[],[],_,_,_=>rfl
 |[],b::B,_,_,h=>by have:=(h b).mpr (.head _);cases this
 |a::A,[],_,_,h=>by have:=(h a).mp (.head _);cases this
 |a::A,b::B,hA,hB,h=>by
  obtain⟨a1,a2⟩:=List.pairwise_cons.mp hA
  obtain⟨b1,b2⟩:=List.pairwise_cons.mp hB
  have irr:∀x y:Pi,Wp x.1 y.1=true->Wp y.1 x.1=true->False:=fun x y p q=>by rw[ltT_iff] at p q;lia
  have e:a=b:=by
   rcases List.mem_cons.mp ((h a).mp (.head _)) with z|z
   ·exact z
   ·rcases List.mem_cons.mp ((h b).mpr (.head _)) with w|w
    ·exact w.symm
    ·exact(irr a b (a1 b w) (b1 a z)).elim
  subst e
  have na:∀{C:List Pi},(∀y∈C,Wp a.1 y.1=true)->a ∉ C:=fun hC z=>irr a a (hC a z) (hC a z)
  refine congrArg _ (Zeo a2 b2 fun x=>?_)
  constructor
  ·intro z
   rcases List.mem_cons.mp ((h x).mp (.tail _ z)) with w|w
   ·rw[w] at z;exact(na a1 z).elim
   ·exact w
  ·intro z
   rcases List.mem_cons.mp ((h x).mpr (.tail _ z)) with w|w
   ·rw[w] at z;exact(na b1 z).elim
   ·exact w
def Zep {x y b:Int}(hb:0<b)(hb':b<=1000000)(hx:-(14*b)<=x/\x<=14*b)(hy:-(14*b)<=y/\y<=14*b):K1 [Yw x b,Yw y b]=.ok (.im (.bl (decide (x<y))))/\D.eq (Yw x b) (Yw y b)=decide (x=y)/\(Yw x b).dep<=60:=by
 obtain⟨p,q,e1,q0,m1,g1,a1,a2⟩:=Qx (t:=x) hb
 obtain⟨p',q',e2,q0',m2,g2,a3,a4⟩:=Qx (t:=y) hb
 rw[e1,e2]
 have cr:p*q'<p'*q↔x<y:=by
  have k1:b*(p*q')=(q*q')*x:=by rw[show b*(p*q')=p*b*q' by grind,m1];grind
  have k2:b*(p'*q)=(q*q')*y:=by rw[show b*(p'*q)=p'*b*q by grind,m2];grind
  rw[<-Int.mul_lt_mul_left hb,k1,k2,Int.mul_lt_mul_left (Int.mul_pos q0 q0')]
 refine⟨?_,?_,by simp[nD,D.dep,D.deps]⟩
 ·refine(Zdo _ _ _ _).trans (Z7 (Z1 (Zm (Zm (Zq rfl rfl (Yk _ _)) (Zq rfl rfl (Yo _ _ _)) (gT (W6 (by lia) (by lia)) (W6 (by lia) (by lia)))) (Zm (Zq rfl rfl (Yk _ _)) (Zq rfl rfl (Yo _ _ _)) (gT (W6 (by lia) (by lia)) (W6 (by lia) (by lia)))) ?_)))
  show M.ok (D.bl (decide (p*q'<p'*q)))=_
  rw[decide_eq_decide.mpr cr]
 ·have eq:(nD p q=nD p' q')↔x=y:=by
   constructor
   ·intro h
    obtain⟨rfl,rfl⟩:=Jj h
    rw[m1] at m2
    exact Int.eq_of_mul_eq_mul_right (by lia) m2
   ·intro h
    rw[<-e1,<-e2,h]
  rw[Bool.eq_iff_iff,decide_eq_true_iff,<-eq]
  simp only[nD,D.eq,D.eqs,Bool.and_true,Bool.and_eq_true,decide_eq_true_iff,beq_iff_eq]
  constructor
  ·rintro⟨rfl,rfl⟩;rfl
  ·intro h;injection h with h;injection h with h1 h;injection h1 with h1;injection h with h2 _;injection h2 with h2;exact⟨h1,h2⟩
structure RB (bx by':Int) (r:Pi):Prop where
 x:-(14*bx)<=r.1.1/\r.1.1<=14*bx
 y:-(14*by')<=r.1.2/\r.1.2<=14*by'
section
variable {bx by':Int}
noncomputable def cT:Zf->M Bool:=(DL.tO (DL.tB (Z5 K1 (Zc 4[0]! (Zc 2[0]! Zk)))) (DL.tA (DL.tB (Zp Jq 4[0]! 2[0]!)) (DL.tB (Z5 K1 (Zc 4[1]! (Zc 2[1]! Zk))))))
noncomputable def oB:Zf->M O:=(Zx (Z4 3 ↑0) (Zx (Zgo 1 4 3 cT (Zp Qe (Zd 3) ↑1)) (Zgm 1 (Zd 3) (Zd 2))))
theorem Ft (hx:0<bx)(hx':bx<=1000000)(hy:0<by')(hy':by'<=1000000)(o0 o1:Option S){r:Pi}(hr:RB bx by' r):∀(L:List Pi) (k:Nat) (v4:Option S),(∀x∈L,RB bx by' x)->∃w4:Option S,
  Tx 4 3 cT (Zp Qe (Zd 3) ↑1) (L.map (Qs bx by')) [o0,o1,Io (Qs bx by' r),Jo (k:Int),v4]=.ok [o0,o1,Io (Qs bx by' r),Jo ((k+L.countP (fun x=>Wp x.1 r.1):Nat):Int),w4]
 |[],k,v4,_=>⟨v4,rfl⟩
 |x::L,k,v4,hL=>by
  have hx0:=hL x (.head _)
  obtain⟨a1,a2,a3⟩:=Zep hx hx' hx0.x hr.x
  obtain⟨b1,_⟩:=Zep hy hy' hx0.y hr.y
  have c:cT [o0,o1,Io (Qs bx by' r),Jo (k:Int),Io (Qs bx by' x)]=.ok (Wp x.1 r.1):=by
   refine Zkx (Qn (Z3 (aC (Zq rfl rfl (Yk _ _)) (Law.a1 (Zq rfl rfl (Yk _ _)))) a1 rfl)) (Zky (Qn (Zm (Zq rfl rfl (Yk _ _)) (Zq rfl rfl (Yk _ _)) ?_)) (Qn (Z3 (aC (Zq rfl rfl (Yo _ _ _)) (Law.a1 (Zq rfl rfl (Yo _ _ _)))) b1 rfl)))
   rw[Jx a3,a2]
  cases q:Wp x.1 r.1 with
  |true=>
   rw[q] at c
   obtain⟨w4,e⟩:=Ft hx hx' hy hy' o0 o1 hr L (k+1) (Io (Qs bx by' x)) fun y hy=>hL y (.tail _ hy)
   refine⟨w4,?_⟩
   rw[List.map_cons,List.countP_cons_of_pos (p:=fun x:Pi=>Wp x.1 r.1) q]
   unfold Tx
   rw[show [o0,o1,Io (Qs bx by' r),Jo (k:Int),v4].set 4 (some (.im (Qs bx by' x)))=[o0,o1,Io (Qs bx by' r),Jo (k:Int),Io (Qs bx by' x)] from rfl,c]
   rw[show k+(List.countP (fun x=>Wp x.1 r.1) L+1)=k+1+List.countP (fun x=>Wp x.1 r.1) L by lia]
   exact e
  |false=>
   rw[q] at c
   obtain⟨w4,e⟩:=Ft hx hx' hy hy' o0 o1 hr L k (Io (Qs bx by' x)) fun y hy=>hL y (.tail _ hy)
   refine⟨w4,?_⟩
   rw[List.map_cons,List.countP_cons_of_neg (p:=fun x:Pi=>Wp x.1 r.1) (by rw[q];decide)]
   unfold Tx
   rw[show [o0,o1,Io (Qs bx by' r),Jo (k:Int),v4].set 4 (some (.im (Qs bx by' x)))=[o0,o1,Io (Qs bx by' r),Jo (k:Int),Io (Qs bx by' x)] from rfl,c]
   exact e
def Zho {α β:Type}(f:α->β)(k:Nat)(y:α)(l:List α):(Uw k y l).map f=Uw k (f y) (l.map f):=by
 unfold Uw
 rw[List.map_append,List.map_cons,List.map_take,List.map_drop]
theorem Zeq (hx:0<bx)(hx':bx<=1000000)(hy:0<by')(hy':by'<=1000000)(o0:Option S):∀(L A:List Pi) (v2 v3 v4:Option S),(∀x∈L,RB bx by' x)->(∀x∈A,RB bx by' x)->Zip A->(L.Pairwise fun a b=>a.1≠b.1)->(∀x∈L,∀y∈A,y.1≠x.1)->A.length+L.length<=1000->∃(A':List Pi) (w2 w3 w4:Option S),Zip A'/\A'.Perm (L++A) /\
  Xd (X4 2) oB (L.map (Qs bx by')) [o0,some (.ow (A.map (Qs bx by'))),v2,v3,v4]=.ok (.nx [o0,some (.ow (A'.map (Qs bx by'))),w2,w3,w4])
 |[],A,v2,v3,v4,_,_,hA,_,_,_=>⟨A,v2,v3,v4,hA,List.Perm.refl _,rfl⟩
 |r::L,A,v2,v3,v4,hL,hAb,hA,hd,hdA,hl=>by
  obtain⟨d1,d2⟩:=List.pairwise_cons.mp hd
  rw[List.length_cons] at hl
  obtain⟨w4,e⟩:=Ft hx hx' hy hy' o0 (some (.ow (A.map (Qs bx by')))) (hL r (.head _)) A 0 v4 hAb
  rw[Nat.zero_add] at e
  obtain⟨i1,i2⟩:=Oi r A hA fun y hy=>hdA r (.head _) y hy
  have hc:A.countP (fun x=>Wp x.1 r.1)<=A.length:=List.countP_le_length
  obtain⟨A',w2,w3,w4',j1,j2,j3⟩:=Zeq hx hx' hy hy' o0 L (Uw (A.countP fun x=>Wp x.1 r.1) r A) (Io (Qs bx by' r)) (Jo ((A.countP (fun x=>Wp x.1 r.1):Nat):Int)) w4 (fun y hy=>hL y (.tail _ hy)) (fun y hy=>by
   rcases List.mem_cons.mp (i2.mem_iff.mp hy) with rfl|z
   ·exact hL y (.head _)
   ·exact hAb y z) i1 d2 (fun x hx y hy=>by
   rcases List.mem_cons.mp (i2.mem_iff.mp hy) with rfl|z
   ·exact d1 x hx
   ·exact hdA x (.tail _ hx) y z) (by rw[i2.length_eq,List.length_cons];lia)
  refine⟨A',w2,w3,w4',j1,j2.trans ((List.Perm.append_left L i2).trans (List.perm_middle)),?_⟩
  rw[List.map_cons]
  refine(Yr (sd1:=[o0,some (.ow (A.map (Qs bx by'))),Io (Qs bx by' r),v3,v4]) rfl (go (Zy (d:=.int 0) rfl) (go (sd':=[o0,some (.ow (A.map (Qs bx by'))),Io (Qs bx by' r),Jo ((A.countP (fun x=>Wp x.1 r.1):Nat):Int),w4]) ?_ ?_))).trans j3
  ·show(match Tx 4 3 cT (Zp Qe (Zd 3) ↑1) (A.map (Qs bx by')) [o0,some (.ow (A.map (Qs bx by'))),Io (Qs bx by' r),Jo ((0:Nat):Int),v4] with | .ok sd'=>M.ok (O.nx sd')|_=>.bad)=_
   rw[e]
  ·show(if(0:Int)<=((A.countP (fun x=>Wp x.1 r.1):Nat):Int)/\((A.countP (fun x=>Wp x.1 r.1):Nat):Int)<=((A.map (Qs bx by')).length:Int)/\(A.map (Qs bx by')).length<=1000000 then M.ok (O.nx [o0,some (.ow (Uw ((A.countP (fun x=>Wp x.1 r.1):Nat):Int).toNat (Qs bx by' r) (A.map (Qs bx by')))),Io (Qs bx by' r),Jo ((A.countP (fun x=>Wp x.1 r.1):Nat):Int),w4]) else .bad)=_
   rw[if_pos ⟨by lia,by rw[List.length_map];lia,by rw[List.length_map];lia⟩,Int.toNat_natCast,<-Zho]
def Zhp (hx:0<bx)(hx':bx<=1000000)(hy:0<by')(hy':by'<=1000000)(L:List Pi)(hL:∀x∈L,RB bx by' x)(hd:L.Pairwise fun a b=>a.1≠b.1)(hl:L.length<=900):∃A:List Pi,Zip A/\A.Perm L/\Kf [.lst (L.map (Qs bx by'))]=.ok (.ow (A.map (Qs bx by'))):=by
 obtain⟨A,w2,w3,w4,a1,a2,a3⟩:=Zeq hx hx' hy hy' (Io (.lst (L.map (Qs bx by')))) L [] none none none hL (fun _ z=>by cases z) List.Pairwise.nil hd (fun _ _ _ z=>by cases z) (by simp;lia)
 rw[List.append_nil] at a2
 exact⟨A,a1,a2,(Zln _ _ _).trans (Z7 (go (Kg 1 _) (go (f:=Jm _ (X4 2) oB) ((Yq (Px rfl)).trans a3) rfl)))⟩
end
theorem Ai (k:Nat):∀l:List D,par k l.reverse=par k l
 |[]=>rfl
 |d::l=>by
  rw[List.reverse_cons,Rp,Ai k l]
  show par k l*((if Lf (Zij k d)=true then -1 else 1)*1)=(if Lf (Zij k d)=true then -1 else 1)*par k l
  rw[Int.mul_one,Int.mul_comm]
def Za6 (r:Pi):Pi:=((-(par 0 r.2*r.1.1),-(par 1 r.2*r.1.2)),r.2.reverse)
def Aj (r:Pi):Za6 (Za6 r)=r:=by
 have k:∀{e t:Int},(e=1\/e = -1)->-(e * -(e*t))=t:=fun {e t} h=>by rcases h with q|q<;>rw[q]<;>lia
 unfold Za6
 dsimp only
 rw[Ai,Ai,k (Y8 0 r.2),k (Y8 1 r.2),List.reverse_reverse]
def Oj {t B e:Int}(hB:0<B)(he:e=1\/e = -1):Yw (-(e*t)) B=nD ((Y1 t B).1*(-1*e)) (Y1 t B).2:=by
 obtain⟨p,r,ep,r0,mm,g,_⟩:=Qx (t:=t) hB
 rw[Of] at ep
 obtain⟨e1,e2⟩:=Jj ep
 rw[e1,e2]
 have g':Int.gcd (p*(-1*e)) r=1:=by
  rw[<-Int.mul_assoc]
  unfold Int.gcd at g ⊢
  rw[(W9 he).1]
  exact g
 rw[<-Nh r0 g']
 refine Kj hB r0 ?_
 rcases he with q|q<;>rw[q]<;>grind
def Zps:Zf->M O:=(Zx (Z4 3 (Vl Bc (Zc (Zp Jq (Zp Km 2[1]! ↑1) ↑1) Zk)))
   (Hi 1 (Zd 3) (Zp DL.Vt ↑0 (Zf7 1 (Zd 3)))))
theorem Ak (o0 v4:Option S):∀(tn:List D) (h0 h1:Int) (v2 v3:Option S),(∀d∈tn,W8 d/\oneW d)->∃w2 w3:Option S,
  Xd (X4 2) Zps tn [o0,some (.ow [.int h0,.int h1]),v2,v3,v4]=.ok (.nx [o0,some (.ow [.int (h0*par 0 tn),.int (h1*par 1 tn)]),w2,w3,v4])
 |[],h0,h1,v2,v3,_=>⟨v2,v3,by rw[show par 0 []=1 from rfl,show par 1 []=1 from rfl,Int.mul_one,Int.mul_one];rfl⟩
 |d::tn,h0,h1,v2,v3,ht=>by
  obtain⟨⟨a,b,c,e,rfl,_⟩,ow⟩:=ht d (.head _)
  have e0:par 0 (.tup [nD a b,nD c e]::tn)=(if Lf (nD a b)=true then -1 else 1)*par 0 tn:=rfl
  have e1:par 1 (.tup [nD a b,nD c e]::tn)=(if Lf (nD c e)=true then -1 else 1)*par 1 tn:=rfl
  have hw:Lf (nD c e)=decide (e=1):=rfl
  have ho:Lf (nD a b)=!Lf (nD c e):=ow
  have s3:Vl Bc (Zc (Zp Jq (Zp Km 2[1]! ↑1) ↑1) Zk) [o0,some (.ow [.int h0,.int h1]),Io (.tup [nD a b,nD c e]),v3,v4]=.ok (.int (if e=1 then 1 else 0)):=by
   refine K3 (Law.a1 (d:=.bl (e==1)) (Zm (Zq (Zq rfl rfl (Yo _ _ _)) rfl (Yo _ _ _)) rfl (X2 _ _))) ?_
   by_cases q:e=1
   ·subst q;rfl
   ·rw[if_neg q,show(e==1)=false by simp[q]];rfl
  by_cases q:e=1
  ·obtain⟨w2,w3,h⟩:=Ak o0 v4 tn h0 (0-h1) (Io (.tup [nD a b,nD c e])) (Jo 1) fun x hx=>ht x (.tail _ hx)
   rw[if_pos q] at s3
   refine⟨w2,w3,?_⟩
   have w1:Lf (nD c e)=true:=by rw[hw];exact decide_eq_true q
   have f0:par 0 (.tup [nD a b,nD c e]::tn)=par 0 tn:=by rw[e0,ho,w1];exact Int.one_mul _
   have f1:par 1 (.tup [nD a b,nD c e]::tn) = -1*par 1 tn:=by rw[e1,w1];rfl
   rw[f0,f1,show h1*(-1*par 1 tn)=(0-h1)*par 1 tn by grind]
   exact(Yr (sd2:=[o0,some (.ow [.int h0,.int (0-h1)]),Io (.tup [nD a b,nD c e]),Jo 1,v4]) rfl (go (Zy s3) rfl)).trans h
  ·obtain⟨w2,w3,h⟩:=Ak o0 v4 tn (0-h0) h1 (Io (.tup [nD a b,nD c e])) (Jo 0) fun x hx=>ht x (.tail _ hx)
   rw[if_neg q] at s3
   refine⟨w2,w3,?_⟩
   have w1:Lf (nD c e)=false:=by rw[hw];exact decide_eq_false q
   have f0:par 0 (.tup [nD a b,nD c e]::tn) = -1*par 0 tn:=by rw[e0,ho,w1];rfl
   have f1:par 1 (.tup [nD a b,nD c e]::tn)=par 1 tn:=by rw[e1,w1];exact Int.one_mul _
   rw[f0,f1,show h0*(-1*par 0 tn)=(0-h0)*par 0 tn by grind]
   exact(Yr (sd2:=[o0,some (.ow [.int (0-h0),.int h1]),Io (.tup [nD a b,nD c e]),Jo 0,v4]) rfl (go (Zy s3) rfl)).trans h
def Zle {bx by':Int}(hx:0<bx)(hx':bx<=1000000)(hy:0<by')(hy':by'<=1000000){r:Pi}(hr:RB bx by' r)(ht:∀d∈r.2,W8 d/\oneW d):U4 [Qs bx by' r]=.ok (.im (Qs bx by' (Za6 r))):=by
 obtain⟨t,tn⟩:=r
 obtain⟨w2,w3,e⟩:=Ak (Io (Qs bx by' (t,tn))) none tn (-1) (-1) none none ht
 have p0:=Y8 0 tn
 have p1:=Y8 1 tn
 have bd:∀{x b:Int},0<b->b<=1000000->-(14*b)<=x/\x<=14*b->(Y1 x b).1.natAbs<=10 ^ 12:=fun {x b} b0 b1 h=>by
  obtain⟨p,q,ee,_,_,_,a1,_⟩:=Qx (t:=x) b0
  rw[Of] at ee
  rw[(Jj ee).1]
  have e12:(10:Nat) ^ 12=1000000000000:=rfl
  rw[e12]
  lia
 have s0:=Q8 (bd hx hx' hr.x) (by decide)
 have s1:=Q8 (bd hy hy' hr.y) (by decide)
 have smp:∀{e:Int},(e=1\/e = -1)->sm (-1*e)=true:=fun {e} h=>by rcases h with q|q<;>rw[q]<;>exact W6 (by decide) (by decide)
 have er:Qs bx by' (Za6 (t,tn))=.tup [nD ((Y1 t.1 bx).1*(-1*par 0 tn)) (Y1 t.1 bx).2,nD ((Y1 t.2 by').1*(-1*par 1 tn)) (Y1 t.2 by').2,.lst tn.reverse]:=by
  show D.tup [Yw (-(par 0 tn*t.1)) bx,Yw (-(par 1 tn*t.2)) by',.lst tn.reverse]=_
  rw[Oj hx p0,Oj hy p1]
 rw[er]
 have em:Jz (X4 0) (Qv (Zc (Zp Zt (Zp Km (Zp Km (Zd 2) (Zd 0)) ↑0) (Zp Km (Zd 1) (Zd 0))) (Zc (Zp Km (Zp Km (Zd 2) (Zd 0)) ↑1) Zk))) (Uh 1 [1,0] [Io (Qs bx by' (t,tn)),Io (.lst [.int (-1*par 0 tn),.int (-1*par 1 tn)]),w2,w3,none]) [.int 0,.int 1]=.ok [nD ((Y1 t.1 bx).1*(-1*par 0 tn)) (Y1 t.1 bx).2,nD ((Y1 t.2 by').1*(-1*par 1 tn)) (Y1 t.2 by').2]:=
  Zph rfl (W7 (Zm (Zq (Zq rfl rfl (Yk _ _)) rfl (Yk _ _)) (Vs rfl rfl (Yk _ _)) (gT s0 (smp p0))) (Zq (Zq rfl rfl (Yk _ _)) rfl (Yo _ _ _))) rfl (W7 (Zm (Zq (Zq rfl rfl (Yo _ _ _)) rfl (Yk _ _)) (Vs rfl rfl (Yo _ _ _)) (gT s1 (smp p1))) (Zq (Zq rfl rfl (Yo _ _ _)) rfl (Yo _ _ _)))
 have rg:∀sd:Zf,Xb (Zc ↑2 Zk) sd=.ok [.int 0,.int 1]:=fun sd=>Zkv (n:=2) (Law.a1 rfl) (by decide)
 have own:Nz 1 (Tu (Zc (Eo P6 ↑1) (Zc (Eo P6 ↑1) Zk))) [Io (Qs bx by' (t,tn)),none,none,none,none]=.ok (.nx [Io (Qs bx by' (t,tn)),some (.ow [.int (-1),.int (-1)]),none,none,none]):=rfl
 have rv:Hz 0[2]! [Io (Qs bx by' (t,tn)),Io (.lst [.int (-1*par 0 tn),.int (-1*par 1 tn)]),w2,w3,Io (.lst [nD ((Y1 t.1 bx).1*(-1*par 0 tn)) (Y1 t.1 bx).2,nD ((Y1 t.2 by').1*(-1*par 1 tn)) (Y1 t.2 by').2])]=.ok (.lst tn.reverse):=by
  have:Zp Km (Zd 0) ↑2 [Io (Qs bx by' (t,tn)),Io (.lst [.int (-1*par 0 tn),.int (-1*par 1 tn)]),w2,w3,Io (.lst [nD ((Y1 t.1 bx).1*(-1*par 0 tn)) (Y1 t.1 bx).2,nD ((Y1 t.2 by').1*(-1*par 1 tn)) (Y1 t.2 by').2])]=.ok (.lst tn):=Zq rfl rfl (Zdr _ _ _ _)
  unfold Hz
  rw[this]
  rfl
 exact(Zln _ _ _).trans (Z7 (go own (go (f:=Jm _ (X4 2) Zps) ((Yq (Px (Zq rfl rfl (Zdr _ _ _ _)))).trans e) (Rl (go (Zy (Fi (Rk (rg _) (by simp) em))) (Z1 (Ld (Vs rfl rfl (Yk _ _)) (Vs rfl rfl (Yo _ _ _)) rv)))))))
section
variable {W H:Nat}{ss:List Sd}{ps:List Po4}{p o:Po4}{m:Nat}{q:Nj}{xs ys xs' ys':List Int}{rows rows':List Pi}
def mem_prs {xs ys:List Int}{t:Int×Int}:t∈(xs.flatMap fun x=>ys.map fun y=>(x,y)).filter nz↔t.1∈xs/\t.2∈ys/\nz t=true:=by
 rw[List.mem_filter,List.mem_flatMap]
 constructor
 ·rintro⟨⟨x,hx,h⟩,hz⟩
  obtain⟨y,hy,rfl⟩:=List.mem_map.mp h
  exact⟨hx,hy,hz⟩
 ·rintro⟨hx,hy,hz⟩
  exact⟨⟨t.1,hx,List.mem_map.mpr ⟨t.2,hy,rfl⟩⟩,hz⟩
def Zhq {xs ys:List Int}(hx:xs.Pairwise (· < ·))(hy:ys.Pairwise (· < ·)):((xs.flatMap fun x=>ys.map fun y=>(x,y)).filter nz).Pairwise fun a b=>Wp a b=true:=by
 refine List.Pairwise.filter _ ?_
 induction xs with
 |nil=>exact List.Pairwise.nil
 |cons x xs ih=>
  obtain⟨h1,h2⟩:=List.pairwise_cons.mp hx
  rw[List.flatMap_cons]
  refine List.pairwise_append.mpr ⟨List.pairwise_map.mpr (List.Pairwise.imp (S:=fun a b=>Wp (x,a) (x,b)=true) (fun h=>ltT_iff.mpr (.inr ⟨rfl,h⟩)) hy),ih h2,fun a ha b hb=>?_⟩
  obtain⟨y,_,rfl⟩:=List.mem_map.mp ha
  obtain⟨x2,hx2,hb⟩:=List.mem_flatMap.mp hb
  obtain⟨y2,_,rfl⟩:=List.mem_map.mp hb
  exact ltT_iff.mpr (.inl (h1 x2 hx2))
def Ways.srt (w:Ways W H ss q m p o xs ys rows):Zip rows:=List.pairwise_map.mp ((Zhq w.tx.lt w.ty.lt).sublist w.sub)
theorem Ways.few (w:Ways W H ss q m p o xs ys rows)(hx:(m+1)*W<=14)(hy:(m+1)*H<=14):rows.length<=900:=by
 have h:=w.sub.length_le
 have l1:=w.tx.few
 have l2:=w.ty.few
 have lm:xs.length*ys.length<=30*30:=Nat.mul_le_mul (by lia) (by lia)
 have:((xs.flatMap fun x=>ys.map fun y=>(x,y)).filter nz).length<=900:=by
  refine Nat.le_trans (List.length_filter_le _ _) ?_
  rw[List.length_flatMap]
  simp only[List.length_map,List.map_const',List.sum_replicate_nat]
  exact lm
 rw[List.length_map] at h
 lia
def Ways.rb (w:Ways W H ss q m p o xs ys rows)(bx:0<p.b*o.b)(by':0<p.d*o.d)(hx:(m+1)*W<=14)(hy:(m+1)*H<=14){r:Pi}(hr:r∈rows):RB (p.b*o.b) (p.d*o.d) r:=by
 obtain⟨h1,_⟩:=(w.mem r.1 r.2).mp hr
 obtain⟨a,b,_⟩:=mem_prs.mp h1
 exact⟨Rq w.tx bx hx a,Rq w.ty by' hy b⟩
def Ol (hW:W<=8)(hH:H<=8)(hl:ss.length<=400)(hp:∀p∈ps,PtOk W H p)(e2:∀x y:Int,look q [.inl x,.inl y]=look [] [.inl x,.inl y]++(ps.filter (Le x y)).map Po4.D)(ho:PtOk W H p)(oo:PtOk W H o)(hm:m<=900)(hx:(m+1)*W<=14)(hy:(m+1)*H<=14)(w:Ways W H ss q m p o xs ys rows)(w':Ways W H ss q m o p xs' ys' rows'){r:Pi}(hr:r∈rows):Za6 r∈rows'/\∀d∈r.2,W8 d/\oneW d:=by
 obtain⟨a1,a2,_⟩:=Je ho.x hW
 obtain⟨a3,a4,_⟩:=Je oo.x hW
 obtain⟨a5,a6,_⟩:=Je ho.y hH
 obtain⟨a7,a8,_⟩:=Je oo.y hH
 have B0:=Int.mul_pos a1 a3
 have B1:p.b*o.b<=1000*1000:=Int.mul_le_mul a2 a4 (by lia) (by decide)
 have C0:=Int.mul_pos a5 a7
 have C1:p.d*o.d<=1000*1000:=Int.mul_le_mul a6 a8 (by lia) (by decide)
 obtain⟨⟨tx,ty⟩,tn⟩:=r
 have rb:=w.rb B0 C0 hx hy hr
 obtain⟨h1,h2⟩:=(w.mem (tx,ty) tn).mp hr
 obtain⟨mx,my,hz⟩:=mem_prs.mp h1
 have sok:=(Zek B0 (by lia) C0 (by lia) rb.x rb.y hz).1
 obtain⟨k1,k2,k3,k4,k5⟩:=Zns hW hH hl hp e2 ho oo sok hm h2
 obtain⟨t1,t2⟩:=Dz a1 a3 w.tx w'.tx (Y8 0 tn) sok.x.pos rfl mx k4
 obtain⟨t3,t4⟩:=Dz a5 a7 w.ty w'.ty (Y8 1 tn) sok.y.pos rfl my k5
 refine⟨(w'.mem _ _).mpr ⟨mem_prs.mpr ⟨t1,t3,?_⟩,?_⟩,k2⟩
 ·unfold nz at hz ⊢
  have kk:∀{e t:Int},(e=1\/e = -1)->((-(e*t)==0)=(t==0)):=fun {e t} he=>by
   rw[Bool.eq_iff_iff,beq_iff_eq,beq_iff_eq]
   rcases he with z|z<;>rw[z]<;>lia
  show(!((-(par 0 tn*tx)==0)&&(-(par 1 tn*ty)==0)))=true
  rw[kk (Y8 0 tn),kk (Y8 1 tn)]
  exact hz
 ·have es:(Rb (o.b*p.b) (o.d*p.d) (-(par 0 tn*tx),-(par 1 tn*ty))).D=(Am (Rb (p.b*o.b) (p.d*o.d) (tx,ty)) tn).D:=by
   rw[Znl]
   show D.tup [Yw (-(par 0 tn*tx)) (o.b*p.b),Yw (-(par 1 tn*ty)) (o.d*p.d)]=_
   rw[t2,t4]
   rfl
  show wD (Yf W H ss) q o.D (Rb (o.b*p.b) (o.d*p.d) (-(par 0 tn*tx),-(par 1 tn*ty))).D (.int m)=_
  rw[es]
  exact k1
end
def Zlf (c:Int):∃W H m:Nat,1<=W/\W<=3/\1<=H/\H<=3/\m<=3/\(m+1)*W<=14/\(m+1)*H<=14/\U3 [.int c]=.ok (.im (.tup [.int (W:Int),.int (H:Int),.int (m:Int)])):=by
 have k0:=Int.emod_nonneg c (show(10:Int)≠0 by decide)
 have k1:=Int.emod_lt_of_pos c (show(0:Int)<10 by decide)
 have run:∀d,Km (.lst [.tup [.int 1,.int 1,.int 2],.tup [.int 2,.int 1,.int 1],.tup [.int 1,.int 2,.int 1],.tup [.int 2,.int 2,.int 1],.tup [.int 1,.int 1,.int 3],.tup [.int 2,.int 1,.int 2],.tup [.int 3,.int 1,.int 1],.tup [.int 3,.int 2,.int 0],.tup [.int 3,.int 3,.int 0],.tup [.int 1,.int 3,.int 1]]) (.int (c%10))=.ok d->U3 [.int c]=.ok (.im d):=fun d h=>
  (Zln _ _ _).trans (Z7 (go (Zy rfl) (go (Zy (Zm rfl rfl rfl)) (Z1 (Zm rfl (Zm rfl rfl (gM (by decide))) h)))))
 generalize c%10=k at *
 have:k=0\/k=1\/k=2\/k=3\/k=4\/k=5\/k=6\/k=7\/k=8\/k=9:=by lia
 rcases this with rfl|rfl|rfl|rfl|rfl|rfl|rfl|rfl|rfl|rfl
 ·exact⟨1,1,2,by decide,by decide,by decide,by decide,by decide,by decide,by decide,run _ rfl⟩
 ·exact⟨2,1,1,by decide,by decide,by decide,by decide,by decide,by decide,by decide,run _ rfl⟩
 ·exact⟨1,2,1,by decide,by decide,by decide,by decide,by decide,by decide,by decide,run _ rfl⟩
 ·exact⟨2,2,1,by decide,by decide,by decide,by decide,by decide,by decide,by decide,run _ rfl⟩
 ·exact⟨1,1,3,by decide,by decide,by decide,by decide,by decide,by decide,by decide,run _ rfl⟩
 ·exact⟨2,1,2,by decide,by decide,by decide,by decide,by decide,by decide,by decide,run _ rfl⟩
 ·exact⟨3,1,1,by decide,by decide,by decide,by decide,by decide,by decide,by decide,run _ rfl⟩
 ·exact⟨3,2,0,by decide,by decide,by decide,by decide,by decide,by decide,by decide,run _ rfl⟩
 ·exact⟨3,3,0,by decide,by decide,by decide,by decide,by decide,by decide,by decide,run _ rfl⟩
 ·exact⟨1,3,1,by decide,by decide,by decide,by decide,by decide,by decide,by decide,run _ rfl⟩
def Zpi {f:Zf->M D}{i j k:Nat}{sd:Zf}{a b c:D}(h:f sd=.ok (.tup [a,b,c])):Eh f (Pm 3 (Yz (X4 i) (Yz (X4 j) (Yz (X4 k) R3)))) sd=.ok (.nx (((sd.set i (Io a)).set j (Io b)).set k (Io c))):=by
 unfold Eh
 rw[h]
 rfl
theorem Py {α:Type}{R:α->α->Prop}{P:α->Prop}:∀{l:List α},l.Pairwise R->(∀a∈l,P a)->l.Pairwise fun a b=>R a b/\P a/\P b
 |[],_,_=>List.Pairwise.nil
 |a::l,h,hp=>by
  obtain⟨h1,h2⟩:=List.pairwise_cons.mp h
  exact List.pairwise_cons.mpr ⟨fun b hb=>⟨h1 b hb,hp a (.head _),hp b (.tail _ hb)⟩,Py h2 fun c hc=>hp c (.tail _ hc)⟩
def law_true (ns:List Int)(hns:ns.length<=63):Mj [.lst (ns.map D.int)]=.ok (.im (.bl true)):=by
 obtain⟨W,H,m,w0,w1,h0,h1,m3,hx,hy,es⟩:=Zlf (cz ns 0)
 obtain⟨ss,lss,eh⟩:=Zlc (cz ns 1) w1 h1
 obtain⟨n,en,hn⟩:=Ag (cz ns 3) (m:=4) (by decide)
 obtain⟨ps,hp,nd,lp,lp1,ep⟩:=Zd0 (cz ns 2) (n:=1+n) (by lia) (by lia) w0 (by lia:W<=8) h0 (by lia:H<=8)
 obtain⟨i,ei,hi⟩:=Ag (cz ns 4) (m:=ps.length) lp1
 obtain⟨j,ej,hj⟩:=Ag (cz ns 4/8) (m:=ps.length) lp1
 have gi:ps[i]?=some ps[i]:=List.getElem?_eq_getElem hi
 have gj:ps[j]?=some ps[j]:=List.getElem?_eq_getElem hj
 generalize ps[i]=p at gi
 generalize ps[j]=o at gj
 have op:=hp p (List.mem_of_getElem? gi)
 have oo:=hp o (List.mem_of_getElem? gj)
 obtain⟨q,hq,e2⟩:=Zni ps [] fun r hr=>(hp r hr).ok
 obtain⟨xs,ys,rows,wA,fA⟩:=Fs (ss:=ss) (m:=m) (by lia:W<=8) (by lia:H<=8) lss hp hq e2 (by lia) gi gj (by lia) hx hy
 obtain⟨xs',ys',rows',wB,fB⟩:=Fs (ss:=ss) (m:=m) (by lia:W<=8) (by lia:H<=8) lss hp hq e2 (by lia) gj gi (by lia) hx hy
 obtain⟨a1,a2,_⟩:=Je op.x (by lia)
 obtain⟨a3,a4,_⟩:=Je oo.x (by lia)
 obtain⟨a5,a6,_⟩:=Je op.y (by lia)
 obtain⟨a7,a8,_⟩:=Je oo.y (by lia)
 have B0:=Int.mul_pos a1 a3
 have B1:p.b*o.b<=1000*1000:=Int.mul_le_mul a2 a4 (by lia) (by decide)
 have C0:=Int.mul_pos a5 a7
 have C1:p.d*o.d<=1000*1000:=Int.mul_le_mul a6 a8 (by lia) (by decide)
 have ab:=fun(r:Pi) (hr:r∈rows)=>Ol (by lia:W<=8) (by lia:H<=8) lss hp e2 op oo (by lia) hx hy wA wB hr
 have ba:=fun(r:Pi) (hr:r∈rows')=>Ol (by lia:W<=8) (by lia:H<=8) lss hp e2 oo op (by lia) hx hy wB wA hr
 rw[Int.mul_comm o.b p.b,Int.mul_comm o.d p.d] at fB
 have rbA:=fun(r:Pi) (hr:r∈rows)=>wA.rb B0 C0 hx hy hr
 have rbB:∀r∈rows',RB (p.b*o.b) (p.d*o.d) r:=fun r hr=>by
  have:=wB.rb (by rw[Int.mul_comm];exact B0) (by rw[Int.mul_comm];exact C0) hx hy hr
  rwa[Int.mul_comm o.b p.b,Int.mul_comm o.d p.d] at this
 have lA:=wA.few hx hy
 have sB:=wB.srt
 have em:Jz (X4 0) (Z5 U4 (Zc (Zd 0) Zk)) (Uh 1 [] ([]:Zf)) (rows.map (Qs (p.b*o.b) (p.d*o.d)))=.ok ((rows.map Za6).map (Qs (p.b*o.b) (p.d*o.d))):=by
  rw[List.map_map]
  exact Zgz (Qs (p.b*o.b) (p.d*o.d)) (Qs (p.b*o.b) (p.d*o.d)∘Za6) rows fun r hr=>⟨_,rfl,Z3 (Law.a1 rfl) (Zle B0 (by lia) C0 (by lia) (rbA r hr) (ab r hr).2) rfl⟩
 have key:∀r r':Pi,r∈rows'->r'∈rows'->r.1=r'.1->r=r':=fun r r' h h' e=>by
  obtain⟨_,k1⟩:=(wB.mem r.1 r.2).mp h
  obtain⟨_,k2⟩:=(wB.mem r'.1 r'.2).mp h'
  rw[<-e,k1] at k2
  injection k2 with k2
  injection k2 with k2
  injection k2 with _ k2
  injection k2 with _ k2
  injection k2 with k2 _
  injection k2 with k2
  exact Prod.ext e k2
 have dA:(rows.map Za6).Pairwise fun a b=>a.1≠b.1:=by
  refine List.pairwise_map.mpr ((Py wA.srt (P:=fun r=>r∈rows) fun _ h=>h).imp fun {r r'} h z=>?_)
  obtain⟨hlt,hr,hr'⟩:=h
  have e:=key _ _ (ab r hr).1 (ab r' hr').1 z
  have e':=congrArg Za6 e
  rw[Aj,Aj] at e'
  rw[e',ltT_iff] at hlt
  lia
 obtain⟨A,sA,pA,fo⟩:=Zhp B0 (by lia) C0 (by lia) (rows.map Za6) (fun r hr=>by
  obtain⟨r0,h0,rfl⟩:=List.mem_map.mp hr
  exact rbB _ (ab r0 h0).1) dA (by rw[List.length_map];exact lA)
 have eAB:A=rows':=Zeo sA sB fun r=>by
  rw[pA.mem_iff,List.mem_map]
  constructor
  ·rintro⟨r0,h0,rfl⟩
   exact(ab r0 h0).1
  ·intro hr
   exact⟨Za6 r,(ba r hr).1,Aj r⟩
 subst eAB
 have dd:D.dep (.lst (A.map (Qs (p.b*o.b) (p.d*o.d))))<=60:=by
  have:D.deps (A.map (Qs (p.b*o.b) (p.d*o.d)))<=20:=Wl fun d hd=>by
   obtain⟨r,hr,rfl⟩:=List.mem_map.mp hd
   have k:D.deps r.2<=10:=Wl fun x hx=>Ds ((ba r hr).2 x hx).1
   unfold Qs
   simp only[Yw,nD,D.dep,D.deps]
   lia
  simp only[D.dep]
  lia
 have f0:=S9 ns 0 hns
 have f1:=S9 ns 1 hns
 have f2:=S9 ns 2 hns
 have f3:=S9 ns 3 hns
 have f4:=S9 ns 4 hns
 have cn:((1+n:Nat):Int)=1+(n:Int):=by lia
 rw[cn] at ep
 generalize hN:ns.map D.int=N at *
 have cl:∀(k:Nat) (r:List (Option S)),Y4 [.lst N,.int (k:Int)]=.ok (.im (.int (cz ns k)))->Z5 Y4 (Zc (Zd 0) (Zc (eC (.int (k:Int))) Zk)) (Io (.lst N)::r)=.ok (.int (cz ns k)):=fun k r h=>Z3 (aC rfl (Law.a1 rfl)) h rfl
 have pn:∀r:List (Option S),Zp Qe ↑1 (Zp Yd (Z5 Y4 (Zc (Zd 0) (Zc ↑3 Zk))) ↑4) (Io (.lst N)::r)=.ok (.int (1+(n:Int))):=fun r=>Zm rfl (Zm (cl 3 r f3) rfl (gM (by decide))) (by rw[show cz ns 3%4=(n:Int) from en];rfl)
 have ln:∀(o1 o2 o3 o4:Option S) (r:List (Option S)),Vl Tr (Zc (Zd 5) Zk) (Io (.lst N)::o1::o2::o3::o4::Io (.lst (ps.map Po4.D))::r)=.ok (.int (ps.length:Int)):=fun o1 o2 o3 o4 r=>K3 (Law.a1 rfl) (by rw[Fj,List.length_map])
 refine(Zln _ _ _).trans (Z7 (go (Zpi (Z3 (Law.a1 (cl 0 _ f0)) es rfl)) (go (Zy (Z3 (aC (cl 1 _ f1) (aC rfl (Law.a1 rfl))) eh rfl)) (go (Zy (Z3 (aC (cl 2 _ f2) (aC (pn _) (aC rfl (Law.a1 rfl)))) ep rfl))
  (go (Zy (d:=.int (i:Int)) (Zm (cl 4 _ f4) (ln _ _ _ _ _) (by rw[gM (by lia),ei]))) (go (Zy (d:=.int (j:Int)) (Zm (Zm (cl 4 _ f4) rfl (Ie (by decide) (W6 (by decide) (by decide)))) (ln _ _ _ _ _) (by rw[gM (by lia),ej])))
  (go (Zy (Z3 (aC rfl (aC rfl (aC rfl (aC rfl (Law.a1 rfl))))) fA rfl)) (go (Zy (Z3 (aC rfl (aC rfl (aC rfl (aC rfl (Law.a1 rfl))))) fB rfl)) (go (Z6 (Zia (Zdp rfl) (Zdp rfl)))
  (Z1 (Zm (x:=.lst (A.map (Qs (p.b*o.b) (p.d*o.d)))) (y:=.lst (A.map (Qs (p.b*o.b) (p.d*o.d)))) (Z3 (Law.a1 (Fi (Rk (Px rfl) (by rw[List.length_map];lia) em))) fo rfl) rfl ?_)))))))))))
 rw[Jx dd,D.eq_refl]
end Law
namespace PySem.W.Fast
def tw14325406413931535738:=0
def tw31205354165020724:=0
def tw3933368485766988127:=0
def tw4665644212250014856:=0
def tw1793339441433653967:=0
def tw17265683907925703565:=0
def tw4686415270694071147:=0
def tw4714366195376829230:=0
def tw8033268883663570588:=0
def tw4735421374954105212:=0
def tw8403422859757329507:=0
def tw525280486643834737:=0
def tw8589731435634161876:=0
def tw10257570248462669369:=0
end PySem.W.Fast
open PySem PySem.W PyProof.Rows
-- LAST
set_option maxRecDepth 100000 in
set_option maxHeartbeats 0 in
theorem PySem.Challenge.cw_selfsight_k25_whole_the_same_way_back_holds : PySem.Challenge.rw_selfsight_k25_whole_the_same_way_back.Holds := by
  w_on; o_law; k_head; (case hw => w_witness2)
  k_fill
  refine Law.walk (l := PySem.Challenge.rw_selfsight_k25_whole_the_same_way_back) rfl rfl Law.law_true (fun w h Y => PySem.W.kIn_of Y) ?F
  case F =>
    intro w mg fa h KX G hmg
    refine' Law.all_mk KX G hmg ?t0 ?t1 ?t2 ?t3 ?t4 ?t5 ?t6 ?t7 ?t8 ?t9 ?t10 ?t11 ?t12 ?t13 ?t14 ?t15 ?t16 ?t17 ?t18 ?t19 ?t20 ?t21 ?t22 ?t23 ?t24 ?t25 ?t26 ?t27 ?t28 ?t29 ?t30 ?t31 ?t32 ?t33 ?t34 ?t35 ?t36 ?t37 ?t38 ?t39 ?t40 ?t41 ?t42 ?t43 ?t44 ?t45 ?t46 ?t47 ?t48 ?t49 ?t50 ?t51 ?t52 ?t53 ?t54 ?t55 ?t56 ?t57 ?t58 ?t59 ?t60 ?t61 ?t62 ?t63 ?t64 ?t65 ?t66 ?t67 ?t68 ?t69 ?t70 ?t71 ?t72 ?t73 ?t74 ?t75 ?t76 ?t77 ?t78 ?t79
    case t0 | t1 | t2 | t3 | t4 | t5 | t6 | t7 | t8 | t9 | t10 | t11 | t12 | t13 | t14 | t15 | t16 | t17 | t18 | t19 | t20 | t21 | t22 | t23 | t24 | t25 | t26 | t27 | t28 | t29 | t30 | t31 | t32 | t33 => refine' DL.dm_mk KX G ?a ?l ?c ?k; (case a | l | c | k => k_is)
    case t34 | t35 => k_is
    case t36 | t37 | t38 | t39 | t40 | t41 | t42 | t43 | t44 => refine' DL.mm_mk ?a ?n ?l ?c ?k; (case a | n | l | c | k => k_is)
    case t45 | t46 | t47 | t48 | t49 | t50 | t51 | t52 | t53 | t54 | t55 | t56 | t57 | t58 | t59 | t60 | t61 | t62 | t63 | t64 | t65 | t66 | t67 | t68 | t69 | t70 | t71 | t72 | t73 | t74 | t75 | t76 | t77 | t78 => k_is
    case t79 => kernel_rfl

